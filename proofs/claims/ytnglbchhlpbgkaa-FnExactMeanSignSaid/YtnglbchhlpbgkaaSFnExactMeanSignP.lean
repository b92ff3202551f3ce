/- Runs of the program at a seat. -/
import Derived.Test.YtnglbchhlpbgkaaSEngZp
import Derived.Test.YtnglbchhlpbgkaaProg
import Derived.Test.YtnglbchhlpbgkaaVaZp
namespace Go.Proofs.Ytnglbchhlpbgkaa.fnExactMeanSignRuns
open Go Go.Eng
set_option linter.unusedVariables false
set_option linter.unusedSectionVars false
set_option linter.unusedSimpArgs false
set_option maxRecDepth 100000
noncomputable def gB {α : Type} (l : List α) (f : α → Bool) : Bool := List.rec (motive := fun _ => Bool) true (fun x _ ih => sel (f x) ih false) l
theorem gB_mem {α : Type} {f : α → Bool} : ∀ {l : List α}, gB l f = true → ∀ x ∈ l, f x = true
  | [], _ => fun x hx => by cases hx
  | a :: l, h => fun x hx => by
    have e : gB (a :: l) f = sel (f a) (gB l f) false := rfl
    rw [e] at h
    obtain ⟨h1, h2⟩ := sel_andN h
    rcases List.mem_cons.1 hx with rfl | hx
    · exact h1
    · exact gB_mem h2 x hx
theorem cm {α : Type} {p : α → Prop} {a : α} {l : List α} (h : p a) (t : ∀ x ∈ l, p x) : ∀ x ∈ a :: l, p x := List.forall_mem_cons.2 ⟨h, t⟩
theorem nm {α : Type} {p : α → Prop} : ∀ x ∈ ([] : List α), p x := List.forall_mem_nil _
/-- a power; a product by its code; a sum by its codes -/
noncomputable def pw (i e : Nat) (r : PX) : PX := Nat.rec (motive := fun _ => PX) r (fun _ ih => .mul (.v i) ih) e
noncomputable def mono (k : Nat) : PX := pw 0 (Nat.mod k 12) (pw 1 (Nat.mod (Nat.div k 12) 12) (pw 2 (Nat.mod (Nat.div k 144) 12) (pw 3 (Nat.mod (Nat.div k 1728) 12) (pw 4 (Nat.mod (Nat.div k 20736) 12) (.c 1)))))
noncomputable def ofC (l : List Nat) : PX := List.rec (motive := fun _ => PX) (.c 0) (fun k _ ih => .add (mono k) ih) l
noncomputable def df (a b : List Nat) (ta tb : Nat) : PX := .add (.mul (.c tb) (ofC a)) (.neg (.mul (.c ta) (ofC b)))
noncomputable def tr (e : PX) : FT := .tri e 9223372036854775808 9223372036854775808 .leaf .leaf .leaf
noncomputable def run (a b : Cls) (c : PCls) : List FE → Bool := llpRunF Try.prog Go.Proofs.Ytnglbchhlpbgkaa.va.sumsp (⟨14, 16, 31, 37, 40⟩ : Fns) 43 45 1000 60 4 a b c
theorem lf {a b : Cls} {l : List PCls} (h : gB l (fun c => run a b c []) = true) : ∀ c ∈ l, FtOk (run a b c) := fun c hc => ⟨.leaf, gB_mem h c hc⟩
theorem ap {l m : List PCls} {p : PCls → Prop} (h : ∀ c ∈ l, p c) (k : ∀ c ∈ m, p c) : ∀ c ∈ l ++ m, p c := fun c hc => (List.mem_append.1 hc).elim (h c) (k c)
theorem eq_classes : classes = [.nil, .zero, .no, .long, .row [], .row [1], .row [1, 1], .row [1, 1, 1], .row [1, 1, 1, 1], .row [1, 1, 1, 1, 1], .row [1, 1, 1, 1, 1, 1], .row [2], .row [2, 1], .row [2, 1, 1], .row [2, 1, 1, 1], .row [2, 1, 1, 1, 1], .row [2, 2], .row [2, 2, 1], .row [2, 2, 1, 1], .row [2, 2, 2], .row [3], .row [3, 1], .row [3, 1, 1], .row [3, 1, 1, 1], .row [3, 2], .row [3, 2, 1], .row [3, 3], .row [4], .row [4, 1], .row [4, 1, 1], .row [4, 2], .row [5], .row [5, 1], .row [6]] := by unfold classes; rw [shares_eq]; rfl
theorem eq_pclasses : pclasses = [.nil, .zero, .no, .long, .pt 0, .pt 1, .pt 2, .pt 3, .pt 4, .pt 5] := by rfl
noncomputable def c0_1 : List Nat := [0]
noncomputable def c0_2 : List Nat := [0]
noncomputable def c0_3 : List Nat := [0]
noncomputable def c0_4 : List Nat := [0]
noncomputable def c0_5 : List Nat := [0]
noncomputable def c1_1 : List Nat := [1]
noncomputable def c1_2 : List Nat := [1, 12]
noncomputable def c1_3 : List Nat := [1, 12, 144]
noncomputable def c1_4 : List Nat := [1, 12, 144, 1728]
noncomputable def c1_5 : List Nat := [1, 12, 144, 1728, 20736]
noncomputable def c2_2 : List Nat := [13]
noncomputable def c2_3 : List Nat := [13, 145, 156]
noncomputable def c2_4 : List Nat := [13, 145, 156, 1729, 1740, 1872]
noncomputable def c2_5 : List Nat := [13, 145, 156, 1729, 1740, 1872, 20737, 20748, 20880, 22464]
noncomputable def c3_3 : List Nat := [157]
noncomputable def c3_4 : List Nat := [157, 1741, 1873, 1884]
noncomputable def c3_5 : List Nat := [157, 1741, 1873, 1884, 20749, 20881, 20892, 22465, 22476, 22608]
noncomputable def c4_4 : List Nat := [1885]
noncomputable def c4_5 : List Nat := [1885, 20893, 22477, 22609, 22620]
noncomputable def c5_5 : List Nat := [22621]
noncomputable def c7_1 : List Nat := [2]
noncomputable def c7_2 : List Nat := [2, 24]
noncomputable def c7_3 : List Nat := [2, 24, 288]
noncomputable def c7_4 : List Nat := [2, 24, 288, 3456]
noncomputable def c7_5 : List Nat := [2, 24, 288, 3456, 41472]
noncomputable def c8_2 : List Nat := [14, 25]
noncomputable def c8_3 : List Nat := [14, 25, 146, 168, 289, 300]
noncomputable def c8_4 : List Nat := [14, 25, 146, 168, 289, 300, 1730, 1752, 2016, 3457, 3468, 3600]
noncomputable def c8_5 : List Nat := [14, 25, 146, 168, 289, 300, 1730, 1752, 2016, 3457, 3468, 3600, 20738, 20760, 21024, 24192, 41473, 41484, 41616, 43200]
noncomputable def c9_3 : List Nat := [158, 169, 301]
noncomputable def c9_4 : List Nat := [158, 169, 301, 1742, 1753, 1874, 1896, 2017, 2028, 3469, 3601, 3612]
noncomputable def c9_5 : List Nat := [158, 169, 301, 1742, 1753, 1874, 1896, 2017, 2028, 3469, 3601, 3612, 20750, 20761, 20882, 20904, 21025, 21036, 22466, 22488, 22752, 24193, 24204, 24336, 41485, 41617, 41628, 43201, 43212, 43344]
noncomputable def c10_4 : List Nat := [1886, 1897, 2029, 3613]
noncomputable def c10_5 : List Nat := [1886, 1897, 2029, 3613, 20894, 20905, 21037, 22478, 22489, 22610, 22632, 22753, 22764, 24205, 24337, 24348, 41629, 43213, 43345, 43356]
noncomputable def c11_5 : List Nat := [22622, 22633, 22765, 24349, 43357]
noncomputable def c12_2 : List Nat := [26]
noncomputable def c12_3 : List Nat := [26, 290, 312]
noncomputable def c12_4 : List Nat := [26, 290, 312, 3458, 3480, 3744]
noncomputable def c12_5 : List Nat := [26, 290, 312, 3458, 3480, 3744, 41474, 41496, 41760, 44928]
noncomputable def c13_3 : List Nat := [170, 302, 313]
noncomputable def c13_4 : List Nat := [170, 302, 313, 1754, 2018, 2040, 3470, 3481, 3602, 3624, 3745, 3756]
noncomputable def c13_5 : List Nat := [170, 302, 313, 1754, 2018, 2040, 3470, 3481, 3602, 3624, 3745, 3756, 20762, 21026, 21048, 24194, 24216, 24480, 41486, 41497, 41618, 41640, 41761, 41772, 43202, 43224, 43488, 44929, 44940, 45072]
noncomputable def c14_4 : List Nat := [1898, 2030, 2041, 3614, 3625, 3757]
noncomputable def c14_5 : List Nat := [1898, 2030, 2041, 3614, 3625, 3757, 20906, 21038, 21049, 22490, 22754, 22776, 24206, 24217, 24338, 24360, 24481, 24492, 41630, 41641, 41773, 43214, 43225, 43346, 43368, 43489, 43500, 44941, 45073, 45084]
noncomputable def c15_3 : List Nat := [314]
noncomputable def c15_4 : List Nat := [314, 3482, 3746, 3768]
noncomputable def c15_5 : List Nat := [314, 3482, 3746, 3768, 41498, 41762, 41784, 44930, 44952, 45216]
noncomputable def c16_1 : List Nat := [3]
noncomputable def c16_2 : List Nat := [3, 36]
noncomputable def c16_3 : List Nat := [3, 36, 432]
noncomputable def c16_4 : List Nat := [3, 36, 432, 5184]
noncomputable def c16_5 : List Nat := [3, 36, 432, 5184, 62208]
noncomputable def c17_2 : List Nat := [15, 37]
noncomputable def c17_3 : List Nat := [15, 37, 147, 180, 433, 444]
noncomputable def c17_4 : List Nat := [15, 37, 147, 180, 433, 444, 1731, 1764, 2160, 5185, 5196, 5328]
noncomputable def c17_5 : List Nat := [15, 37, 147, 180, 433, 444, 1731, 1764, 2160, 5185, 5196, 5328, 20739, 20772, 21168, 25920, 62209, 62220, 62352, 63936]
noncomputable def c18_3 : List Nat := [159, 181, 445]
noncomputable def c18_4 : List Nat := [159, 181, 445, 1743, 1765, 1875, 1908, 2161, 2172, 5197, 5329, 5340]
noncomputable def c18_5 : List Nat := [159, 181, 445, 1743, 1765, 1875, 1908, 2161, 2172, 5197, 5329, 5340, 20751, 20773, 20883, 20916, 21169, 21180, 22467, 22500, 22896, 25921, 25932, 26064, 62221, 62353, 62364, 63937, 63948, 64080]
noncomputable def c19_4 : List Nat := [1887, 1909, 2173, 5341]
noncomputable def c19_5 : List Nat := [1887, 1909, 2173, 5341, 20895, 20917, 21181, 22479, 22501, 22611, 22644, 22897, 22908, 25933, 26065, 26076, 62365, 63949, 64081, 64092]
noncomputable def c20_2 : List Nat := [27, 38]
noncomputable def c20_3 : List Nat := [27, 38, 291, 324, 434, 456]
noncomputable def c20_4 : List Nat := [27, 38, 291, 324, 434, 456, 3459, 3492, 3888, 5186, 5208, 5472]
noncomputable def c20_5 : List Nat := [27, 38, 291, 324, 434, 456, 3459, 3492, 3888, 5186, 5208, 5472, 41475, 41508, 41904, 46656, 62210, 62232, 62496, 65664]
noncomputable def c21_3 : List Nat := [171, 182, 303, 325, 446, 457]
noncomputable def c21_4 : List Nat := [171, 182, 303, 325, 446, 457, 1755, 1766, 2019, 2052, 2162, 2184, 3471, 3493, 3603, 3636, 3889, 3900, 5198, 5209, 5330, 5352, 5473, 5484]
noncomputable def c21_5 : List Nat := [171, 182, 303, 325, 446, 457, 1755, 1766, 2019, 2052, 2162, 2184, 3471, 3493, 3603, 3636, 3889, 3900, 5198, 5209, 5330, 5352, 5473, 5484, 20763, 20774, 21027, 21060, 21170, 21192, 24195, 24228, 24624, 25922, 25944, 26208, 41487, 41509, 41619, 41652, 41905, 41916, 43203, 43236, 43632, 46657, 46668, 46800, 62222, 62233, 62354, 62376, 62497, 62508, 63938, 63960, 64224, 65665, 65676, 65808]
noncomputable def c22_2 : List Nat := [39]
noncomputable def c22_3 : List Nat := [39, 435, 468]
noncomputable def c22_4 : List Nat := [39, 435, 468, 5187, 5220, 5616]
noncomputable def c22_5 : List Nat := [39, 435, 468, 5187, 5220, 5616, 62211, 62244, 62640, 67392]
noncomputable def c23_1 : List Nat := [4]
noncomputable def c23_2 : List Nat := [4, 48]
noncomputable def c23_3 : List Nat := [4, 48, 576]
noncomputable def c23_4 : List Nat := [4, 48, 576, 6912]
noncomputable def c23_5 : List Nat := [4, 48, 576, 6912, 82944]
noncomputable def c24_2 : List Nat := [16, 49]
noncomputable def c24_3 : List Nat := [16, 49, 148, 192, 577, 588]
noncomputable def c24_4 : List Nat := [16, 49, 148, 192, 577, 588, 1732, 1776, 2304, 6913, 6924, 7056]
noncomputable def c24_5 : List Nat := [16, 49, 148, 192, 577, 588, 1732, 1776, 2304, 6913, 6924, 7056, 20740, 20784, 21312, 27648, 82945, 82956, 83088, 84672]
noncomputable def c25_3 : List Nat := [160, 193, 589]
noncomputable def c25_4 : List Nat := [160, 193, 589, 1744, 1777, 1876, 1920, 2305, 2316, 6925, 7057, 7068]
noncomputable def c25_5 : List Nat := [160, 193, 589, 1744, 1777, 1876, 1920, 2305, 2316, 6925, 7057, 7068, 20752, 20785, 20884, 20928, 21313, 21324, 22468, 22512, 23040, 27649, 27660, 27792, 82957, 83089, 83100, 84673, 84684, 84816]
noncomputable def c26_2 : List Nat := [28, 50]
noncomputable def c26_3 : List Nat := [28, 50, 292, 336, 578, 600]
noncomputable def c26_4 : List Nat := [28, 50, 292, 336, 578, 600, 3460, 3504, 4032, 6914, 6936, 7200]
noncomputable def c26_5 : List Nat := [28, 50, 292, 336, 578, 600, 3460, 3504, 4032, 6914, 6936, 7200, 41476, 41520, 42048, 48384, 82946, 82968, 83232, 86400]
noncomputable def c27_1 : List Nat := [5]
noncomputable def c27_2 : List Nat := [5, 60]
noncomputable def c27_3 : List Nat := [5, 60, 720]
noncomputable def c27_4 : List Nat := [5, 60, 720, 8640]
noncomputable def c27_5 : List Nat := [5, 60, 720, 8640, 103680]
noncomputable def c28_2 : List Nat := [17, 61]
noncomputable def c28_3 : List Nat := [17, 61, 149, 204, 721, 732]
noncomputable def c28_4 : List Nat := [17, 61, 149, 204, 721, 732, 1733, 1788, 2448, 8641, 8652, 8784]
noncomputable def c28_5 : List Nat := [17, 61, 149, 204, 721, 732, 1733, 1788, 2448, 8641, 8652, 8784, 20741, 20796, 21456, 29376, 103681, 103692, 103824, 105408]
noncomputable def c29_1 : List Nat := [6]
noncomputable def c29_2 : List Nat := [6, 72]
noncomputable def c29_3 : List Nat := [6, 72, 864]
noncomputable def c29_4 : List Nat := [6, 72, 864, 10368]
noncomputable def c29_5 : List Nat := [6, 72, 864, 10368, 124416]
@[reducible] def A (a b : Cls) : Prop := ∀ c ∈ pclasses, FtOk (run a b c)
theorem sp {p : Cls → Prop} {l m h : List Cls} (hs : ∀ b ∈ l, b ∈ m ∨ b ∈ h) (h1 : ∀ b ∈ m, p b) (h2 : ∀ b ∈ h, p b) : ∀ b ∈ l, p b := fun b hb => (hs b hb).elim (h1 b) (h2 b)
theorem ac {l m : List Cls} {p : Cls → Prop} (h : ∀ c ∈ l, p c) (k : ∀ c ∈ m, p c) : ∀ c ∈ l ++ m, p c := fun c hc => (List.mem_append.1 hc).elim (h c) (k c)
theorem pa0 {a b : Cls} (h : gB [.nil, .zero, .no, .long] (fun c => run a b c []) = true) (k : ∀ c ∈ [.pt 0, .pt 1, .pt 2, .pt 3, .pt 4, .pt 5], FtOk (run a b c)) : A a b := by
  unfold A
  rw [eq_pclasses]
  exact ap (l := [.nil, .zero, .no, .long]) (m := [.pt 0, .pt 1, .pt 2, .pt 3, .pt 4, .pt 5]) (lf h) k
theorem pa1 {a b : Cls} (h : gB [.nil, .zero, .no, .long, .pt 0] (fun c => run a b c []) = true) (k : ∀ c ∈ [.pt 1, .pt 2, .pt 3, .pt 4, .pt 5], FtOk (run a b c)) : A a b := by
  unfold A
  rw [eq_pclasses]
  exact ap (l := [.nil, .zero, .no, .long, .pt 0]) (m := [.pt 1, .pt 2, .pt 3, .pt 4, .pt 5]) (lf h) k
theorem pa2 {a b : Cls} (h : gB [.nil, .zero, .no, .long, .pt 0, .pt 1] (fun c => run a b c []) = true) (k : ∀ c ∈ [.pt 2, .pt 3, .pt 4, .pt 5], FtOk (run a b c)) : A a b := by
  unfold A
  rw [eq_pclasses]
  exact ap (l := [.nil, .zero, .no, .long, .pt 0, .pt 1]) (m := [.pt 2, .pt 3, .pt 4, .pt 5]) (lf h) k
theorem pa3 {a b : Cls} (h : gB [.nil, .zero, .no, .long, .pt 0, .pt 1, .pt 2] (fun c => run a b c []) = true) (k : ∀ c ∈ [.pt 3, .pt 4, .pt 5], FtOk (run a b c)) : A a b := by
  unfold A
  rw [eq_pclasses]
  exact ap (l := [.nil, .zero, .no, .long, .pt 0, .pt 1, .pt 2]) (m := [.pt 3, .pt 4, .pt 5]) (lf h) k
theorem pa4 {a b : Cls} (h : gB [.nil, .zero, .no, .long, .pt 0, .pt 1, .pt 2, .pt 3] (fun c => run a b c []) = true) (k : ∀ c ∈ [.pt 4, .pt 5], FtOk (run a b c)) : A a b := by
  unfold A
  rw [eq_pclasses]
  exact ap (l := [.nil, .zero, .no, .long, .pt 0, .pt 1, .pt 2, .pt 3]) (m := [.pt 4, .pt 5]) (lf h) k
theorem pa5 {a b : Cls} (h : gB [.nil, .zero, .no, .long, .pt 0, .pt 1, .pt 2, .pt 3, .pt 4] (fun c => run a b c []) = true) (k : ∀ c ∈ [.pt 5], FtOk (run a b c)) : A a b := by
  unfold A
  rw [eq_pclasses]
  exact ap (l := [.nil, .zero, .no, .long, .pt 0, .pt 1, .pt 2, .pt 3, .pt 4]) (m := [.pt 5]) (lf h) k
noncomputable def L0_0 : List Cls := [.nil, .zero, .no, .long, .row [], .row [1], .row [1, 1], .row [1, 1, 1], .row [1, 1, 1, 1]]
noncomputable def L0_1 : List Cls := [.row [1, 1, 1, 1, 1], .row [1, 1, 1, 1, 1, 1], .row [2], .row [2, 1], .row [2, 1, 1], .row [2, 1, 1, 1], .row [2, 1, 1, 1, 1], .row [2, 2], .row [2, 2, 1]]
noncomputable def L0_2 : List Cls := [.row [2, 2, 1, 1], .row [2, 2, 2], .row [3], .row [3, 1], .row [3, 1, 1], .row [3, 1, 1, 1], .row [3, 2], .row [3, 2, 1], .row [3, 3]]
noncomputable def L0_3 : List Cls := [.row [4], .row [4, 1], .row [4, 1, 1], .row [4, 2], .row [5], .row [5, 1], .row [6]]
noncomputable def L0 : List Cls := L0_0 ++ (L0_1 ++ (L0_2 ++ (L0_3)))
noncomputable def L1_0 : List Cls := [.nil, .zero, .no, .long, .row [], .row [1], .row [1, 1], .row [1, 1, 1], .row [1, 1, 1, 1]]
noncomputable def L1_1 : List Cls := [.row [1, 1, 1, 1, 1], .row [1, 1, 1, 1, 1, 1], .row [2], .row [2, 1], .row [2, 1, 1], .row [2, 1, 1, 1], .row [2, 1, 1, 1, 1], .row [2, 2], .row [2, 2, 1]]
noncomputable def L1_2 : List Cls := [.row [2, 2, 1, 1], .row [2, 2, 2], .row [3], .row [3, 1], .row [3, 1, 1], .row [3, 1, 1, 1], .row [3, 2], .row [3, 2, 1], .row [3, 3]]
noncomputable def L1_3 : List Cls := [.row [4], .row [4, 1], .row [4, 1, 1], .row [4, 2], .row [5], .row [5, 1], .row [6]]
noncomputable def L1 : List Cls := L1_0 ++ (L1_1 ++ (L1_2 ++ (L1_3)))
noncomputable def L2_0 : List Cls := [.nil, .zero, .no, .long, .row [], .row [1], .row [1, 1], .row [1, 1, 1], .row [1, 1, 1, 1]]
noncomputable def L2_1 : List Cls := [.row [1, 1, 1, 1, 1], .row [1, 1, 1, 1, 1, 1], .row [2], .row [2, 1], .row [2, 1, 1], .row [2, 1, 1, 1], .row [2, 1, 1, 1, 1], .row [2, 2], .row [2, 2, 1]]
noncomputable def L2_2 : List Cls := [.row [2, 2, 1, 1], .row [2, 2, 2], .row [3], .row [3, 1], .row [3, 1, 1], .row [3, 1, 1, 1], .row [3, 2], .row [3, 2, 1], .row [3, 3]]
noncomputable def L2_3 : List Cls := [.row [4], .row [4, 1], .row [4, 1, 1], .row [4, 2], .row [5], .row [5, 1], .row [6]]
noncomputable def L2 : List Cls := L2_0 ++ (L2_1 ++ (L2_2 ++ (L2_3)))
noncomputable def L3_0 : List Cls := [.nil, .zero, .no, .long, .row [], .row [1], .row [1, 1], .row [1, 1, 1], .row [1, 1, 1, 1]]
noncomputable def L3_1 : List Cls := [.row [1, 1, 1, 1, 1], .row [1, 1, 1, 1, 1, 1], .row [2], .row [2, 1], .row [2, 1, 1], .row [2, 1, 1, 1], .row [2, 1, 1, 1, 1], .row [2, 2], .row [2, 2, 1]]
noncomputable def L3_2 : List Cls := [.row [2, 2, 1, 1], .row [2, 2, 2], .row [3], .row [3, 1], .row [3, 1, 1], .row [3, 1, 1, 1], .row [3, 2], .row [3, 2, 1], .row [3, 3]]
noncomputable def L3_3 : List Cls := [.row [4], .row [4, 1], .row [4, 1, 1], .row [4, 2], .row [5], .row [5, 1], .row [6]]
noncomputable def L3 : List Cls := L3_0 ++ (L3_1 ++ (L3_2 ++ (L3_3)))
noncomputable def L4_0 : List Cls := [.nil, .zero, .no, .long, .row [], .row [1], .row [1, 1], .row [1, 1, 1], .row [1, 1, 1, 1]]
noncomputable def L4_1 : List Cls := [.row [1, 1, 1, 1, 1], .row [1, 1, 1, 1, 1, 1], .row [2], .row [2, 1], .row [2, 1, 1], .row [2, 1, 1, 1], .row [2, 1, 1, 1, 1], .row [2, 2], .row [2, 2, 1]]
noncomputable def L4_2 : List Cls := [.row [2, 2, 1, 1], .row [2, 2, 2], .row [3], .row [3, 1], .row [3, 1, 1], .row [3, 1, 1, 1], .row [3, 2], .row [3, 2, 1], .row [3, 3]]
noncomputable def L4_3 : List Cls := [.row [4], .row [4, 1], .row [4, 1, 1], .row [4, 2], .row [5], .row [5, 1], .row [6]]
noncomputable def L4 : List Cls := L4_0 ++ (L4_1 ++ (L4_2 ++ (L4_3)))
noncomputable def L5_0 : List Cls := [.nil, .zero, .no, .long, .row [], .row [1, 1], .row [1, 1, 1], .row [1, 1, 1, 1], .row [1, 1, 1, 1, 1]]
noncomputable def L5_1 : List Cls := [.row [1, 1, 1, 1, 1, 1], .row [2], .row [2, 1], .row [2, 1, 1], .row [2, 1, 1, 1], .row [2, 1, 1, 1, 1], .row [2, 2], .row [2, 2, 1], .row [2, 2, 1, 1]]
noncomputable def L5_2 : List Cls := [.row [2, 2, 2], .row [3], .row [3, 1], .row [3, 1, 1], .row [3, 1, 1, 1], .row [3, 2], .row [3, 2, 1], .row [3, 3], .row [4]]
noncomputable def L5_3 : List Cls := [.row [4, 1], .row [4, 1, 1], .row [4, 2], .row [5], .row [5, 1], .row [6]]
noncomputable def L5 : List Cls := L5_0 ++ (L5_1 ++ (L5_2 ++ (L5_3)))
noncomputable def L6_0 : List Cls := [.nil, .zero, .no, .long, .row [], .row [1], .row [1, 1, 1], .row [1, 1, 1, 1], .row [1, 1, 1, 1, 1]]
noncomputable def L6_1 : List Cls := [.row [1, 1, 1, 1, 1, 1], .row [2, 1], .row [2, 1, 1], .row [2, 1, 1, 1], .row [2, 1, 1, 1, 1], .row [2, 2], .row [2, 2, 1], .row [2, 2, 1, 1], .row [2, 2, 2]]
noncomputable def L6_2 : List Cls := [.row [3], .row [3, 1], .row [3, 1, 1], .row [3, 1, 1, 1], .row [3, 2], .row [3, 2, 1], .row [3, 3], .row [4], .row [4, 1]]
noncomputable def L6_3 : List Cls := [.row [4, 1, 1], .row [4, 2], .row [5], .row [5, 1], .row [6]]
noncomputable def L6 : List Cls := L6_0 ++ (L6_1 ++ (L6_2 ++ (L6_3)))
noncomputable def L7_0 : List Cls := [.nil, .zero, .no, .long, .row [], .row [1], .row [1, 1], .row [1, 1, 1, 1], .row [1, 1, 1, 1, 1]]
noncomputable def L7_1 : List Cls := [.row [1, 1, 1, 1, 1, 1], .row [2], .row [2, 1, 1], .row [2, 1, 1, 1], .row [2, 1, 1, 1, 1], .row [2, 2], .row [2, 2, 1], .row [2, 2, 1, 1], .row [2, 2, 2]]
noncomputable def L7_2 : List Cls := [.row [3, 1], .row [3, 1, 1], .row [3, 1, 1, 1], .row [3, 2], .row [3, 2, 1], .row [3, 3], .row [4], .row [4, 1], .row [4, 1, 1]]
noncomputable def L7_3 : List Cls := [.row [4, 2], .row [5], .row [5, 1], .row [6]]
noncomputable def L7 : List Cls := L7_0 ++ (L7_1 ++ (L7_2 ++ (L7_3)))
noncomputable def L8_0 : List Cls := [.nil, .zero, .no, .long, .row [], .row [1], .row [1, 1], .row [1, 1, 1], .row [1, 1, 1, 1, 1]]
noncomputable def L8_1 : List Cls := [.row [1, 1, 1, 1, 1, 1], .row [2], .row [2, 1], .row [2, 1, 1, 1], .row [2, 1, 1, 1, 1], .row [2, 2, 1], .row [2, 2, 1, 1], .row [2, 2, 2], .row [3]]
noncomputable def L8_2 : List Cls := [.row [3, 1, 1], .row [3, 1, 1, 1], .row [3, 2], .row [3, 2, 1], .row [3, 3], .row [4, 1], .row [4, 1, 1], .row [4, 2], .row [5]]
noncomputable def L8_3 : List Cls := [.row [5, 1], .row [6]]
noncomputable def L8 : List Cls := L8_0 ++ (L8_1 ++ (L8_2 ++ (L8_3)))
noncomputable def L9_0 : List Cls := [.nil, .zero, .no, .long, .row [], .row [1], .row [1, 1], .row [1, 1, 1], .row [1, 1, 1, 1]]
noncomputable def L9_1 : List Cls := [.row [1, 1, 1, 1, 1, 1], .row [2], .row [2, 1], .row [2, 1, 1], .row [2, 1, 1, 1, 1], .row [2, 2], .row [2, 2, 1, 1], .row [2, 2, 2], .row [3]]
noncomputable def L9_2 : List Cls := [.row [3, 1], .row [3, 1, 1, 1], .row [3, 2, 1], .row [3, 3], .row [4], .row [4, 1, 1], .row [4, 2], .row [5, 1], .row [6]]
noncomputable def L9 : List Cls := L9_0 ++ (L9_1 ++ (L9_2))
noncomputable def L10_0 : List Cls := [.nil, .zero, .no, .long, .row [], .row [1], .row [1, 1], .row [1, 1, 1], .row [1, 1, 1, 1]]
noncomputable def L10_1 : List Cls := [.row [1, 1, 1, 1, 1], .row [1, 1, 1, 1, 1, 1], .row [2], .row [2, 1], .row [2, 1, 1], .row [2, 1, 1, 1], .row [2, 1, 1, 1, 1], .row [2, 2], .row [2, 2, 1]]
noncomputable def L10_2 : List Cls := [.row [2, 2, 1, 1], .row [2, 2, 2], .row [3], .row [3, 1], .row [3, 1, 1], .row [3, 1, 1, 1], .row [3, 2], .row [3, 2, 1], .row [3, 3]]
noncomputable def L10_3 : List Cls := [.row [4], .row [4, 1], .row [4, 1, 1], .row [4, 2], .row [5], .row [5, 1], .row [6]]
noncomputable def L10 : List Cls := L10_0 ++ (L10_1 ++ (L10_2 ++ (L10_3)))
noncomputable def L11_0 : List Cls := [.nil, .zero, .no, .long, .row [], .row [1], .row [1, 1, 1], .row [1, 1, 1, 1], .row [1, 1, 1, 1, 1]]
noncomputable def L11_1 : List Cls := [.row [1, 1, 1, 1, 1, 1], .row [2, 1], .row [2, 1, 1], .row [2, 1, 1, 1], .row [2, 1, 1, 1, 1], .row [2, 2], .row [2, 2, 1], .row [2, 2, 1, 1], .row [2, 2, 2]]
noncomputable def L11_2 : List Cls := [.row [3], .row [3, 1], .row [3, 1, 1], .row [3, 1, 1, 1], .row [3, 2], .row [3, 2, 1], .row [3, 3], .row [4], .row [4, 1]]
noncomputable def L11_3 : List Cls := [.row [4, 1, 1], .row [4, 2], .row [5], .row [5, 1], .row [6]]
noncomputable def L11 : List Cls := L11_0 ++ (L11_1 ++ (L11_2 ++ (L11_3)))
noncomputable def L12_0 : List Cls := [.nil, .zero, .no, .long, .row [], .row [1], .row [1, 1], .row [1, 1, 1, 1], .row [1, 1, 1, 1, 1]]
noncomputable def L12_1 : List Cls := [.row [1, 1, 1, 1, 1, 1], .row [2], .row [2, 1, 1], .row [2, 1, 1, 1], .row [2, 1, 1, 1, 1], .row [2, 2], .row [2, 2, 1], .row [2, 2, 1, 1], .row [2, 2, 2]]
noncomputable def L12_2 : List Cls := [.row [3, 1], .row [3, 1, 1], .row [3, 1, 1, 1], .row [3, 2], .row [3, 2, 1], .row [3, 3], .row [4], .row [4, 1], .row [4, 1, 1]]
noncomputable def L12_3 : List Cls := [.row [4, 2], .row [5], .row [5, 1], .row [6]]
noncomputable def L12 : List Cls := L12_0 ++ (L12_1 ++ (L12_2 ++ (L12_3)))
noncomputable def L13_0 : List Cls := [.nil, .zero, .no, .long, .row [], .row [1], .row [1, 1], .row [1, 1, 1], .row [1, 1, 1, 1, 1]]
noncomputable def L13_1 : List Cls := [.row [1, 1, 1, 1, 1, 1], .row [2], .row [2, 1], .row [2, 1, 1, 1], .row [2, 1, 1, 1, 1], .row [2, 2, 1], .row [2, 2, 1, 1], .row [2, 2, 2], .row [3]]
noncomputable def L13_2 : List Cls := [.row [3, 1, 1], .row [3, 1, 1, 1], .row [3, 2], .row [3, 2, 1], .row [3, 3], .row [4, 1], .row [4, 1, 1], .row [4, 2], .row [5]]
noncomputable def L13_3 : List Cls := [.row [5, 1], .row [6]]
noncomputable def L13 : List Cls := L13_0 ++ (L13_1 ++ (L13_2 ++ (L13_3)))
noncomputable def L14_0 : List Cls := [.nil, .zero, .no, .long, .row [], .row [1], .row [1, 1], .row [1, 1, 1], .row [1, 1, 1, 1]]
noncomputable def L14_1 : List Cls := [.row [1, 1, 1, 1, 1, 1], .row [2], .row [2, 1], .row [2, 1, 1], .row [2, 1, 1, 1, 1], .row [2, 2], .row [2, 2, 1, 1], .row [2, 2, 2], .row [3]]
noncomputable def L14_2 : List Cls := [.row [3, 1], .row [3, 1, 1, 1], .row [3, 2, 1], .row [3, 3], .row [4], .row [4, 1, 1], .row [4, 2], .row [5, 1], .row [6]]
noncomputable def L14 : List Cls := L14_0 ++ (L14_1 ++ (L14_2))
noncomputable def L15_0 : List Cls := [.nil, .zero, .no, .long, .row [], .row [1], .row [1, 1], .row [1, 1, 1], .row [1, 1, 1, 1]]
noncomputable def L15_1 : List Cls := [.row [1, 1, 1, 1, 1], .row [1, 1, 1, 1, 1, 1], .row [2], .row [2, 1], .row [2, 1, 1], .row [2, 1, 1, 1], .row [2, 2], .row [2, 2, 1], .row [3]]
noncomputable def L15_2 : List Cls := [.row [3, 1], .row [3, 1, 1], .row [3, 2], .row [4], .row [4, 1], .row [5]]
noncomputable def L15 : List Cls := L15_0 ++ (L15_1 ++ (L15_2))
noncomputable def L16_0 : List Cls := [.nil, .zero, .no, .long, .row [], .row [1], .row [1, 1], .row [1, 1, 1], .row [1, 1, 1, 1, 1]]
noncomputable def L16_1 : List Cls := [.row [1, 1, 1, 1, 1, 1], .row [2], .row [2, 1], .row [2, 1, 1, 1], .row [2, 1, 1, 1, 1], .row [2, 2, 1], .row [2, 2, 1, 1], .row [2, 2, 2], .row [3]]
noncomputable def L16_2 : List Cls := [.row [3, 1, 1], .row [3, 1, 1, 1], .row [3, 2], .row [3, 2, 1], .row [3, 3], .row [4, 1], .row [4, 1, 1], .row [4, 2], .row [5]]
noncomputable def L16_3 : List Cls := [.row [5, 1], .row [6]]
noncomputable def L16 : List Cls := L16_0 ++ (L16_1 ++ (L16_2 ++ (L16_3)))
noncomputable def L17_0 : List Cls := [.nil, .zero, .no, .long, .row [], .row [1], .row [1, 1], .row [1, 1, 1], .row [1, 1, 1, 1]]
noncomputable def L17_1 : List Cls := [.row [1, 1, 1, 1, 1, 1], .row [2], .row [2, 1], .row [2, 1, 1], .row [2, 1, 1, 1, 1], .row [2, 2], .row [2, 2, 1, 1], .row [2, 2, 2], .row [3]]
noncomputable def L17_2 : List Cls := [.row [3, 1], .row [3, 1, 1, 1], .row [3, 2, 1], .row [3, 3], .row [4], .row [4, 1, 1], .row [4, 2], .row [5, 1], .row [6]]
noncomputable def L17 : List Cls := L17_0 ++ (L17_1 ++ (L17_2))
noncomputable def L18_0 : List Cls := [.nil, .zero, .no, .long, .row [], .row [1], .row [1, 1], .row [1, 1, 1], .row [1, 1, 1, 1]]
noncomputable def L18_1 : List Cls := [.row [1, 1, 1, 1, 1], .row [1, 1, 1, 1, 1, 1], .row [2], .row [2, 1], .row [2, 1, 1], .row [2, 1, 1, 1], .row [2, 2], .row [2, 2, 1], .row [3]]
noncomputable def L18_2 : List Cls := [.row [3, 1], .row [3, 1, 1], .row [3, 2], .row [4], .row [4, 1], .row [5]]
noncomputable def L18 : List Cls := L18_0 ++ (L18_1 ++ (L18_2))
noncomputable def L19_0 : List Cls := [.nil, .zero, .no, .long, .row [], .row [1], .row [1, 1], .row [1, 1, 1], .row [1, 1, 1, 1]]
noncomputable def L19_1 : List Cls := [.row [1, 1, 1, 1, 1], .row [1, 1, 1, 1, 1, 1], .row [2], .row [2, 1], .row [2, 1, 1], .row [2, 1, 1, 1], .row [2, 2], .row [2, 2, 1], .row [3]]
noncomputable def L19_2 : List Cls := [.row [3, 1], .row [3, 1, 1], .row [3, 2], .row [4], .row [4, 1], .row [5]]
noncomputable def L19 : List Cls := L19_0 ++ (L19_1 ++ (L19_2))
noncomputable def L20_0 : List Cls := [.nil, .zero, .no, .long, .row [], .row [1], .row [1, 1], .row [1, 1, 1, 1], .row [1, 1, 1, 1, 1]]
noncomputable def L20_1 : List Cls := [.row [1, 1, 1, 1, 1, 1], .row [2], .row [2, 1, 1], .row [2, 1, 1, 1], .row [2, 1, 1, 1, 1], .row [2, 2], .row [2, 2, 1], .row [2, 2, 1, 1], .row [2, 2, 2]]
noncomputable def L20_2 : List Cls := [.row [3, 1], .row [3, 1, 1], .row [3, 1, 1, 1], .row [3, 2], .row [3, 2, 1], .row [3, 3], .row [4], .row [4, 1], .row [4, 1, 1]]
noncomputable def L20_3 : List Cls := [.row [4, 2], .row [5], .row [5, 1], .row [6]]
noncomputable def L20 : List Cls := L20_0 ++ (L20_1 ++ (L20_2 ++ (L20_3)))
noncomputable def L21_0 : List Cls := [.nil, .zero, .no, .long, .row [], .row [1], .row [1, 1], .row [1, 1, 1], .row [1, 1, 1, 1, 1]]
noncomputable def L21_1 : List Cls := [.row [1, 1, 1, 1, 1, 1], .row [2], .row [2, 1], .row [2, 1, 1, 1], .row [2, 1, 1, 1, 1], .row [2, 2, 1], .row [2, 2, 1, 1], .row [2, 2, 2], .row [3]]
noncomputable def L21_2 : List Cls := [.row [3, 1, 1], .row [3, 1, 1, 1], .row [3, 2], .row [3, 2, 1], .row [3, 3], .row [4, 1], .row [4, 1, 1], .row [4, 2], .row [5]]
noncomputable def L21_3 : List Cls := [.row [5, 1], .row [6]]
noncomputable def L21 : List Cls := L21_0 ++ (L21_1 ++ (L21_2 ++ (L21_3)))
noncomputable def L22_0 : List Cls := [.nil, .zero, .no, .long, .row [], .row [1], .row [1, 1], .row [1, 1, 1], .row [1, 1, 1, 1]]
noncomputable def L22_1 : List Cls := [.row [1, 1, 1, 1, 1, 1], .row [2], .row [2, 1], .row [2, 1, 1], .row [2, 1, 1, 1, 1], .row [2, 2], .row [2, 2, 1, 1], .row [2, 2, 2], .row [3]]
noncomputable def L22_2 : List Cls := [.row [3, 1], .row [3, 1, 1, 1], .row [3, 2, 1], .row [3, 3], .row [4], .row [4, 1, 1], .row [4, 2], .row [5, 1], .row [6]]
noncomputable def L22 : List Cls := L22_0 ++ (L22_1 ++ (L22_2))
noncomputable def L23_0 : List Cls := [.nil, .zero, .no, .long, .row [], .row [1], .row [1, 1], .row [1, 1, 1], .row [1, 1, 1, 1]]
noncomputable def L23_1 : List Cls := [.row [1, 1, 1, 1, 1], .row [1, 1, 1, 1, 1, 1], .row [2], .row [2, 1], .row [2, 1, 1], .row [2, 1, 1, 1], .row [2, 2], .row [2, 2, 1], .row [3]]
noncomputable def L23_2 : List Cls := [.row [3, 1], .row [3, 1, 1], .row [3, 2], .row [4], .row [4, 1], .row [5]]
noncomputable def L23 : List Cls := L23_0 ++ (L23_1 ++ (L23_2))
noncomputable def L24_0 : List Cls := [.nil, .zero, .no, .long, .row [], .row [1], .row [1, 1], .row [1, 1, 1], .row [1, 1, 1, 1]]
noncomputable def L24_1 : List Cls := [.row [1, 1, 1, 1, 1, 1], .row [2], .row [2, 1], .row [2, 1, 1], .row [2, 1, 1, 1, 1], .row [2, 2], .row [2, 2, 1, 1], .row [2, 2, 2], .row [3]]
noncomputable def L24_2 : List Cls := [.row [3, 1], .row [3, 1, 1, 1], .row [3, 2, 1], .row [3, 3], .row [4], .row [4, 1, 1], .row [4, 2], .row [5, 1], .row [6]]
noncomputable def L24 : List Cls := L24_0 ++ (L24_1 ++ (L24_2))
noncomputable def L25_0 : List Cls := [.nil, .zero, .no, .long, .row [], .row [1], .row [1, 1], .row [1, 1, 1], .row [1, 1, 1, 1]]
noncomputable def L25_1 : List Cls := [.row [1, 1, 1, 1, 1], .row [1, 1, 1, 1, 1, 1], .row [2], .row [2, 1], .row [2, 1, 1], .row [2, 1, 1, 1], .row [2, 2], .row [2, 2, 1], .row [3]]
noncomputable def L25_2 : List Cls := [.row [3, 1], .row [3, 1, 1], .row [3, 2], .row [4], .row [4, 1], .row [5]]
noncomputable def L25 : List Cls := L25_0 ++ (L25_1 ++ (L25_2))
noncomputable def L26_0 : List Cls := [.nil, .zero, .no, .long, .row [], .row [1], .row [1, 1], .row [1, 1, 1], .row [1, 1, 1, 1]]
noncomputable def L26_1 : List Cls := [.row [1, 1, 1, 1, 1], .row [1, 1, 1, 1, 1, 1], .row [2], .row [2, 1], .row [2, 1, 1], .row [2, 1, 1, 1], .row [2, 2], .row [2, 2, 1], .row [3]]
noncomputable def L26_2 : List Cls := [.row [3, 1], .row [3, 1, 1], .row [3, 2], .row [4], .row [4, 1], .row [5]]
noncomputable def L26 : List Cls := L26_0 ++ (L26_1 ++ (L26_2))
noncomputable def L27_0 : List Cls := [.nil, .zero, .no, .long, .row [], .row [1], .row [1, 1], .row [1, 1, 1], .row [1, 1, 1, 1, 1]]
noncomputable def L27_1 : List Cls := [.row [1, 1, 1, 1, 1, 1], .row [2], .row [2, 1], .row [2, 1, 1, 1], .row [2, 1, 1, 1, 1], .row [2, 2, 1], .row [2, 2, 1, 1], .row [2, 2, 2], .row [3]]
noncomputable def L27_2 : List Cls := [.row [3, 1, 1], .row [3, 1, 1, 1], .row [3, 2], .row [3, 2, 1], .row [3, 3], .row [4, 1], .row [4, 1, 1], .row [4, 2], .row [5]]
noncomputable def L27_3 : List Cls := [.row [5, 1], .row [6]]
noncomputable def L27 : List Cls := L27_0 ++ (L27_1 ++ (L27_2 ++ (L27_3)))
noncomputable def L28_0 : List Cls := [.nil, .zero, .no, .long, .row [], .row [1], .row [1, 1], .row [1, 1, 1], .row [1, 1, 1, 1]]
noncomputable def L28_1 : List Cls := [.row [1, 1, 1, 1, 1, 1], .row [2], .row [2, 1], .row [2, 1, 1], .row [2, 1, 1, 1, 1], .row [2, 2], .row [2, 2, 1, 1], .row [2, 2, 2], .row [3]]
noncomputable def L28_2 : List Cls := [.row [3, 1], .row [3, 1, 1, 1], .row [3, 2, 1], .row [3, 3], .row [4], .row [4, 1, 1], .row [4, 2], .row [5, 1], .row [6]]
noncomputable def L28 : List Cls := L28_0 ++ (L28_1 ++ (L28_2))
noncomputable def L29_0 : List Cls := [.nil, .zero, .no, .long, .row [], .row [1], .row [1, 1], .row [1, 1, 1], .row [1, 1, 1, 1]]
noncomputable def L29_1 : List Cls := [.row [1, 1, 1, 1, 1], .row [1, 1, 1, 1, 1, 1], .row [2], .row [2, 1], .row [2, 1, 1], .row [2, 1, 1, 1], .row [2, 2], .row [2, 2, 1], .row [3]]
noncomputable def L29_2 : List Cls := [.row [3, 1], .row [3, 1, 1], .row [3, 2], .row [4], .row [4, 1], .row [5]]
noncomputable def L29 : List Cls := L29_0 ++ (L29_1 ++ (L29_2))
noncomputable def L30_0 : List Cls := [.nil, .zero, .no, .long, .row [], .row [1], .row [1, 1], .row [1, 1, 1], .row [1, 1, 1, 1]]
noncomputable def L30_1 : List Cls := [.row [1, 1, 1, 1, 1], .row [1, 1, 1, 1, 1, 1], .row [2], .row [2, 1], .row [2, 1, 1], .row [2, 1, 1, 1], .row [2, 2], .row [2, 2, 1], .row [3]]
noncomputable def L30_2 : List Cls := [.row [3, 1], .row [3, 1, 1], .row [3, 2], .row [4], .row [4, 1], .row [5]]
noncomputable def L30 : List Cls := L30_0 ++ (L30_1 ++ (L30_2))
noncomputable def L31_0 : List Cls := [.nil, .zero, .no, .long, .row [], .row [1], .row [1, 1], .row [1, 1, 1], .row [1, 1, 1, 1]]
noncomputable def L31_1 : List Cls := [.row [1, 1, 1, 1, 1, 1], .row [2], .row [2, 1], .row [2, 1, 1], .row [2, 1, 1, 1, 1], .row [2, 2], .row [2, 2, 1, 1], .row [2, 2, 2], .row [3]]
noncomputable def L31_2 : List Cls := [.row [3, 1], .row [3, 1, 1, 1], .row [3, 2, 1], .row [3, 3], .row [4], .row [4, 1, 1], .row [4, 2], .row [5, 1], .row [6]]
noncomputable def L31 : List Cls := L31_0 ++ (L31_1 ++ (L31_2))
noncomputable def L32_0 : List Cls := [.nil, .zero, .no, .long, .row [], .row [1], .row [1, 1], .row [1, 1, 1], .row [1, 1, 1, 1]]
noncomputable def L32_1 : List Cls := [.row [1, 1, 1, 1, 1], .row [1, 1, 1, 1, 1, 1], .row [2], .row [2, 1], .row [2, 1, 1], .row [2, 1, 1, 1], .row [2, 2], .row [2, 2, 1], .row [3]]
noncomputable def L32_2 : List Cls := [.row [3, 1], .row [3, 1, 1], .row [3, 2], .row [4], .row [4, 1], .row [5]]
noncomputable def L32 : List Cls := L32_0 ++ (L32_1 ++ (L32_2))
noncomputable def L33_0 : List Cls := [.nil, .zero, .no, .long, .row [], .row [1], .row [1, 1], .row [1, 1, 1], .row [1, 1, 1, 1]]
noncomputable def L33_1 : List Cls := [.row [1, 1, 1, 1, 1], .row [1, 1, 1, 1, 1, 1], .row [2], .row [2, 1], .row [2, 1, 1], .row [2, 1, 1, 1], .row [2, 2], .row [2, 2, 1], .row [3]]
noncomputable def L33_2 : List Cls := [.row [3, 1], .row [3, 1, 1], .row [3, 2], .row [4], .row [4, 1], .row [5]]
noncomputable def L33 : List Cls := L33_0 ++ (L33_1 ++ (L33_2))
end Go.Proofs.Ytnglbchhlpbgkaa.fnExactMeanSignRuns
