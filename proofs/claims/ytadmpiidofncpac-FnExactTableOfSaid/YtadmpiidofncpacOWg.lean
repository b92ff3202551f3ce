/- The seat's sync.WaitGroup, and the function that makes a table. -/
import Derived.Test.YtadmpiidofncpacOEngN
import Derived.Test.YtadmpiidofncpacProg
namespace Go.Proofs.Ytadmpiidofncpac.wg
open Go Go.Proofs Go.Eng Go.Conc.Lib
set_option linter.unusedVariables false
instance : Go.ConcR.Payload := ⟨3⟩
abbrev link : WgLink := { add := 139, done := 141, wait := 144, relMerge := 160, disable := 161, enable := 162, inBubble := 163, associate := 164, fatal := 165, uOr := 166, uAdd := 167, raceRead := 168, uLoad := 169, uStore := 170, disassociate := 171, semrelease := 172, acquire := 173, isAssociated := 174, uCas := 175, raceWrite := 176, semacquire := 177, orU64 := 189, addU64 := 190, loadU64 := 191, storeU64 := 192, casU64 := 193, tWgP := 175, tUP := 177, tAssoc := 178, tWg := 158, tAU := 155, tU64 := 153, tUint := 167, tU32 := 156, tPU32 := 182, tPAU := 200, tPU64 := 202, tNoCopy := 150, tANoCopy := 151, tAlign64 := 152 }
theorem lib : WgLib Try.prog link :=
  ⟨Try.func139, Try.func141, Try.func144, Try.func160, Try.func161, Try.func162, Try.func163, Try.func164, Try.func165, Try.func166, Try.func167, Try.func168, Try.func169, Try.func170, Try.func171, Try.func172, Try.func173, Try.func174, Try.func175, Try.func176, Try.func177, Try.func189, Try.func190, Try.func191, Try.func192, Try.func193, Try.underlying175, Try.runUnderlying175, Try.sizeOf175, Try.isAgg175, Try.zeroValue175, Try.underlying177, Try.runUnderlying177, Try.sizeOf177, Try.isAgg177, Try.zeroValue177, Try.underlying178, Try.runUnderlying178, Try.sizeOf178, Try.isAgg178, Try.zeroValue178, Try.underlying158, Try.runUnderlying158, Try.sizeOf158, Try.isAgg158, Try.zeroValue158, Try.underlying155, Try.runUnderlying155, Try.sizeOf155, Try.isAgg155, Try.zeroValue155, Try.underlying153, Try.runUnderlying153, Try.sizeOf153, Try.isAgg153, Try.zeroValue153, Try.underlying167, Try.runUnderlying167, Try.sizeOf167, Try.isAgg167, Try.zeroValue167, Try.underlying156, Try.runUnderlying156, Try.sizeOf156, Try.isAgg156, Try.zeroValue156, Try.underlying182, Try.runUnderlying182, Try.sizeOf182, Try.isAgg182, Try.zeroValue182, Try.underlying200, Try.runUnderlying200, Try.sizeOf200, Try.isAgg200, Try.zeroValue200, Try.underlying202, Try.runUnderlying202, Try.sizeOf202, Try.isAgg202, Try.zeroValue202, Try.underlying0, Try.runUnderlying0, Try.sizeOf0, Try.isAgg0, Try.zeroValue0, Try.underlying3, Try.runUnderlying3, Try.sizeOf3, Try.isAgg3, Try.zeroValue3, Try.underlying4, Try.runUnderlying4, Try.sizeOf4, Try.isAgg4, Try.zeroValue4, Try.underlying9, Try.runUnderlying9, Try.sizeOf9, Try.isAgg9, Try.zeroValue9, Try.underlying20, Try.runUnderlying20, Try.sizeOf20, Try.isAgg20, Try.zeroValue20, Try.underlying21, Try.runUnderlying21, Try.sizeOf21, Try.isAgg21, Try.zeroValue21, (by kernel_rfl), (by kernel_rfl)⟩

noncomputable def qq : PC := ⟨159, 139, 144, 141, 140, 142, 9, 23, Try.f140.body.getD .skip, Try.f142.body.getD .skip, 1000, 200⟩
noncomputable def tt : TC := ⟨109, 55, Try.f109.body.getD .skip, 4, 158, qq⟩
theorem tok : TCok Try.prog link tt := by
  refine ⟨⟨Try.f109, Try.func109, by kernel_rfl, by decide +kernel, by kernel_rfl, by kernel_rfl, by decide +kernel⟩, ⟨rfl, rfl, rfl, ⟨Try.f140, Try.func140, by kernel_rfl, by decide +kernel, by kernel_rfl, by kernel_rfl⟩, ⟨Try.f142, Try.func142, by kernel_rfl, by decide +kernel, by kernel_rfl, by kernel_rfl⟩, ?_⟩, rfl, ?_, ?_⟩
  · exact ⟨_, _, (Try.prog.info? 3).getD default, Try.underlying159, by kernel_rfl, by decide +kernel⟩
  · exact ⟨(Try.prog.info? 158).getD default, .agg #[.int .u64 0, .int .u32 0], by kernel_rfl, by kernel_rfl, by kernel_rfl⟩
  · exact ⟨_, _, (Try.prog.info? 3).getD default, Try.underlying159, by kernel_rfl, by kernel_rfl⟩
theorem tableS_alone {S : Sums} (h : Always Try.prog S) : Alone Try.prog 158 (tableS Try.prog (callN Try.prog S 1000 60) tt) :=
  fun E Pd h1 h2 => tableS_sound lib tok (call_always h 1000 60) E Pd h1 h2
end Go.Proofs.Ytadmpiidofncpac.wg
