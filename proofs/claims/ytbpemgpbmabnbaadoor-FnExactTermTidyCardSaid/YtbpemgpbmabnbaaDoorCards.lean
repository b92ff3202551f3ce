/-
  DERIVED. GIVEN WITH THE SEED: THE CARDS: each row of YtbpemgpbmabnbaaDoorRows.lean that lists a variable, with what it lists TIED to the program's text (the seventh form; the later family's looks); each row that meets fmt, with fmt's text TOLD by the authors' own Lean function (tested against real Go, not proved from fmt's source: count such statements apart). THE CARD IS WHAT COUNTS. Prove the row's statement (the work); the ties are given (YtbpemgpbmabnbaaDoorTie.lean); close each card by the builder's one call (the guide's Derived/Test/ToyasCard.lean, 'card_holds'). Laid BY PROGRAM, IN A SANDBOX (cutbox-door.mjs). By AI agents, Wed Nov 11 2026. No macro, syntax, notation, axiom, sorry.
-/
import Derived.Test.YtbpemgpbmabnbaaDoorRows
import GoSem.ClaimSeven
namespace Go.Proofs.YtbpemgpbmabnbaaDoor
namespace Rows

/-- THE TIED CARD OF 'laws.FnExactTermIn'. -/
def fnExactTermInCard : Claim7 := { stood := { row := fnExactTermInRow, standIns := [], harness := (true, "aa735e61d751f9f00bb6d496dc59bbe5ab3772a8db0199a062c20b4ac4811c73"), looks := true }, kinds := [], alts := [], laidByText := true, laidKinds := [.data, .handle, .pinned], laidTests := true, laidLooks := .later }
def FnExactTermInCardSaid : Prop := Claim7.holds Tryd.pinned (.plain (OpenSpec.ofChange fnExactTermInSpec)) fnExactTermInCard

/-- THE TIED CARD OF 'laws.FnExactTermDegree'. -/
def fnExactTermDegreeCard : Claim7 := { stood := { row := fnExactTermDegreeRow, standIns := [], harness := (true, "aa735e61d751f9f00bb6d496dc59bbe5ab3772a8db0199a062c20b4ac4811c73"), looks := true }, kinds := [], alts := [], laidByText := true, laidKinds := [.data, .handle, .pinned], laidTests := true, laidLooks := .later }
def FnExactTermDegreeCardSaid : Prop := Claim7.holds Tryd.pinned (.plain (OpenSpec.ofChange fnExactTermDegreeSpec)) fnExactTermDegreeCard

/-- THE TIED CARD OF 'laws.FnExactTermTidy'. -/
def fnExactTermTidyCard : Claim7 := { stood := { row := fnExactTermTidyRow, standIns := [], harness := (true, "aa735e61d751f9f00bb6d496dc59bbe5ab3772a8db0199a062c20b4ac4811c73"), looks := true }, kinds := [], alts := [], laidByText := true, laidKinds := [.data, .handle, .pinned], laidTests := true, laidLooks := .later }
def FnExactTermTidyCardSaid : Prop := Claim7.holds Tryd.pinned (.plain (OpenSpec.ofChange fnExactTermTidySpec)) fnExactTermTidyCard

/-- THE TIED CARD OF 'laws.FnTerm'. -/
def fnTermCard : Claim7 := { stood := { row := fnTermRow, standIns := [], harness := (true, "aa735e61d751f9f00bb6d496dc59bbe5ab3772a8db0199a062c20b4ac4811c73"), looks := true }, kinds := [], alts := [], laidByText := true, laidKinds := [.data, .handle, .pinned], laidTests := true, laidLooks := .later }
def FnTermCardSaid : Prop := Claim7.holds Tryd.pinned (.plain (OpenSpec.ofChange fnTermSpec)) fnTermCard

/-- THE TIED CARD OF 'laws.FnTermDegree'. -/
def fnTermDegreeCard : Claim7 := { stood := { row := fnTermDegreeRow, standIns := [], harness := (true, "aa735e61d751f9f00bb6d496dc59bbe5ab3772a8db0199a062c20b4ac4811c73"), looks := true }, kinds := [], alts := [], laidByText := true, laidKinds := [.data, .handle, .pinned], laidTests := true, laidLooks := .later }
def FnTermDegreeCardSaid : Prop := Claim7.holds Tryd.pinned (.plain (OpenSpec.ofChange fnTermDegreeSpec)) fnTermDegreeCard

/-- THE SECOND FORM's CARD OF 'laws.FnExactTermIn'. -/
def fnExactTermInUptoCard : Claim7 := { stood := { row := fnExactTermInUptoRow, standIns := [], harness := (true, "aa735e61d751f9f00bb6d496dc59bbe5ab3772a8db0199a062c20b4ac4811c73"), looks := true }, kinds := [], alts := [], laidByText := true, laidKinds := [.data, .handle, .pinned], laidTests := true, laidLooks := .later }
def FnExactTermInUptoCardSaid : Prop := Claim7.holds Tryd.pinned (.plain (OpenSpec.upto fnExactTermInSpec)) fnExactTermInUptoCard

/-- THE SECOND FORM's CARD OF 'laws.FnExactTermDegree'. -/
def fnExactTermDegreeUptoCard : Claim7 := { stood := { row := fnExactTermDegreeUptoRow, standIns := [], harness := (true, "aa735e61d751f9f00bb6d496dc59bbe5ab3772a8db0199a062c20b4ac4811c73"), looks := true }, kinds := [], alts := [], laidByText := true, laidKinds := [.data, .handle, .pinned], laidTests := true, laidLooks := .later }
def FnExactTermDegreeUptoCardSaid : Prop := Claim7.holds Tryd.pinned (.plain (OpenSpec.upto fnExactTermDegreeSpec)) fnExactTermDegreeUptoCard

/-- THE SECOND FORM's CARD OF 'laws.FnExactTermTidy'. -/
def fnExactTermTidyUptoCard : Claim7 := { stood := { row := fnExactTermTidyUptoRow, standIns := [], harness := (true, "aa735e61d751f9f00bb6d496dc59bbe5ab3772a8db0199a062c20b4ac4811c73"), looks := true }, kinds := [], alts := [], laidByText := true, laidKinds := [.data, .handle, .pinned], laidTests := true, laidLooks := .later }
def FnExactTermTidyUptoCardSaid : Prop := Claim7.holds Tryd.pinned (.plain (OpenSpec.upto fnExactTermTidySpec)) fnExactTermTidyUptoCard

/-- THE SECOND FORM's CARD OF 'laws.FnTerm'. -/
def fnTermUptoCard : Claim7 := { stood := { row := fnTermUptoRow, standIns := [], harness := (true, "aa735e61d751f9f00bb6d496dc59bbe5ab3772a8db0199a062c20b4ac4811c73"), looks := true }, kinds := [], alts := [], laidByText := true, laidKinds := [.data, .handle, .pinned], laidTests := true, laidLooks := .later }
def FnTermUptoCardSaid : Prop := Claim7.holds Tryd.pinned (.plain (OpenSpec.upto fnTermSpec)) fnTermUptoCard

/-- THE SECOND FORM's CARD OF 'laws.FnTermDegree'. -/
def fnTermDegreeUptoCard : Claim7 := { stood := { row := fnTermDegreeUptoRow, standIns := [], harness := (true, "aa735e61d751f9f00bb6d496dc59bbe5ab3772a8db0199a062c20b4ac4811c73"), looks := true }, kinds := [], alts := [], laidByText := true, laidKinds := [.data, .handle, .pinned], laidTests := true, laidLooks := .later }
def FnTermDegreeUptoCardSaid : Prop := Claim7.holds Tryd.pinned (.plain (OpenSpec.upto fnTermDegreeSpec)) fnTermDegreeUptoCard
end Rows
end Go.Proofs.YtbpemgpbmabnbaaDoor
