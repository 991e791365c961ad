/-
  DERIVED. GIVEN WITH THE SEED: THE CARDS: each row of YtmbcibgknckenaaGreatDoorRows.lean that lists a variable, with what it lists TIED to the program's text (the seventh form; the later family's looks); each row that meets fmt, with fmt's text TOLD by the authors' own Lean function (tested against real Go, not proved from fmt's source: count such statements apart). THE CARD IS WHAT COUNTS. Prove the row's statement (the work); the ties are given (YtmbcibgknckenaaGreatDoorTie.lean); close each card by the builder's one call (the guide's Derived/Test/ToyasCard.lean, 'card_holds'). Laid BY PROGRAM, IN A SANDBOX (cutbox-door.mjs). By AI agents, Wed Nov 11 2026. No macro, syntax, notation, axiom, sorry.
-/
import Derived.Test.YtmbcibgknckenaaGreatDoorRows
import GoSem.ClaimSeven
namespace Go.Proofs.YtmbcibgknckenaaGreatDoor
namespace Rows

/-- THE TIED CARD OF 'marshalkeep.Again'. -/
def againCard : Claim7 := { stood := { row := againRow, standIns := [], harness := (true, "b6e006394a9768153754fe279c44be8b0a2cf43334a3e78ec32bc3d6a31041c7"), looks := true }, kinds := [], alts := [], laidByText := true, laidKinds := [.data, .data, .data, .sentinel, .sentinel, .sentinel], laidTests := true, laidLooks := .later }
def AgainCardSaid : Prop := Claim7.holds Tryz.pinned (.plain (OpenSpec.ofChange againSpec)) againCard

/-- THE TIED CARD OF 'marshalkeep.Back'. -/
def backCard : Claim7 := { stood := { row := backRow, standIns := [], harness := (true, "b6e006394a9768153754fe279c44be8b0a2cf43334a3e78ec32bc3d6a31041c7"), looks := true }, kinds := [], alts := [], laidByText := true, laidKinds := [.data, .data, .data, .sentinel, .sentinel, .sentinel], laidTests := true, laidLooks := .later }
def BackCardSaid : Prop := Claim7.holds Tryz.pinned (.plain (OpenSpec.ofChange backSpec)) backCard

/-- THE TIED CARD OF 'marshalkeep.Forth'. -/
def forthCard : Claim7 := { stood := { row := forthRow, standIns := [], harness := (true, "b6e006394a9768153754fe279c44be8b0a2cf43334a3e78ec32bc3d6a31041c7"), looks := true }, kinds := [], alts := [], laidByText := true, laidKinds := [.data, .data, .data, .sentinel, .sentinel, .sentinel], laidTests := true, laidLooks := .later }
def ForthCardSaid : Prop := Claim7.holds Tryz.pinned (.plain (OpenSpec.ofChange forthSpec)) forthCard

/-- THE TIED CARD OF 'marshalkeep.Apart'. -/
def apartCard : Claim7 := { stood := { row := apartRow, standIns := [], harness := (true, "b6e006394a9768153754fe279c44be8b0a2cf43334a3e78ec32bc3d6a31041c7"), looks := true }, kinds := [], alts := [], laidByText := true, laidKinds := [.data, .data, .data, .sentinel, .sentinel, .sentinel], laidTests := true, laidLooks := .later }
def ApartCardSaid : Prop := Claim7.holds Tryz.pinned (.plain (OpenSpec.ofChange apartSpec)) apartCard

/-- THE TIED CARD OF 'marshalkeep.Deeper'. -/
def deeperCard : Claim7 := { stood := { row := deeperRow, standIns := [], harness := (true, "b6e006394a9768153754fe279c44be8b0a2cf43334a3e78ec32bc3d6a31041c7"), looks := true }, kinds := [], alts := [], laidByText := true, laidKinds := [.data, .data, .data, .sentinel, .sentinel, .sentinel], laidTests := true, laidLooks := .later }
def DeeperCardSaid : Prop := Claim7.holds Tryz.pinned (.plain (OpenSpec.ofChange deeperSpec)) deeperCard

/-- THE TIED CARD OF 'marshalkeep.Inside'. -/
def insideCard : Claim7 := { stood := { row := insideRow, standIns := [], harness := (true, "b6e006394a9768153754fe279c44be8b0a2cf43334a3e78ec32bc3d6a31041c7"), looks := true }, kinds := [], alts := [], laidByText := true, laidKinds := [.data, .data, .data, .sentinel, .sentinel, .sentinel], laidTests := true, laidLooks := .later }
def InsideCardSaid : Prop := Claim7.holds Tryz.pinned (.plain (OpenSpec.ofChange insideSpec)) insideCard

/-- THE TIED CARD OF 'marshalkeep.Tail'. -/
def tailCard : Claim7 := { stood := { row := tailRow, standIns := [], harness := (true, "b6e006394a9768153754fe279c44be8b0a2cf43334a3e78ec32bc3d6a31041c7"), looks := true }, kinds := [], alts := [], laidByText := true, laidKinds := [.data, .data, .data, .handle, .sentinel, .sentinel, .sentinel], laidTests := true, laidLooks := .later }
def TailCardSaid : Prop := Claim7.holds Tryz.pinned (.plain (OpenSpec.ofChange tailSpec)) tailCard

/-- THE TIED CARD OF 'marshalkeep.Cut'. -/
def cutCard : Claim7 := { stood := { row := cutRow, standIns := [], harness := (true, "b6e006394a9768153754fe279c44be8b0a2cf43334a3e78ec32bc3d6a31041c7"), looks := true }, kinds := [], alts := [], laidByText := true, laidKinds := [.data, .data, .data, .sentinel, .sentinel, .sentinel], laidTests := true, laidLooks := .later }
def CutCardSaid : Prop := Claim7.holds Tryz.pinned (.plain (OpenSpec.ofChange cutSpec)) cutCard

/-- THE SECOND FORM's CARD OF 'marshalkeep.Again'. -/
def againUptoCard : Claim7 := { stood := { row := againUptoRow, standIns := [], harness := (true, "b6e006394a9768153754fe279c44be8b0a2cf43334a3e78ec32bc3d6a31041c7"), looks := true }, kinds := [], alts := [], laidByText := true, laidKinds := [.data, .data, .data, .sentinel, .sentinel, .sentinel], laidTests := true, laidLooks := .later }
def AgainUptoCardSaid : Prop := Claim7.holds Tryz.pinned (.plain (OpenSpec.upto againSpec)) againUptoCard

/-- THE SECOND FORM's CARD OF 'marshalkeep.Back'. -/
def backUptoCard : Claim7 := { stood := { row := backUptoRow, standIns := [], harness := (true, "b6e006394a9768153754fe279c44be8b0a2cf43334a3e78ec32bc3d6a31041c7"), looks := true }, kinds := [], alts := [], laidByText := true, laidKinds := [.data, .data, .data, .sentinel, .sentinel, .sentinel], laidTests := true, laidLooks := .later }
def BackUptoCardSaid : Prop := Claim7.holds Tryz.pinned (.plain (OpenSpec.upto backSpec)) backUptoCard

/-- THE SECOND FORM's CARD OF 'marshalkeep.Forth'. -/
def forthUptoCard : Claim7 := { stood := { row := forthUptoRow, standIns := [], harness := (true, "b6e006394a9768153754fe279c44be8b0a2cf43334a3e78ec32bc3d6a31041c7"), looks := true }, kinds := [], alts := [], laidByText := true, laidKinds := [.data, .data, .data, .sentinel, .sentinel, .sentinel], laidTests := true, laidLooks := .later }
def ForthUptoCardSaid : Prop := Claim7.holds Tryz.pinned (.plain (OpenSpec.upto forthSpec)) forthUptoCard

/-- THE SECOND FORM's CARD OF 'marshalkeep.Apart'. -/
def apartUptoCard : Claim7 := { stood := { row := apartUptoRow, standIns := [], harness := (true, "b6e006394a9768153754fe279c44be8b0a2cf43334a3e78ec32bc3d6a31041c7"), looks := true }, kinds := [], alts := [], laidByText := true, laidKinds := [.data, .data, .data, .sentinel, .sentinel, .sentinel], laidTests := true, laidLooks := .later }
def ApartUptoCardSaid : Prop := Claim7.holds Tryz.pinned (.plain (OpenSpec.upto apartSpec)) apartUptoCard

/-- THE SECOND FORM's CARD OF 'marshalkeep.Deeper'. -/
def deeperUptoCard : Claim7 := { stood := { row := deeperUptoRow, standIns := [], harness := (true, "b6e006394a9768153754fe279c44be8b0a2cf43334a3e78ec32bc3d6a31041c7"), looks := true }, kinds := [], alts := [], laidByText := true, laidKinds := [.data, .data, .data, .sentinel, .sentinel, .sentinel], laidTests := true, laidLooks := .later }
def DeeperUptoCardSaid : Prop := Claim7.holds Tryz.pinned (.plain (OpenSpec.upto deeperSpec)) deeperUptoCard

/-- THE SECOND FORM's CARD OF 'marshalkeep.Inside'. -/
def insideUptoCard : Claim7 := { stood := { row := insideUptoRow, standIns := [], harness := (true, "b6e006394a9768153754fe279c44be8b0a2cf43334a3e78ec32bc3d6a31041c7"), looks := true }, kinds := [], alts := [], laidByText := true, laidKinds := [.data, .data, .data, .sentinel, .sentinel, .sentinel], laidTests := true, laidLooks := .later }
def InsideUptoCardSaid : Prop := Claim7.holds Tryz.pinned (.plain (OpenSpec.upto insideSpec)) insideUptoCard

/-- THE SECOND FORM's CARD OF 'marshalkeep.Tail'. -/
def tailUptoCard : Claim7 := { stood := { row := tailUptoRow, standIns := [], harness := (true, "b6e006394a9768153754fe279c44be8b0a2cf43334a3e78ec32bc3d6a31041c7"), looks := true }, kinds := [], alts := [], laidByText := true, laidKinds := [.data, .data, .data, .handle, .sentinel, .sentinel, .sentinel], laidTests := true, laidLooks := .later }
def TailUptoCardSaid : Prop := Claim7.holds Tryz.pinned (.plain (OpenSpec.upto tailSpec)) tailUptoCard

/-- THE SECOND FORM's CARD OF 'marshalkeep.Cut'. -/
def cutUptoCard : Claim7 := { stood := { row := cutUptoRow, standIns := [], harness := (true, "b6e006394a9768153754fe279c44be8b0a2cf43334a3e78ec32bc3d6a31041c7"), looks := true }, kinds := [], alts := [], laidByText := true, laidKinds := [.data, .data, .data, .sentinel, .sentinel, .sentinel], laidTests := true, laidLooks := .later }
def CutUptoCardSaid : Prop := Claim7.holds Tryz.pinned (.plain (OpenSpec.upto cutSpec)) cutUptoCard
end Rows
end Go.Proofs.YtmbcibgknckenaaGreatDoor
