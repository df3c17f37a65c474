/-
  DERIVED. GIVEN WITH THE SEED: THE CARDS: each row of YtamlhbbphnamnaaDoorRows.lean that lists a variable, with what it lists TIED to the program's text (the seventh form; the later family's looks); each row that meets fmt, with fmt's text TOLD by the authors' own Lean function (tested against real Go, not proved from fmt's source: count such statements apart). THE CARD IS WHAT COUNTS. Prove the row's statement (the work); the ties are given (YtamlhbbphnamnaaDoorTie.lean); close each card by the builder's one call (the guide's Derived/Test/ToyasCard.lean, 'card_holds'). Laid BY PROGRAM, IN A SANDBOX (cutbox-door.mjs). By AI agents, Wed Nov 11 2026. No macro, syntax, notation, axiom, sorry.
-/
import Derived.Test.YtamlhbbphnamnaaDoorRows
import GoSem.ClaimSeven
namespace Go.Proofs.YtamlhbbphnamnaaDoor
namespace Rows

/-- THE TIED CARD OF 'burrowlaw02.KdfTag'. -/
def kdfTagCard : Claim7 := { stood := { row := kdfTagRow, standIns := [], harness := (true, "339fe6a59ee4b043295e9be661c9710f4aad7406125a19521f2da4744d093ae4"), looks := true }, kinds := [], alts := [], laidByText := true, laidKinds := [.data, .data], laidTests := true, laidLooks := .later }
def KdfTagCardSaid : Prop := Claim7.holds Tryd.pinned (.plain (OpenSpec.ofChange kdfTagSpec)) kdfTagCard

/-- THE TIED CARD OF 'burrowlaw02.KdfExpands'. -/
def kdfExpandsCard : Claim7 := { stood := { row := kdfExpandsRow, standIns := [], harness := (true, "339fe6a59ee4b043295e9be661c9710f4aad7406125a19521f2da4744d093ae4"), looks := true }, kinds := [], alts := [], laidByText := true, laidKinds := [.data, .data], laidTests := true, laidLooks := .later }
def KdfExpandsCardSaid : Prop := Claim7.holds Tryd.pinned (.plain (OpenSpec.ofChange kdfExpandsSpec)) kdfExpandsCard

/-- THE TIED CARD OF 'burrowlaw02.KdfSecrets'. -/
def kdfSecretsCard : Claim7 := { stood := { row := kdfSecretsRow, standIns := [], harness := (true, "339fe6a59ee4b043295e9be661c9710f4aad7406125a19521f2da4744d093ae4"), looks := true }, kinds := [], alts := [], laidByText := true, laidKinds := [.data, .data], laidTests := true, laidLooks := .later }
def KdfSecretsCardSaid : Prop := Claim7.holds Tryd.pinned (.plain (OpenSpec.ofChange kdfSecretsSpec)) kdfSecretsCard

/-- THE TIED CARD OF 'burrowlaw02.KdfBegins'. -/
def kdfBeginsCard : Claim7 := { stood := { row := kdfBeginsRow, standIns := [], harness := (true, "339fe6a59ee4b043295e9be661c9710f4aad7406125a19521f2da4744d093ae4"), looks := true }, kinds := [], alts := [], laidByText := true, laidKinds := [.data, .data], laidTests := true, laidLooks := .later }
def KdfBeginsCardSaid : Prop := Claim7.holds Tryd.pinned (.plain (OpenSpec.ofChange kdfBeginsSpec)) kdfBeginsCard

/-- THE TIED CARD OF 'burrowlaw02.KdfKeys'. -/
def kdfKeysCard : Claim7 := { stood := { row := kdfKeysRow, standIns := [], harness := (true, "339fe6a59ee4b043295e9be661c9710f4aad7406125a19521f2da4744d093ae4"), looks := true }, kinds := [], alts := [], laidByText := true, laidKinds := [.data, .data], laidTests := true, laidLooks := .later }
def KdfKeysCardSaid : Prop := Claim7.holds Tryd.pinned (.plain (OpenSpec.ofChange kdfKeysSpec)) kdfKeysCard

/-- THE TIED CARD OF 'burrowlaw18.SchedContexts'. -/
def schedContextsCard : Claim7 := { stood := { row := schedContextsRow, standIns := [], harness := (true, "339fe6a59ee4b043295e9be661c9710f4aad7406125a19521f2da4744d093ae4"), looks := true }, kinds := [], alts := [], laidByText := true, laidKinds := [.data, .data], laidTests := true, laidLooks := .later }
def SchedContextsCardSaid : Prop := Claim7.holds Tryd.pinned (.plain (OpenSpec.ofChange schedContextsSpec)) schedContextsCard

/-- THE TIED CARD OF 'burrowlaw18.SchedNext'. -/
def schedNextCard : Claim7 := { stood := { row := schedNextRow, standIns := [], harness := (true, "339fe6a59ee4b043295e9be661c9710f4aad7406125a19521f2da4744d093ae4"), looks := true }, kinds := [], alts := [], laidByText := true, laidKinds := [.data, .data], laidTests := true, laidLooks := .later }
def SchedNextCardSaid : Prop := Claim7.holds Tryd.pinned (.plain (OpenSpec.ofChange schedNextSpec)) schedNextCard

/-- THE TIED CARD OF 'burrowlaw18.SchedJoins'. -/
def schedJoinsCard : Claim7 := { stood := { row := schedJoinsRow, standIns := [], harness := (true, "339fe6a59ee4b043295e9be661c9710f4aad7406125a19521f2da4744d093ae4"), looks := true }, kinds := [], alts := [], laidByText := true, laidKinds := [.data, .data], laidTests := true, laidLooks := .later }
def SchedJoinsCardSaid : Prop := Claim7.holds Tryd.pinned (.plain (OpenSpec.ofChange schedJoinsSpec)) schedJoinsCard

/-- THE TIED CARD OF 'burrowlaw18.SchedScripts'. -/
def schedScriptsCard : Claim7 := { stood := { row := schedScriptsRow, standIns := [], harness := (true, "339fe6a59ee4b043295e9be661c9710f4aad7406125a19521f2da4744d093ae4"), looks := true }, kinds := [], alts := [], laidByText := true, laidKinds := [.data, .data], laidTests := true, laidLooks := .later }
def SchedScriptsCardSaid : Prop := Claim7.holds Tryd.pinned (.plain (OpenSpec.ofChange schedScriptsSpec)) schedScriptsCard

/-- THE TIED CARD OF 'burrowlaw18.SchedFollows'. -/
def schedFollowsCard : Claim7 := { stood := { row := schedFollowsRow, standIns := [], harness := (true, "339fe6a59ee4b043295e9be661c9710f4aad7406125a19521f2da4744d093ae4"), looks := true }, kinds := [], alts := [], laidByText := true, laidKinds := [.data, .data], laidTests := true, laidLooks := .later }
def SchedFollowsCardSaid : Prop := Claim7.holds Tryd.pinned (.plain (OpenSpec.ofChange schedFollowsSpec)) schedFollowsCard

/-- THE SECOND FORM's CARD OF 'burrowlaw02.KdfTag'. -/
def kdfTagUptoCard : Claim7 := { stood := { row := kdfTagUptoRow, standIns := [], harness := (true, "339fe6a59ee4b043295e9be661c9710f4aad7406125a19521f2da4744d093ae4"), looks := true }, kinds := [], alts := [], laidByText := true, laidKinds := [.data, .data], laidTests := true, laidLooks := .later }
def KdfTagUptoCardSaid : Prop := Claim7.holds Tryd.pinned (.plain (OpenSpec.upto kdfTagSpec)) kdfTagUptoCard

/-- THE SECOND FORM's CARD OF 'burrowlaw02.KdfExpands'. -/
def kdfExpandsUptoCard : Claim7 := { stood := { row := kdfExpandsUptoRow, standIns := [], harness := (true, "339fe6a59ee4b043295e9be661c9710f4aad7406125a19521f2da4744d093ae4"), looks := true }, kinds := [], alts := [], laidByText := true, laidKinds := [.data, .data], laidTests := true, laidLooks := .later }
def KdfExpandsUptoCardSaid : Prop := Claim7.holds Tryd.pinned (.plain (OpenSpec.upto kdfExpandsSpec)) kdfExpandsUptoCard

/-- THE SECOND FORM's CARD OF 'burrowlaw02.KdfSecrets'. -/
def kdfSecretsUptoCard : Claim7 := { stood := { row := kdfSecretsUptoRow, standIns := [], harness := (true, "339fe6a59ee4b043295e9be661c9710f4aad7406125a19521f2da4744d093ae4"), looks := true }, kinds := [], alts := [], laidByText := true, laidKinds := [.data, .data], laidTests := true, laidLooks := .later }
def KdfSecretsUptoCardSaid : Prop := Claim7.holds Tryd.pinned (.plain (OpenSpec.upto kdfSecretsSpec)) kdfSecretsUptoCard

/-- THE SECOND FORM's CARD OF 'burrowlaw02.KdfBegins'. -/
def kdfBeginsUptoCard : Claim7 := { stood := { row := kdfBeginsUptoRow, standIns := [], harness := (true, "339fe6a59ee4b043295e9be661c9710f4aad7406125a19521f2da4744d093ae4"), looks := true }, kinds := [], alts := [], laidByText := true, laidKinds := [.data, .data], laidTests := true, laidLooks := .later }
def KdfBeginsUptoCardSaid : Prop := Claim7.holds Tryd.pinned (.plain (OpenSpec.upto kdfBeginsSpec)) kdfBeginsUptoCard

/-- THE SECOND FORM's CARD OF 'burrowlaw02.KdfKeys'. -/
def kdfKeysUptoCard : Claim7 := { stood := { row := kdfKeysUptoRow, standIns := [], harness := (true, "339fe6a59ee4b043295e9be661c9710f4aad7406125a19521f2da4744d093ae4"), looks := true }, kinds := [], alts := [], laidByText := true, laidKinds := [.data, .data], laidTests := true, laidLooks := .later }
def KdfKeysUptoCardSaid : Prop := Claim7.holds Tryd.pinned (.plain (OpenSpec.upto kdfKeysSpec)) kdfKeysUptoCard

/-- THE SECOND FORM's CARD OF 'burrowlaw18.SchedContexts'. -/
def schedContextsUptoCard : Claim7 := { stood := { row := schedContextsUptoRow, standIns := [], harness := (true, "339fe6a59ee4b043295e9be661c9710f4aad7406125a19521f2da4744d093ae4"), looks := true }, kinds := [], alts := [], laidByText := true, laidKinds := [.data, .data], laidTests := true, laidLooks := .later }
def SchedContextsUptoCardSaid : Prop := Claim7.holds Tryd.pinned (.plain (OpenSpec.upto schedContextsSpec)) schedContextsUptoCard

/-- THE SECOND FORM's CARD OF 'burrowlaw18.SchedNext'. -/
def schedNextUptoCard : Claim7 := { stood := { row := schedNextUptoRow, standIns := [], harness := (true, "339fe6a59ee4b043295e9be661c9710f4aad7406125a19521f2da4744d093ae4"), looks := true }, kinds := [], alts := [], laidByText := true, laidKinds := [.data, .data], laidTests := true, laidLooks := .later }
def SchedNextUptoCardSaid : Prop := Claim7.holds Tryd.pinned (.plain (OpenSpec.upto schedNextSpec)) schedNextUptoCard

/-- THE SECOND FORM's CARD OF 'burrowlaw18.SchedJoins'. -/
def schedJoinsUptoCard : Claim7 := { stood := { row := schedJoinsUptoRow, standIns := [], harness := (true, "339fe6a59ee4b043295e9be661c9710f4aad7406125a19521f2da4744d093ae4"), looks := true }, kinds := [], alts := [], laidByText := true, laidKinds := [.data, .data], laidTests := true, laidLooks := .later }
def SchedJoinsUptoCardSaid : Prop := Claim7.holds Tryd.pinned (.plain (OpenSpec.upto schedJoinsSpec)) schedJoinsUptoCard

/-- THE SECOND FORM's CARD OF 'burrowlaw18.SchedScripts'. -/
def schedScriptsUptoCard : Claim7 := { stood := { row := schedScriptsUptoRow, standIns := [], harness := (true, "339fe6a59ee4b043295e9be661c9710f4aad7406125a19521f2da4744d093ae4"), looks := true }, kinds := [], alts := [], laidByText := true, laidKinds := [.data, .data], laidTests := true, laidLooks := .later }
def SchedScriptsUptoCardSaid : Prop := Claim7.holds Tryd.pinned (.plain (OpenSpec.upto schedScriptsSpec)) schedScriptsUptoCard

/-- THE SECOND FORM's CARD OF 'burrowlaw18.SchedFollows'. -/
def schedFollowsUptoCard : Claim7 := { stood := { row := schedFollowsUptoRow, standIns := [], harness := (true, "339fe6a59ee4b043295e9be661c9710f4aad7406125a19521f2da4744d093ae4"), looks := true }, kinds := [], alts := [], laidByText := true, laidKinds := [.data, .data], laidTests := true, laidLooks := .later }
def SchedFollowsUptoCardSaid : Prop := Claim7.holds Tryd.pinned (.plain (OpenSpec.upto schedFollowsSpec)) schedFollowsUptoCard
end Rows
end Go.Proofs.YtamlhbbphnamnaaDoor
