/-
  DERIVED. GIVEN WITH THE SEED: THE PROGRAM's TIES (one call each: nine closed facts by the kernel) AND EACH ROW's TIE, after the 31st guide's Derived/Test/Toyas{Tie, Card}.lean. No idea stands in it: it is a product of the set-up. Laid BY PROGRAM, IN A SANDBOX (cutbox-door.mjs). By AI agents, Wed Nov 11 2026. No macro, syntax, notation, axiom, sorry.
-/
import Derived.Test.YtfhghlpfeeiaeaaGreatDoorRows
import Derived.LaidByTextLater
import Derived.SevenTiedAt
import Derived.LaidSub
import Derived.LaidOnce
namespace Go.Proofs.YtfhghlpfeeiaeaaGreatDoor
open Go
set_option maxRecDepth 100000
theorem seatTie1 : Tryz.prog.laidByTextLater [("loomwork/kinds.operators", Rows.laid_loomwork_kinds_operators), ("loomwork/sys.partCounts", Rows.laid_loomwork_sys_partCounts)] [.data, .data] true :=
  Program.laidByTextLater_by_one 33 8 46 (by kernel_rfl) (by kernel_rfl) (by kernel_rfl) (by kernel_rfl) (by kernel_rfl) (by kernel_rfl) (fun _ _ => by kernel_rfl)
theorem noOwnUnsafe : Tryz.pinned.checked.prog.headLifts.contains "ownunsafe" = false := by kernel_rfl
theorem tie : Tryz.prog.laidByTextLater [("loomwork/kinds.operators", Rows.laid_loomwork_kinds_operators), ("loomwork/sys.partCounts", Rows.laid_loomwork_sys_partCounts)] [.data, .data] true :=
  Program.laidByTextLater.sub seatTie1 ["loomwork/kinds.operators", "loomwork/sys.partCounts"] (by kernel_rfl) (by kernel_rfl)
theorem deadSame_row_tie : Rows.deadSameRow.laidByTextAt .later Tryz.pinned [.data, .data] true :=
  OpenClaim.laidByTextAt_later rfl rfl tie noOwnUnsafe
theorem deadSameUpto_row_tie : Rows.deadSameUptoRow.laidByTextAt .later Tryz.pinned [.data, .data] true :=
  OpenClaim.laidByTextAt_later rfl rfl tie noOwnUnsafe
end Go.Proofs.YtfhghlpfeeiaeaaGreatDoor
