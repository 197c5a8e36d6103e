/- A part of the proof: an evaluator of the program over plain values, proved sound, and what it gives. -/
import Derived.Test.YtedlbcnomlpkfabDoorTb
set_option linter.all false
set_option maxRecDepth 1000000
namespace Go.Ab.B
open Go.Proofs
theorem run8 (hbs : BsOk Tryd.prog) : (ex (c2 hbs) 1000 0 m8 ⟨ofL 0 [] .lf, []⟩ (endK F8.rs (chkK (vB true)) fun _ _ => .no)).end = some True := by kernel_rfl
end Go.Ab.B
