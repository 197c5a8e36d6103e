/- A part of the proof: an evaluator of the program over plain values, proved sound, and what it gives. -/
import Derived.Test.YthfkaopnphjlkaaGreatDoorTb
set_option linter.all false
set_option maxRecDepth 1000000
namespace Go.Ab.B
open Go.Proofs
theorem zt6 (hbs : BsOk Tryz.prog) : (ex (c1 hbs) 1000 0 zkt ⟨ofL 0 [rP, rT] .lf, []⟩ (endK z7l.rs (chkK r19) fun _ _ => .no)).end = some True := by kernel_rfl
end Go.Ab.B
