/- A part of the proof: an evaluator of the program over plain values, proved sound, and what it gives. -/
import Derived.Test.YthfkaopnphjlkaaGreatDoorTb
set_option linter.all false
set_option maxRecDepth 1000000
namespace Go.Ab.B
open Go.Proofs
theorem zop (hbs : BsOk Tryz.prog) : (ex (c2 hbs) 1000 0 zez ⟨ofL 0 [] .lf, []⟩ (endK z5u.rs (chkK (vB true)) fun _ _ => .no)).end = some True := by kernel_rfl
end Go.Ab.B
