/- A part of the proof: an evaluator of the program over plain values, proved sound, and what it gives. -/
import Derived.Test.YthfkaopnphjlkaaGreatDoorTb
set_option linter.all false
set_option maxRecDepth 1000000
namespace Go.Ab.B
open Go.Proofs
theorem zt4 (hbs : BsOk Tryz.prog) : (ex (c1 hbs) 1000 0 zks ⟨ofL 0 [rP, sp2 150 160, rT] .lf, []⟩ (endK z7k.rs (chkK r17) fun _ _ => .no)).end = some True := by kernel_rfl
end Go.Ab.B
