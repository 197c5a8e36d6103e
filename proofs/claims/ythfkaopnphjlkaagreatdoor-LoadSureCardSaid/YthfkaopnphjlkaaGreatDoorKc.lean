/- A part of the proof: an evaluator of the program over plain values, proved sound, and what it gives. -/
import Derived.Test.YthfkaopnphjlkaaGreatDoorTb
set_option linter.all false
set_option maxRecDepth 1000000
namespace Go.Ab.B
open Go.Proofs
theorem zt8 (hbs : BsOk Tryz.prog) : (ex (c1 hbs) 1000 0 zku ⟨ofL 0 [rP, sp2 100 100, zxh, zpn] .lf, []⟩ (endK z7m.rs (chkK r23) fun _ _ => .no)).end = some True := by kernel_rfl
end Go.Ab.B
