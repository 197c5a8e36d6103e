/- A part of the proof: an evaluator of the program over plain values, proved sound, and what it gives. -/
import Derived.Test.YtedlbcnomlpkfabDoorTb
set_option linter.all false
set_option maxRecDepth 1000000
namespace Go.Ab.B
open Go.Proofs
theorem run21 (hbs : BsOk Tryd.prog) : (ex (c0 hbs) 1000 0 m21 ⟨ofL 0 [] .lf, []⟩ (endK F21.rs (chkK rP) fun _ _ => .no)).end = some True := by kernel_rfl
end Go.Ab.B
set_option linter.all false
set_option maxRecDepth 1000000
namespace Go.Ab.B
open Go.Proofs
theorem run22 (hbs : BsOk Tryd.prog) : (ex (c0 hbs) 1000 0 m22 ⟨ofL 0 [] .lf, []⟩ (endK F22.rs (chkK rT) fun _ _ => .no)).end = some True := by kernel_rfl
end Go.Ab.B
set_option linter.all false
set_option maxRecDepth 1000000
namespace Go.Ab.B
open Go.Proofs
theorem run27 (hbs : BsOk Tryd.prog) : (ex (c0 hbs) 1000 0 m27 ⟨ofL 0 [rP] .lf, []⟩ (endK F27.rs (chkK (vB true)) fun _ _ => .no)).end = some True := by kernel_rfl
end Go.Ab.B
set_option linter.all false
set_option maxRecDepth 1000000
namespace Go.Ab.B
open Go.Proofs
theorem run20 (hbs : BsOk Tryd.prog) : (ex (c1 hbs) 1000 0 m20 ⟨ofL 0 [rP, aX] .lf, []⟩ (endK F20.rs (chkK r20) fun _ _ => .no)).end = some True := by kernel_rfl
end Go.Ab.B
set_option linter.all false
set_option maxRecDepth 1000000
namespace Go.Ab.B
open Go.Proofs
theorem run24 (hbs : BsOk Tryd.prog) : (ex (c1 hbs) 1000 0 m24 ⟨ofL 0 [sp2 150 160, rT] .lf, []⟩ (endK F24.rs (chkK r24) fun _ _ => .no)).end = some True := by kernel_rfl
end Go.Ab.B
