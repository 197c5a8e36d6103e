/- A part of the proof: an evaluator of the program over plain values, proved sound, and what it gives. -/
import Derived.Test.YthfkaopnphjlkaaGreatDoorTb
set_option linter.all false
set_option maxRecDepth 1000000
namespace Go.Ab.B
open Go.Proofs
theorem zw0 (hbs : BsOk Tryz.prog) : (ex (c0 hbs) 1000 0 zrm ⟨ofL 0 [] .lf, []⟩ (endK z9z.rs (chkK rP) fun _ _ => .no)).end = some True := by kernel_rfl
end Go.Ab.B
namespace Go.Ab.B
open Go.Proofs
theorem zvt (hbs : BsOk Tryz.prog) : (ex (c0 hbs) 1000 0 zrn ⟨ofL 0 [] .lf, []⟩ (endK za0.rs (chkK rT) fun _ _ => .no)).end = some True := by kernel_rfl
end Go.Ab.B
namespace Go.Ab.B
open Go.Proofs
theorem zia (hbs : BsOk Tryz.prog) : (ex (c0 hbs) 1000 0 z80 ⟨ofL 0 [rP] .lf, []⟩ (endK z2c.rs (chkK (vB true)) fun _ _ => .no)).end = some True := by kernel_rfl
end Go.Ab.B
namespace Go.Ab.B
open Go.Proofs
theorem zt2 (hbs : BsOk Tryz.prog) : (ex (c1 hbs) 1000 0 zcv ⟨ofL 0 [rP, aX] .lf, []⟩ (endK z2j.rs (chkK r20) fun _ _ => .no)).end = some True := by kernel_rfl
end Go.Ab.B
namespace Go.Ab.B
open Go.Proofs
theorem zqm (hbs : BsOk Tryz.prog) : (ex (c1 hbs) 1000 0 zh0 ⟨ofL 0 [sp2 150 160, rT] .lf, []⟩ (endK z6j.rs (chkK r24) fun _ _ => .no)).end = some True := by kernel_rfl
end Go.Ab.B
