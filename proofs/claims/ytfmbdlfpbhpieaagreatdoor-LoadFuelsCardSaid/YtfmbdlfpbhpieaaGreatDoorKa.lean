/- A part of the proof: an evaluator of the program over plain values, proved sound, and what it gives. -/
import Derived.Test.YtfmbdlfpbhpieaaGreatDoorTb
set_option linter.all false
set_option maxRecDepth 1000000
namespace Go.Ab.B
open Go.Proofs
theorem zse (hbs : BsOk Tryz.prog) : (ex (c0 hbs) 1000 0 zo3 ⟨ofL 0 [] .lf, []⟩ (endK z8j.rs (chkK rP) fun _ _ => .no)).end = some True := by kernel_rfl
end Go.Ab.B
namespace Go.Ab.B
open Go.Proofs
theorem zs6 (hbs : BsOk Tryz.prog) : (ex (c0 hbs) 1000 0 zo4 ⟨ofL 0 [] .lf, []⟩ (endK z8k.rs (chkK rT) fun _ _ => .no)).end = some True := by kernel_rfl
end Go.Ab.B
namespace Go.Ab.B
open Go.Proofs
theorem zfy (hbs : BsOk Tryz.prog) : (ex (c0 hbs) 1000 0 z6y ⟨ofL 0 [rP] .lf, []⟩ (endK z1j.rs (chkK (vB true)) fun _ _ => .no)).end = some True := by kernel_rfl
end Go.Ab.B
namespace Go.Ab.B
open Go.Proofs
theorem zpi (hbs : BsOk Tryz.prog) : (ex (c1 hbs) 1000 0 zi3 ⟨ofL 0 [rP, aX] .lf, []⟩ (endK z6h.rs (chkK r20) fun _ _ => .no)).end = some True := by kernel_rfl
end Go.Ab.B
namespace Go.Ab.B
open Go.Proofs
theorem zn8 (hbs : BsOk Tryz.prog) : (ex (c1 hbs) 1000 0 zeo ⟨ofL 0 [sp2 150 160, rT] .lf, []⟩ (endK z5j.rs (chkK r24) fun _ _ => .no)).end = some True := by kernel_rfl
end Go.Ab.B
