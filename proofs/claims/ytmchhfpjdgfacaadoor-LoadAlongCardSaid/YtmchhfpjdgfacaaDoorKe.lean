/- A part of the proof: an evaluator of the program over plain values, proved sound, and what it gives. -/
import Derived.Test.YtmchhfpjdgfacaaDoorTb
set_option linter.all false
set_option maxRecDepth 1000000
namespace Go.Ab.B
open Go.Proofs
theorem run_law02_known (hbs : BsOk Tryd.prog) : (ex (c2 hbs) 1000 0 m_law02_known ⟨ofL 0 [] .lf, []⟩ (endK F_law02_known.rs (chkK (vB true)) fun _ _ => .no)).end = some True := by kernel_rfl
end Go.Ab.B
