/- A part of the proof: an evaluator of the program over plain values, proved sound, and what it gives. -/
import Derived.Test.YtmchhfpjdgfacaaDoorTb
set_option linter.all false
set_option maxRecDepth 1000000
namespace Go.Ab.B
open Go.Proofs
theorem run_load_Take (hbs : BsOk Tryd.prog) : (ex (c1 hbs) 1000 0 m_load_Take ⟨ofL 0 [rP, sp2 100 100, aLegs, aPeople] .lf, []⟩ (endK F_load_Take.rs (chkK r23) fun _ _ => .no)).end = some True := by kernel_rfl
end Go.Ab.B
