/- A part of the proof: an evaluator of the program over plain values, proved sound, and what it gives. -/
import Derived.Test.YtmchhfpjdgfacaaDoorTb
set_option linter.all false
set_option maxRecDepth 1000000
namespace Go.Ab.B
open Go.Proofs
theorem run_load_Trip (hbs : BsOk Tryd.prog) : (ex (c1 hbs) 1000 0 m_load_Trip ⟨ofL 0 [rP, sp2 150 160, rT] .lf, []⟩ (endK F_load_Trip.rs (chkK r17) fun _ _ => .no)).end = some True := by kernel_rfl
end Go.Ab.B
