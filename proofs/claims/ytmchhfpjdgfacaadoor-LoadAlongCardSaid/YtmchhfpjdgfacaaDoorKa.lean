/- A part of the proof: an evaluator of the program over plain values, proved sound, and what it gives. -/
import Derived.Test.YtmchhfpjdgfacaaDoorTb
set_option linter.all false
set_option maxRecDepth 1000000
namespace Go.Ab.B
open Go.Proofs
theorem run_law02_P (hbs : BsOk Tryd.prog) : (ex (c0 hbs) 1000 0 m_law02_P ⟨ofL 0 [] .lf, []⟩ (endK F_law02_P.rs (chkK rP) fun _ _ => .no)).end = some True := by kernel_rfl
end Go.Ab.B
namespace Go.Ab.B
open Go.Proofs
theorem run_law02_T (hbs : BsOk Tryd.prog) : (ex (c0 hbs) 1000 0 m_law02_T ⟨ofL 0 [] .lf, []⟩ (endK F_law02_T.rs (chkK rT) fun _ _ => .no)).end = some True := by kernel_rfl
end Go.Ab.B
namespace Go.Ab.B
open Go.Proofs
theorem run_load_planeFine (hbs : BsOk Tryd.prog) : (ex (c0 hbs) 1000 0 m_load_planeFine ⟨ofL 0 [rP] .lf, []⟩ (endK F_load_planeFine.rs (chkK (vB true)) fun _ _ => .no)).end = some True := by kernel_rfl
end Go.Ab.B
namespace Go.Ab.B
open Go.Proofs
theorem run_load_Sure (hbs : BsOk Tryd.prog) : (ex (c1 hbs) 1000 0 m_load_Sure ⟨ofL 0 [rP, aX] .lf, []⟩ (endK F_load_Sure.rs (chkK r20) fun _ _ => .no)).end = some True := by kernel_rfl
end Go.Ab.B
namespace Go.Ab.B
open Go.Proofs
theorem run_load_Print (hbs : BsOk Tryd.prog) : (ex (c1 hbs) 1000 0 m_load_Print ⟨ofL 0 [sp2 150 160, rT] .lf, []⟩ (endK F_load_Print.rs (chkK r24) fun _ _ => .no)).end = some True := by kernel_rfl
end Go.Ab.B
