/- A part of the proof: an evaluator of the program over plain values, proved sound, and what it gives. -/
import Derived.Test.YtibcmmnobjhbeaaDoorTb
set_option linter.all false
set_option maxRecDepth 1000000
namespace Go.Ab.B
open Go.Proofs
theorem run_law01_Gauge (hbs : BsOk Tryd.prog) : (ex (c0 hbs) 3000 0 m_law01_Gauge ⟨ofL 0 [] .lf, []⟩ (endK F_law01_Gauge.rs (chkK rGauge) fun _ _ => .no)).end = some True := by kernel_rfl
theorem run_law01_Sea (hbs : BsOk Tryd.prog) : (ex (c0 hbs) 3000 0 m_law01_Sea ⟨ofL 0 [] .lf, []⟩ (endK F_law01_Sea.rs (chkK rSea) fun _ _ => .no)).end = some True := by kernel_rfl
theorem run_law01_Strip (hbs : BsOk Tryd.prog) : (ex (c0 hbs) 3000 0 m_law01_Strip ⟨ofL 0 [] .lf, []⟩ (endK F_law01_Strip.rs (chkK rStrip) fun _ _ => .no)).end = some True := by kernel_rfl
theorem run_law01_Need (hbs : BsOk Tryd.prog) : (ex (c0 hbs) 3000 0 m_law01_Need ⟨ofL 0 [] .lf, []⟩ (endK F_law01_Need.rs (chkK rNeed) fun _ _ => .no)).end = some True := by kernel_rfl
end Go.Ab.B
namespace Go.Ab.B
open Go.Proofs
theorem run_water_Clash (hbs : BsOk Tryd.prog) : (ex (c1 hbs) 3000 0 m_water_Clash ⟨ofL 0 [rGauge] .lf, []⟩ (endK F_water_Clash.rs (chkK rClash) fun _ _ => .no)).end = some True := by kernel_rfl
end Go.Ab.B
namespace Go.Ab.B
open Go.Proofs
theorem run_water_Sure (hbs : BsOk Tryd.prog) : (ex (c1 hbs) 3000 0 m_water_Sure ⟨ofL 0 [rSea, rStrip, rNeed, cI 300] .lf, []⟩ (endK F_water_Sure.rs (chkK rSure) fun _ _ => .no)).end = some True := by kernel_rfl
end Go.Ab.B
namespace Go.Ab.B
open Go.Proofs
theorem run_water_Print (hbs : BsOk Tryd.prog) : (ex (c1 hbs) 3000 0 m_water_Print ⟨ofL 0 [aWe] .lf, []⟩ (endK F_water_Print.rs (chkK rPrint) fun _ _ => .no)).end = some True := by kernel_rfl
end Go.Ab.B
namespace Go.Ab.B
open Go.Proofs
theorem run_law01_known (hbs : BsOk Tryd.prog) : (ex (c2 hbs) 3000 0 m_law01_known ⟨ofL 0 [] .lf, []⟩ (endK F_law01_known.rs (chkK (vB true)) fun _ _ => .no)).end = some True := by kernel_rfl
end Go.Ab.B
