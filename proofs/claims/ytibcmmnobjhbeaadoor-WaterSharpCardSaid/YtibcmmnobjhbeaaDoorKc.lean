/- A part of the proof: an evaluator of the program over plain values, proved sound, and what it gives. -/
import Derived.Test.YtibcmmnobjhbeaaDoorTb
set_option linter.all false
set_option maxRecDepth 1000000
namespace Go.Ab.B
open Go.Proofs
theorem run_water_Deepest (hbs : BsOk Tryd.prog) : (ex (c1 hbs) 3000 0 m_water_Deepest ⟨ofL 0 [rSea, rStrip, cI 1, cI 650] .lf, []⟩ (endK F_water_Deepest.rs (chkK rDeep) fun _ _ => .no)).end = some True := by kernel_rfl
end Go.Ab.B
