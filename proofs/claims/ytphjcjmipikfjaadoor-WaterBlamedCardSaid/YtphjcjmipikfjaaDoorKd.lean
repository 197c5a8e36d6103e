/- A part of the proof: an evaluator of the program over plain values, proved sound, and what it gives. -/
import Derived.Test.YtphjcjmipikfjaaDoorTb
import Derived.Test.YtphjcjmipikfjaaDoorLa
set_option linter.all false
set_option maxRecDepth 1000000
namespace Go.Ab.B
open Go.Proofs
def vU (n : Nat) : AV := .c (.p (.int .u64 n))
def vJ (n : Nat) : AV := .c (.p (.int .i64 n))
theorem run_has (hbs : BsOk Tryd.prog) : S.mapR (fun x => S.mapR (fun s => (ex (c0 hbs) 100 0 m_water_sourceSet_has ⟨ofL 0 [vU x, vJ s] .lf, []⟩ (endK F_water_sourceSet_has.rs (chkK (vB (S.hasB x s))) fun _ _ => .no)).end) 8) 256 = S.mapR (fun _ => S.mapR (fun _ => some True) 8) 256 := by kernel_rfl
theorem run_size (hbs : BsOk Tryd.prog) : S.mapR (fun x => (ex (c0 hbs) 100 0 m_water_sourceSet_size ⟨ofL 0 [vU x] .lf, []⟩ (endK F_water_sourceSet_size.rs (chkK (vJ (S.pc x))) fun _ _ => .no)).end) 256 = S.mapR (fun _ => some True) 256 := by kernel_rfl
def setsP (s : Nat) : AV := .c (.p (.isl 1 (S.stN s) fun i _ => .isl 1 (S.pc (S.stX s i)) (S.val (S.bitR (S.stX s i)))))
end Go.Ab.B
