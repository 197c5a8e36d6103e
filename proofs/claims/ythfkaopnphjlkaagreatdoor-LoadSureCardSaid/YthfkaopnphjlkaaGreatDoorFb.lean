/- What the proofs of this seat's laws share: the listed tables, and planes as plain values. -/
import Derived.Test.YthfkaopnphjlkaaGreatDoorFa
import Derived.Test.YthfkaopnphjlkaaGreatDoorRows
import Derived.WalkKit
import Derived.ProofKit
import Derived.OpenShut
import Derived.LaidMore
import Derived.MakeChecks
import Derived.Lib.LaidTab
import Derived.Stop.LaidErr
set_option linter.all false
set_option maxRecDepth 100000
namespace Go.Proofs.YthfkaopnphjlkaaGreatDoor
open Go.ChangeShapes Go.WideShapes Go.ChangeAt Go.RowKit Go.Ab Go.Ab.B
theorem ownX : ownKnob Tryz.prog.godebug = none := by kernel_rfl
theorem zvi : laidOutB Tryz.prog = true := by kernel_rfl
theorem z109 (os : Os) (args : Array Value) : laidMetH Tryz.prog Rows.loadSureRow.laid ((World.doorLaid Tryz.prog 42 os).forCall (fun _ _ => 0) ⟨#[], args, []⟩).memory :=
  laidMetH_of_parts3 (fuel := 8) (laidMet_of_run' 8 (by kernel_rfl) (by kernel_rfl)) (by kernel_rfl) (by kernel_rfl)
theorem z11q {W : World} (h : laidMetH Tryz.prog Rows.loadSureRow.laid W) : Lib.TabIs Tryz.prog W "internal/strconv.uint64pow10" .u64 Lib.pow10Tab := by
  rw [MakeChecks.laidMetH_plain _ _ _ (by kernel_rfl)] at h
  have h2 := laidMet.tail (laidMet.tail h)
  have e : (Rows.laid_internal_strconv_uint64pow10 : DataW Unit) = Lib.tabData .u64 Lib.pow10Tab := by kernel_rfl
  rw [e] at h2
  exact Lib.tabIs_of_head (t := zsy) (e := zzz) (n := 20) g0 (by kernel_rfl) (by kernel_rfl) (by kernel_rfl) (by kernel_rfl) (by kernel_rfl) h2
def plT : List TS := [.int .i64, .int .i64, .int .i64, .int .i64, .sl [.int .i64, .int .i64], .sl [.int .i64, .int .i64], .int .i64, .int .i64, .int .i64, .sl [.int .i64, .int .i64]]
theorem z11r : z8h Tryz.prog 4 zp = some plT := by kernel_rfl
abbrev rowN (v : PV) : S.Rows := fun i j => z2h (zn9 v i j)
theorem zes (v : PV) : zj2 (.p (cnv (.sl [.int .i64, .int .i64]) v)) (.p (.isl 2 (lenOf v) (S.val (rowN v)))) :=
  .inr ⟨rfl, rfl, fun i j hi hj => by
    match j, hj with
    | 0, _ => rfl
    | 1, _ => rfl⟩
theorem zy8 (g : Nat → PV) : zj3 (argA plT true g) (.ag (plC (z2h (g 0)) (z2h (g 1)) (z2h (g 2)) (z2h (g 3)) (lenOf (g 4)) (S.val (rowN (g 4))) (lenOf (g 5)) (S.val (rowN (g 5))) (z2h (g 6)) (z2h (g 7)) (z2h (g 8)) (lenOf (g 9)) (S.val (rowN (g 9))))) :=
  ⟨.inl rfl, .inl rfl, .inl rfl, .inl rfl, zes _, zes _, .inl rfl, .inl rfl, .inl rfl, zes _, trivial⟩
def ptT : List TS := [.sl [.int .i64, .int .i64, .int .i64], .int .i64, .int .i64, .sl [.int .i64, .int .i64], .bool]
theorem z11s : z8h Tryz.prog 6 zf = some ptT := by kernel_rfl
theorem zzh (v : PV) : zj2 (.p (cnv (.sl [.int .i64, .int .i64, .int .i64]) v)) (.p (.isl 3 (lenOf v) (S.val (rowN v)))) :=
  .inr ⟨rfl, rfl, fun i j hi hj => by
    match j, hj with
    | 0, _ => rfl
    | 1, _ => rfl
    | 2, _ => rfl⟩
theorem zy9 (g : Nat → PV) : zj3 (argA ptT true g) (.ag (ptC (lenOf (g 0)) (S.val (rowN (g 0))) (z2h (g 1)) (z2h (g 2)) (lenOf (g 3)) (S.val (rowN (g 3))) (zn8 (g 4)))) :=
  ⟨zzh _, .inl rfl, .inl rfl, zes _, .inl rfl, trivial⟩
end Go.Proofs.YthfkaopnphjlkaaGreatDoor
