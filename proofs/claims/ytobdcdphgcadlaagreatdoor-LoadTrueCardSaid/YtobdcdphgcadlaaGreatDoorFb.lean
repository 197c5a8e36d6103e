/- What the proofs of this seat's laws share: the listed tables, and planes as plain values. -/
import Derived.Test.YtobdcdphgcadlaaGreatDoorFa
import Derived.Test.YtobdcdphgcadlaaGreatDoorRows
import Derived.WalkKit
import Derived.ProofKit
import Derived.OpenShut
import Derived.LaidMore
import Derived.MakeChecks
import Derived.Lib.LaidTab
import Derived.Stop.LaidErr
set_option linter.all false
set_option maxRecDepth 100000
namespace Go.Proofs.YtobdcdphgcadlaaGreatDoor
open Go.ChangeShapes Go.WideShapes Go.ChangeAt Go.RowKit Go.Ab Go.Ab.B
theorem ownX : ownKnob Tryz.prog.godebug = none := by kernel_rfl
theorem laidOutX : laidOutB Tryz.prog = true := by kernel_rfl
theorem door_met (os : Os) (args : Array Value) : laidMetH Tryz.prog Rows.loadTrueRow.laid ((World.doorLaid Tryz.prog 42 os).forCall (fun _ _ => 0) ⟨#[], args, []⟩).memory :=
  laidMetH_of_parts3 (fuel := 8) (laidMet_of_run' 8 (by kernel_rfl) (by kernel_rfl)) (by kernel_rfl) (by kernel_rfl)
theorem tab_of {W : World} (h : laidMetH Tryz.prog Rows.loadTrueRow.laid W) : Lib.TabIs Tryz.prog W "internal/strconv.uint64pow10" .u64 Lib.pow10Tab := by
  rw [MakeChecks.laidMetH_plain _ _ _ (by kernel_rfl)] at h
  have h2 := laidMet.tail (laidMet.tail h)
  have e : (Rows.laid_internal_strconv_uint64pow10 : DataW Unit) = Lib.tabData .u64 Lib.pow10Tab := by kernel_rfl
  rw [e] at h2
  exact Lib.tabIs_of_head (t := t_ar20_uint64) (e := t_uint64) (n := 20) g0 (by kernel_rfl) (by kernel_rfl) (by kernel_rfl) (by kernel_rfl) (by kernel_rfl) h2
def plT : List TS := [.int .i64, .int .i64, .int .i64, .int .i64, .sl [.int .i64, .int .i64], .sl [.int .i64, .int .i64], .int .i64, .int .i64, .int .i64, .sl [.int .i64, .int .i64]]
theorem flat27 : flatTS Tryz.prog 4 t_api_Plane = some plT := by kernel_rfl
abbrev rowN (v : PV) : S.Rows := fun i j => intOf (rowOf v i j)
theorem like_row (v : PV) : LikeC (.p (cnv (.sl [.int .i64, .int .i64]) v)) (.p (.isl 2 (lenOf v) (S.val (rowN v)))) :=
  .inr ⟨rfl, rfl, fun i j hi hj => by
    match j, hj with
    | 0, _ => rfl
    | 1, _ => rfl⟩
theorem like_plane (g : Nat → PV) : LikeA (argA plT true g) (.ag (plC (intOf (g 0)) (intOf (g 1)) (intOf (g 2)) (intOf (g 3)) (lenOf (g 4)) (S.val (rowN (g 4))) (lenOf (g 5)) (S.val (rowN (g 5))) (intOf (g 6)) (intOf (g 7)) (intOf (g 8)) (lenOf (g 9)) (S.val (rowN (g 9))))) :=
  ⟨.inl rfl, .inl rfl, .inl rfl, .inl rfl, like_row _, like_row _, .inl rfl, .inl rfl, .inl rfl, like_row _, trivial⟩
def ptT : List TS := [.sl [.int .i64, .int .i64, .int .i64], .int .i64, .int .i64, .sl [.int .i64, .int .i64], .bool]
theorem flatPt : flatTS Tryz.prog 6 t_api_LoadPoint = some ptT := by kernel_rfl
theorem like_row3 (v : PV) : LikeC (.p (cnv (.sl [.int .i64, .int .i64, .int .i64]) v)) (.p (.isl 3 (lenOf v) (S.val (rowN v)))) :=
  .inr ⟨rfl, rfl, fun i j hi hj => by
    match j, hj with
    | 0, _ => rfl
    | 1, _ => rfl
    | 2, _ => rfl⟩
theorem like_row1 (v : PV) : LikeC (.p (cnv (.sl [.int .i64]) v)) (.p (.isl 1 (lenOf v) (S.val (rowN v)))) :=
  .inr ⟨rfl, rfl, fun i j hi hj => by
    match j, hj with
    | 0, _ => rfl⟩
theorem like_point (g : Nat → PV) : LikeA (argA ptT true g) (.ag (ptC (lenOf (g 0)) (S.val (rowN (g 0))) (intOf (g 1)) (intOf (g 2)) (lenOf (g 3)) (S.val (rowN (g 3))) (boolOf (g 4)))) :=
  ⟨like_row3 _, .inl rfl, .inl rfl, like_row _, .inl rfl, trivial⟩
def inT : List TS := [.sl [.int .i64]]
theorem flatIn : flatTS Tryz.prog 4 t_sl_int = some inT := by kernel_rfl
theorem like_ints (g : Nat → PV) : LikeA (argA inT false g) (.c (.p (.isl 1 (lenOf (g 0)) (S.val (rowN (g 0)))))) := like_row1 _
end Go.Proofs.YtobdcdphgcadlaaGreatDoor
