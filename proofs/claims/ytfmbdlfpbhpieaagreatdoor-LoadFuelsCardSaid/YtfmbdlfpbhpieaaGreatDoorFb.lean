/- What the proofs of this seat's laws share: the listed tables, and planes as plain values. -/
import Derived.Test.YtfmbdlfpbhpieaaGreatDoorFa
import Derived.Test.YtfmbdlfpbhpieaaGreatDoorRows
import Derived.WalkKit
import Derived.ProofKit
import Derived.OpenShut
import Derived.LaidMore
import Derived.MakeChecks
import Derived.Lib.LaidTab
import Derived.Stop.LaidErr
set_option linter.all false
set_option maxRecDepth 100000
namespace Go.Proofs.YtfmbdlfpbhpieaaGreatDoor
open Go.ChangeShapes Go.WideShapes Go.ChangeAt Go.RowKit Go.Ab Go.Ab.B
theorem ownX : ownKnob Tryz.prog.godebug = none := by kernel_rfl
theorem zqz : laidOutB Tryz.prog = true := by kernel_rfl
theorem zv1 (os : Os) (args : Array Value) : laidMetH Tryz.prog Rows.loadFuelsRow.laid ((World.doorLaid Tryz.prog 42 os).forCall (fun _ _ => 0) ⟨#[], args, []⟩).memory :=
  laidMetH_of_parts3 (fuel := 8) (laidMet_of_run' 8 (by kernel_rfl) (by kernel_rfl)) (by kernel_rfl) (by kernel_rfl)
theorem zww {W : World} (h : laidMetH Tryz.prog Rows.loadFuelsRow.laid W) : Lib.TabIs Tryz.prog W "internal/strconv.uint64pow10" .u64 Lib.pow10Tab := by
  rw [MakeChecks.laidMetH_plain _ _ _ (by kernel_rfl)] at h
  have h2 := laidMet.tail (laidMet.tail h)
  have e : (Rows.laid_internal_strconv_uint64pow10 : DataW Unit) = Lib.tabData .u64 Lib.pow10Tab := by kernel_rfl
  rw [e] at h2
  exact Lib.tabIs_of_head (t := zpg) (e := zv5) (n := 20) g0 (by kernel_rfl) (by kernel_rfl) (by kernel_rfl) (by kernel_rfl) (by kernel_rfl) h2
def plT : List TS := [.int .i64, .int .i64, .int .i64, .int .i64, .sl [.int .i64, .int .i64], .sl [.int .i64, .int .i64], .int .i64, .int .i64, .int .i64, .sl [.int .i64, .int .i64]]
theorem zwu : flatTS Tryz.prog 4 zj = some plT := by kernel_rfl
abbrev rowN (v : PV) : S.Rows := fun i j => z21 (rowOf v i j)
theorem zjt (v : PV) : zlq (.p (cnv (.sl [.int .i64, .int .i64]) v)) (.p (.isl 2 (lenOf v) (S.val (rowN v)))) :=
  .inr ⟨rfl, rfl, fun i j hi hj => by
    match j, hj with
    | 0, _ => rfl
    | 1, _ => rfl⟩
theorem ztf (g : Nat → PV) : zlr (argA plT true g) (.ag (plC (z21 (g 0)) (z21 (g 1)) (z21 (g 2)) (z21 (g 3)) (lenOf (g 4)) (S.val (rowN (g 4))) (lenOf (g 5)) (S.val (rowN (g 5))) (z21 (g 6)) (z21 (g 7)) (z21 (g 8)) (lenOf (g 9)) (S.val (rowN (g 9))))) :=
  ⟨.inl rfl, .inl rfl, .inl rfl, .inl rfl, zjt _, zjt _, .inl rfl, .inl rfl, .inl rfl, zjt _, trivial⟩
def lgT : List TS := [.sl [.sl [.int .i64, .int .i64, .int .i64], .bool, .int .i64, .int .i64, .int .i64, .int .i64, .int .i64]]
theorem zwv : flatTS Tryz.prog 8 zjn = some lgT := by kernel_rfl
theorem zv9 {w : World} {Z : Nat → Prop} {e n : Nat} {f g : Nat → Nat → PV} {u : Value} (h : ∀ i j, i < n → j < e → ∀ v, RepP w Z (f i j) v → RepP w Z (g i j) v) (hr : RepP w Z (.isl e n f) u) : RepP w Z (.isl e n g) u := by
  cases hr with
  | isl0 a cap => exact .isl0 _ _ _ _
  | isl _ _ _ ad cap u hn hz hc hr => exact .isl _ _ _ ad cap u hn hz hc fun i j hi hj => h i j hi hj _ (hr i j hi hj)
abbrev lgN (v : PV) : Nat → Nat := fun i => lenOf (rowOf v i 0)
abbrev lgI (v : PV) : Nat → S.Rows := fun i => rowN (rowOf v i 0)
abbrev lgQ (v : PV) : S.Rows := fun i j => z21 (rowOf v i (j + 2))
abbrev lgP (v : PV) : Nat → Bool := fun i => zqq (rowOf v i 1)
theorem ztg {w : World} {Z : Nat → Prop} {H : Heap} {φ : Nat → Value} {g : Nat → PV} {u : Value} (h : RepA w Z H φ (argA lgT false g) u) : RepA w Z H φ (.c (.p (.isl 7 (lenOf (g 0)) (S.legV (lgN (g 0)) (lgI (g 0)) (lgQ (g 0)) (lgP (g 0)))))) u := by
  have h : RepP w Z (.isl 7 (lenOf (g 0)) fun i j => cnvL [.sl [.int .i64, .int .i64, .int .i64], .bool, .int .i64, .int .i64, .int .i64, .int .i64, .int .i64] (rowOf (g 0) i) 0 j) u := by simpa [argA, lgT, RepA, RepC, cnv] using h
  have : RepP w Z (.isl 7 (lenOf (g 0)) (S.legV (lgN (g 0)) (lgI (g 0)) (lgQ (g 0)) (lgP (g 0)))) u := zv9 (fun i j hi hj v hv => by
    match j, hj with
    | 0, _ => exact RepP.isl_ext (f := fun a b => cnvL [.int .i64, .int .i64, .int .i64] (rowOf (rowOf (g 0) i 0) a) 0 b) (fun a b _ hb => by
        match b, hb with
        | 0, _ => rfl
        | 1, _ => rfl
        | 2, _ => rfl) hv
    | 1, _ => exact hv
    | 2, _ => exact hv
    | 3, _ => exact hv
    | 4, _ => exact hv
    | 5, _ => exact hv
    | 6, _ => exact hv) h
  simpa only [RepA, RepC] using this
theorem zs4 {C : Cfg} {f : FuncId} {args args' : List AV} {r : AV} {Hr : Heap} (h : FCall C f args' r Hr) (ha : ∀ (w : World) (Z : Nat → Prop) (vs : List Value), RepAs w Z [] noφ args vs → RepAs w Z [] noφ args' vs) : FCall C f args r Hr :=
  fun w Z vs hz hg hv => h w Z vs hz hg (ha w Z vs hv)
end Go.Proofs.YtfmbdlfpbhpieaaGreatDoor
