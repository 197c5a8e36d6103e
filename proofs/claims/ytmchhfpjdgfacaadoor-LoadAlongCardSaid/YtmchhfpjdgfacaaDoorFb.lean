/- What the proofs of this seat's laws share: the listed tables, and planes as plain values. -/
import Derived.Test.YtmchhfpjdgfacaaDoorFa
import Derived.Test.YtmchhfpjdgfacaaDoorRows
import Derived.WalkKit
import Derived.ProofKit
import Derived.OpenShut
import Derived.LaidMore
import Derived.MakeChecks
import Derived.Lib.LaidTab
import Derived.Stop.LaidErr
set_option linter.all false
set_option maxRecDepth 100000
namespace Go.Proofs.YtmchhfpjdgfacaaDoor
open Go.ChangeShapes Go.WideShapes Go.ChangeAt Go.RowKit Go.Ab Go.Ab.B
theorem ownX : ownKnob Tryd.prog.godebug = none := by kernel_rfl
theorem laidOutX : laidOutB Tryd.prog = true := by kernel_rfl
theorem door_met (os : Os) (args : Array Value) : laidMetH Tryd.prog Rows.loadAlongRow.laid ((World.doorLaid Tryd.prog 42 os).forCall (fun _ _ => 0) ⟨#[], args, []⟩).memory :=
  laidMetH_of_parts3 (fuel := 8) (laidMet_of_run' 8 (by kernel_rfl) (by kernel_rfl)) (by kernel_rfl) (by kernel_rfl)
theorem tab_of {W : World} (h : laidMetH Tryd.prog Rows.loadAlongRow.laid W) : Lib.TabIs Tryd.prog W "internal/strconv.uint64pow10" .u64 Lib.pow10Tab := by
  rw [MakeChecks.laidMetH_plain _ _ _ (by kernel_rfl)] at h
  have h2 := laidMet.tail (laidMet.tail h)
  have e : (Rows.laid_internal_strconv_uint64pow10 : DataW Unit) = Lib.tabData .u64 Lib.pow10Tab := by kernel_rfl
  rw [e] at h2
  exact Lib.tabIs_of_head (t := t_ar20_uint64) (e := t_uint64) (n := 20) g0 (by kernel_rfl) (by kernel_rfl) (by kernel_rfl) (by kernel_rfl) (by kernel_rfl) h2
def plT : List TS := [.int .i64, .int .i64, .int .i64, .int .i64, .sl [.int .i64, .int .i64], .sl [.int .i64, .int .i64], .int .i64, .int .i64, .int .i64, .sl [.int .i64, .int .i64]]
theorem flat27 : flatTS Tryd.prog 4 t_api_Plane = some plT := by kernel_rfl
abbrev rowN (v : PV) : S.Rows := fun i j => intOf (rowOf v i j)
theorem like_row (v : PV) : LikeC (.p (cnv (.sl [.int .i64, .int .i64]) v)) (.p (.isl 2 (lenOf v) (S.val (rowN v)))) :=
  .inr ⟨rfl, rfl, fun i j hi hj => by
    match j, hj with
    | 0, _ => rfl
    | 1, _ => rfl⟩
theorem like_plane (g : Nat → PV) : LikeA (argA plT true g) (.ag (plC (intOf (g 0)) (intOf (g 1)) (intOf (g 2)) (intOf (g 3)) (lenOf (g 4)) (S.val (rowN (g 4))) (lenOf (g 5)) (S.val (rowN (g 5))) (intOf (g 6)) (intOf (g 7)) (intOf (g 8)) (lenOf (g 9)) (S.val (rowN (g 9))))) :=
  ⟨.inl rfl, .inl rfl, .inl rfl, .inl rfl, like_row _, like_row _, .inl rfl, .inl rfl, .inl rfl, like_row _, trivial⟩
theorem like_row1 (v : PV) : LikeC (.p (cnv (.sl [.int .i64]) v)) (.p (.isl 1 (lenOf v) (S.val (rowN v)))) :=
  .inr ⟨rfl, rfl, fun i j hi hj => by
    match j, hj with
    | 0, _ => rfl⟩
def spT : List TS := [.int .i64, .int .i64]
theorem flatSp : flatTS Tryd.prog 4 t_api_Span = some spT := by kernel_rfl
theorem like_span (g : Nat → PV) : LikeA (argA spT true g) (.ag [.p (.int .i64 (intOf (g 0))), .p (.int .i64 (intOf (g 1)))]) := ⟨.inl rfl, .inl rfl, trivial⟩
def lgT : List TS := [.sl [.sl [.int .i64, .int .i64, .int .i64], .bool, .int .i64, .int .i64, .int .i64, .int .i64, .int .i64]]
theorem flatLg : flatTS Tryd.prog 8 t_sl_api_LoadLeg = some lgT := by kernel_rfl
theorem isl_mono {w : World} {Z : Nat → Prop} {e n : Nat} {f g : Nat → Nat → PV} {u : Value} (h : ∀ i j, i < n → j < e → ∀ v, RepP w Z (f i j) v → RepP w Z (g i j) v) (hr : RepP w Z (.isl e n f) u) : RepP w Z (.isl e n g) u := by
  cases hr with
  | isl0 a cap => exact .isl0 _ _ _ _
  | isl _ _ _ ad cap u hn hz hc hr => exact .isl _ _ _ ad cap u hn hz hc fun i j hi hj => h i j hi hj _ (hr i j hi hj)
abbrev lgN (v : PV) : Nat → Nat := fun i => lenOf (rowOf v i 0)
abbrev lgI (v : PV) : Nat → S.Rows := fun i => rowN (rowOf v i 0)
abbrev lgQ (v : PV) : S.Rows := fun i j => intOf (rowOf v i (j + 2))
abbrev lgP (v : PV) : Nat → Bool := fun i => boolOf (rowOf v i 1)
theorem reads_legs {w : World} {Z : Nat → Prop} {H : Heap} {φ : Nat → Value} {g : Nat → PV} {u : Value} (h : RepA w Z H φ (argA lgT false g) u) : RepA w Z H φ (.c (.p (.isl 7 (lenOf (g 0)) (S.legV (lgN (g 0)) (lgI (g 0)) (lgQ (g 0)) (lgP (g 0)))))) u := by
  have h : RepP w Z (.isl 7 (lenOf (g 0)) fun i j => cnvL [.sl [.int .i64, .int .i64, .int .i64], .bool, .int .i64, .int .i64, .int .i64, .int .i64, .int .i64] (rowOf (g 0) i) 0 j) u := by simpa [argA, lgT, RepA, RepC, cnv] using h
  have : RepP w Z (.isl 7 (lenOf (g 0)) (S.legV (lgN (g 0)) (lgI (g 0)) (lgQ (g 0)) (lgP (g 0)))) u := isl_mono (fun i j hi hj v hv => by
    match j, hj with
    | 0, _ => exact RepP.isl_ext (f := fun a b => cnvL [.int .i64, .int .i64, .int .i64] (rowOf (rowOf (g 0) i 0) a) 0 b) (fun a b _ hb => by
        match b, hb with
        | 0, _ => rfl
        | 1, _ => rfl
        | 2, _ => rfl) hv
    | 1, _ => exact hv
    | 2, _ => exact hv
    | 3, _ => exact hv
    | 4, _ => exact hv
    | 5, _ => exact hv
    | 6, _ => exact hv) h
  simpa only [RepA, RepC] using this
theorem fcall_reads {C : Cfg} {f : FuncId} {args args' : List AV} {r : AV} {Hr : Heap} (h : FCall C f args' r Hr) (ha : ∀ (w : World) (Z : Nat → Prop) (vs : List Value), RepAs w Z [] noφ args vs → RepAs w Z [] noφ args' vs) : FCall C f args r Hr :=
  fun w Z vs hz hg hv => h w Z vs hz hg (ha w Z vs hv)
def flT : List TS := [.sl [.sl [.int .i64]], .int .i64, .sl [.int .i64], .sl [.sl [.int .i64]]]
theorem flatFl : flatTS Tryd.prog 8 t_law02_Flight = some flT := by kernel_rfl
abbrev rwN (v : PV) : Nat → Nat := fun i => lenOf (rowOf v i 0)
abbrev rwI (v : PV) : Nat → S.Rows := fun i => rowN (rowOf v i 0)
theorem rep_rows {w : World} {Z : Nat → Prop} {v : PV} {u : Value} (h : RepP w Z (cnv (.sl [.sl [.int .i64]]) v) u) : RepP w Z (.isl 1 (lenOf v) (S.rowsV (rwN v) (rwI v))) u := by
  have h : RepP w Z (.isl 1 (lenOf v) fun i j => cnvL [.sl [.int .i64]] (rowOf v i) 0 j) u := h
  exact isl_mono (fun i j hi hj x hx => by
    match j, hj with
    | 0, _ => exact RepP.isl_ext (f := fun a b => cnvL [.int .i64] (rowOf (rowOf v i 0) a) 0 b) (fun a b _ hb => by
        match b, hb with
        | 0, _ => rfl) hx) h
theorem reads_flight {w : World} {Z : Nat → Prop} {H : Heap} {φ : Nat → Value} {g : Nat → PV} {u : Value} (h : RepA w Z H φ (argA flT true g) u) : RepA w Z H φ (.ag [.p (.isl 1 (lenOf (g 0)) (S.rowsV (rwN (g 0)) (rwI (g 0)))), .p (.int .i64 (intOf (g 1))), .p (.isl 1 (lenOf (g 2)) (S.val (rowN (g 2)))), .p (.isl 1 (lenOf (g 3)) (S.rowsV (rwN (g 3)) (rwI (g 3))))]) u := by
  have h : RepA w Z H φ (.ag [.p (cnv (.sl [.sl [.int .i64]]) (g 0)), .p (cnv (.int .i64) (g 1)), .p (cnv (.sl [.int .i64]) (g 2)), .p (cnv (.sl [.sl [.int .i64]]) (g 3))]) u := h
  simp only [RepA] at h ⊢
  obtain ⟨us, rfl, hlen, hall⟩ := h
  refine ⟨us, rfl, hlen, fun i c hi => ?_⟩
  match i, hi with
  | 0, hi => obtain ⟨x, hx, hr⟩ := hall 0 _ rfl; cases hi; exact ⟨x, hx, rep_rows hr⟩
  | 1, hi => obtain ⟨x, hx, hr⟩ := hall 1 _ rfl; cases hi; exact ⟨x, hx, hr⟩
  | 2, hi => obtain ⟨x, hx, hr⟩ := hall 2 _ rfl; cases hi; exact ⟨x, hx, (like_row1 (g 2)).rep hr⟩
  | 3, hi => obtain ⟨x, hx, hr⟩ := hall 3 _ rfl; cases hi; exact ⟨x, hx, rep_rows hr⟩
  | i + 4, hi => simp at hi
end Go.Proofs.YtmchhfpjdgfacaaDoor
