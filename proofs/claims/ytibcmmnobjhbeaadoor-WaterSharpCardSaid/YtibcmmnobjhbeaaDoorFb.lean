/- A part of the proof. -/
import Derived.Test.YtibcmmnobjhbeaaDoorVd
import Derived.Lib.LaidTab
import Derived.Test.YtibcmmnobjhbeaaDoorFa
import Derived.Test.YtibcmmnobjhbeaaDoorLb
import Derived.Test.YtibcmmnobjhbeaaDoorRows
import Derived.WalkKit
import Derived.ProofKit
import Derived.OpenShut
import Derived.LaidMore
import Derived.MakeChecks
import Derived.Stop.LaidErr
set_option linter.all false
namespace Go.Ab
open Go.RowKit
section
variable {H : Type} {enc : TypeId × Value → H} {P : Program} {w : World} {base : Nat} {sp : Nat → Bool} {held : Bool}
def leafV : DataW H → List Value
  | .lit (.int k z) => [.int k z]
  | .lit (.string s) => [.string ⟨s.toArray⟩]
  | _ => []
def aggV (f : DataW H → List Value) : DataW H → List Value
  | .agg ds => ds.flatMap f
  | _ => []
def TyV (enc : TypeId × Value → H) (P : Program) (w : World) (base : Nat) (sp : Nat → Bool) (held : Bool) (t : TypeId) (f : DataW H → List Value) : Prop :=
  ∀ fuel cs d p, DataW.trod enc P w base sp held fuel t cs = some (d, p) → cs = f d
theorem tyV_int {t : TypeId} {k : IntKind} (ht : P.underlying t = some (.int k)) : TyV enc P w base sp held t leafV := fun fuel cs d p h => by
  obtain ⟨z, rfl, hx, _⟩ := DataW.trod_int ht h
  cases hx
  rfl
theorem tyV_str {t : TypeId} (ht : P.underlying t = some .string) : TyV enc P w base sp held t leafV := fun fuel cs d p h => by
  obtain ⟨z, rfl, hx, _⟩ := DataW.trod_string ht h
  cases hx
  show [Value.string z] = [Value.string ⟨z.data.toList.toArray⟩]
  simp
theorem mapM_flat {g : Nat → Option (DataW H × List MemPlace)} {h : Nat → List Value} {f : DataW H → List Value} : ∀ {l : List Nat} {xs : List (DataW H × List MemPlace)}, l.mapM g = some xs → (∀ i b, g i = some b → h i = f b.1) → l.flatMap h = (xs.map (·.1)).flatMap f
  | [], xs, hx, _ => by
    simp only [List.mapM_nil, Option.pure_def, Option.some.injEq] at hx
    subst hx
    rfl
  | x :: l, xs, hx, hh => by
    simp only [List.mapM_cons, Option.bind_eq_bind, Option.bind_eq_some_iff, Option.pure_def, Option.some.injEq] at hx
    obtain ⟨b, hb, r', hr', rfl⟩ := hx
    simp only [List.flatMap_cons, List.map_cons, hh x b hb, mapM_flat hr' hh]
theorem chunks (c : Nat) : ∀ (n : Nat) (cs : List Value), cs.length = n * c → cs = (List.range n).flatMap fun i => (cs.drop (i * c)).take c
  | 0, cs, h => by
    have : cs = [] := List.eq_nil_of_length_eq_zero (by omega)
    subst this
    rfl
  | n + 1, cs, h => by
    have hl : (cs.take (n * c)).length = n * c := by rw [List.length_take, h]; exact Nat.min_eq_left (Nat.mul_le_mul_right c (Nat.le_succ n))
    have ih := chunks c n (cs.take (n * c)) hl
    rw [List.range_succ, List.flatMap_append, List.flatMap_singleton]
    have e : (List.range n).flatMap (fun i => (cs.drop (i * c)).take c) = (List.range n).flatMap fun i => ((cs.take (n * c)).drop (i * c)).take c := by
      rw [List.flatMap_def, List.flatMap_def]
      congr 1
      apply List.map_congr_left
      intro i hi
      have hi : i < n := List.mem_range.1 hi
      rw [List.drop_take, List.take_take]
      have : i * c + c ≤ n * c := by rw [← Nat.succ_mul]; exact Nat.mul_le_mul_right c hi
      rw [Nat.min_eq_left (by omega)]
    rw [e, ← ih, List.take_of_length_le (l := cs.drop (n * c)) (by rw [List.length_drop, h, Nat.succ_mul]; omega), List.take_append_drop]
theorem tyV_arr {t e : TypeId} {n : Nat} {f : DataW H → List Value} (ht : P.underlying t = some (.array n e)) (hct : P.cellsOf t = n * P.cellsOf e) (hf : TyV enc P w base sp held e f) : TyV enc P w base sp held t (aggV f) := fun fuel cs d p h => by
  cases fuel with
  | zero => simp [DataW.trod] at h
  | succ fuel =>
    simp only [DataW.trod, ht] at h
    split at h
    · rename_i hl
      obtain ⟨xs, hm, hx⟩ := Option.map_eq_some_iff.1 h
      cases hx
      rw [chunks (P.cellsOf e) n cs (by rw [hl, hct])]
      exact mapM_flat hm fun i b hb => hf fuel _ b.1 b.2 hb
    · cases h
end
theorem var_of_head {P : Program} {W : World} {name : String} {d : DataW Unit} {rest : List (String × DataW Unit)} {g : Nat} {t : TypeId} {f : DataW Unit → List Value}
    (hg : P.globalNamed name = some g) (hty : (P.globals[g]?).map (·.type) = some t) (hf : TyV (fun _ => ()) P W 0 (fun _ => true) false t f)
    (h : laidMet P ((name, d) :: rest) W) : W.var? P name = some (f d).toArray := by
  obtain ⟨ps, ⟨g', t', cs, fuel, p, q, hg', ht', hvar, hd, _, _⟩, _⟩ := h
  obtain rfl := Option.some.inj (hg.symm.trans hg')
  obtain rfl := Option.some.inj (hty.symm.trans ht')
  rw [hvar, ← hf _ _ _ _ hd]
theorem grep_var {P : Program} {W : World} {name : String} {g n : Nat} {l : List Value} {f : Nat → PV} (hn : P.globalNamed name = some g) (hv : W.var? P name = some l.toArray) (hl : l.length = n)
    (hr : ∀ j, j < n → ∃ u, l[j]? = some u ∧ RepP W (fun b => b < W.heap.size) (f j) u) :
    RepP W (fun b => b < W.heap.size) (.ipt n f) (.pointer (some ⟨g, 0, none⟩)) ∧ g < W.heap.size ∧ ∃ cs t fr, W.heap[g]? = some (.cells cs t fr) ∧ cs.size = n := by
  have hc := World.var?_cell hn hv
  have hv' := hv
  unfold World.var? at hv'
  rw [hn] at hv'
  simp only [Option.bind_some] at hv'
  split at hv'
  · rename_i cs t fr hh
    simp only [Option.some.injEq] at hv'
    have hlt : g < W.heap.size := (Array.getElem?_eq_some_iff.1 hh).1
    refine ⟨.ipt _ _ _ (fun j => l.getD j (.bool false)) hlt (fun j hj => ?_) (fun j hj => ?_), hlt, cs, t, fr, hh, by rw [hv']; simpa using hl⟩
    · obtain ⟨u, hu, _⟩ := hr j hj
      rw [show (⟨g, 0, none⟩ : Addr).add j = ⟨g, j, none⟩ by simp [Addr.add]; exact fun h => h.symm]
      rw [hc j]
      simp [List.getD, hu]
    · obtain ⟨u, hu, hp⟩ := hr j hj
      simpa [List.getD, hu] using hp
  · cases hv'
end Go.Ab
set_option maxRecDepth 100000
namespace Go.Ab.B
open Go.Proofs
theorem tabS : TabOk (cs bsX) := tabOk_mk (C := cs bsX) (ρ := Tryd.lays240_ren) T_ok (fun f g args r hg h => by cases hg) Tryd.lays240 Tryd.bX72 ccX okcc lies
theorem tabS2 : TabOk (cs2 bsX) := tabOk_mk (C := cs2 bsX) (ρ := Tryd.lays240_ren) T_ok (fun f g args r hg h => by cases hg) Tryd.lays240 Tryd.bX72 ccX okcc lies
theorem tabS5 : TabOk (cs5 bsX) := tabOk_mk (C := cs5 bsX) (ρ := Tryd.lays240_ren) T_ok (fun f g args r hg h => by cases hg) Tryd.lays240 Tryd.bX72 ccX okcc lies
end Go.Ab.B
namespace Go.Proofs.YtibcmmnobjhbeaaDoor
open Go.ChangeShapes Go.WideShapes Go.ChangeAt Go.RowKit Go.Ab Go.Ab.B
theorem ownX : ownKnob Tryd.prog.godebug = none := by kernel_rfl
theorem laidOutX : laidOutB Tryd.prog = true := by kernel_rfl
theorem door_met (os : Os) (args : Array Value) : laidMetH Tryd.prog Rows.waterSharpRow.laid ((World.doorLaid Tryd.prog 42 os).forCall (fun _ _ => 0) ⟨#[], args, []⟩).memory :=
  laidMetH_of_parts3 (fuel := 8) (laidMet_of_run' 8 (by kernel_rfl) (by kernel_rfl)) (by kernel_rfl) (by kernel_rfl)
theorem gSteps : Tryd.prog.globalNamed "windsock/water.steps" = some 1 := by kernel_rfl
theorem gNames : Tryd.prog.globalNamed "windsock/water.names" = some 0 := by kernel_rfl
theorem grepW {W : World} (h : laidMetH Tryd.prog Rows.waterSharpRow.laid W) : GRep (gW 2 1 0) W (fun b => b < W.heap.size) := by
  rw [MakeChecks.laidMetH_plain _ _ _ (by kernel_rfl)] at h
  have h2 := laidMet.tail (laidMet.tail h)
  have h3 := laidMet.tail h2
  have h4 := laidMet.tail h3
  have e : (Rows.laid_internal_strconv_uint64pow10 : DataW Unit) = Lib.tabData .u64 Lib.pow10Tab := by kernel_rfl
  rw [e] at h2
  have hP := grep_of_tab (W := W) g0 (Lib.tabIs_of_head (t := t_ar20_uint64) (e := t_uint64) (n := 20) g0 (by kernel_rfl) (by kernel_rfl) (by kernel_rfl) (by kernel_rfl) (by kernel_rfl) h2)
  have vS := var_of_head (t := t_ar8_ar2_int) gSteps (by kernel_rfl) (tyV_arr (t := t_ar8_ar2_int) (n := 8) (e := t_ar2_int) (by kernel_rfl) (by kernel_rfl) (tyV_arr (t := t_ar2_int) (n := 2) (e := t_int) (by kernel_rfl) (by kernel_rfl) (tyV_int (k := .i64) (by kernel_rfl)))) h3
  have vN := var_of_head (t := t_ar5_string) gNames (by kernel_rfl) (tyV_arr (t := t_ar5_string) (n := 5) (e := t_string) (by kernel_rfl) (by kernel_rfl) (tyV_str (by kernel_rfl))) h4
  intro g n f hg
  unfold gW at hg
  cases h1 : Nat.beq g 2 with
  | true =>
    obtain rfl := Nat.eq_of_beq_eq_true h1
    rw [h1] at hg
    cases hg
    exact hP 2 20 pow10P rfl
  | false =>
    rw [h1] at hg
    cases h2 : Nat.beq g 1 with
    | true =>
      obtain rfl := Nat.eq_of_beq_eq_true h2
      rw [h2] at hg
      cases hg
      exact grep_var gSteps vS rfl fun j hj => by
        match j, hj with
        | 0, _ => exact ⟨_, rfl, .int _ _⟩
        | 1, _ => exact ⟨_, rfl, .int _ _⟩
        | 2, _ => exact ⟨_, rfl, .int _ _⟩
        | 3, _ => exact ⟨_, rfl, .int _ _⟩
        | 4, _ => exact ⟨_, rfl, .int _ _⟩
        | 5, _ => exact ⟨_, rfl, .int _ _⟩
        | 6, _ => exact ⟨_, rfl, .int _ _⟩
        | 7, _ => exact ⟨_, rfl, .int _ _⟩
        | 8, _ => exact ⟨_, rfl, .int _ _⟩
        | 9, _ => exact ⟨_, rfl, .int _ _⟩
        | 10, _ => exact ⟨_, rfl, .int _ _⟩
        | 11, _ => exact ⟨_, rfl, .int _ _⟩
        | 12, _ => exact ⟨_, rfl, .int _ _⟩
        | 13, _ => exact ⟨_, rfl, .int _ _⟩
        | 14, _ => exact ⟨_, rfl, .int _ _⟩
        | 15, _ => exact ⟨_, rfl, .int _ _⟩
        | k + 16, h => exact absurd h (by omega)
    | false =>
      rw [h2] at hg
      cases h3 : Nat.beq g 0 with
      | true =>
        obtain rfl := Nat.eq_of_beq_eq_true h3
        rw [h3] at hg
        cases hg
        exact grep_var gNames vN rfl fun j hj => by
          match j, hj with
          | 0, _ => exact ⟨_, rfl, .str _⟩
          | 1, _ => exact ⟨_, rfl, .str _⟩
          | 2, _ => exact ⟨_, rfl, .str _⟩
          | 3, _ => exact ⟨_, rfl, .str _⟩
          | 4, _ => exact ⟨_, rfl, .str _⟩
          | k + 5, h => exact absurd h (by omega)
      | false => rw [h3] at hg; cases hg
def ggT : List TS := [.int .i64, .int .i64, .int .i64, .sl [.int .i64, .int .i64, .int .i64, .int .i64]]
theorem flatG : flatTS Tryd.prog 8 t_api_Gauge = some ggT := by kernel_rfl
abbrev rowN (v : PV) : S.Rows := fun i j => intOf (rowOf v i j)
theorem like_row4 (v : PV) : LikeC (.p (cnv (.sl [.int .i64, .int .i64, .int .i64, .int .i64]) v)) (.p (.isl 4 (lenOf v) (S.val (rowN v)))) :=
  .inr ⟨rfl, rfl, fun i j hi hj => by
    match j, hj with
    | 0, _ => rfl
    | 1, _ => rfl
    | 2, _ => rfl
    | 3, _ => rfl⟩
theorem like_row1 (v : PV) : LikeC (.p (cnv (.sl [.int .i64]) v)) (.p (.isl 1 (lenOf v) (S.val (rowN v)))) :=
  .inr ⟨rfl, rfl, fun i j hi hj => by
    match j, hj with
    | 0, _ => rfl⟩
theorem like_gauge (g : Nat → PV) : LikeA (argA ggT true g) (.ag (gC (intOf (g 0)) (intOf (g 1)) (intOf (g 2)) (lenOf (g 3)) (S.val (rowN (g 3))))) := ⟨.inl rfl, .inl rfl, .inl rfl, like_row4 _, trivial⟩
def coT : List TS := [.sl [.int .i64]]
theorem flatC : flatTS Tryd.prog 8 t_sl_int = some coT := by kernel_rfl
end Go.Proofs.YtibcmmnobjhbeaaDoor
