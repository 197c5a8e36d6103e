/- LoadConvex returns true for every plane, two loads and part of a line, and leaves them as they were. Conditions: the listed tables read as the program's text lays them. -/
import Derived.Test.YtedlbcnomlpkfabDoorFb
import Derived.Test.YtedlbcnomlpkfabDoorLc
import Derived.Test.YtedlbcnomlpkfabDoorTie
import Derived.Test.YtedlbcnomlpkfabDoorCards
import Derived.SevenTiedAt
set_option linter.all false
set_option maxRecDepth 100000
namespace Go.Ab.B
open Go.Proofs
theorem tabS2 : TabOk (cs2 bsX) := tabOk_mk (C := cs2 bsX) (ρ := Tryd.lays240_ren) T_ok (fun f g args r hg h => by cases hg) Tryd.lays240 Tryd.bX72 ccX okcc lies
end Go.Ab.B
namespace Go.Proofs.YtedlbcnomlpkfabDoor
open Go.ChangeShapes Go.WideShapes Go.ChangeAt Go.RowKit Go.Ab Go.Ab.B
/-- The cells of a corner. -/
def coT : List TS := [.int .i64, .int .i64]
theorem flat36 : flatTS Tryd.prog 4 36 = some coT := by kernel_rfl
theorem like_corner (g : Nat → PV) : LikeA (argA coT true g) (.ag [.p (.int .i64 (intOf (g 0))), .p (.int .i64 (intOf (g 1)))]) := ⟨.inl rfl, .inl rfl, trivial⟩

theorem lifted_lx (os : Os) (started : os.Started) (H : Type) (enc : TypeId × Value → H) :
    ReturnsInHanded {} Tryd.checked os 4 .any (fun w args => (Rows.loadConvexSpec.pre enc Tryd.prog Tryd.f4 [] false w args ∧ laidMetH Tryd.prog Rows.loadConvexRow.laid w) ∧ sizedMet enc Tryd.prog Tryd.f4 (OpenSpec.ofChange Rows.loadConvexSpec) false w args)
      (Rows.loadConvexSpec.post enc Tryd.prog Tryd.f4 false true false false) := by
  refine returnsInHanded_of_change_and (C := Tryd.checked) (X := fun w _ => laidMetH Tryd.prog Rows.loadConvexRow.laid w) (fun _ _ _ hh h => h.of_heap hh) ownX started (by kernel_rfl) Tryd.func4
    (ChangeSpec.witness_shaped (enc := enc) (C := Tryd.checked) (os := os) (X := fun w _ => laidMetH Tryd.prog Rows.loadConvexRow.laid w) false (World.doorLaid Tryd.prog 42 os) #[.agg #[.int .i64 0, .int .i64 0, .int .i64 0, .int .i64 0, .slice none 0 0, .slice none 0 0, .int .i64 0, .int .i64 0, .int .i64 0, .slice none 0 0], .agg #[.int .i64 0, .int .i64 0], .agg #[.int .i64 0, .int .i64 0], .int .i64 0, .int .i64 0] 8 rfl (World.shaped_of_RefB (by kernel_rfl) (by kernel_rfl)) (by kernel_rfl) (by kernel_rfl) (by kernel_rfl) (door_met os _)) ?_
  intro W base args ds gs before hval0 hW _ _ hL _
  have hval : ∀ (j : Nat) t v, Tryd.f4.params[j]? = some t → args[j]? = some v → Value.okWide Tryd.prog W .any base t v := hval0
  have hW' := hW
  obtain ⟨p, q, hA0, hV, rfl, hfz, hnd⟩ := hW
  have hA : DataW.TrodAll enc Tryd.prog W 0 (fun _ => true) true Tryd.f4.params.toList args.toList ds p := hA0
  rw [Tryd.params4] at hA hval
  obtain ⟨v0, vs0, d0, ds0, p0, q0, hargs, rfl, rfl, h0, r0⟩ := trodAll_cons hA
  obtain ⟨v1, vs1, d1, ds1, p1, q1, rfl, rfl, rfl, h1, r1⟩ := trodAll_cons r0
  obtain ⟨v2, vs2, d2, ds2, p2, q2, rfl, rfl, rfl, h2, r2⟩ := trodAll_cons r1
  obtain ⟨v3, vs3, d3, ds3, p3, q3, rfl, rfl, rfl, h3, r3⟩ := trodAll_cons r2
  obtain ⟨v4, vs4, d4, ds4, p4, q4, rfl, rfl, rfl, h4, r4⟩ := trodAll_cons r3
  obtain ⟨rfl, rfl, rfl⟩ := trodAll_nil r4
  obtain rfl : args = #[v0, v1, v2, v3, v4] := by cases args; simp_all
  obtain ⟨rfl, rfl⟩ := trodVars_none hV
  obtain ⟨cells0, rfl, _⟩ := okWide_struct Tryd.underlying27 (hval 0 27 v0 rfl rfl)
  obtain ⟨cells1, rfl, _⟩ := okWide_struct Tryd.underlying36 (hval 1 36 v1 rfl rfl)
  obtain ⟨cells2, rfl, _⟩ := okWide_struct Tryd.underlying36 (hval 2 36 v2 rfl rfl)
  have k0 := h0
  have k1 := h1
  have k2 := h2
  have lt0 : ∀ x ∈ p0, x.block < W.heap.size := by obtain ⟨m, hm⟩ := k0; exact DataW.trod_lt m _ _ _ hm
  have lt1 : ∀ x ∈ p1, x.block < W.heap.size := by obtain ⟨m, hm⟩ := k1; exact DataW.trod_lt m _ _ _ hm
  have lt2 : ∀ x ∈ p2, x.block < W.heap.size := by obtain ⟨m, hm⟩ := k2; exact DataW.trod_lt m _ _ _ hm
  obtain ⟨a3, rfl, rfl, rfl, w3⟩ := open_int Tryd.underlying3 (hval 3 3 v3 rfl rfl) h3
  obtain ⟨a4, rfl, rfl, rfl, w4⟩ := open_int Tryd.underlying3 (hval 4 3 v4 rfl rfl) h4
  obtain ⟨fuel0, hf0⟩ := h0
  obtain ⟨fuel1, hf1⟩ := h1
  obtain ⟨fuel2, hf2⟩ := h2
  obtain ⟨g, hr0, hwf⟩ := trod_agg (H' := []) (φ := noφ) flat27 hf0
  obtain ⟨ga, hr1, _⟩ := trod_agg (H' := []) (φ := noφ) flat36 hf1
  obtain ⟨gb, hr2, _⟩ := trod_agg (H' := []) (φ := noφ) flat36 hf2
  clear hA0 hval0
  have hg := grep_of_tab (W := W) g0 (tab_of hL)
  have f4 := hwf 4 _ rfl
  have f5 := hwf 5 _ rfl
  have f9 := hwf 9 _ rfl
  simp only [Wf] at f4 f5 f9
  have hF := (fc4 tabS tabS2 (FCall.cfg (C := c0 bsX) (C' := cs bsX) rfl rfl row8) (e := intOf (g 0)) (m := intOf (g 1)) (t := intOf (g 2)) (l := intOf (g 3)) (ta := intOf (g 6)) (tm := intOf (g 7)) (r := intOf (g 8)) (c := rowN (g 4)) (s := rowN (g 5)) (f := rowN (g 9)) f4.1 f5.1 f9.1 (intOf (ga 0)) (intOf (ga 1)) (intOf (gb 0)) (intOf (gb 1)) a3 a4).like
    (args := [argA plT true g, argA coT true ga, argA coT true gb, .c (.p (.int .i64 a3)), .c (.p (.int .i64 a4))]) ⟨like_plane g, like_corner ga, like_corner gb, .inl rfl, .inl rfl, trivial⟩
  refine (law_row hF (w := W) hg (vs := [.agg cells0, .agg cells1, .agg cells2, .int .i64 a3, .int .i64 a4]) ?_).mono fun e W' ⟨he, bel⟩ => ?_
  · simp only [RepAs]
    exact ⟨_, _, rfl, hr0, _, _, rfl, hr1, _, _, rfl, hr2, _, _, rfl, by simp only [RepA]; exact .int _ _, _, _, rfl, by simp only [RepA]; exact .int _ _, rfl⟩
  · subst he
    exact ⟨_, rfl, _, _, _, [], _, [], hW', trodAll_mk1 (shut_bool Tryd.underlying4 _), (trodAll_cons_mk (Below.trod laidOutX (by kernel_rfl) (of_decide_eq_true (by kernel_rfl)) k0 bel lt0) (trodAll_cons_mk (Below.trod laidOutX (by kernel_rfl) (of_decide_eq_true (by kernel_rfl)) k1 bel lt1) (trodAll_cons_mk (Below.trod laidOutX (by kernel_rfl) (of_decide_eq_true (by kernel_rfl)) k2 bel lt2) (trodAll_cons_mk (shut_int Tryd.underlying3 w3) (trodAll_cons_mk (shut_int Tryd.underlying3 w4) trodAll_mk0))))), rfl, bel.frame _, fun h => by cases h⟩

theorem over_lx : Rows.LoadConvexSaid :=
  OpenClaim.holds_of_wide 4 Tryd.f4 rfl rfl rfl rfl rfl rfl rfl ⟨rfl, rfl, rfl, rfl, rfl⟩ rfl rfl rfl rfl rfl (by kernel_rfl) Tryd.func4 (by kernel_rfl)
    (of_decide_eq_true (by kernel_rfl)) (by unfold Func.isWrapper; first | (rw [if_pos (by decide +kernel)]; kernel_rfl) | (rw [if_neg (by decide +kernel)]; exact ⟨rfl, rfl⟩))
    (fun os started H enc _ => lifted_lx os started H enc)

theorem proved_lx : Rows.LoadConvexCardSaid :=
  Claim7.holds_tied_plain_at .later [] [.data, .data, .data] true (true, "c2157170c11af7bcf53617c947177c2d46de8fb9593ea66a47ea258e34cfda8d") false
    over_lx (fun _ h => by cases h) (by kernel_rfl) (fun _ h => by cases h) loadConvex_row_tie rfl ⟨rfl, rfl⟩ (by kernel_rfl) rfl
    (fun f fn hf hfn => by
      obtain rfl : f = 4 := Option.some.inj ((show Tryd.prog.funcNamed "windsock/windsocklaw02.LoadConvex" = some 4 by kernel_rfl).symm.trans hf) |>.symm
      obtain rfl : fn = Tryd.f4 := (Option.some.inj (Tryd.func4.symm.trans hfn)).symm
      exact ⟨by kernel_rfl, fun j t ht => by
        rw [Tryd.params4] at ht
        have hm : t ∈ [27, 36, 36, 3, 3] := by simpa using Array.mem_of_getElem? ht
        have hall : ([27, 36, 36, 3, 3].all fun u => !Tryd.prog.wantsStandIn u) = true := by kernel_rfl
        exact (show Tryd.prog.wantsStandIn t = false by simpa using List.all_eq_true.1 hall t hm)⟩)
    (by kernel_rfl)
#print axioms proved_lx
end Go.Proofs.YtedlbcnomlpkfabDoor
