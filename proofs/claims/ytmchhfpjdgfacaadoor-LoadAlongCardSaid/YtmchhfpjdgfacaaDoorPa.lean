/- LoadAlong returns true for every plane, fuel, legs, whatever the flight is in truth, and however much of a leg is flown, and leaves them as they were. Conditions: the listed tables read as the program's text lays them. -/
import Derived.Test.YtmchhfpjdgfacaaDoorFb
import Derived.Test.YtmchhfpjdgfacaaDoorTie
import Derived.Test.YtmchhfpjdgfacaaDoorCards
import Derived.SevenTiedAt
set_option linter.all false
set_option maxRecDepth 100000
namespace Go.Proofs.YtmchhfpjdgfacaaDoor
open Go.ChangeShapes Go.WideShapes Go.ChangeAt Go.RowKit Go.Ab Go.Ab.B
theorem lifted_la (os : Os) (started : os.Started) (H : Type) (enc : TypeId × Value → H) :
    ReturnsInHanded {} Tryd.checked os 3 .any (fun w args => (Rows.loadAlongSpec.pre enc Tryd.prog Tryd.f3 [] false w args ∧ laidMetH Tryd.prog Rows.loadAlongRow.laid w) ∧ sizedMet enc Tryd.prog Tryd.f3 (OpenSpec.ofChange Rows.loadAlongSpec) false w args)
      (Rows.loadAlongSpec.post enc Tryd.prog Tryd.f3 false true false false) := by
  refine returnsInHanded_of_change_and (C := Tryd.checked) (X := fun w _ => laidMetH Tryd.prog Rows.loadAlongRow.laid w) (fun _ _ _ hh h => h.of_heap hh) ownX started (by kernel_rfl) Tryd.func3
    (ChangeSpec.witness_shaped (enc := enc) (C := Tryd.checked) (os := os) (X := fun w _ => laidMetH Tryd.prog Rows.loadAlongRow.laid w) false (World.doorLaid Tryd.prog 42 os) #[.agg #[.int .i64 0, .int .i64 0, .int .i64 0, .int .i64 0, .slice none 0 0, .slice none 0 0, .int .i64 0, .int .i64 0, .int .i64 0, .slice none 0 0], .agg #[.int .i64 0, .int .i64 0], .slice none 0 0, .agg #[.slice none 0 0, .int .i64 0, .slice none 0 0, .slice none 0 0], .int .i64 0] 8 rfl (World.shaped_of_RefB (by kernel_rfl) (by kernel_rfl)) (by kernel_rfl) (by kernel_rfl) (by kernel_rfl) (door_met os _)) ?_
  intro W base args ds gs before hval0 hW _ _ hL _
  have hval : ∀ (j : Nat) t v, Tryd.f3.params[j]? = some t → args[j]? = some v → Value.okWide Tryd.prog W .any base t v := hval0
  have hW' := hW
  obtain ⟨p, q, hA0, hV, rfl, hfz, hnd⟩ := hW
  have hA : DataW.TrodAll enc Tryd.prog W 0 (fun _ => true) true Tryd.f3.params.toList args.toList ds p := hA0
  rw [Tryd.params3] at hA hval
  obtain ⟨v0, vs0, d0, ds0, p0, q0, hargs, rfl, rfl, h0, r0⟩ := trodAll_cons hA
  obtain ⟨v1, vs1, d1, ds1, p1, q1, rfl, rfl, rfl, h1, r1⟩ := trodAll_cons r0
  obtain ⟨v2, vs2, d2, ds2, p2, q2, rfl, rfl, rfl, h2, r2⟩ := trodAll_cons r1
  obtain ⟨v3, vs3, d3, ds3, p3, q3, rfl, rfl, rfl, h3, r3⟩ := trodAll_cons r2
  obtain ⟨v4, vs4, d4, ds4, p4, q4, rfl, rfl, rfl, h4, r4⟩ := trodAll_cons r3
  obtain ⟨rfl, rfl, rfl⟩ := trodAll_nil r4
  obtain rfl : args = #[v0, v1, v2, v3, v4] := by cases args; simp_all
  obtain ⟨rfl, rfl⟩ := trodVars_none hV
  obtain ⟨cells0, rfl, _⟩ := okWide_struct Tryd.underlying27 (hval 0 27 v0 rfl rfl)
  obtain ⟨cells1, rfl, _⟩ := okWide_struct Tryd.underlying29 (hval 1 29 v1 rfl rfl)
  obtain ⟨a2, l2, e2, rfl⟩ := okWide_slice Tryd.underlying30 (hval 2 30 v2 rfl rfl)
  obtain ⟨cells3, rfl, _⟩ := okWide_struct Tryd.underlying34 (hval 3 34 v3 rfl rfl)
  have k0 := h0
  have k1 := h1
  have k2 := h2
  have k3 := h3
  have lt0 : ∀ x ∈ p0, x.block < W.heap.size := by obtain ⟨m, hm⟩ := k0; exact DataW.trod_lt m _ _ _ hm
  have lt1 : ∀ x ∈ p1, x.block < W.heap.size := by obtain ⟨m, hm⟩ := k1; exact DataW.trod_lt m _ _ _ hm
  have lt2 : ∀ x ∈ p2, x.block < W.heap.size := by obtain ⟨m, hm⟩ := k2; exact DataW.trod_lt m _ _ _ hm
  have lt3 : ∀ x ∈ p3, x.block < W.heap.size := by obtain ⟨m, hm⟩ := k3; exact DataW.trod_lt m _ _ _ hm
  obtain ⟨a4, rfl, rfl, rfl, w4⟩ := open_int Tryd.underlying3 (hval 4 3 v4 rfl rfl) h4
  obtain ⟨fuel0, hf0⟩ := h0
  obtain ⟨fuel1, hf1⟩ := h1
  obtain ⟨fuel2, hf2⟩ := h2
  obtain ⟨fuel3, hf3⟩ := h3
  obtain ⟨g, hr0, hwf⟩ := trod_agg (H' := []) (φ := noφ) flat27 hf0
  obtain ⟨gs, hr1, _⟩ := trod_agg (H' := []) (φ := noφ) flatSp hf1
  obtain ⟨gl, hr2, hwl⟩ := trod_one (H' := []) (φ := noφ) flatLg rfl hf2
  obtain ⟨gf, hr3, _⟩ := trod_agg (H' := []) (φ := noφ) flatFl hf3
  clear hA0 hval0
  have hg := grep_of_tab (W := W) g0 (tab_of hL)
  have f4 := hwf 4 _ rfl
  have f5 := hwf 5 _ rfl
  have f9 := hwf 9 _ rfl
  simp only [Wf] at f4 f5 f9
  simp only [Wf] at hwl
  have hF := fcall_reads (fc_law02_LoadAlong tabS tabS3 tabS4 tabS4 tabS9 tabS10 tabS11 tabS12 tabS16 (FCall.cfg (C := c0 bsX) (C' := cs bsX) rfl rfl row_law02_known) (intOf (g 0)) (intOf (g 1)) (intOf (g 2)) (intOf (g 3)) (lenOf (g 4)) (rowN (g 4)) (lenOf (g 5)) (rowN (g 5)) (intOf (g 6)) (intOf (g 7)) (intOf (g 8)) (lenOf (g 9)) (rowN (g 9))
    (intOf (gs 0)) (intOf (gs 1)) (lenOf (gl 0)) (lgN (gl 0)) (lgI (gl 0)) (lgQ (gl 0)) (lgP (gl 0)) (lenOf (gf 0)) (rwN (gf 0)) (rwI (gf 0)) (intOf (gf 1)) (lenOf (gf 2)) (rowN (gf 2)) (lenOf (gf 3)) (rwN (gf 3)) (rwI (gf 3)) a4 f4.1 f5.1 f9.1 hwl.1)
    (args := [argA plT true g, argA spT true gs, argA lgT false gl, argA flT true gf, .c (.p (.int .i64 a4))]) (fun w Z vs h => by
      simp only [RepAs] at h ⊢
      obtain ⟨u0, _, rfl, h0, u1, _, rfl, h1, u2, _, rfl, h2, u3, us, rfl, h3, h4⟩ := h
      exact ⟨u0, _, rfl, (like_plane g).rep h0, u1, _, rfl, (like_span gs).rep h1, u2, _, rfl, reads_legs h2, u3, us, rfl, reads_flight h3, h4⟩)
  refine (law_row hF (w := W) hg (vs := [.agg cells0, .agg cells1, .slice a2 l2 e2, .agg cells3, .int .i64 a4]) ?_).mono fun e W' ⟨he, bel⟩ => ?_
  · simp only [RepAs]
    exact ⟨_, _, rfl, hr0, _, _, rfl, hr1, _, _, rfl, hr2, _, _, rfl, hr3, _, _, rfl, by simp only [RepA]; exact .int _ _, rfl⟩
  · subst he
    exact ⟨_, rfl, _, _, _, [], _, [], hW', trodAll_mk1 (shut_bool Tryd.underlying4 _), (trodAll_cons_mk (Below.trod laidOutX (by kernel_rfl) (of_decide_eq_true (by kernel_rfl)) k0 bel lt0) (trodAll_cons_mk (Below.trod laidOutX (by kernel_rfl) (of_decide_eq_true (by kernel_rfl)) k1 bel lt1) (trodAll_cons_mk (Below.trod laidOutX (by kernel_rfl) (of_decide_eq_true (by kernel_rfl)) k2 bel lt2) (trodAll_cons_mk (Below.trod laidOutX (by kernel_rfl) (of_decide_eq_true (by kernel_rfl)) k3 bel lt3) (trodAll_cons_mk (shut_int Tryd.underlying3 w4) trodAll_mk0))))), rfl, bel.frame _, fun h => by cases h⟩
theorem over_la : Rows.LoadAlongSaid :=
  OpenClaim.holds_of_wide 3 Tryd.f3 rfl rfl rfl rfl rfl rfl rfl ⟨rfl, rfl, rfl, rfl, rfl⟩ rfl rfl rfl rfl rfl (by kernel_rfl) Tryd.func3 (by kernel_rfl)
    (of_decide_eq_true (by kernel_rfl)) (by unfold Func.isWrapper; first | (rw [if_pos (by decide +kernel)]; kernel_rfl) | (rw [if_neg (by decide +kernel)]; exact ⟨rfl, rfl⟩))
    (fun os started H enc _ => lifted_la os started H enc)
theorem proved_la : Rows.LoadAlongCardSaid :=
  Claim7.holds_tied_plain_at .later [] [.data, .data, .data] true (true, "c8c091246f12d23c0d1cf85c069512378dac359cf22c1a5b6e4dc110315c578d") false
    over_la (fun _ h => by cases h) (by kernel_rfl) (fun _ h => by cases h) loadAlong_row_tie rfl ⟨rfl, rfl⟩ (by kernel_rfl) rfl
    (fun f fn hf hfn => by
      obtain rfl : f = 3 := Option.some.inj ((show Tryd.prog.funcNamed "windsock/windsocklaw02.LoadAlong" = some 3 by kernel_rfl).symm.trans hf) |>.symm
      obtain rfl : fn = Tryd.f3 := (Option.some.inj (Tryd.func3.symm.trans hfn)).symm
      exact ⟨by kernel_rfl, fun j t ht => by
        rw [Tryd.params3] at ht
        have hm : t ∈ [27, 29, 30, 34, 3] := by simpa using Array.mem_of_getElem? ht
        have hall : ([27, 29, 30, 34, 3].all fun u => !Tryd.prog.wantsStandIn u) = true := by kernel_rfl
        exact (show Tryd.prog.wantsStandIn t = false by simpa using List.all_eq_true.1 hall t hm)⟩)
    (by kernel_rfl)
#print axioms proved_la
end Go.Proofs.YtmchhfpjdgfacaaDoor
