/- LoadFuels returns true for every plane and legs, and leaves them as they were. Conditions: the listed tables read as the program's text lays them. -/
import Derived.Test.YtfmbdlfpbhpieaaGreatDoorFb
import Derived.Test.YtfmbdlfpbhpieaaGreatDoorTie
import Derived.Test.YtfmbdlfpbhpieaaGreatDoorCards
import Derived.SevenTiedAt
set_option linter.all false
set_option maxRecDepth 100000
namespace Go.Proofs.YtfmbdlfpbhpieaaGreatDoor
open Go.ChangeShapes Go.WideShapes Go.ChangeAt Go.RowKit Go.Ab Go.Ab.B
theorem lifted_lf (os : Os) (started : os.Started) (H : Type) (enc : TypeId × Value → H) :
    ReturnsInHanded {} Tryz.checked os 4 .any (fun w args => (Rows.loadFuelsSpec.pre enc Tryz.prog Tryz.f4 [] false w args ∧ laidMetH Tryz.prog Rows.loadFuelsRow.laid w) ∧ sizedMet enc Tryz.prog Tryz.f4 (OpenSpec.ofChange Rows.loadFuelsSpec) false w args)
      (Rows.loadFuelsSpec.post enc Tryz.prog Tryz.f4 false true false false) := by
  refine returnsInHanded_of_change_and (C := Tryz.checked) (X := fun w _ => laidMetH Tryz.prog Rows.loadFuelsRow.laid w) (fun _ _ _ hh h => h.of_heap hh) ownX started (by kernel_rfl) Tryz.func4
    (ChangeSpec.witness_shaped (enc := enc) (C := Tryz.checked) (os := os) (X := fun w _ => laidMetH Tryz.prog Rows.loadFuelsRow.laid w) false (World.doorLaid Tryz.prog 42 os) #[.agg #[.int .i64 0, .int .i64 0, .int .i64 0, .int .i64 0, .slice none 0 0, .slice none 0 0, .int .i64 0, .int .i64 0, .int .i64 0, .slice none 0 0], .slice none 0 0] 8 rfl (World.shaped_of_RefB (by kernel_rfl) (by kernel_rfl)) (by kernel_rfl) (by kernel_rfl) (by kernel_rfl) (zv1 os _)) ?_
  intro W base args ds gs before hval0 hW _ _ hL _
  have hval : ∀ (j : Nat) t v, Tryz.f4.params[j]? = some t → args[j]? = some v → Value.okWide Tryz.prog W .any base t v := hval0
  have hW' := hW
  obtain ⟨p, q, hA0, hV, rfl, hfz, hnd⟩ := hW
  have hA : DataW.TrodAll enc Tryz.prog W 0 (fun _ => true) true Tryz.f4.params.toList args.toList ds p := hA0
  rw [Tryz.params4] at hA hval
  obtain ⟨v0, vs0, d0, ds0, p0, q0, hargs, rfl, rfl, h0, r0⟩ := trodAll_cons hA
  obtain ⟨v2, vs2, d2, ds2, p2, q2, rfl, rfl, rfl, h2, r2⟩ := trodAll_cons r0
  obtain ⟨rfl, rfl, rfl⟩ := trodAll_nil r2
  obtain rfl : args = #[v0, v2] := by cases args; simp_all
  obtain ⟨rfl, rfl⟩ := trodVars_none hV
  obtain ⟨cells0, rfl, _⟩ := okWide_struct Tryz.underlying27 (hval 0 27 v0 rfl rfl)
  obtain ⟨a2, l2, e2, rfl⟩ := okWide_slice Tryz.underlying30 (hval 1 30 v2 rfl rfl)
  have k0 := h0
  have k2 := h2
  have lt0 : ∀ x ∈ p0, x.block < W.heap.size := by obtain ⟨m, hm⟩ := k0; exact DataW.trod_lt m _ _ _ hm
  have lt2 : ∀ x ∈ p2, x.block < W.heap.size := by obtain ⟨m, hm⟩ := k2; exact DataW.trod_lt m _ _ _ hm
  obtain ⟨fuel0, hf0⟩ := h0
  obtain ⟨fuel2, hf2⟩ := h2
  obtain ⟨g, hr0, hwf⟩ := trod_agg (H' := []) (φ := noφ) zwu hf0
  obtain ⟨gl, hr2, hwl⟩ := trod_one (H' := []) (φ := noφ) zwv rfl hf2
  clear hA0 hval0
  have hg := zs0 (W := W) g0 (zww hL)
  have f4 := hwf 4 _ rfl
  have f5 := hwf 5 _ rfl
  have f9 := hwf 9 _ rfl
  simp only [Wf] at f4 f5 f9
  simp only [Wf] at hwl
  have hF := zs4 (fc_law02_LoadFuels tabS zx3 zx4 zx5 zx6 zx7 zwn zwo zwp zwq zwr (FCall.cfg (C := c0 bsX) (C' := cs bsX) rfl rfl zkr) (z21 (g 0)) (z21 (g 1)) (z21 (g 2)) (z21 (g 3)) (lenOf (g 4)) (rowN (g 4)) (lenOf (g 5)) (rowN (g 5)) (z21 (g 6)) (z21 (g 7)) (z21 (g 8)) (lenOf (g 9)) (rowN (g 9))
    (lenOf (gl 0)) (lgN (gl 0)) (lgI (gl 0)) (lgQ (gl 0)) (lgP (gl 0)) f4.1 f5.1 f9.1 hwl.1)
    (args := [argA plT true g, argA lgT false gl]) (fun w Z vs h => by
      simp only [RepAs] at h ⊢
      obtain ⟨u0, _, rfl, h0, u2, us, rfl, h2, h3⟩ := h
      exact ⟨u0, _, rfl, (ztf g).rep h0, u2, us, rfl, ztg h2, h3⟩)
  refine (law_row hF (w := W) hg (vs := [.agg cells0, .slice a2 l2 e2]) ?_).mono fun e W' ⟨he, bel⟩ => ?_
  · simp only [RepAs]
    exact ⟨_, _, rfl, hr0, _, _, rfl, hr2, rfl⟩
  · subst he
    exact ⟨_, rfl, _, _, _, [], _, [], hW', trodAll_mk1 (shut_bool Tryz.underlying4 _), (trodAll_cons_mk (Below.trod zqz (by kernel_rfl) (of_decide_eq_true (by kernel_rfl)) k0 bel lt0) (trodAll_cons_mk (Below.trod zqz (by kernel_rfl) (of_decide_eq_true (by kernel_rfl)) k2 bel lt2) trodAll_mk0)), rfl, bel.frame _, fun h => by cases h⟩
theorem over_lf : Rows.LoadFuelsSaid :=
  OpenClaim.holds_of_wide 4 Tryz.f4 rfl rfl rfl rfl rfl rfl rfl ⟨rfl, rfl, rfl, rfl, rfl⟩ rfl rfl rfl rfl rfl (by kernel_rfl) Tryz.func4 (by kernel_rfl)
    (of_decide_eq_true (by kernel_rfl)) (by unfold Func.isWrapper; first | (rw [if_pos (by decide +kernel)]; kernel_rfl) | (rw [if_neg (by decide +kernel)]; exact ⟨rfl, rfl⟩))
    (fun os started H enc _ => lifted_lf os started H enc)
theorem proved_lf : Rows.LoadFuelsCardSaid :=
  Claim7.holds_tied_plain_at .later [] [.data, .data, .data] true (true, "d1ce09823470c3ed4a8e44965cf9e92daa76c2d001665089e111565de7bf6382") false
    over_lf (fun _ h => by cases h) (by kernel_rfl) (fun _ h => by cases h) loadFuels_row_tie rfl ⟨rfl, rfl⟩ (by kernel_rfl) rfl
    (fun f fn hf hfn => by
      obtain rfl : f = 4 := Option.some.inj ((show Tryz.prog.funcNamed "windsock/windsocklaw02.LoadFuels" = some 4 by kernel_rfl).symm.trans hf) |>.symm
      obtain rfl : fn = Tryz.f4 := (Option.some.inj (Tryz.func4.symm.trans hfn)).symm
      exact ⟨by kernel_rfl, fun j t ht => by
        rw [Tryz.params4] at ht
        have hm : t ∈ [27, 30] := by simpa using Array.mem_of_getElem? ht
        have hall : ([27, 30].all fun u => !Tryz.prog.wantsStandIn u) = true := by kernel_rfl
        exact (show Tryz.prog.wantsStandIn t = false by simpa using List.all_eq_true.1 hall t hm)⟩)
    (by kernel_rfl)
#print axioms proved_lf
end Go.Proofs.YtfmbdlfpbhpieaaGreatDoor
