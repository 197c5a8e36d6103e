/- LoadSure returns true for every plane and every point, and znu them as they were. Conditions: the listed tables read as the program's text lays them. -/
import Derived.Test.YthfkaopnphjlkaaGreatDoorFb
import Derived.Test.YthfkaopnphjlkaaGreatDoorTie
import Derived.Test.YthfkaopnphjlkaaGreatDoorCards
import Derived.SevenTiedAt
set_option linter.all false
set_option maxRecDepth 100000
namespace Go.Proofs.YthfkaopnphjlkaaGreatDoor
open Go.ChangeShapes Go.WideShapes Go.ChangeAt Go.RowKit Go.Ab Go.Ab.B
theorem lifted_ls (os : Os) (started : os.Started) (H : Type) (enc : TypeId × Value → H) :
    ReturnsInHanded {} Tryz.checked os 3 .any (fun w args => (Rows.loadSureSpec.pre enc Tryz.prog Tryz.f3 [] false w args ∧ laidMetH Tryz.prog Rows.loadSureRow.laid w) ∧ sizedMet enc Tryz.prog Tryz.f3 (OpenSpec.ofChange Rows.loadSureSpec) false w args)
      (Rows.loadSureSpec.post enc Tryz.prog Tryz.f3 false true false false) := by
  refine returnsInHanded_of_change_and (C := Tryz.checked) (X := fun w _ => laidMetH Tryz.prog Rows.loadSureRow.laid w) (fun _ _ _ hh h => h.of_heap hh) ownX started (by kernel_rfl) Tryz.func3
    (ChangeSpec.witness_shaped (enc := enc) (C := Tryz.checked) (os := os) (X := fun w _ => laidMetH Tryz.prog Rows.loadSureRow.laid w) false (World.doorLaid Tryz.prog 42 os) #[.agg #[.int .i64 0, .int .i64 0, .int .i64 0, .int .i64 0, .slice none 0 0, .slice none 0 0, .int .i64 0, .int .i64 0, .int .i64 0, .slice none 0 0], .agg #[.slice none 0 0, .int .i64 0, .int .i64 0, .slice none 0 0, .bool false]] 8 rfl (World.shaped_of_RefB (by kernel_rfl) (by kernel_rfl)) (by kernel_rfl) (by kernel_rfl) (by kernel_rfl) (z109 os _)) ?_
  intro W base args ds gs before hval0 hW _ _ hL _
  have hval : ∀ (j : Nat) t v, Tryz.f3.params[j]? = some t → args[j]? = some v → Value.okWide Tryz.prog W .any base t v := hval0
  have hW' := hW
  obtain ⟨p, q, hA0, hV, rfl, hfz, hnd⟩ := hW
  have hA : DataW.TrodAll enc Tryz.prog W 0 (fun _ => true) true Tryz.f3.params.toList args.toList ds p := hA0
  rw [Tryz.params3] at hA hval
  obtain ⟨v0, vs0, d0, ds0, p0, q0, hargs, rfl, rfl, h0, r0⟩ := trodAll_cons hA
  obtain ⟨v1, vs1, d1, ds1, p1, q1, rfl, rfl, rfl, h1, r1⟩ := trodAll_cons r0
  obtain ⟨rfl, rfl, rfl⟩ := trodAll_nil r1
  obtain rfl : args = #[v0, v1] := by cases args; simp_all
  obtain ⟨rfl, rfl⟩ := trodVars_none hV
  obtain ⟨cells0, rfl, _⟩ := okWide_struct Tryz.underlying27 (hval 0 27 v0 rfl rfl)
  obtain ⟨cells1, rfl, _⟩ := okWide_struct Tryz.underlying33 (hval 1 33 v1 rfl rfl)
  have k0 := h0
  have k1 := h1
  have lt0 : ∀ x ∈ p0, x.block < W.heap.size := by obtain ⟨m, hm⟩ := k0; exact DataW.trod_lt m _ _ _ hm
  have lt1 : ∀ x ∈ p1, x.block < W.heap.size := by obtain ⟨m, hm⟩ := k1; exact DataW.trod_lt m _ _ _ hm
  obtain ⟨fuel0, hf0⟩ := h0
  obtain ⟨fuel1, hf1⟩ := h1
  obtain ⟨g, hr0, hwf⟩ := zua (H' := []) (φ := noφ) z11r hf0
  obtain ⟨gx, hr1, _⟩ := zua (H' := []) (φ := noφ) z11s hf1
  clear hA0 hval0
  have hg := zvo (W := W) g0 (z11q hL)
  have f4 := hwf 4 _ rfl
  have f5 := hwf 5 _ rfl
  have f9 := hwf 9 _ rfl
  simp only [Wf] at f4 f5 f9
  have hF := (zjv tabS z10j z11x z11y z11z (z8.cfg (C := c0 bsX) (C' := cs bsX) rfl rfl zoo) (fun e mo t l nc c ns s ta tm r nf f n it lo hi m wt ld hp hq => z8.cfg (C := cs17 bsX) (C' := cs7 bsX) rfl rfl (znn tabS z10j z11k e mo t l nc c ns s ta tm r nf f n it lo hi m wt ld hp hq)) (z2h (g 0)) (z2h (g 1)) (z2h (g 2)) (z2h (g 3)) (lenOf (g 4)) (rowN (g 4)) (lenOf (g 5)) (rowN (g 5)) (z2h (g 6)) (z2h (g 7)) (z2h (g 8)) (lenOf (g 9)) (rowN (g 9))
    (lenOf (gx 0)) (rowN (gx 0)) (z2h (gx 1)) (z2h (gx 2)) (lenOf (gx 3)) (rowN (gx 3)) (zn8 (gx 4)) f4.1 f5.1 f9.1).like
    (args := [argA plT true g, argA ptT true gx]) ⟨zy8 g, zy9 gx, trivial⟩
  refine (z10z hF (w := W) hg (vs := [.agg cells0, .agg cells1]) ?_).mono fun e W' ⟨he, bel⟩ => ?_
  · simp only [zh]
    exact ⟨_, _, rfl, hr0, _, _, rfl, hr1, rfl⟩
  · subst he
    exact ⟨_, rfl, _, _, _, [], _, [], hW', trodAll_mk1 (shut_bool Tryz.underlying4 _), (trodAll_cons_mk (Below.trod zvi (by kernel_rfl) (of_decide_eq_true (by kernel_rfl)) k0 bel lt0) (trodAll_cons_mk (Below.trod zvi (by kernel_rfl) (of_decide_eq_true (by kernel_rfl)) k1 bel lt1) trodAll_mk0)), rfl, bel.frame _, fun h => by cases h⟩
theorem over_ls : Rows.LoadSureSaid :=
  OpenClaim.holds_of_wide 3 Tryz.f3 rfl rfl rfl rfl rfl rfl rfl ⟨rfl, rfl, rfl, rfl, rfl⟩ rfl rfl rfl rfl rfl (by kernel_rfl) Tryz.func3 (by kernel_rfl)
    (of_decide_eq_true (by kernel_rfl)) (by unfold Func.isWrapper; first | (rw [if_pos (by decide +kernel)]; kernel_rfl) | (rw [if_neg (by decide +kernel)]; exact ⟨rfl, rfl⟩))
    (fun os started H enc _ => lifted_ls os started H enc)
theorem proved_ls : Rows.LoadSureCardSaid :=
  Claim7.holds_tied_plain_at .later [] [.data, .data, .data] true (true, "e985f503765f88045309a70c4bb79244cb2348bd69ed7bbf6ede686cd3c89f7b") false
    over_ls (fun _ h => by cases h) (by kernel_rfl) (fun _ h => by cases h) loadSure_row_tie rfl ⟨rfl, rfl⟩ (by kernel_rfl) rfl
    (fun f fn hf hfn => by
      obtain rfl : f = 3 := Option.some.inj ((show Tryz.prog.funcNamed "windsock/windsocklaw02.LoadSure" = some 3 by kernel_rfl).symm.trans hf) |>.symm
      obtain rfl : fn = Tryz.f3 := (Option.some.inj (Tryz.func3.symm.trans hfn)).symm
      exact ⟨by kernel_rfl, fun j t ht => by
        rw [Tryz.params3] at ht
        have hm : t ∈ [27, 33] := by simpa using Array.mem_of_getElem? ht
        have hall : ([27, 33].all fun u => !Tryz.prog.wantsStandIn u) = true := by kernel_rfl
        exact (show Tryz.prog.wantsStandIn t = false by simpa using List.all_eq_true.1 hall t hm)⟩)
    (by kernel_rfl)
#print axioms proved_ls
end Go.Proofs.YthfkaopnphjlkaaGreatDoor
