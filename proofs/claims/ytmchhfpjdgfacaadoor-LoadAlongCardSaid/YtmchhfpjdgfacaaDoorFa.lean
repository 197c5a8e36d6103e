/- A part of the proof. -/
import Derived.Shelf.Strings.Builder1
import Derived.Shelf.Strconv.Itoa3
import Derived.Test.YtmchhfpjdgfacaaDoorProg
import Derived.Test.YtmchhfpjdgfacaaDoorTb
import Derived.Test.YtmchhfpjdgfacaaDoorKa
import Derived.Test.YtmchhfpjdgfacaaDoorKb
import Derived.Test.YtmchhfpjdgfacaaDoorKc
import Derived.Test.YtmchhfpjdgfacaaDoorKd
import Derived.Test.YtmchhfpjdgfacaaDoorKe
import Derived.Test.YtmchhfpjdgfacaaDoorLd
set_option linter.all false
namespace Go.Proofs
open Go.Shelf
def Tryd.lays169_ren : Go.Shelf.Ren := ⟨fun | 169 => 59 | n => n, fun | 70 => 126 | 9 => 9 | 0 => 0 | 72 => 129 | 37 => 127 | 127 => 149 | 3 => 3 | 5 => 5 | n => n, fun | n => n⟩
theorem Tryd.lays169 : Go.Proofs.Lays.n169 Tryd.prog Tryd.lays169_ren := {
  mixed := by kernel_rfl
  f169 := Tryd.func59.trans (congrArg some (by kernel_rfl))
  t0 := Tryd.underlying0
  a0 := Tryd.isAgg0
  z0 := Tryd.sizeOf0
  v0 := Tryd.zeroValue0
  t3 := Tryd.underlying3
  a3 := Tryd.isAgg3
  z3 := Tryd.sizeOf3
  v3 := Tryd.zeroValue3
  t9 := Tryd.underlying9
  a9 := Tryd.isAgg9
  z9 := Tryd.sizeOf9
  v9 := Tryd.zeroValue9
  t37 := Tryd.underlying127
  a37 := Tryd.isAgg127
  z37 := Tryd.sizeOf127
  v37 := Tryd.zeroValue127
  t70 := Tryd.underlying126
  a70 := Tryd.isAgg126
  z70 := Tryd.sizeOf126
  v70 := Tryd.zeroValue126
  t72 := Tryd.underlying129
  a72 := Tryd.isAgg129
  z72 := Tryd.sizeOf129
  v72 := Tryd.zeroValue129
  t127 := Tryd.underlying149
  a127 := Tryd.isAgg149
  z127 := Tryd.sizeOf149
  v127 := Tryd.zeroValue149 }
def Tryd.laysM171_ren : Go.Shelf.Ren := ⟨fun | 171 => 77 | 243 => 83 | 246 => 88 | 283 => 89 | 284 => 90 | 285 => 91 | 286 => 92 | 129 => 94 | 317 => 93 | 318 => 95 | 319 => 96 | 320 => 97 | 337 => 98 | 338 => 99 | n => n, fun | 3 => 3 | 9 => 9 | 2 => 2 | 4 => 4 | 171 => 168 | 0 => 0 | 53 => 161 | 37 => 127 | 5 => 5 | 173 => 171 | 212 => 174 | 51 => 158 | 20 => 20 | 213 => 175 | 46 => 150 | 232 => 178 | 233 => 179 | n => n, fun | 17 => 0 | 18 => 1 | 19 => 2 | n => n⟩
theorem Tryd.laysM171 : Go.Proofs.LaysM.n171 Tryd.prog Tryd.laysM171_ren := {
  mixed := by kernel_rfl
  f129 := Tryd.func94.trans (congrArg some (by kernel_rfl))
  f171 := Tryd.func77.trans (congrArg some (by kernel_rfl))
  f243 := Tryd.func83.trans (congrArg some (by kernel_rfl))
  f246 := Tryd.func88.trans (congrArg some (by kernel_rfl))
  f283 := Tryd.func89.trans (congrArg some (by kernel_rfl))
  f284 := Tryd.func90.trans (congrArg some (by kernel_rfl))
  f285 := Tryd.func91.trans (congrArg some (by kernel_rfl))
  f286 := Tryd.func92.trans (congrArg some (by kernel_rfl))
  f317 := Tryd.func93.trans (congrArg some (by kernel_rfl))
  f318 := Tryd.func95.trans (congrArg some (by kernel_rfl))
  f319 := Tryd.func96.trans (congrArg some (by kernel_rfl))
  f320 := Tryd.func97.trans (congrArg some (by kernel_rfl))
  f337 := Tryd.func98.trans (congrArg some (by kernel_rfl))
  f338 := Tryd.func99.trans (congrArg some (by kernel_rfl))
  t0 := Tryd.underlying0
  a0 := Tryd.isAgg0
  z0 := Tryd.sizeOf0
  v0 := Tryd.zeroValue0
  t2 := Tryd.underlying2
  a2 := Tryd.isAgg2
  z2 := Tryd.sizeOf2
  v2 := Tryd.zeroValue2
  t3 := Tryd.underlying3
  a3 := Tryd.isAgg3
  z3 := Tryd.sizeOf3
  v3 := Tryd.zeroValue3
  t4 := Tryd.underlying4
  a4 := Tryd.isAgg4
  z4 := Tryd.sizeOf4
  v4 := Tryd.zeroValue4
  t5 := Tryd.underlying5
  a5 := Tryd.isAgg5
  z5 := Tryd.sizeOf5
  v5 := Tryd.zeroValue5
  t9 := Tryd.underlying9
  a9 := Tryd.isAgg9
  z9 := Tryd.sizeOf9
  v9 := Tryd.zeroValue9
  t20 := Tryd.underlying20
  a20 := Tryd.isAgg20
  z20 := Tryd.sizeOf20
  v20 := Tryd.zeroValue20
  t37 := Tryd.underlying127
  a37 := Tryd.isAgg127
  z37 := Tryd.sizeOf127
  v37 := Tryd.zeroValue127
  t46 := Tryd.underlying150
  a46 := Tryd.isAgg150
  z46 := Tryd.sizeOf150
  v46 := Tryd.zeroValue150
  t51 := Tryd.underlying158
  a51 := Tryd.isAgg158
  z51 := Tryd.sizeOf158
  v51 := Tryd.zeroValue158
  t53 := Tryd.underlying161
  a53 := Tryd.isAgg161
  z53 := Tryd.sizeOf161
  v53 := Tryd.zeroValue161
  t171 := Tryd.underlying168
  a171 := Tryd.isAgg168
  z171 := Tryd.sizeOf168
  v171 := Tryd.zeroValue168
  t173 := Tryd.underlying171
  a173 := Tryd.isAgg171
  z173 := Tryd.sizeOf171
  v173 := Tryd.zeroValue171
  t212 := Tryd.underlying174
  a212 := Tryd.isAgg174
  z212 := Tryd.sizeOf174
  v212 := Tryd.zeroValue174
  t213 := Tryd.underlying175
  a213 := Tryd.isAgg175
  z213 := Tryd.sizeOf175
  t232 := Tryd.underlying178
  a232 := Tryd.isAgg178
  z232 := Tryd.sizeOf178
  v232 := Tryd.zeroValue178
  t233 := Tryd.underlying179
  a233 := Tryd.isAgg179
  z233 := Tryd.sizeOf179
  v233 := Tryd.zeroValue179
  g17 := by kernel_rfl
  g18 := by kernel_rfl
  g19 := by kernel_rfl
  i0 := by kernel_rfl
  i2 := by kernel_rfl
  i3 := by kernel_rfl
  i4 := by kernel_rfl
  i5 := by kernel_rfl
  i9 := by kernel_rfl
  i20 := by kernel_rfl
  i37 := by kernel_rfl
  i46 := by kernel_rfl
  i51 := by kernel_rfl
  i53 := by kernel_rfl
  i171 := by kernel_rfl
  i173 := by kernel_rfl
  i212 := by kernel_rfl
  i232 := by kernel_rfl
  i233 := by kernel_rfl
  m17 := by kernel_rfl
  m18 := by kernel_rfl
  m19 := by kernel_rfl }
def Tryd.lays240_ren : Go.Shelf.Ren := ⟨fun | 240 => 82 | 276 => 87 | n => n, fun | 0 => 0 | 4 => 4 | 9 => 9 | 20 => 20 | 70 => 126 | 72 => 129 | 37 => 127 | 164 => 165 | n => n, fun | n => n⟩
theorem Tryd.lays240 : Go.Proofs.Lays.n240 Tryd.prog Tryd.lays240_ren := {
  mixed := by kernel_rfl
  f240 := Tryd.func82.trans (congrArg some (by kernel_rfl))
  f276 := Tryd.func87.trans (congrArg some (by kernel_rfl))
  t0 := Tryd.underlying0
  a0 := Tryd.isAgg0
  z0 := Tryd.sizeOf0
  v0 := Tryd.zeroValue0
  t4 := Tryd.underlying4
  a4 := Tryd.isAgg4
  z4 := Tryd.sizeOf4
  v4 := Tryd.zeroValue4
  t9 := Tryd.underlying9
  a9 := Tryd.isAgg9
  z9 := Tryd.sizeOf9
  v9 := Tryd.zeroValue9
  t20 := Tryd.underlying20
  a20 := Tryd.isAgg20
  z20 := Tryd.sizeOf20
  v20 := Tryd.zeroValue20
  t70 := Tryd.underlying126
  a70 := Tryd.isAgg126
  z70 := Tryd.sizeOf126
  v70 := Tryd.zeroValue126
  t72 := Tryd.underlying129
  a72 := Tryd.isAgg129
  z72 := Tryd.sizeOf129
  v72 := Tryd.zeroValue129
  t164 := Tryd.underlying165
  a164 := Tryd.isAgg165
  z164 := Tryd.sizeOf165
  v164 := Tryd.zeroValue165 }
theorem Tryd.bX72 : Builder.X72 Tryd.prog Tryd.lays240_ren := {
  sizeBuilder := by kernel_rfl
  liesBuilder := by kernel_rfl }
theorem Tryd.bExtra : Builder.Extra Tryd.prog Tryd.lays169_ren := {
  sizeBuilder := by kernel_rfl
  liesBuilder := by kernel_rfl
  t5 := Tryd.underlying5
  a5 := Tryd.isAgg5
  z5 := Tryd.sizeOf5
  v5 := Tryd.zeroValue5
  infoByte := by kernel_rfl
  cellsByte := by kernel_rfl
  sizeByte := by kernel_rfl
  neB5 := by decide }
end Go.Proofs
set_option maxRecDepth 100000
namespace Go.Ab.B
open Go.Proofs
theorem bsX : BsOk Tryd.prog := bsOk_of Tryd.lays169 Tryd.bExtra (fun f h => by
    have hall : ((List.range 123).all fun f => !isBs Tryd.prog f || Nat.beq f f_strings_Builder_String) = true := by kernel_rfl
    have hsz : Tryd.prog.funcs.size = 123 := by kernel_rfl
    rcases Nat.lt_or_ge f 123 with hf | hf
    · have := List.all_eq_true.1 hall f (by simpa using hf)
      rw [h] at this
      show f = f_strings_Builder_String
      exact Nat.eq_of_beq_eq_true (by simpa using this)
    · unfold isBs at h
      rw [Array.getElem?_eq_none (by omega)] at h
      cases h) (fun e h => by
    have h5 : u8Of Tryd.prog = some 5 := by kernel_rfl
    rw [h5] at h
    exact (Option.some.inj h).symm)
theorem g0 : Tryd.prog.globalNamed "internal/strconv.uint64pow10" = some 0 := by kernel_rfl
theorem okcc : okFn Tryd.prog f_strings_Builder_copyCheck = true := by kernel_rfl
theorem lies (t n : Nat) (h : (t, n) ∈ bTB) : 0 < n ∧ liesAt Tryd.prog Tryd.prog.depth t (n / Tryd.prog.cellsOf t) 0 t_strings_Builder 1 = true := by
  simp only [bTB, List.mem_cons, Prod.mk.injEq, List.not_mem_nil, or_false] at h
  rcases h with ⟨rfl, rfl⟩ | ⟨rfl, rfl⟩
  · exact ⟨by decide, by kernel_rfl⟩
  · exact ⟨by decide, by kernel_rfl⟩
theorem ccX (f : Nat) (h : ccB f = true) : f = f_strings_Builder_copyCheck := Nat.eq_of_beq_eq_true h
theorem tab0 : TabOk (c0 bsX) := tabOk_mk (C := c0 bsX) (ρ := Tryd.lays240_ren) T_ok (fun f g args r hg h => by
    have hg : B0 f = some g := hg
    unfold B0 at hg
    cases hb : Nat.beq f f_strconv_Itoa with
    | true =>
      rw [hb] at hg
      cases hg
      obtain rfl := Nat.eq_of_beq_eq_true hb
      exact itoa_fcall (C := c0 bsX) (ρ := Tryd.laysM171_ren) Tryd.laysM171 g0 rfl h
    | false => rw [hb] at hg; cases hg) Tryd.lays240 Tryd.bX72 ccX okcc lies
theorem hb0 (f : FuncId) (g : List AV → Option AV) (args : List AV) (r : AV) (hg : B0 f = some g) (h : g args = some r) : FCall (c0 bsX) f args r [] := tab0.b f g args r hg h
theorem row_law02_P : FCall (c0 bsX) f_law02_P [] rP [] := fcall_row tab0 (f := f_law02_P) (F := F_law02_P) rfl (run_law02_P bsX)
theorem row_law02_T : FCall (c0 bsX) f_law02_T [] rT [] := fcall_row tab0 (f := f_law02_T) (F := F_law02_T) rfl (run_law02_T bsX)
theorem row_load_planeFine : FCall (c0 bsX) f_load_planeFine [rP] (vB true) [] := fcall_row tab0 (f := f_load_planeFine) (F := F_load_planeFine) rfl (run_load_planeFine bsX)
theorem hb1 (f : FuncId) (g : List AV → Option AV) (args : List AV) (r : AV) (hg : B1 f = some g) (h : g args = some r) : FCall (c0 bsX) f args r [] := by
  unfold B1 at hg
  split at hg
  · cases hg
    refine rowsG_ok (fun x hx => ?_) h
    simp only [R1, List.mem_cons, List.not_mem_nil, or_false] at hx
    rcases hx with rfl | rfl | rfl
    · exact row_law02_P
    · exact row_law02_T
    · exact row_load_planeFine
  · exact hb0 f g args r hg h
theorem tab1 : TabOk (c1 bsX) := tabOk_mk (C := c1 bsX) (ρ := Tryd.lays240_ren) T_ok (fun f g args r hg h => FCall.cfg (C := c0 bsX) (C' := c1 bsX) rfl rfl (hb1 f g args r hg h)) Tryd.lays240 Tryd.bX72 ccX okcc lies
theorem row_load_Sure : FCall (c0 bsX) f_load_Sure [rP, aX] r20 [] := FCall.cfg (C := c1 bsX) (C' := c0 bsX) rfl rfl (fcall_row tab1 (f := f_load_Sure) (F := F_load_Sure) rfl (run_load_Sure bsX))
theorem row_load_Trip : FCall (c0 bsX) f_load_Trip [rP, sp2 150 160, rT] r17 [] := FCall.cfg (C := c1 bsX) (C' := c0 bsX) rfl rfl (fcall_row tab1 (f := f_load_Trip) (F := F_load_Trip) rfl (run_load_Trip bsX))
theorem row_load_Fuel : FCall (c0 bsX) f_load_Fuel [rP, rT] r19 [] := FCall.cfg (C := c1 bsX) (C' := c0 bsX) rfl rfl (fcall_row tab1 (f := f_load_Fuel) (F := F_load_Fuel) rfl (run_load_Fuel bsX))
theorem row_load_Take : FCall (c0 bsX) f_load_Take [rP, sp2 100 100, aLegs, aPeople] r23 [] := FCall.cfg (C := c1 bsX) (C' := c0 bsX) rfl rfl (fcall_row tab1 (f := f_load_Take) (F := F_load_Take) rfl (run_load_Take bsX))
theorem row_load_Print : FCall (c0 bsX) f_load_Print [sp2 150 160, rT] r24 [] := FCall.cfg (C := c1 bsX) (C' := c0 bsX) rfl rfl (fcall_row tab1 (f := f_load_Print) (F := F_load_Print) rfl (run_load_Print bsX))
theorem hb2 (f : FuncId) (g : List AV → Option AV) (args : List AV) (r : AV) (hg : B2 f = some g) (h : g args = some r) : FCall (c0 bsX) f args r [] := by
  unfold B2 at hg
  split at hg
  · cases hg
    refine rowsG_ok (fun x hx => ?_) h
    simp only [R2, List.mem_cons, List.not_mem_nil, or_false] at hx
    rcases hx with rfl | rfl | rfl | rfl | rfl
    · exact row_load_Sure
    · exact row_load_Trip
    · exact row_load_Fuel
    · exact row_load_Take
    · exact row_load_Print
  · exact hb1 f g args r hg h
theorem tab2 : TabOk (c2 bsX) := tabOk_mk (C := c2 bsX) (ρ := Tryd.lays240_ren) T_ok (fun f g args r hg h => FCall.cfg (C := c0 bsX) (C' := c2 bsX) rfl rfl (hb2 f g args r hg h)) Tryd.lays240 Tryd.bX72 ccX okcc lies
theorem row_law02_known : FCall (c0 bsX) f_law02_known [] (vB true) [] := FCall.cfg (C := c2 bsX) (C' := c0 bsX) rfl rfl (fcall_row tab2 (f := f_law02_known) (F := F_law02_known) rfl (run_law02_known bsX))
end Go.Ab.B
namespace Go.Ab.B
open Go.Proofs
theorem tabS : TabOk (cs bsX) := tabOk_mk (C := cs bsX) (ρ := Tryd.lays240_ren) T_ok (fun f g args r hg h => by cases hg) Tryd.lays240 Tryd.bX72 ccX okcc lies
theorem tabS3 : TabOk (cs3 bsX) := tabOk_mk (C := cs3 bsX) (ρ := Tryd.lays240_ren) T_ok (fun f g args r hg h => by cases hg) Tryd.lays240 Tryd.bX72 ccX okcc lies
theorem tabS4 : TabOk (cs4 bsX) := tabOk_mk (C := cs4 bsX) (ρ := Tryd.lays240_ren) T_ok (fun f g args r hg h => by cases hg) Tryd.lays240 Tryd.bX72 ccX okcc lies
theorem tabS9 : TabOk (cs9 bsX) := tabOk_mk (C := cs9 bsX) (ρ := Tryd.lays240_ren) T_ok (fun f g args r hg h => by cases hg) Tryd.lays240 Tryd.bX72 ccX okcc lies
theorem tabS10 : TabOk (cs10 bsX) := tabOk_mk (C := cs10 bsX) (ρ := Tryd.lays240_ren) T_ok (fun f g args r hg h => by cases hg) Tryd.lays240 Tryd.bX72 ccX okcc lies
theorem tabS11 : TabOk (cs11 bsX) := tabOk_mk (C := cs11 bsX) (ρ := Tryd.lays240_ren) T_ok (fun f g args r hg h => by cases hg) Tryd.lays240 Tryd.bX72 ccX okcc lies
theorem tabS12 : TabOk (cs12 bsX) := tabOk_mk (C := cs12 bsX) (ρ := Tryd.lays240_ren) T_ok (fun f g args r hg h => by cases hg) Tryd.lays240 Tryd.bX72 ccX okcc lies
theorem tabS16 : TabOk (cs16 bsX) := tabOk_mk (C := cs16 bsX) (ρ := Tryd.lays240_ren) T_ok (fun f g args r hg h => by cases hg) Tryd.lays240 Tryd.bX72 ccX okcc lies
end Go.Ab.B
