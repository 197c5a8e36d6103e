/- A part of the proof. -/
import Derived.Shelf.Strings.Builder1
import Derived.Shelf.Strconv.Itoa3
import Derived.Test.YtfmbdlfpbhpieaaGreatDoorProg
import Derived.Test.YtfmbdlfpbhpieaaGreatDoorTb
import Derived.Test.YtfmbdlfpbhpieaaGreatDoorKa
import Derived.Test.YtfmbdlfpbhpieaaGreatDoorKb
import Derived.Test.YtfmbdlfpbhpieaaGreatDoorKc
import Derived.Test.YtfmbdlfpbhpieaaGreatDoorKd
import Derived.Test.YtfmbdlfpbhpieaaGreatDoorKe
import Derived.Test.YtfmbdlfpbhpieaaGreatDoorLf
set_option linter.all false
namespace Go.Proofs
open Go.Shelf
def Tryz.lays169_ren : Go.Shelf.Ren := ⟨fun | 169 => 75 | n => n, fun | 70 => 138 | 9 => 9 | 0 => 0 | 72 => 141 | 37 => 139 | 127 => 165 | 3 => 3 | 5 => 5 | n => n, fun | n => n⟩
theorem Tryz.lays169 : Go.Proofs.Lays.n169 Tryz.prog Tryz.lays169_ren := {
  mixed := by kernel_rfl
  f169 := Tryz.func75.trans (congrArg some (by kernel_rfl))
  t0 := Tryz.underlying0
  a0 := Tryz.isAgg0
  z0 := Tryz.sizeOf0
  v0 := Tryz.zeroValue0
  t3 := Tryz.underlying3
  a3 := Tryz.isAgg3
  z3 := Tryz.sizeOf3
  v3 := Tryz.zeroValue3
  t9 := Tryz.underlying9
  a9 := Tryz.isAgg9
  z9 := Tryz.sizeOf9
  v9 := Tryz.zeroValue9
  t37 := Tryz.underlying139
  a37 := Tryz.isAgg139
  z37 := Tryz.sizeOf139
  v37 := Tryz.zeroValue139
  t70 := Tryz.underlying138
  a70 := Tryz.isAgg138
  z70 := Tryz.sizeOf138
  v70 := Tryz.zeroValue138
  t72 := Tryz.underlying141
  a72 := Tryz.isAgg141
  z72 := Tryz.sizeOf141
  v72 := Tryz.zeroValue141
  t127 := Tryz.underlying165
  a127 := Tryz.isAgg165
  z127 := Tryz.sizeOf165
  v127 := Tryz.zeroValue165 }
def Tryz.laysM171_ren : Go.Shelf.Ren := ⟨fun | 171 => 94 | 243 => 101 | 246 => 104 | 283 => 105 | 284 => 106 | 285 => 107 | 286 => 108 | 129 => 110 | 317 => 109 | 318 => 111 | 319 => 112 | 320 => 113 | 337 => 114 | 338 => 115 | n => n, fun | 3 => 3 | 9 => 9 | 2 => 2 | 4 => 4 | 171 => 181 | 0 => 0 | 53 => 169 | 37 => 139 | 5 => 5 | 173 => 184 | 212 => 187 | 51 => 166 | 20 => 20 | 213 => 188 | 46 => 148 | 232 => 191 | 233 => 192 | n => n, fun | 17 => 0 | 18 => 1 | 19 => 2 | n => n⟩
theorem Tryz.laysM171 : Go.Proofs.LaysM.n171 Tryz.prog Tryz.laysM171_ren := {
  mixed := by kernel_rfl
  f129 := Tryz.func110.trans (congrArg some (by kernel_rfl))
  f171 := Tryz.func94.trans (congrArg some (by kernel_rfl))
  f243 := Tryz.func101.trans (congrArg some (by kernel_rfl))
  f246 := Tryz.func104.trans (congrArg some (by kernel_rfl))
  f283 := Tryz.func105.trans (congrArg some (by kernel_rfl))
  f284 := Tryz.func106.trans (congrArg some (by kernel_rfl))
  f285 := Tryz.func107.trans (congrArg some (by kernel_rfl))
  f286 := Tryz.func108.trans (congrArg some (by kernel_rfl))
  f317 := Tryz.func109.trans (congrArg some (by kernel_rfl))
  f318 := Tryz.func111.trans (congrArg some (by kernel_rfl))
  f319 := Tryz.func112.trans (congrArg some (by kernel_rfl))
  f320 := Tryz.func113.trans (congrArg some (by kernel_rfl))
  f337 := Tryz.func114.trans (congrArg some (by kernel_rfl))
  f338 := Tryz.func115.trans (congrArg some (by kernel_rfl))
  t0 := Tryz.underlying0
  a0 := Tryz.isAgg0
  z0 := Tryz.sizeOf0
  v0 := Tryz.zeroValue0
  t2 := Tryz.underlying2
  a2 := Tryz.isAgg2
  z2 := Tryz.sizeOf2
  v2 := Tryz.zeroValue2
  t3 := Tryz.underlying3
  a3 := Tryz.isAgg3
  z3 := Tryz.sizeOf3
  v3 := Tryz.zeroValue3
  t4 := Tryz.underlying4
  a4 := Tryz.isAgg4
  z4 := Tryz.sizeOf4
  v4 := Tryz.zeroValue4
  t5 := Tryz.underlying5
  a5 := Tryz.isAgg5
  z5 := Tryz.sizeOf5
  v5 := Tryz.zeroValue5
  t9 := Tryz.underlying9
  a9 := Tryz.isAgg9
  z9 := Tryz.sizeOf9
  v9 := Tryz.zeroValue9
  t20 := Tryz.underlying20
  a20 := Tryz.isAgg20
  z20 := Tryz.sizeOf20
  v20 := Tryz.zeroValue20
  t37 := Tryz.underlying139
  a37 := Tryz.isAgg139
  z37 := Tryz.sizeOf139
  v37 := Tryz.zeroValue139
  t46 := Tryz.underlying148
  a46 := Tryz.isAgg148
  z46 := Tryz.sizeOf148
  v46 := Tryz.zeroValue148
  t51 := Tryz.underlying166
  a51 := Tryz.isAgg166
  z51 := Tryz.sizeOf166
  v51 := Tryz.zeroValue166
  t53 := Tryz.underlying169
  a53 := Tryz.isAgg169
  z53 := Tryz.sizeOf169
  v53 := Tryz.zeroValue169
  t171 := Tryz.underlying181
  a171 := Tryz.isAgg181
  z171 := Tryz.sizeOf181
  v171 := Tryz.zeroValue181
  t173 := Tryz.underlying184
  a173 := Tryz.isAgg184
  z173 := Tryz.sizeOf184
  v173 := Tryz.zeroValue184
  t212 := Tryz.underlying187
  a212 := Tryz.isAgg187
  z212 := Tryz.sizeOf187
  v212 := Tryz.zeroValue187
  t213 := Tryz.underlying188
  a213 := Tryz.isAgg188
  z213 := Tryz.sizeOf188
  t232 := Tryz.underlying191
  a232 := Tryz.isAgg191
  z232 := Tryz.sizeOf191
  v232 := Tryz.zeroValue191
  t233 := Tryz.underlying192
  a233 := Tryz.isAgg192
  z233 := Tryz.sizeOf192
  v233 := Tryz.zeroValue192
  g17 := by kernel_rfl
  g18 := by kernel_rfl
  g19 := by kernel_rfl
  i0 := by kernel_rfl
  i2 := by kernel_rfl
  i3 := by kernel_rfl
  i4 := by kernel_rfl
  i5 := by kernel_rfl
  i9 := by kernel_rfl
  i20 := by kernel_rfl
  i37 := by kernel_rfl
  i46 := by kernel_rfl
  i51 := by kernel_rfl
  i53 := by kernel_rfl
  i171 := by kernel_rfl
  i173 := by kernel_rfl
  i212 := by kernel_rfl
  i232 := by kernel_rfl
  i233 := by kernel_rfl
  m17 := by kernel_rfl
  m18 := by kernel_rfl
  m19 := by kernel_rfl }
def Tryz.lays240_ren : Go.Shelf.Ren := ⟨fun | 240 => 100 | 276 => 103 | n => n, fun | 0 => 0 | 4 => 4 | 9 => 9 | 20 => 20 | 70 => 138 | 72 => 141 | 37 => 139 | 164 => 178 | n => n, fun | n => n⟩
theorem Tryz.lays240 : Go.Proofs.Lays.n240 Tryz.prog Tryz.lays240_ren := {
  mixed := by kernel_rfl
  f240 := Tryz.func100.trans (congrArg some (by kernel_rfl))
  f276 := Tryz.func103.trans (congrArg some (by kernel_rfl))
  t0 := Tryz.underlying0
  a0 := Tryz.isAgg0
  z0 := Tryz.sizeOf0
  v0 := Tryz.zeroValue0
  t4 := Tryz.underlying4
  a4 := Tryz.isAgg4
  z4 := Tryz.sizeOf4
  v4 := Tryz.zeroValue4
  t9 := Tryz.underlying9
  a9 := Tryz.isAgg9
  z9 := Tryz.sizeOf9
  v9 := Tryz.zeroValue9
  t20 := Tryz.underlying20
  a20 := Tryz.isAgg20
  z20 := Tryz.sizeOf20
  v20 := Tryz.zeroValue20
  t70 := Tryz.underlying138
  a70 := Tryz.isAgg138
  z70 := Tryz.sizeOf138
  v70 := Tryz.zeroValue138
  t72 := Tryz.underlying141
  a72 := Tryz.isAgg141
  z72 := Tryz.sizeOf141
  v72 := Tryz.zeroValue141
  t164 := Tryz.underlying178
  a164 := Tryz.isAgg178
  z164 := Tryz.sizeOf178
  v164 := Tryz.zeroValue178 }
theorem Tryz.bX72 : Builder.X72 Tryz.prog Tryz.lays240_ren := {
  sizeBuilder := by kernel_rfl
  liesBuilder := by kernel_rfl }
theorem Tryz.bExtra : Builder.Extra Tryz.prog Tryz.lays169_ren := {
  sizeBuilder := by kernel_rfl
  liesBuilder := by kernel_rfl
  t5 := Tryz.underlying5
  a5 := Tryz.isAgg5
  z5 := Tryz.sizeOf5
  v5 := Tryz.zeroValue5
  infoByte := by kernel_rfl
  cellsByte := by kernel_rfl
  sizeByte := by kernel_rfl
  neB5 := by decide }
end Go.Proofs
set_option maxRecDepth 100000
namespace Go.Ab.B
open Go.Proofs
theorem bsX : BsOk Tryz.prog := bsOk_of Tryz.lays169 Tryz.bExtra (fun f h => by
    have hall : ((List.range 139).all fun f => !isBs Tryz.prog f || Nat.beq f z5x) = true := by kernel_rfl
    have hsz : Tryz.prog.funcs.size = 139 := by kernel_rfl
    rcases Nat.lt_or_ge f 139 with hf | hf
    · have := List.all_eq_true.1 hall f (by simpa using hf)
      rw [h] at this
      show f = z5x
      exact Nat.eq_of_beq_eq_true (by simpa using this)
    · unfold isBs at h
      rw [Array.getElem?_eq_none (by omega)] at h
      cases h) (fun e h => by
    have h5 : u8Of Tryz.prog = some 5 := by kernel_rfl
    rw [h5] at h
    exact (Option.some.inj h).symm)
theorem g0 : Tryz.prog.globalNamed "internal/strconv.uint64pow10" = some 0 := by kernel_rfl
theorem okcc : okFn Tryz.prog z27 = true := by kernel_rfl
theorem lies (t n : Nat) (h : (t, n) ∈ bTB) : 0 < n ∧ liesAt Tryz.prog Tryz.prog.depth t (n / Tryz.prog.cellsOf t) 0 z93 1 = true := by
  simp only [bTB, List.mem_cons, Prod.mk.injEq, List.not_mem_nil, or_false] at h
  rcases h with ⟨rfl, rfl⟩ | ⟨rfl, rfl⟩
  · exact ⟨by decide, by kernel_rfl⟩
  · exact ⟨by decide, by kernel_rfl⟩
theorem ccX (f : Nat) (h : ccB f = true) : f = z27 := Nat.eq_of_beq_eq_true h
theorem tab0 : TabOk (c0 bsX) := tabOk_mk (C := c0 bsX) (ρ := Tryz.lays240_ren) T_ok (fun f g args r hg h => by
    have hg : B0 f = some g := hg
    unfold B0 at hg
    cases hb : Nat.beq f zbv with
    | true =>
      rw [hb] at hg
      cases hg
      obtain rfl := Nat.eq_of_beq_eq_true hb
      exact zto (C := c0 bsX) (ρ := Tryz.laysM171_ren) Tryz.laysM171 g0 rfl h
    | false => rw [hb] at hg; cases hg) Tryz.lays240 Tryz.bX72 ccX okcc lies
theorem hb0 (f : FuncId) (g : List AV → Option AV) (args : List AV) (r : AV) (hg : B0 f = some g) (h : g args = some r) : FCall (c0 bsX) f args r [] := tab0.b f g args r hg h
theorem zsd : FCall (c0 bsX) zea [] rP [] := fcall_row tab0 (f := zea) (F := z8j) rfl (zse bsX)
theorem zsf : FCall (c0 bsX) zeb [] rT [] := fcall_row tab0 (f := zeb) (F := z8k) rfl (zs6 bsX)
theorem zfx : FCall (c0 bsX) z1v [rP] (vB true) [] := fcall_row tab0 (f := z1v) (F := z1j) rfl (zfy bsX)
theorem hb1 (f : FuncId) (g : List AV → Option AV) (args : List AV) (r : AV) (hg : B1 f = some g) (h : g args = some r) : FCall (c0 bsX) f args r [] := by
  unfold B1 at hg
  split at hg
  · cases hg
    refine zcl (fun x hx => ?_) h
    simp only [R1, List.mem_cons, List.not_mem_nil, or_false] at hx
    rcases hx with rfl | rfl | rfl
    · exact zsd
    · exact zsf
    · exact zfx
  · exact hb0 f g args r hg h
theorem tab1 : TabOk (c1 bsX) := tabOk_mk (C := c1 bsX) (ρ := Tryz.lays240_ren) T_ok (fun f g args r hg h => FCall.cfg (C := c0 bsX) (C' := c1 bsX) rfl rfl (hb1 f g args r hg h)) Tryz.lays240 Tryz.bX72 ccX okcc lies
theorem zph : FCall (c0 bsX) z6d [rP, aX] r20 [] := FCall.cfg (C := c1 bsX) (C' := c0 bsX) rfl rfl (fcall_row tab1 (f := z6d) (F := z6h) rfl (zpi bsX))
theorem zpj : FCall (c0 bsX) z85 [rP, sp2 150 160, rT] r17 [] := FCall.cfg (C := c1 bsX) (C' := c0 bsX) rfl rfl (fcall_row tab1 (f := z85) (F := z6g) rfl (zpk bsX))
theorem zpl : FCall (c0 bsX) z2o [rP, rT] r19 [] := FCall.cfg (C := c1 bsX) (C' := c0 bsX) rfl rfl (fcall_row tab1 (f := z2o) (F := z3s) rfl (zpm bsX))
theorem zpn : FCall (c0 bsX) zay [rP, sp2 100 100, zta, zmd] r23 [] := FCall.cfg (C := c1 bsX) (C' := c0 bsX) rfl rfl (fcall_row tab1 (f := zay) (F := z6i) rfl (zpo bsX))
theorem zn7 : FCall (c0 bsX) z9i [sp2 150 160, rT] r24 [] := FCall.cfg (C := c1 bsX) (C' := c0 bsX) rfl rfl (fcall_row tab1 (f := z9i) (F := z5j) rfl (zn8 bsX))
theorem hb2 (f : FuncId) (g : List AV → Option AV) (args : List AV) (r : AV) (hg : B2 f = some g) (h : g args = some r) : FCall (c0 bsX) f args r [] := by
  unfold B2 at hg
  split at hg
  · cases hg
    refine zcl (fun x hx => ?_) h
    simp only [R2, List.mem_cons, List.not_mem_nil, or_false] at hx
    rcases hx with rfl | rfl | rfl | rfl | rfl
    · exact zph
    · exact zpj
    · exact zpl
    · exact zpn
    · exact zn7
  · exact hb1 f g args r hg h
theorem tab2 : TabOk (c2 bsX) := tabOk_mk (C := c2 bsX) (ρ := Tryz.lays240_ren) T_ok (fun f g args r hg h => FCall.cfg (C := c0 bsX) (C' := c2 bsX) rfl rfl (hb2 f g args r hg h)) Tryz.lays240 Tryz.bX72 ccX okcc lies
theorem zkr : FCall (c0 bsX) f_law02_known [] (vB true) [] := FCall.cfg (C := c2 bsX) (C' := c0 bsX) rfl rfl (fcall_row tab2 (f := f_law02_known) (F := z4y) rfl (zlf bsX))
end Go.Ab.B
namespace Go.Ab.B
open Go.Proofs
theorem tabS : TabOk (cs bsX) := tabOk_mk (C := cs bsX) (ρ := Tryz.lays240_ren) T_ok (fun f g args r hg h => by cases hg) Tryz.lays240 Tryz.bX72 ccX okcc lies
theorem zx3 : TabOk (cs3 bsX) := tabOk_mk (C := cs3 bsX) (ρ := Tryz.lays240_ren) T_ok (fun f g args r hg h => by cases hg) Tryz.lays240 Tryz.bX72 ccX okcc lies
theorem zx4 : TabOk (cs4 bsX) := tabOk_mk (C := cs4 bsX) (ρ := Tryz.lays240_ren) T_ok (fun f g args r hg h => by cases hg) Tryz.lays240 Tryz.bX72 ccX okcc lies
theorem zx5 : TabOk (cs6 bsX) := tabOk_mk (C := cs6 bsX) (ρ := Tryz.lays240_ren) T_ok (fun f g args r hg h => by cases hg) Tryz.lays240 Tryz.bX72 ccX okcc lies
theorem zx6 : TabOk (cs7 bsX) := tabOk_mk (C := cs7 bsX) (ρ := Tryz.lays240_ren) T_ok (fun f g args r hg h => by cases hg) Tryz.lays240 Tryz.bX72 ccX okcc lies
theorem zx7 : TabOk (cs9 bsX) := tabOk_mk (C := cs9 bsX) (ρ := Tryz.lays240_ren) T_ok (fun f g args r hg h => by cases hg) Tryz.lays240 Tryz.bX72 ccX okcc lies
theorem zwn : TabOk (cs11 bsX) := tabOk_mk (C := cs11 bsX) (ρ := Tryz.lays240_ren) T_ok (fun f g args r hg h => by cases hg) Tryz.lays240 Tryz.bX72 ccX okcc lies
theorem zwo : TabOk (cs12 bsX) := tabOk_mk (C := cs12 bsX) (ρ := Tryz.lays240_ren) T_ok (fun f g args r hg h => by cases hg) Tryz.lays240 Tryz.bX72 ccX okcc lies
theorem zwp : TabOk (cs13 bsX) := tabOk_mk (C := cs13 bsX) (ρ := Tryz.lays240_ren) T_ok (fun f g args r hg h => by cases hg) Tryz.lays240 Tryz.bX72 ccX okcc lies
theorem zwq : TabOk (cs14 bsX) := tabOk_mk (C := cs14 bsX) (ρ := Tryz.lays240_ren) T_ok (fun f g args r hg h => by cases hg) Tryz.lays240 Tryz.bX72 ccX okcc lies
theorem zwr : TabOk (cs15 bsX) := tabOk_mk (C := cs15 bsX) (ρ := Tryz.lays240_ren) T_ok (fun f g args r hg h => by cases hg) Tryz.lays240 Tryz.bX72 ccX okcc lies
end Go.Ab.B
