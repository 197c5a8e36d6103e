/- A part of the proof. -/
import Derived.Shelf.Strings.Builder1
import Derived.Shelf.Strconv.Itoa3
import Derived.Test.YtphjcjmipikfjaaGreatDoorProg
import Derived.Test.YtphjcjmipikfjaaGreatDoorKb
import Derived.Test.YtphjcjmipikfjaaGreatDoorKa
import Derived.Test.YtphjcjmipikfjaaGreatDoorKc
set_option linter.all false
namespace Go.Proofs
open Go.Shelf
def Tryz.lays169_ren : Go.Shelf.Ren := ⟨fun | 169 => 70 | n => n, fun | 70 => 119 | 9 => 9 | 0 => 0 | 72 => 122 | 37 => 120 | 127 => 148 | 3 => 3 | 5 => 5 | n => n, fun | n => n⟩
theorem Tryz.lays169 : Go.Proofs.Lays.n169 Tryz.prog Tryz.lays169_ren := {
  mixed := by kernel_rfl
  f169 := Tryz.func70.trans (congrArg some (by kernel_rfl))
  t0 := Tryz.underlying0
  a0 := Tryz.isAgg0
  z0 := Tryz.sizeOf0
  v0 := Tryz.zeroValue0
  t3 := Tryz.underlying3
  a3 := Tryz.isAgg3
  z3 := Tryz.sizeOf3
  v3 := Tryz.zeroValue3
  t9 := Tryz.underlying9
  a9 := Tryz.isAgg9
  z9 := Tryz.sizeOf9
  v9 := Tryz.zeroValue9
  t37 := Tryz.underlying120
  a37 := Tryz.isAgg120
  z37 := Tryz.sizeOf120
  v37 := Tryz.zeroValue120
  t70 := Tryz.underlying119
  a70 := Tryz.isAgg119
  z70 := Tryz.sizeOf119
  v70 := Tryz.zeroValue119
  t72 := Tryz.underlying122
  a72 := Tryz.isAgg122
  z72 := Tryz.sizeOf122
  v72 := Tryz.zeroValue122
  t127 := Tryz.underlying148
  a127 := Tryz.isAgg148
  z127 := Tryz.sizeOf148
  v127 := Tryz.zeroValue148 }
def Tryz.laysM171_ren : Go.Shelf.Ren := ⟨fun | 171 => 84 | 243 => 92 | 246 => 94 | 283 => 95 | 284 => 96 | 285 => 97 | 286 => 98 | 129 => 100 | 317 => 99 | 318 => 101 | 319 => 102 | 320 => 103 | 337 => 104 | 338 => 105 | n => n, fun | 3 => 3 | 9 => 9 | 2 => 2 | 4 => 4 | 171 => 158 | 0 => 0 | 53 => 152 | 37 => 120 | 5 => 5 | 173 => 160 | 212 => 164 | 51 => 150 | 20 => 20 | 213 => 165 | 46 => 69 | 232 => 166 | 233 => 167 | n => n, fun | 17 => 2 | 18 => 3 | 19 => 4 | n => n⟩
theorem Tryz.laysM171 : Go.Proofs.LaysM.n171 Tryz.prog Tryz.laysM171_ren := {
  mixed := by kernel_rfl
  f129 := Tryz.func100.trans (congrArg some (by kernel_rfl))
  f171 := Tryz.func84.trans (congrArg some (by kernel_rfl))
  f243 := Tryz.func92.trans (congrArg some (by kernel_rfl))
  f246 := Tryz.func94.trans (congrArg some (by kernel_rfl))
  f283 := Tryz.func95.trans (congrArg some (by kernel_rfl))
  f284 := Tryz.func96.trans (congrArg some (by kernel_rfl))
  f285 := Tryz.func97.trans (congrArg some (by kernel_rfl))
  f286 := Tryz.func98.trans (congrArg some (by kernel_rfl))
  f317 := Tryz.func99.trans (congrArg some (by kernel_rfl))
  f318 := Tryz.func101.trans (congrArg some (by kernel_rfl))
  f319 := Tryz.func102.trans (congrArg some (by kernel_rfl))
  f320 := Tryz.func103.trans (congrArg some (by kernel_rfl))
  f337 := Tryz.func104.trans (congrArg some (by kernel_rfl))
  f338 := Tryz.func105.trans (congrArg some (by kernel_rfl))
  t0 := Tryz.underlying0
  a0 := Tryz.isAgg0
  z0 := Tryz.sizeOf0
  v0 := Tryz.zeroValue0
  t2 := Tryz.underlying2
  a2 := Tryz.isAgg2
  z2 := Tryz.sizeOf2
  v2 := Tryz.zeroValue2
  t3 := Tryz.underlying3
  a3 := Tryz.isAgg3
  z3 := Tryz.sizeOf3
  v3 := Tryz.zeroValue3
  t4 := Tryz.underlying4
  a4 := Tryz.isAgg4
  z4 := Tryz.sizeOf4
  v4 := Tryz.zeroValue4
  t5 := Tryz.underlying5
  a5 := Tryz.isAgg5
  z5 := Tryz.sizeOf5
  v5 := Tryz.zeroValue5
  t9 := Tryz.underlying9
  a9 := Tryz.isAgg9
  z9 := Tryz.sizeOf9
  v9 := Tryz.zeroValue9
  t20 := Tryz.underlying20
  a20 := Tryz.isAgg20
  z20 := Tryz.sizeOf20
  v20 := Tryz.zeroValue20
  t37 := Tryz.underlying120
  a37 := Tryz.isAgg120
  z37 := Tryz.sizeOf120
  v37 := Tryz.zeroValue120
  t46 := Tryz.underlying69
  a46 := Tryz.isAgg69
  z46 := Tryz.sizeOf69
  v46 := Tryz.zeroValue69
  t51 := Tryz.underlying150
  a51 := Tryz.isAgg150
  z51 := Tryz.sizeOf150
  v51 := Tryz.zeroValue150
  t53 := Tryz.underlying152
  a53 := Tryz.isAgg152
  z53 := Tryz.sizeOf152
  v53 := Tryz.zeroValue152
  t171 := Tryz.underlying158
  a171 := Tryz.isAgg158
  z171 := Tryz.sizeOf158
  v171 := Tryz.zeroValue158
  t173 := Tryz.underlying160
  a173 := Tryz.isAgg160
  z173 := Tryz.sizeOf160
  v173 := Tryz.zeroValue160
  t212 := Tryz.underlying164
  a212 := Tryz.isAgg164
  z212 := Tryz.sizeOf164
  v212 := Tryz.zeroValue164
  t213 := Tryz.underlying165
  a213 := Tryz.isAgg165
  z213 := Tryz.sizeOf165
  t232 := Tryz.underlying166
  a232 := Tryz.isAgg166
  z232 := Tryz.sizeOf166
  v232 := Tryz.zeroValue166
  t233 := Tryz.underlying167
  a233 := Tryz.isAgg167
  z233 := Tryz.sizeOf167
  v233 := Tryz.zeroValue167
  g17 := by kernel_rfl
  g18 := by kernel_rfl
  g19 := by kernel_rfl
  i0 := by kernel_rfl
  i2 := by kernel_rfl
  i3 := by kernel_rfl
  i4 := by kernel_rfl
  i5 := by kernel_rfl
  i9 := by kernel_rfl
  i20 := by kernel_rfl
  i37 := by kernel_rfl
  i46 := by kernel_rfl
  i51 := by kernel_rfl
  i53 := by kernel_rfl
  i171 := by kernel_rfl
  i173 := by kernel_rfl
  i212 := by kernel_rfl
  i232 := by kernel_rfl
  i233 := by kernel_rfl
  m17 := by kernel_rfl
  m18 := by kernel_rfl
  m19 := by kernel_rfl }
def Tryz.lays240_ren : Go.Shelf.Ren := ⟨fun | 240 => 83 | 276 => 91 | n => n, fun | 0 => 0 | 4 => 4 | 9 => 9 | 20 => 20 | 70 => 119 | 72 => 122 | 37 => 120 | 164 => 155 | n => n, fun | n => n⟩
theorem Tryz.lays240 : Go.Proofs.Lays.n240 Tryz.prog Tryz.lays240_ren := {
  mixed := by kernel_rfl
  f240 := Tryz.func83.trans (congrArg some (by kernel_rfl))
  f276 := Tryz.func91.trans (congrArg some (by kernel_rfl))
  t0 := Tryz.underlying0
  a0 := Tryz.isAgg0
  z0 := Tryz.sizeOf0
  v0 := Tryz.zeroValue0
  t4 := Tryz.underlying4
  a4 := Tryz.isAgg4
  z4 := Tryz.sizeOf4
  v4 := Tryz.zeroValue4
  t9 := Tryz.underlying9
  a9 := Tryz.isAgg9
  z9 := Tryz.sizeOf9
  v9 := Tryz.zeroValue9
  t20 := Tryz.underlying20
  a20 := Tryz.isAgg20
  z20 := Tryz.sizeOf20
  v20 := Tryz.zeroValue20
  t70 := Tryz.underlying119
  a70 := Tryz.isAgg119
  z70 := Tryz.sizeOf119
  v70 := Tryz.zeroValue119
  t72 := Tryz.underlying122
  a72 := Tryz.isAgg122
  z72 := Tryz.sizeOf122
  v72 := Tryz.zeroValue122
  t164 := Tryz.underlying155
  a164 := Tryz.isAgg155
  z164 := Tryz.sizeOf155
  v164 := Tryz.zeroValue155 }
theorem Tryz.bX72 : Builder.X72 Tryz.prog Tryz.lays240_ren := {
  sizeBuilder := by kernel_rfl
  liesBuilder := by kernel_rfl }
theorem Tryz.bExtra : Builder.Extra Tryz.prog Tryz.lays169_ren := {
  sizeBuilder := by kernel_rfl
  liesBuilder := by kernel_rfl
  t5 := Tryz.underlying5
  a5 := Tryz.isAgg5
  z5 := Tryz.sizeOf5
  v5 := Tryz.zeroValue5
  infoByte := by kernel_rfl
  cellsByte := by kernel_rfl
  sizeByte := by kernel_rfl
  neB5 := by decide }
end Go.Proofs
set_option maxRecDepth 100000
namespace Go.Ab.B
open Go.Proofs
theorem bsX : BsOk Tryz.prog := bsOk_of Tryz.lays169 Tryz.bExtra (fun f h => by
    have hall : ((List.range 131).all fun f => !isBs Tryz.prog f || Nat.beq f f_strings_Builder_String) = true := by kernel_rfl
    have hsz : Tryz.prog.funcs.size = 131 := by kernel_rfl
    rcases Nat.lt_or_ge f 131 with hf | hf
    · have := List.all_eq_true.1 hall f (by simpa using hf)
      rw [h] at this
      show f = f_strings_Builder_String
      exact Nat.eq_of_beq_eq_true (by simpa using this)
    · unfold isBs at h
      rw [Array.getElem?_eq_none (by omega)] at h
      cases h) (fun e h => by
    have h5 : u8Of Tryz.prog = some 5 := by kernel_rfl
    rw [h5] at h
    exact (Option.some.inj h).symm)
theorem g0 : Tryz.prog.globalNamed "internal/strconv.uint64pow10" = some 2 := by kernel_rfl
theorem okcc : okFn Tryz.prog f_strings_Builder_copyCheck = true := by kernel_rfl
theorem lies (t n : Nat) (h : (t, n) ∈ bTB) : 0 < n ∧ liesAt Tryz.prog Tryz.prog.depth t (n / Tryz.prog.cellsOf t) 0 t_strings_Builder 1 = true := by
  simp only [bTB, List.mem_cons, Prod.mk.injEq, List.not_mem_nil, or_false] at h
  obtain ⟨rfl, rfl⟩ := h
  exact ⟨by decide, by kernel_rfl⟩
theorem ccX (f : Nat) (h : ccB f = true) : f = f_strings_Builder_copyCheck := Nat.eq_of_beq_eq_true h
theorem tab0 : TabOk (c0 bsX) := tabOk_mk (C := c0 bsX) (ρ := Tryz.lays240_ren) T_ok (fun f g args r hg h => by
    have hg : B0 f = some g := hg
    unfold B0 at hg
    cases hb : Nat.beq f f_strconv_Itoa with
    | true =>
      rw [hb] at hg
      cases hg
      obtain rfl := Nat.eq_of_beq_eq_true hb
      exact itoa_fcall (C := c0 bsX) (ρ := Tryz.laysM171_ren) Tryz.laysM171 g0 rfl h
    | false => rw [hb] at hg; cases hg) Tryz.lays240 Tryz.bX72 ccX okcc lies
theorem hb0 (f : FuncId) (g : List AV → Option AV) (args : List AV) (r : AV) (hg : B0 f = some g) (h : g args = some r) : FCall (c0 bsX) f args r [] := tab0.b f g args r hg h
theorem row_law01_Gauge : FCall (c0 bsX) f_law01_Gauge [] rGauge [] := fcall_row tab0 (f := f_law01_Gauge) (F := F_law01_Gauge) rfl (run_law01_Gauge bsX)
theorem row_law01_Sea : FCall (c0 bsX) f_law01_Sea [] rSea [] := fcall_row tab0 (f := f_law01_Sea) (F := F_law01_Sea) rfl (run_law01_Sea bsX)
theorem row_law01_Strip : FCall (c0 bsX) f_law01_Strip [] rStrip [] := fcall_row tab0 (f := f_law01_Strip) (F := F_law01_Strip) rfl (run_law01_Strip bsX)
theorem row_law01_Need : FCall (c0 bsX) f_law01_Need [] rNeed [] := fcall_row tab0 (f := f_law01_Need) (F := F_law01_Need) rfl (run_law01_Need bsX)
theorem hb1 (f : FuncId) (g : List AV → Option AV) (args : List AV) (r : AV) (hg : B1 f = some g) (h : g args = some r) : FCall (c0 bsX) f args r [] := by
  unfold B1 at hg
  split at hg
  · cases hg
    refine rowsG_ok (fun x hx => ?_) h
    simp only [R1, List.mem_cons, List.not_mem_nil, or_false] at hx
    rcases hx with rfl | rfl | rfl | rfl
    · exact row_law01_Gauge
    · exact row_law01_Sea
    · exact row_law01_Strip
    · exact row_law01_Need
  · exact hb0 f g args r hg h
theorem tab1 : TabOk (c1 bsX) := tabOk_mk (C := c1 bsX) (ρ := Tryz.lays240_ren) T_ok (fun f g args r hg h => FCall.cfg (C := c0 bsX) (C' := c1 bsX) rfl rfl (hb1 f g args r hg h)) Tryz.lays240 Tryz.bX72 ccX okcc lies
theorem row_water_Clash : FCall (c0 bsX) f_water_Clash [rGauge] rClash [] := FCall.cfg (C := c1 bsX) (C' := c0 bsX) rfl rfl (fcall_row tab1 (f := f_water_Clash) (F := F_water_Clash) rfl (run_water_Clash bsX))
theorem row_water_Blame : FCall (c0 bsX) f_water_Blame [rGauge] rBlame [] := FCall.cfg (C := c1 bsX) (C' := c0 bsX) rfl rfl (fcall_row tab1 (f := f_water_Blame) (F := F_water_Blame) rfl (run_water_Blame bsX))
theorem row_water_Sure : FCall (c0 bsX) f_water_Sure [rSea, rStrip, rNeed, cI 300] rSure [] := FCall.cfg (C := c1 bsX) (C' := c0 bsX) rfl rfl (fcall_row tab1 (f := f_water_Sure) (F := F_water_Sure) rfl (run_water_Sure bsX))
theorem row_water_Deepest : FCall (c0 bsX) f_water_Deepest [rSea, rStrip, cI 1, cI 650] rDeep [] := FCall.cfg (C := c1 bsX) (C' := c0 bsX) rfl rfl (fcall_row tab1 (f := f_water_Deepest) (F := F_water_Deepest) rfl (run_water_Deepest bsX))
theorem row_water_Print : FCall (c0 bsX) f_water_Print [aWe] rPrint [] := FCall.cfg (C := c1 bsX) (C' := c0 bsX) rfl rfl (fcall_row tab1 (f := f_water_Print) (F := F_water_Print) rfl (run_water_Print bsX))
theorem hb2 (f : FuncId) (g : List AV → Option AV) (args : List AV) (r : AV) (hg : B2 f = some g) (h : g args = some r) : FCall (c0 bsX) f args r [] := by
  unfold B2 at hg
  split at hg
  · cases hg
    refine rowsG_ok (fun x hx => ?_) h
    simp only [R2, List.mem_cons, List.not_mem_nil, or_false] at hx
    rcases hx with rfl | rfl | rfl | rfl | rfl
    · exact row_water_Clash
    · exact row_water_Blame
    · exact row_water_Sure
    · exact row_water_Deepest
    · exact row_water_Print
  · exact hb1 f g args r hg h
theorem tab2 : TabOk (c2 bsX) := tabOk_mk (C := c2 bsX) (ρ := Tryz.lays240_ren) T_ok (fun f g args r hg h => FCall.cfg (C := c0 bsX) (C' := c2 bsX) rfl rfl (hb2 f g args r hg h)) Tryz.lays240 Tryz.bX72 ccX okcc lies
theorem row_law01_known : FCall (c0 bsX) f_law01_known [] (vB true) [] := FCall.cfg (C := c2 bsX) (C' := c0 bsX) rfl rfl (fcall_row tab2 (f := f_law01_known) (F := F_law01_known) rfl (run_law01_known bsX))
end Go.Ab.B
