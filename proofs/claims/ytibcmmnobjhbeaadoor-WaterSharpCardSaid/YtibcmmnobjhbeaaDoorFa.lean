/- A part of the proof. -/
import Derived.Shelf.Strings.Builder1
import Derived.Shelf.Strconv.Itoa3
import Derived.Test.YtibcmmnobjhbeaaDoorProg
import Derived.Test.YtibcmmnobjhbeaaDoorKb
import Derived.Test.YtibcmmnobjhbeaaDoorKa
import Derived.Test.YtibcmmnobjhbeaaDoorKc
set_option linter.all false
namespace Go.Proofs
open Go.Shelf
def Tryd.lays169_ren : Go.Shelf.Ren := ⟨fun | 169 => 61 | n => n, fun | 70 => 112 | 9 => 9 | 0 => 0 | 72 => 115 | 37 => 113 | 127 => 142 | 3 => 3 | 5 => 5 | n => n, fun | n => n⟩
theorem Tryd.lays169 : Go.Proofs.Lays.n169 Tryd.prog Tryd.lays169_ren := {
  mixed := by kernel_rfl
  f169 := Tryd.func61.trans (congrArg some (by kernel_rfl))
  t0 := Tryd.underlying0
  a0 := Tryd.isAgg0
  z0 := Tryd.sizeOf0
  v0 := Tryd.zeroValue0
  t3 := Tryd.underlying3
  a3 := Tryd.isAgg3
  z3 := Tryd.sizeOf3
  v3 := Tryd.zeroValue3
  t9 := Tryd.underlying9
  a9 := Tryd.isAgg9
  z9 := Tryd.sizeOf9
  v9 := Tryd.zeroValue9
  t37 := Tryd.underlying113
  a37 := Tryd.isAgg113
  z37 := Tryd.sizeOf113
  v37 := Tryd.zeroValue113
  t70 := Tryd.underlying112
  a70 := Tryd.isAgg112
  z70 := Tryd.sizeOf112
  v70 := Tryd.zeroValue112
  t72 := Tryd.underlying115
  a72 := Tryd.isAgg115
  z72 := Tryd.sizeOf115
  v72 := Tryd.zeroValue115
  t127 := Tryd.underlying142
  a127 := Tryd.isAgg142
  z127 := Tryd.sizeOf142
  v127 := Tryd.zeroValue142 }
def Tryd.laysM171_ren : Go.Shelf.Ren := ⟨fun | 171 => 75 | 243 => 83 | 246 => 85 | 283 => 86 | 284 => 87 | 285 => 88 | 286 => 89 | 129 => 91 | 317 => 90 | 318 => 92 | 319 => 93 | 320 => 94 | 337 => 95 | 338 => 96 | n => n, fun | 3 => 3 | 9 => 9 | 2 => 2 | 4 => 4 | 171 => 152 | 0 => 0 | 53 => 146 | 37 => 113 | 5 => 5 | 173 => 154 | 212 => 158 | 51 => 144 | 20 => 20 | 213 => 159 | 46 => 71 | 232 => 160 | 233 => 161 | n => n, fun | 17 => 2 | 18 => 3 | 19 => 4 | n => n⟩
theorem Tryd.laysM171 : Go.Proofs.LaysM.n171 Tryd.prog Tryd.laysM171_ren := {
  mixed := by kernel_rfl
  f129 := Tryd.func91.trans (congrArg some (by kernel_rfl))
  f171 := Tryd.func75.trans (congrArg some (by kernel_rfl))
  f243 := Tryd.func83.trans (congrArg some (by kernel_rfl))
  f246 := Tryd.func85.trans (congrArg some (by kernel_rfl))
  f283 := Tryd.func86.trans (congrArg some (by kernel_rfl))
  f284 := Tryd.func87.trans (congrArg some (by kernel_rfl))
  f285 := Tryd.func88.trans (congrArg some (by kernel_rfl))
  f286 := Tryd.func89.trans (congrArg some (by kernel_rfl))
  f317 := Tryd.func90.trans (congrArg some (by kernel_rfl))
  f318 := Tryd.func92.trans (congrArg some (by kernel_rfl))
  f319 := Tryd.func93.trans (congrArg some (by kernel_rfl))
  f320 := Tryd.func94.trans (congrArg some (by kernel_rfl))
  f337 := Tryd.func95.trans (congrArg some (by kernel_rfl))
  f338 := Tryd.func96.trans (congrArg some (by kernel_rfl))
  t0 := Tryd.underlying0
  a0 := Tryd.isAgg0
  z0 := Tryd.sizeOf0
  v0 := Tryd.zeroValue0
  t2 := Tryd.underlying2
  a2 := Tryd.isAgg2
  z2 := Tryd.sizeOf2
  v2 := Tryd.zeroValue2
  t3 := Tryd.underlying3
  a3 := Tryd.isAgg3
  z3 := Tryd.sizeOf3
  v3 := Tryd.zeroValue3
  t4 := Tryd.underlying4
  a4 := Tryd.isAgg4
  z4 := Tryd.sizeOf4
  v4 := Tryd.zeroValue4
  t5 := Tryd.underlying5
  a5 := Tryd.isAgg5
  z5 := Tryd.sizeOf5
  v5 := Tryd.zeroValue5
  t9 := Tryd.underlying9
  a9 := Tryd.isAgg9
  z9 := Tryd.sizeOf9
  v9 := Tryd.zeroValue9
  t20 := Tryd.underlying20
  a20 := Tryd.isAgg20
  z20 := Tryd.sizeOf20
  v20 := Tryd.zeroValue20
  t37 := Tryd.underlying113
  a37 := Tryd.isAgg113
  z37 := Tryd.sizeOf113
  v37 := Tryd.zeroValue113
  t46 := Tryd.underlying71
  a46 := Tryd.isAgg71
  z46 := Tryd.sizeOf71
  v46 := Tryd.zeroValue71
  t51 := Tryd.underlying144
  a51 := Tryd.isAgg144
  z51 := Tryd.sizeOf144
  v51 := Tryd.zeroValue144
  t53 := Tryd.underlying146
  a53 := Tryd.isAgg146
  z53 := Tryd.sizeOf146
  v53 := Tryd.zeroValue146
  t171 := Tryd.underlying152
  a171 := Tryd.isAgg152
  z171 := Tryd.sizeOf152
  v171 := Tryd.zeroValue152
  t173 := Tryd.underlying154
  a173 := Tryd.isAgg154
  z173 := Tryd.sizeOf154
  v173 := Tryd.zeroValue154
  t212 := Tryd.underlying158
  a212 := Tryd.isAgg158
  z212 := Tryd.sizeOf158
  v212 := Tryd.zeroValue158
  t213 := Tryd.underlying159
  a213 := Tryd.isAgg159
  z213 := Tryd.sizeOf159
  t232 := Tryd.underlying160
  a232 := Tryd.isAgg160
  z232 := Tryd.sizeOf160
  v232 := Tryd.zeroValue160
  t233 := Tryd.underlying161
  a233 := Tryd.isAgg161
  z233 := Tryd.sizeOf161
  v233 := Tryd.zeroValue161
  g17 := by kernel_rfl
  g18 := by kernel_rfl
  g19 := by kernel_rfl
  i0 := by kernel_rfl
  i2 := by kernel_rfl
  i3 := by kernel_rfl
  i4 := by kernel_rfl
  i5 := by kernel_rfl
  i9 := by kernel_rfl
  i20 := by kernel_rfl
  i37 := by kernel_rfl
  i46 := by kernel_rfl
  i51 := by kernel_rfl
  i53 := by kernel_rfl
  i171 := by kernel_rfl
  i173 := by kernel_rfl
  i212 := by kernel_rfl
  i232 := by kernel_rfl
  i233 := by kernel_rfl
  m17 := by kernel_rfl
  m18 := by kernel_rfl
  m19 := by kernel_rfl }
def Tryd.lays240_ren : Go.Shelf.Ren := ⟨fun | 240 => 74 | 276 => 82 | n => n, fun | 0 => 0 | 4 => 4 | 9 => 9 | 20 => 20 | 70 => 112 | 72 => 115 | 37 => 113 | 164 => 149 | n => n, fun | n => n⟩
theorem Tryd.lays240 : Go.Proofs.Lays.n240 Tryd.prog Tryd.lays240_ren := {
  mixed := by kernel_rfl
  f240 := Tryd.func74.trans (congrArg some (by kernel_rfl))
  f276 := Tryd.func82.trans (congrArg some (by kernel_rfl))
  t0 := Tryd.underlying0
  a0 := Tryd.isAgg0
  z0 := Tryd.sizeOf0
  v0 := Tryd.zeroValue0
  t4 := Tryd.underlying4
  a4 := Tryd.isAgg4
  z4 := Tryd.sizeOf4
  v4 := Tryd.zeroValue4
  t9 := Tryd.underlying9
  a9 := Tryd.isAgg9
  z9 := Tryd.sizeOf9
  v9 := Tryd.zeroValue9
  t20 := Tryd.underlying20
  a20 := Tryd.isAgg20
  z20 := Tryd.sizeOf20
  v20 := Tryd.zeroValue20
  t70 := Tryd.underlying112
  a70 := Tryd.isAgg112
  z70 := Tryd.sizeOf112
  v70 := Tryd.zeroValue112
  t72 := Tryd.underlying115
  a72 := Tryd.isAgg115
  z72 := Tryd.sizeOf115
  v72 := Tryd.zeroValue115
  t164 := Tryd.underlying149
  a164 := Tryd.isAgg149
  z164 := Tryd.sizeOf149
  v164 := Tryd.zeroValue149 }
theorem Tryd.bX72 : Builder.X72 Tryd.prog Tryd.lays240_ren := {
  sizeBuilder := by kernel_rfl
  liesBuilder := by kernel_rfl }
theorem Tryd.bExtra : Builder.Extra Tryd.prog Tryd.lays169_ren := {
  sizeBuilder := by kernel_rfl
  liesBuilder := by kernel_rfl
  t5 := Tryd.underlying5
  a5 := Tryd.isAgg5
  z5 := Tryd.sizeOf5
  v5 := Tryd.zeroValue5
  infoByte := by kernel_rfl
  cellsByte := by kernel_rfl
  sizeByte := by kernel_rfl
  neB5 := by decide }
end Go.Proofs
set_option maxRecDepth 100000
namespace Go.Ab.B
open Go.Proofs
theorem bsX : BsOk Tryd.prog := bsOk_of Tryd.lays169 Tryd.bExtra (fun f h => by
    have hall : ((List.range 122).all fun f => !isBs Tryd.prog f || Nat.beq f f_strings_Builder_String) = true := by kernel_rfl
    have hsz : Tryd.prog.funcs.size = 122 := by kernel_rfl
    rcases Nat.lt_or_ge f 122 with hf | hf
    · have := List.all_eq_true.1 hall f (by simpa using hf)
      rw [h] at this
      show f = f_strings_Builder_String
      exact Nat.eq_of_beq_eq_true (by simpa using this)
    · unfold isBs at h
      rw [Array.getElem?_eq_none (by omega)] at h
      cases h) (fun e h => by
    have h5 : u8Of Tryd.prog = some 5 := by kernel_rfl
    rw [h5] at h
    exact (Option.some.inj h).symm)
theorem g0 : Tryd.prog.globalNamed "internal/strconv.uint64pow10" = some 2 := by kernel_rfl
theorem okcc : okFn Tryd.prog f_strings_Builder_copyCheck = true := by kernel_rfl
theorem lies (t n : Nat) (h : (t, n) ∈ bTB) : 0 < n ∧ liesAt Tryd.prog Tryd.prog.depth t (n / Tryd.prog.cellsOf t) 0 t_strings_Builder 1 = true := by
  simp only [bTB, List.mem_cons, Prod.mk.injEq, List.not_mem_nil, or_false] at h
  obtain ⟨rfl, rfl⟩ := h
  exact ⟨by decide, by kernel_rfl⟩
theorem ccX (f : Nat) (h : ccB f = true) : f = f_strings_Builder_copyCheck := Nat.eq_of_beq_eq_true h
theorem tab0 : TabOk (c0 bsX) := tabOk_mk (C := c0 bsX) (ρ := Tryd.lays240_ren) T_ok (fun f g args r hg h => by
    have hg : B0 f = some g := hg
    unfold B0 at hg
    cases hb : Nat.beq f f_strconv_Itoa with
    | true =>
      rw [hb] at hg
      cases hg
      obtain rfl := Nat.eq_of_beq_eq_true hb
      exact itoa_fcall (C := c0 bsX) (ρ := Tryd.laysM171_ren) Tryd.laysM171 g0 rfl h
    | false => rw [hb] at hg; cases hg) Tryd.lays240 Tryd.bX72 ccX okcc lies
theorem hb0 (f : FuncId) (g : List AV → Option AV) (args : List AV) (r : AV) (hg : B0 f = some g) (h : g args = some r) : FCall (c0 bsX) f args r [] := tab0.b f g args r hg h
theorem row_law01_Gauge : FCall (c0 bsX) f_law01_Gauge [] rGauge [] := fcall_row tab0 (f := f_law01_Gauge) (F := F_law01_Gauge) rfl (run_law01_Gauge bsX)
theorem row_law01_Sea : FCall (c0 bsX) f_law01_Sea [] rSea [] := fcall_row tab0 (f := f_law01_Sea) (F := F_law01_Sea) rfl (run_law01_Sea bsX)
theorem row_law01_Strip : FCall (c0 bsX) f_law01_Strip [] rStrip [] := fcall_row tab0 (f := f_law01_Strip) (F := F_law01_Strip) rfl (run_law01_Strip bsX)
theorem row_law01_Need : FCall (c0 bsX) f_law01_Need [] rNeed [] := fcall_row tab0 (f := f_law01_Need) (F := F_law01_Need) rfl (run_law01_Need bsX)
theorem hb1 (f : FuncId) (g : List AV → Option AV) (args : List AV) (r : AV) (hg : B1 f = some g) (h : g args = some r) : FCall (c0 bsX) f args r [] := by
  unfold B1 at hg
  split at hg
  · cases hg
    refine rowsG_ok (fun x hx => ?_) h
    simp only [R1, List.mem_cons, List.not_mem_nil, or_false] at hx
    rcases hx with rfl | rfl | rfl | rfl
    · exact row_law01_Gauge
    · exact row_law01_Sea
    · exact row_law01_Strip
    · exact row_law01_Need
  · exact hb0 f g args r hg h
theorem tab1 : TabOk (c1 bsX) := tabOk_mk (C := c1 bsX) (ρ := Tryd.lays240_ren) T_ok (fun f g args r hg h => FCall.cfg (C := c0 bsX) (C' := c1 bsX) rfl rfl (hb1 f g args r hg h)) Tryd.lays240 Tryd.bX72 ccX okcc lies
theorem row_water_Clash : FCall (c0 bsX) f_water_Clash [rGauge] rClash [] := FCall.cfg (C := c1 bsX) (C' := c0 bsX) rfl rfl (fcall_row tab1 (f := f_water_Clash) (F := F_water_Clash) rfl (run_water_Clash bsX))
theorem row_water_Blame : FCall (c0 bsX) f_water_Blame [rGauge] rBlame [] := FCall.cfg (C := c1 bsX) (C' := c0 bsX) rfl rfl (fcall_row tab1 (f := f_water_Blame) (F := F_water_Blame) rfl (run_water_Blame bsX))
theorem row_water_Sure : FCall (c0 bsX) f_water_Sure [rSea, rStrip, rNeed, cI 300] rSure [] := FCall.cfg (C := c1 bsX) (C' := c0 bsX) rfl rfl (fcall_row tab1 (f := f_water_Sure) (F := F_water_Sure) rfl (run_water_Sure bsX))
theorem row_water_Deepest : FCall (c0 bsX) f_water_Deepest [rSea, rStrip, cI 1, cI 650] rDeep [] := FCall.cfg (C := c1 bsX) (C' := c0 bsX) rfl rfl (fcall_row tab1 (f := f_water_Deepest) (F := F_water_Deepest) rfl (run_water_Deepest bsX))
theorem row_water_Print : FCall (c0 bsX) f_water_Print [aWe] rPrint [] := FCall.cfg (C := c1 bsX) (C' := c0 bsX) rfl rfl (fcall_row tab1 (f := f_water_Print) (F := F_water_Print) rfl (run_water_Print bsX))
theorem hb2 (f : FuncId) (g : List AV → Option AV) (args : List AV) (r : AV) (hg : B2 f = some g) (h : g args = some r) : FCall (c0 bsX) f args r [] := by
  unfold B2 at hg
  split at hg
  · cases hg
    refine rowsG_ok (fun x hx => ?_) h
    simp only [R2, List.mem_cons, List.not_mem_nil, or_false] at hx
    rcases hx with rfl | rfl | rfl | rfl | rfl
    · exact row_water_Clash
    · exact row_water_Blame
    · exact row_water_Sure
    · exact row_water_Deepest
    · exact row_water_Print
  · exact hb1 f g args r hg h
theorem tab2 : TabOk (c2 bsX) := tabOk_mk (C := c2 bsX) (ρ := Tryd.lays240_ren) T_ok (fun f g args r hg h => FCall.cfg (C := c0 bsX) (C' := c2 bsX) rfl rfl (hb2 f g args r hg h)) Tryd.lays240 Tryd.bX72 ccX okcc lies
theorem row_law01_known : FCall (c0 bsX) f_law01_known [] (vB true) [] := FCall.cfg (C := c2 bsX) (C' := c0 bsX) rfl rfl (fcall_row tab2 (f := f_law01_known) (F := F_law01_known) rfl (run_law01_known bsX))
end Go.Ab.B
