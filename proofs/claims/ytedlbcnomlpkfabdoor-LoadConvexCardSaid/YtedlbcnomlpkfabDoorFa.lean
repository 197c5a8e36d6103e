/- A part of the proof: an evaluator of the program over plain values, proved sound, and what it gives. -/
import Derived.Shelf.Strings.Builder1
import Derived.Shelf.Strconv.Itoa3
import Derived.Test.YtedlbcnomlpkfabDoorProg
import Derived.Test.YtedlbcnomlpkfabDoorLb
import Derived.Test.YtedlbcnomlpkfabDoorKa
import Derived.Test.YtedlbcnomlpkfabDoorKb
import Derived.Test.YtedlbcnomlpkfabDoorKc
import Derived.Test.YtedlbcnomlpkfabDoorKd
import Derived.Test.YtedlbcnomlpkfabDoorKe
set_option linter.all false
namespace Go.Proofs
open Go.Shelf
def Tryd.lays169_ren : Go.Shelf.Ren := ⟨fun | 169 => 69 | n => n, fun | 70 => 140 | 9 => 9 | 0 => 0 | 72 => 143 | 37 => 141 | 127 => 162 | 3 => 3 | 5 => 5 | n => n, fun | n => n⟩
theorem Tryd.lays169 : Go.Proofs.Lays.n169 Tryd.prog Tryd.lays169_ren := {
  mixed := by kernel_rfl
  f169 := Tryd.func69.trans (congrArg some (by kernel_rfl))
  t0 := Tryd.underlying0
  a0 := Tryd.isAgg0
  z0 := Tryd.sizeOf0
  v0 := Tryd.zeroValue0
  t3 := Tryd.underlying3
  a3 := Tryd.isAgg3
  z3 := Tryd.sizeOf3
  v3 := Tryd.zeroValue3
  t9 := Tryd.underlying9
  a9 := Tryd.isAgg9
  z9 := Tryd.sizeOf9
  v9 := Tryd.zeroValue9
  t37 := Tryd.underlying141
  a37 := Tryd.isAgg141
  z37 := Tryd.sizeOf141
  v37 := Tryd.zeroValue141
  t70 := Tryd.underlying140
  a70 := Tryd.isAgg140
  z70 := Tryd.sizeOf140
  v70 := Tryd.zeroValue140
  t72 := Tryd.underlying143
  a72 := Tryd.isAgg143
  z72 := Tryd.sizeOf143
  v72 := Tryd.zeroValue143
  t127 := Tryd.underlying162
  a127 := Tryd.isAgg162
  z127 := Tryd.sizeOf162
  v127 := Tryd.zeroValue162 }
def Tryd.laysM171_ren : Go.Shelf.Ren := ⟨fun | 171 => 88 | 243 => 92 | 246 => 96 | 283 => 97 | 284 => 98 | 285 => 99 | 286 => 100 | 129 => 102 | 317 => 101 | 318 => 103 | 319 => 104 | 320 => 105 | 337 => 106 | 338 => 107 | n => n, fun | 3 => 3 | 9 => 9 | 2 => 2 | 4 => 4 | 171 => 176 | 0 => 0 | 53 => 170 | 37 => 141 | 5 => 5 | 173 => 179 | 212 => 182 | 51 => 167 | 20 => 20 | 213 => 183 | 46 => 163 | 232 => 186 | 233 => 187 | n => n, fun | 17 => 0 | 18 => 1 | 19 => 2 | n => n⟩
theorem Tryd.laysM171 : Go.Proofs.LaysM.n171 Tryd.prog Tryd.laysM171_ren := {
  mixed := by kernel_rfl
  f129 := Tryd.func102.trans (congrArg some (by kernel_rfl))
  f171 := Tryd.func88.trans (congrArg some (by kernel_rfl))
  f243 := Tryd.func92.trans (congrArg some (by kernel_rfl))
  f246 := Tryd.func96.trans (congrArg some (by kernel_rfl))
  f283 := Tryd.func97.trans (congrArg some (by kernel_rfl))
  f284 := Tryd.func98.trans (congrArg some (by kernel_rfl))
  f285 := Tryd.func99.trans (congrArg some (by kernel_rfl))
  f286 := Tryd.func100.trans (congrArg some (by kernel_rfl))
  f317 := Tryd.func101.trans (congrArg some (by kernel_rfl))
  f318 := Tryd.func103.trans (congrArg some (by kernel_rfl))
  f319 := Tryd.func104.trans (congrArg some (by kernel_rfl))
  f320 := Tryd.func105.trans (congrArg some (by kernel_rfl))
  f337 := Tryd.func106.trans (congrArg some (by kernel_rfl))
  f338 := Tryd.func107.trans (congrArg some (by kernel_rfl))
  t0 := Tryd.underlying0
  a0 := Tryd.isAgg0
  z0 := Tryd.sizeOf0
  v0 := Tryd.zeroValue0
  t2 := Tryd.underlying2
  a2 := Tryd.isAgg2
  z2 := Tryd.sizeOf2
  v2 := Tryd.zeroValue2
  t3 := Tryd.underlying3
  a3 := Tryd.isAgg3
  z3 := Tryd.sizeOf3
  v3 := Tryd.zeroValue3
  t4 := Tryd.underlying4
  a4 := Tryd.isAgg4
  z4 := Tryd.sizeOf4
  v4 := Tryd.zeroValue4
  t5 := Tryd.underlying5
  a5 := Tryd.isAgg5
  z5 := Tryd.sizeOf5
  v5 := Tryd.zeroValue5
  t9 := Tryd.underlying9
  a9 := Tryd.isAgg9
  z9 := Tryd.sizeOf9
  v9 := Tryd.zeroValue9
  t20 := Tryd.underlying20
  a20 := Tryd.isAgg20
  z20 := Tryd.sizeOf20
  v20 := Tryd.zeroValue20
  t37 := Tryd.underlying141
  a37 := Tryd.isAgg141
  z37 := Tryd.sizeOf141
  v37 := Tryd.zeroValue141
  t46 := Tryd.underlying163
  a46 := Tryd.isAgg163
  z46 := Tryd.sizeOf163
  v46 := Tryd.zeroValue163
  t51 := Tryd.underlying167
  a51 := Tryd.isAgg167
  z51 := Tryd.sizeOf167
  v51 := Tryd.zeroValue167
  t53 := Tryd.underlying170
  a53 := Tryd.isAgg170
  z53 := Tryd.sizeOf170
  v53 := Tryd.zeroValue170
  t171 := Tryd.underlying176
  a171 := Tryd.isAgg176
  z171 := Tryd.sizeOf176
  v171 := Tryd.zeroValue176
  t173 := Tryd.underlying179
  a173 := Tryd.isAgg179
  z173 := Tryd.sizeOf179
  v173 := Tryd.zeroValue179
  t212 := Tryd.underlying182
  a212 := Tryd.isAgg182
  z212 := Tryd.sizeOf182
  v212 := Tryd.zeroValue182
  t213 := Tryd.underlying183
  a213 := Tryd.isAgg183
  z213 := Tryd.sizeOf183
  t232 := Tryd.underlying186
  a232 := Tryd.isAgg186
  z232 := Tryd.sizeOf186
  v232 := Tryd.zeroValue186
  t233 := Tryd.underlying187
  a233 := Tryd.isAgg187
  z233 := Tryd.sizeOf187
  v233 := Tryd.zeroValue187
  g17 := by kernel_rfl
  g18 := by kernel_rfl
  g19 := by kernel_rfl
  i0 := by kernel_rfl
  i2 := by kernel_rfl
  i3 := by kernel_rfl
  i4 := by kernel_rfl
  i5 := by kernel_rfl
  i9 := by kernel_rfl
  i20 := by kernel_rfl
  i37 := by kernel_rfl
  i46 := by kernel_rfl
  i51 := by kernel_rfl
  i53 := by kernel_rfl
  i171 := by kernel_rfl
  i173 := by kernel_rfl
  i212 := by kernel_rfl
  i232 := by kernel_rfl
  i233 := by kernel_rfl
  m17 := by kernel_rfl
  m18 := by kernel_rfl
  m19 := by kernel_rfl }
def Tryd.lays240_ren : Go.Shelf.Ren := ⟨fun | 240 => 91 | 276 => 95 | n => n, fun | 70 => 140 | 72 => 143 | 37 => 141 | 164 => 173 | n => n, fun | n => n⟩
theorem Tryd.lays240 : Go.Proofs.Lays.n240 Tryd.prog Tryd.lays240_ren := {
  mixed := by kernel_rfl
  f240 := Tryd.func91.trans (congrArg some (by kernel_rfl))
  f276 := Tryd.func95.trans (congrArg some (by kernel_rfl))
  t0 := Tryd.underlying0
  a0 := Tryd.isAgg0
  z0 := Tryd.sizeOf0
  v0 := Tryd.zeroValue0
  t4 := Tryd.underlying4
  a4 := Tryd.isAgg4
  z4 := Tryd.sizeOf4
  v4 := Tryd.zeroValue4
  t9 := Tryd.underlying9
  a9 := Tryd.isAgg9
  z9 := Tryd.sizeOf9
  v9 := Tryd.zeroValue9
  t20 := Tryd.underlying20
  a20 := Tryd.isAgg20
  z20 := Tryd.sizeOf20
  v20 := Tryd.zeroValue20
  t70 := Tryd.underlying140
  a70 := Tryd.isAgg140
  z70 := Tryd.sizeOf140
  v70 := Tryd.zeroValue140
  t72 := Tryd.underlying143
  a72 := Tryd.isAgg143
  z72 := Tryd.sizeOf143
  v72 := Tryd.zeroValue143
  t164 := Tryd.underlying173
  a164 := Tryd.isAgg173
  z164 := Tryd.sizeOf173
  v164 := Tryd.zeroValue173 }
theorem Tryd.bX72 : Builder.X72 Tryd.prog Tryd.lays240_ren := {
  sizeBuilder := by kernel_rfl
  liesBuilder := by kernel_rfl }
theorem Tryd.bExtra : Builder.Extra Tryd.prog Tryd.lays169_ren := {
  sizeBuilder := by kernel_rfl
  liesBuilder := by kernel_rfl
  t5 := Tryd.underlying5
  a5 := Tryd.isAgg5
  z5 := Tryd.sizeOf5
  v5 := Tryd.zeroValue5
  infoByte := by kernel_rfl
  cellsByte := by kernel_rfl
  sizeByte := by kernel_rfl
  neB5 := by decide }
end Go.Proofs
set_option linter.all false
set_option maxRecDepth 100000
namespace Go.Ab.B
open Go.Proofs

theorem bsX : BsOk Tryd.prog := bsOk_of Tryd.lays169 Tryd.bExtra (fun f h => by
    have hall : ((List.range 131).all fun f => !isBs Tryd.prog f || Nat.beq f 69) = true := by kernel_rfl
    have hsz : Tryd.prog.funcs.size = 131 := by kernel_rfl
    rcases Nat.lt_or_ge f 131 with hf | hf
    · have := List.all_eq_true.1 hall f (by simpa using hf)
      rw [h] at this
      show f = 69
      exact Nat.eq_of_beq_eq_true (by simpa using this)
    · unfold isBs at h
      rw [Array.getElem?_eq_none (by omega)] at h
      cases h) (fun e h => by
    have h5 : u8Of Tryd.prog = some 5 := by kernel_rfl
    rw [h5] at h
    exact (Option.some.inj h).symm)
theorem g0 : Tryd.prog.globalNamed "internal/strconv.uint64pow10" = some 0 := by kernel_rfl
theorem okcc : okFn Tryd.prog 91 = true := by kernel_rfl
theorem lies (t n : Nat) (h : (t, n) ∈ bTB) : 0 < n ∧ liesAt Tryd.prog Tryd.prog.depth t (n / Tryd.prog.cellsOf t) 0 143 1 = true := by
  simp only [bTB, List.mem_cons, Prod.mk.injEq, List.not_mem_nil, or_false] at h
  rcases h with ⟨rfl, rfl⟩ | ⟨rfl, rfl⟩
  · exact ⟨by decide, by kernel_rfl⟩
  · exact ⟨by decide, by kernel_rfl⟩
theorem ccX (f : Nat) (h : ccB f = true) : f = 91 := Nat.eq_of_beq_eq_true h

theorem tab0 : TabOk (c0 bsX) := tabOk_mk (C := c0 bsX) (ρ := Tryd.lays240_ren) T_ok (fun f g args r hg h => by
    have hg : B0 f = some g := hg
    unfold B0 at hg
    cases hb : Nat.beq f 88 with
    | true =>
      rw [hb] at hg
      cases hg
      obtain rfl := Nat.eq_of_beq_eq_true hb
      exact itoa_fcall (C := c0 bsX) (ρ := Tryd.laysM171_ren) Tryd.laysM171 g0 rfl h
    | false => rw [hb] at hg; cases hg) Tryd.lays240 Tryd.bX72 ccX okcc lies
theorem hb0 (f : FuncId) (g : List AV → Option AV) (args : List AV) (r : AV) (hg : B0 f = some g) (h : g args = some r) : FCall (c0 bsX) f args r [] := tab0.b f g args r hg h

theorem row21 : FCall (c0 bsX) 21 [] rP [] := fcall_row tab0 (f := 21) (F := F21) rfl (run21 bsX)
theorem row22 : FCall (c0 bsX) 22 [] rT [] := fcall_row tab0 (f := 22) (F := F22) rfl (run22 bsX)
theorem row27 : FCall (c0 bsX) 27 [rP] (vB true) [] := fcall_row tab0 (f := 27) (F := F27) rfl (run27 bsX)
theorem hb1 (f : FuncId) (g : List AV → Option AV) (args : List AV) (r : AV) (hg : B1 f = some g) (h : g args = some r) : FCall (c0 bsX) f args r [] := by
  unfold B1 at hg
  split at hg
  · cases hg
    refine rowsG_ok (fun x hx => ?_) h
    simp only [R1, List.mem_cons, List.not_mem_nil, or_false] at hx
    rcases hx with rfl | rfl | rfl
    · exact row21
    · exact row22
    · exact row27
  · exact hb0 f g args r hg h
theorem tab1 : TabOk (c1 bsX) := tabOk_mk (C := c1 bsX) (ρ := Tryd.lays240_ren) T_ok (fun f g args r hg h => FCall.cfg (C := c0 bsX) (C' := c1 bsX) rfl rfl (hb1 f g args r hg h)) Tryd.lays240 Tryd.bX72 ccX okcc lies
theorem row20 : FCall (c0 bsX) 20 [rP, aX] r20 [] := FCall.cfg (C := c1 bsX) (C' := c0 bsX) rfl rfl (fcall_row tab1 (f := 20) (F := F20) rfl (run20 bsX))
theorem row17 : FCall (c0 bsX) 17 [rP, sp2 150 160, rT] r17 [] := FCall.cfg (C := c1 bsX) (C' := c0 bsX) rfl rfl (fcall_row tab1 (f := 17) (F := F17) rfl (run17 bsX))
theorem row19 : FCall (c0 bsX) 19 [rP, rT] r19 [] := FCall.cfg (C := c1 bsX) (C' := c0 bsX) rfl rfl (fcall_row tab1 (f := 19) (F := F19) rfl (run19 bsX))
theorem row23 : FCall (c0 bsX) 23 [rP, sp2 100 100, aLegs, aPeople] r23 [] := FCall.cfg (C := c1 bsX) (C' := c0 bsX) rfl rfl (fcall_row tab1 (f := 23) (F := F23) rfl (run23 bsX))
theorem row24 : FCall (c0 bsX) 24 [sp2 150 160, rT] r24 [] := FCall.cfg (C := c1 bsX) (C' := c0 bsX) rfl rfl (fcall_row tab1 (f := 24) (F := F24) rfl (run24 bsX))
theorem hb2 (f : FuncId) (g : List AV → Option AV) (args : List AV) (r : AV) (hg : B2 f = some g) (h : g args = some r) : FCall (c0 bsX) f args r [] := by
  unfold B2 at hg
  split at hg
  · cases hg
    refine rowsG_ok (fun x hx => ?_) h
    simp only [R2, List.mem_cons, List.not_mem_nil, or_false] at hx
    rcases hx with rfl | rfl | rfl | rfl | rfl
    · exact row20
    · exact row17
    · exact row19
    · exact row23
    · exact row24
  · exact hb1 f g args r hg h
theorem tab2 : TabOk (c2 bsX) := tabOk_mk (C := c2 bsX) (ρ := Tryd.lays240_ren) T_ok (fun f g args r hg h => FCall.cfg (C := c0 bsX) (C' := c2 bsX) rfl rfl (hb2 f g args r hg h)) Tryd.lays240 Tryd.bX72 ccX okcc lies
/-- The chapter's examples come out as they should. -/
theorem row8 : FCall (c0 bsX) 8 [] (vB true) [] := FCall.cfg (C := c2 bsX) (C' := c0 bsX) rfl rfl (fcall_row tab2 (f := 8) (F := F8) rfl (run8 bsX))
theorem tabS : TabOk (cs bsX) := tabOk_mk (C := cs bsX) (ρ := Tryd.lays240_ren) T_ok (fun f g args r hg h => by cases hg) Tryd.lays240 Tryd.bX72 ccX okcc lies
end Go.Ab.B
