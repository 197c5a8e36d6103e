/- A part of the proof. -/
import Derived.Shelf.Strings.Builder1
import Derived.Shelf.Strconv.Itoa3
import Derived.Test.YthfkaopnphjlkaaGreatDoorProg
import Derived.Test.YthfkaopnphjlkaaGreatDoorTb
import Derived.Test.YthfkaopnphjlkaaGreatDoorKa
import Derived.Test.YthfkaopnphjlkaaGreatDoorKb
import Derived.Test.YthfkaopnphjlkaaGreatDoorKc
import Derived.Test.YthfkaopnphjlkaaGreatDoorKd
import Derived.Test.YthfkaopnphjlkaaGreatDoorKe
import Derived.Test.YthfkaopnphjlkaaGreatDoorLd
set_option linter.all false
namespace Go.Proofs
open Go.Shelf
def Tryz.lays169_ren : Go.Shelf.Ren := ⟨fun | 169 => 69 | n => n, fun | 70 => 134 | 9 => 9 | 0 => 0 | 72 => 137 | 37 => 135 | 127 => 156 | 3 => 3 | 5 => 5 | n => n, fun | n => n⟩
theorem Tryz.lays169 : Go.Proofs.Lays.n169 Tryz.prog Tryz.lays169_ren := {
  mixed := by kernel_rfl
  f169 := Tryz.func69.trans (congrArg some (by kernel_rfl))
  t0 := Tryz.underlying0
  a0 := Tryz.isAgg0
  z0 := Tryz.sizeOf0
  v0 := Tryz.zeroValue0
  t3 := Tryz.underlying3
  a3 := Tryz.isAgg3
  z3 := Tryz.sizeOf3
  v3 := Tryz.zeroValue3
  t9 := Tryz.underlying9
  a9 := Tryz.isAgg9
  z9 := Tryz.sizeOf9
  v9 := Tryz.zeroValue9
  t37 := Tryz.underlying135
  a37 := Tryz.isAgg135
  z37 := Tryz.sizeOf135
  v37 := Tryz.zeroValue135
  t70 := Tryz.underlying134
  a70 := Tryz.isAgg134
  z70 := Tryz.sizeOf134
  v70 := Tryz.zeroValue134
  t72 := Tryz.underlying137
  a72 := Tryz.isAgg137
  z72 := Tryz.sizeOf137
  v72 := Tryz.zeroValue137
  t127 := Tryz.underlying156
  a127 := Tryz.isAgg156
  z127 := Tryz.sizeOf156
  v127 := Tryz.zeroValue156 }
def Tryz.laysM171_ren : Go.Shelf.Ren := ⟨fun | 171 => 86 | 243 => 91 | 246 => 96 | 283 => 97 | 284 => 98 | 285 => 99 | 286 => 100 | 129 => 102 | 317 => 101 | 318 => 103 | 319 => 104 | 320 => 105 | 337 => 106 | 338 => 107 | n => n, fun | 3 => 3 | 9 => 9 | 2 => 2 | 4 => 4 | 171 => 175 | 0 => 0 | 53 => 169 | 37 => 135 | 5 => 5 | 173 => 178 | 212 => 181 | 51 => 166 | 20 => 20 | 213 => 182 | 46 => 162 | 232 => 185 | 233 => 186 | n => n, fun | 17 => 0 | 18 => 1 | 19 => 2 | n => n⟩
theorem Tryz.laysM171 : Go.Proofs.LaysM.n171 Tryz.prog Tryz.laysM171_ren := {
  mixed := by kernel_rfl
  f129 := Tryz.func102.trans (congrArg some (by kernel_rfl))
  f171 := Tryz.func86.trans (congrArg some (by kernel_rfl))
  f243 := Tryz.func91.trans (congrArg some (by kernel_rfl))
  f246 := Tryz.func96.trans (congrArg some (by kernel_rfl))
  f283 := Tryz.func97.trans (congrArg some (by kernel_rfl))
  f284 := Tryz.func98.trans (congrArg some (by kernel_rfl))
  f285 := Tryz.func99.trans (congrArg some (by kernel_rfl))
  f286 := Tryz.func100.trans (congrArg some (by kernel_rfl))
  f317 := Tryz.func101.trans (congrArg some (by kernel_rfl))
  f318 := Tryz.func103.trans (congrArg some (by kernel_rfl))
  f319 := Tryz.func104.trans (congrArg some (by kernel_rfl))
  f320 := Tryz.func105.trans (congrArg some (by kernel_rfl))
  f337 := Tryz.func106.trans (congrArg some (by kernel_rfl))
  f338 := Tryz.func107.trans (congrArg some (by kernel_rfl))
  t0 := Tryz.underlying0
  a0 := Tryz.isAgg0
  z0 := Tryz.sizeOf0
  v0 := Tryz.zeroValue0
  t2 := Tryz.underlying2
  a2 := Tryz.isAgg2
  z2 := Tryz.sizeOf2
  v2 := Tryz.zeroValue2
  t3 := Tryz.underlying3
  a3 := Tryz.isAgg3
  z3 := Tryz.sizeOf3
  v3 := Tryz.zeroValue3
  t4 := Tryz.underlying4
  a4 := Tryz.isAgg4
  z4 := Tryz.sizeOf4
  v4 := Tryz.zeroValue4
  t5 := Tryz.underlying5
  a5 := Tryz.isAgg5
  z5 := Tryz.sizeOf5
  v5 := Tryz.zeroValue5
  t9 := Tryz.underlying9
  a9 := Tryz.isAgg9
  z9 := Tryz.sizeOf9
  v9 := Tryz.zeroValue9
  t20 := Tryz.underlying20
  a20 := Tryz.isAgg20
  z20 := Tryz.sizeOf20
  v20 := Tryz.zeroValue20
  t37 := Tryz.underlying135
  a37 := Tryz.isAgg135
  z37 := Tryz.sizeOf135
  v37 := Tryz.zeroValue135
  t46 := Tryz.underlying162
  a46 := Tryz.isAgg162
  z46 := Tryz.sizeOf162
  v46 := Tryz.zeroValue162
  t51 := Tryz.underlying166
  a51 := Tryz.isAgg166
  z51 := Tryz.sizeOf166
  v51 := Tryz.zeroValue166
  t53 := Tryz.underlying169
  a53 := Tryz.isAgg169
  z53 := Tryz.sizeOf169
  v53 := Tryz.zeroValue169
  t171 := Tryz.underlying175
  a171 := Tryz.isAgg175
  z171 := Tryz.sizeOf175
  v171 := Tryz.zeroValue175
  t173 := Tryz.underlying178
  a173 := Tryz.isAgg178
  z173 := Tryz.sizeOf178
  v173 := Tryz.zeroValue178
  t212 := Tryz.underlying181
  a212 := Tryz.isAgg181
  z212 := Tryz.sizeOf181
  v212 := Tryz.zeroValue181
  t213 := Tryz.underlying182
  a213 := Tryz.isAgg182
  z213 := Tryz.sizeOf182
  t232 := Tryz.underlying185
  a232 := Tryz.isAgg185
  z232 := Tryz.sizeOf185
  v232 := Tryz.zeroValue185
  t233 := Tryz.underlying186
  a233 := Tryz.isAgg186
  z233 := Tryz.sizeOf186
  v233 := Tryz.zeroValue186
  g17 := by kernel_rfl
  g18 := by kernel_rfl
  g19 := by kernel_rfl
  i0 := by kernel_rfl
  i2 := by kernel_rfl
  i3 := by kernel_rfl
  i4 := by kernel_rfl
  i5 := by kernel_rfl
  i9 := by kernel_rfl
  i20 := by kernel_rfl
  i37 := by kernel_rfl
  i46 := by kernel_rfl
  i51 := by kernel_rfl
  i53 := by kernel_rfl
  i171 := by kernel_rfl
  i173 := by kernel_rfl
  i212 := by kernel_rfl
  i232 := by kernel_rfl
  i233 := by kernel_rfl
  m17 := by kernel_rfl
  m18 := by kernel_rfl
  m19 := by kernel_rfl }
def Tryz.lays240_ren : Go.Shelf.Ren := ⟨fun | 240 => 90 | 276 => 95 | n => n, fun | 0 => 0 | 4 => 4 | 9 => 9 | 20 => 20 | 70 => 134 | 72 => 137 | 37 => 135 | 164 => 172 | n => n, fun | n => n⟩
theorem Tryz.lays240 : Go.Proofs.Lays.n240 Tryz.prog Tryz.lays240_ren := {
  mixed := by kernel_rfl
  f240 := Tryz.func90.trans (congrArg some (by kernel_rfl))
  f276 := Tryz.func95.trans (congrArg some (by kernel_rfl))
  t0 := Tryz.underlying0
  a0 := Tryz.isAgg0
  z0 := Tryz.sizeOf0
  v0 := Tryz.zeroValue0
  t4 := Tryz.underlying4
  a4 := Tryz.isAgg4
  z4 := Tryz.sizeOf4
  v4 := Tryz.zeroValue4
  t9 := Tryz.underlying9
  a9 := Tryz.isAgg9
  z9 := Tryz.sizeOf9
  v9 := Tryz.zeroValue9
  t20 := Tryz.underlying20
  a20 := Tryz.isAgg20
  z20 := Tryz.sizeOf20
  v20 := Tryz.zeroValue20
  t70 := Tryz.underlying134
  a70 := Tryz.isAgg134
  z70 := Tryz.sizeOf134
  v70 := Tryz.zeroValue134
  t72 := Tryz.underlying137
  a72 := Tryz.isAgg137
  z72 := Tryz.sizeOf137
  v72 := Tryz.zeroValue137
  t164 := Tryz.underlying172
  a164 := Tryz.isAgg172
  z164 := Tryz.sizeOf172
  v164 := Tryz.zeroValue172 }
theorem Tryz.bX72 : Builder.X72 Tryz.prog Tryz.lays240_ren := {
  sizeBuilder := by kernel_rfl
  liesBuilder := by kernel_rfl }
theorem Tryz.bExtra : Builder.Extra Tryz.prog Tryz.lays169_ren := {
  sizeBuilder := by kernel_rfl
  liesBuilder := by kernel_rfl
  t5 := Tryz.underlying5
  a5 := Tryz.isAgg5
  z5 := Tryz.sizeOf5
  v5 := Tryz.zeroValue5
  infoByte := by kernel_rfl
  cellsByte := by kernel_rfl
  sizeByte := by kernel_rfl
  neB5 := by decide }
end Go.Proofs
set_option maxRecDepth 100000
namespace Go.Ab.B
open Go.Proofs
theorem bsX : BsOk Tryz.prog := z115 Tryz.lays169 Tryz.bExtra (fun f h => by
    have hall : ((List.range 131).all fun f => !isBs Tryz.prog f || Nat.beq f z6v) = true := by kernel_rfl
    have hsz : Tryz.prog.funcs.size = 131 := by kernel_rfl
    rcases Nat.lt_or_ge f 131 with hf | hf
    · have := List.all_eq_true.1 hall f (by simpa using hf)
      rw [h] at this
      show f = z6v
      exact Nat.eq_of_beq_eq_true (by simpa using this)
    · unfold isBs at h
      rw [Array.getElem?_eq_none (by omega)] at h
      cases h) (fun e h => by
    have h5 : u8Of Tryz.prog = some 5 := by kernel_rfl
    rw [h5] at h
    exact (Option.some.inj h).symm)
theorem g0 : Tryz.prog.globalNamed "internal/strconv.uint64pow10" = some 0 := by kernel_rfl
theorem okcc : okFn Tryz.prog z36 = true := by kernel_rfl
theorem lies (t n : Nat) (h : (t, n) ∈ bTB) : 0 < n ∧ liesAt Tryz.prog Tryz.prog.depth t (n / Tryz.prog.cellsOf t) 0 zam 1 = true := by
  simp only [bTB, List.mem_cons, Prod.mk.injEq, List.not_mem_nil, or_false] at h
  rcases h with ⟨rfl, rfl⟩ | ⟨rfl, rfl⟩
  · exact ⟨by decide, by kernel_rfl⟩
  · exact ⟨by decide, by kernel_rfl⟩
theorem ccX (f : Nat) (h : ccB f = true) : f = z36 := Nat.eq_of_beq_eq_true h
theorem tab0 : zq (c0 bsX) := z5i (C := c0 bsX) (ρ := Tryz.lays240_ren) T_ok (fun f g args r hg h => by
    have hg : B0 f = some g := hg
    unfold B0 at hg
    cases hb : Nat.beq f zdo with
    | true =>
      rw [hb] at hg
      cases hg
      obtain rfl := Nat.eq_of_beq_eq_true hb
      exact zxy (C := c0 bsX) (ρ := Tryz.laysM171_ren) Tryz.laysM171 g0 rfl h
    | false => rw [hb] at hg; cases hg) Tryz.lays240 Tryz.bX72 ccX okcc lies
theorem hb0 (f : FuncId) (g : List AV → Option AV) (args : List AV) (r : AV) (hg : B0 f = some g) (h : g args = some r) : z8 (c0 bsX) f args r [] := tab0.b f g args r hg h
theorem zvz : z8 (c0 bsX) zgo [] rP [] := z4l tab0 (f := zgo) (F := z9z) rfl (zw0 bsX)
theorem zw1 : z8 (c0 bsX) zgp [] rT [] := z4l tab0 (f := zgp) (F := za0) rfl (zvt bsX)
theorem zi9 : z8 (c0 bsX) z1w [rP] (vB true) [] := z4l tab0 (f := z1w) (F := z2c) rfl (zia bsX)
theorem hb1 (f : FuncId) (g : List AV → Option AV) (args : List AV) (r : AV) (hg : B1 f = some g) (h : g args = some r) : z8 (c0 bsX) f args r [] := by
  unfold B1 at hg
  split at hg
  · cases hg
    refine zej (fun x hx => ?_) h
    simp only [R1, List.mem_cons, List.not_mem_nil, or_false] at hx
    rcases hx with rfl | rfl | rfl
    · exact zvz
    · exact zw1
    · exact zi9
  · exact hb0 f g args r hg h
theorem tab1 : zq (c1 bsX) := z5i (C := c1 bsX) (ρ := Tryz.lays240_ren) T_ok (fun f g args r hg h => z8.cfg (C := c0 bsX) (C' := c1 bsX) rfl rfl (hb1 f g args r hg h)) Tryz.lays240 Tryz.bX72 ccX okcc lies
theorem zt1 : z8 (c0 bsX) z2i [rP, aX] r20 [] := z8.cfg (C := c1 bsX) (C' := c0 bsX) rfl rfl (z4l tab1 (f := z2i) (F := z2j) rfl (zt2 bsX))
theorem zt3 : z8 (c0 bsX) zcs [rP, sp2 150 160, rT] r17 [] := z8.cfg (C := c1 bsX) (C' := c0 bsX) rfl rfl (z4l tab1 (f := zcs) (F := z7k) rfl (zt4 bsX))
theorem zt5 : z8 (c0 bsX) zct [rP, rT] r19 [] := z8.cfg (C := c1 bsX) (C' := c0 bsX) rfl rfl (z4l tab1 (f := zct) (F := z7l) rfl (zt6 bsX))
theorem zt7 : z8 (c0 bsX) zcu [rP, sp2 100 100, zxh, zpn] r23 [] := z8.cfg (C := c1 bsX) (C' := c0 bsX) rfl rfl (z4l tab1 (f := zcu) (F := z7m) rfl (zt8 bsX))
theorem zql : z8 (c0 bsX) zb2 [sp2 150 160, rT] r24 [] := z8.cfg (C := c1 bsX) (C' := c0 bsX) rfl rfl (z4l tab1 (f := zb2) (F := z6j) rfl (zqm bsX))
theorem hb2 (f : FuncId) (g : List AV → Option AV) (args : List AV) (r : AV) (hg : B2 f = some g) (h : g args = some r) : z8 (c0 bsX) f args r [] := by
  unfold B2 at hg
  split at hg
  · cases hg
    refine zej (fun x hx => ?_) h
    simp only [R2, List.mem_cons, List.not_mem_nil, or_false] at hx
    rcases hx with rfl | rfl | rfl | rfl | rfl
    · exact zt1
    · exact zt3
    · exact zt5
    · exact zt7
    · exact zql
  · exact hb1 f g args r hg h
theorem tab2 : zq (c2 bsX) := z5i (C := c2 bsX) (ρ := Tryz.lays240_ren) T_ok (fun f g args r hg h => z8.cfg (C := c0 bsX) (C' := c2 bsX) rfl rfl (hb2 f g args r hg h)) Tryz.lays240 Tryz.bX72 ccX okcc lies
theorem zoo : z8 (c0 bsX) z1b [] (vB true) [] := z8.cfg (C := c2 bsX) (C' := c0 bsX) rfl rfl (z4l tab2 (f := z1b) (F := z5u) rfl (zop bsX))
end Go.Ab.B
namespace Go.Ab.B
open Go.Proofs
theorem tabS : zq (cs bsX) := z5i (C := cs bsX) (ρ := Tryz.lays240_ren) T_ok (fun f g args r hg h => by cases hg) Tryz.lays240 Tryz.bX72 ccX okcc lies
theorem z10j : zq (cs3 bsX) := z5i (C := cs3 bsX) (ρ := Tryz.lays240_ren) T_ok (fun f g args r hg h => by cases hg) Tryz.lays240 Tryz.bX72 ccX okcc lies
theorem z11x : zq (cs4 bsX) := z5i (C := cs4 bsX) (ρ := Tryz.lays240_ren) T_ok (fun f g args r hg h => by cases hg) Tryz.lays240 Tryz.bX72 ccX okcc lies
theorem z11y : zq (cs6 bsX) := z5i (C := cs6 bsX) (ρ := Tryz.lays240_ren) T_ok (fun f g args r hg h => by cases hg) Tryz.lays240 Tryz.bX72 ccX okcc lies
theorem z11z : zq (cs7 bsX) := z5i (C := cs7 bsX) (ρ := Tryz.lays240_ren) T_ok (fun f g args r hg h => by cases hg) Tryz.lays240 Tryz.bX72 ccX okcc lies
theorem z11k : zq (cs17 bsX) := z5i (C := cs17 bsX) (ρ := Tryz.lays240_ren) T_ok (fun f g args r hg h => by cases hg) Tryz.lays240 Tryz.bX72 ccX okcc lies
end Go.Ab.B
