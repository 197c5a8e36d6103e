/- A part of the proof. -/
import Derived.Test.YtmchhfpjdgfacaaDoorLb
set_option linter.all false
set_option maxRecDepth 100000
namespace Go.Ab.S
def part (lo hi pc : Int) : Int := lo + Int.tdiv ((hi - lo) * pc) 100
theorem part_raw {lo hi pc : Int} (h : lo ≤ hi) (h1 : 0 ≤ pc) (h2 : pc ≤ 100) : 0 ≤ (hi - lo) * pc ∧ (hi - lo) * pc ≤ (hi - lo) * 100 ∧ 0 ≤ Int.tdiv ((hi - lo) * pc) 100 ∧ Int.tdiv ((hi - lo) * pc) 100 ≤ hi - lo := by
  have q1 : 0 ≤ (hi - lo) * pc := Int.mul_nonneg (by omega) h1
  have q2 : (hi - lo) * pc ≤ (hi - lo) * 100 := Int.mul_le_mul_of_nonneg_left h2 (by omega)
  refine ⟨q1, q2, ?_⟩
  rw [Int.tdiv_eq_ediv_of_nonneg q1]
  generalize (hi - lo) * pc = x at *
  omega
theorem part_in {lo hi pc : Int} (h : lo ≤ hi) (h1 : 0 ≤ pc) (h2 : pc ≤ 100) : lo ≤ part lo hi pc ∧ part lo hi pc ≤ hi := by
  have := part_raw h h1 h2
  unfold part
  omega
theorem sumR_congr {f g : Nat → Int} : ∀ {k i : Nat}, (∀ j, i ≤ j → j < i + k → f j = g j) → sumR f k i = sumR g k i
  | 0, i, _ => rfl
  | k + 1, i, h => by simp only [sumR]; rw [h i (by omega) (by omega), sumR_congr (k := k) (i := i + 1) fun j h1 h2 => h j (by omega) (by omega)]
theorem sumR_add (f : Nat → Int) : ∀ (a b i : Nat), sumR f (a + b) i = sumR f a i + sumR f b (i + a)
  | 0, b, i => by simp [sumR]
  | a + 1, b, i => by
    rw [show a + 1 + b = (a + b) + 1 by omega]
    simp only [sumR]
    rw [sumR_add f a b (i + 1), show i + 1 + a = i + (a + 1) by omega]
    omega
theorem sumR_shift (f : Nat → Int) (d : Nat) : ∀ (k i : Nat), sumR f k (d + i) = sumR (fun j => f (d + j)) k i
  | 0, i => rfl
  | k + 1, i => by simp only [sumR]; rw [show d + i + 1 = d + (i + 1) by omega, sumR_shift f d k (i + 1)]
theorem sumR_le {f g : Nat → Int} : ∀ {k i : Nat}, (∀ j, i ≤ j → j < i + k → f j ≤ g j) → sumR f k i ≤ sumR g k i
  | 0, i, _ => Int.le_refl _
  | k + 1, i, h => by
    have h1 := h i (by omega) (by omega)
    have h2 := sumR_le (f := f) (g := g) (k := k) (i := i + 1) fun j h1 h2 => h j (by omega) (by omega)
    simp only [sumR]
    omega
theorem sumR_parts (f : Nat → Int) (n m : Nat) : sumR f (n + 1 + m) 0 = sumR f n 0 + f n + sumR (fun j => f (n + 1 + j)) m 0 := by
  rw [sumR_add f (n + 1) m 0, sumR_snoc f n 0, Nat.zero_add, Nat.zero_add]
  have := sumR_shift f (n + 1) m 0
  rw [Nat.add_zero] at this
  rw [this]
theorem sumR_lin (A B : Int) (q v : Nat → Int) : ∀ (k i : Nat), sumR (fun j => (A * q j - B) * v j) k i = A * sumR (fun j => v j * q j) k i - B * sumR v k i
  | 0, i => by simp [sumR]
  | k + 1, i => by
    simp only [sumR]
    rw [sumR_lin A B q v k (i + 1), Int.mul_add, Int.mul_add, Int.sub_mul, Int.mul_assoc, Int.mul_comm (q i) (v i)]
    omega
structure Parts (n : Nat) (cc : Rows) (tk : Int) (m : Nat) (ww : Rows) (v : Nat → Int) : Prop where
  it : ∀ i, i < n → v i = cc i 0
  tk : v n = tk
  wt : ∀ j, j < m → v (n + 1 + j) = ww j 0
section
variable {e mo t l : Int} {nc : Nat} {c : Rows} {ns : Nat} {s : Rows} {ta tm r : Int} {nf : Nat} {f : Rows} {n : Nat} {it : Rows} {lo hi : Int} {m : Nat} {wt : Rows} {ld : Bool} {cc : Rows} {tk : Int} {ww : Rows} {v : Nat → Int}
theorem wgt_eq (h : Parts n cc tk m ww v) : wgt e tk n cc m ww = e + sumR v (n + 1 + m) 0 := by
  rw [sumR_parts v n m, h.tk]
  have h1 : sumR v n 0 = sumR (itW cc) n 0 := sumR_congr fun j _ hj => h.it j (by omega)
  have h2 : sumR (fun j => v (n + 1 + j)) m 0 = sumR (itW ww) m 0 := sumR_congr fun j _ hj => h.wt j (by omega)
  rw [h1, h2]
  simp only [wgt]
  omega
theorem mom_eq (h : Parts n cc tk m ww v) : mom mo tk ta n cc it s m ww f = mo + sumR (fun i => v i * parts n it s lo hi ta wt f i 2) (n + 1 + m) 0 := by
  rw [sumR_parts _ n m]
  have h0 : v n * parts n it s lo hi ta wt f n 2 = tk * ta := by rw [h.tk, parts_tk]; rfl
  have h1 : sumR (fun i => v i * parts n it s lo hi ta wt f i 2) n 0 = sumR (itM cc it s) n 0 := sumR_congr fun j _ hj => by
    simp only [itM]
    rw [h.it j (by omega), parts_it (show j < n by omega)]
    rfl
  have h2 : sumR (fun j => v (n + 1 + j) * parts n it s lo hi ta wt f (n + 1 + j) 2) m 0 = sumR (wtM ww f) m 0 := sumR_congr fun j _ hj => by
    simp only [wtM]
    rw [h.wt j (by omega), parts_wt]
    rfl
  rw [h0, h1, h2]
  simp only [mom]
  omega
theorem sd_eq (i k : Nat) (p : Rows) (v : Nat → Int) : sd nc c i (e + sumR v k 0) (mo + sumR (fun j => v j * p j 2) k 0) = sd nc c i e mo + sumR (fun j => lean nc c i (p j 2) * v j) k 0 := by
  have h := sumR_lin (c (nxt nc i) 0 - c i 0) (c (nxt nc i) 1 - c i 1) (fun j => p j 2) v k 0
  have h' : sumR (fun j => lean nc c i (p j 2) * v j) k 0 = _ := h
  rw [h']
  simp only [sd]
  generalize sumR v k 0 = W
  generalize sumR (fun j => v j * p j 2) k 0 = M
  generalize c (nxt nc i) 0 - c i 0 = A
  generalize c (nxt nc i) 1 - c i 1 = B
  rw [show mo + M - c i 1 = (mo - c i 1) + M by omega, show e + W - c i 0 = (e - c i 0) + W by omega, Int.mul_add, Int.mul_add]
  omega
theorem mn_le {x a b : Int} (h : a ≤ x ∨ b ≤ x) : mn a b ≤ x := by unfold mn; split <;> omega
theorem le_mx {x a b : Int} (h : x ≤ a ∨ x ≤ b) : x ≤ mx a b := by unfold mx; split <;> omega
theorem between_l {x lo hi q : Int} (h1 : lo ≤ x) (h2 : x ≤ hi) : mn (q * lo) (q * hi) ≤ q * x := by
  rcases Int.le_total 0 q with h | h
  · exact mn_le (.inl (Int.mul_le_mul_of_nonneg_left h1 h))
  · exact mn_le (.inr (Int.mul_le_mul_of_nonpos_left h h2))
theorem between_h {x lo hi q : Int} (h1 : lo ≤ x) (h2 : x ≤ hi) : q * x ≤ mx (q * lo) (q * hi) := by
  rcases Int.le_total 0 q with h | h
  · exact le_mx (.inr (Int.mul_le_mul_of_nonneg_left h2 h))
  · exact le_mx (.inl (Int.mul_le_mul_of_nonpos_left h h1))
theorem sums_in {k : Nat} {p : Rows} {v : Nat → Int} (hv : ∀ j, j < k → p j 0 ≤ v j ∧ v j ≤ p j 1) :
    sumR (pL p) k 0 ≤ sumR v k 0 ∧ sumR v k 0 ≤ sumR (pH p) k 0 ∧ sumR (mL p) k 0 ≤ sumR (fun j => v j * p j 2) k 0 ∧ sumR (fun j => v j * p j 2) k 0 ≤ sumR (mH p) k 0 := by
  refine ⟨sumR_le fun j _ h => (hv j (by omega)).1, sumR_le fun j _ h => (hv j (by omega)).2, sumR_le fun j _ h => ?_, sumR_le fun j _ h => ?_⟩
  · have := between_l (q := p j 2) (hv j (by omega)).1 (hv j (by omega)).2
    simp only [mL]
    rw [Int.mul_comm (p j 0), Int.mul_comm (p j 1), Int.mul_comm (v j)]
    exact this
  · have := between_h (q := p j 2) (hv j (by omega)).1 (hv j (by omega)).2
    simp only [mH]
    rw [Int.mul_comm (p j 0), Int.mul_comm (p j 1), Int.mul_comm (v j)]
    exact this
theorem side_ge {k : Nat} {p : Rows} {v : Nat → Int} (hv : ∀ j, j < k → p j 0 ≤ v j ∧ v j ≤ p j 1) (i : Nat) : outR e mo nc c k p i 0 ≤ sd nc c i (e + sumR v k 0) (mo + sumR (fun j => v j * p j 2) k 0) := by
  rw [sd_eq i k p v]
  have : sumR (leanW nc c p i) k 0 ≤ sumR (fun j => lean nc c i (p j 2) * v j) k 0 := sumR_le fun j _ h => between_l (hv j (by omega)).1 (hv j (by omega)).2
  simp only [outR]
  omega
end
section
variable {e mo t l : Int} {nc : Nat} {c : Rows} {ns : Nat} {s : Rows} {ta tm r : Int} {nf : Nat} {f : Rows} {n : Nat} {it : Rows} {lo hi : Int} {m : Nat} {wt : Rows} {ld : Bool} {cc : Rows} {tk : Int} {ww : Rows} {v : Nat → Int}
theorem rule_mem {R : Int} {N : Nat} {g : Rows} (h : (R, N, g) ∈ ruP e mo t l nc c ns s ta tm r nf f n it lo hi m wt ld) :
    (R = 2 ∧ N = ns ∧ g = subR s (stS n it)) ∨ (R = 3 ∧ N = 1 ∧ g = num (oneV (tm - hi))) ∨ (R = 4 ∧ N = nf ∧ g = wetR f wt) ∨ (R = 5 ∧ N = 1 ∧ g = num (oneV (heavyX e t l ld (n + 1 + m) (parts n it s lo hi ta wt f)))) ∨
    (R = 6 ∧ N = nc ∧ g = outR e mo nc c (n + 1 + m) (parts n it s lo hi ta wt f)) ∨ (R = 7 ∧ N = b01 ld ∧ g = num (oneV (lo - r))) := by
  simpa [ruP, rules] using h
structure SureOk (e mo t l : Int) (nc : Nat) (c : Rows) (ns : Nat) (s : Rows) (ta tm r : Int) (nf : Nat) (f : Rows) (n : Nat) (it : Rows) (lo hi : Int) (m : Nat) (wt : Rows) (ld : Bool) : Prop where
  over : ∀ i : Nat, i < ns → stS n it i ≤ s i 1
  full : hi ≤ tm
  wet : ∀ i, i < nf → wt i 1 ≤ f i 1
  heavy : 0 ≤ heavyX e t l ld (n + 1 + m) (parts n it s lo hi ta wt f)
  out : ∀ i, i < nc → 0 ≤ outR e mo nc c (n + 1 + m) (parts n it s lo hi ta wt f) i 0
  short : ld = true → r ≤ lo
theorem sure_ok (h : (broR (ruP e mo t l nc c ns s ta tm r nf f n it lo hi m wt ld) == 1) = true) : SureOk e mo t l nc c ns s ta tm r nf f n it lo hi m wt ld := by
  rcases bro_spec (ruP e mo t l nc c ns s ta tm r nf f n it lo hi m wt ld) with ⟨_, hall⟩ | ⟨R, N, g, i, h1, h2, _, _⟩
  · refine ⟨fun i hj => ?_, ?_, fun i hj => ?_, ?_, fun i hj => ?_, fun hl => ?_⟩
    · have := hall 2 ns (subR s (stS n it)) (by simp [ruP, rules]) i hj
      simp only [subR] at this
      omega
    · have : 0 ≤ tm - hi := hall 3 1 (num (oneV (tm - hi))) (by simp [ruP, rules]) 0 (by omega)
      omega
    · have := hall 4 nf (wetR f wt) (by simp [ruP, rules]) i hj
      simp only [wetR] at this
      omega
    · exact hall 5 1 (num (oneV (heavyX e t l ld (n + 1 + m) (parts n it s lo hi ta wt f)))) (by simp [ruP, rules]) 0 (by omega)
    · exact hall 6 nc (outR e mo nc c (n + 1 + m) (parts n it s lo hi ta wt f)) (by simp [ruP, rules]) i hj
    · have : 0 ≤ lo - r := hall 7 (b01 ld) (num (oneV (lo - r))) (by simp [ruP, rules]) 0 (by rw [hl]; simp [b01])
      omega
  · simp only [broR, h2] at h
    have h : R = 1 := by simpa using h
    rcases rule_mem h1 with h' | h' | h' | h' | h' | h' <;> omega
end
end Go.Ab.S
namespace Go.Ab.B
open Go.Proofs
abbrev Sp7 := Sp4
abbrev Lp6 := Lp4
abbrev cs7 {P : Program} (hbs : BsOk P) : Cfg := cs4 hbs
abbrev PB (e mo t l : Int) (nc : Nat) (c : S.Rows) (ns : Nat) (s : S.Rows) (ta tm r : Int) (nf : Nat) (f : S.Rows) : Option Blk := some (.box t_api_Plane (plC e mo t l nc (S.val c) ns (S.val s) ta tm r nf (S.val f)))
end Go.Ab.B
namespace Go.Ab.S
def legV (k : Nat → Nat) (li : Nat → Rows) (q : Rows) (pu : Nat → Bool) : Nat → Nat → PV := fun i j => ([.isl 3 (k i) (val (li i)), .bool (pu i), .int .i64 (q i 0), .int .i64 (q i 1), .int .i64 (q i 2), .int .i64 (q i 3), .int .i64 (q i 4)] : List PV).getD (0 + j) .npt
end Go.Ab.S
namespace Go.Ab.B
open Go.Proofs
section
variable {hbs : BsOk Tryd.prog}
theorem vc_Clone3 (n : Nat) (c : S.Rows) (Q : AV → Heap → Prop) :
 ((CdP (.le 1 n)
 (CdP (.le ((0 + n) * 24) 140737488355328)
 (Q (.c (.sl 1 0 (0 + n))) [(some (.arr 3 49 0 (fun x3 => (fun x4 => .npt)) [])), (some (.arr 3 49 (0 + n) (fun x3 => (fun x4 => (.int .i64 (c x3 x4)))) [0]))])))) = (ex (cs7 hbs) 1000 0 m_slices_Clone_api_LoadItem_api_LoadItem ⟨ofL 0 [.c (cS 3 n c)] .lf, []⟩ (endK F_slices_Clone_api_LoadItem_api_LoadItem.rs (fun r H => .pr (Q r H)) fun _ _ => .no)).hold2 := by kernel_rfl
theorem vc_Clone3n (z : Nat) (Q : AV → Heap → Prop) :
 ((Q (.c (.p .nsl)) [])) = (ex (cs7 hbs) 1000 0 m_slices_Clone_api_LoadItem_api_LoadItem ⟨ofL 0 [.c (.p (.raw (.slice none 0 z)))] .lf, []⟩ (endK F_slices_Clone_api_LoadItem_api_LoadItem.rs (fun r H => .pr (Q r H)) fun _ _ => .no)).hold2 := by kernel_rfl
theorem vc_Clone3s (a : Addr) (z : Nat) (Q : AV → Heap → Prop) :
 ((Q (.c (.sl 1 0 0)) [(some (.arr 3 49 0 (fun x3 => (fun x4 => .npt)) [])), (some (.arr 3 49 0 (fun x3 => (fun x4 => .npt)) [0]))])) = (ex (cs7 hbs) 1000 0 m_slices_Clone_api_LoadItem_api_LoadItem ⟨ofL 0 [.c (.p (.raw (.slice (some a) 0 z)))] .lf, []⟩ (endK F_slices_Clone_api_LoadItem_api_LoadItem.rs (fun r H => .pr (Q r H)) fun _ _ => .no)).hold2 := by kernel_rfl
theorem vc_Repeat0 (c : S.Rows) (Q : AV → Heap → Prop) :
 ((Q (.c (.sl 0 0 (Int.toNat (if ((false && (decide ((0 : Int) ≥ (9223372036854775808 : Int)))) = true) then ((0 : Int) - (18446744073709551616 : Int)) else (0 : Int))))) [(some (.arr 2 29 (Int.toNat (if ((false && (decide ((0 : Int) ≥ (9223372036854775808 : Int)))) = true) then ((0 : Int) - (18446744073709551616 : Int)) else (0 : Int))) (fun x2 => (fun x3 => (if ((0 ≤ x2) ∧ (x2 < (0 + (if (1 ≤ (Int.toNat (if ((false && (decide ((0 : Int) ≥ (9223372036854775808 : Int)))) = true) then ((0 : Int) - (18446744073709551616 : Int)) else (0 : Int)))) then 1 else (Int.toNat (if ((false && (decide ((0 : Int) ≥ (9223372036854775808 : Int)))) = true) then ((0 : Int) - (18446744073709551616 : Int)) else (0 : Int))))))) then (.int .i64 (c x2 x3)) else (List.getD [(.int .i64 (0 : Int)), (.int .i64 (0 : Int))] x3 .npt)))) []))])) = (ex (cs7 hbs) 1000 0 m_slices_Repeat_api_Span_api_Span ⟨ofL 0 [.c (cS 2 1 c), .c (cJ 0)] .lf, []⟩ (endK F_slices_Repeat_api_Span_api_Span.rs (fun r H => .pr (Q r H)) fun _ _ => .no)).hold2 := by kernel_rfl
theorem vc_Repeat1 (c : S.Rows) (Q : AV → Heap → Prop) :
 ((Q (.c (.sl 0 0 (Int.toNat (if ((false && (decide ((((if (18446744073709551616 ≤ 1) then 1 else 1) : Nat) : Int) ≥ (9223372036854775808 : Int)))) = true) then ((((if (18446744073709551616 ≤ 1) then 1 else 1) : Nat) : Int) - (18446744073709551616 : Int)) else (((if (18446744073709551616 ≤ 1) then 1 else 1) : Nat) : Int))))) [(some (.arr 2 29 (Int.toNat (if ((false && (decide ((((if (18446744073709551616 ≤ 1) then 1 else 1) : Nat) : Int) ≥ (9223372036854775808 : Int)))) = true) then ((((if (18446744073709551616 ≤ 1) then 1 else 1) : Nat) : Int) - (18446744073709551616 : Int)) else (((if (18446744073709551616 ≤ 1) then 1 else 1) : Nat) : Int))) (fun x2 => (fun x3 => (if ((0 ≤ x2) ∧ (x2 < (0 + (if (1 ≤ (Int.toNat (if ((false && (decide ((((if (18446744073709551616 ≤ 1) then 1 else 1) : Nat) : Int) ≥ (9223372036854775808 : Int)))) = true) then ((((if (18446744073709551616 ≤ 1) then 1 else 1) : Nat) : Int) - (18446744073709551616 : Int)) else (((if (18446744073709551616 ≤ 1) then 1 else 1) : Nat) : Int)))) then 1 else (Int.toNat (if ((false && (decide ((((if (18446744073709551616 ≤ 1) then 1 else 1) : Nat) : Int) ≥ (9223372036854775808 : Int)))) = true) then ((((if (18446744073709551616 ≤ 1) then 1 else 1) : Nat) : Int) - (18446744073709551616 : Int)) else (((if (18446744073709551616 ≤ 1) then 1 else 1) : Nat) : Int))))))) then (.int .i64 (c x2 x3)) else (List.getD [(.int .i64 (0 : Int)), (.int .i64 (0 : Int))] x3 .npt)))) []))])) = (ex (cs7 hbs) 1000 0 m_slices_Repeat_api_Span_api_Span ⟨ofL 0 [.c (cS 2 1 c), .c (cJ 1)] .lf, []⟩ (endK F_slices_Repeat_api_Span_api_Span.rs (fun r H => .pr (Q r H)) fun _ _ => .no)).hold2 := by kernel_rfl
theorem vc_Repeat2 (c : S.Rows) (Q : AV → Heap → Prop) :
 ((Q (.c (.sl 0 0 (Int.toNat (if ((false && (decide ((((if (18446744073709551616 ≤ 2) then 2 else 2) : Nat) : Int) ≥ (9223372036854775808 : Int)))) = true) then ((((if (18446744073709551616 ≤ 2) then 2 else 2) : Nat) : Int) - (18446744073709551616 : Int)) else (((if (18446744073709551616 ≤ 2) then 2 else 2) : Nat) : Int))))) [(some (.arr 2 29 (Int.toNat (if ((false && (decide ((((if (18446744073709551616 ≤ 2) then 2 else 2) : Nat) : Int) ≥ (9223372036854775808 : Int)))) = true) then ((((if (18446744073709551616 ≤ 2) then 2 else 2) : Nat) : Int) - (18446744073709551616 : Int)) else (((if (18446744073709551616 ≤ 2) then 2 else 2) : Nat) : Int))) (fun x2 => (fun x3 => (if (((0 + (if (1 ≤ (Int.toNat (if ((false && (decide ((((if (18446744073709551616 ≤ 2) then 2 else 2) : Nat) : Int) ≥ (9223372036854775808 : Int)))) = true) then ((((if (18446744073709551616 ≤ 2) then 2 else 2) : Nat) : Int) - (18446744073709551616 : Int)) else (((if (18446744073709551616 ≤ 2) then 2 else 2) : Nat) : Int)))) then 1 else (Int.toNat (if ((false && (decide ((((if (18446744073709551616 ≤ 2) then 2 else 2) : Nat) : Int) ≥ (9223372036854775808 : Int)))) = true) then ((((if (18446744073709551616 ≤ 2) then 2 else 2) : Nat) : Int) - (18446744073709551616 : Int)) else (((if (18446744073709551616 ≤ 2) then 2 else 2) : Nat) : Int))))) ≤ x2) ∧ (x2 < ((0 + (if (1 ≤ (Int.toNat (if ((false && (decide ((((if (18446744073709551616 ≤ 2) then 2 else 2) : Nat) : Int) ≥ (9223372036854775808 : Int)))) = true) then ((((if (18446744073709551616 ≤ 2) then 2 else 2) : Nat) : Int) - (18446744073709551616 : Int)) else (((if (18446744073709551616 ≤ 2) then 2 else 2) : Nat) : Int)))) then 1 else (Int.toNat (if ((false && (decide ((((if (18446744073709551616 ≤ 2) then 2 else 2) : Nat) : Int) ≥ (9223372036854775808 : Int)))) = true) then ((((if (18446744073709551616 ≤ 2) then 2 else 2) : Nat) : Int) - (18446744073709551616 : Int)) else (((if (18446744073709551616 ≤ 2) then 2 else 2) : Nat) : Int))))) + (if ((if (1 ≤ (Int.toNat (if ((false && (decide ((((if (18446744073709551616 ≤ 2) then 2 else 2) : Nat) : Int) ≥ (9223372036854775808 : Int)))) = true) then ((((if (18446744073709551616 ≤ 2) then 2 else 2) : Nat) : Int) - (18446744073709551616 : Int)) else (((if (18446744073709551616 ≤ 2) then 2 else 2) : Nat) : Int)))) then 1 else (Int.toNat (if ((false && (decide ((((if (18446744073709551616 ≤ 2) then 2 else 2) : Nat) : Int) ≥ (9223372036854775808 : Int)))) = true) then ((((if (18446744073709551616 ≤ 2) then 2 else 2) : Nat) : Int) - (18446744073709551616 : Int)) else (((if (18446744073709551616 ≤ 2) then 2 else 2) : Nat) : Int)))) ≤ ((Int.toNat (if ((false && (decide ((((if (18446744073709551616 ≤ 2) then 2 else 2) : Nat) : Int) ≥ (9223372036854775808 : Int)))) = true) then ((((if (18446744073709551616 ≤ 2) then 2 else 2) : Nat) : Int) - (18446744073709551616 : Int)) else (((if (18446744073709551616 ≤ 2) then 2 else 2) : Nat) : Int))) - (if (1 ≤ (Int.toNat (if ((false && (decide ((((if (18446744073709551616 ≤ 2) then 2 else 2) : Nat) : Int) ≥ (9223372036854775808 : Int)))) = true) then ((((if (18446744073709551616 ≤ 2) then 2 else 2) : Nat) : Int) - (18446744073709551616 : Int)) else (((if (18446744073709551616 ≤ 2) then 2 else 2) : Nat) : Int)))) then 1 else (Int.toNat (if ((false && (decide ((((if (18446744073709551616 ≤ 2) then 2 else 2) : Nat) : Int) ≥ (9223372036854775808 : Int)))) = true) then ((((if (18446744073709551616 ≤ 2) then 2 else 2) : Nat) : Int) - (18446744073709551616 : Int)) else (((if (18446744073709551616 ≤ 2) then 2 else 2) : Nat) : Int)))))) then (if (1 ≤ (Int.toNat (if ((false && (decide ((((if (18446744073709551616 ≤ 2) then 2 else 2) : Nat) : Int) ≥ (9223372036854775808 : Int)))) = true) then ((((if (18446744073709551616 ≤ 2) then 2 else 2) : Nat) : Int) - (18446744073709551616 : Int)) else (((if (18446744073709551616 ≤ 2) then 2 else 2) : Nat) : Int)))) then 1 else (Int.toNat (if ((false && (decide ((((if (18446744073709551616 ≤ 2) then 2 else 2) : Nat) : Int) ≥ (9223372036854775808 : Int)))) = true) then ((((if (18446744073709551616 ≤ 2) then 2 else 2) : Nat) : Int) - (18446744073709551616 : Int)) else (((if (18446744073709551616 ≤ 2) then 2 else 2) : Nat) : Int)))) else ((Int.toNat (if ((false && (decide ((((if (18446744073709551616 ≤ 2) then 2 else 2) : Nat) : Int) ≥ (9223372036854775808 : Int)))) = true) then ((((if (18446744073709551616 ≤ 2) then 2 else 2) : Nat) : Int) - (18446744073709551616 : Int)) else (((if (18446744073709551616 ≤ 2) then 2 else 2) : Nat) : Int))) - (if (1 ≤ (Int.toNat (if ((false && (decide ((((if (18446744073709551616 ≤ 2) then 2 else 2) : Nat) : Int) ≥ (9223372036854775808 : Int)))) = true) then ((((if (18446744073709551616 ≤ 2) then 2 else 2) : Nat) : Int) - (18446744073709551616 : Int)) else (((if (18446744073709551616 ≤ 2) then 2 else 2) : Nat) : Int)))) then 1 else (Int.toNat (if ((false && (decide ((((if (18446744073709551616 ≤ 2) then 2 else 2) : Nat) : Int) ≥ (9223372036854775808 : Int)))) = true) then ((((if (18446744073709551616 ≤ 2) then 2 else 2) : Nat) : Int) - (18446744073709551616 : Int)) else (((if (18446744073709551616 ≤ 2) then 2 else 2) : Nat) : Int))))))))) then (if ((0 ≤ (0 + (x2 - (0 + (if (1 ≤ (Int.toNat (if ((false && (decide ((((if (18446744073709551616 ≤ 2) then 2 else 2) : Nat) : Int) ≥ (9223372036854775808 : Int)))) = true) then ((((if (18446744073709551616 ≤ 2) then 2 else 2) : Nat) : Int) - (18446744073709551616 : Int)) else (((if (18446744073709551616 ≤ 2) then 2 else 2) : Nat) : Int)))) then 1 else (Int.toNat (if ((false && (decide ((((if (18446744073709551616 ≤ 2) then 2 else 2) : Nat) : Int) ≥ (9223372036854775808 : Int)))) = true) then ((((if (18446744073709551616 ≤ 2) then 2 else 2) : Nat) : Int) - (18446744073709551616 : Int)) else (((if (18446744073709551616 ≤ 2) then 2 else 2) : Nat) : Int)))))))) ∧ ((0 + (x2 - (0 + (if (1 ≤ (Int.toNat (if ((false && (decide ((((if (18446744073709551616 ≤ 2) then 2 else 2) : Nat) : Int) ≥ (9223372036854775808 : Int)))) = true) then ((((if (18446744073709551616 ≤ 2) then 2 else 2) : Nat) : Int) - (18446744073709551616 : Int)) else (((if (18446744073709551616 ≤ 2) then 2 else 2) : Nat) : Int)))) then 1 else (Int.toNat (if ((false && (decide ((((if (18446744073709551616 ≤ 2) then 2 else 2) : Nat) : Int) ≥ (9223372036854775808 : Int)))) = true) then ((((if (18446744073709551616 ≤ 2) then 2 else 2) : Nat) : Int) - (18446744073709551616 : Int)) else (((if (18446744073709551616 ≤ 2) then 2 else 2) : Nat) : Int))))))) < (0 + (if (1 ≤ (Int.toNat (if ((false && (decide ((((if (18446744073709551616 ≤ 2) then 2 else 2) : Nat) : Int) ≥ (9223372036854775808 : Int)))) = true) then ((((if (18446744073709551616 ≤ 2) then 2 else 2) : Nat) : Int) - (18446744073709551616 : Int)) else (((if (18446744073709551616 ≤ 2) then 2 else 2) : Nat) : Int)))) then 1 else (Int.toNat (if ((false && (decide ((((if (18446744073709551616 ≤ 2) then 2 else 2) : Nat) : Int) ≥ (9223372036854775808 : Int)))) = true) then ((((if (18446744073709551616 ≤ 2) then 2 else 2) : Nat) : Int) - (18446744073709551616 : Int)) else (((if (18446744073709551616 ≤ 2) then 2 else 2) : Nat) : Int))))))) then (.int .i64 (c (0 + (x2 - (0 + (if (1 ≤ (Int.toNat (if ((false && (decide ((((if (18446744073709551616 ≤ 2) then 2 else 2) : Nat) : Int) ≥ (9223372036854775808 : Int)))) = true) then ((((if (18446744073709551616 ≤ 2) then 2 else 2) : Nat) : Int) - (18446744073709551616 : Int)) else (((if (18446744073709551616 ≤ 2) then 2 else 2) : Nat) : Int)))) then 1 else (Int.toNat (if ((false && (decide ((((if (18446744073709551616 ≤ 2) then 2 else 2) : Nat) : Int) ≥ (9223372036854775808 : Int)))) = true) then ((((if (18446744073709551616 ≤ 2) then 2 else 2) : Nat) : Int) - (18446744073709551616 : Int)) else (((if (18446744073709551616 ≤ 2) then 2 else 2) : Nat) : Int))))))) x3)) else (List.getD [(.int .i64 (0 : Int)), (.int .i64 (0 : Int))] x3 .npt)) else (if ((0 ≤ x2) ∧ (x2 < (0 + (if (1 ≤ (Int.toNat (if ((false && (decide ((((if (18446744073709551616 ≤ 2) then 2 else 2) : Nat) : Int) ≥ (9223372036854775808 : Int)))) = true) then ((((if (18446744073709551616 ≤ 2) then 2 else 2) : Nat) : Int) - (18446744073709551616 : Int)) else (((if (18446744073709551616 ≤ 2) then 2 else 2) : Nat) : Int)))) then 1 else (Int.toNat (if ((false && (decide ((((if (18446744073709551616 ≤ 2) then 2 else 2) : Nat) : Int) ≥ (9223372036854775808 : Int)))) = true) then ((((if (18446744073709551616 ≤ 2) then 2 else 2) : Nat) : Int) - (18446744073709551616 : Int)) else (((if (18446744073709551616 ≤ 2) then 2 else 2) : Nat) : Int))))))) then (.int .i64 (c x2 x3)) else (List.getD [(.int .i64 (0 : Int)), (.int .i64 (0 : Int))] x3 .npt))))) []))])) = (ex (cs7 hbs) 1000 0 m_slices_Repeat_api_Span_api_Span ⟨ofL 0 [.c (cS 2 1 c), .c (cJ 2)] .lf, []⟩ (endK F_slices_Repeat_api_Span_api_Span.rs (fun r H => .pr (Q r H)) fun _ _ => .no)).hold2 := by kernel_rfl
end
theorem isl_congr {w : World} {Z : Nat → Prop} {e n : Nat} {f g : Nat → Nat → PV} {u : Value} (h : ∀ i j, i < n → j < e → f i j = g i j) (hr : RepP w Z (.isl e n f) u) : RepP w Z (.isl e n g) u := by
  cases hr with
  | isl0 _ _ a cap => exact .isl0 _ _ a cap
  | isl _ _ _ ad cap us hn hz hc hrr => exact .isl _ _ _ ad cap us hn hz hc fun i j hi hj => by rw [← h i j hi hj]; exact hrr i j hi hj
section
variable {hbs : BsOk Tryd.prog} (hT7 : TabOk (cs7 hbs))
include hT7
theorem fc_Clone3_0 (g : Nat → Nat → PV) : FCall (cs7 hbs) f_slices_Clone_api_LoadItem_api_LoadItem [.c (.p (.isl 3 0 g))] (.c (.p (.isl 3 0 g))) [] := by
  intro w Z vs hZ hG hr
  simp only [RepAs] at hr
  obtain ⟨u, us, rfl, h1, rfl⟩ := hr
  simp only [RepA, RepC] at h1
  obtain ⟨a, cap, rfl⟩ : ∃ a cap, u = .slice a 0 cap := by
    cases h1 with
    | isl0 _ _ a cap => exact ⟨_, _, rfl⟩
    | isl _ _ _ ad cap us hn hz hc hrr => exact ⟨_, _, rfl⟩
  cases a with
  | none =>
    have F : FCall (cs7 hbs) f_slices_Clone_api_LoadItem_api_LoadItem [.c (.p (.raw (.slice none 0 cap)))] (.c (.p .nsl)) [] := fcall_k hT7 (F := F_slices_Clone_api_LoadItem_api_LoadItem) rfl (vc_Clone3n cap _) rfl
    have F := FCall.mono_r (r' := .c (.p (.isl 3 0 g))) F fun w Z φ u hr => by
      simp only [RepA, RepC] at hr ⊢
      cases hr
      exact .isl0 _ _ _ _
    exact F w Z _ hZ hG (by simp only [RepAs]; exact ⟨_, _, rfl, by simp only [RepA, RepC]; exact .raw _ rfl, rfl⟩)
  | some ad =>
    have F : FCall (cs7 hbs) f_slices_Clone_api_LoadItem_api_LoadItem [.c (.p (.raw (.slice (some ad) 0 cap)))] (.c (.p (.isl 3 0 fun _ _ => .npt))) [] := fcall_k hT7 (F := F_slices_Clone_api_LoadItem_api_LoadItem) rfl (vc_Clone3s ad cap _) (by simp [frzA, frzC])
    have F := FCall.mono_r (r' := .c (.p (.isl 3 0 g))) F fun w Z φ u hr => by
      simp only [RepA, RepC] at hr ⊢
      exact isl_congr (fun i j hi => by omega) hr
    exact F w Z _ hZ hG (by simp only [RepAs]; exact ⟨_, _, rfl, by simp only [RepA, RepC]; exact .raw _ rfl, rfl⟩)
theorem fc_Clone3 (n : Nat) (c : S.Rows) (hn : n ≤ 1000000) : FCall (cs7 hbs) f_slices_Clone_api_LoadItem_api_LoadItem [.c (.p (.isl 3 n (S.val c)))] (.c (.p (.isl 3 n (S.val c)))) [] := by
  rcases Nat.eq_zero_or_pos n with h | h
  · subst h
    exact fc_Clone3_0 hT7 _
  · refine fcall_k hT7 (F := F_slices_Clone_api_LoadItem_api_LoadItem) rfl (vc_Clone3 n c _) (cdP h (cdP (by simp [Cd.holds]; omega) ?_))
    simp [frzA, frzC]
    rfl
theorem fc_Repeat (c : S.Rows) (k : Nat) (hk : k ≤ 2) : FCall (cs7 hbs) f_slices_Repeat_api_Span_api_Span [.c (.p (.isl 2 1 (S.val c))), .c (.p (.int .i64 k))] (.c (.p (.isl 2 k (S.val fun _ j => c 0 j)))) [] := by
  have cong : ∀ {k : Nat} {g : Nat → Nat → PV}, (∀ i j, i < k → j < 2 → g i j = S.val (fun _ j => c 0 j) i j) → FCall (cs7 hbs) f_slices_Repeat_api_Span_api_Span [.c (.p (.isl 2 1 (S.val c))), .c (.p (.int .i64 k))] (.c (.p (.isl 2 k g))) [] → FCall (cs7 hbs) f_slices_Repeat_api_Span_api_Span [.c (.p (.isl 2 1 (S.val c))), .c (.p (.int .i64 k))] (.c (.p (.isl 2 k (S.val fun _ j => c 0 j)))) [] := fun hg F => FCall.mono_r F fun w Z φ u hr => by
    simp only [RepA, RepC] at hr ⊢
    exact isl_congr hg hr
  match k, hk with
  | 0, _ =>
    refine cong ?_ (fcall_k hT7 (F := F_slices_Repeat_api_Span_api_Span) rfl (vc_Repeat0 c _) rfl)
    intro i j hi _
    omega
  | 1, _ =>
    refine cong ?_ (fcall_k hT7 (F := F_slices_Repeat_api_Span_api_Span) rfl (vc_Repeat1 c _) rfl)
    intro i j hi hj
    obtain rfl : i = 0 := by omega
    simp [S.val]
  | 2, _ =>
    refine cong ?_ (fcall_k hT7 (F := F_slices_Repeat_api_Span_api_Span) rfl (vc_Repeat2 c _) rfl)
    intro i j hi hj
    rcases (by omega : i = 0 ∨ i = 1) with rfl | rfl
    · simp [S.val]
    · simp [S.val]
end
end Go.Ab.B
namespace Go.Ab.S
def lI : PV → Int
  | .int _ x => x
  | _ => 0
def lB : PV → Bool
  | .bool b => b
  | _ => false
def lN : PV → Nat
  | .isl _ n _ => n
  | _ => 0
def lR : PV → Rows
  | .isl _ _ g => num g
  | _ => fun _ _ => 0
def tkL (a : Int) (g : Nat → Nat → PV) : Nat → Int
  | 0 => a
  | i + 1 => tkL a g i + lI (g i 2) + (0 - lI (g i 4))
def tkH (b : Int) (g : Nat → Nat → PV) : Nat → Int
  | 0 => b
  | i + 1 => tkH b g i + lI (g i 2) + (0 - lI (g i 3))
def pmp (p : Bool) (x : Int) : Int := match p with | true => 0 | false => x
def wtL (g : Nat → Nat → PV) : Nat → Int
  | 0 => 0
  | i + 1 => pmp (lB (g i 1)) (wtL g i) + lI (g i 5)
def wtH (g : Nat → Nat → PV) : Nat → Int
  | 0 => 0
  | i + 1 => pmp (lB (g i 1)) (wtH g i) + lI (g i 6)
def lnd (j : Nat) : Bool := Nat.beq (j % 2) 1
def two (lo hi : Int) : Rows := fun _ j => match j with | 0 => lo | _ => hi
def ptL (a : Int) (g : Nat → Nat → PV) (j : Nat) : Int := match lnd j with | true => tkL a g (j / 2 + 1) | false => tkL a g (j / 2) + lI (g (j / 2) 2)
def ptH (b : Int) (g : Nat → Nat → PV) (j : Nat) : Int := match lnd j with | true => tkH b g (j / 2 + 1) | false => tkH b g (j / 2) + lI (g (j / 2) 2)
def pwL (g : Nat → Nat → PV) (j : Nat) : Int := match lnd j with | true => wtL g (j / 2 + 1) | false => pmp (lB (g (j / 2) 1)) (wtL g (j / 2))
def pwH (g : Nat → Nat → PV) (j : Nat) : Int := match lnd j with | true => wtH g (j / 2 + 1) | false => pmp (lB (g (j / 2) 1)) (wtH g (j / 2))
def ptV (a b : Int) (nf : Nat) (g : Nat → Nat → PV) : Nat → Nat → PV := fun j x => ([.isl 3 (lN (g (j / 2) 0)) (val (lR (g (j / 2) 0))), .int .i64 (ptL a g j), .int .i64 (ptH b g j), .isl 2 nf (val (two (pwL g j) (pwH g j))), .bool (lnd j)] : List PV).getD (0 + x) .npt
end Go.Ab.S
namespace Go.Ab.B
open Go.Proofs
def sp_Clone3 : List AV → Option (AV × Heap)
  | [.c (.p (.isl 3 n g))] => some (.c (.p (.isl 3 n (S.val (S.num g)))), [])
  | _ => none
def sp_Repeat : List AV → Option (AV × Heap)
  | [.c (.p (.isl 2 1 g)), .c (.p (.int .i64 k))] => match g 0 0, g 0 1 with
    | .int .i64 lo, .int .i64 hi => some (.c (.p (.isl 2 k.toNat (S.val (S.two lo hi)))), [])
    | _, _ => none
  | _ => none
def sp_load_pointsOf : List AV → Option (AV × Heap)
  | [.ag [_, _, _, _, _, _, _, _, _, .p (.isl 2 nf _)], .ag [.p (.int .i64 a), .p (.int .i64 b)], .c (.p (.isl 7 n g))] => some (.c (.p (.isl 5 (2 * n) (S.ptV a b nf g))), [])
  | _ => none
def Sp9 (f : Nat) (l : List AV) : Option (AV × Heap) := bif Nat.beq f f_slices_Clone_api_LoadItem_api_LoadItem then sp_Clone3 l else bif Nat.beq f f_slices_Repeat_api_Span_api_Span then sp_Repeat l else bif Nat.beq f f_load_pointsOf then sp_load_pointsOf l else Sp7 f l
def lp_load_pointsOf (s : St) : Option LTree :=
  match s.h, Tr.get (.i (.o (.o (.o .h)))) s.t with
  | b0 :: b1 :: b2 :: b3 :: _, .c (.p (.isl 7 n g)) => match b0, b3 with
    | some (.box _ [_, _, _, _, _, _, _, _, _, .p (.isl 2 nf _)]), some (.box _ [.p (.int .i64 a), .p (.int .i64 b)]) =>
      some (.e (.exit 0) ⟨setAll [(.o (.o (.o .h)), .c (.pt 2 0))], [b0, none, some (.box t_sl_api_LoadPoint [.sl 6 0 (2 * n)]), none, none, none, some (.arr 5 t_api_LoadPoint (2 * n) (S.ptV a b nf g) [])]⟩)
    | _, _ => none
  | _, _ => none
def Lp9 (n0 : Nat) (a : MC) (s : St) : Option LTree := bif Nat.beq (keyM a 0) key_load_pointsOf_l1 then lp_load_pointsOf s else Lp6 n0 a s
def cs9 {P : Program} (hbs : BsOk P) : Cfg := { cs7 hbs with Sp := Sp9, Lp := Lp9 }
section
variable {hbs : BsOk Tryd.prog}
theorem vs_load_pointsOf (fu i I : Nat) (e mo t l : Int) (nc : Nat) (c : S.Rows) (ns : Nat) (s : S.Rows) (ta tm r : Int) (nf : Nat) (f : S.Rows) (x y u v : Int) (K0 : Nat) (k : Nat → Nat) (li : Nat → S.Rows) (q : S.Rows) (pu : Nat → Bool) (g : Nat → Nat → PV) (Q : AX → St → Prop) :
 ((fun (A0 : AV) => ((fun (A1 : CV) => ((fun (A2 : AV) => ((fun (A3 : List CV) => ((fun (A4 : Tr) => ((fun (A5 : AV) => ((fun (A6 : AV) => ((fun (A7 : AV) => ((fun (A8 : Option Blk) => ((fun (A9 : Option Blk) => ((fun (A10 : List CV) => ((fun (A11 : Tr) => ((fun (A12 : AV) => ((fun (A13 : AV) => ((fun (A14 : List CV) => ((fun (A15 : Tr) => ((fun (A16 : Option Blk) => ((fun (A17 : Option Blk) => ((fun (A18 : Tr) => ((fun (A19 : Option Blk) => ((BrP (decide ((i : Int) < (K0 : Int)))
 (CdP (.rng (i : Int) K0)
 (BrP (pu i)
 ((FCall (cs9 hbs) f_load_together [A2] A5 []) ∧
 ((FCall (cs9 hbs) f_slices_Clone_api_LoadItem_api_LoadItem [(.c A1)] (.c A1) []) ∧
 ((FCall (cs9 hbs) f_slices_Repeat_api_Span_api_Span [(.c (.p (.isl 2 1 (fun x27 => (fun x28 => (List.getD [(.int .i64 (0 : Int)), (.int .i64 (0 : Int))] ((x27 * 2) + x28) .npt)))))), (vN nf)] (.c (.p (.isl 2 nf (S.val (S.two (0 : Int) (0 : Int)))))) []) ∧
 (CdP (.le I I)
 (CdP (.le I I)
 (CdP (.le ((I + 1) * 72) 140737488355328)
 (CdP (.i64 ((0 : Int) - (q i 2)))
 (CdP (.i64 ((0 : Int) - (q i 1)))
 ((FCall (cs9 hbs) f_load_together [A0] (.ag A3) []) ∧
 ((FCall (cs9 hbs) f_load_together [A6] (.ag A10) []) ∧
 ((FCall (cs9 hbs) f_slices_Clone_api_LoadItem_api_LoadItem [(.c A1)] (.c A1) []) ∧
 ((FCall (cs9 hbs) f_slices_Repeat_api_Span_api_Span [(.c (.p (.isl 2 1 (fun x27 => (fun x28 => (List.getD [(.int .i64 ((0 : Int) + (q i 3))), (.int .i64 ((0 : Int) + (q i 4)))] ((x27 * 2) + x28) .npt)))))), (vN nf)] (.c (.p (.isl 2 nf (S.val (S.two ((0 : Int) + (q i 3)) ((0 : Int) + (q i 4))))))) []) ∧
 (CdP (.le (I + 1) (I + 1))
 (CdP (.le (I + 1) (I + 1))
 (CdP (.le (((I + 1) + 1) * 72) 140737488355328)
 (CdP (.i64 ((i : Int) + (1 : Int)))
 (Q .normal ⟨(L4 (L4 (L4 (.nd (L4 (L1 A2) (L1 A0)) (vT 2 0) (.nd (L1 (vT 7 4)) (vB true) (L1 (vT 7 0)))) A11) (L4 (.nd (.nd (L1 (.c (.ref 5))) (vJ (K0 : Int)) (L1 (.ag [(cJ 0), (cJ 0)]))) (vT 4 0) A15) (L4 (.nd (L1 A5) A12 (L1 (.ag A10))) A18))) (L4 (L4 (.nd (.nd (L1 A5) A13 (L1 (.ag A3))) (vT 3 0) (.nd (L1 (vJ (q i 2))) (.ag [(cJ 0), (cJ 0)]) (L1 (.c A1)))) (.nd (.nd (L1 (.tp [])) (.c (.p (.ipt 7 (S.legV k li q pu i)))) (L1 A6)) (vT 7 0) (L6 (L1 (vJ (q i 1))) (vT 7 2)))) A4)), [A16, none, A17, (some (.box t_api_Span A3)), (some (.box t_api_Span A10)), A8, A19, A9, (some (.arr 5 62 (I + 1) (fun x27 => (fun x28 => (if (x27 < I) then (g x27 x28) else (List.getD [(.isl 3 (k i) (S.val (li i))), (.int .i64 (x + (q i 0))), (.int .i64 (y + (q i 0))), (.isl 2 nf (S.val (S.two (0 : Int) (0 : Int)))), (.bool false)] (((x27 - I) * 5) + x28) .npt)))) [6])), (some (.arr 5 62 ((I + 1) + 1) (fun x27 => (fun x28 => (if (x27 < (I + 1)) then (if (x27 < I) then (g x27 x28) else (List.getD [(.isl 3 (k i) (S.val (li i))), (.int .i64 (x + (q i 0))), (.int .i64 (y + (q i 0))), (.isl 2 nf (S.val (S.two (0 : Int) (0 : Int)))), (.bool false)] (((x27 - I) * 5) + x28) .npt)) else (List.getD [(.isl 3 (k i) (S.val (li i))), (.int .i64 ((x + (q i 0)) + ((0 : Int) - (q i 2)))), (.int .i64 ((y + (q i 0)) + ((0 : Int) - (q i 1)))), (.isl 2 nf (S.val (S.two ((0 : Int) + (q i 3)) ((0 : Int) + (q i 4))))), (.bool true)] (((x27 - (I + 1)) * 5) + x28) .npt)))) [8, 6]))]⟩)))))))))))))))))
 ((FCall (cs9 hbs) f_load_together [A2] A5 []) ∧
 ((FCall (cs9 hbs) f_slices_Clone_api_LoadItem_api_LoadItem [(.c A1)] (.c A1) []) ∧
 ((FCall (cs9 hbs) f_slices_Repeat_api_Span_api_Span [(.c (.p (.isl 2 1 (fun x27 => (fun x28 => (List.getD [(.int .i64 u), (.int .i64 v)] ((x27 * 2) + x28) .npt)))))), (vN nf)] (.c (.p (.isl 2 nf (S.val (S.two u v))))) []) ∧
 (CdP (.le I I)
 (CdP (.le I I)
 (CdP (.le ((I + 1) * 72) 140737488355328)
 (CdP (.i64 ((0 : Int) - (q i 2)))
 (CdP (.i64 ((0 : Int) - (q i 1)))
 ((FCall (cs9 hbs) f_load_together [A0] (.ag A3) []) ∧
 ((FCall (cs9 hbs) f_load_together [A7] (.ag A14) []) ∧
 ((FCall (cs9 hbs) f_slices_Clone_api_LoadItem_api_LoadItem [(.c A1)] (.c A1) []) ∧
 ((FCall (cs9 hbs) f_slices_Repeat_api_Span_api_Span [(.c (.p (.isl 2 1 (fun x27 => (fun x28 => (List.getD [(.int .i64 (u + (q i 3))), (.int .i64 (v + (q i 4)))] ((x27 * 2) + x28) .npt)))))), (vN nf)] (.c (.p (.isl 2 nf (S.val (S.two (u + (q i 3)) (v + (q i 4))))))) []) ∧
 (CdP (.le (I + 1) (I + 1))
 (CdP (.le (I + 1) (I + 1))
 (CdP (.le (((I + 1) + 1) * 72) 140737488355328)
 (CdP (.i64 ((i : Int) + (1 : Int)))
 (Q .normal ⟨(L4 (L4 (L4 (.nd (L4 (L1 A2) (L1 A0)) (vT 2 0) (.nd (L1 (vT 7 4)) (vB false) (L1 (vT 7 0)))) A11) (L4 (.nd (.nd (L1 (.c (.ref 5))) (vJ (K0 : Int)) (L1 (.ag [(cJ u), (cJ v)]))) (vT 4 0) A15) (L4 (.nd (L1 A5) A12 (L1 (.ag A14))) A18))) (L4 (L4 (.nd (.nd (L1 A5) A13 (L1 (.ag A3))) (vT 3 0) (L4 (L1 (vJ (q i 2))) (L1 (.c A1)))) (.nd (.nd (L1 (.tp [])) (.c (.p (.ipt 7 (S.legV k li q pu i)))) (L1 A7)) (vT 7 0) (L6 (L1 (vJ (q i 1))) (vT 7 2)))) A4)), [A16, none, A17, (some (.box t_api_Span A3)), (some (.box t_api_Span A14)), A8, A19, A9, (some (.arr 5 62 (I + 1) (fun x27 => (fun x28 => (if (x27 < I) then (g x27 x28) else (List.getD [(.isl 3 (k i) (S.val (li i))), (.int .i64 (x + (q i 0))), (.int .i64 (y + (q i 0))), (.isl 2 nf (S.val (S.two u v))), (.bool false)] (((x27 - I) * 5) + x28) .npt)))) [6])), (some (.arr 5 62 ((I + 1) + 1) (fun x27 => (fun x28 => (if (x27 < (I + 1)) then (if (x27 < I) then (g x27 x28) else (List.getD [(.isl 3 (k i) (S.val (li i))), (.int .i64 (x + (q i 0))), (.int .i64 (y + (q i 0))), (.isl 2 nf (S.val (S.two u v))), (.bool false)] (((x27 - I) * 5) + x28) .npt)) else (List.getD [(.isl 3 (k i) (S.val (li i))), (.int .i64 ((x + (q i 0)) + ((0 : Int) - (q i 2)))), (.int .i64 ((y + (q i 0)) + ((0 : Int) - (q i 1)))), (.isl 2 nf (S.val (S.two (u + (q i 3)) (v + (q i 4))))), (.bool true)] (((x27 - (I + 1)) * 5) + x28) .npt)))) [8, 6]))]⟩)))))))))))))))))))
 (Q (.exit 0) ⟨(L4 (L4 (L4 (L1 (vT 2 0)) (L3 (L1 (vB false)))) (L3 (L6 (L1 (vJ (K0 : Int))) (vT 4 0)))) (L4 (L3 (L6 (L1 A13) (vT 3 0))) (L3 (L6 (L1 (vN i)) (.c (.ref 5)))))), [A16, none, (some (.box t_sl_api_LoadPoint [(.sl 6 0 I)])), (some (.box t_api_Span [(cJ x), (cJ y)])), (some (.box t_api_Span [(cJ u), (cJ v)])), A8, A19]⟩)))) (some (.arr 5 62 I g [])))) (L6 (L1 (vJ ((0 : Int) - (q i 1)))) (vJ (q i 0))))) (some (.box t_sl_api_LoadPoint [(.sl 9 0 ((I + 1) + 1))])))) (bP e mo t l nc c ns s ta tm r nf f))) (.nd (L1 (vJ ((0 : Int) - (q i 2)))) (.ag [(cJ x), (cJ y)]) (L1 (.tp []))))) [(cJ (u + (q i 3))), (cJ (v + (q i 4)))])) (.c (.p (.isl 7 K0 (S.legV k li q pu)))))) (.ag [A1, (.p (.bool (pu i))), (cJ (q i 0)), (cJ (q i 1)), (cJ (q i 2)), (cJ (q i 3)), (cJ (q i 4))]))) (L4 (.nd (L1 (.c A1)) (vB true) (L1 (.ag [(cJ (q i 3)), (cJ (q i 4))]))) (L6 (L1 (vT 7 3)) (vJ (q i 0)))))) [(cJ ((0 : Int) + (q i 3))), (cJ ((0 : Int) + (q i 4)))])) (some (.box t_api_LoadLeg [A1, (.p (.bool (pu i))), (cJ (q i 0)), (cJ (q i 1)), (cJ (q i 2)), (cJ (q i 3)), (cJ (q i 4))])))) (some (.clo f_load_pointsOf_1 [] [(vT 2 0), (vT 3 0), (vT 4 0), (vT 0 0)])))) (.c (.p (.isl 2 2 (fun x27 => (fun x28 => (List.getD [(.int .i64 u), (.int .i64 v), (.int .i64 (q i 3)), (.int .i64 (q i 4))] ((x27 * 2) + x28) .npt)))))))) (.c (.p (.isl 2 2 (fun x27 => (fun x28 => (List.getD [(.int .i64 (0 : Int)), (.int .i64 (0 : Int)), (.int .i64 (q i 3)), (.int .i64 (q i 4))] ((x27 * 2) + x28) .npt)))))))) (.ag [(cJ (x + (q i 0))), (cJ (y + (q i 0)))]))) (L4 (.nd (.nd (L1 (vT 7 0)) (vJ ((i : Int) + (1 : Int))) (L1 (vT 7 5))) (.c (.ref 5)) (.nd (L1 (vT 7 3)) (vT 7 2) (L1 (vJ ((i : Int) + (1 : Int)))))) (L4 (.nd (L1 (vT 7 3)) (vT 7 1) (L1 (.c (.ref 5)))) (L6 (L1 (.ag [(cJ ((0 : Int) - (q i 2))), (cJ ((0 : Int) - (q i 1)))])) (.ag [(cJ (q i 0)), (cJ (q i 0))])))))) [(cJ ((x + (q i 0)) + ((0 : Int) - (q i 2)))), (cJ ((y + (q i 0)) + ((0 : Int) - (q i 1))))])) (.c (.p (.isl 2 2 (fun x27 => (fun x28 => (List.getD [(.int .i64 x), (.int .i64 y), (.int .i64 (q i 0)), (.int .i64 (q i 0))] ((x27 * 2) + x28) .npt)))))))) (.p (.isl 3 (k i) (S.val (li i)))))) (.c (.p (.isl 2 2 (fun x27 => (fun x28 => (List.getD [(.int .i64 (x + (q i 0))), (.int .i64 (y + (q i 0))), (.int .i64 ((0 : Int) - (q i 2))), (.int .i64 ((0 : Int) - (q i 1)))] ((x27 * 2) + x28) .npt))))))) = (ex (cs9 hbs) (fu + 60) 0 m_load_pointsOf_l1 ⟨setAll [(.o (.o (.o .h)), .c (.pt 2 0)), (.o (.i (.o .h)), .c (.pt 4 0)), (.o (.i (.o (.o .h))), .c (cJ K0)), (.i (.o (.o .h)), .c (.pt 3 0)), (.i (.o (.o (.o .h))), .c (.p (.isl 7 K0 (S.legV k li q pu)))), (.i (.i (.o .h)), .c (.ref 5)), (.i (.i (.o (.o .h))), .c (cJ i))], [some (.box t_api_Plane (plC e mo t l nc (S.val c) ns (S.val s) ta tm r nf (S.val f))), none, some (.box t_sl_api_LoadPoint [.sl 6 0 I]), some (.box t_api_Span [.p (.int .i64 x), .p (.int .i64 y)]), some (.box t_api_Span [.p (.int .i64 u), .p (.int .i64 v)]), some (.clo f_load_pointsOf_1 [] [.c (.pt 2 0), .c (.pt 3 0), .c (.pt 4 0), .c (.pt 0 0)]), some (.arr 5 t_api_LoadPoint I g [])]⟩ (fun e s => .pr (Q e s))).hold2 := by kernel_rfl
theorem vc_load_pointsOf (e mo t l : Int) (nc : Nat) (c : S.Rows) (ns : Nat) (s : S.Rows) (ta tm r : Int) (nf : Nat) (f : S.Rows) (a b : Int) (K0 : Nat) (k : Nat → Nat) (li : Nat → S.Rows) (q : S.Rows) (pu : Nat → Bool) (Q : AV → Heap → Prop) :
 ((fun (A0 : Heap) => (((LoopGo (ex (cs9 hbs) 992) 0 m_load_pointsOf_l1 ⟨(.nd (.nd (L6 (L6 (L1 (.c (.ref 5))) (vT 2 0)) (vT 0 0)) (.ag [(cJ a), (cJ b)]) (L4 (L6 (L1 (vJ (K0 : Int))) (vT 4 0)) (L1 (.ag [(cJ a), (cJ b)])))) (.ag (kP e mo t l nc c ns s ta tm r nf f)) (.nd (L6 (L6 (L1 (.c (.p (.isl 7 K0 (S.legV k li q pu))))) (vT 3 0)) (vT 1 0)) (.c (.p (.isl 7 K0 (S.legV k li q pu)))) (.nd (L6 (L1 (vJ 0)) (.c (.ref 5))) (.c (.p .nsl)) (L1 (.ag [(cJ 0), (cJ 0)]))))), [(bP e mo t l nc c ns s ta tm r nf f), (some (.box t_api_Span [(cJ a), (cJ b)])), (some (.box t_sl_api_LoadPoint [(.p .nsl)])), (some (.box t_api_Span [(cJ a), (cJ b)])), (some (.box t_api_Span [(cJ 0), (cJ 0)])), (some (.clo f_load_pointsOf_1 [] [(vT 2 0), (vT 3 0), (vT 4 0), (vT 0 0)]))]⟩ (.e (.exit 0) ⟨(L3 (L3 (L3 (L1 (vT 2 0))))), A0⟩)) ∧
 (Q (.c (.sl 6 0 (2 * K0))) A0)))) [(bP e mo t l nc c ns s ta tm r nf f), none, (some (.box t_sl_api_LoadPoint [(.sl 6 0 (2 * K0))])), none, none, none, (some (.arr 5 62 (2 * K0) (S.ptV a b nf (S.legV k li q pu)) []))]) = (ex (cs9 hbs) 1000 0 m_load_pointsOf ⟨ofL 0 [.ag (plC e mo t l nc (S.val c) ns (S.val s) ta tm r nf (S.val f)), .ag [.p (.int .i64 a), .p (.int .i64 b)], .c (.p (.isl 7 K0 (S.legV k li q pu)))] .lf, []⟩ (endK F_load_pointsOf.rs (fun r H => .pr (Q r H)) fun _ _ => .no)).hold2 := by kernel_rfl
end
end Go.Ab.B
namespace Go.Ab.S
theorem ptV_even (a b : Int) (nf : Nat) (g : Nat → Nat → PV) (i x : Nat) : ptV a b nf g (2 * i) x = ([.isl 3 (lN (g i 0)) (val (lR (g i 0))), .int .i64 (tkL a g i + lI (g i 2)), .int .i64 (tkH b g i + lI (g i 2)), .isl 2 nf (val (two (pmp (lB (g i 1)) (wtL g i)) (pmp (lB (g i 1)) (wtH g i)))), .bool false] : List PV).getD (0 + x) .npt := by
  have h1 : 2 * i / 2 = i := by omega
  have h2 : lnd (2 * i) = false := by unfold lnd; rw [show 2 * i % 2 = 0 by omega]; rfl
  simp only [ptV, ptL, ptH, pwL, pwH, h1, h2]
theorem ptV_odd (a b : Int) (nf : Nat) (g : Nat → Nat → PV) (i x : Nat) : ptV a b nf g (2 * i + 1) x = ([.isl 3 (lN (g i 0)) (val (lR (g i 0))), .int .i64 (tkL a g (i + 1)), .int .i64 (tkH b g (i + 1)), .isl 2 nf (val (two (wtL g (i + 1)) (wtH g (i + 1)))), .bool true] : List PV).getD (0 + x) .npt := by
  have h1 : (2 * i + 1) / 2 = i := by omega
  have h2 : lnd (2 * i + 1) = true := by unfold lnd; rw [show (2 * i + 1) % 2 = 1 by omega]; rfl
  simp only [ptV, ptL, ptH, pwL, pwH, h1, h2]
theorem pts_step {a b : Int} {nf : Nat} {k : Nat → Nat} {li : Nat → Rows} {q : Rows} {pu : Nat → Bool} {i : Nat} {w0 w1 : Int} (h0 : pmp (pu i) (wtL (legV k li q pu) i) = w0) (h1 : pmp (pu i) (wtH (legV k li q pu) i) = w1) (j x : Nat) (hj : j < 2 * i + 1 + 1) :
    (if j < 2 * i + 1 then (if j < 2 * i then ptV a b nf (legV k li q pu) j x else (List.getD [.isl 3 (k i) (val (li i)), .int .i64 (tkL a (legV k li q pu) i + q i 0), .int .i64 (tkH b (legV k li q pu) i + q i 0), .isl 2 nf (val (two w0 w1)), .bool false] ((j - 2 * i) * 5 + x) .npt : PV))
      else (List.getD [.isl 3 (k i) (val (li i)), .int .i64 (tkL a (legV k li q pu) i + q i 0 + (0 - q i 2)), .int .i64 (tkH b (legV k li q pu) i + q i 0 + (0 - q i 1)), .isl 2 nf (val (two (w0 + q i 3) (w1 + q i 4))), .bool true] ((j - (2 * i + 1)) * 5 + x) .npt : PV)) = ptV a b nf (legV k li q pu) j x := by
  by_cases h2 : j < 2 * i
  · rw [if_pos (by omega), if_pos h2]
  · by_cases h3 : j < 2 * i + 1
    · obtain rfl : j = 2 * i := by omega
      rw [if_pos h3, if_neg h2, ptV_even, show (2 * i - 2 * i) * 5 + x = 0 + x by omega, ← h0, ← h1]
      rfl
    · obtain rfl : j = 2 * i + 1 := by omega
      rw [if_neg h3, ptV_odd, show (2 * i + 1 - (2 * i + 1)) * 5 + x = 0 + x by omega, ← h0, ← h1]
      rfl
theorem tk_in {a b : Int} {g : Nat → Nat → PV} {K0 : Nat} (ha : -1000000 ≤ a ∧ a ≤ 1000000) (hb : -1000000 ≤ b ∧ b ≤ 1000000) (hq : ∀ i j, i < K0 → -1000000 ≤ lI (g i j) ∧ lI (g i j) ≤ 1000000) : ∀ (i : Nat), i ≤ K0 → (-1000000 - 2000000 * (i : Int) ≤ tkL a g i ∧ tkL a g i ≤ 1000000 + 2000000 * (i : Int)) ∧ (-1000000 - 2000000 * (i : Int) ≤ tkH b g i ∧ tkH b g i ≤ 1000000 + 2000000 * (i : Int)) ∧ (-1000000 - 2000000 * (i : Int) ≤ wtL g i ∧ wtL g i ≤ 1000000 + 2000000 * (i : Int)) ∧ (-1000000 - 2000000 * (i : Int) ≤ wtH g i ∧ wtH g i ≤ 1000000 + 2000000 * (i : Int))
  | 0, _ => by simp only [tkL, tkH, wtL, wtH]; omega
  | i + 1, hi => by
    have ih := tk_in ha hb hq i (by omega)
    have h2 := hq i 2 (by omega)
    have h3 := hq i 3 (by omega)
    have h4 := hq i 4 (by omega)
    have h5 := hq i 5 (by omega)
    have h6 := hq i 6 (by omega)
    have p1 : pmp (lB (g i 1)) (wtL g i) = 0 ∨ pmp (lB (g i 1)) (wtL g i) = wtL g i := by cases lB (g i 1); exact .inr rfl; exact .inl rfl
    have p2 : pmp (lB (g i 1)) (wtH g i) = 0 ∨ pmp (lB (g i 1)) (wtH g i) = wtH g i := by cases lB (g i 1); exact .inr rfl; exact .inl rfl
    simp only [tkL, tkH, wtL, wtH]
    omega
end Go.Ab.S
namespace Go.Ab.B
open Go.Proofs
section
variable {hbs : BsOk Tryd.prog} (hT4 : TabOk (cs4 hbs)) (hT7 : TabOk (cs7 hbs)) (hT9 : TabOk (cs9 hbs))
include hT7 in
theorem fc9_Repeat (lo hi : Int) (k : Nat) (hk : k ≤ 2) : FCall (cs9 hbs) f_slices_Repeat_api_Span_api_Span [.c (.p (.isl 2 1 (fun i j => ([.int .i64 lo, .int .i64 hi] : List PV).getD (i * 2 + j) .npt))), .c (.p (.int .i64 k))] (.c (.p (.isl 2 k (S.val (S.two lo hi))))) [] := by
  have F := fc_Repeat hT7 (S.two lo hi) k hk
  have F := FCall.like (args := [.c (.p (.isl 2 1 (fun i j => ([.int .i64 lo, .int .i64 hi] : List PV).getD (i * 2 + j) .npt))), .c (.p (.int .i64 k))]) F ⟨.inr ⟨rfl, rfl, fun i j hi hj => by
    obtain rfl : i = 0 := by omega
    match j, hj with
    | 0, _ => rfl
    | 1, _ => rfl⟩, .inl rfl, trivial⟩
  exact FCall.cfg (C := cs7 hbs) (C' := cs9 hbs) rfl rfl F
include hT7 in
theorem fc9_Clone3 (n : Nat) (c : S.Rows) (hn : n ≤ 1000000) : FCall (cs9 hbs) f_slices_Clone_api_LoadItem_api_LoadItem [.c (.p (.isl 3 n (S.val c)))] (.c (.p (.isl 3 n (S.val c)))) [] :=
  FCall.cfg (C := cs7 hbs) (C' := cs9 hbs) rfl rfl (fc_Clone3 hT7 n c hn)
include hT4 in
theorem fc9_together (a b c d : Int) (ha : -1000000000000 ≤ a ∧ a ≤ 1000000000000) (hb : -1000000000000 ≤ b ∧ b ≤ 1000000000000) (hc : -1000000000000 ≤ c ∧ c ≤ 1000000000000) (hd : -1000000000000 ≤ d ∧ d ≤ 1000000000000) :
    FCall (cs9 hbs) f_load_together [.c (.p (.isl 2 2 (fun i j => ([.int .i64 a, .int .i64 b, .int .i64 c, .int .i64 d] : List PV).getD (i * 2 + j) .npt)))] (.ag [.p (.int .i64 (a + c)), .p (.int .i64 (b + d))]) [] :=
  FCall.cfg (C := cs4 hbs) (C' := cs9 hbs) rfl rfl (fc_load_together hT4 a b c d ha hb hc hd)
abbrev lvP (K0 : Nat) (k : Nat → Nat) (li : Nat → S.Rows) (q : S.Rows) (pu : Nat → Bool) (i : Nat) : List (Ps × AV) := [(.o (.o (.o .h)), .c (.pt 2 0)), (.o (.i (.o .h)), .c (.pt 4 0)), (.o (.i (.o (.o .h))), .c (.p (.int .i64 K0))), (.i (.o (.o .h)), .c (.pt 3 0)), (.i (.o (.o (.o .h))), .c (.p (.isl 7 K0 (S.legV k li q pu)))), (.i (.i (.o .h)), .c (.ref 5)), (.i (.i (.o (.o .h))), .c (.p (.int .i64 i)))]
abbrev hpP (e mo t l : Int) (nc : Nat) (c : S.Rows) (ns : Nat) (s : S.Rows) (ta tm r : Int) (nf : Nat) (f : S.Rows) (a b : Int) (k : Nat → Nat) (li : Nat → S.Rows) (q : S.Rows) (pu : Nat → Bool) (i : Nat) : Heap :=
  [PB e mo t l nc c ns s ta tm r nf f, none, some (.box t_sl_api_LoadPoint [.sl 6 0 (2 * i)]), some (.box t_api_Span [.p (.int .i64 (S.tkL a (S.legV k li q pu) i)), .p (.int .i64 (S.tkH b (S.legV k li q pu) i))]), some (.box t_api_Span [.p (.int .i64 (S.wtL (S.legV k li q pu) i)), .p (.int .i64 (S.wtH (S.legV k li q pu) i))]), some (.clo f_load_pointsOf_1 [] [.c (.pt 2 0), .c (.pt 3 0), .c (.pt 4 0), .c (.pt 0 0)]), some (.arr 5 t_api_LoadPoint (2 * i) (S.ptV a b nf (S.legV k li q pu)) [])]
abbrev trP (e mo t l : Int) (nc : Nat) (c : S.Rows) (ns : Nat) (s : S.Rows) (ta tm r : Int) (nf : Nat) (f : S.Rows) (a b : Int) (K0 : Nat) (k : Nat → Nat) (li : Nat → S.Rows) (q : S.Rows) (pu : Nat → Bool) : LTree :=
  .e (.exit 0) ⟨setAll [(.o (.o (.o .h)), .c (.pt 2 0))], [PB e mo t l nc c ns s ta tm r nf f, none, some (.box t_sl_api_LoadPoint [.sl 6 0 (2 * K0)]), none, none, none, some (.arr 5 t_api_LoadPoint (2 * K0) (S.ptV a b nf (S.legV k li q pu)) [])]⟩
include hT4 hT7 in
theorem go_load_pointsOf (fu : Nat) (e mo t l : Int) (nc : Nat) (c : S.Rows) (ns : Nat) (s : S.Rows) (ta tm r : Int) (nf : Nat) (f : S.Rows) (a b : Int) (K0 : Nat) (k : Nat → Nat) (li : Nat → S.Rows) (q : S.Rows) (pu : Nat → Bool) (hnf : nf ≤ 2) (hK : K0 ≤ 1000) (hk : ∀ i, i < K0 → k i ≤ 1000000) (ha : -1000000 ≤ a ∧ a ≤ 1000000) (hb : -1000000 ≤ b ∧ b ≤ 1000000) (hq : ∀ i j, i < K0 → -1000000 ≤ S.lI ((S.legV k li q pu) i j) ∧ S.lI ((S.legV k li q pu) i j) ≤ 1000000) :
    ∀ (i : Nat) (st : St), i ≤ K0 → (∃ ρ, HasR 0 ρ st (lvP K0 k li q pu i) (hpP e mo t l nc c ns s ta tm r nf f a b k li q pu i)) → LoopGo (ex (cs9 hbs) (fu + 60)) 0 m_load_pointsOf_l1 st (trP e mo t l nc c ns s ta tm r nf f a b K0 k li q pu) :=
  loop_kR (σ := Nat) (lvP K0 k li q pu) (hpP e mo t l nc c ns s ta tm r nf f a b k li q pu) (fun i => i ≤ K0) (fun i => K0 - i) (fun _ => trP e mo t l nc c ns s ta tm r nf f a b K0 k li q pu) _ (fun i Q => vs_load_pointsOf (hbs := hbs) fu i (2 * i) e mo t l nc c ns s ta tm r nf f (S.tkL a (S.legV k li q pu) i) (S.tkH b (S.legV k li q pu) i) (S.wtL (S.legV k li q pu) i) (S.wtH (S.legV k li q pu) i) K0 k li q pu (S.ptV a b nf (S.legV k li q pu)) Q) fun i hi' K hL X hX => by
      refine brP (fun h1 => ?_) fun h1 => ?_
      · have hlt : i < K0 := by simpa using h1
        have ht := S.tk_in ha hb hq i hi'
        have ht1 := S.tk_in ha hb hq (i + 1) hlt
        have q0 : -1000000 ≤ q i 0 ∧ q i 0 ≤ 1000000 := hq i 2 hlt
        have q1 : -1000000 ≤ q i 1 ∧ q i 1 ≤ 1000000 := hq i 3 hlt
        have q2 : -1000000 ≤ q i 2 ∧ q i 2 ≤ 1000000 := hq i 4 hlt
        have q3 : -1000000 ≤ q i 3 ∧ q i 3 ≤ 1000000 := hq i 5 hlt
        have q4 : -1000000 ≤ q i 4 ∧ q i 4 ≤ 1000000 := hq i 6 hlt
        have c1 := fc9_Clone3 (hbs := hbs) hT7 (k i) (li i) (hk i hlt)
        refine cdP (idx_ok hlt) (brP (fun hp => ?_) fun hp => ?_)
        · refine ⟨fc9_together hT4 _ _ _ _ (by omega) (by omega) (by omega) (by omega), c1, fc9_Repeat hT7 _ _ nf hnf, cdP (Nat.le_refl _) (cdP (Nat.le_refl _) (cdP (by simp [Cd.holds]; omega) (cdP (i64_of (by omega) (by omega)) (cdP (i64_of (by omega) (by omega)) ⟨fc9_together hT4 _ _ _ _ (by omega) (by omega) (by omega) (by omega), fc9_together hT4 _ _ _ _ (by omega) (by omega) (by omega) (by omega), c1, fc9_Repeat hT7 _ _ nf hnf, cdP (Nat.le_refl _) (cdP (Nat.le_refl _) (cdP (by simp [Cd.holds]; omega) (cdP (by simp [Cd.holds]; omega) ?_)))⟩))))⟩
          refine hX (i + 1) _ (by omega) (by omega) ⟨[some 0, none, some 2, some 3, some 4, some 5, some 9], HasR.mk _ rfl rfl ?_ ?_⟩ hL
          · have hst := S.pts_step (a := a) (b := b) (nf := nf) (k := k) (li := li) (q := q) (pu := pu) (i := i) (w0 := 0) (w1 := 0) (by rw [hp]; rfl) (by rw [hp]; rfl)
            have e1 : S.wtL (S.legV k li q pu) (i + 1) = 0 + q i 3 := by show S.pmp (pu i) _ + q i 3 = _; rw [hp]; rfl
            have e2 : S.wtH (S.legV k li q pu) (i + 1) = 0 + q i 4 := by show S.pmp (pu i) _ + q i 4 = _; rw [hp]; rfl
            refine ⟨⟨rfl, ?_⟩, trivial, ⟨rfl, ?_⟩, ⟨rfl, ?_⟩, ⟨rfl, ?_⟩, ?_, ⟨rfl, rfl, rfl, fun j x hj _ => hst j x hj, rfl⟩, trivial⟩
            · simp [WL, WC, WP', plC]
            · simp [WL, WC]; omega
            · exact ⟨.inl rfl, .inl rfl, trivial⟩
            · rw [e1, e2]; exact ⟨.inl rfl, .inl rfl, trivial⟩
            · simp [WB, WAs, WA, WC]
          · simp [LiveR, WA, WC, WP', Tr.get]
        · refine ⟨fc9_together hT4 _ _ _ _ (by omega) (by omega) (by omega) (by omega), c1, fc9_Repeat hT7 _ _ nf hnf, cdP (Nat.le_refl _) (cdP (Nat.le_refl _) (cdP (by simp [Cd.holds]; omega) (cdP (i64_of (by omega) (by omega)) (cdP (i64_of (by omega) (by omega)) ⟨fc9_together hT4 _ _ _ _ (by omega) (by omega) (by omega) (by omega), fc9_together hT4 _ _ _ _ (by omega) (by omega) (by omega) (by omega), c1, fc9_Repeat hT7 _ _ nf hnf, cdP (Nat.le_refl _) (cdP (Nat.le_refl _) (cdP (by simp [Cd.holds]; omega) (cdP (by simp [Cd.holds]; omega) ?_)))⟩))))⟩
          refine hX (i + 1) _ (by omega) (by omega) ⟨[some 0, none, some 2, some 3, some 4, some 5, some 9], HasR.mk _ rfl rfl ?_ ?_⟩ hL
          · have hst := S.pts_step (a := a) (b := b) (nf := nf) (k := k) (li := li) (q := q) (pu := pu) (i := i) (w0 := S.wtL (S.legV k li q pu) i) (w1 := S.wtH (S.legV k li q pu) i) (by rw [hp]; rfl) (by rw [hp]; rfl)
            have e1 : S.wtL (S.legV k li q pu) (i + 1) = S.wtL (S.legV k li q pu) i + q i 3 := by show S.pmp (pu i) _ + q i 3 = _; rw [hp]; rfl
            have e2 : S.wtH (S.legV k li q pu) (i + 1) = S.wtH (S.legV k li q pu) i + q i 4 := by show S.pmp (pu i) _ + q i 4 = _; rw [hp]; rfl
            refine ⟨⟨rfl, ?_⟩, trivial, ⟨rfl, ?_⟩, ⟨rfl, ?_⟩, ⟨rfl, ?_⟩, ?_, ⟨rfl, rfl, rfl, fun j x hj _ => hst j x hj, rfl⟩, trivial⟩
            · simp [WL, WC, WP', plC]
            · simp [WL, WC]; omega
            · exact ⟨.inl rfl, .inl rfl, trivial⟩
            · rw [e1, e2]; exact ⟨.inl rfl, .inl rfl, trivial⟩
            · simp [WB, WAs, WA, WC]
          · simp [LiveR, WA, WC, WP', Tr.get]
      · have hlt : K0 ≤ i := by simpa using h1
        obtain rfl : i = K0 := by omega
        refine HasR.out (l := [(.o (.o (.o .h)), .c (.pt 2 0))]) (HasR.mk (ρ := [some 0, none, some 2, none, none, none, some 6]) rfl rfl ?_ ?_) hL
        · simp [WH, WB, WL, WC, WP', upsB, memB, ptC, plC]
        · simp [LiveR, WA, WC, WP', Tr.get]
include hT4 hT7 hT9 in
theorem fc_load_pointsOf (e mo t l : Int) (nc : Nat) (c : S.Rows) (ns : Nat) (s : S.Rows) (ta tm r : Int) (nf : Nat) (f : S.Rows) (a b : Int) (K0 : Nat) (k : Nat → Nat) (li : Nat → S.Rows) (q : S.Rows) (pu : Nat → Bool) (hnf : nf ≤ 2) (hK : K0 ≤ 1000) (hk : ∀ i, i < K0 → k i ≤ 1000000) (ha : -1000000 ≤ a ∧ a ≤ 1000000) (hb : -1000000 ≤ b ∧ b ≤ 1000000) (hq : ∀ i j, i < K0 → -1000000 ≤ S.lI ((S.legV k li q pu) i j) ∧ S.lI ((S.legV k li q pu) i j) ≤ 1000000) :
    FCall (cs9 hbs) f_load_pointsOf [.ag (plC e mo t l nc (S.val c) ns (S.val s) ta tm r nf (S.val f)), .ag [.p (.int .i64 a), .p (.int .i64 b)], .c (.p (.isl 7 K0 (S.legV k li q pu)))] (.c (.p (.isl 5 (2 * K0) (S.ptV a b nf (S.legV k li q pu))))) [] := by
  have F : FCall (cs9 hbs) f_load_pointsOf [.ag (plC e mo t l nc (S.val c) ns (S.val s) ta tm r nf (S.val f)), .ag [.p (.int .i64 a), .p (.int .i64 b)], .c (.p (.isl 7 K0 (S.legV k li q pu)))] (.c (.p (.isl 5 (2 * K0) fun i j => S.ptV a b nf (S.legV k li q pu) (0 + i) j))) [] :=
    fcall_k hT9 (F := F_load_pointsOf) rfl (vc_load_pointsOf e mo t l nc c ns s ta tm r nf f a b K0 k li q pu _) ⟨go_load_pointsOf hT4 hT7 932 e mo t l nc c ns s ta tm r nf f a b K0 k li q pu hnf hK hk ha hb hq 0 _ (Nat.zero_le _) ⟨[some 0, none, some 2, some 3, some 4, some 5, none], HasR.mk _ rfl rfl ?_ ?_⟩, rfl⟩
  · refine FCall.mono_r F fun w Z φ u hr => ?_
    simp only [RepA, RepC] at hr ⊢
    exact isl_congr (fun i j _ _ => by rw [Nat.zero_add]) hr
  · simp [WH, WB, WL, WC, WP', WAs, WA, upsB, memB, ptC, plC, S.tkL, S.tkH, S.wtL, S.wtH]
  · simp [LiveR, WA, WC, WP', Tr.get]
end
end Go.Ab.B
namespace Go.Ab.S
def ptG (kn : Nat → Nat) (ki : Nat → Rows) (pl ph : Nat → Int) (m : Nat) (kw : Nat → Rows) (kl : Nat → Bool) : Nat → Nat → PV := fun j x => ([.isl 3 (kn j) (val (ki j)), .int .i64 (pl j), .int .i64 (ph j), .isl 2 m (val (kw j)), .bool (kl j)] : List PV).getD (0 + x) .npt
def ruH (e mo t l : Int) (nc : Nat) (c : Rows) (ns : Nat) (s : Rows) (ta tm r : Int) (nf : Nat) (f : Rows) (h : Nat → Nat → PV) (j : Nat) : List (Int × Nat × Rows) :=
  ruP e mo t l nc c ns s ta tm r nf f (lN (h j 0)) (lR (h j 0)) (lI (h j 1)) (lI (h j 2)) (lN (h j 3)) (lR (h j 3)) (lB (h j 4))
def sureH (e mo t l : Int) (nc : Nat) (c : Rows) (ns : Nat) (s : Rows) (ta tm r : Int) (nf : Nat) (f : Rows) (h : Nat → Nat → PV) (j : Nat) : Bool := broR (ruH e mo t l nc c ns s ta tm r nf f h j) == 1
def unA (ok : Bool) (j : Nat) : Int := match ok with | true => -1 | false => j
def unX (ok : Bool) (x y : Int) : Int := match ok with | true => y | false => x
end Go.Ab.S
namespace Go.Ab.B
open Go.Proofs
def sp_load_unsure : List AV → Option (AV × Heap)
  | [.ag [.p (.int .i64 e), .p (.int .i64 mo), .p (.int .i64 t), .p (.int .i64 l), .p (.isl 2 nc c), .p (.isl 2 ns s), .p (.int .i64 ta), .p (.int .i64 tm), .p (.int .i64 r), .p (.isl 2 nf f)], .ag [.p (.int .i64 a), .p (.int .i64 b)], .c (.p (.isl 7 n g))] =>
    let ok := S.from_ (S.sureH e mo t l nc (S.num c) ns (S.num s) ta tm r nf (S.num f) (S.ptV a b nf g)) (2 * n) 0
    let j := S.fst (S.sureH e mo t l nc (S.num c) ns (S.num s) ta tm r nf (S.num f) (S.ptV a b nf g)) (2 * n) 0
    some (.tp [vI .i64 (S.unA ok j), vI .i64 (S.unX ok (S.broR (S.ruH e mo t l nc (S.num c) ns (S.num s) ta tm r nf (S.num f) (S.ptV a b nf g) j)) 1), vI .i64 (S.unX ok (S.broI (S.ruH e mo t l nc (S.num c) ns (S.num s) ta tm r nf (S.num f) (S.ptV a b nf g) j)) 0)], [])
  | _ => none
def Sp10 (f : Nat) (l : List AV) : Option (AV × Heap) := bif Nat.beq f f_load_unsure then sp_load_unsure l else Sp9 f l
def lp_load_unsure (s : St) : Option LTree :=
  match s.h, Tr.get (.i (.o (.o (.o .h)))) s.t with
  | b0 :: _, .c (.p (.isl 5 N h)) => match b0 with
    | some (.box _ [.p (.int .i64 e), .p (.int .i64 mo), .p (.int .i64 t), .p (.int .i64 l), .p (.isl 2 nc c), .p (.isl 2 ns st), .p (.int .i64 ta), .p (.int .i64 tm), .p (.int .i64 r), .p (.isl 2 nf f)]) =>
      some (.br (S.from_ (S.sureH e mo t l nc (S.num c) ns (S.num st) ta tm r nf (S.num f) h) N 0) (.e (.exit 0) ⟨.lf, []⟩)
        (.e .ret ⟨setAll [(.i (.i .h), vI .i64 (S.fst (S.sureH e mo t l nc (S.num c) ns (S.num st) ta tm r nf (S.num f) h) N 0)), (.o (.o (.o .h)), vI .i64 (S.broR (S.ruH e mo t l nc (S.num c) ns (S.num st) ta tm r nf (S.num f) h (S.fst (S.sureH e mo t l nc (S.num c) ns (S.num st) ta tm r nf (S.num f) h) N 0)))), (.i (.o (.o .h)), vI .i64 (S.broI (S.ruH e mo t l nc (S.num c) ns (S.num st) ta tm r nf (S.num f) h (S.fst (S.sureH e mo t l nc (S.num c) ns (S.num st) ta tm r nf (S.num f) h) N 0))))], []⟩))
    | _ => none
  | _, _ => none
def Lp10 (n0 : Nat) (a : MC) (s : St) : Option LTree := bif Nat.beq (keyM a 0) key_load_unsure_l1 then lp_load_unsure s else Lp9 n0 a s
def cs10 {P : Program} (hbs : BsOk P) : Cfg := { cs9 hbs with Sp := Sp10, Lp := Lp10 }
section
variable {hbs : BsOk Tryd.prog}
theorem vs_load_unsure (fu i : Nat) (e mo t l : Int) (nc : Nat) (c : S.Rows) (ns : Nat) (s : S.Rows) (ta tm r : Int) (nf : Nat) (f : S.Rows) (N : Nat) (kn : Nat → Nat) (ki : Nat → S.Rows) (pl ph : Nat → Int) (m : Nat) (kw : Nat → S.Rows) (kl : Nat → Bool) (Q : AX → St → Prop) :
 ((fun (A0 : AV) => ((fun (A1 : AV) => ((fun (A2 : List CV) => ((fun (A3 : AV) => ((fun (A4 : AV) => ((fun (A5 : AV) => ((fun (A6 : Heap) => ((fun (A7 : Tr) => ((fun (A8 : Tr) => ((BrP (decide ((i : Int) < (N : Int)))
 (CdP (.rng (i : Int) N)
 ((FCall (cs10 hbs) f_load_lookAt [A5, (.ag A2)] A3 []) ∧
 ((FCall (cs10 hbs) f_load_look_broken [A3] (.tp [A0, A1]) []) ∧
 (BrP ((S.broR (S.rules e mo t l nc c ns s tm r nf f (kn i) (ki i) (pl i) (ph i) (kw i) (kl i) (((kn i) + 1) + m) (S.parts (kn i) (ki i) s (pl i) (ph i) ta (kw i) f))) != (1 : Int))
 (Q .ret ⟨(L4 (L4 (.nd (.nd (L3 (L1 (vB true))) A0 A8) (vT 0 0) (.nd (L1 (vB true)) A0 A8)) (L4 (.nd (L6 (L1 A0) (vJ (N : Int))) (vN i) (L1 (.ag A2))) A7)) (L4 (L4 (.nd (L6 (L1 (vN i)) A4) A1 (L1 A5)) (.nd (L1 (vN i)) A1 (L1 A0))) (.nd (.nd (L6 (L1 A1) (vN i)) (vT 1 0) (L1 A3)) (vN i) (L4 (L1 (.ag A2)) (L1 A0))))), A6⟩)
 (CdP (.i64 ((i : Int) + (1 : Int)))
 (Q .normal ⟨(L4 (L4 (.nd (L4 (L3 (L1 (vB false))) A8) (vT 0 0) (.nd (L6 (L1 (vJ ((i : Int) + (1 : Int)))) (vB true)) A0 A8)) (L4 (.nd (L1 (vJ (N : Int))) (vN i) (L1 (.ag A2))) A7)) (L4 (L4 (L4 (L1 A4) (L1 A5)) (.nd (L1 (vN i)) A1 (L1 A0))) (L4 (.nd (L1 (vJ ((i : Int) + (1 : Int)))) (vT 1 0) (L1 A3)) (L4 (L1 (.ag A2)) (L1 A0))))), A6⟩))))))
 (Q (.exit 0) ⟨(L4 (L4 (L5 (vT 0 0) (L3 (L1 (vB false)))) (L3 (L3 (L1 (vJ (N : Int)))))) (L4 (L3 (L3 (L1 A4))) (L3 (L3 (L1 (vN i)))))), [(bP e mo t l nc c ns s ta tm r nf f)]⟩)))) (L1 (.tp [A0, A1])))) (L4 (L1 (.c (.p (.ipt 5 (S.ptG kn ki pl ph m kw kl i))))) (L1 A1)))) [(bP e mo t l nc c ns s ta tm r nf f), (some (.box t_api_LoadPoint A2))])) (.ag (kP e mo t l nc c ns s ta tm r nf f)))) (.c (.p (.isl 5 N (S.ptG kn ki pl ph m kw kl)))))) (.c (.p (.ipt 16 (S.lk e mo t l nc c ns s ta tm r nf f (kn i) (ki i) (pl i) (ph i) m (kw i) (kl i) (((kn i) + 1) + m) (S.parts (kn i) (ki i) s (pl i) (ph i) ta (kw i) f))))))) [(.p (.isl 3 (kn i) (S.val (ki i)))), (cJ (pl i)), (cJ (ph i)), (.p (.isl 2 m (S.val (kw i)))), (.p (.bool (kl i)))])) (vJ (S.broI (S.rules e mo t l nc c ns s tm r nf f (kn i) (ki i) (pl i) (ph i) (kw i) (kl i) (((kn i) + 1) + m) (S.parts (kn i) (ki i) s (pl i) (ph i) ta (kw i) f)))))) (vJ (S.broR (S.rules e mo t l nc c ns s tm r nf f (kn i) (ki i) (pl i) (ph i) (kw i) (kl i) (((kn i) + 1) + m) (S.parts (kn i) (ki i) s (pl i) (ph i) ta (kw i) f))))) = (ex (cs10 hbs) (fu + 60) 0 m_load_unsure_l1 ⟨setAll [(.o (.o .h), .c (.pt 0 0)), (.o (.i (.o (.o .h))), .c (cJ N)), (.i (.o (.o (.o .h))), .c (.p (.isl 5 N (S.ptG kn ki pl ph m kw kl)))), (.i (.i (.o (.o .h))), .c (cJ i))], [some (.box t_api_Plane (plC e mo t l nc (S.val c) ns (S.val s) ta tm r nf (S.val f)))]⟩ (fun e s => .pr (Q e s))).hold2 := by kernel_rfl
theorem vc_load_unsure (e mo t l : Int) (nc : Nat) (c : S.Rows) (ns : Nat) (s : S.Rows) (ta tm r : Int) (nf : Nat) (f : S.Rows) (a b : Int) (K0 : Nat) (k : Nat → Nat) (li : Nat → S.Rows) (q : S.Rows) (pu : Nat → Bool) (Q : AV → Heap → Prop) :
 ((fun (A0 : AV) => ((fun (A1 : AV) => ((fun (A2 : AV) => ((fun (A3 : AV) => ((fun (A4 : AV) => ((fun (A5 : AV) => (((FCall (cs10 hbs) f_load_pointsOf [A3, (.ag [(cJ a), (cJ b)]), A4] A5 []) ∧
 ((LoopGo (ex (cs10 hbs) 995) 0 m_load_unsure_l1 ⟨(.nd (.nd (L6 (L6 (L1 A4) (vJ 0)) (vT 0 0)) (.ag [(cJ a), (cJ b)]) (L4 (L3 (L1 (vJ (((2 * K0) : Nat) : Int)))) (L1 A3))) A3 (.nd (L6 (L6 (L1 A5) (vJ 0)) (vT 1 0)) A4 (.nd (L3 (L1 (vJ 0))) (vJ 0) (L1 (.ag [(cJ a), (cJ b)]))))), [(bP e mo t l nc c ns s ta tm r nf f), (some (.box t_api_Span [(cJ a), (cJ b)]))]⟩ (.br (S.from_ (S.sureH e mo t l nc c ns s ta tm r nf f (S.ptV a b nf (S.legV k li q pu))) (2 * K0) 0) (.e (.exit 0) ⟨.lf, []⟩) (.e .ret ⟨(L4 (L3 (L3 (L1 A0))) (L4 (L3 (L1 A1)) (L1 A2))), []⟩))) ∧
 (BrP (S.from_ (S.sureH e mo t l nc c ns s ta tm r nf f (S.ptV a b nf (S.legV k li q pu))) (2 * K0) 0)
 (Q (.tp [(vJ (-(1 : Int))), (vJ 1), (vJ 0)]) [])
 (Q (.tp [A2, A0, A1]) [])))))) (.c (.p (.isl 5 (2 * K0) (S.ptV a b nf (S.legV k li q pu))))))) (.c (.p (.isl 7 K0 (S.legV k li q pu)))))) (.ag (kP e mo t l nc c ns s ta tm r nf f)))) (vJ (((S.fst (S.sureH e mo t l nc c ns s ta tm r nf f (S.ptV a b nf (S.legV k li q pu))) (2 * K0) 0) : Nat) : Int)))) (vJ (S.broI (S.ruH e mo t l nc c ns s ta tm r nf f (S.ptV a b nf (S.legV k li q pu)) (S.fst (S.sureH e mo t l nc c ns s ta tm r nf f (S.ptV a b nf (S.legV k li q pu))) (2 * K0) 0)))))) (vJ (S.broR (S.ruH e mo t l nc c ns s ta tm r nf f (S.ptV a b nf (S.legV k li q pu)) (S.fst (S.sureH e mo t l nc c ns s ta tm r nf f (S.ptV a b nf (S.legV k li q pu))) (2 * K0) 0))))) = (ex (cs10 hbs) 1000 0 m_load_unsure ⟨ofL 0 [.ag (plC e mo t l nc (S.val c) ns (S.val s) ta tm r nf (S.val f)), .ag [.p (.int .i64 a), .p (.int .i64 b)], .c (.p (.isl 7 K0 (S.legV k li q pu)))] .lf, []⟩ (endK F_load_unsure.rs (fun r H => .pr (Q r H)) fun _ _ => .no)).hold2 := by kernel_rfl
end
section
variable {hbs : BsOk Tryd.prog} (hT : TabOk (cs hbs)) (hT3 : TabOk (cs3 hbs)) (hT4 : TabOk (cs4 hbs)) (hT7 : TabOk (cs7 hbs)) (hT9 : TabOk (cs9 hbs)) (hT10 : TabOk (cs10 hbs))
abbrev lvU (N : Nat) (h : Nat → Nat → PV) (i : Nat) : List (Ps × AV) := [(.o (.o .h), .c (.pt 0 0)), (.o (.i (.o (.o .h))), .c (.p (.int .i64 N))), (.i (.o (.o (.o .h))), .c (.p (.isl 5 N h))), (.i (.i (.o (.o .h))), .c (.p (.int .i64 i)))]
abbrev trU (e mo t l : Int) (nc : Nat) (c : S.Rows) (ns : Nat) (s : S.Rows) (ta tm r : Int) (nf : Nat) (f : S.Rows) (N : Nat) (h : Nat → Nat → PV) (i : Nat) : LTree := .br (S.from_ (S.sureH e mo t l nc c ns s ta tm r nf f h) N i) (.e (.exit 0) ⟨.lf, []⟩)
  (.e .ret ⟨setAll [(.i (.i .h), vI .i64 (S.fst (S.sureH e mo t l nc c ns s ta tm r nf f h) N i)), (.o (.o (.o .h)), vI .i64 (S.broR (S.ruH e mo t l nc c ns s ta tm r nf f h (S.fst (S.sureH e mo t l nc c ns s ta tm r nf f h) N i)))), (.i (.o (.o .h)), vI .i64 (S.broI (S.ruH e mo t l nc c ns s ta tm r nf f h (S.fst (S.sureH e mo t l nc c ns s ta tm r nf f h) N i))))], []⟩)
include hT hT3 hT4 in
theorem go_load_unsure (fu : Nat) (e mo t l : Int) (nc : Nat) (c : S.Rows) (ns : Nat) (s : S.Rows) (ta tm r : Int) (nf : Nat) (f : S.Rows) (N : Nat) (kn : Nat → Nat) (ki : Nat → S.Rows) (pl ph : Nat → Int) (m : Nat) (kw : Nat → S.Rows) (kl : Nat → Bool) (hp : S.PlOk e mo t l nc c ns s ta tm r nf f) (hN : N ≤ 1000) (hq : ∀ j, j < N → S.PtOk ns nf (kn j) (ki j) (pl j) (ph j) m (kw j)) : ∀ (i : Nat) (st : St), i ≤ N → (∃ ρ, HasR 0 ρ st (lvU N (S.ptG kn ki pl ph m kw kl) i) [PB e mo t l nc c ns s ta tm r nf f]) →
    LoopGo (ex (cs10 hbs) (fu + 60)) 0 m_load_unsure_l1 st (trU e mo t l nc c ns s ta tm r nf f N (S.ptG kn ki pl ph m kw kl) i) :=
  loop_kR (σ := Nat) (lvU N (S.ptG kn ki pl ph m kw kl)) (fun _ => [PB e mo t l nc c ns s ta tm r nf f]) (fun i => i ≤ N) (fun i => N - i) (trU e mo t l nc c ns s ta tm r nf f N (S.ptG kn ki pl ph m kw kl)) _ (fun i Q => vs_load_unsure (hbs := hbs) fu i e mo t l nc c ns s ta tm r nf f N kn ki pl ph m kw kl Q) fun i hi' K hL X hX => by
      refine brP (fun h1 => ?_) fun h1 => ?_
      · have hlt : i < N := by simpa using h1
        have hqi := hq i hlt
        have b1 := hp.hnc
        have b2 := hp.hns
        have b3 := hp.hnf
        have b4 := hqi.hn
        have b5 := hqi.hm
        have hml : (1000 : Nat) ≤ maxLen := by decide
        have hlk := fc_load_lookAt hT4 e mo t l nc c ns s ta tm r nf f (kn i) (ki i) (pl i) (ph i) m (kw i) (kl i) (by omega) (by omega) (by omega) (fun i h => (hqi.hit i h).1)
        have hbr := fc_load_look_broken hT hT3 hT4 e mo t l nc c ns s ta tm r nf f (kn i) (ki i) (pl i) (ph i) m (kw i) (kl i) hp hqi
        refine cdP (idx_ok hlt) ⟨FCall.cfg (C := cs4 hbs) (C' := cs10 hbs) rfl rfl hlk, FCall.cfg (C := cs4 hbs) (C' := cs10 hbs) rfl rfl hbr, brP (fun h2 => ?_) fun h2 => cdP (by simp [Cd.holds]; omega) ?_⟩
        · have eo : S.sureH e mo t l nc c ns s ta tm r nf f (S.ptG kn ki pl ph m kw kl) i = false := by
            have h2 : (!(S.broR (S.ruH e mo t l nc c ns s ta tm r nf f (S.ptG kn ki pl ph m kw kl) i) == 1)) = true := h2
            show (S.broR (S.ruH e mo t l nc c ns s ta tm r nf f (S.ptG kn ki pl ph m kw kl) i) == 1) = false
            cases hb : (S.broR (S.ruH e mo t l nc c ns s ta tm r nf f (S.ptG kn ki pl ph m kw kl) i) == 1) with
            | false => rfl
            | true => rw [hb] at h2; cases h2
          have e2 : S.from_ (S.sureH e mo t l nc c ns s ta tm r nf f (S.ptG kn ki pl ph m kw kl)) N i = false := by rw [S.from_step hlt, eo, Bool.false_and]
          have e3 : S.fst (S.sureH e mo t l nc c ns s ta tm r nf f (S.ptG kn ki pl ph m kw kl)) N i = i := S.fst_at hlt eo
          simp only [trU, e2, e3] at hL
          refine HasR.out (l := [(.i (.i .h), vI .i64 i), (.o (.o (.o .h)), vI .i64 (S.broR (S.ruH e mo t l nc c ns s ta tm r nf f (S.ptG kn ki pl ph m kw kl) i))), (.i (.o (.o .h)), vI .i64 (S.broI (S.ruH e mo t l nc c ns s ta tm r nf f (S.ptG kn ki pl ph m kw kl) i)))]) (HasR.mk (ρ := []) rfl rfl ?_ ?_) hL
          · simp [WH]
          · exact ⟨.inl rfl, .inl rfl, .inl rfl, trivial⟩
        · have eo : S.sureH e mo t l nc c ns s ta tm r nf f (S.ptG kn ki pl ph m kw kl) i = true := by
            have h2 : (!(S.broR (S.ruH e mo t l nc c ns s ta tm r nf f (S.ptG kn ki pl ph m kw kl) i) == 1)) = false := h2
            show (S.broR (S.ruH e mo t l nc c ns s ta tm r nf f (S.ptG kn ki pl ph m kw kl) i) == 1) = true
            cases hb : (S.broR (S.ruH e mo t l nc c ns s ta tm r nf f (S.ptG kn ki pl ph m kw kl) i) == 1) with
            | true => rfl
            | false => rw [hb] at h2; cases h2
          have e2 : S.from_ (S.sureH e mo t l nc c ns s ta tm r nf f (S.ptG kn ki pl ph m kw kl)) N i = S.from_ (S.sureH e mo t l nc c ns s ta tm r nf f (S.ptG kn ki pl ph m kw kl)) N (i + 1) := by rw [S.from_step hlt, eo, Bool.true_and]
          have e3 : S.fst (S.sureH e mo t l nc c ns s ta tm r nf f (S.ptG kn ki pl ph m kw kl)) N i = S.fst (S.sureH e mo t l nc c ns s ta tm r nf f (S.ptG kn ki pl ph m kw kl)) N (i + 1) := S.fst_step hlt eo
          simp only [trU, e2, e3] at hL
          refine hX (i + 1) _ (by omega) (by omega) ⟨[some 0], HasR.mk _ rfl rfl ?_ ?_⟩ hL
          · simp [WH, WB, WL, WC, WP', upsB, memB, ptC, plC]
          · simp [LiveR, WA, WC, WP', Tr.get]
      · have hlt : N ≤ i := by simpa using h1
        have e2 : S.from_ (S.sureH e mo t l nc c ns s ta tm r nf f (S.ptG kn ki pl ph m kw kl)) N i = true := S.from_end hlt
        simp only [trU, e2] at hL
        refine HasR.out (l := []) (HasR.mk (ρ := []) rfl rfl ?_ ?_) hL
        · simp [WH]
        · trivial
end
end Go.Ab.B
namespace Go.Ab.S
structure TrOk (ns : Nat) (a b : Int) (K0 : Nat) (k : Nat → Nat) (li : Nat → Rows) (q : Rows) : Prop where
  hK : 1 ≤ K0 ∧ K0 ≤ 6
  hab : 0 ≤ a ∧ a ≤ b ∧ b ≤ 20000
  hk : ∀ i, i < K0 → k i ≤ 12
  hit : ∀ i, i < K0 → ∀ j, j < k i → (0 ≤ li i j 0 ∧ li i j 0 < ns) ∧ (0 ≤ li i j 1 ∧ li i j 1 ≤ li i j 2 ∧ li i j 2 ≤ 20000)
  hq : ∀ i, i < K0 → (0 ≤ q i 0 ∧ q i 0 ≤ 20000) ∧ (0 ≤ q i 1 ∧ q i 1 ≤ q i 2 ∧ q i 2 ≤ 20000) ∧ (0 ≤ q i 3 ∧ q i 3 ≤ q i 4 ∧ q i 4 ≤ 20000)
theorem tr_in {ns : Nat} {a b : Int} {K0 : Nat} {k : Nat → Nat} {li : Nat → Rows} {q : Rows} {pu : Nat → Bool} (h : TrOk ns a b K0 k li q) : ∀ (i : Nat), i ≤ K0 →
    (-20000 * (i : Int) ≤ tkL a (legV k li q pu) i ∧ tkL a (legV k li q pu) i ≤ tkH b (legV k li q pu) i ∧ tkH b (legV k li q pu) i ≤ 20000 + 20000 * (i : Int)) ∧ (0 ≤ wtL (legV k li q pu) i ∧ wtL (legV k li q pu) i ≤ wtH (legV k li q pu) i ∧ wtH (legV k li q pu) i ≤ 20000 * (i : Int))
  | 0, _ => by have := h.hab; simp only [tkL, tkH, wtL, wtH]; omega
  | i + 1, hi => by
    have ih := tr_in (pu := pu) h i (by omega)
    have hq := h.hq i (by omega)
    have t1 : tkL a (legV k li q pu) (i + 1) = tkL a (legV k li q pu) i + q i 0 + (0 - q i 2) := rfl
    have t2 : tkH b (legV k li q pu) (i + 1) = tkH b (legV k li q pu) i + q i 0 + (0 - q i 1) := rfl
    have w1 : wtL (legV k li q pu) (i + 1) = pmp (pu i) (wtL (legV k li q pu) i) + q i 3 := rfl
    have w2 : wtH (legV k li q pu) (i + 1) = pmp (pu i) (wtH (legV k li q pu) i) + q i 4 := rfl
    rw [t1, t2, w1, w2]
    cases pu i
    · simp only [pmp]; omega
    · simp only [pmp]; omega
theorem pt_ok {ns nf : Nat} {a b : Int} {K0 : Nat} {k : Nat → Nat} {li : Nat → Rows} {q : Rows} {pu : Nat → Bool} (h : TrOk ns a b K0 k li q) (j : Nat) (hj : j < 2 * K0) : PtOk ns nf (k (j / 2)) (li (j / 2)) (ptL a (legV k li q pu) j) (ptH b (legV k li q pu) j) nf (two (pwL (legV k li q pu) j) (pwH (legV k li q pu) j)) := by
  have hi : j / 2 < K0 := by omega
  have hK := h.hK
  have ih := tr_in (pu := pu) h (j / 2) (by omega)
  have ih1 := tr_in (pu := pu) h (j / 2 + 1) (by omega)
  have hq := h.hq (j / 2) hi
  have f0 : lI (legV k li q pu (j / 2) 2) = q (j / 2) 0 := rfl
  have f1 : lB (legV k li q pu (j / 2) 1) = pu (j / 2) := rfl
  refine ⟨h.hk _ hi, rfl, ?_, h.hit _ hi, fun i _ => ?_⟩
  · unfold ptL ptH
    cases lnd j
    · simp only [f0]; omega
    · simp only []; omega
  · show 0 ≤ pwL _ j ∧ pwL _ j ≤ pwH _ j ∧ pwH _ j ≤ 120000
    unfold pwL pwH
    cases lnd j
    · simp only [f1]
      cases pu (j / 2)
      · simp only [pmp]; omega
      · simp only [pmp]; omega
    · simp only []; omega
end Go.Ab.S
namespace Go.Ab.B
open Go.Proofs
section
variable {hbs : BsOk Tryd.prog} (hT : TabOk (cs hbs)) (hT3 : TabOk (cs3 hbs)) (hT4 : TabOk (cs4 hbs)) (hT7 : TabOk (cs7 hbs)) (hT9 : TabOk (cs9 hbs)) (hT10 : TabOk (cs10 hbs))
abbrev unR (ok : Bool) (j : Nat) (R I : Int) : AV := .tp [vI .i64 (S.unA ok j), vI .i64 (S.unX ok R 1), vI .i64 (S.unX ok I 0)]
include hT hT3 hT4 hT7 hT9 hT10 in
theorem fc_load_unsure (e mo t l : Int) (nc : Nat) (c : S.Rows) (ns : Nat) (s : S.Rows) (ta tm r : Int) (nf : Nat) (f : S.Rows) (a b : Int) (K0 : Nat) (k : Nat → Nat) (li : Nat → S.Rows) (q : S.Rows) (pu : Nat → Bool) (hp : S.PlOk e mo t l nc c ns s ta tm r nf f) (h : S.TrOk ns a b K0 k li q) :
    FCall (cs10 hbs) f_load_unsure [.ag (plC e mo t l nc (S.val c) ns (S.val s) ta tm r nf (S.val f)), .ag [.p (.int .i64 a), .p (.int .i64 b)], .c (.p (.isl 7 K0 (S.legV k li q pu)))]
      (unR (S.from_ (S.sureH e mo t l nc c ns s ta tm r nf f (S.ptV a b nf (S.legV k li q pu))) (2 * K0) 0) (S.fst (S.sureH e mo t l nc c ns s ta tm r nf f (S.ptV a b nf (S.legV k li q pu))) (2 * K0) 0) (S.broR (S.ruH e mo t l nc c ns s ta tm r nf f (S.ptV a b nf (S.legV k li q pu)) (S.fst (S.sureH e mo t l nc c ns s ta tm r nf f (S.ptV a b nf (S.legV k li q pu))) (2 * K0) 0))) (S.broI (S.ruH e mo t l nc c ns s ta tm r nf f (S.ptV a b nf (S.legV k li q pu)) (S.fst (S.sureH e mo t l nc c ns s ta tm r nf f (S.ptV a b nf (S.legV k li q pu))) (2 * K0) 0)))) [] := by
  have hK := h.hK
  have hab := h.hab
  have hpo : FCall (cs10 hbs) f_load_pointsOf [.ag (plC e mo t l nc (S.val c) ns (S.val s) ta tm r nf (S.val f)), .ag [.p (.int .i64 a), .p (.int .i64 b)], .c (.p (.isl 7 K0 (S.legV k li q pu)))] (.c (.p (.isl 5 (2 * K0) (S.ptV a b nf (S.legV k li q pu))))) [] :=
    FCall.cfg (C := cs9 hbs) (C' := cs10 hbs) rfl rfl (fc_load_pointsOf hT4 hT7 hT9 e mo t l nc c ns s ta tm r nf f a b K0 k li q pu hp.hnf (by omega) (fun i hi => by have := h.hk i hi; omega) (by omega) (by omega) (fun i j hi => by
      have hq := h.hq i hi
      match j with
      | 0 => show (-1000000 : Int) ≤ 0 ∧ (0 : Int) ≤ 1000000; omega
      | 1 => show (-1000000 : Int) ≤ 0 ∧ (0 : Int) ≤ 1000000; omega
      | 2 => show -1000000 ≤ q i 0 ∧ q i 0 ≤ 1000000; omega
      | 3 => show -1000000 ≤ q i 1 ∧ q i 1 ≤ 1000000; omega
      | 4 => show -1000000 ≤ q i 2 ∧ q i 2 ≤ 1000000; omega
      | 5 => show -1000000 ≤ q i 3 ∧ q i 3 ≤ 1000000; omega
      | 6 => show -1000000 ≤ q i 4 ∧ q i 4 ≤ 1000000; omega
      | j + 7 =>
        have e7 : (S.legV k li q pu) i (j + 7) = .npt := by show List.getD _ (0 + (j + 7)) _ = _; rw [Nat.zero_add]; rfl
        rw [e7]; show (-1000000 : Int) ≤ 0 ∧ (0 : Int) ≤ 1000000; omega))
  refine fcall_k hT10 (F := F_load_unsure) rfl (vc_load_unsure e mo t l nc c ns s ta tm r nf f a b K0 k li q pu _) ⟨hpo, go_load_unsure hT hT3 hT4 935 e mo t l nc c ns s ta tm r nf f (2 * K0) (fun j => k (j / 2)) (fun j => li (j / 2)) (S.ptL a (S.legV k li q pu)) (S.ptH b (S.legV k li q pu)) nf (fun j => S.two (S.pwL (S.legV k li q pu) j) (S.pwH (S.legV k li q pu) j)) S.lnd hp (by omega) (fun j hj => S.pt_ok h j hj) 0 _ (Nat.zero_le _) ⟨[some 0], HasR.mk _ rfl rfl ?_ ?_⟩, brP (fun h1 => ?_) fun h1 => ?_⟩
  · simp [WH, WB, WL, WC, WP', upsB, memB, ptC, plC]
  · exact ⟨⟨rfl, rfl⟩, .inl rfl, .inl rfl, .inl rfl, trivial⟩
  · simp only [unR, h1, S.unA, S.unX]; rfl
  · simp only [unR, h1, S.unA, S.unX]; rfl
end
end Go.Ab.B
namespace Go.Ab.S
def legAt (st : Int) (g : Nat → Nat → PV) (i : Nat) : Bool := itemsOk (lN (g i 0)) (lR (g i 0)) st && (inB 0 (lI (g i 2)) 20000 && (span (lI (g i 3)) (lI (g i 4)) 0 20000 && span (lI (g i 5)) (lI (g i 6)) 0 20000))
def tripB (st a b : Int) (n : Nat) (g : Nat → Nat → PV) : Bool := span a b 0 20000 && (inB 1 n 6 && from_ (legAt st g) n 0)
def tErr (pl : Bool) (st a b : Int) (n : Nat) (g : Nat → Nat → PV) : Int := match decide ((n : Int) > 6) with
  | true => 3
  | false => match pl && tripB st a b n g with
    | true => 0
    | false => 2
end Go.Ab.S
namespace Go.Ab.B
open Go.Proofs
def sp_load_tripFine : List AV → Option (AV × Heap)
  | [.c (.p (.int .i64 st)), .ag [.p (.int .i64 a), .p (.int .i64 b)], .c (.p (.isl 7 n g))] => some (vB (S.tripB st a b n g), [])
  | _ => none
def sp_load_tripError : List AV → Option (AV × Heap)
  | [.ag [.p (.int .i64 e), .p (.int .i64 mo), .p (.int .i64 t), .p (.int .i64 l), .p (.isl 2 nc c), .p (.isl 2 ns s), .p (.int .i64 ta), .p (.int .i64 tm), .p (.int .i64 r), .p (.isl 2 nf f)], .ag [.p (.int .i64 a), .p (.int .i64 b)], .c (.p (.isl 7 n g))] =>
    some (vI .i64 (S.tErr (S.plane e mo t l nc (S.num c) ns (S.num s) ta tm r nf (S.num f)) ns a b n g), [])
  | _ => none
def Sp11 (f : Nat) (l : List AV) : Option (AV × Heap) := bif Nat.beq f f_load_tripFine then sp_load_tripFine l else bif Nat.beq f f_load_tripError then sp_load_tripError l else Sp10 f l
def lp_load_tripFine (s : St) : Option LTree :=
  match Tr.get .h s.t, Tr.get (.i (.o (.i (.o .h)))) s.t with
  | .c (.p (.int .i64 st)), .c (.p (.isl 7 n g)) => some (.br (S.from_ (S.legAt st g) n 0) (.e (.exit 0) ⟨.lf, []⟩) (.e .ret ⟨setAll [((.i (.i .h)), vB false)], []⟩))
  | _, _ => none
def Lp11 (n0 : Nat) (a : MC) (s : St) : Option LTree := bif Nat.beq (keyM a 0) key_load_tripFine_l1 then lp_load_tripFine s else Lp10 n0 a s
def cs11 {P : Program} (hbs : BsOk P) : Cfg := { cs10 hbs with Sp := Sp11, Lp := Lp11 }
section
variable {hbs : BsOk Tryd.prog}
theorem vs_load_tripFine (fu i : Nat) (st : Int) (K0 : Nat) (k : Nat → Nat) (li : Nat → S.Rows) (q : S.Rows) (pu : Nat → Bool) (Q : AX → St → Prop) :
 ((fun (A2 : Tr) => ((fun (A3 : Tr) => ((fun (A4 : CV) => ((fun (A0 : List CV) => ((fun (A5 : AV) => ((fun (A6 : Heap) => ((fun (A8 : AV) => ((fun (A7 : Tr) => ((fun (A9 : AV) => ((fun (A10 : Tr) => ((fun (A1 : Tr) => ((fun (A11 : Tr) => ((fun (A12 : AV) => ((fun (A13 : Tr) => ((BrP (decide ((i : Int) < (K0 : Int)))
 (CdP (.rng (i : Int) K0)
 ((FCall (cs11 hbs) f_load_itemsFine [(vJ st), (.c A4)] (.c (.p (.bool (S.itemsOk (k i) (li i) st)))) []) ∧
 (BrP (S.itemsOk (k i) (li i) st)
 ((FCall (cs11 hbs) f_load_holds [A12, (vJ (q i 0))] (.c (.p (.bool (S.inB (0 : Int) (q i 0) (20000 : Int))))) []) ∧
 (BrP (S.inB (0 : Int) (q i 0) (20000 : Int))
 ((FCall (cs11 hbs) f_load_spanFine [(.ag [(cJ (q i 1)), (cJ (q i 2))]), A12] (.c (.p (.bool (S.span (q i 1) (q i 2) (0 : Int) (20000 : Int))))) []) ∧
 (BrP (S.span (q i 1) (q i 2) (0 : Int) (20000 : Int))
 ((FCall (cs11 hbs) f_load_spanFine [A9, A12] (.c (.p (.bool (S.span (q i 3) (q i 4) (0 : Int) (20000 : Int))))) []) ∧
 (BrP (S.span (q i 3) (q i 4) (0 : Int) (20000 : Int))
 (CdP (.i64 ((i : Int) + (1 : Int)))
 (Q .normal ⟨(.nd (L4 (L4 (L4 (L4 (L1 (vB false)) (L1 (vJ ((i : Int) + (1 : Int))))) (L6 (L1 (vT 0 3)) (vB true))) A3) (L4 A10 (L4 (L6 (L1 (vB false)) (vJ (K0 : Int))) (L6 (L1 (vB false)) (vB true))))) (vJ st) (L4 (L4 A7 (L4 (L6 (L1 (vB false)) A5) (L6 (L1 (vB true)) (.c A4)))) (L4 (L4 A2 (L6 (L1 A9) (vJ st))) (L4 (L6 (L1 (vB false)) (vJ ((i : Int) + (1 : Int)))) (L6 (L1 (vB false)) (vB false)))))), A6⟩))
 (Q .ret ⟨A1, A6⟩)))
 (Q .ret ⟨A1, A6⟩)))
 (Q .ret ⟨(.nd (L4 (L4 (L4 (L3 (L1 (vB false))) A11) (L4 (L3 (L1 (vB false))) (L6 (L1 (.tp [])) (vT 0 0)))) (L4 (L4 (L3 (L1 (vJ (q i 0)))) (L6 (L1 (.tp [])) (.ag A0))) (L4 (L6 (L1 (vB true)) (vJ (K0 : Int))) A11))) (vJ st) (L4 (L4 (.nd (L3 (L1 (vT 0 2))) (vT 0 0) (L6 (L1 (.tp [])) A8)) (L4 (L6 (L1 (vB true)) A5) (L6 (L1 (.tp [])) (.c A4)))) (.nd (L4 A2 (L6 (L1 (.tp [])) (vJ st))) (vB false) (L4 (L6 (L1 (vB true)) (vN i)) (L6 (L1 (vB true)) (vB false)))))), A6⟩)))
 (Q .ret ⟨(.nd (L4 (L4 (L4 (L3 (L1 (vB true))) A11) (L4 A13 (L6 (L1 (.tp [])) (vT 0 0)))) (L4 (L4 A13 (L6 (L1 (.tp [])) (.ag A0))) (L4 (L6 (L1 (vB true)) (vJ (K0 : Int))) (L6 (L1 (.tp [])) (vB false))))) (vJ st) (L4 (L4 (.nd A13 (vT 0 0) (L6 (L1 (.tp [])) A8)) (L4 (L6 (L1 (.tp [])) A5) (L6 (L1 (.tp [])) (.c A4)))) (.nd (L4 A13 (L6 (L1 (.tp [])) (vJ st))) (vB false) (L4 (L6 (L1 (vB true)) (vN i)) (L6 (L1 (vB true)) (vB true)))))), A6⟩))))
 (Q (.exit 0) ⟨(.nd (L4 (L3 (L2 (L1 (vB false)))) (L2 (L3 (L1 (vJ (K0 : Int)))))) (vJ st) (L4 (L2 (L3 (L1 A5))) (L2 (L3 (L1 (vN i)))))), []⟩)))) (L3 (L1 (.tp []))))) (.ag [(cJ 0), (cJ 20000)]))) (L6 (L1 (.tp [])) (vB true)))) (.nd (L4 (L4 (L4 (L3 (L1 (vB false))) (L6 (L1 (vT 0 3)) (vB true))) A3) (L4 A10 (L4 (L6 (L1 (vB false)) (vJ (K0 : Int))) (L6 (L1 (vB true)) (vB true))))) (vJ st) (L4 (L4 A7 (L4 (L6 (L1 (vB false)) A5) (L6 (L1 (vB false)) (.c A4)))) (.nd (L4 A2 (L6 (L1 A9) (vJ st))) (vB false) (L4 (L6 (L1 (vB false)) (vN i)) (L6 (L1 (vB true)) (vB false)))))))) (L4 (L3 (L1 (vJ (q i 0)))) (L6 (L1 (vT 0 5)) (.ag A0))))) (.ag [(cJ (q i 3)), (cJ (q i 4))]))) (.nd (L3 (L1 (vT 0 2))) (vT 0 0) (L6 (L1 (.ag [(cJ (q i 1)), (cJ (q i 2))])) A8)))) (.c (.p (.ipt 7 (S.legV k li q pu i)))))) [(some (.box t_api_LoadLeg A0))])) (.c (.p (.isl 7 K0 (S.legV k li q pu)))))) [A4, (.p (.bool (pu i))), (cJ (q i 0)), (cJ (q i 1)), (cJ (q i 2)), (cJ (q i 3)), (cJ (q i 4))])) (.p (.isl 3 (k i) (S.val (li i)))))) (L4 (L3 (L1 (vB true))) (L6 (L1 (.c (.p (.isl 2 2 (fun x9 => (fun x10 => (List.getD [(.int .i64 (q i 1)), (.int .i64 (q i 2)), (.int .i64 (q i 3)), (.int .i64 (q i 4))] ((x9 * 2) + x10) .npt))))))) (vT 0 0))))) (L3 (L1 (.c (.p (.isl 1 1 (fun x9 => (fun x10 => (List.getD [(.int .i64 (q i 0))] ((x9 * 1) + x10) .npt))))))))) = (ex (cs11 hbs) (fu + 60) 0 m_load_tripFine_l1 ⟨setAll [(.h, .c (cJ st)), (.o (.i (.i (.o .h))), .c (cJ K0)), (.i (.o (.i (.o .h))), .c (.p (.isl 7 K0 (S.legV k li q pu)))), (.i (.i (.i (.o .h))), .c (cJ i))], []⟩ (fun e s => .pr (Q e s))).hold2 := by kernel_rfl
theorem vc_load_tripFine (st a b : Int) (K0 : Nat) (k : Nat → Nat) (li : Nat → S.Rows) (q : S.Rows) (pu : Nat → Bool) (Q : AV → Heap → Prop) :
 ((fun (A0 : Heap) => ((fun (A1 : AV) => (((FCall (cs11 hbs) f_load_spanFine [(.ag [(cJ a), (cJ b)]), (.ag [(cJ 0), (cJ 20000)])] (.c (.p (.bool (S.span a b (0 : Int) (20000 : Int))))) []) ∧
 (BrP (S.span a b (0 : Int) (20000 : Int))
 ((FCall (cs11 hbs) f_load_holds [(.ag [(cJ 1), (cJ 6)]), (vJ (K0 : Int))] (.c (.p (.bool (S.inB (1 : Int) (K0 : Int) (6 : Int))))) []) ∧
 (BrP (S.inB (1 : Int) (K0 : Int) (6 : Int))
 ((LoopGo (ex (cs11 hbs) 994) 0 m_load_tripFine_l1 ⟨(.nd (.nd (L4 (L3 (L1 A1)) (L6 (L1 (vB false)) (vB true))) (.ag [(cJ a), (cJ b)]) (L4 (L6 (L1 (vB true)) (.ag [(cJ a), (cJ b)])) (L6 (L1 (vJ (K0 : Int))) (vB false)))) (vJ st) (.nd (.nd (L3 (L1 (vJ (K0 : Int)))) (vT 0 0) (L6 (L1 A1) (vB false))) A1 (.nd (L6 (L1 (vB false)) (.c (.p (.isl 2 1 (fun x9 => (fun x10 => (List.getD [(.int .i64 a), (.int .i64 b)] ((x9 * 2) + x10) .npt))))))) (vB false) (L6 (L1 (vJ 0)) (.ag [(cJ 1), (cJ 6)]))))), A0⟩ (.br (S.from_ (S.legAt st (S.legV k li q pu)) K0 0) (.e (.exit 0) ⟨.lf, []⟩) (.e .ret ⟨(L2 (L2 (L1 (vB false)))), []⟩))) ∧
 (BrP (S.from_ (S.legAt st (S.legV k li q pu)) K0 0)
 (Q (vB true) [])
 (Q (vB false) [])))
 (Q (vB false) A0)))
 (Q (vB false) A0))))) (.c (.p (.isl 7 K0 (S.legV k li q pu)))))) [(some (.box t_api_Span [(cJ a), (cJ b)]))]) = (ex (cs11 hbs) 1000 0 m_load_tripFine ⟨ofL 0 [.c (cJ st), .ag [.p (.int .i64 a), .p (.int .i64 b)], .c (.p (.isl 7 K0 (S.legV k li q pu)))] .lf, []⟩ (endK F_load_tripFine.rs (fun r H => .pr (Q r H)) fun _ _ => .no)).hold2 := by kernel_rfl
theorem vc_load_tripError (e mo t l : Int) (nc : Nat) (c : S.Rows) (ns : Nat) (s : S.Rows) (ta tm r : Int) (nf : Nat) (f : S.Rows) (a b : Int) (K0 : Nat) (k : Nat → Nat) (li : Nat → S.Rows) (q : S.Rows) (pu : Nat → Bool) (Q : AV → Heap → Prop) :
 ((fun (A0 : Heap) => ((BrP (decide ((K0 : Int) > (6 : Int)))
 (Q (vJ 3) A0)
 ((FCall (cs11 hbs) f_load_planeFine [(.ag (kP e mo t l nc c ns s ta tm r nf f))] (.c (.p (.bool (S.plane e mo t l nc c ns s ta tm r nf f)))) []) ∧
 (BrP (S.plane e mo t l nc c ns s ta tm r nf f)
 ((FCall (cs11 hbs) f_load_tripFine [(vN ns), (.ag [(cJ a), (cJ b)]), (.c (.p (.isl 7 K0 (S.legV k li q pu))))] (.c (.p (.bool (S.tripB (ns : Int) a b K0 (S.legV k li q pu))))) []) ∧
 (BrP (S.tripB (ns : Int) a b K0 (S.legV k li q pu))
 (Q (vJ 0) A0)
 (Q (vJ 2) A0)))
 (Q (vJ 2) A0)))))) [(bP e mo t l nc c ns s ta tm r nf f), (some (.box t_api_Span [(cJ a), (cJ b)]))]) = (ex (cs11 hbs) 1000 0 m_load_tripError ⟨ofL 0 [.ag (plC e mo t l nc (S.val c) ns (S.val s) ta tm r nf (S.val f)), .ag [.p (.int .i64 a), .p (.int .i64 b)], .c (.p (.isl 7 K0 (S.legV k li q pu)))] .lf, []⟩ (endK F_load_tripError.rs (fun r H => .pr (Q r H)) fun _ _ => .no)).hold2 := by kernel_rfl
theorem vc_load_Trip (e mo t l : Int) (nc : Nat) (c : S.Rows) (ns : Nat) (s : S.Rows) (ta tm r : Int) (nf : Nat) (f : S.Rows) (a b : Int) (K0 : Nat) (k : Nat → Nat) (li : Nat → S.Rows) (q : S.Rows) (pu : Nat → Bool) (Q : AV → Heap → Prop) :
 ((fun (A0 : AV) => ((fun (A1 : AV) => ((fun (A2 : AV) => ((fun (A3 : AV) => ((fun (A4 : Heap) => (((FCall (cs11 hbs) f_load_tripError [(.ag (kP e mo t l nc c ns s ta tm r nf f)), (.ag [(cJ a), (cJ b)]), (.c (.p (.isl 7 K0 (S.legV k li q pu))))] A3 []) ∧
 (BrP ((S.tErr (S.plane e mo t l nc c ns s ta tm r nf f) (ns : Int) a b K0 (S.legV k li q pu)) != (0 : Int))
 (Q (.tp [(vJ 0), (vJ 0), (vJ 0), A3]) A4)
 ((FCall (cs11 hbs) f_load_unsure [(.ag (kP e mo t l nc c ns s ta tm r nf f)), (.ag [(cJ a), (cJ b)]), (.c (.p (.isl 7 K0 (S.legV k li q pu))))] (.tp [A2, A0, A1]) []) ∧
 (Q (.tp [A2, A0, A1, (vJ 0)]) A4)))))) [(bP e mo t l nc c ns s ta tm r nf f), (some (.box t_api_Span [(cJ a), (cJ b)]))])) (vJ (S.tErr (S.plane e mo t l nc c ns s ta tm r nf f) (ns : Int) a b K0 (S.legV k li q pu))))) (vJ (S.unA (S.from_ (S.sureH e mo t l nc c ns s ta tm r nf f (S.ptV a b nf (S.legV k li q pu))) (2 * K0) 0) (S.fst (S.sureH e mo t l nc c ns s ta tm r nf f (S.ptV a b nf (S.legV k li q pu))) (2 * K0) 0))))) (vJ (S.unX (S.from_ (S.sureH e mo t l nc c ns s ta tm r nf f (S.ptV a b nf (S.legV k li q pu))) (2 * K0) 0) (S.broI (S.ruH e mo t l nc c ns s ta tm r nf f (S.ptV a b nf (S.legV k li q pu)) (S.fst (S.sureH e mo t l nc c ns s ta tm r nf f (S.ptV a b nf (S.legV k li q pu))) (2 * K0) 0))) (0 : Int))))) (vJ (S.unX (S.from_ (S.sureH e mo t l nc c ns s ta tm r nf f (S.ptV a b nf (S.legV k li q pu))) (2 * K0) 0) (S.broR (S.ruH e mo t l nc c ns s ta tm r nf f (S.ptV a b nf (S.legV k li q pu)) (S.fst (S.sureH e mo t l nc c ns s ta tm r nf f (S.ptV a b nf (S.legV k li q pu))) (2 * K0) 0))) (1 : Int)))) = (ex (cs11 hbs) 1000 0 m_load_Trip ⟨ofL 0 [.ag (plC e mo t l nc (S.val c) ns (S.val s) ta tm r nf (S.val f)), .ag [.p (.int .i64 a), .p (.int .i64 b)], .c (.p (.isl 7 K0 (S.legV k li q pu)))] .lf, []⟩ (endK F_load_Trip.rs (fun r H => .pr (Q r H)) fun _ _ => .no)).hold2 := by kernel_rfl
end
end Go.Ab.B
namespace Go.Ab.S
theorem legAt_eq (st : Int) (k : Nat → Nat) (li : Nat → Rows) (q : Rows) (pu : Nat → Bool) (i : Nat) : legAt st (legV k li q pu) i = (itemsOk (k i) (li i) st && (inB 0 (q i 0) 20000 && (span (q i 1) (q i 2) 0 20000 && span (q i 3) (q i 4) 0 20000))) := rfl
theorem tr_ok {ns : Nat} {a b : Int} {K0 : Nat} {k : Nat → Nat} {li : Nat → Rows} {q : Rows} {pu : Nat → Bool} (h : tripB ns a b K0 (legV k li q pu) = true) : TrOk ns a b K0 k li q := by
  simp only [tripB, span, Bool.and_eq_true, inB_iff, decide_eq_true_eq] at h
  obtain ⟨⟨⟨h1, h2⟩, h3⟩, ⟨h4, h5⟩, h6⟩ := h
  have hl : ∀ i, i < K0 → (itemsOk (k i) (li i) ns = true ∧ (0 ≤ q i 0 ∧ q i 0 ≤ 20000)) ∧ ((0 ≤ q i 1 ∧ q i 1 ≤ q i 2) ∧ q i 2 ≤ 20000) ∧ ((0 ≤ q i 3 ∧ q i 3 ≤ q i 4) ∧ q i 4 ≤ 20000) := fun i hi => by
    have := from_iff.1 h6 i (Nat.zero_le _) hi
    rw [legAt_eq] at this
    simp only [span, Bool.and_eq_true, inB_iff, decide_eq_true_eq] at this
    exact ⟨⟨this.1, this.2.1⟩, this.2.2.1, this.2.2.2⟩
  refine ⟨by omega, by omega, fun i hi => ?_, fun i hi j hj => ?_, fun i hi => ?_⟩
  · have := (hl i hi).1.1
    simp only [itemsOk, Bool.and_eq_true, decide_eq_true_eq] at this
    omega
  · have := (hl i hi).1.1
    simp only [itemsOk, Bool.and_eq_true, decide_eq_true_eq] at this
    have := from_iff.1 this.1 j (Nat.zero_le _) hj
    simp only [itAt, span, Bool.and_eq_true, inB_iff, decide_eq_true_eq] at this
    omega
  · have := hl i hi
    omega
theorem tErr_0 {pl : Bool} {st a b : Int} {n : Nat} {g : Nat → Nat → PV} (h : (tErr pl st a b n g != 0) = false) : pl = true ∧ tripB st a b n g = true := by
  have h : tErr pl st a b n g = 0 := by simpa using h
  unfold tErr at h
  split at h
  · cases h
  · split at h
    · rename_i hb
      simpa using hb
    · cases h
end Go.Ab.S
namespace Go.Ab.B
open Go.Proofs
section
variable {hbs : BsOk Tryd.prog} (hT : TabOk (cs hbs)) (hT3 : TabOk (cs3 hbs)) (hT4 : TabOk (cs4 hbs)) (hT7 : TabOk (cs7 hbs)) (hT9 : TabOk (cs9 hbs)) (hT10 : TabOk (cs10 hbs)) (hT11 : TabOk (cs11 hbs))
abbrev lvF (st : Int) (K0 : Nat) (g : Nat → Nat → PV) (i : Nat) : List (Ps × AV) := [(.h, .c (.p (.int .i64 st))), (.o (.i (.i (.o .h))), .c (.p (.int .i64 K0))), (.i (.o (.i (.o .h))), .c (.p (.isl 7 K0 g))), (.i (.i (.i (.o .h))), .c (.p (.int .i64 i)))]
abbrev trF (st : Int) (K0 : Nat) (g : Nat → Nat → PV) (i : Nat) : LTree := .br (S.from_ (S.legAt st g) K0 i) (.e (.exit 0) ⟨.lf, []⟩) (.e .ret ⟨setAll [(.i (.i .h), vB false)], []⟩)
include hT hT3 in
theorem go_load_tripFine (fu : Nat) (st : Int) (K0 : Nat) (k : Nat → Nat) (li : Nat → S.Rows) (q : S.Rows) (pu : Nat → Bool) (hst : 0 ≤ st ∧ st ≤ 1000000) (hK : K0 ≤ 1000) (hk : ∀ i, i < K0 → k i ≤ 1000000) : ∀ (i : Nat) (s : St), i ≤ K0 → (∃ ρ, HasR 0 ρ s (lvF st K0 (S.legV k li q pu) i) []) → LoopGo (ex (cs11 hbs) (fu + 60)) 0 m_load_tripFine_l1 s (trF st K0 (S.legV k li q pu) i) :=
  loop_kR (σ := Nat) (lvF st K0 (S.legV k li q pu)) (fun _ => []) (fun i => i ≤ K0) (fun i => K0 - i) (trF st K0 (S.legV k li q pu)) _ (fun i Q => vs_load_tripFine (hbs := hbs) fu i st K0 k li q pu Q) fun i hi' K hL X hX => by
      have bad : ∀ (s' : St), i < K0 → S.legAt st (S.legV k li q pu) i = false → (∃ ρ, HasR 0 ρ s' [(.i (.i .h), vB false)] []) → ∃ s'', Wk 0 s' s'' ∧ (K .ret s'').holds := fun s' hlt eo h => by
        have e2 : S.from_ (S.legAt st (S.legV k li q pu)) K0 i = false := by rw [S.from_step hlt, eo, Bool.false_and]
        simp only [trF, e2] at hL
        obtain ⟨ρ, h⟩ := h
        exact HasR.out h hL
      refine brP (fun h1 => ?_) fun h1 => ?_
      · have hlt : i < K0 := by simpa using h1
        have hs0 : ∀ (x y : Int), FCall (cs11 hbs) f_load_spanFine [.ag [.p (.int .i64 x), .p (.int .i64 y)], .ag [.p (.int .i64 0), .p (.int .i64 20000)]] (vB (S.span x y 0 20000)) [] := fun x y => FCall.cfg (C := cs3 hbs) (C' := cs11 hbs) rfl rfl (fc_load_spanFine hT hT3 _ _ _ _)
        refine cdP (idx_ok hlt) ⟨FCall.cfg (C := cs3 hbs) (C' := cs11 hbs) rfl rfl (fc_load_itemsFine hT hT3 (k i) (li i) st (hk i hlt) hst), brP (fun a1 => ⟨FCall.cfg (C := cs hbs) (C' := cs11 hbs) rfl rfl (fc_load_holds hT _ _ _), brP (fun a2 => ⟨hs0 _ _, brP (fun a3 => ⟨hs0 _ _, brP (fun a4 => cdP (by simp [Cd.holds]; omega) ?_) fun a4 => bad _ hlt ?_ ⟨[], HasR.mk _ rfl rfl (by simp [WH]) ⟨.inl rfl, trivial⟩⟩⟩) fun a3 => bad _ hlt ?_ ⟨[], HasR.mk _ rfl rfl (by simp [WH]) ⟨.inl rfl, trivial⟩⟩⟩) fun a2 => bad _ hlt ?_ ⟨[], HasR.mk _ rfl rfl (by simp [WH]) ⟨.inl rfl, trivial⟩⟩⟩) fun a1 => bad _ hlt ?_ ⟨[], HasR.mk _ rfl rfl (by simp [WH]) ⟨.inl rfl, trivial⟩⟩⟩
        · have a1 : S.itemsOk (k i) (li i) st = true := a1
          have eo : S.legAt st (S.legV k li q pu) i = true := by rw [S.legAt_eq, a1, a2, a3, a4]; rfl
          have e2 : S.from_ (S.legAt st (S.legV k li q pu)) K0 i = S.from_ (S.legAt st (S.legV k li q pu)) K0 (i + 1) := by rw [S.from_step hlt, eo, Bool.true_and]
          simp only [trF, e2] at hL
          refine hX (i + 1) _ (by omega) (by omega) ⟨[], HasR.mk _ rfl rfl ?_ ?_⟩ hL
          · simp [WH]
          · exact ⟨.inl rfl, .inl rfl, .inl rfl, .inl rfl, trivial⟩
        · rw [S.legAt_eq, a4]; simp
        · rw [S.legAt_eq, a3]; simp
        · rw [S.legAt_eq, a2]; simp
        · have a1 : S.itemsOk (k i) (li i) st = false := a1
          rw [S.legAt_eq, a1]; rfl
      · have hlt : K0 ≤ i := by simpa using h1
        have e2 : S.from_ (S.legAt st (S.legV k li q pu)) K0 i = true := S.from_end hlt
        simp only [trF, e2] at hL
        exact HasR.out (l := []) (HasR.mk (ρ := []) rfl rfl (by simp [WH]) trivial) hL
include hT hT3 hT11 in
theorem fc_load_tripFine (st a b : Int) (K0 : Nat) (k : Nat → Nat) (li : Nat → S.Rows) (q : S.Rows) (pu : Nat → Bool) (hst : 0 ≤ st ∧ st ≤ 1000000) (hK : K0 ≤ 1000) (hk : ∀ i, i < K0 → k i ≤ 1000000) : FCall (cs11 hbs) f_load_tripFine [.c (.p (.int .i64 st)), .ag [.p (.int .i64 a), .p (.int .i64 b)], .c (.p (.isl 7 K0 (S.legV k li q pu)))] (vB (S.tripB st a b K0 (S.legV k li q pu))) [] :=
  fcall_k hT11 (F := F_load_tripFine) rfl (vc_load_tripFine st a b K0 k li q pu _) ⟨FCall.cfg (C := cs3 hbs) (C' := cs11 hbs) rfl rfl (fc_load_spanFine hT hT3 _ _ _ _), brP (fun h1 => ⟨FCall.cfg (C := cs hbs) (C' := cs11 hbs) rfl rfl (fc_load_holds hT _ _ _), brP (fun h2 => ⟨go_load_tripFine hT hT3 934 st K0 k li q pu hst hK hk 0 _ (Nat.zero_le _) ⟨[], HasR.mk _ rfl rfl (by simp [WH]) ⟨.inl rfl, .inl rfl, .inl rfl, .inl rfl, trivial⟩⟩, brP (fun h3 => frz_b (by simp only [S.tripB, h1, h2, h3]; rfl)) fun h3 => frz_b (by simp only [S.tripB, h1, h2, h3]; rfl)⟩) fun h2 => frz_b (by simp only [S.tripB, h1, h2]; rfl)⟩) fun h1 => frz_b (by simp only [S.tripB, h1]; rfl)⟩
include hT hT3 hT11 in
theorem fc_load_tripError (e mo t l : Int) (nc : Nat) (c : S.Rows) (ns : Nat) (s : S.Rows) (ta tm r : Int) (nf : Nat) (f : S.Rows) (a b : Int) (K0 : Nat) (k : Nat → Nat) (li : Nat → S.Rows) (q : S.Rows) (pu : Nat → Bool) (hnc : nc ≤ maxLen) (hns : ns ≤ 1000000) (hns' : ns ≤ maxLen) (hnf : nf ≤ maxLen) (hK : K0 ≤ 1000) (hk : ∀ i, i < K0 → k i ≤ 1000000) : FCall (cs11 hbs) f_load_tripError [.ag (plC e mo t l nc (S.val c) ns (S.val s) ta tm r nf (S.val f)), .ag [.p (.int .i64 a), .p (.int .i64 b)], .c (.p (.isl 7 K0 (S.legV k li q pu)))] (vI .i64 (S.tErr (S.plane e mo t l nc c ns s ta tm r nf f) ns a b K0 (S.legV k li q pu))) [] :=
  fcall_k hT11 (F := F_load_tripError) rfl (vc_load_tripError e mo t l nc c ns s ta tm r nf f a b K0 k li q pu _) (brP (fun h1 => by simp only [S.tErr, h1]; rfl) fun h1 => ⟨FCall.cfg (C := cs hbs) (C' := cs11 hbs) rfl rfl (fc_load_planeFine hT hnc hns' hnf), brP (fun h2 => ⟨fc_load_tripFine hT hT3 hT11 ns a b K0 k li q pu (by omega) hK hk, brP (fun h3 => by simp only [S.tErr, h1, h2, h3]; rfl) fun h3 => by simp only [S.tErr, h1, h2, h3]; rfl⟩) fun h2 => by simp only [S.tErr, h1, h2]; rfl⟩)
include hT hT3 hT4 hT7 hT9 hT10 hT11 in
theorem fc_load_Trip (e mo t l : Int) (nc : Nat) (c : S.Rows) (ns : Nat) (s : S.Rows) (ta tm r : Int) (nf : Nat) (f : S.Rows) (a b : Int) (K0 : Nat) (k : Nat → Nat) (li : Nat → S.Rows) (q : S.Rows) (pu : Nat → Bool) (hnc : nc ≤ maxLen) (hns : ns ≤ 1000000) (hns' : ns ≤ maxLen) (hnf : nf ≤ maxLen) (hK : K0 ≤ 1000) (hk : ∀ i, i < K0 → k i ≤ 1000000) : FCall (cs11 hbs) f_load_Trip [.ag (plC e mo t l nc (S.val c) ns (S.val s) ta tm r nf (S.val f)), .ag [.p (.int .i64 a), .p (.int .i64 b)], .c (.p (.isl 7 K0 (S.legV k li q pu)))]
    (.tp [vI .i64 (S.unX ((S.tErr (S.plane e mo t l nc c ns s ta tm r nf f) ns a b K0 (S.legV k li q pu)) != 0) (S.unA (S.from_ (S.sureH e mo t l nc c ns s ta tm r nf f (S.ptV a b nf (S.legV k li q pu))) (2 * K0) 0) (S.fst (S.sureH e mo t l nc c ns s ta tm r nf f (S.ptV a b nf (S.legV k li q pu))) (2 * K0) 0)) 0), vI .i64 (S.unX ((S.tErr (S.plane e mo t l nc c ns s ta tm r nf f) ns a b K0 (S.legV k li q pu)) != 0) (S.unX (S.from_ (S.sureH e mo t l nc c ns s ta tm r nf f (S.ptV a b nf (S.legV k li q pu))) (2 * K0) 0) (S.broR (S.ruH e mo t l nc c ns s ta tm r nf f (S.ptV a b nf (S.legV k li q pu)) (S.fst (S.sureH e mo t l nc c ns s ta tm r nf f (S.ptV a b nf (S.legV k li q pu))) (2 * K0) 0))) 1) 0), vI .i64 (S.unX ((S.tErr (S.plane e mo t l nc c ns s ta tm r nf f) ns a b K0 (S.legV k li q pu)) != 0) (S.unX (S.from_ (S.sureH e mo t l nc c ns s ta tm r nf f (S.ptV a b nf (S.legV k li q pu))) (2 * K0) 0) (S.broI (S.ruH e mo t l nc c ns s ta tm r nf f (S.ptV a b nf (S.legV k li q pu)) (S.fst (S.sureH e mo t l nc c ns s ta tm r nf f (S.ptV a b nf (S.legV k li q pu))) (2 * K0) 0))) 0) 0), vI .i64 (S.tErr (S.plane e mo t l nc c ns s ta tm r nf f) ns a b K0 (S.legV k li q pu))]) [] := by
  refine fcall_k hT11 (F := F_load_Trip) rfl (vc_load_Trip e mo t l nc c ns s ta tm r nf f a b K0 k li q pu _) ⟨fc_load_tripError hT hT3 hT11 e mo t l nc c ns s ta tm r nf f a b K0 k li q pu hnc hns hns' hnf hK hk, brP (fun h1 => ?_) fun h1 => ?_⟩
  · simp only [h1, S.unX]; rfl
  · obtain ⟨h2, h3⟩ := S.tErr_0 h1
    refine ⟨FCall.cfg (C := cs10 hbs) (C' := cs11 hbs) rfl rfl (fc_load_unsure hT hT3 hT4 hT7 hT9 hT10 e mo t l nc c ns s ta tm r nf f a b K0 k li q pu (S.plane_ok h2) (S.tr_ok h3)), ?_⟩
    have h0 : (S.tErr (S.plane e mo t l nc c ns s ta tm r nf f) ns a b K0 (S.legV k li q pu)) = 0 := by simpa using h1
    rw [h0]
    rfl
end
end Go.Ab.B
namespace Go.Ab.S
section
variable {e mo t l : Int} {nc : Nat} {c : Rows} {ns : Nat} {s : Rows} {ta tm r : Int} {nf : Nat} {f : Rows} {n : Nat} {it : Rows} {lo hi : Int} {m : Nat} {wt : Rows} {ld : Bool}
end
structure Nar (K0 : Nat) (k : Nat → Nat) (li li' : Nat → Rows) (q q' : Rows) (a b a' b' : Int) : Prop where
  hab : a ≤ a' ∧ a' ≤ b' ∧ b' ≤ b
  hit : ∀ i, i < K0 → ∀ j, j < k i → li' i j 0 = li i j 0 ∧ li i j 1 ≤ li' i j 1 ∧ li' i j 1 ≤ li' i j 2 ∧ li' i j 2 ≤ li i j 2
  hq : ∀ i, i < K0 → q' i 0 = q i 0 ∧ (q i 1 ≤ q' i 1 ∧ q' i 1 ≤ q' i 2 ∧ q' i 2 ≤ q i 2) ∧ (q i 3 ≤ q' i 3 ∧ q' i 3 ≤ q' i 4 ∧ q' i 4 ≤ q i 4)
end Go.Ab.S
