/- A part of the proof. -/
import Derived.Test.YtfmbdlfpbhpieaaGreatDoorLd
import Derived.Test.YtfmbdlfpbhpieaaGreatDoorLe
set_option linter.all false
set_option maxRecDepth 100000
namespace Go.Ab.S
section
variable {e mo t l : Int} {nc : Nat} {c : Rows} {ns : Nat} {s : Rows} {ta tm r : Int} {nf : Nat} {f : Rows} {n : Nat} {it : Rows} {lo hi : Int} {m : Nat} {wt : Rows} {ld : Bool}
theorem zw2 (h : zue e mo t l nc c ns s ta tm r nf f n it lo hi m wt ld) : (broR (ruP e mo t l nc c ns s ta tm r nf f n it lo hi m wt ld) == 1) = true := by
  rcases bro_spec (ruP e mo t l nc c ns s ta tm r nf f n it lo hi m wt ld) with ⟨h1, _⟩ | ⟨R, N, g, i, h1, _, h3, h4⟩
  · simp only [broR, h1]; rfl
  · exfalso
    rcases rule_mem h1 with ⟨_, hN, rfl⟩ | ⟨_, hN, rfl⟩ | ⟨_, hN, rfl⟩ | ⟨_, hN, rfl⟩ | ⟨_, hN, rfl⟩ | ⟨_, hN, rfl⟩ <;> rw [hN] at h3
    · have := h.over i h3
      simp only [subR] at h4
      omega
    · have := h.full
      obtain rfl : i = 0 := by omega
      have h4 : tm - hi < 0 := h4
      omega
    · have := h.wet i h3
      simp only [wetR] at h4
      omega
    · have := h.heavy
      obtain rfl : i = 0 := by omega
      have h4 : heavyX e t l ld (n + 1 + m) (parts n it s lo hi ta wt f) < 0 := h4
      omega
    · have := h.out i h3
      omega
    · cases ld
      · simp [b01] at h3
      · have := h.short rfl
        have : i = 0 := by simp [b01] at h3; exact h3
        subst this
        have h4 : lo - r < 0 := h4
        omega
end
structure Nar (K0 : Nat) (k : Nat → Nat) (li li' : Nat → Rows) (q q' : Rows) (a b a' b' : Int) : Prop where
  hab : a ≤ a' ∧ a' ≤ b' ∧ b' ≤ b
  hit : ∀ i, i < K0 → ∀ j, j < k i → li' i j 0 = li i j 0 ∧ li i j 1 ≤ li' i j 1 ∧ li' i j 1 ≤ li' i j 2 ∧ li' i j 2 ≤ li i j 2
  hq : ∀ i, i < K0 → q' i 0 = q i 0 ∧ (q i 1 ≤ q' i 1 ∧ q' i 1 ≤ q' i 2 ∧ q' i 2 ≤ q i 2) ∧ (q i 3 ≤ q' i 3 ∧ q' i 3 ≤ q' i 4 ∧ q' i 4 ≤ q i 4)
def spN (ns nf nc : Nat) (ld : Bool) : Nat := ((((ns + 1) + nf) + 1) + nc) + b01 ld
def spR (e mo t l : Int) (nc : Nat) (c : Rows) (ns : Nat) (s : Rows) (tm r : Int) (nf : Nat) (f : Rows) (n : Nat) (it : Rows) (lo hi : Int) (wt : Rows) (ld : Bool) (k : Nat) (p : Rows) : Rows := fun i j =>
  if i < (((ns + 1) + nf) + 1) + nc then (if i < ((ns + 1) + nf) + 1 then (if i < (ns + 1) + nf then (if i < ns + 1 then (if i < ns then subR s (stS n it) i j else tm - hi) else wetR f wt (i - (ns + 1)) j) else heavyX e t l ld k p) else outR e mo nc c k p (i - (((ns + 1) + nf) + 1)) j) else lo - r
def enL (w d : Int) : Int := match decide (w < 0) with
  | true => (match decide (d ≤ 0) with | true => 0 | false => Int.tdiv (d - 1 - w) d)
  | false => 0
def enH (w d : Int) : Int := match decide (w < 0) with
  | true => (match decide (d ≤ 0) with | true => -1 | false => 20000)
  | false => (match decide (d < 0) with | true => Int.tdiv w (0 - d) | false => 20000)
def cmL (a : Int) (F : Rows) : Nat → Int
  | 0 => a
  | j + 1 => mx (cmL a F j) (enL (F j 0) (F j 1))
def cmH (b : Int) (F : Rows) : Nat → Int
  | 0 => b
  | j + 1 => mn (cmH b F j) (enH (F j 0) (F j 1))
def spH (e mo t l : Int) (nc : Nat) (c : Rows) (ns : Nat) (s : Rows) (ta tm r : Int) (nf : Nat) (f : Rows) (h : Nat → Nat → PV) (j : Nat) : Rows :=
  spR e mo t l nc c ns s tm r nf f (lN (h j 0)) (lR (h j 0)) (lI (h j 1)) (lI (h j 2)) (lR (h j 3)) (lB (h j 4)) (lN (h j 0) + 1 + lN (h j 3)) (parts (lN (h j 0)) (lR (h j 0)) s (lI (h j 1)) (lI (h j 2)) ta (lR (h j 3)) f)
def spM (ns nf nc : Nat) (h : Nat → Nat → PV) (j : Nat) : Nat := spN ns nf nc (lB (h j 4))
def flN (cnt : Nat → Nat) : Nat → Nat
  | 0 => 0
  | j + 1 => flN cnt j + cnt j
def catP (I : Nat) (G u v : Rows) : Rows := fun i k => if i < I then G i k else (match k with
  | 0 => u (i - I) 0
  | _ => v (i - I) 0 - u (i - I) 0)
def flR (cnt : Nat → Nat) (u v : Nat → Rows) : Nat → Rows
  | 0 => fun _ _ => 0
  | j + 1 => catP (flN cnt j) (flR cnt u v j) (u j) (v j)
def fsN (ns nf nc n : Nat) (g : Nat → Nat → PV) : Nat := flN (spM ns nf nc (ptV 0 0 nf g)) (2 * n)
def fsR (e mo t l : Int) (nc : Nat) (c : Rows) (ns : Nat) (s : Rows) (ta tm r : Int) (nf : Nat) (f : Rows) (n : Nat) (g : Nat → Nat → PV) : Rows := flR (spM ns nf nc (ptV 0 0 nf g)) (spH e mo t l nc c ns s ta tm r nf f (ptV 0 0 nf g)) (spH e mo t l nc c ns s ta tm r nf f (ptV 1 1 nf g)) (2 * n)
def fbL (e mo t l : Int) (nc : Nat) (c : Rows) (ns : Nat) (s : Rows) (ta tm r : Int) (nf : Nat) (f : Rows) (n : Nat) (g : Nat → Nat → PV) : Int := cmL 0 (fsR e mo t l nc c ns s ta tm r nf f n g) (fsN ns nf nc n g)
def fbH (e mo t l : Int) (nc : Nat) (c : Rows) (ns : Nat) (s : Rows) (ta tm r : Int) (nf : Nat) (f : Rows) (n : Nat) (g : Nat → Nat → PV) : Int := cmH 20000 (fsR e mo t l nc c ns s ta tm r nf f n g) (fsN ns nf nc n g)
def fuE (e mo t l : Int) (nc : Nat) (c : Rows) (ns : Nat) (s : Rows) (ta tm r : Int) (nf : Nat) (f : Rows) (n : Nat) (g : Nat → Nat → PV) : Int := match tE e mo t l nc c ns s ta tm r nf f 0 0 n g != 0 with
  | true => tE e mo t l nc c ns s ta tm r nf f 0 0 n g
  | false => match decide (fbL e mo t l nc c ns s ta tm r nf f n g > fbH e mo t l nc c ns s ta tm r nf f n g) with
    | true => 5
    | false => 0
def fuN (e mo t l : Int) (nc : Nat) (c : Rows) (ns : Nat) (s : Rows) (ta tm r : Int) (nf : Nat) (f : Rows) (n : Nat) (g : Nat → Nat → PV) : Int := match tE e mo t l nc c ns s ta tm r nf f 0 0 n g != 0 with
  | true => 0
  | false => match decide (fbL e mo t l nc c ns s ta tm r nf f n g > fbH e mo t l nc c ns s ta tm r nf f n g) with
    | true => 0
    | false => fbL e mo t l nc c ns s ta tm r nf f n g
end Go.Ab.S
namespace Go.Ab.B
open Go.Proofs
def zg7 : List AV → Option (AV × Heap)
  | [.c (.p (.ipt 16 g))] => match g 0, g 1, g 2, g 3, g 4, g 5, g 7, g 8, g 9, g 10, g 11, g 12, g 13, g 14, g 15 with
    | .int .i64 e, .int .i64 mo, .int .i64 t, .int .i64 l, .isl 2 nc c, .isl 2 ns s, .int .i64 tm, .int .i64 r, .isl 2 nf f, .isl 3 n it, .int .i64 lo, .int .i64 hi, .isl 2 m wt, .bool ld, .isl 5 k p =>
      some (.c (.p (.isl 1 (S.spN ns nf nc ld) (S.val (S.spR e mo t l nc (S.num c) ns (S.num s) tm r nf (S.num f) n (S.num it) lo hi (S.num wt) ld k (S.num p))))), [])
    | _, _, _, _, _, _, _, _, _, _, _, _, _, _, _ => none
  | _ => none
def znb : List AV → Option (AV × Heap)
  | [.ag [.p (.int .i64 w), .p (.int .i64 d)]] => some (.ag [.p (.int .i64 (S.enL w d)), .p (.int .i64 (S.enH w d))], [])
  | _ => none
def znc : List AV → Option (AV × Heap)
  | [.ag [.p (.int .i64 a), .p (.int .i64 b)], .c (.p (.isl 2 n F)), _] => some (.ag [.p (.int .i64 (S.cmL a (S.num F) n)), .p (.int .i64 (S.cmH b (S.num F) n))], [])
  | _ => none
def zg8 : List AV → Option (AV × Heap)
  | [.ag [.p (.int .i64 e), .p (.int .i64 mo), .p (.int .i64 t), .p (.int .i64 l), .p (.isl 2 nc c), .p (.isl 2 ns s), .p (.int .i64 ta), .p (.int .i64 tm), .p (.int .i64 r), .p (.isl 2 nf f)], .c (.p (.isl 7 n g))] => some (.c (.p (.isl 2 (S.fsN ns nf nc n g) (S.val (S.fsR e mo t l nc (S.num c) ns (S.num s) ta tm r nf (S.num f) n g)))), [])
  | _ => none
def zg9 : List AV → Option (AV × Heap)
  | [.ag [.p (.int .i64 e), .p (.int .i64 mo), .p (.int .i64 t), .p (.int .i64 l), .p (.isl 2 nc c), .p (.isl 2 ns s), .p (.int .i64 ta), .p (.int .i64 tm), .p (.int .i64 r), .p (.isl 2 nf f)], .c (.p (.isl 7 n g))] => some (.ag [.p (.int .i64 (S.fbL e mo t l nc (S.num c) ns (S.num s) ta tm r nf (S.num f) n g)), .p (.int .i64 (S.fbH e mo t l nc (S.num c) ns (S.num s) ta tm r nf (S.num f) n g))], [])
  | _ => none
def zg0 : List AV → Option (AV × Heap)
  | [.ag [.p (.int .i64 e), .p (.int .i64 mo), .p (.int .i64 t), .p (.int .i64 l), .p (.isl 2 nc c), .p (.isl 2 ns s), .p (.int .i64 ta), .p (.int .i64 tm), .p (.int .i64 r), .p (.isl 2 nf f)], .c (.p (.isl 7 n g))] => some (.tp [vI .i64 (S.fuN e mo t l nc (S.num c) ns (S.num s) ta tm r nf (S.num f) n g), vI .i64 (S.fuE e mo t l nc (S.num c) ns (S.num s) ta tm r nf (S.num f) n g)], [])
  | _ => none
def Sp14 (f : Nat) (l : List AV) : Option (AV × Heap) := bif Nat.beq f z2j then zg7 l else bif Nat.beq f z1t then znb l else bif Nat.beq f z1w then znc l else bif Nat.beq f z41 then zg8 l else bif Nat.beq f z6c then zg9 l else bif Nat.beq f z2o then zg0 l else Sp12 f l
def znd (s : St) : Option LTree :=
  match s.h, Tr.get (.i (.i (.o .h))) s.t with
  | b0 :: b1 :: _, .c (.p (.isl 2 n F)) => match b0 with
    | some (.box ts [.p (.int .i64 a), .p (.int .i64 b)]) => some (.e (.exit 0) ⟨setAll [(.i (.i .h), .c (.pt 1 0)), (.o (.o .h), .c (.pt 0 0))], [some (.box ts [.p (.int .i64 (S.cmL a (S.num F) n)), .p (.int .i64 (S.cmH b (S.num F) n))]), b1]⟩)
    | _ => none
  | _, _ => none
def z8o (j : Nat) (s : St) : Option LTree :=
  match s.h, Tr.get (.o (.o (.i (.o .h)))) s.t, Tr.get (.i (.i .h)) s.t, Tr.get (.i (.o (.i (.o .h)))) s.t, Tr.get (.o (.i (.i (.o .h)))) s.t with
  | b0 :: rest, .c (.p (.isl 5 N h)), .c (.p (.isl 5 _ h2)), vN, vi => match j with
    | 1 => match b0 with
      | some (.box _ [.p (.int .i64 e), .p (.int .i64 mo), .p (.int .i64 t), .p (.int .i64 l), .p (.isl 2 nc c), .p (.isl 2 ns st), .p (.int .i64 ta), .p (.int .i64 tm), .p (.int .i64 r), .p (.isl 2 nf f)]) =>
        some (.e (.exit 0) ⟨setAll [(.o (.i .h), .c (.sl 1 0 (S.flN (S.spM ns nf nc h) N)))], [none, some (.arr 2 z1x (S.flN (S.spM ns nf nc h) N) (S.val (S.flR (S.spM ns nf nc h) (S.spH e mo t l nc (S.num c) ns (S.num st) ta tm r nf (S.num f) h) (S.spH e mo t l nc (S.num c) ns (S.num st) ta tm r nf (S.num f) h2) N)) [])]⟩)
      | _ => none
    | _ => match rest, Tr.get (.o (.i (.o .h))) s.t, Tr.get (.i (.o (.i (.o (.o .h))))) s.t with
      | b1 :: _, .c (.p (.isl 1 M v)), .c (.p (.isl 1 _ u)) => match b1 with
        | some (.arr 2 ty I g _) => some (.e (.exit 2) ⟨setAll [(.i (.i .h), .c (.p (.isl 5 N h2))), (.i (.o (.i (.o .h))), vN), (.i .h, .c (.pt 0 0)), (.o (.i (.i (.o .h))), vi), (.o (.i .h), .c (.sl 1 0 (I + M))), (.o (.o (.i (.o .h))), .c (.p (.isl 5 N h)))], [b0, some (.arr 2 ty (I + M) (S.val (S.catP I (S.num g) (S.num u) (S.num v))) [])]⟩)
        | _ => none
      | _, _, _ => none
  | _, _, _, _, _ => none
def Lp14 (n0 : Nat) (a : MC) (s : St) : Option LTree := bif Nat.beq (keyM a 0) z6j then znd s else bif Nat.beq (keyM a 0) zb5 then z8o 1 s else bif Nat.beq (keyM a 0) zb4 then z8o 2 s else Lp12 n0 a s
def cs14 {P : Program} (hbs : BsOk P) : Cfg := { cs12 hbs with Sp := Sp14, Lp := Lp14 }
end Go.Ab.B
namespace Go.Ab.S
theorem tdiv_in {x d : Int} (h0 : 0 ≤ x) (hd : 0 < d) : 0 ≤ Int.tdiv x d ∧ Int.tdiv x d ≤ x := by
  rw [Int.tdiv_eq_ediv_of_nonneg h0]
  exact ⟨Int.ediv_nonneg h0 (by omega), Int.ediv_le_self _ h0⟩
theorem zwi {w d a : Int} (h0 : 0 ≤ a) (h9 : a ≤ 20000) : (enL w d ≤ a ∧ a ≤ enH w d) ↔ 0 ≤ w + a * d := by
  unfold enL enH
  by_cases hw : w < 0
  · rw [decide_eq_true hw]
    by_cases hd : d ≤ 0
    · rw [decide_eq_true hd]
      have : a * d ≤ 0 := Int.mul_nonpos_of_nonneg_of_nonpos h0 hd
      constructor
      · intro h; have := h.2; simp only [] at this; omega
      · intro h; omega
    · rw [decide_eq_false hd]
      simp only []
      have hd' : 0 < d := by omega
      rw [Int.tdiv_eq_ediv_of_nonneg (by omega)]
      have key : (d - 1 - w) / d < a + 1 ↔ d - 1 - w < (a + 1) * d := Int.ediv_lt_iff_lt_mul hd'
      have e : (a + 1) * d = a * d + d := by rw [Int.add_mul, Int.one_mul]
      rw [e] at key
      generalize a * d = z at *
      generalize (d - 1 - w) / d = y at *
      constructor
      · intro h
        have := key.1 (by omega)
        omega
      · intro h
        have := key.2 (by omega)
        omega
  · rw [decide_eq_false hw]
    by_cases hd : d < 0
    · rw [decide_eq_true hd]
      simp only []
      rw [Int.tdiv_eq_ediv_of_nonneg (by omega)]
      have key : a ≤ w / (0 - d) ↔ a * (0 - d) ≤ w := Int.le_ediv_iff_mul_le (by omega)
      have e : a * (0 - d) = 0 - a * d := by rw [Int.mul_sub, Int.mul_zero]
      rw [e] at key
      generalize a * d = z at *
      generalize w / (0 - d) = y at *
      constructor
      · intro h
        have := key.1 h.2
        omega
      · intro h
        exact ⟨h0, key.2 (by omega)⟩
    · rw [decide_eq_false hd]
      have : 0 ≤ a * d := Int.mul_nonneg h0 (by omega)
      exact ⟨fun _ => by omega, fun _ => ⟨h0, h9⟩⟩
theorem ztv {F : Rows} {a b0 h0 : Int} (h1 : 0 ≤ a) (h9 : a ≤ 20000) : ∀ n : Nat, (cmL b0 F n ≤ a ∧ a ≤ cmH h0 F n) ↔ ((b0 ≤ a ∧ a ≤ h0) ∧ ∀ j, j < n → 0 ≤ F j 0 + a * F j 1)
  | 0 => ⟨fun h => ⟨h, fun j hj => by omega⟩, fun h => h.1⟩
  | n + 1 => by
    have ih := ztv (F := F) (b0 := b0) (h0 := h0) h1 h9 n
    have hen := zwi (w := F n 0) (d := F n 1) h1 h9
    have hx : (cmL b0 F (n + 1) ≤ a ∧ a ≤ cmH h0 F (n + 1)) ↔ ((cmL b0 F n ≤ a ∧ a ≤ cmH h0 F n) ∧ (enL (F n 0) (F n 1) ≤ a ∧ a ≤ enH (F n 0) (F n 1))) := by
      simp only [cmL, cmH, mx, mn]
      split <;> split <;> omega
    rw [hx, ih, hen]
    constructor
    · rintro ⟨⟨h2, h3⟩, h4⟩
      refine ⟨h2, fun j hj => ?_⟩
      rcases Nat.lt_succ_iff_lt_or_eq.1 hj with h | h
      · exact h3 j h
      · subst h; exact h4
    · rintro ⟨h2, h3⟩
      exact ⟨⟨h2, fun j hj => h3 j (by omega)⟩, h3 n (by omega)⟩
theorem fl_iff {cnt : Nat → Nat} {u v : Nat → Rows} {P : Int → Int → Prop} : ∀ N : Nat, (∀ x, x < flN cnt N → P (flR cnt u v N x 0) (flR cnt u v N x 1)) ↔ ∀ j, j < N → ∀ i, i < cnt j → P (u j i 0) (v j i 0 - u j i 0)
  | 0 => ⟨fun _ j hj => by omega, fun _ x hx => by simp [flN] at hx⟩
  | N + 1 => by
    have ih := fl_iff (cnt := cnt) (u := u) (v := v) (P := P) N
    constructor
    · intro h j hj i hi
      rcases Nat.lt_succ_iff_lt_or_eq.1 hj with h2 | h2
      · refine ih.1 (fun x hx => ?_) j h2 i hi
        have := h x (by simp only [flN]; omega)
        simp only [flR, catP, hx, if_true] at this
        exact this
      · subst h2
        have := h (flN cnt j + i) (by simp only [flN]; omega)
        have hn : ¬ flN cnt j + i < flN cnt j := by omega
        simp only [flR, catP, hn, if_false, show flN cnt j + i - flN cnt j = i by omega] at this
        exact this
    · intro h x hx
      simp only [flN] at hx
      by_cases h2 : x < flN cnt N
      · simp only [flR, catP, h2, if_true]
        exact ih.2 (fun j hj i hi => h j (by omega) i hi) x h2
      · simp only [flR, catP, h2, if_false]
        exact h N (by omega) (x - flN cnt N) (by omega)
section
variable {e mo t l : Int} {nc : Nat} {c : Rows} {ns : Nat} {s : Rows} {ta tm r : Int} {nf : Nat} {f : Rows} {n : Nat} {it : Rows} {lo hi : Int} {m : Nat} {wt : Rows} {ld : Bool} {k : Nat} {p : Rows}
theorem spR_cases {i : Nat} (h : i < spN ns nf nc ld) : (i < ns ∧ spR e mo t l nc c ns s tm r nf f n it lo hi wt ld k p i 0 = s i 1 - stS n it i) ∨ (i = ns ∧ spR e mo t l nc c ns s tm r nf f n it lo hi wt ld k p i 0 = tm - hi) ∨
    (∃ j, j < nf ∧ i = ns + 1 + j ∧ spR e mo t l nc c ns s tm r nf f n it lo hi wt ld k p i 0 = f j 1 - wt j 1) ∨ (i = ns + 1 + nf ∧ spR e mo t l nc c ns s tm r nf f n it lo hi wt ld k p i 0 = heavyX e t l ld k p) ∨
    (∃ j, j < nc ∧ i = ns + 1 + nf + 1 + j ∧ spR e mo t l nc c ns s tm r nf f n it lo hi wt ld k p i 0 = outR e mo nc c k p j 0) ∨ (i = ns + 1 + nf + 1 + nc ∧ ld = true ∧ spR e mo t l nc c ns s tm r nf f n it lo hi wt ld k p i 0 = lo - r) := by
  unfold spN at h
  unfold spR
  by_cases h5 : i < (((ns + 1) + nf) + 1) + nc
  · by_cases h4 : i < ((ns + 1) + nf) + 1
    · by_cases h3 : i < (ns + 1) + nf
      · by_cases h2 : i < ns + 1
        · by_cases h1 : i < ns
          · simp only [h5, h4, h3, h2, h1, if_true]; exact .inl ⟨trivial, rfl⟩
          · simp only [h5, h4, h3, h2, h1, if_true, if_false]; exact .inr (.inl ⟨by omega, trivial⟩)
        · simp only [h5, h4, h3, h2, if_true, if_false]; exact .inr (.inr (.inl ⟨i - (ns + 1), by omega, by omega, rfl⟩))
      · simp only [h5, h4, h3, if_true, if_false]; exact .inr (.inr (.inr (.inl ⟨by omega, trivial⟩)))
    · simp only [h5, h4, if_true, if_false]; exact .inr (.inr (.inr (.inr (.inl ⟨i - (ns + 1 + nf + 1), by omega, by omega, rfl⟩))))
  · simp only [h5, if_false]
    have : ld = true := by cases ld with
      | true => rfl
      | false => simp [b01] at h; omega
    subst this
    exact .inr (.inr (.inr (.inr (.inr ⟨by simp [b01] at h; omega, rfl, trivial⟩))))
theorem zvh {i : Nat} (h : i < ns) : spR e mo t l nc c ns s tm r nf f n it lo hi wt ld k p i 0 = s i 1 - stS n it i := by
  simp only [spR, show i < ns + 1 + nf + 1 + nc by omega, show i < ns + 1 + nf + 1 by omega, show i < ns + 1 + nf by omega, show i < ns + 1 by omega, h, if_true]; rfl
theorem zt4 : spR e mo t l nc c ns s tm r nf f n it lo hi wt ld k p ns 0 = tm - hi := by
  simp only [spR, show ns < ns + 1 + nf + 1 + nc by omega, show ns < ns + 1 + nf + 1 by omega, show ns < ns + 1 + nf by omega, show ns < ns + 1 by omega, show ¬ ns < ns by omega, if_true, if_false]
theorem zvi {j : Nat} (h : j < nf) : spR e mo t l nc c ns s tm r nf f n it lo hi wt ld k p (ns + 1 + j) 0 = f j 1 - wt j 1 := by
  simp only [spR, show ns + 1 + j < ns + 1 + nf + 1 + nc by omega, show ns + 1 + j < ns + 1 + nf + 1 by omega, show ns + 1 + j < ns + 1 + nf by omega, show ¬ ns + 1 + j < ns + 1 by omega, show ns + 1 + j - (ns + 1) = j by omega, if_true, if_false]; rfl
theorem zvj : spR e mo t l nc c ns s tm r nf f n it lo hi wt ld k p (ns + 1 + nf) 0 = heavyX e t l ld k p := by
  simp only [spR, show ns + 1 + nf < ns + 1 + nf + 1 + nc by omega, show ns + 1 + nf < ns + 1 + nf + 1 by omega, show ¬ ns + 1 + nf < ns + 1 + nf by omega, if_true, if_false]
theorem zvk {j : Nat} (h : j < nc) : spR e mo t l nc c ns s tm r nf f n it lo hi wt ld k p (ns + 1 + nf + 1 + j) 0 = outR e mo nc c k p j 0 := by
  simp only [spR, show ns + 1 + nf + 1 + j < ns + 1 + nf + 1 + nc by omega, show ¬ ns + 1 + nf + 1 + j < ns + 1 + nf + 1 by omega, show ns + 1 + nf + 1 + j - (ns + 1 + nf + 1) = j by omega, if_true, if_false]
theorem zvl : spR e mo t l nc c ns s tm r nf f n it lo hi wt ld k p (ns + 1 + nf + 1 + nc) 0 = lo - r := by
  simp only [spR, show ¬ ns + 1 + nf + 1 + nc < ns + 1 + nf + 1 + nc by omega, if_false]
theorem zqj (hmf : m = nf) : (broR (ruP e mo t l nc c ns s ta tm r nf f n it lo hi m wt ld) == 1) = true ↔ ∀ i, i < spN ns nf nc ld → 0 ≤ spR e mo t l nc c ns s tm r nf f n it lo hi wt ld (n + 1 + m) (parts n it s lo hi ta wt f) i 0 := by
  constructor
  · intro h i hi'
    have hs := zw1 h
    rcases spR_cases (e := e) (mo := mo) (t := t) (l := l) (c := c) (s := s) (tm := tm) (r := r) (f := f) (n := n) (it := it) (lo := lo) (hi := hi) (wt := wt) (k := n + 1 + m) (p := parts n it s lo hi ta wt f) hi' with ⟨h1, h2⟩ | ⟨h1, h2⟩ | ⟨j, h1, _, h2⟩ | ⟨h1, h2⟩ | ⟨j, h1, _, h2⟩ | ⟨h1, h3, h2⟩ <;> rw [h2]
    · have := hs.over i h1; omega
    · have := hs.full; omega
    · have := hs.wet j h1; omega
    · exact hs.heavy
    · exact hs.out j h1
    · have := hs.short h3; omega
  · intro h
    refine zw2 ⟨fun i hi' => ?_, ?_, fun i hi' => ?_, ?_, fun i hi' => ?_, fun hl => ?_⟩
    · have := h i (by unfold spN; omega); rw [zvh hi'] at this; omega
    · have := h ns (by unfold spN; omega); rw [zt4] at this; omega
    · have := h (ns + 1 + i) (by unfold spN; omega); rw [zvi hi'] at this; omega
    · have := h (ns + 1 + nf) (by unfold spN; omega); rw [zvj] at this; exact this
    · have := h (ns + 1 + nf + 1 + i) (by unfold spN; omega); rw [zvk hi'] at this; exact this
    · have := h (ns + 1 + nf + 1 + nc) (by unfold spN; rw [hl]; simp [b01]); rw [zvl] at this; omega
theorem zwj : sumR (pH (parts n it s lo hi ta wt f)) (n + 1 + m) 0 = sumR (fun j => it j 2) n 0 + hi + sumR (fun j => wt j 1) m 0 := by
  rw [z96]
  congr 1
  · congr 1
    · exact z1n fun j _ hj => by show parts n it s lo hi ta wt f j 1 = _; rw [parts_it (show j < n by omega)]; rfl
    · show parts n it s lo hi ta wt f n 1 = hi; rw [parts_tk]; rfl
  · exact z1n fun j _ hj => by show parts n it s lo hi ta wt f (n + 1 + j) 1 = _; rw [parts_wt]; rfl
theorem zwk (u v z : Int) : mn (u + z) (v + z) = mn u v + z := by unfold mn; split <;> split <;> omega
theorem sum_lean (i : Nat) : sumR (leanW nc c (parts n it s lo hi ta wt f) i) (n + 1 + m) 0 = sumR (fun j => mn (((c (nxt nc i) 0 - c i 0) * s (it j 0).toNat 0 - (c (nxt nc i) 1 - c i 1)) * it j 1) (((c (nxt nc i) 0 - c i 0) * s (it j 0).toNat 0 - (c (nxt nc i) 1 - c i 1)) * it j 2)) n 0 +
    mn (((c (nxt nc i) 0 - c i 0) * ta - (c (nxt nc i) 1 - c i 1)) * lo) (((c (nxt nc i) 0 - c i 0) * ta - (c (nxt nc i) 1 - c i 1)) * hi) + sumR (fun j => mn (((c (nxt nc i) 0 - c i 0) * f j 0 - (c (nxt nc i) 1 - c i 1)) * wt j 0) (((c (nxt nc i) 0 - c i 0) * f j 0 - (c (nxt nc i) 1 - c i 1)) * wt j 1)) m 0 := by
  rw [z96]
  congr 1
  · congr 1
    · exact z1n fun j _ hj => by simp only [leanW, leanE, parts_it (show j < n by omega), pick5]
    · simp only [leanW, leanE, parts_tk, pick5]
  · exact z1n fun j _ hj => by simp only [leanW, leanE, parts_wt, pick5]
theorem zvy {i : Nat} (h : i < spN ns nf nc ld) : ∃ A B : Int, ∀ x, spR e mo t l nc c ns s tm r nf f n it (lo + x) (hi + x) wt ld (n + 1 + m) (parts n it s (lo + x) (hi + x) ta wt f) i 0 = A + x * B := by
  rcases spR_cases (e := e) (mo := mo) (t := t) (l := l) (c := c) (s := s) (tm := tm) (r := r) (f := f) (n := n) (it := it) (lo := lo) (hi := hi) (wt := wt) (k := n + 1 + m) (p := parts n it s lo hi ta wt f) h with ⟨h1, h2⟩ | ⟨h1, h2⟩ | ⟨j, h1, h3, h2⟩ | ⟨h1, h2⟩ | ⟨j, h1, h3, h2⟩ | ⟨h1, h3, h2⟩
  · exact ⟨s i 1 - stS n it i, 0, fun x => by rw [zvh h1]; omega⟩
  · subst h1; exact ⟨tm - hi, -1, fun x => by rw [zt4]; omega⟩
  · subst h3; exact ⟨f j 1 - wt j 1, 0, fun x => by rw [zvi h1]; omega⟩
  · subst h1
    refine ⟨(match ld with | true => l | false => t) - (e + (sumR (fun j => it j 2) n 0 + hi + sumR (fun j => wt j 1) m 0)), -1, fun x => ?_⟩
    rw [zvj]
    simp only [heavyX, zwj]
    cases ld <;> simp only [] <;> omega
  · subst h3
    refine ⟨outR e mo nc c (n + 1 + m) (parts n it s lo hi ta wt f) j 0, (c (nxt nc j) 0 - c j 0) * ta - (c (nxt nc j) 1 - c j 1), fun x => ?_⟩
    rw [zvk h1]
    simp only [outR, sum_lean]
    generalize (c (nxt nc j) 0 - c j 0) * ta - (c (nxt nc j) 1 - c j 1) = z
    rw [Int.mul_add, Int.mul_add, zwk, Int.mul_comm z x]
    omega
  · subst h1
    exact ⟨lo - r, 1, fun x => by rw [zvl]; omega⟩
theorem spR_in (hp : PlOk e mo t l nc c ns s ta tm r nf f) (hq : PtOk ns nf n it lo hi m wt) {i : Nat} (h : i < spN ns nf nc ld) : -300000000000000 ≤ spR e mo t l nc c ns s tm r nf f n it lo hi wt ld (n + 1 + m) (parts n it s lo hi ta wt f) i 0 ∧ spR e mo t l nc c ns s tm r nf f n it lo hi wt ld (n + 1 + m) (parts n it s lo hi ta wt f) i 0 ≤ 300000000000000 := by
  have b1 := hp.he
  have b2 := hp.hmo
  have b3 := hp.ht
  have b4 := hp.hl
  have b5 := hp.hr
  have b6 := hp.htm
  have b7 := hq.htk
  have b8 := hq.hn
  have b9 := hq.hm
  have b10 := hp.hnf
  have hpp := fun j h => parts_in hp hq j h
  rcases spR_cases (e := e) (mo := mo) (t := t) (l := l) (c := c) (s := s) (tm := tm) (r := r) (f := f) (n := n) (it := it) (lo := lo) (hi := hi) (wt := wt) (k := n + 1 + m) (p := parts n it s lo hi ta wt f) h with ⟨h1, h2⟩ | ⟨h1, h2⟩ | ⟨j, h1, h3, h2⟩ | ⟨h1, h2⟩ | ⟨j, h1, h3, h2⟩ | ⟨h1, h3, h2⟩ <;> rw [h2]
  · have q := sumR_in (f := atR it (ends it 1 true) i) (B := 20000) (k := n) (i := 0) fun j _ h => atR_in (by omega) (by have := hq.hit j (by omega); omega)
    have q2 := hp.hs i h1
    unfold stS
    omega
  · omega
  · have q1 := hp.hf j h1
    have q2 := hq.hwt j (by omega)
    omega
  · have q := sumR_in (f := pH (parts n it s lo hi ta wt f)) (B := 140000) (k := n + 1 + m) (i := 0) fun j _ h => (hpp j (by omega)).2.1
    simp only [heavyX]
    cases ld <;> simp only [] <;> omega
  · obtain ⟨c1, c2, c3, c4, c5, c6⟩ := sd_in (w := e) (m := mo) hp.hcor h1 (by omega) (by omega) (by omega) (by omega)
    have q := sumR_in (f := leanW nc c (parts n it s lo hi ta wt f) j) (B := 8400000000000) (k := n + 1 + m) (i := 0) fun x _ h => (leanE_in c1 c3 c2 c4 ⟨(hpp x (by omega)).1, (hpp x (by omega)).2.1, (hpp x (by omega)).2.2.1⟩).2.2.2.2
    simp only [outR, sd]
    omega
  · omega
end
end Go.Ab.S
namespace Go.Ab.B
open Go.Proofs
section
variable {hbs : BsOk Tryz.prog}
theorem zf2 (e mo t l : Int) (nc : Nat) (c : S.Rows) (ns : Nat) (s : S.Rows) (ta tm r : Int) (nf : Nat) (f : S.Rows) (n : Nat) (it : S.Rows) (lo hi : Int) (m : Nat) (wt : S.Rows) (ld : Bool) (k : Nat) (p : S.Rows) (Q : AV → Heap → Prop) :
 ((fun (A0 : AV) => (((FCall (cs14 hbs) z2s [A0] (.c (.p (.isl 1 ns (S.val (S.subR s (S.stS n it)))))) []) ∧
 (CdP (.le (ns * 8) 140737488355328)
 ((FCall (cs14 hbs) z2t [A0] (.c (.p (.isl 1 1 (S.oneV (tm - hi))))) []) ∧
 (CdP (.le ns ns)
 (CdP (.le ns ns)
 (CdP (.le ((ns + 1) * 8) 140737488355328)
 ((FCall (cs14 hbs) z39 [A0] (.c (.p (.isl 1 nf (S.val (S.wetR f wt))))) []) ∧
 (CdP (.le (ns + 1) (ns + 1))
 (CdP (.le (ns + 1) (ns + 1))
 (CdP (.le (((ns + 1) + nf) * 8) 140737488355328)
 ((FCall (cs14 hbs) z2f [A0] (.c (.p (.isl 1 1 (S.oneV (S.heavyX e t l ld k p))))) []) ∧
 (CdP (.le ((ns + 1) + nf) ((ns + 1) + nf))
 (CdP (.le ((ns + 1) + nf) ((ns + 1) + nf))
 (CdP (.le ((((ns + 1) + nf) + 1) * 8) 140737488355328)
 ((FCall (cs14 hbs) z3a [A0] (.c (.p (.isl 1 nc (S.val (S.outR e mo nc c k p))))) []) ∧
 (CdP (.le (((ns + 1) + nf) + 1) (((ns + 1) + nf) + 1))
 (CdP (.le (((ns + 1) + nf) + 1) (((ns + 1) + nf) + 1))
 (CdP (.le (((((ns + 1) + nf) + 1) + nc) * 8) 140737488355328)
 ((FCall (cs14 hbs) z1q [A0] (.c (.p (.isl 1 (S.b01 ld) (S.oneV (lo - r))))) []) ∧
 (CdP (.le ((((ns + 1) + nf) + 1) + nc) ((((ns + 1) + nf) + 1) + nc))
 (CdP (.le ((((ns + 1) + nf) + 1) + nc) ((((ns + 1) + nf) + 1) + nc))
 (CdP (.le ((((((ns + 1) + nf) + 1) + nc) + (S.b01 ld)) * 8) 140737488355328)
 (Q (.c (.sl 12 0 (((((ns + 1) + nf) + 1) + nc) + (S.b01 ld)))) [(some (.box ztn [(.ref 1), (.ref 2), (.ref 3), (.ref 4), (.ref 5), (.ref 6)])), (some (.clo z2s [A0] [])), (some (.clo z2t [A0] [])), (some (.clo z39 [A0] [])), (some (.clo z2f [A0] [])), (some (.clo z3a [A0] [])), (some (.clo z1q [A0] [])), (some (.arr 1 3 ns (S.val (S.subR s (S.stS n it))) [])), (some (.arr 1 3 (ns + 1) (fun x23 => (fun x24 => (if (x23 < ns) then (.int .i64 (S.subR s (S.stS n it) x23 x24)) else (S.oneV (tm - hi) (x23 - ns) x24)))) [7])), (some (.arr 1 3 ((ns + 1) + nf) (fun x23 => (fun x24 => (if (x23 < (ns + 1)) then (if (x23 < ns) then (.int .i64 (S.subR s (S.stS n it) x23 x24)) else (S.oneV (tm - hi) (x23 - ns) x24)) else (.int .i64 (S.wetR f wt (x23 - (ns + 1)) x24))))) [8, 7])), (some (.arr 1 3 (((ns + 1) + nf) + 1) (fun x23 => (fun x24 => (if (x23 < ((ns + 1) + nf)) then (if (x23 < (ns + 1)) then (if (x23 < ns) then (.int .i64 (S.subR s (S.stS n it) x23 x24)) else (S.oneV (tm - hi) (x23 - ns) x24)) else (.int .i64 (S.wetR f wt (x23 - (ns + 1)) x24))) else (S.oneV (S.heavyX e t l ld k p) (x23 - ((ns + 1) + nf)) x24)))) [9, 8, 7])), (some (.arr 1 3 ((((ns + 1) + nf) + 1) + nc) (fun x23 => (fun x24 => (if (x23 < (((ns + 1) + nf) + 1)) then (if (x23 < ((ns + 1) + nf)) then (if (x23 < (ns + 1)) then (if (x23 < ns) then (.int .i64 (S.subR s (S.stS n it) x23 x24)) else (S.oneV (tm - hi) (x23 - ns) x24)) else (.int .i64 (S.wetR f wt (x23 - (ns + 1)) x24))) else (S.oneV (S.heavyX e t l ld k p) (x23 - ((ns + 1) + nf)) x24)) else (.int .i64 (S.outR e mo nc c k p (x23 - (((ns + 1) + nf) + 1)) x24))))) [10, 9, 8, 7])), (some (.arr 1 3 (((((ns + 1) + nf) + 1) + nc) + (S.b01 ld)) (fun x23 => (fun x24 => (if (x23 < ((((ns + 1) + nf) + 1) + nc)) then (if (x23 < (((ns + 1) + nf) + 1)) then (if (x23 < ((ns + 1) + nf)) then (if (x23 < (ns + 1)) then (if (x23 < ns) then (.int .i64 (S.subR s (S.stS n it) x23 x24)) else (S.oneV (tm - hi) (x23 - ns) x24)) else (.int .i64 (S.wetR f wt (x23 - (ns + 1)) x24))) else (S.oneV (S.heavyX e t l ld k p) (x23 - ((ns + 1) + nf)) x24)) else (.int .i64 (S.outR e mo nc c k p (x23 - (((ns + 1) + nf) + 1)) x24))) else (S.oneV (lo - r) (x23 - ((((ns + 1) + nf) + 1) + nc)) x24)))) [11, 10, 9, 8, 7]))]))))))))))))))))))))))))) (.c (.p (.ipt 16 (S.lk e mo t l nc c ns s ta tm r nf f n it lo hi m wt ld k p))))) = (ex (cs14 hbs) 1000 0 z92 ⟨ofL 0 [lkA e mo t l nc c ns s ta tm r nf f n it lo hi m wt ld k p] .lf, []⟩ (endK z2k.rs (fun r H => .pr (Q r H)) fun _ _ => .no)).hold2 := by kernel_rfl
theorem vs_load_common (fu i : Nat) (x y : Int) (n : Nat) (F : S.Rows) (Q : AX → St → Prop) :
 ((fun (A1 : Option Blk) => ((fun (A5 : Option Blk) => ((fun (A6 : Option Blk) => ((fun (A7 : Option Blk) => ((fun (A2 : Heap) => ((fun (A8 : Option Blk) => ((fun (A9 : AV) => ((fun (A10 : Option Blk) => ((fun (A11 : Tr) => ((fun (A0 : Tr) => ((fun (A12 : CV) => ((fun (A3 : Heap) => ((fun (A4 : Heap) => ((BrP (decide ((i : Int) < (n : Int)))
 (CdP (.rng (i : Int) n)
 (BrP (decide ((F i 0) < (0 : Int)))
 (BrP (decide ((F i 1) ≤ (0 : Int)))
 (CdP (.i64 ((i : Int) + (1 : Int)))
 (Q .normal ⟨A0, [(some (.box z6 [A12, (cJ (S.mn y (-(1 : Int))))])), A7, A1, A1, A10, A8, A10]⟩))
 (BrP (decide ((F i 0) < (0 : Int)))
 (CdP (.i64 ((F i 1) - (1 : Int)))
 (CdP (.i64 (((F i 1) - (1 : Int)) - (F i 0)))
 (CdP (.ne (F i 1))
 (CdP (.i64 (Int.tdiv (((F i 1) - (1 : Int)) - (F i 0)) (F i 1)))
 (CdP (.i64 ((i : Int) + (1 : Int)))
 (Q .normal ⟨A0, A2⟩))))))
 (BrP (decide ((F i 1) < (0 : Int)))
 (CdP (.i64 ((0 : Int) - (F i 1)))
 (CdP (.ne ((0 : Int) - (F i 1)))
 (CdP (.i64 (Int.tdiv (F i 0) ((0 : Int) - (F i 1))))
 (CdP (.i64 ((i : Int) + (1 : Int)))
 (Q .normal ⟨A0, A3⟩)))))
 (CdP (.i64 ((i : Int) + (1 : Int)))
 (Q .normal ⟨A0, A4⟩)))))
 (BrP (decide ((F i 0) < (0 : Int)))
 (CdP (.i64 ((F i 1) - (1 : Int)))
 (CdP (.i64 (((F i 1) - (1 : Int)) - (F i 0)))
 (CdP (.ne (F i 1))
 (CdP (.i64 (Int.tdiv (((F i 1) - (1 : Int)) - (F i 0)) (F i 1)))
 (CdP (.i64 ((i : Int) + (1 : Int)))
 (Q .normal ⟨A0, A2⟩))))))
 (BrP (decide ((F i 1) < (0 : Int)))
 (CdP (.i64 ((0 : Int) - (F i 1)))
 (CdP (.ne ((0 : Int) - (F i 1)))
 (CdP (.i64 (Int.tdiv (F i 0) ((0 : Int) - (F i 1))))
 (CdP (.i64 ((i : Int) + (1 : Int)))
 (Q .normal ⟨A0, A3⟩)))))
 (CdP (.i64 ((i : Int) + (1 : Int)))
 (Q .normal ⟨A0, A4⟩))))))
 (Q (.exit 0) ⟨(L4 (L3 (L5 (vT 0 0) (L1 (vN n)))) (.nd (L2 (L1 (vN i))) A9 A11)), [(some (.box z6 [(cJ x), (cJ y)])), A7]⟩)))) [(some (.box z6 [A12, (cJ (S.mn y (20000 : Int)))])), A7, A1, A1, A8, A8, A8])) [(some (.box z6 [A12, (cJ (S.mn y (Int.tdiv (F i 0) ((0 : Int) - (F i 1)))))])), A7, A1, A1, A6, A6, A6])) (cJ (S.mx x (0 : Int))))) (L4 (L3 (L5 (vT 0 0) (L1 (vN n)))) (.nd (L2 (L1 (vJ ((i : Int) + (1 : Int))))) A9 A11)))) (L6 (L1 (.c (.p (.isl 2 n (S.val F))))) (vT 1 0)))) (some (.box z6 [(cJ 0), (cJ (-(1 : Int)))])))) (.c (.p (.raw (.func (.func 59) (.mk []) (.mk []))))))) (some (.box z6 [(cJ 0), (cJ 20000)])))) [(some (.box z6 [(cJ (S.mx x (Int.tdiv (((F i 1) - (1 : Int)) - (F i 0)) (F i 1)))), (cJ (S.mn y (20000 : Int)))])), A7, A1, A1, A5, A5, A5])) (some (.box z6 [(cJ 0), (cJ 0)])))) (some (.box z6 [(cJ 0), (cJ (Int.tdiv (F i 0) ((0 : Int) - (F i 1))))])))) (some (.box z6 [(cJ (Int.tdiv (((F i 1) - (1 : Int)) - (F i 0)) (F i 1))), (cJ 20000)])))) (some (.box z1x [(cJ (F i 0)), (cJ (F i 1))]))) = (ex (cs14 hbs) (fu + 60) 0 z15 ⟨setAll [(.o (.o .h), .c (.pt 0 0)), (.o (.o (.i .h)), .c (cJ n)), (.i .h, .c (.p (.raw (.func (.func z1t) #[] #[])))), (.i (.o (.i .h)), .c (cJ i)), (.i (.i .h), .c (.pt 1 0)), (.i (.i (.o .h)), .c (.p (.isl 2 n (S.val F))))], [some (.box z6 [.p (.int .i64 x), .p (.int .i64 y)]), some (.box z6 [.p (.int .i64 0), .p (.int .i64 0)])]⟩ (fun e s => .pr (Q e (z19 [.i .h, .i (.i .h), .o (.o .h), .i (.i (.o .h)), .i (.o (.i .h)), .o (.o (.i .h))] s)))).hold2 := by kernel_rfl
theorem zmv (a b : Int) (n : Nat) (F : S.Rows) (Q : AV → Heap → Prop) :
 ((fun (A0 : Option Blk) => (((za (ex (cs14 hbs) 995) 0 z15 ⟨(.nd (L6 (L5 (vT 0 0) (L1 (vN n))) (.c (.p (.isl 2 n (S.val F))))) (.ag [(cJ a), (cJ b)]) (.nd (L2 (L1 (vJ 0))) (.c (.p (.raw (.func (.func 59) (.mk []) (.mk []))))) (L6 (L1 (.c (.p (.isl 2 n (S.val F))))) (vT 1 0)))), [(some (.box z6 [(cJ a), (cJ b)])), (some (.box z6 [(cJ 0), (cJ 0)]))]⟩ (.e (.exit 0) ⟨(L4 (L3 (L1 (vT 0 0))) (L2 (L1 (vT 1 0)))), [A0, (some (.box z6 [(cJ 0), (cJ 0)]))]⟩)) ∧
 (Q (.ag [(cJ (S.cmL a F n)), (cJ (S.cmH b F n))]) [A0, A0])))) (some (.box z6 [(cJ (S.cmL a F n)), (cJ (S.cmH b F n))]))) = (ex (cs14 hbs) 1000 0 z4e ⟨ofL 0 [.ag [.p (.int .i64 a), .p (.int .i64 b)], .c (.p (.isl 2 n (S.val F))), .c (.p (.raw (.func (.func z1t) #[] #[])))] .lf, []⟩ (endK z10.rs (fun r H => .pr (Q r H)) fun _ _ => .no)).hold2 := by kernel_rfl
theorem vs_load_fuelSpares2 (fu i I j M : Nat) (e mo t l : Int) (nc : Nat) (c : S.Rows) (ns : Nat) (s : S.Rows) (ta tm r : Int) (nf : Nat) (f : S.Rows) (N : Nat) (kn : Nat → Nat) (ki : Nat → S.Rows) (pl ph pl2 ph2 : Nat → Int) (m : Nat) (kw : Nat → S.Rows) (kl : Nat → Bool) (u v G : S.Rows) (Q : AX → St → Prop) :
 ((fun (A0 : Tr) => ((fun (A1 : Tr) => ((fun (A2 : AV) => ((BrP (decide ((j : Int) < (M : Int)))
 (CdP (.rng (j : Int) M)
 (CdP (.rng (j : Int) M)
 (CdP (.i64 ((v j 0) - (u j 0)))
 (CdP (.le I I)
 (CdP (.le I I)
 (CdP (.le ((I + 1) * 16) 140737488355328)
 (CdP (.i64 ((j : Int) + (1 : Int)))
 (Q .normal ⟨(L4 (L4 A1 (.nd (L1 (.c (.p (.isl 1 M (S.val v))))) (.c (.sl 2 0 (I + 1))) (L3 (L6 (L1 (vJ (M : Int))) (vN i))))) (.nd A0 (vT 0 0) (L5 A2 (L3 (L3 (L1 (vJ ((j : Int) + (1 : Int))))))))), [(bP e mo t l nc c ns s ta tm r nf f), (some (.arr 2 112 I (S.val G) [])), (some (.arr 2 112 (I + 1) (fun x32 => (fun x33 => (if (x32 < I) then (.int .i64 (G x32 x33)) else (List.getD [(.int .i64 (u j 0)), (.int .i64 ((v j 0) - (u j 0)))] (((x32 - I) * 2) + x33) .npt)))) [1]))]⟩))))))))
 (Q (.exit 2) ⟨(L4 (L4 A1 (.nd (L1 (.c (.p (.isl 1 M (S.val v))))) (.c (.sl 1 0 I)) (L3 (L6 (L1 (vJ (M : Int))) (vN i))))) (.nd A0 (vT 0 0) (L5 A2 (L3 (L3 (L1 (vN j))))))), [(bP e mo t l nc c ns s ta tm r nf f), (some (.arr 2 112 I (S.val G) []))]⟩)))) (.c (.p (.isl 5 N (S.ptG kn ki pl2 ph2 m kw kl)))))) (L2 (L3 (L1 (.c (.p (.isl 5 N (S.ptG kn ki pl ph m kw kl))))))))) (L2 (L3 (L6 (L1 (.c (.p (.isl 1 M (S.val u))))) (vJ (N : Int)))))) = (ex (cs14 hbs) (fu + 51) 0 z2m ⟨setAll [(.o (.o (.i (.o .h))), .c (.p (.isl 5 N (S.ptG kn ki pl ph m kw kl)))), (.o (.i .h), .c (.sl 1 0 I)), (.o (.i (.i (.o .h))), .c (cJ i)), (.i .h, .c (.pt 0 0)), (.i (.o (.i (.o .h))), .c (cJ N)), (.i (.i .h), .c (.p (.isl 5 N (S.ptG kn ki pl2 ph2 m kw kl)))), (.o (.i (.o .h)), .c (.p (.isl 1 M (S.val v)))), (.o (.i (.i (.o (.o .h)))), .c (cJ M)), (.i (.o (.i (.o (.o .h)))), .c (.p (.isl 1 M (S.val u)))), (.i (.i (.i (.o (.o .h)))), .c (cJ j))], [PB e mo t l nc c ns s ta tm r nf f, some (.arr 2 z1x I (S.val G) [])]⟩ (fun e s => .pr (Q e (z19 [.i .h, .i (.i .h), .i (.o .h), .o (.i .h), .o (.i (.o .h)), .i (.o (.i (.o .h))), .o (.i (.i (.o .h))), .o (.o (.i (.o .h))), .i (.i (.i (.o (.o .h)))), .i (.o (.i (.o (.o .h)))), .o (.i (.i (.o (.o .h))))] s)))).hold2 := by kernel_rfl
theorem vs_load_fuelSpares1 (fu i I : Nat) (e mo t l : Int) (nc : Nat) (c : S.Rows) (ns : Nat) (s : S.Rows) (ta tm r : Int) (nf : Nat) (f : S.Rows) (N : Nat) (kn : Nat → Nat) (ki : Nat → S.Rows) (pl ph pl2 ph2 : Nat → Int) (m : Nat) (kw : Nat → S.Rows) (kl : Nat → Bool) (G : S.Rows) (Q : AX → St → Prop) :
 ((fun (A1 : AV) => ((fun (A2 : AV) => ((fun (A3 : AV) => ((fun (A4 : List CV) => ((fun (A5 : AV) => ((fun (A7 : AV) => ((fun (A8 : AV) => ((fun (A9 : AV) => ((fun (A10 : AV) => ((fun (A6 : Tr) => ((fun (A11 : Option Blk) => ((fun (A0 : Heap) => ((fun (A12 : AV) => ((BrP (decide ((i : Int) < (N : Int)))
 (CdP (.rng (i : Int) N)
 (CdP (.rng (i : Int) N)
 ((FCall (cs14 hbs) z6l [A9, A8] A2 []) ∧
 ((FCall (cs14 hbs) z2j [A2] A1 []) ∧
 ((FCall (cs14 hbs) z6l [A9, (.ag A4)] A3 []) ∧
 ((FCall (cs14 hbs) z2j [A3] A5 []) ∧
 ((za (ex (cs14 hbs) (fu + 51)) 0 z2m ⟨(L4 (L4 (L4 (.nd (L3 (L1 A2)) (vN i) (L1 (vN i))) (L4 (L6 (L1 A3) A7) (L1 A10))) (.nd (.nd (L3 (L1 A9)) A1 (L1 (.ag A4))) (.c (.sl 1 0 I)) (L4 (L6 (L1 (vJ (((S.spN ns nf nc (kl i)) : Nat) : Int))) (vN i)) (L1 (.c (.p (.ipt 5 (S.ptG kn ki pl2 ph2 m kw kl i)))))))) (.nd (L4 (.nd (L3 (L1 A1)) (vT 2 0) (L1 (.c (.p (.ipt 5 (S.ptG kn ki pl ph m kw kl i)))))) (L4 (L6 (L1 A5) (vJ (N : Int))) (L1 (vN i)))) (vT 0 0) (.nd (L4 (L3 (L1 (.ag A4))) (L1 A9)) A10 (L4 (L6 (L1 (vJ 0)) (vB true)) (L1 A8))))), [A11, (some (.arr 2 112 I (S.val G) [])), (some (.box t_api_LoadPoint A4))]⟩ (.e (.exit 2) ⟨(L4 (L4 (L2 (L3 (L1 A7))) (L5 A12 (L3 (L1 (vN i))))) A6), A0⟩)) ∧
 (CdP (.i64 ((i : Int) + (1 : Int)))
 (Q .normal ⟨(L4 (L4 (L2 (L3 (L1 A7))) (L5 A12 (L3 (L1 (vJ ((i : Int) + (1 : Int))))))) A6), A0⟩)))))))))
 (Q (.exit 0) ⟨(L4 (L4 (L2 (L3 (L1 A7))) (L5 (.c (.sl 1 0 I)) (L3 (L1 (vN i))))) A6), [A11, (some (.arr 2 112 I (S.val G) []))]⟩)))) (.c (.sl 1 0 (I + (S.spN ns nf nc (kl i))))))) [A11, (some (.arr 2 112 (I + (S.spN ns nf nc (kl i))) (S.val (S.catP I G (S.spR e mo t l nc c ns s tm r nf f (kn i) (ki i) (pl i) (ph i) (kw i) (kl i) (((kn i) + 1) + m) (S.parts (kn i) (ki i) s (pl i) (ph i) ta (kw i) f)) (S.spR e mo t l nc c ns s tm r nf f (kn i) (ki i) (pl2 i) (ph2 i) (kw i) (kl i) (((kn i) + 1) + m) (S.parts (kn i) (ki i) s (pl2 i) (ph2 i) ta (kw i) f)))) []))])) (bP e mo t l nc c ns s ta tm r nf f))) (.nd (L2 (L3 (L1 (vJ (N : Int))))) (vT 0 0) (L1 A10)))) (.c (.p (.isl 5 N (S.ptG kn ki pl2 ph2 m kw kl)))))) (.ag (kP e mo t l nc c ns s ta tm r nf f)))) (.ag [(.p (.isl 3 (kn i) (S.val (ki i)))), (cJ (pl2 i)), (cJ (ph2 i)), (.p (.isl 2 m (S.val (kw i)))), (.p (.bool (kl i)))]))) (.c (.p (.isl 5 N (S.ptG kn ki pl ph m kw kl)))))) (.c (.p (.isl 1 (S.spN ns nf nc (kl i)) (S.val (S.spR e mo t l nc c ns s tm r nf f (kn i) (ki i) (pl i) (ph i) (kw i) (kl i) (((kn i) + 1) + m) (S.parts (kn i) (ki i) s (pl i) (ph i) ta (kw i) f)))))))) [(.p (.isl 3 (kn i) (S.val (ki i)))), (cJ (pl i)), (cJ (ph i)), (.p (.isl 2 m (S.val (kw i)))), (.p (.bool (kl i)))])) (.c (.p (.ipt 16 (S.lk e mo t l nc c ns s ta tm r nf f (kn i) (ki i) (pl i) (ph i) m (kw i) (kl i) (((kn i) + 1) + m) (S.parts (kn i) (ki i) s (pl i) (ph i) ta (kw i) f))))))) (.c (.p (.ipt 16 (S.lk e mo t l nc c ns s ta tm r nf f (kn i) (ki i) (pl2 i) (ph2 i) m (kw i) (kl i) (((kn i) + 1) + m) (S.parts (kn i) (ki i) s (pl2 i) (ph2 i) ta (kw i) f))))))) (.c (.p (.isl 1 (S.spN ns nf nc (kl i)) (S.val (S.spR e mo t l nc c ns s tm r nf f (kn i) (ki i) (pl2 i) (ph2 i) (kw i) (kl i) (((kn i) + 1) + m) (S.parts (kn i) (ki i) s (pl2 i) (ph2 i) ta (kw i) f))))))) = (ex (cs14 hbs) (fu + 60) 0 z2n ⟨setAll [(.o (.o (.i (.o .h))), .c (.p (.isl 5 N (S.ptG kn ki pl ph m kw kl)))), (.o (.i .h), .c (.sl 1 0 I)), (.o (.i (.i (.o .h))), .c (cJ i)), (.i .h, .c (.pt 0 0)), (.i (.o (.i (.o .h))), .c (cJ N)), (.i (.i .h), .c (.p (.isl 5 N (S.ptG kn ki pl2 ph2 m kw kl))))], [PB e mo t l nc c ns s ta tm r nf f, some (.arr 2 z1x I (S.val G) [])]⟩ (fun e s => .pr (Q e (z19 [.i .h, .i (.i .h), .i (.o .h), .o (.i .h), .i (.o (.i (.o .h))), .o (.i (.i (.o .h))), .o (.o (.i (.o .h)))] s)))).hold2 := by kernel_rfl
theorem zg2 (e mo t l : Int) (nc : Nat) (c : S.Rows) (ns : Nat) (s : S.Rows) (ta tm r : Int) (nf : Nat) (f : S.Rows) (K0 : Nat) (k : Nat → Nat) (li : Nat → S.Rows) (q : S.Rows) (pu : Nat → Bool) (Q : AV → Heap → Prop) :
 ((fun (A0 : Heap) => ((fun (A1 : AV) => ((fun (A2 : AV) => ((fun (A3 : AV) => ((fun (A4 : AV) => ((fun (A5 : AV) => (((FCall (cs14 hbs) z2b [A1, (.ag [(cJ 1), (cJ 1)]), A2] A3 []) ∧
 ((FCall (cs14 hbs) z2b [A1, (.ag [(cJ 0), (cJ 0)]), A2] A5 []) ∧
 ((za (ex (cs14 hbs) 993) 0 z2n ⟨(.nd (.nd (L4 (L3 (L1 A3)) (L3 (L1 A5))) A2 (.nd (L3 (L1 (.ag [(cJ 0), (cJ 0)]))) (.c (.p .nsl)) (L6 (L1 (vJ 0)) (.ag [(cJ 1), (cJ 1)])))) A1 (.nd (.nd (L3 (L1 A1)) (.c (.p .nsl)) (L6 (L1 (vJ (((2 * K0) : Nat) : Int))) A1)) (vT 0 0) (.nd (L3 (L1 A2)) A3 (L1 A2)))), [(bP e mo t l nc c ns s ta tm r nf f)]⟩ (.e (.exit 0) ⟨(L3 (L2 (L1 A4))), A0⟩)) ∧
 (Q A4 A0)))))) (.c (.p (.isl 5 (2 * K0) (S.ptV (0 : Int) (0 : Int) nf (S.legV k li q pu))))))) (.c (.sl 1 0 (S.flN (S.spM ns nf nc (S.ptV (0 : Int) (0 : Int) nf (S.legV k li q pu))) (2 * K0)))))) (.c (.p (.isl 5 (2 * K0) (S.ptV (1 : Int) (1 : Int) nf (S.legV k li q pu))))))) (.c (.p (.isl 7 K0 (S.legV k li q pu)))))) (.ag (kP e mo t l nc c ns s ta tm r nf f)))) [none, (some (.arr 2 112 (S.flN (S.spM ns nf nc (S.ptV (0 : Int) (0 : Int) nf (S.legV k li q pu))) (2 * K0)) (S.val (S.flR (S.spM ns nf nc (S.ptV (0 : Int) (0 : Int) nf (S.legV k li q pu))) (S.spH e mo t l nc c ns s ta tm r nf f (S.ptV (0 : Int) (0 : Int) nf (S.legV k li q pu))) (S.spH e mo t l nc c ns s ta tm r nf f (S.ptV (1 : Int) (1 : Int) nf (S.legV k li q pu))) (2 * K0))) []))]) = (ex (cs14 hbs) 1000 0 z91 ⟨ofL 0 [.ag (plC e mo t l nc (S.val c) ns (S.val s) ta tm r nf (S.val f)), .c (.p (.isl 7 K0 (S.legV k li q pu)))] .lf, []⟩ (endK z2l.rs (fun r H => .pr (Q r H)) fun _ _ => .no)).hold2 := by kernel_rfl
theorem zg4 (e mo t l : Int) (nc : Nat) (c : S.Rows) (ns : Nat) (s : S.Rows) (ta tm r : Int) (nf : Nat) (f : S.Rows) (K0 : Nat) (k : Nat → Nat) (li : Nat → S.Rows) (q : S.Rows) (pu : Nat → Bool) (Q : AV → Heap → Prop) :
 ((fun (A0 : List CV) => ((fun (A1 : AV) => (((FCall (cs14 hbs) z41 [(.ag (kP e mo t l nc c ns s ta tm r nf f)), (.c (.p (.isl 7 K0 (S.legV k li q pu))))] A1 []) ∧
 ((FCall (cs14 hbs) z1w [(.ag [(cJ 0), (cJ 20000)]), A1, (.c (.p (.raw (.func (.func 59) (.mk []) (.mk [])))))] (.ag A0) []) ∧
 (Q (.ag A0) [(bP e mo t l nc c ns s ta tm r nf f), (some (.box z6 A0))]))))) (.c (.p (.isl 2 (S.fsN ns nf nc K0 (S.legV k li q pu)) (S.val (S.fsR e mo t l nc c ns s ta tm r nf f K0 (S.legV k li q pu)))))))) [(cJ (S.cmL (0 : Int) (S.fsR e mo t l nc c ns s ta tm r nf f K0 (S.legV k li q pu)) (S.fsN ns nf nc K0 (S.legV k li q pu)))), (cJ (S.cmH (20000 : Int) (S.fsR e mo t l nc c ns s ta tm r nf f K0 (S.legV k li q pu)) (S.fsN ns nf nc K0 (S.legV k li q pu))))]) = (ex (cs14 hbs) 1000 0 z90 ⟨ofL 0 [.ag (plC e mo t l nc (S.val c) ns (S.val s) ta tm r nf (S.val f)), .c (.p (.isl 7 K0 (S.legV k li q pu)))] .lf, []⟩ (endK z2i.rs (fun r H => .pr (Q r H)) fun _ _ => .no)).hold2 := by kernel_rfl
theorem zrl (e mo t l : Int) (nc : Nat) (c : S.Rows) (ns : Nat) (s : S.Rows) (ta tm r : Int) (nf : Nat) (f : S.Rows) (K0 : Nat) (k : Nat → Nat) (li : Nat → S.Rows) (q : S.Rows) (pu : Nat → Bool) (Q : AV → Heap → Prop) :
 ((fun (A0 : List CV) => ((fun (A1 : AV) => ((fun (A2 : Option Blk) => (((FCall (cs14 hbs) z6w [(.ag (kP e mo t l nc c ns s ta tm r nf f)), (.ag [(cJ 0), (cJ 0)]), (.c (.p (.isl 7 K0 (S.legV k li q pu))))] A1 []) ∧
 (BrP ((S.tErr (S.plane e mo t l nc c ns s ta tm r nf f) (ns : Int) (0 : Int) (0 : Int) K0 (S.legV k li q pu)) != (0 : Int))
 (Q (.tp [(vJ 0), A1]) [A2])
 ((FCall (cs14 hbs) z6c [(.ag (kP e mo t l nc c ns s ta tm r nf f)), (.c (.p (.isl 7 K0 (S.legV k li q pu))))] (.ag A0) []) ∧
 (BrP (decide ((S.fbL e mo t l nc c ns s ta tm r nf f K0 (S.legV k li q pu)) > (S.fbH e mo t l nc c ns s ta tm r nf f K0 (S.legV k li q pu))))
 (Q (.tp [(vJ 0), (vJ 5)]) [A2, (some (.box z6 A0))])
 (Q (.tp [(vJ (S.fbL e mo t l nc c ns s ta tm r nf f K0 (S.legV k li q pu))), (vJ 0)]) [A2, (some (.box z6 A0))]))))))) (bP e mo t l nc c ns s ta tm r nf f))) (vJ (S.tErr (S.plane e mo t l nc c ns s ta tm r nf f) (ns : Int) (0 : Int) (0 : Int) K0 (S.legV k li q pu))))) [(cJ (S.fbL e mo t l nc c ns s ta tm r nf f K0 (S.legV k li q pu))), (cJ (S.fbH e mo t l nc c ns s ta tm r nf f K0 (S.legV k li q pu)))]) = (ex (cs14 hbs) 1000 0 zaz ⟨ofL 0 [.ag (plC e mo t l nc (S.val c) ns (S.val s) ta tm r nf (S.val f)), .c (.p (.isl 7 K0 (S.legV k li q pu)))] .lf, []⟩ (endK z3s.rs (fun r H => .pr (Q r H)) fun _ _ => .no)).hold2 := by kernel_rfl
end
end Go.Ab.B
namespace Go.Ab.S
def spV (e mo t l : Int) (nc : Nat) (c : Rows) (ns : Nat) (s : Rows) (tm r : Int) (nf : Nat) (f : Rows) (n : Nat) (it : Rows) (lo hi : Int) (wt : Rows) (ld : Bool) (k : Nat) (p : Rows) : Nat → Nat → PV := fun i j =>
  if i < (((ns + 1) + nf) + 1) + nc then (if i < ((ns + 1) + nf) + 1 then (if i < (ns + 1) + nf then (if i < ns + 1 then (if i < ns then .int .i64 (subR s (stS n it) i j) else oneV (tm - hi) (i - ns) j) else .int .i64 (wetR f wt (i - (ns + 1)) j)) else oneV (heavyX e t l ld k p) (i - ((ns + 1) + nf)) j) else .int .i64 (outR e mo nc c k p (i - (((ns + 1) + nf) + 1)) j)) else oneV (lo - r) (i - ((((ns + 1) + nf) + 1) + nc)) j
theorem zr1 (x : Int) {i k : Nat} (h : i = k) : oneV x (i - k) 0 = .int .i64 x := by subst h; rw [Nat.sub_self]; rfl
theorem spV_val {e mo t l : Int} {nc : Nat} {c : Rows} {ns : Nat} {s : Rows} {tm r : Int} {nf : Nat} {f : Rows} {n : Nat} {it : Rows} {lo hi : Int} {wt : Rows} {ld : Bool} {k : Nat} {p : Rows} {i j : Nat} (h : i < spN ns nf nc ld) (hj : j < 1) : spV e mo t l nc c ns s tm r nf f n it lo hi wt ld k p i j = .int .i64 (spR e mo t l nc c ns s tm r nf f n it lo hi wt ld k p i j) := by
  obtain rfl : j = 0 := by omega
  have hb : b01 ld ≤ 1 := by unfold b01; split <;> omega
  unfold spN at h
  unfold spV spR
  by_cases h5 : i < (((ns + 1) + nf) + 1) + nc
  · by_cases h4 : i < ((ns + 1) + nf) + 1
    · by_cases h3 : i < (ns + 1) + nf
      · by_cases h2 : i < ns + 1
        · by_cases h1 : i < ns
          · simp only [h5, h4, h3, h2, h1, if_true]
          · simp only [h5, h4, h3, h2, h1, if_true, if_false]; exact zr1 _ (by omega)
        · simp only [h5, h4, h3, h2, if_true, if_false]
      · simp only [h5, h4, h3, if_true, if_false]; exact zr1 _ (by omega)
    · simp only [h5, h4, if_true, if_false]
  · simp only [h5, if_false]; exact zr1 _ (by omega)
theorem cat_val {I : Nat} {G u v : Rows} {j w z : Nat} (hw : w < I + j + 1) (hz : z < 2) : (if w < I + j then PV.int .i64 (catP I G u v w z) else List.getD [.int .i64 (u j 0), .int .i64 (v j 0 - u j 0)] ((w - (I + j)) * 2 + z) .npt) = val (catP I G u v) w z := by
  split
  · rfl
  · obtain rfl : w = I + j := by omega
    rw [Nat.sub_self]
    have h0 : ¬ I + j < I := by omega
    have h1 : I + j - I = j := by omega
    match z, hz with
    | 0, _ => simp only [val, catP, h0, if_false, h1]; rfl
    | 1, _ => simp only [val, catP, h0, if_false, h1]; rfl
end Go.Ab.S
namespace Go.Ab.B
open Go.Proofs
section
variable {hbs : BsOk Tryz.prog} (hT : TabOk (cs hbs)) (hT3 : TabOk (cs3 hbs)) (hT4 : TabOk (cs4 hbs)) (hT7 : TabOk (cs7 hbs)) (hT9 : TabOk (cs9 hbs)) (hT10 : TabOk (cs10 hbs)) (hT11 : TabOk (cs11 hbs)) (hT12 : TabOk (cs12 hbs)) (hT14 : TabOk (cs14 hbs))
include hT4 hT14 in
theorem z8l (e mo t l : Int) (nc : Nat) (c : S.Rows) (ns : Nat) (s : S.Rows) (ta tm r : Int) (nf : Nat) (f : S.Rows) (n : Nat) (it : S.Rows) (lo hi : Int) (m : Nat) (wt : S.Rows) (ld : Bool) (hp : S.PlOk e mo t l nc c ns s ta tm r nf f) (hq : S.PtOk ns nf n it lo hi m wt) : FCall (cs14 hbs) z2j [lkA e mo t l nc c ns s ta tm r nf f n it lo hi m wt ld (n + 1 + m) (S.parts n it s lo hi ta wt f)] (.c (.p (.isl 1 (S.spN ns nf nc ld) (S.val (S.spR e mo t l nc c ns s tm r nf f n it lo hi wt ld (n + 1 + m) (S.parts n it s lo hi ta wt f)))))) [] := by
  have b1 := hp.hnc
  have b2 := hp.hns
  have b3 := hp.hnf
  have b4 := hq.hn
  have b5 := hq.hm
  have b6 := hp.he
  have b7 := hp.hmo
  have b8 := hp.ht
  have b9 := hp.hl
  have b10 := hp.hr
  have b11 := hp.htm
  have b12 := hq.htk
  have hpp := fun i h => S.parts_in hp hq i h
  have to : ∀ {g : FuncId} {xs : List AV} {x : AV}, FCall (cs4 hbs) g xs x [] → FCall (cs14 hbs) g xs x [] := fun h => FCall.cfg (C := cs4 hbs) (C' := cs14 hbs) rfl rfl h
  have hov := to (fc_load_look_over hT4 e mo t l nc c ns s ta tm r nf f n it lo hi m wt ld (n + 1 + m) (S.parts n it s lo hi ta wt f) (by omega) (by omega) (fun i h => by have := (hq.hit i h).2; omega) (fun i h => by have := (hp.hs i h).2; omega))
  have hfu := to (zha hT4 e mo t l nc c ns s ta tm r nf f n it lo hi m wt ld (n + 1 + m) (S.parts n it s lo hi ta wt f) (by omega) (by omega))
  have hwe := to (fc_load_look_wet hT4 e mo t l nc c ns s ta tm r nf f n it lo hi m wt ld (n + 1 + m) (S.parts n it s lo hi ta wt f) (by omega) (by omega) (fun i h => by have := (hp.hf i h).2; omega) (fun i h => by have := hq.hwt i (by omega); omega))
  have hhe := to (fc_load_look_heavy hT4 e mo t l nc c ns s ta tm r nf f n it lo hi m wt ld (n + 1 + m) (S.parts n it s lo hi ta wt f) (by omega) (by omega) (by omega) (by omega) (fun i h => ⟨(hpp i h).1, (hpp i h).2.1⟩))
  have hou := to (fc_load_look_out hT4 e mo t l nc c ns s ta tm r nf f n it lo hi m wt ld (n + 1 + m) (S.parts n it s lo hi ta wt f) (by omega) (by omega) hp.hcor (by omega) (by omega) (fun i h => ⟨(hpp i h).1, (hpp i h).2.1, (hpp i h).2.2.1⟩))
  have hsh := to (zf1 hT4 e mo t l nc c ns s ta tm r nf f n it lo hi m wt ld (n + 1 + m) (S.parts n it s lo hi ta wt f) (by omega) (by omega))
  have hb : S.b01 ld ≤ 1 := by unfold S.b01; split <;> omega
  have F : FCall (cs14 hbs) z2j [lkA e mo t l nc c ns s ta tm r nf f n it lo hi m wt ld (n + 1 + m) (S.parts n it s lo hi ta wt f)] (.c (.p (.isl 1 (S.spN ns nf nc ld) fun i j => S.spV e mo t l nc c ns s tm r nf f n it lo hi wt ld (n + 1 + m) (S.parts n it s lo hi ta wt f) (0 + i) j))) [] :=
    fcall_k hT14 (F := z2k) rfl (zf2 e mo t l nc c ns s ta tm r nf f n it lo hi m wt ld _ _ _) ⟨hov, cdP (by simp [Cd.holds]; omega) ⟨hfu, cdP (Nat.le_refl _) (cdP (Nat.le_refl _) (cdP (by simp [Cd.holds]; omega) ⟨hwe, cdP (Nat.le_refl _) (cdP (Nat.le_refl _) (cdP (by simp [Cd.holds]; omega) ⟨hhe, cdP (Nat.le_refl _) (cdP (Nat.le_refl _) (cdP (by simp [Cd.holds]; omega) ⟨hou, cdP (Nat.le_refl _) (cdP (Nat.le_refl _) (cdP (by simp [Cd.holds]; omega) ⟨hsh, cdP (Nat.le_refl _) (cdP (Nat.le_refl _) (cdP (by simp [Cd.holds]; omega) rfl))⟩))⟩))⟩))⟩))⟩⟩
  refine FCall.mono_r F fun w Z φ u hr => ?_
  simp only [RepA, RepC] at hr ⊢
  exact z5g (fun i j hi' hj => by rw [Nat.zero_add]; exact S.spV_val hi' hj) hr
abbrev fnE : AV := .c (.p (.raw (.func (.func z1t) #[] #[])))
abbrev lvC (n : Nat) (F : S.Rows) (i : Nat) : List (Ps × AV) := [(.o (.o .h), .c (.pt 0 0)), (.o (.o (.i .h)), .c (.p (.int .i64 n))), (.i .h, fnE), (.i (.o (.i .h)), .c (.p (.int .i64 i))), (.i (.i .h), .c (.pt 1 0)), (.i (.i (.o .h)), .c (.p (.isl 2 n (S.val F))))]
abbrev hpC (a b : Int) (F : S.Rows) (i : Nat) : Heap := [some (.box z6 [.p (.int .i64 (S.cmL a F i)), .p (.int .i64 (S.cmH b F i))]), some (.box z6 [.p (.int .i64 0), .p (.int .i64 0)])]
theorem go_load_common (fu : Nat) (a b : Int) (n : Nat) (F : S.Rows) (hn : n ≤ maxLen) (hF : ∀ i, i < n → (-1000000000000000 ≤ F i 0 ∧ F i 0 ≤ 1000000000000000) ∧ (-1000000000000000 ≤ F i 1 ∧ F i 1 ≤ 1000000000000000)) : ∀ (i : Nat) (st : St), i ≤ n → (∃ ρ, HasR 0 ρ st (lvC n F i) (hpC a b F i)) →
    za (ex (cs14 hbs) (fu + 60)) 0 z15 st (.e (.exit 0) ⟨setAll [(.i (.i .h), .c (.pt 1 0)), (.o (.o .h), .c (.pt 0 0))], hpC a b F n⟩) :=
  loop_kT (σ := Nat) (lvC n F) (hpC a b F) (fun i => i ≤ n) (fun i => n - i) (fun _ => .e (.exit 0) ⟨setAll [(.i (.i .h), .c (.pt 1 0)), (.o (.o .h), .c (.pt 0 0))], hpC a b F n⟩) _ (fun i Q => vs_load_common (hbs := hbs) fu i (S.cmL a F i) (S.cmH b F i) n F Q) fun i hi' K hL X hX => by
      refine brP (fun h1 => ?_) fun h1 => ?_
      · have hlt : i < n := by simpa using h1
        have hf := hF i hlt
        have go : ∀ (s' : St), s'.h.length ≥ 2 → (∃ x y, s'.h[0]? = some (some (.box z6 [.p (.int .i64 x), .p (.int .i64 y)])) ∧ x = S.cmL a F (i + 1) ∧ y = S.cmH b F (i + 1)) → s'.h[1]? = some (some (.box z6 [.p (.int .i64 0), .p (.int .i64 0)])) → zc [some 0, some 1] s'.t (lvC n F (i + 1)) → X s' := fun s' hl ⟨x, y, g0, ex', ey⟩ g1 hv => by
          subst ex' ey
          refine hX (i + 1) _ (by omega) (by omega) ⟨[some 0, some 1], HasR.mk _ rfl rfl ?_ hv⟩ hL
          simp only [WH, g0, g1]
          exact ⟨⟨rfl, .inl rfl, .inl rfl, trivial⟩, ⟨rfl, .inl rfl, .inl rfl, trivial⟩, trivial⟩
        have live : ∀ (t : Tr), zc [some 0, some 1] t (lvC n F (i + 1)) → zc [some 0, some 1] t (lvC n F (i + 1)) := fun _ h => h
        refine cdP (ze hlt) (brP (fun w1 => ?_) fun w1 => ?_)
        · have hw : F i 0 < 0 := of_decide_eq_true w1
          refine brP (fun w2 => ?_) fun w2 => ?_
          · have eL : S.enL (F i 0) (F i 1) = 0 := by simp only [S.enL, w1, w2]
            have eH : S.enH (F i 0) (F i 1) = -1 := by simp only [S.enH, w1, w2]
            refine cdP (z14 hlt hn) (go _ (by simp) ⟨_, _, rfl, ?_, ?_⟩ rfl ?_)
            · show S.mx _ _ = S.mx _ _; rw [eL]
            · show S.mn _ _ = S.mn _ _; rw [eH]
            · simp [zc, WA, WC, WP', Tr.get]
          · have hd : ¬ F i 1 ≤ 0 := of_decide_eq_false w2
            have eL : S.enL (F i 0) (F i 1) = Int.tdiv (F i 1 - 1 - F i 0) (F i 1) := by simp only [S.enL, w1, w2]
            have eH : S.enH (F i 0) (F i 1) = 20000 := by simp only [S.enH, w1, w2]
            have q := S.tdiv_in (x := F i 1 - 1 - F i 0) (d := F i 1) (by omega) (by omega)
            refine brP (fun _ => cdP (zk (by omega) (by omega)) (cdP (zk (by omega) (by omega)) (cdP (by simp [Cd.holds]; omega) (cdP (zk (by omega) (by omega)) (cdP (z14 hlt hn) (go _ (by simp) ⟨_, _, rfl, ?_, ?_⟩ rfl ?_)))))) fun h => by rw [w1] at h; cases h
            · show S.mx _ _ = S.mx _ _; rw [eL]
            · show S.mn _ _ = S.mn _ _; rw [eH]
            · simp [zc, WA, WC, WP', Tr.get]
        · have hw : ¬ F i 0 < 0 := of_decide_eq_false w1
          refine brP (fun h => by rw [w1] at h; cases h) fun _ => brP (fun w2 => ?_) fun w2 => ?_
          · have hd : F i 1 < 0 := of_decide_eq_true w2
            have eL : S.enL (F i 0) (F i 1) = 0 := by simp only [S.enL, w1]
            have eH : S.enH (F i 0) (F i 1) = Int.tdiv (F i 0) (0 - F i 1) := by simp only [S.enH, w1, w2]
            have q := S.tdiv_in (x := F i 0) (d := 0 - F i 1) (by omega) (by omega)
            refine cdP (zk (by omega) (by omega)) (cdP (by simp [Cd.holds]; omega) (cdP (zk (by omega) (by omega)) (cdP (z14 hlt hn) (go _ (by simp) ⟨_, _, rfl, ?_, ?_⟩ rfl ?_))))
            · show S.mx _ _ = S.mx _ _; rw [eL]
            · show S.mn _ _ = S.mn _ _; rw [eH]
            · simp [zc, WA, WC, WP', Tr.get]
          · have eL : S.enL (F i 0) (F i 1) = 0 := by simp only [S.enL, w1]
            have eH : S.enH (F i 0) (F i 1) = 20000 := by simp only [S.enH, w1, w2]
            refine cdP (z14 hlt hn) (go _ (by simp) ⟨_, _, rfl, ?_, ?_⟩ rfl ?_)
            · show S.mx _ _ = S.mx _ _; rw [eL]
            · show S.mn _ _ = S.mn _ _; rw [eH]
            · simp [zc, WA, WC, WP', Tr.get]
      · have hlt : n ≤ i := by simpa using h1
        obtain rfl : i = n := by omega
        refine HasR.out (l := [(.i (.i .h), .c (.pt 1 0)), (.o (.o .h), .c (.pt 0 0))]) (HasR.mk (ρ := [some 0, some 1]) rfl rfl ?_ ?_) hL
        · exact ⟨⟨rfl, .inl rfl, .inl rfl, trivial⟩, ⟨rfl, .inl rfl, .inl rfl, trivial⟩, trivial⟩
        · simp [zc, WA, WC, WP', Tr.get]
include hT14 in
theorem zmu (a b : Int) (n : Nat) (F : S.Rows) (hn : n ≤ maxLen) (hF : ∀ i, i < n → (-1000000000000000 ≤ F i 0 ∧ F i 0 ≤ 1000000000000000) ∧ (-1000000000000000 ≤ F i 1 ∧ F i 1 ≤ 1000000000000000)) : FCall (cs14 hbs) z1w [.ag [.p (.int .i64 a), .p (.int .i64 b)], .c (.p (.isl 2 n (S.val F))), fnE] (.ag [.p (.int .i64 (S.cmL a F n)), .p (.int .i64 (S.cmH b F n))]) [] :=
  fcall_k hT14 (F := z10) rfl (zmv a b n F _) ⟨go_load_common 935 a b n F hn hF 0 _ (Nat.zero_le _) ⟨[some 0, some 1], HasR.mk _ rfl rfl ⟨⟨rfl, .inl rfl, .inl rfl, trivial⟩, ⟨rfl, .inl rfl, .inl rfl, trivial⟩, trivial⟩ (by simp [zc, WA, WC, WP', Tr.get])⟩, rfl⟩
end
end Go.Ab.B
namespace Go.Ab.S
theorem flN_le {cnt : Nat → Nat} {B : Nat} (h : ∀ j, cnt j ≤ B) : ∀ n, flN cnt n ≤ n * B
  | 0 => by simp [flN]
  | n + 1 => by
    have := flN_le h n
    have := h n
    simp only [flN]
    rw [Nat.succ_mul]
    omega
theorem spN_le {ns nf nc : Nat} {ld : Bool} (h1 : ns ≤ 8) (h2 : nf ≤ 2) (h3 : nc ≤ 12) : spN ns nf nc ld ≤ 25 := by
  have hb : b01 ld ≤ 1 := by unfold b01; split <;> omega
  unfold spN
  omega
theorem tr_lI2 {ns : Nat} {a b : Int} {K0 : Nat} {k : Nat → Nat} {li : Nat → Rows} {q : Rows} {pu : Nat → Bool} (h : TrOk ns a b K0 k li q) (i j : Nat) (hi : i < K0) : -1000000 ≤ lI (legV k li q pu i j) ∧ lI (legV k li q pu i j) ≤ 1000000 := by
  have hq := h.hq i hi
  match j with
  | 0 => show (-1000000 : Int) ≤ 0 ∧ (0 : Int) ≤ 1000000; omega
  | 1 => show (-1000000 : Int) ≤ 0 ∧ (0 : Int) ≤ 1000000; omega
  | 2 => show -1000000 ≤ q i 0 ∧ q i 0 ≤ 1000000; omega
  | 3 => show -1000000 ≤ q i 1 ∧ q i 1 ≤ 1000000; omega
  | 4 => show -1000000 ≤ q i 2 ∧ q i 2 ≤ 1000000; omega
  | 5 => show -1000000 ≤ q i 3 ∧ q i 3 ≤ 1000000; omega
  | 6 => show -1000000 ≤ q i 4 ∧ q i 4 ≤ 1000000; omega
  | j + 7 =>
    have e7 : (legV k li q pu) i (j + 7) = .npt := by show List.getD _ (0 + (j + 7)) _ = _; rw [Nat.zero_add]; rfl
    rw [e7]; show (-1000000 : Int) ≤ 0 ∧ (0 : Int) ≤ 1000000; omega
theorem tr_at {ns : Nat} {a b x : Int} {K0 : Nat} {k : Nat → Nat} {li : Nat → Rows} {q : Rows} (h : TrOk ns a b K0 k li q) (h0 : 0 ≤ x) (h9 : x ≤ 20000) : TrOk ns x x K0 k li q := ⟨h.hK, ⟨h0, Int.le_refl _, h9⟩, h.hk, h.hit, h.hq⟩
end Go.Ab.S
namespace Go.Ab.B
open Go.Proofs
section
variable {hbs : BsOk Tryz.prog} (hT : TabOk (cs hbs)) (hT3 : TabOk (cs3 hbs)) (hT4 : TabOk (cs4 hbs)) (hT7 : TabOk (cs7 hbs)) (hT9 : TabOk (cs9 hbs)) (hT10 : TabOk (cs10 hbs)) (hT11 : TabOk (cs11 hbs)) (hT12 : TabOk (cs12 hbs)) (hT14 : TabOk (cs14 hbs))
abbrev lvFs (N : Nat) (kn : Nat → Nat) (ki : Nat → S.Rows) (pl ph pl2 ph2 : Nat → Int) (m : Nat) (kw : Nat → S.Rows) (kl : Nat → Bool) (I i : Nat) : List (Ps × AV) := [(.o (.o (.i (.o .h))), .c (.p (.isl 5 N (S.ptG kn ki pl ph m kw kl)))), (.o (.i .h), .c (.sl 1 0 I)), (.o (.i (.i (.o .h))), .c (.p (.int .i64 i))), (.i .h, .c (.pt 0 0)), (.i (.o (.i (.o .h))), .c (.p (.int .i64 N))), (.i (.i .h), .c (.p (.isl 5 N (S.ptG kn ki pl2 ph2 m kw kl))))]
abbrev lvFs2 (N : Nat) (kn : Nat → Nat) (ki : Nat → S.Rows) (pl ph pl2 ph2 : Nat → Int) (m : Nat) (kw : Nat → S.Rows) (kl : Nat → Bool) (I i M : Nat) (u v : S.Rows) (j : Nat) : List (Ps × AV) := [(.o (.o (.i (.o .h))), .c (.p (.isl 5 N (S.ptG kn ki pl ph m kw kl)))), (.o (.i .h), .c (.sl 1 0 I)), (.o (.i (.i (.o .h))), .c (.p (.int .i64 i))), (.i .h, .c (.pt 0 0)), (.i (.o (.i (.o .h))), .c (.p (.int .i64 N))), (.i (.i .h), .c (.p (.isl 5 N (S.ptG kn ki pl2 ph2 m kw kl)))), (.o (.i (.o .h)), .c (.p (.isl 1 M (S.val v)))), (.o (.i (.i (.o (.o .h)))), .c (.p (.int .i64 M))), (.i (.o (.i (.o (.o .h)))), .c (.p (.isl 1 M (S.val u)))), (.i (.i (.i (.o (.o .h)))), .c (.p (.int .i64 j)))]
abbrev hpFs (e mo t l : Int) (nc : Nat) (c : S.Rows) (ns : Nat) (s : S.Rows) (ta tm r : Int) (nf : Nat) (f : S.Rows) (I : Nat) (G : S.Rows) : Heap := [PB e mo t l nc c ns s ta tm r nf f, some (.arr 2 z1x I (S.val G) [])]
abbrev trFs2 (e mo t l : Int) (nc : Nat) (c : S.Rows) (ns : Nat) (s : S.Rows) (ta tm r : Int) (nf : Nat) (f : S.Rows) (N : Nat) (kn : Nat → Nat) (ki : Nat → S.Rows) (pl ph pl2 ph2 : Nat → Int) (m : Nat) (kw : Nat → S.Rows) (kl : Nat → Bool) (I i M : Nat) (u v G : S.Rows) : LTree := .e (.exit 2) ⟨setAll [(.i (.i .h), .c (.p (.isl 5 N (S.ptG kn ki pl2 ph2 m kw kl)))), (.i (.o (.i (.o .h))), .c (.p (.int .i64 N))), (.i .h, .c (.pt 0 0)), (.o (.i (.i (.o .h))), .c (.p (.int .i64 i))), (.o (.i .h), .c (.sl 1 0 (I + M))), (.o (.o (.i (.o .h))), .c (.p (.isl 5 N (S.ptG kn ki pl ph m kw kl))))], hpFs e mo t l nc c ns s ta tm r nf f (I + M) (S.catP I G u v)⟩
theorem go_load_fuelSpares2 (fu i I M : Nat) (e mo t l : Int) (nc : Nat) (c : S.Rows) (ns : Nat) (s : S.Rows) (ta tm r : Int) (nf : Nat) (f : S.Rows) (N : Nat) (kn : Nat → Nat) (ki : Nat → S.Rows) (pl ph pl2 ph2 : Nat → Int) (m : Nat) (kw : Nat → S.Rows) (kl : Nat → Bool) (u v G : S.Rows) (hI : I ≤ 1000000) (hM : M ≤ 1000) (hb : ∀ j, j < M → -1000000000000000 ≤ v j 0 - u j 0 ∧ v j 0 - u j 0 ≤ 1000000000000000) : ∀ (j : Nat) (st : St), j ≤ M → (∃ ρ, HasR 0 ρ st (lvFs2 N kn ki pl ph pl2 ph2 m kw kl (I + j) i M u v j) (hpFs e mo t l nc c ns s ta tm r nf f (I + j) (S.catP I G u v))) →
    za (ex (cs14 hbs) (fu + 51)) 0 z2m st (trFs2 e mo t l nc c ns s ta tm r nf f N kn ki pl ph pl2 ph2 m kw kl I i M u v G) :=
  loop_kT (σ := Nat) (fun j => lvFs2 N kn ki pl ph pl2 ph2 m kw kl (I + j) i M u v j) (fun j => hpFs e mo t l nc c ns s ta tm r nf f (I + j) (S.catP I G u v)) (fun j => j ≤ M) (fun j => M - j) (fun _ => trFs2 e mo t l nc c ns s ta tm r nf f N kn ki pl ph pl2 ph2 m kw kl I i M u v G) _ (fun j Q => vs_load_fuelSpares2 (hbs := hbs) fu i (I + j) j M e mo t l nc c ns s ta tm r nf f N kn ki pl ph pl2 ph2 m kw kl u v (S.catP I G u v) Q) fun j hj' K hL X hX => by
      refine brP (fun h1 => ?_) fun h1 => ?_
      · have hlt : j < M := by simpa using h1
        have q := hb j hlt
        refine cdP (ze hlt) (cdP (ze hlt) (cdP (zk (by omega) (by omega)) (cdP (Nat.le_refl _) (cdP (Nat.le_refl _) (cdP (by simp [Cd.holds]; omega) (cdP (by simp [Cd.holds]; omega) ?_))))))
        refine hX (j + 1) _ (by omega) (by omega) ⟨[some 0, some 2], HasR.mk _ rfl rfl ?_ ?_⟩ hL
        · refine ⟨⟨rfl, ?_⟩, ⟨rfl, rfl, rfl, fun w z hw hz => S.cat_val hw hz, rfl⟩, trivial⟩
          simp [WL, WC, WP', plC]
        · simp [zc, WA, WC, WP', Tr.get]; omega
      · have hlt : M ≤ j := by simpa using h1
        obtain rfl : j = M := by omega
        refine HasR.out (l := [(.i (.i .h), .c (.p (.isl 5 N (S.ptG kn ki pl2 ph2 m kw kl)))), (.i (.o (.i (.o .h))), .c (.p (.int .i64 N))), (.i .h, .c (.pt 0 0)), (.o (.i (.i (.o .h))), .c (.p (.int .i64 i))), (.o (.i .h), .c (.sl 1 0 (I + j))), (.o (.o (.i (.o .h))), .c (.p (.isl 5 N (S.ptG kn ki pl ph m kw kl))))]) (HasR.mk (ρ := [some 0, some 1]) rfl rfl ?_ ?_) hL
        · refine ⟨⟨rfl, ?_⟩, ⟨rfl, rfl, rfl, fun _ _ _ _ => rfl, rfl⟩, trivial⟩
          simp [WL, WC, WP', plC]
        · simp [zc, WA, WC, WP', Tr.get]
abbrev trFs (e mo t l : Int) (nc : Nat) (c : S.Rows) (ns : Nat) (s : S.Rows) (ta tm r : Int) (nf : Nat) (f : S.Rows) (N : Nat) (kn : Nat → Nat) (ki : Nat → S.Rows) (pl ph pl2 ph2 : Nat → Int) (m : Nat) (kw : Nat → S.Rows) (kl : Nat → Bool) : LTree := .e (.exit 0) ⟨setAll [(.o (.i .h), .c (.sl 1 0 (S.flN (S.spM ns nf nc (S.ptG kn ki pl ph m kw kl)) N)))], [none, some (.arr 2 z1x (S.flN (S.spM ns nf nc (S.ptG kn ki pl ph m kw kl)) N) (S.val (S.flR (S.spM ns nf nc (S.ptG kn ki pl ph m kw kl)) (S.spH e mo t l nc c ns s ta tm r nf f (S.ptG kn ki pl ph m kw kl)) (S.spH e mo t l nc c ns s ta tm r nf f (S.ptG kn ki pl2 ph2 m kw kl)) N)) [])]⟩
include hT4 hT14 in
theorem go_load_fuelSpares1 (fu : Nat) (e mo t l : Int) (nc : Nat) (c : S.Rows) (ns : Nat) (s : S.Rows) (ta tm r : Int) (nf : Nat) (f : S.Rows) (N : Nat) (kn : Nat → Nat) (ki : Nat → S.Rows) (pl ph pl2 ph2 : Nat → Int) (m : Nat) (kw : Nat → S.Rows) (kl : Nat → Bool) (hp : S.PlOk e mo t l nc c ns s ta tm r nf f) (hN : N ≤ 1000) (hq : ∀ j, j < N → S.PtOk ns nf (kn j) (ki j) (pl j) (ph j) m (kw j)) (hq2 : ∀ j, j < N → S.PtOk ns nf (kn j) (ki j) (pl2 j) (ph2 j) m (kw j)) : ∀ (i : Nat) (st : St), i ≤ N → (∃ ρ, HasR 0 ρ st (lvFs N kn ki pl ph pl2 ph2 m kw kl (S.flN (S.spM ns nf nc (S.ptG kn ki pl ph m kw kl)) i) i) (hpFs e mo t l nc c ns s ta tm r nf f (S.flN (S.spM ns nf nc (S.ptG kn ki pl ph m kw kl)) i) (S.flR (S.spM ns nf nc (S.ptG kn ki pl ph m kw kl)) (S.spH e mo t l nc c ns s ta tm r nf f (S.ptG kn ki pl ph m kw kl)) (S.spH e mo t l nc c ns s ta tm r nf f (S.ptG kn ki pl2 ph2 m kw kl)) i))) →
    za (ex (cs14 hbs) (fu + 60)) 0 z2n st (trFs e mo t l nc c ns s ta tm r nf f N kn ki pl ph pl2 ph2 m kw kl) :=
  loop_kT (σ := Nat) (fun i => lvFs N kn ki pl ph pl2 ph2 m kw kl (S.flN (S.spM ns nf nc (S.ptG kn ki pl ph m kw kl)) i) i) (fun i => hpFs e mo t l nc c ns s ta tm r nf f (S.flN (S.spM ns nf nc (S.ptG kn ki pl ph m kw kl)) i) (S.flR (S.spM ns nf nc (S.ptG kn ki pl ph m kw kl)) (S.spH e mo t l nc c ns s ta tm r nf f (S.ptG kn ki pl ph m kw kl)) (S.spH e mo t l nc c ns s ta tm r nf f (S.ptG kn ki pl2 ph2 m kw kl)) i)) (fun i => i ≤ N) (fun i => N - i) (fun _ => trFs e mo t l nc c ns s ta tm r nf f N kn ki pl ph pl2 ph2 m kw kl) _ (fun i Q => vs_load_fuelSpares1 (hbs := hbs) fu i (S.flN (S.spM ns nf nc (S.ptG kn ki pl ph m kw kl)) i) e mo t l nc c ns s ta tm r nf f N kn ki pl ph pl2 ph2 m kw kl (S.flR (S.spM ns nf nc (S.ptG kn ki pl ph m kw kl)) (S.spH e mo t l nc c ns s ta tm r nf f (S.ptG kn ki pl ph m kw kl)) (S.spH e mo t l nc c ns s ta tm r nf f (S.ptG kn ki pl2 ph2 m kw kl)) i) Q) fun i hi' K hL X hX => by
      refine brP (fun h1 => ?_) fun h1 => ?_
      · have hlt : i < N := by simpa using h1
        have hqi := hq i hlt
        have hqi2 := hq2 i hlt
        have b1 := hp.hnc
        have b2 := hp.hns
        have b3 := hp.hnf
        have b4 := hqi.hn
        have b5 := hqi.hm
        have hsz := S.flN_le (cnt := (S.spM ns nf nc (S.ptG kn ki pl ph m kw kl))) (B := 25) (fun j => S.spN_le (by omega) (by omega) (by omega)) i
        have hs1 : S.spN ns nf nc (kl i) ≤ 25 := S.spN_le (by omega) (by omega) (by omega)
        have to : ∀ {g : FuncId} {xs : List AV} {x : AV}, FCall (cs4 hbs) g xs x [] → FCall (cs14 hbs) g xs x [] := fun h => FCall.cfg (C := cs4 hbs) (C' := cs14 hbs) rfl rfl h
        have l1 := to (fc_load_lookAt hT4 e mo t l nc c ns s ta tm r nf f (kn i) (ki i) (pl i) (ph i) m (kw i) (kl i) (by omega) (by omega) (by omega) (fun i h => (hqi.hit i h).1))
        have l2 := to (fc_load_lookAt hT4 e mo t l nc c ns s ta tm r nf f (kn i) (ki i) (pl2 i) (ph2 i) m (kw i) (kl i) (by omega) (by omega) (by omega) (fun i h => (hqi.hit i h).1))
        have s1 := z8l hT4 hT14 e mo t l nc c ns s ta tm r nf f (kn i) (ki i) (pl i) (ph i) m (kw i) (kl i) hp hqi
        have s2 := z8l hT4 hT14 e mo t l nc c ns s ta tm r nf f (kn i) (ki i) (pl2 i) (ph2 i) m (kw i) (kl i) hp hqi2
        have hb : ∀ j, j < S.spN ns nf nc (kl i) → -1000000000000000 ≤ S.spH e mo t l nc c ns s ta tm r nf f (S.ptG kn ki pl2 ph2 m kw kl) i j 0 - S.spH e mo t l nc c ns s ta tm r nf f (S.ptG kn ki pl ph m kw kl) i j 0 ∧ S.spH e mo t l nc c ns s ta tm r nf f (S.ptG kn ki pl2 ph2 m kw kl) i j 0 - S.spH e mo t l nc c ns s ta tm r nf f (S.ptG kn ki pl ph m kw kl) i j 0 ≤ 1000000000000000 := fun j hj => by
          have r1 := S.spR_in (ld := kl i) (lo := pl i) (hi := ph i) hp hqi hj
          have r2 := S.spR_in (ld := kl i) (lo := pl2 i) (hi := ph2 i) hp hqi2 hj
          show -1000000000000000 ≤ S.spR e mo t l nc c ns s tm r nf f (kn i) (ki i) (pl2 i) (ph2 i) (kw i) (kl i) (kn i + 1 + m) (S.parts (kn i) (ki i) s (pl2 i) (ph2 i) ta (kw i) f) j 0 - S.spR e mo t l nc c ns s tm r nf f (kn i) (ki i) (pl i) (ph i) (kw i) (kl i) (kn i + 1 + m) (S.parts (kn i) (ki i) s (pl i) (ph i) ta (kw i) f) j 0 ∧ S.spR e mo t l nc c ns s tm r nf f (kn i) (ki i) (pl2 i) (ph2 i) (kw i) (kl i) (kn i + 1 + m) (S.parts (kn i) (ki i) s (pl2 i) (ph2 i) ta (kw i) f) j 0 - S.spR e mo t l nc c ns s tm r nf f (kn i) (ki i) (pl i) (ph i) (kw i) (kl i) (kn i + 1 + m) (S.parts (kn i) (ki i) s (pl i) (ph i) ta (kw i) f) j 0 ≤ 1000000000000000
          omega
        refine cdP (ze hlt) (cdP (ze hlt) ⟨l2, s2, l1, s1, go_load_fuelSpares2 fu i (S.flN (S.spM ns nf nc (S.ptG kn ki pl ph m kw kl)) i) (S.spN ns nf nc (kl i)) e mo t l nc c ns s ta tm r nf f N kn ki pl ph pl2 ph2 m kw kl (S.spH e mo t l nc c ns s ta tm r nf f (S.ptG kn ki pl ph m kw kl) i) (S.spH e mo t l nc c ns s ta tm r nf f (S.ptG kn ki pl2 ph2 m kw kl) i) (S.flR (S.spM ns nf nc (S.ptG kn ki pl ph m kw kl)) (S.spH e mo t l nc c ns s ta tm r nf f (S.ptG kn ki pl ph m kw kl)) (S.spH e mo t l nc c ns s ta tm r nf f (S.ptG kn ki pl2 ph2 m kw kl)) i) (by omega) (by omega) hb 0 _ (Nat.zero_le _) ⟨[some 0, some 1], HasR.mk _ rfl rfl ?_ ?_⟩, cdP (by simp [Cd.holds]; omega) ?_⟩)
        · refine ⟨⟨rfl, ?_⟩, ⟨rfl, rfl, rfl, fun w z hw hz => ?_, rfl⟩, trivial⟩
          · simp [WL, WC, WP', plC]
          · have hw : w < S.flN (S.spM ns nf nc (S.ptG kn ki pl ph m kw kl)) i := hw
            show PV.int .i64 _ = PV.int .i64 _
            simp only [S.catP, hw, if_true]
        · exact ⟨.inl rfl, ⟨rfl, rfl, rfl⟩, .inl rfl, ⟨rfl, rfl⟩, .inl rfl, .inl rfl, .inl rfl, .inl rfl, .inl rfl, .inl rfl, trivial⟩
        · refine hX (i + 1) _ (by omega) (by omega) ⟨[some 0, some 1], HasR.mk _ rfl rfl ?_ ?_⟩ hL
          · refine ⟨⟨rfl, ?_⟩, ⟨rfl, rfl, rfl, fun w z hw hz => rfl, rfl⟩, trivial⟩
            simp [WL, WC, WP', plC]
          · exact ⟨.inl rfl, ⟨rfl, rfl, rfl⟩, .inl rfl, ⟨rfl, rfl⟩, .inl rfl, .inl rfl, trivial⟩
      · have hlt : N ≤ i := by simpa using h1
        obtain rfl : i = N := by omega
        refine HasR.out (l := [(.o (.i .h), .c (.sl 1 0 (S.flN (S.spM ns nf nc (S.ptG kn ki pl ph m kw kl)) i)))]) (HasR.mk (ρ := [none, some 1]) rfl rfl ?_ ?_) hL
        · exact ⟨trivial, ⟨rfl, rfl, rfl, fun _ _ _ _ => rfl, rfl⟩, trivial⟩
        · simp [zc, WA, WC, WP', Tr.get]
include hT4 hT7 hT9 hT14 in
theorem zg1 (e mo t l : Int) (nc : Nat) (c : S.Rows) (ns : Nat) (s : S.Rows) (ta tm r : Int) (nf : Nat) (f : S.Rows) (K0 : Nat) (k : Nat → Nat) (li : Nat → S.Rows) (q : S.Rows) (pu : Nat → Bool) (hp : S.PlOk e mo t l nc c ns s ta tm r nf f) (h : S.TrOk ns 0 0 K0 k li q) : FCall (cs14 hbs) z41 [.ag (plC e mo t l nc (S.val c) ns (S.val s) ta tm r nf (S.val f)), .c (.p (.isl 7 K0 (S.legV k li q pu)))] (.c (.p (.isl 2 (S.fsN ns nf nc K0 (S.legV k li q pu)) (S.val (S.fsR e mo t l nc c ns s ta tm r nf f K0 (S.legV k li q pu)))))) [] := by
  have hK := h.hK
  have h1 := S.tr_at h (x := 1) (by omega) (by omega)
  have to : ∀ {g : FuncId} {xs : List AV} {x : AV}, FCall (cs9 hbs) g xs x [] → FCall (cs14 hbs) g xs x [] := fun h => FCall.cfg (C := cs9 hbs) (C' := cs14 hbs) rfl rfl h
  have po : ∀ x : Int, 0 ≤ x → x ≤ 1 → FCall (cs14 hbs) z2b [.ag (plC e mo t l nc (S.val c) ns (S.val s) ta tm r nf (S.val f)), .ag [.p (.int .i64 x), .p (.int .i64 x)], .c (.p (.isl 7 K0 (S.legV k li q pu)))] (.c (.p (.isl 5 (2 * K0) (S.ptV x x nf (S.legV k li q pu))))) [] := fun x h0 h9 => to (fc_load_pointsOf hT4 hT7 hT9 e mo t l nc c ns s ta tm r nf f x x K0 k li q pu hp.hnf (by omega) (fun i hi => by have := h.hk i hi; omega) (by omega) (by omega) (fun i j hi => S.tr_lI2 h i j hi))
  have F : FCall (cs14 hbs) z41 [.ag (plC e mo t l nc (S.val c) ns (S.val s) ta tm r nf (S.val f)), .c (.p (.isl 7 K0 (S.legV k li q pu)))] (.c (.p (.isl 2 (S.fsN ns nf nc K0 (S.legV k li q pu)) fun i j => S.val (S.fsR e mo t l nc c ns s ta tm r nf f K0 (S.legV k li q pu)) (0 + i) j))) [] :=
    fcall_k hT14 (F := z2l) rfl (zg2 e mo t l nc c ns s ta tm r nf f K0 k li q pu _) ⟨po 1 (by omega) (by omega), po 0 (by omega) (by omega), go_load_fuelSpares1 hT4 hT14 933 e mo t l nc c ns s ta tm r nf f (2 * K0) (fun j => k (j / 2)) (fun j => li (j / 2)) (S.ptL 0 (S.legV k li q pu)) (S.ptH 0 (S.legV k li q pu)) (S.ptL 1 (S.legV k li q pu)) (S.ptH 1 (S.legV k li q pu)) nf (fun j => S.two (S.pwL (S.legV k li q pu) j) (S.pwH (S.legV k li q pu) j)) S.lnd hp (by omega) (fun j hj => S.pt_ok h j hj) (fun j hj => S.pt_ok h1 j hj) 0 _ (Nat.zero_le _) ⟨[some 0, none], HasR.mk _ rfl rfl ?_ ?_⟩, rfl⟩
  · refine FCall.mono_r F fun w Z φ u hr => ?_
    simp only [RepA, RepC] at hr ⊢
    exact z5g (fun i j _ _ => by rw [Nat.zero_add]) hr
  · refine ⟨⟨rfl, ?_⟩, rfl, trivial⟩
    simp [WL, WC, WP', plC]
  · exact ⟨.inl rfl, ⟨rfl, rfl, rfl⟩, .inl rfl, ⟨rfl, rfl⟩, .inl rfl, .inl rfl, trivial⟩
include hT4 hT7 hT9 hT14 in
theorem zg3 (e mo t l : Int) (nc : Nat) (c : S.Rows) (ns : Nat) (s : S.Rows) (ta tm r : Int) (nf : Nat) (f : S.Rows) (K0 : Nat) (k : Nat → Nat) (li : Nat → S.Rows) (q : S.Rows) (pu : Nat → Bool) (hp : S.PlOk e mo t l nc c ns s ta tm r nf f) (h : S.TrOk ns 0 0 K0 k li q) : FCall (cs14 hbs) z6c [.ag (plC e mo t l nc (S.val c) ns (S.val s) ta tm r nf (S.val f)), .c (.p (.isl 7 K0 (S.legV k li q pu)))] (.ag [.p (.int .i64 (S.fbL e mo t l nc c ns s ta tm r nf f K0 (S.legV k li q pu))), .p (.int .i64 (S.fbH e mo t l nc c ns s ta tm r nf f K0 (S.legV k li q pu)))]) [] := by
  have hK := h.hK
  have h1 := S.tr_at h (x := 1) (by omega) (by omega)
  have b1 := hp.hnc
  have b2 := hp.hns
  have b3 := hp.hnf
  have hsz : S.fsN ns nf nc K0 (S.legV k li q pu) ≤ 2 * K0 * 25 := S.flN_le (fun j => S.spN_le (by omega) (by omega) (by omega)) _
  have hml : (1000000 : Nat) ≤ maxLen := by decide
  have hF : ∀ x, x < S.fsN ns nf nc K0 (S.legV k li q pu) → (-1000000000000000 ≤ S.fsR e mo t l nc c ns s ta tm r nf f K0 (S.legV k li q pu) x 0 ∧ S.fsR e mo t l nc c ns s ta tm r nf f K0 (S.legV k li q pu) x 0 ≤ 1000000000000000) ∧ (-1000000000000000 ≤ S.fsR e mo t l nc c ns s ta tm r nf f K0 (S.legV k li q pu) x 1 ∧ S.fsR e mo t l nc c ns s ta tm r nf f K0 (S.legV k li q pu) x 1 ≤ 1000000000000000) :=
    (S.fl_iff (P := fun w d => (-1000000000000000 ≤ w ∧ w ≤ 1000000000000000) ∧ (-1000000000000000 ≤ d ∧ d ≤ 1000000000000000)) (2 * K0)).2 fun j hj i hi => by
      have r1 := S.spR_in (ld := S.lnd j) hp (S.pt_ok (pu := pu) h j hj) hi
      have r2 := S.spR_in (ld := S.lnd j) hp (S.pt_ok (pu := pu) h1 j hj) hi
      generalize hx : S.spH e mo t l nc c ns s ta tm r nf f (S.ptV 0 0 nf (S.legV k li q pu)) j i 0 = x
      generalize hy : S.spH e mo t l nc c ns s ta tm r nf f (S.ptV 1 1 nf (S.legV k li q pu)) j i 0 = y
      have r1 : -300000000000000 ≤ x ∧ x ≤ 300000000000000 := by rw [← hx]; exact r1
      have r2 : -300000000000000 ≤ y ∧ y ≤ 300000000000000 := by rw [← hy]; exact r2
      omega
  exact fcall_k hT14 (F := z2i) rfl (zg4 e mo t l nc c ns s ta tm r nf f K0 k li q pu _) ⟨zg1 hT4 hT7 hT9 hT14 e mo t l nc c ns s ta tm r nf f K0 k li q pu hp h, zmu hT14 0 20000 _ _ (by omega) hF, rfl⟩
include hT hT3 hT4 hT7 hT9 hT11 hT14 in
theorem zr3 (e mo t l : Int) (nc : Nat) (c : S.Rows) (ns : Nat) (s : S.Rows) (ta tm r : Int) (nf : Nat) (f : S.Rows) (K0 : Nat) (k : Nat → Nat) (li : Nat → S.Rows) (q : S.Rows) (pu : Nat → Bool) (hnc : nc ≤ maxLen) (hns : ns ≤ 1000000) (hns' : ns ≤ maxLen) (hnf : nf ≤ maxLen) (hK : K0 ≤ 1000) (hk : ∀ i, i < K0 → k i ≤ 1000000) : FCall (cs14 hbs) z2o [.ag (plC e mo t l nc (S.val c) ns (S.val s) ta tm r nf (S.val f)), .c (.p (.isl 7 K0 (S.legV k li q pu)))] (.tp [vI .i64 (S.fuN e mo t l nc c ns s ta tm r nf f K0 (S.legV k li q pu)), vI .i64 (S.fuE e mo t l nc c ns s ta tm r nf f K0 (S.legV k li q pu))]) [] := by
  refine fcall_k hT14 (F := z3s) rfl (zrl e mo t l nc c ns s ta tm r nf f K0 k li q pu _) ⟨FCall.cfg (C := cs11 hbs) (C' := cs14 hbs) rfl rfl (zgw hT hT3 hT11 e mo t l nc c ns s ta tm r nf f 0 0 K0 k li q pu hnc hns hns' hnf hK hk), brP (fun h1 => ?_) fun h1 => ?_⟩
  · have h1 : (S.tE e mo t l nc c ns s ta tm r nf f 0 0 K0 (S.legV k li q pu) != 0) = true := h1
    simp only [S.fuN, S.fuE, h1]
    rfl
  · have h1 : (S.tE e mo t l nc c ns s ta tm r nf f 0 0 K0 (S.legV k li q pu) != 0) = false := h1
    obtain ⟨h2, h3⟩ := S.tE_ok h1
    refine ⟨zg3 hT4 hT7 hT9 hT14 e mo t l nc c ns s ta tm r nf f K0 k li q pu (S.plane_ok h2) (S.tr_ok h3), brP (fun h4 => ?_) fun h4 => ?_⟩
    · simp only [S.fuN, S.fuE, h1, h4]; rfl
    · simp only [S.fuN, S.fuE, h1, h4]; rfl
end
end Go.Ab.B
namespace Go.Ab.S
theorem zqg (a : Int) (g : Nat → Nat → PV) : ∀ i, tkL a g i = tkL 0 g i + a
  | 0 => by simp [tkL]
  | i + 1 => by simp only [tkL]; rw [zqg a g i]; omega
theorem zqh (a : Int) (g : Nat → Nat → PV) : ∀ i, tkH a g i = tkH 0 g i + a
  | 0 => by simp [tkH]
  | i + 1 => by simp only [tkH]; rw [zqh a g i]; omega
theorem zwe (a : Int) (g : Nat → Nat → PV) (j : Nat) : ptL a g j = ptL 0 g j + a := by
  unfold ptL
  cases lnd j
  · simp only []; rw [zqg a g]; omega
  · simp only []; rw [zqg a g]
theorem zwf (a : Int) (g : Nat → Nat → PV) (j : Nat) : ptH a g j = ptH 0 g j + a := by
  unfold ptH
  cases lnd j
  · simp only []; rw [zqh a g]; omega
  · simp only []; rw [zqh a g]
section
variable {e mo t l : Int} {nc : Nat} {c : Rows} {ns : Nat} {s : Rows} {ta tm r : Int} {nf : Nat} {f : Rows} {K0 : Nat} {k : Nat → Nat} {li : Nat → Rows} {q : Rows} {pu : Nat → Bool} {a : Int}
theorem ztu {j i : Nat} (h : i < spN ns nf nc (lnd j)) : spH e mo t l nc c ns s ta tm r nf f (ptV a a nf (legV k li q pu)) j i 0 = spH e mo t l nc c ns s ta tm r nf f (ptV 0 0 nf (legV k li q pu)) j i 0 + a * (spH e mo t l nc c ns s ta tm r nf f (ptV 1 1 nf (legV k li q pu)) j i 0 - spH e mo t l nc c ns s ta tm r nf f (ptV 0 0 nf (legV k li q pu)) j i 0) := by
  have hx : ∀ x : Int, spH e mo t l nc c ns s ta tm r nf f (ptV x x nf (legV k li q pu)) j i 0 = spR e mo t l nc c ns s tm r nf f (k (j / 2)) (li (j / 2)) (ptL 0 (legV k li q pu) j + x) (ptH 0 (legV k li q pu) j + x) (two (pwL (legV k li q pu) j) (pwH (legV k li q pu) j)) (lnd j) (k (j / 2) + 1 + nf) (parts (k (j / 2)) (li (j / 2)) s (ptL 0 (legV k li q pu) j + x) (ptH 0 (legV k li q pu) j + x) ta (two (pwL (legV k li q pu) j) (pwH (legV k li q pu) j)) f) i 0 := fun x => by
    rw [← zwe x, ← zwf x]; rfl
  obtain ⟨A, B, hab⟩ := zvy (e := e) (mo := mo) (t := t) (l := l) (c := c) (s := s) (ta := ta) (tm := tm) (r := r) (f := f) (n := k (j / 2)) (it := li (j / 2)) (lo := ptL 0 (legV k li q pu) j) (hi := ptH 0 (legV k li q pu) j) (m := nf) (wt := two (pwL (legV k li q pu) j) (pwH (legV k li q pu) j)) h
  have h0 := (hx 0).trans (hab 0)
  have h1 := (hx 1).trans (hab 1)
  rw [h0, h1, (hx a).trans (hab a), Int.zero_mul, Int.one_mul, Int.add_zero, show A + B - A = B by omega]
theorem zqi (h : TrOk ns 0 0 K0 k li q) (h0 : 0 ≤ a) (h9 : a ≤ 20000) : from_ (sureH e mo t l nc c ns s ta tm r nf f (ptV a a nf (legV k li q pu))) (2 * K0) 0 = true ↔ (fbL e mo t l nc c ns s ta tm r nf f K0 (legV k li q pu) ≤ a ∧ a ≤ fbH e mo t l nc c ns s ta tm r nf f K0 (legV k li q pu)) := by
  have hc := ztv (F := fsR e mo t l nc c ns s ta tm r nf f K0 (legV k li q pu)) (a := a) (b0 := 0) (h0 := 20000) h0 h9 (fsN ns nf nc K0 (legV k li q pu))
  have hf := fl_iff (cnt := spM ns nf nc (ptV 0 0 nf (legV k li q pu))) (u := spH e mo t l nc c ns s ta tm r nf f (ptV 0 0 nf (legV k li q pu))) (v := spH e mo t l nc c ns s ta tm r nf f (ptV 1 1 nf (legV k li q pu))) (P := fun w d => 0 ≤ w + a * d) (2 * K0)
  have hs : ∀ j, sureH e mo t l nc c ns s ta tm r nf f (ptV a a nf (legV k li q pu)) j = true ↔ ∀ i, i < spN ns nf nc (lnd j) → 0 ≤ spH e mo t l nc c ns s ta tm r nf f (ptV a a nf (legV k li q pu)) j i 0 := fun j => zqj (m := nf) rfl
  constructor
  · intro hh
    refine hc.2 ⟨⟨h0, h9⟩, hf.2 fun j hj i hi => ?_⟩
    have := (hs j).1 (from_iff.1 hh j (Nat.zero_le _) hj) i hi
    rw [ztu hi] at this
    exact this
  · intro hh
    refine from_iff.2 fun j _ hj => (hs j).2 fun i hi => ?_
    have := hf.1 (hc.1 hh).2 j hj i hi
    rw [ztu hi]
    exact this
theorem cm_in {F : Rows} {b0 h0 : Int} : ∀ n : Nat, b0 ≤ cmL b0 F n ∧ cmH h0 F n ≤ h0
  | 0 => ⟨Int.le_refl _, Int.le_refl _⟩
  | n + 1 => by
    have := cm_in (F := F) (b0 := b0) (h0 := h0) n
    simp only [cmL, cmH, mx, mn]
    split <;> split <;> omega
end
end Go.Ab.S
namespace Go.Ab.B
open Go.Proofs
section
variable {hbs : BsOk Tryz.prog} (hT : TabOk (cs hbs)) (hT3 : TabOk (cs3 hbs)) (hT4 : TabOk (cs4 hbs)) (hT7 : TabOk (cs7 hbs)) (hT9 : TabOk (cs9 hbs)) (hT10 : TabOk (cs10 hbs)) (hT11 : TabOk (cs11 hbs)) (hT12 : TabOk (cs12 hbs)) (hT14 : TabOk (cs14 hbs))
include hT hT3 hT4 hT7 hT9 hT10 hT11 hT12 hT14 in
end
end Go.Ab.B
namespace Go.Ab.S
def nsu (e mo t l : Int) (nc : Nat) (c : Rows) (ns : Nat) (s : Rows) (ta tm r : Int) (nf : Nat) (f : Rows) (n : Nat) (g : Nat → Nat → PV) (x : Nat) : Bool := !decide (rA e mo t l nc c ns s ta tm r nf f x x n g < 0)
def rfN (e mo t l : Int) (nc : Nat) (c : Rows) (ns : Nat) (s : Rows) (ta tm r : Int) (nf : Nat) (f : Rows) (n : Nat) (g : Nat → Nat → PV) : Int := match from_ (nsu e mo t l nc c ns s ta tm r nf f n g) (tm + 1).toNat 0 with
  | true => -1
  | false => (fst (nsu e mo t l nc c ns s ta tm r nf f n g) (tm + 1).toNat 0 : Nat)
end Go.Ab.S
namespace Go.Ab.B
open Go.Proofs
def zhu : List AV → Option (AV × Heap)
  | [.ag [.p (.int .i64 e), .p (.int .i64 mo), .p (.int .i64 t), .p (.int .i64 l), .p (.isl 2 nc c), .p (.isl 2 ns s), .p (.int .i64 ta), .p (.int .i64 tm), .p (.int .i64 r), .p (.isl 2 nf f)], .ag [.p (.int .i64 a), .p (.int .i64 b)], .c (.p (.isl 7 n g))] =>
    some (vB (decide (S.rA e mo t l nc (S.num c) ns (S.num s) ta tm r nf (S.num f) a b n g < 0)), [])
  | _ => none
def zps : List AV → Option (AV × Heap)
  | [.ag [.p (.int .i64 e), .p (.int .i64 mo), .p (.int .i64 t), .p (.int .i64 l), .p (.isl 2 nc c), .p (.isl 2 ns s), .p (.int .i64 ta), .p (.int .i64 tm), .p (.int .i64 r), .p (.isl 2 nf f)], .c (.p (.isl 7 n g))] =>
    some (vI .i64 (S.rfN e mo t l nc (S.num c) ns (S.num s) ta tm r nf (S.num f) n g), [])
  | _ => none
def Sp15 (f : Nat) (l : List AV) : Option (AV × Heap) := bif Nat.beq f z71 then zhu l else bif Nat.beq f f_ref02_Fuel then zps l else bif Nat.beq f z2o then zg0 l else Sp13 f l
def zpt (s : St) : Option LTree :=
  match s.h, Tr.get (.o .h) s.t with
  | b0 :: _, .c (.p (.isl 7 n g)) => match b0 with
    | some (.box _ [.p (.int .i64 e), .p (.int .i64 mo), .p (.int .i64 t), .p (.int .i64 l), .p (.isl 2 nc c), .p (.isl 2 ns st), .p (.int .i64 ta), .p (.int .i64 tm), .p (.int .i64 r), .p (.isl 2 nf f)]) =>
      some (.br (S.from_ (S.nsu e mo t l nc (S.num c) ns (S.num st) ta tm r nf (S.num f) n g) (tm + 1).toNat 0) (.e (.exit 0) ⟨.lf, []⟩) (.e .ret ⟨setAll [(.i (.o .h), vI .i64 (S.fst (S.nsu e mo t l nc (S.num c) ns (S.num st) ta tm r nf (S.num f) n g) (tm + 1).toNat 0))], []⟩))
    | _ => none
  | _, _ => none
def Lp15 (n0 : Nat) (a : MC) (s : St) : Option LTree := bif Nat.beq (keyM a 0) zhg then zpt s else Lp13 n0 a s
def cs15 {P : Program} (hbs : BsOk P) : Cfg := { cs13 hbs with Sp := Sp15, Lp := Lp15 }
section
variable {hbs : BsOk Tryz.prog}
theorem zhd (e mo t l : Int) (nc : Nat) (c : S.Rows) (ns : Nat) (s : S.Rows) (ta tm r : Int) (nf : Nat) (f : S.Rows) (a b : Int) (K0 : Nat) (k : Nat → Nat) (li : Nat → S.Rows) (q : S.Rows) (pu : Nat → Bool) (Q : AV → Heap → Prop) :
 ((fun (A0 : Heap) => (((FCall (cs15 hbs) f_ref02_Trip [(.ag (kP e mo t l nc c ns s ta tm r nf f)), (.ag [(cJ a), (cJ b)]), (.c (.p (.isl 7 K0 (S.legV k li q pu))))] (.tp [(vJ (S.rA e mo t l nc c ns s ta tm r nf f a b K0 (S.legV k li q pu))), (vJ (S.rR e mo t l nc c ns s ta tm r nf f a b K0 (S.legV k li q pu))), (vJ (S.rI e mo t l nc c ns s ta tm r nf f a b K0 (S.legV k li q pu)))]) []) ∧
 (BrP (decide ((S.rA e mo t l nc c ns s ta tm r nf f a b K0 (S.legV k li q pu)) < (0 : Int)))
 (Q (vB true) A0)
 (Q (vB false) A0))))) [(bP e mo t l nc c ns s ta tm r nf f), (some (.box z6 [(cJ a), (cJ b)]))]) = (ex (cs15 hbs) 1000 0 z9p ⟨ofL 0 [.ag (plC e mo t l nc (S.val c) ns (S.val s) ta tm r nf (S.val f)), .ag [.p (.int .i64 a), .p (.int .i64 b)], .c (.p (.isl 7 K0 (S.legV k li q pu)))] .lf, []⟩ (endK z30.rs (fun r H => .pr (Q r H)) fun _ _ => .no)).hold2 := by kernel_rfl
theorem vs_ref02_Fuel (fu i : Nat) (e mo t l : Int) (nc : Nat) (c : S.Rows) (ns : Nat) (s : S.Rows) (ta tm r : Int) (nf : Nat) (f : S.Rows) (K0 : Nat) (k : Nat → Nat) (li : Nat → S.Rows) (q : S.Rows) (pu : Nat → Bool) (Q : AX → St → Prop) :
 ((fun (A0 : AV) => ((fun (A1 : Heap) => ((BrP (decide ((i : Int) ≤ tm))
 ((FCall (cs15 hbs) z71 [(.ag (kP e mo t l nc c ns s ta tm r nf f)), (.ag [(cJ (i : Int)), (cJ (i : Int))]), A0] (.c (.p (.bool (decide ((S.rA e mo t l nc c ns s ta tm r nf f (i : Int) (i : Int) K0 (S.legV k li q pu)) < (0 : Int)))))) []) ∧
 (BrP (decide ((S.rA e mo t l nc c ns s ta tm r nf f (i : Int) (i : Int) K0 (S.legV k li q pu)) < (0 : Int)))
 (Q .ret ⟨(L4 (L5 A0 (L1 (vN i))) (L6 (L1 (vN i)) (vT 0 0))), A1⟩)
 (CdP (.i64 ((i : Int) + (1 : Int)))
 (Q .normal ⟨(L4 (L5 A0 (L1 (vJ ((i : Int) + (1 : Int))))) (L6 (L1 .any) (vT 0 0))), A1⟩))))
 (Q (.exit 0) ⟨(L4 (L5 A0 (L1 (vN i))) (L6 (L1 .any) (vT 0 0))), A1⟩)))) [(bP e mo t l nc c ns s ta tm r nf f)])) (.c (.p (.isl 7 K0 (S.legV k li q pu))))) = (ex (cs15 hbs) (fu + 60) 0 z59 ⟨setAll [(.i .h, .c (.pt 0 0)), (.o .h, .c (.p (.isl 7 K0 (S.legV k li q pu)))), (.o (.i .h), .c (cJ i))], [PB e mo t l nc c ns s ta tm r nf f]⟩ (fun e s => .pr (Q e (z19 [.i .h, .o .h, .i (.o .h), .o (.i .h)] s)))).hold2 := by kernel_rfl
theorem zp4 (e mo t l : Int) (nc : Nat) (c : S.Rows) (ns : Nat) (s : S.Rows) (ta tm r : Int) (nf : Nat) (f : S.Rows) (K0 : Nat) (k : Nat → Nat) (li : Nat → S.Rows) (q : S.Rows) (pu : Nat → Bool) (Q : AV → Heap → Prop) :
 ((fun (A0 : AV) => (((za (ex (cs15 hbs) 995) 0 z59 ⟨(.nd (L5 (.c (.p (.isl 7 K0 (S.legV k li q pu)))) (L1 (vJ 0))) (.ag (kP e mo t l nc c ns s ta tm r nf f)) (L6 (L1 (vJ 0)) (vT 0 0))), [(bP e mo t l nc c ns s ta tm r nf f)]⟩ (.br (S.from_ (S.nsu e mo t l nc c ns s ta tm r nf f K0 (S.legV k li q pu)) (Int.toNat (tm + (1 : Int))) 0) (.e (.exit 0) ⟨.lf, []⟩) (.e .ret ⟨(L2 (L3 (L1 A0))), []⟩))) ∧
 (BrP (S.from_ (S.nsu e mo t l nc c ns s ta tm r nf f K0 (S.legV k li q pu)) (Int.toNat (tm + (1 : Int))) 0)
 (Q (vJ (-(1 : Int))) [])
 (Q A0 []))))) (vJ (((S.fst (S.nsu e mo t l nc c ns s ta tm r nf f K0 (S.legV k li q pu)) (Int.toNat (tm + (1 : Int))) 0) : Nat) : Int))) = (ex (cs15 hbs) 1000 0 zen ⟨ofL 0 [.ag (plC e mo t l nc (S.val c) ns (S.val s) ta tm r nf (S.val f)), .c (.p (.isl 7 K0 (S.legV k li q pu)))] .lf, []⟩ (endK z5i.rs (fun r H => .pr (Q r H)) fun _ _ => .no)).hold2 := by kernel_rfl
theorem zf5 (e mo t l : Int) (nc : Nat) (c : S.Rows) (ns : Nat) (s : S.Rows) (ta tm r : Int) (nf : Nat) (f : S.Rows) (K0 : Nat) (k : Nat → Nat) (li : Nat → S.Rows) (q : S.Rows) (pu : Nat → Bool) (Q : AV → Heap → Prop) :
 ((fun (A0 : Heap) => ((fun (A1 : AV) => ((fun (A2 : AV) => ((fun (A3 : AV) => ((fun (A4 : AV) => ((fun (A5 : AV) => ((BrP (decide ((nc : Int) ≤ (20 : Int)))
 (BrP (decide ((ns : Int) ≤ (20 : Int)))
 (BrP (decide ((nf : Int) ≤ (10 : Int)))
 ((FCall (cs15 hbs) zb2 [A2] (.c (.p (.bool (S.fewB K0 (S.legV k li q pu))))) []) ∧
 (BrP (S.fewB K0 (S.legV k li q pu))
 (BrP (decide (tm > (300 : Int)))
 ((FCall (cs15 hbs) z6r [A1] (.c (.p (.bool (S.plane e mo t l nc c ns s ta tm r nf f)))) []) ∧
 (BrP (S.plane e mo t l nc c ns s ta tm r nf f)
 ((FCall (cs15 hbs) f_law02_known [] (vB true) []) ∧
 (Q (vB true) A0))
 ((FCall (cs15 hbs) z2o [A1, A2] A3 []) ∧
 ((FCall (cs15 hbs) z5b [A1, (.ag [(cJ 0), (cJ 0)]), A2, (vB true)] A4 []) ∧
 (BrP ((S.tE e mo t l nc c ns s ta tm r nf f (0 : Int) (0 : Int) K0 (S.legV k li q pu)) != (0 : Int))
 (BrP ((S.fuE e mo t l nc c ns s ta tm r nf f K0 (S.legV k li q pu)) == (S.tE e mo t l nc c ns s ta tm r nf f (0 : Int) (0 : Int) K0 (S.legV k li q pu)))
 (BrP ((S.fuN e mo t l nc c ns s ta tm r nf f K0 (S.legV k li q pu)) == (0 : Int))
 ((FCall (cs15 hbs) f_law02_known [] (vB true) []) ∧
 (Q (vB true) A0))
 (Q (vB false) A0))
 (Q (vB false) A0))
 ((FCall (cs15 hbs) f_ref02_Fuel [A1, A2] A5 []) ∧
 (BrP (decide ((S.rfN e mo t l nc c ns s ta tm r nf f K0 (S.legV k li q pu)) < (0 : Int)))
 (BrP ((S.fuE e mo t l nc c ns s ta tm r nf f K0 (S.legV k li q pu)) == (5 : Int))
 (BrP ((S.fuN e mo t l nc c ns s ta tm r nf f K0 (S.legV k li q pu)) == (0 : Int))
 ((FCall (cs15 hbs) f_law02_known [] (vB true) []) ∧
 (Q (vB true) A0))
 (Q (vB false) A0))
 (Q (vB false) A0))
 (BrP ((S.fuE e mo t l nc c ns s ta tm r nf f K0 (S.legV k li q pu)) == (0 : Int))
 (BrP ((S.fuN e mo t l nc c ns s ta tm r nf f K0 (S.legV k li q pu)) == (S.rfN e mo t l nc c ns s ta tm r nf f K0 (S.legV k li q pu)))
 ((FCall (cs15 hbs) f_law02_known [] (vB true) []) ∧
 (Q (vB true) A0))
 (Q (vB false) A0))
 (Q (vB false) A0)))))))))
 ((FCall (cs15 hbs) z2o [A1, A2] A3 []) ∧
 ((FCall (cs15 hbs) z5b [A1, (.ag [(cJ 0), (cJ 0)]), A2, (vB true)] A4 []) ∧
 (BrP ((S.tE e mo t l nc c ns s ta tm r nf f (0 : Int) (0 : Int) K0 (S.legV k li q pu)) != (0 : Int))
 (BrP ((S.fuE e mo t l nc c ns s ta tm r nf f K0 (S.legV k li q pu)) == (S.tE e mo t l nc c ns s ta tm r nf f (0 : Int) (0 : Int) K0 (S.legV k li q pu)))
 (BrP ((S.fuN e mo t l nc c ns s ta tm r nf f K0 (S.legV k li q pu)) == (0 : Int))
 ((FCall (cs15 hbs) f_law02_known [] (vB true) []) ∧
 (Q (vB true) A0))
 (Q (vB false) A0))
 (Q (vB false) A0))
 ((FCall (cs15 hbs) f_ref02_Fuel [A1, A2] A5 []) ∧
 (BrP (decide ((S.rfN e mo t l nc c ns s ta tm r nf f K0 (S.legV k li q pu)) < (0 : Int)))
 (BrP ((S.fuE e mo t l nc c ns s ta tm r nf f K0 (S.legV k li q pu)) == (5 : Int))
 (BrP ((S.fuN e mo t l nc c ns s ta tm r nf f K0 (S.legV k li q pu)) == (0 : Int))
 ((FCall (cs15 hbs) f_law02_known [] (vB true) []) ∧
 (Q (vB true) A0))
 (Q (vB false) A0))
 (Q (vB false) A0))
 (BrP ((S.fuE e mo t l nc c ns s ta tm r nf f K0 (S.legV k li q pu)) == (0 : Int))
 (BrP ((S.fuN e mo t l nc c ns s ta tm r nf f K0 (S.legV k li q pu)) == (S.rfN e mo t l nc c ns s ta tm r nf f K0 (S.legV k li q pu)))
 ((FCall (cs15 hbs) f_law02_known [] (vB true) []) ∧
 (Q (vB true) A0))
 (Q (vB false) A0))
 (Q (vB false) A0))))))))
 ((FCall (cs15 hbs) f_law02_known [] (vB true) []) ∧
 (Q (vB true) A0))))
 ((FCall (cs15 hbs) f_law02_known [] (vB true) []) ∧
 (Q (vB true) A0)))
 ((FCall (cs15 hbs) f_law02_known [] (vB true) []) ∧
 (Q (vB true) A0)))
 ((FCall (cs15 hbs) f_law02_known [] (vB true) []) ∧
 (Q (vB true) A0))))) (vJ (S.rfN e mo t l nc c ns s ta tm r nf f K0 (S.legV k li q pu))))) (vJ (S.tE e mo t l nc c ns s ta tm r nf f (0 : Int) (0 : Int) K0 (S.legV k li q pu))))) (.tp [(vJ (S.fuN e mo t l nc c ns s ta tm r nf f K0 (S.legV k li q pu))), (vJ (S.fuE e mo t l nc c ns s ta tm r nf f K0 (S.legV k li q pu)))]))) (.c (.p (.isl 7 K0 (S.legV k li q pu)))))) (.ag (kP e mo t l nc c ns s ta tm r nf f)))) [(bP e mo t l nc c ns s ta tm r nf f)]) = (ex (cs15 hbs) 1000 0 z8z ⟨ofL 0 [.ag (plC e mo t l nc (S.val c) ns (S.val s) ta tm r nf (S.val f)), .c (.p (.isl 7 K0 (S.legV k li q pu)))] .lf, []⟩ (endK z2h.rs (fun r H => .pr (Q r H)) fun _ _ => .no)).hold2 := by kernel_rfl
end
end Go.Ab.B
namespace Go.Ab.S
section
variable {e mo t l : Int} {nc : Nat} {c : Rows} {ns : Nat} {s : Rows} {ta tm r : Int} {nf : Nat} {f : Rows} {K0 : Nat} {k : Nat → Nat} {li : Nat → Rows} {q : Rows} {pu : Nat → Bool} {a : Int}
theorem zwx : rA e mo t l nc c ns s ta tm r nf f a a K0 (legV k li q pu) < 0 ↔ from_ (sureH e mo t l nc c ns s ta tm r nf f (ptV a a nf (legV k li q pu))) (2 * K0) 0 = true := by
  unfold rA
  cases h : from_ (sureH e mo t l nc c ns s ta tm r nf f (ptV a a nf (legV k li q pu))) (2 * K0) 0
  · simp only [unA]; constructor
    · intro h2; omega
    · intro h2; cases h2
  · simp only [unA]; constructor
    · intro _; trivial
    · intro _; omega
theorem zw5 (h : TrOk ns 0 0 K0 k li q) (h0 : 0 ≤ a) (h9 : a ≤ 20000) (hL : fbL e mo t l nc c ns s ta tm r nf f K0 (legV k li q pu) ≤ a) (hH : a ≤ fbH e mo t l nc c ns s ta tm r nf f K0 (legV k li q pu)) : a ≤ tm := by
  have hs := (zqi (a := a) h h0 h9).2 ⟨hL, hH⟩
  have hK := h.hK
  have h1 := from_iff.1 hs 0 (Nat.zero_le _) (by omega)
  have h2 := (zqj (ld := lnd 0) (n := k 0) (it := li 0) (lo := ptL a (legV k li q pu) 0) (hi := ptH a (legV k li q pu) 0) (m := nf) (wt := two (pwL (legV k li q pu) 0) (pwH (legV k li q pu) 0)) rfl).1 h1 ns (by unfold spN; omega)
  rw [zt4] at h2
  have h3 : ptH a (legV k li q pu) 0 = a + q 0 0 := rfl
  have h4 := h.hq 0 (by omega)
  omega
theorem rfN_eq (hp : PlOk e mo t l nc c ns s ta tm r nf f) (h : TrOk ns 0 0 K0 k li q) : (fbH e mo t l nc c ns s ta tm r nf f K0 (legV k li q pu) < fbL e mo t l nc c ns s ta tm r nf f K0 (legV k li q pu) ∧ rfN e mo t l nc c ns s ta tm r nf f K0 (legV k li q pu) = -1) ∨ (fbL e mo t l nc c ns s ta tm r nf f K0 (legV k li q pu) ≤ fbH e mo t l nc c ns s ta tm r nf f K0 (legV k li q pu) ∧ rfN e mo t l nc c ns s ta tm r nf f K0 (legV k li q pu) = fbL e mo t l nc c ns s ta tm r nf f K0 (legV k li q pu)) := by
  have htm := hp.htm
  have cb := cm_in (F := fsR e mo t l nc c ns s ta tm r nf f K0 (legV k li q pu)) (b0 := 0) (h0 := 20000) (fsN ns nf nc K0 (legV k li q pu))
  have cb1 : 0 ≤ fbL e mo t l nc c ns s ta tm r nf f K0 (legV k li q pu) := cb.1
  have cb2 : fbH e mo t l nc c ns s ta tm r nf f K0 (legV k li q pu) ≤ 20000 := cb.2
  have hx : ∀ x : Nat, x < (tm + 1).toNat → (nsu e mo t l nc c ns s ta tm r nf f K0 (legV k li q pu) x = false ↔ (fbL e mo t l nc c ns s ta tm r nf f K0 (legV k li q pu) ≤ x ∧ (x : Int) ≤ fbH e mo t l nc c ns s ta tm r nf f K0 (legV k li q pu))) := fun x hlt => by
    have h9 : (x : Int) ≤ 20000 := by omega
    rw [← zqi h (by omega) h9, ← zwx]
    simp [nsu]
  have hL : fbL e mo t l nc c ns s ta tm r nf f K0 (legV k li q pu) ≤ fbH e mo t l nc c ns s ta tm r nf f K0 (legV k li q pu) → fbL e mo t l nc c ns s ta tm r nf f K0 (legV k li q pu) ≤ tm := fun hh => zw5 h cb1 (by omega) (Int.le_refl _) hh
  cases hf : from_ (nsu e mo t l nc c ns s ta tm r nf f K0 (legV k li q pu)) (tm + 1).toNat 0 with
  | true =>
    have e1 : rfN e mo t l nc c ns s ta tm r nf f K0 (legV k li q pu) = -1 := by simp only [rfN, hf]
    refine .inl ⟨?_, e1⟩
    rcases Int.lt_or_le (fbH e mo t l nc c ns s ta tm r nf f K0 (legV k li q pu)) (fbL e mo t l nc c ns s ta tm r nf f K0 (legV k li q pu)) with hh | hh
    · exact hh
    · exfalso
      have hl := hL hh
      have hlt : (fbL e mo t l nc c ns s ta tm r nf f K0 (legV k li q pu)).toNat < (tm + 1).toNat := by omega
      have h2 := from_iff.1 hf _ (Nat.zero_le _) hlt
      have h3 := (hx _ hlt).2 ⟨by omega, by omega⟩
      rw [h2] at h3; cases h3
  | false =>
    obtain ⟨_, h2, h3, h4⟩ := z9f rfl hf
    have e1 : rfN e mo t l nc c ns s ta tm r nf f K0 (legV k li q pu) = (fst (nsu e mo t l nc c ns s ta tm r nf f K0 (legV k li q pu)) (tm + 1).toNat 0 : Nat) := by simp only [rfN, hf]
    rw [e1]
    generalize fst (nsu e mo t l nc c ns s ta tm r nf f K0 (legV k li q pu)) (tm + 1).toNat 0 = j at *
    have h5 := (hx j h2).1 h3
    refine .inr ⟨by omega, ?_⟩
    rcases Int.lt_or_le (fbL e mo t l nc c ns s ta tm r nf f K0 (legV k li q pu)) j with hh | hh
    · exfalso
      have h6 := h4 (fbL e mo t l nc c ns s ta tm r nf f K0 (legV k li q pu)).toNat (Nat.zero_le _) (by omega)
      have h7 := (hx (fbL e mo t l nc c ns s ta tm r nf f K0 (legV k li q pu)).toNat (by omega)).2 ⟨by omega, by omega⟩
      rw [h6] at h7; cases h7
    · omega
end
end Go.Ab.S
namespace Go.Ab.B
open Go.Proofs
section
variable {hbs : BsOk Tryz.prog} (hT : TabOk (cs hbs)) (hT3 : TabOk (cs3 hbs)) (hT4 : TabOk (cs4 hbs)) (hT6 : TabOk (cs6 hbs)) (hT7 : TabOk (cs7 hbs)) (hT9 : TabOk (cs9 hbs)) (hT10 : TabOk (cs10 hbs)) (hT11 : TabOk (cs11 hbs)) (hT12 : TabOk (cs12 hbs)) (hT13 : TabOk (cs13 hbs)) (hT14 : TabOk (cs14 hbs)) (hT15 : TabOk (cs15 hbs))
include hT hT3 hT6 hT13 hT15 in
theorem zhc (e mo t l : Int) (nc : Nat) (c : S.Rows) (ns : Nat) (s : S.Rows) (ta tm r : Int) (nf : Nat) (f : S.Rows) (a b : Int) (K0 : Nat) (k : Nat → Nat) (li : Nat → S.Rows) (q : S.Rows) (pu : Nat → Bool) (hp : S.PlOk e mo t l nc c ns s ta tm r nf f) (h : S.TrOk ns a b K0 k li q) : FCall (cs15 hbs) z71 [.ag (plC e mo t l nc (S.val c) ns (S.val s) ta tm r nf (S.val f)), .ag [.p (.int .i64 a), .p (.int .i64 b)], .c (.p (.isl 7 K0 (S.legV k li q pu)))] (vB (decide (S.rA e mo t l nc c ns s ta tm r nf f a b K0 (S.legV k li q pu) < 0))) [] :=
  fcall_k hT15 (F := z30) rfl (zhd e mo t l nc c ns s ta tm r nf f a b K0 k li q pu _) ⟨FCall.cfg (C := cs13 hbs) (C' := cs15 hbs) rfl rfl (fc_ref02_Trip hT hT3 hT6 hT13 e mo t l nc c ns s ta tm r nf f a b K0 k li q pu hp h), brP (fun h1 => zg h1) fun h1 => zg h1⟩
abbrev lvRF (K0 : Nat) (k : Nat → Nat) (li : Nat → S.Rows) (q : S.Rows) (pu : Nat → Bool) (i : Nat) : List (Ps × AV) := [(.i .h, .c (.pt 0 0)), (.o .h, .c (.p (.isl 7 K0 (S.legV k li q pu)))), (.o (.i .h), .c (.p (.int .i64 i)))]
abbrev trRF (e mo t l : Int) (nc : Nat) (c : S.Rows) (ns : Nat) (s : S.Rows) (ta tm r : Int) (nf : Nat) (f : S.Rows) (K0 : Nat) (k : Nat → Nat) (li : Nat → S.Rows) (q : S.Rows) (pu : Nat → Bool) (i : Nat) : LTree := .br (S.from_ (S.nsu e mo t l nc c ns s ta tm r nf f K0 (S.legV k li q pu)) (tm + 1).toNat i) (.e (.exit 0) ⟨.lf, []⟩) (.e .ret ⟨setAll [(.i (.o .h), vI .i64 (S.fst (S.nsu e mo t l nc c ns s ta tm r nf f K0 (S.legV k li q pu)) (tm + 1).toNat i))], []⟩)
include hT hT3 hT6 hT13 hT15 in
theorem zp2 (fu : Nat) (e mo t l : Int) (nc : Nat) (c : S.Rows) (ns : Nat) (s : S.Rows) (ta tm r : Int) (nf : Nat) (f : S.Rows) (K0 : Nat) (k : Nat → Nat) (li : Nat → S.Rows) (q : S.Rows) (pu : Nat → Bool) (hp : S.PlOk e mo t l nc c ns s ta tm r nf f) (h : S.TrOk ns 0 0 K0 k li q) : ∀ (i : Nat) (st : St), i ≤ (tm + 1).toNat → (∃ ρ, HasR 0 ρ st (lvRF K0 k li q pu i) [PB e mo t l nc c ns s ta tm r nf f]) → za (ex (cs15 hbs) (fu + 60)) 0 z59 st (trRF e mo t l nc c ns s ta tm r nf f K0 k li q pu i) :=
  loop_kT (σ := Nat) (lvRF K0 k li q pu) (fun _ => [PB e mo t l nc c ns s ta tm r nf f]) (fun i => i ≤ (tm + 1).toNat) (fun i => (tm + 1).toNat - i) (trRF e mo t l nc c ns s ta tm r nf f K0 k li q pu) _ (fun i Q => vs_ref02_Fuel (hbs := hbs) fu i e mo t l nc c ns s ta tm r nf f K0 k li q pu Q) fun i hi' K hL X hX => by
      have htm := hp.htm
      refine brP (fun h1 => ?_) fun h1 => ?_
      · have h1 : (i : Int) ≤ tm := of_decide_eq_true h1
        have hlt : i < (tm + 1).toNat := by omega
        refine ⟨zhc hT hT3 hT6 hT13 hT15 e mo t l nc c ns s ta tm r nf f i i K0 k li q pu hp (S.tr_at h (by omega) (by omega)), brP (fun h2 => ?_) fun h2 => cdP (by simp [Cd.holds]; omega) ?_⟩
        · have eo : S.nsu e mo t l nc c ns s ta tm r nf f K0 (S.legV k li q pu) i = false := by simp only [S.nsu]; rw [h2]; rfl
          have e2 : S.from_ (S.nsu e mo t l nc c ns s ta tm r nf f K0 (S.legV k li q pu)) (tm + 1).toNat i = false := by rw [S.from_step hlt, eo, Bool.false_and]
          have e3 : S.fst (S.nsu e mo t l nc c ns s ta tm r nf f K0 (S.legV k li q pu)) (tm + 1).toNat i = i := S.fst_at hlt eo
          simp only [trRF, e2, e3] at hL
          exact HasR.out (l := [(.i (.o .h), vI .i64 i)]) (HasR.mk (ρ := []) rfl rfl (by simp [WH]) ⟨.inl rfl, trivial⟩) hL
        · have eo : S.nsu e mo t l nc c ns s ta tm r nf f K0 (S.legV k li q pu) i = true := by simp only [S.nsu]; rw [h2]; rfl
          have e2 : S.from_ (S.nsu e mo t l nc c ns s ta tm r nf f K0 (S.legV k li q pu)) (tm + 1).toNat i = S.from_ (S.nsu e mo t l nc c ns s ta tm r nf f K0 (S.legV k li q pu)) (tm + 1).toNat (i + 1) := by rw [S.from_step hlt, eo, Bool.true_and]
          have e3 : S.fst (S.nsu e mo t l nc c ns s ta tm r nf f K0 (S.legV k li q pu)) (tm + 1).toNat i = S.fst (S.nsu e mo t l nc c ns s ta tm r nf f K0 (S.legV k li q pu)) (tm + 1).toNat (i + 1) := S.fst_step hlt eo
          simp only [trRF, e2, e3] at hL
          refine hX (i + 1) _ (by omega) (by omega) ⟨[some 0], HasR.mk _ rfl rfl ?_ ?_⟩ hL
          · simp [WH, WB, WL, WC, WP', upsB, memB, ptC, plC]
          · exact ⟨⟨rfl, rfl⟩, .inl rfl, .inl rfl, trivial⟩
      · have h1 : ¬ (i : Int) ≤ tm := of_decide_eq_false h1
        have e2 : S.from_ (S.nsu e mo t l nc c ns s ta tm r nf f K0 (S.legV k li q pu)) (tm + 1).toNat i = true := S.from_end (by omega)
        simp only [trRF, e2] at hL
        exact HasR.out (l := []) (HasR.mk (ρ := []) rfl rfl (by simp [WH]) trivial) hL
include hT hT3 hT6 hT13 hT15 in
theorem zp3 (e mo t l : Int) (nc : Nat) (c : S.Rows) (ns : Nat) (s : S.Rows) (ta tm r : Int) (nf : Nat) (f : S.Rows) (K0 : Nat) (k : Nat → Nat) (li : Nat → S.Rows) (q : S.Rows) (pu : Nat → Bool) (hp : S.PlOk e mo t l nc c ns s ta tm r nf f) (h : S.TrOk ns 0 0 K0 k li q) : FCall (cs15 hbs) f_ref02_Fuel [.ag (plC e mo t l nc (S.val c) ns (S.val s) ta tm r nf (S.val f)), .c (.p (.isl 7 K0 (S.legV k li q pu)))] (vI .i64 (S.rfN e mo t l nc c ns s ta tm r nf f K0 (S.legV k li q pu))) [] := by
  refine fcall_k hT15 (F := z5i) rfl (zp4 e mo t l nc c ns s ta tm r nf f K0 k li q pu _) ⟨zp2 hT hT3 hT6 hT13 hT15 935 e mo t l nc c ns s ta tm r nf f K0 k li q pu hp h 0 _ (Nat.zero_le _) ⟨[some 0], HasR.mk _ rfl rfl ?_ ?_⟩, brP (fun h1 => ?_) fun h1 => ?_⟩
  · simp [WH, WB, WL, WC, WP', upsB, memB, ptC, plC]
  · exact ⟨⟨rfl, rfl⟩, .inl rfl, .inl rfl, trivial⟩
  · simp only [S.rfN, h1]; rfl
  · simp only [S.rfN, h1]; rfl
include hT hT3 hT4 hT6 hT7 hT9 hT11 hT12 hT13 hT14 hT15 in
theorem fc_law02_LoadFuels (h8 : FCall (cs hbs) f_law02_known [] (vB true) []) (e mo t l : Int) (nc : Nat) (c : S.Rows) (ns : Nat) (s : S.Rows) (ta tm r : Int) (nf : Nat) (f : S.Rows) (K0 : Nat) (k : Nat → Nat) (li : Nat → S.Rows) (q : S.Rows) (pu : Nat → Bool) (hnc : nc ≤ maxLen) (hns : ns ≤ maxLen) (hnf : nf ≤ maxLen) (hK : K0 ≤ maxLen) :
    FCall (cs15 hbs) zhe [.ag (plC e mo t l nc (S.val c) ns (S.val s) ta tm r nf (S.val f)), .c (.p (.isl 7 K0 (S.legV k li q pu)))] (vB true) [] := by
  have k8 : FCall (cs15 hbs) f_law02_known [] (vB true) [] := FCall.cfg (C := cs hbs) (C' := cs15 hbs) rfl rfl h8
  refine fcall_k hT15 (F := z2h) rfl (zf5 e mo t l nc c ns s ta tm r nf f K0 k li q pu _) ?_
  refine brP (fun c1 => brP (fun c2 => brP (fun c3 => ⟨FCall.cfg (C := cs12 hbs) (C' := cs15 hbs) rfl rfl (zr2 hT12 K0 k li q pu hK), brP (fun c4 => ?_) fun _ => ⟨k8, rfl⟩⟩) fun _ => ⟨k8, rfl⟩) fun _ => ⟨k8, rfl⟩) fun _ => ⟨k8, rfl⟩
  have c1 : nc ≤ 20 := by simp at c1; omega
  have c2 : ns ≤ 20 := by simp at c2; omega
  have c3 : nf ≤ 10 := by simp at c3; omega
  have c4 : S.fewB K0 (S.legV k li q pu) = true := c4
  simp only [S.fewB, Bool.and_eq_true, decide_eq_true_eq] at c4
  have hk' : ∀ i, i < K0 → k i ≤ 1000000 := fun i hi => by
    have := S.from_iff.1 c4.1 i (Nat.zero_le _) hi
    rw [S.fewAt_eq] at this
    simp at this
    omega
  have hK2 : K0 ≤ 12 := by omega
  have fu := FCall.cfg (C := cs14 hbs) (C' := cs15 hbs) rfl rfl (zr3 hT hT3 hT4 hT7 hT9 hT11 hT14 e mo t l nc c ns s ta tm r nf f K0 k li q pu hnc (by omega) hns hnf (by omega) hk')
  have re := FCall.cfg (C := cs12 hbs) (C' := cs15 hbs) rfl rfl (zj3 hT hT3 hT12 e mo t l nc c ns s ta tm r nf f 0 0 K0 k li q pu hnc (by omega) hns hnf hk')
  have b0 : ∀ {x y : Int}, x = y → (x == y) = false → False := fun e h => by rw [e, beq_self_eq_true] at h; cases h
  have n1 : (S.tE e mo t l nc c ns s ta tm r nf f 0 0 K0 (S.legV k li q pu) != 0) = true → S.fuE e mo t l nc c ns s ta tm r nf f K0 (S.legV k li q pu) = S.tE e mo t l nc c ns s ta tm r nf f 0 0 K0 (S.legV k li q pu) ∧ S.fuN e mo t l nc c ns s ta tm r nf f K0 (S.legV k li q pu) = 0 := fun h => ⟨by simp only [S.fuE, h], by simp only [S.fuN, h]⟩
  have n2 : (S.tE e mo t l nc c ns s ta tm r nf f 0 0 K0 (S.legV k li q pu) != 0) = false → FCall (cs15 hbs) f_ref02_Fuel [.ag (plC e mo t l nc (S.val c) ns (S.val s) ta tm r nf (S.val f)), .c (.p (.isl 7 K0 (S.legV k li q pu)))] (vI .i64 (S.rfN e mo t l nc c ns s ta tm r nf f K0 (S.legV k li q pu))) [] ∧
      ((S.rfN e mo t l nc c ns s ta tm r nf f K0 (S.legV k li q pu) < 0 ∧ S.fuE e mo t l nc c ns s ta tm r nf f K0 (S.legV k li q pu) = 5 ∧ S.fuN e mo t l nc c ns s ta tm r nf f K0 (S.legV k li q pu) = 0) ∨ (0 ≤ S.rfN e mo t l nc c ns s ta tm r nf f K0 (S.legV k li q pu) ∧ S.fuE e mo t l nc c ns s ta tm r nf f K0 (S.legV k li q pu) = 0 ∧ S.fuN e mo t l nc c ns s ta tm r nf f K0 (S.legV k li q pu) = S.rfN e mo t l nc c ns s ta tm r nf f K0 (S.legV k li q pu))) := fun hE => by
    obtain ⟨h1, h2⟩ := S.tE_ok hE
    have hp := S.plane_ok h1
    have hq := S.tr_ok h2
    refine ⟨zp3 hT hT3 hT6 hT13 hT15 e mo t l nc c ns s ta tm r nf f K0 k li q pu hp hq, ?_⟩
    have cb := S.cm_in (F := S.fsR e mo t l nc c ns s ta tm r nf f K0 (S.legV k li q pu)) (b0 := 0) (h0 := 20000) (S.fsN ns nf nc K0 (S.legV k li q pu))
    have cb1 : 0 ≤ S.fbL e mo t l nc c ns s ta tm r nf f K0 (S.legV k li q pu) := cb.1
    rcases S.rfN_eq (pu := pu) hp hq with ⟨h3, h4⟩ | ⟨h3, h4⟩
    · have hd : decide (S.fbL e mo t l nc c ns s ta tm r nf f K0 (S.legV k li q pu) > S.fbH e mo t l nc c ns s ta tm r nf f K0 (S.legV k li q pu)) = true := decide_eq_true h3
      exact .inl ⟨by omega, by simp only [S.fuE, hE, hd], by simp only [S.fuN, hE, hd]⟩
    · have hd : decide (S.fbL e mo t l nc c ns s ta tm r nf f K0 (S.legV k li q pu) > S.fbH e mo t l nc c ns s ta tm r nf f K0 (S.legV k li q pu)) = false := decide_eq_false (by omega)
      exact .inr ⟨by omega, by simp only [S.fuE, hE, hd], by simp only [S.fuN, hE, hd]; omega⟩
  have pl := FCall.cfg (C := cs hbs) (C' := cs15 hbs) rfl rfl (zbj hT (e := e) (m := mo) (t := t) (l := l) (c := c) (s := s) (ta := ta) (tm := tm) (r := r) (f := f) hnc hns hnf)
  cases hE0 : (S.tE e mo t l nc c ns s ta tm r nf f 0 0 K0 (S.legV k li q pu) != 0) with
  | true =>
    obtain ⟨f1, f2⟩ := n1 hE0
    clear n1 n2
    repeat' first
      | exact ⟨k8, rfl⟩
      | (cases x; done)
      | refine ⟨pl, ?_⟩
      | refine ⟨fu, re, ?_⟩
      | refine brP (fun x => ?_) fun x => ?_
    all_goals exfalso
    all_goals (clear fu re pl k8 b0; generalize S.fuE e mo t l nc c ns s ta tm r nf f K0 (S.legV k li q pu) = FE at *; generalize S.fuN e mo t l nc c ns s ta tm r nf f K0 (S.legV k li q pu) = FN at *; generalize S.tE e mo t l nc c ns s ta tm r nf f 0 0 K0 (S.legV k li q pu) = TE at *; simp only [decide_eq_true_eq, decide_eq_false_iff_not, bne_iff_ne, ne_eq, beq_iff_eq, beq_eq_false_iff_ne, bne_eq_false_iff_eq, Int.not_lt, Int.not_le] at *; omega)
  | false =>
    obtain ⟨rf, fct⟩ := n2 hE0
    clear n1 n2
    repeat' first
      | exact ⟨k8, rfl⟩
      | (cases x; done)
      | refine ⟨pl, ?_⟩
      | refine ⟨fu, re, ?_⟩
      | refine ⟨rf, ?_⟩
      | refine brP (fun x => ?_) fun x => ?_
    all_goals exfalso
    all_goals (clear fu re pl rf k8 b0; generalize S.fuE e mo t l nc c ns s ta tm r nf f K0 (S.legV k li q pu) = FE at *; generalize S.fuN e mo t l nc c ns s ta tm r nf f K0 (S.legV k li q pu) = FN at *; generalize S.rfN e mo t l nc c ns s ta tm r nf f K0 (S.legV k li q pu) = RF at *; generalize S.tE e mo t l nc c ns s ta tm r nf f 0 0 K0 (S.legV k li q pu) = TE at *; simp only [decide_eq_true_eq, decide_eq_false_iff_not, bne_iff_ne, ne_eq, beq_iff_eq, beq_eq_false_iff_ne, bne_eq_false_iff_eq, Int.not_lt, Int.not_le] at *; omega)
end
end Go.Ab.B
