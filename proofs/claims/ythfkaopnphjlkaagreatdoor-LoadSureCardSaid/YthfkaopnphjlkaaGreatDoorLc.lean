/- A part of the proof. -/
import Derived.Test.YthfkaopnphjlkaaGreatDoorLb
set_option linter.all false
set_option maxRecDepth 100000
namespace Go.Ab.S
def part (lo hi pc : Int) : Int := lo + Int.tdiv ((hi - lo) * pc) 100
theorem z3j {f g : Nat → Int} : ∀ {k i : Nat}, (∀ j, i ≤ j → j < i + k → f j = g j) → sumR f k i = sumR g k i
  | 0, i, _ => rfl
  | k + 1, i, h => by simp only [sumR]; rw [h i (by omega) (by omega), z3j (k := k) (i := i + 1) fun j h1 h2 => h j (by omega) (by omega)]
theorem zv1 (f : Nat → Int) : ∀ (a b i : Nat), sumR f (a + b) i = sumR f a i + sumR f b (i + a)
  | 0, b, i => by simp [sumR]
  | a + 1, b, i => by
    rw [show a + 1 + b = (a + b) + 1 by omega]
    simp only [sumR]
    rw [zv1 f a b (i + 1), show i + 1 + a = i + (a + 1) by omega]
    omega
theorem zow (f : Nat → Int) (d : Nat) : ∀ (k i : Nat), sumR f k (d + i) = sumR (fun j => f (d + j)) k i
  | 0, i => rfl
  | k + 1, i => by simp only [sumR]; rw [show d + i + 1 = d + (i + 1) by omega, zow f d k (i + 1)]
theorem zox (f : Nat → Int) (n m : Nat) : sumR f (n + 1 + m) 0 = sumR f n 0 + f n + sumR (fun j => f (n + 1 + j)) m 0 := by
  rw [zv1 f (n + 1) m 0, zib f n 0, Nat.zero_add, Nat.zero_add]
  have := zow f (n + 1) m 0
  rw [Nat.add_zero] at this
  rw [this]
theorem zv2 (A B : Int) (q v : Nat → Int) : ∀ (k i : Nat), sumR (fun j => (A * q j - B) * v j) k i = A * sumR (fun j => v j * q j) k i - B * sumR v k i
  | 0, i => by simp [sumR]
  | k + 1, i => by
    simp only [sumR]
    rw [zv2 A B q v k (i + 1), Int.mul_add, Int.mul_add, Int.sub_mul, Int.mul_assoc, Int.mul_comm (q i) (v i)]
    omega
structure zil (n : Nat) (cc : Rows) (tk : Int) (m : Nat) (ww : Rows) (v : Nat → Int) : Prop where
  it : ∀ i, i < n → v i = cc i 0
  tk : v n = tk
  wt : ∀ j, j < m → v (n + 1 + j) = ww j 0
section
variable {e mo t l : Int} {nc : Nat} {c : Rows} {ns : Nat} {s : Rows} {ta tm r : Int} {nf : Nat} {f : Rows} {n : Nat} {it : Rows} {lo hi : Int} {m : Nat} {wt : Rows} {ld : Bool} {cc : Rows} {tk : Int} {ww : Rows} {v : Nat → Int}
theorem zmu (h : zil n cc tk m ww v) : wgt e tk n cc m ww = e + sumR v (n + 1 + m) 0 := by
  rw [zox v n m, h.tk]
  have h1 : sumR v n 0 = sumR (itW cc) n 0 := z3j fun j _ hj => h.it j (by omega)
  have h2 : sumR (fun j => v (n + 1 + j)) m 0 = sumR (itW ww) m 0 := z3j fun j _ hj => h.wt j (by omega)
  rw [h1, h2]
  simp only [wgt]
  omega
theorem ztz (h : zil n cc tk m ww v) : mom mo tk ta n cc it s m ww f = mo + sumR (fun i => v i * parts n it s lo hi ta wt f i 2) (n + 1 + m) 0 := by
  rw [zox _ n m]
  have h0 : v n * parts n it s lo hi ta wt f n 2 = tk * ta := by rw [h.tk, parts_tk]; rfl
  have h1 : sumR (fun i => v i * parts n it s lo hi ta wt f i 2) n 0 = sumR (itM cc it s) n 0 := z3j fun j _ hj => by
    simp only [itM]
    rw [h.it j (by omega), parts_it (show j < n by omega)]
    rfl
  have h2 : sumR (fun j => v (n + 1 + j) * parts n it s lo hi ta wt f (n + 1 + j) 2) m 0 = sumR (wtM ww f) m 0 := z3j fun j _ hj => by
    simp only [wtM]
    rw [h.wt j (by omega), parts_wt]
    rfl
  rw [h0, h1, h2]
  simp only [mom]
  omega
theorem z124 (i k : Nat) (p : Rows) (v : Nat → Int) : sd nc c i (e + sumR v k 0) (mo + sumR (fun j => v j * p j 2) k 0) = sd nc c i e mo + sumR (fun j => lean nc c i (p j 2) * v j) k 0 := by
  have h := zv2 (c (nxt nc i) 0 - c i 0) (c (nxt nc i) 1 - c i 1) (fun j => p j 2) v k 0
  have h' : sumR (fun j => lean nc c i (p j 2) * v j) k 0 = _ := h
  rw [h']
  simp only [sd]
  generalize sumR v k 0 = W
  generalize sumR (fun j => v j * p j 2) k 0 = M
  generalize c (nxt nc i) 0 - c i 0 = A
  generalize c (nxt nc i) 1 - c i 1 = B
  rw [show mo + M - c i 1 = (mo - c i 1) + M by omega, show e + W - c i 0 = (e - c i 0) + W by omega, Int.mul_add, Int.mul_add]
  omega
theorem z10v {k : Nat} {p : Rows} {v : Nat → Int} (hp : ∀ j, j < k → p j 0 ≤ p j 1) (i : Nat) (hv : ∀ j, j < k → v j = endOf (decide (lean nc c i (p j 2) < 0)) (p j 0) (p j 1)) : sd nc c i (e + sumR v k 0) (mo + sumR (fun j => v j * p j 2) k 0) = outR e mo nc c k p i 0 := by
  rw [z124 i k p v]
  have : sumR (fun j => lean nc c i (p j 2) * v j) k 0 = sumR (z10a nc c p i) k 0 := z3j fun j _ h => by
    have h1 := hp j (by omega)
    show lean nc c i (p j 2) * v j = mn (lean nc c i (p j 2) * p j 0) (lean nc c i (p j 2) * p j 1)
    rw [hv j (by omega)]
    generalize lean nc c i (p j 2) = q
    by_cases hq : q < 0
    · have h2 : q * p j 1 ≤ q * p j 0 := Int.mul_le_mul_of_nonpos_left (by omega) h1
      simp only [hq, decide_true, endOf]
      unfold mn; split <;> omega
    · have h2 : q * p j 0 ≤ q * p j 1 := Int.mul_le_mul_of_nonneg_left h1 (by omega)
      simp only [hq, decide_false, endOf]
      unfold mn; split <;> omega
  rw [this]
  rfl
end
section
variable {e mo t l : Int} {nc : Nat} {c : Rows} {ns : Nat} {s : Rows} {ta tm r : Int} {nf : Nat} {f : Rows} {n : Nat} {it : Rows} {lo hi : Int} {m : Nat} {wt : Rows} {ld : Bool} {cc : Rows} {tk : Int} {ww : Rows} {v : Nat → Int}
theorem ze0 {R : Int} {N : Nat} {g : Rows} (h : (R, N, g) ∈ ruP e mo t l nc c ns s ta tm r nf f n it lo hi m wt ld) :
    (R = 2 ∧ N = ns ∧ g = subR s (stS n it)) ∨ (R = 3 ∧ N = 1 ∧ g = num (oneV (tm - hi))) ∨ (R = 4 ∧ N = nf ∧ g = wetR f wt) ∨ (R = 5 ∧ N = 1 ∧ g = num (oneV (heavyX e t l ld (n + 1 + m) (parts n it s lo hi ta wt f)))) ∨
    (R = 6 ∧ N = nc ∧ g = outR e mo nc c (n + 1 + m) (parts n it s lo hi ta wt f)) ∨ (R = 7 ∧ N = b01 ld ∧ g = num (oneV (lo - r))) := by
  simpa [ruP, rules] using h
structure z125 (e mo t l : Int) (nc : Nat) (c : Rows) (ns : Nat) (s : Rows) (ta tm r : Int) (nf : Nat) (f : Rows) (n : Nat) (it : Rows) (lo hi : Int) (m : Nat) (wt : Rows) (ld : Bool) : Prop where
  over : ∀ i : Nat, i < ns → stS n it i ≤ s i 1
  full : hi ≤ tm
  wet : ∀ i, i < nf → wt i 1 ≤ f i 1
  heavy : 0 ≤ heavyX e t l ld (n + 1 + m) (parts n it s lo hi ta wt f)
  out : ∀ i, i < nc → 0 ≤ outR e mo nc c (n + 1 + m) (parts n it s lo hi ta wt f) i 0
  short : ld = true → r ≤ lo
end
def rwO (it : Rows) (ix : Int) : Rows := fun i _ => endOf (it i 0 == ix) (it i 1) (it i 2)
def ab (a0 a1 d0 d1 arm : Int) : Bool := decide ((d0 - a0) * arm < d1 - a1)
def rwE (a0 a1 d0 d1 : Int) (s it : Rows) : Rows := fun i _ => endOf (ab a0 a1 d0 d1 (s (it i 0).toNat 0)) (it i 1) (it i 2)
def rwF (a0 a1 d0 d1 : Int) (f wt : Rows) : Rows := fun i _ => endOf (ab a0 a1 d0 d1 (f i 0)) (wt i 0) (wt i 1)
def rw1 (wt : Rows) (ix : Nat) : Rows := fun k j => match Nat.beq k ix && Nat.beq j 0 with | true => wt ix 1 | false => wt k 0
def wI (nc : Nat) (c s : Rows) (ru ix : Int) (it : Rows) : Rows := match ru == 2 with
  | true => rwO it ix
  | false => match ru == 6 with
    | true => rwE (c ix.toNat 0) (c ix.toNat 1) (c (nxt nc ix.toNat) 0) (c (nxt nc ix.toNat) 1) s it
    | false => ends it 1 (ru == 5)
def wT (nc : Nat) (c : Rows) (ru ix ta lo hi : Int) : Int := match ru == 3 with
  | true => hi
  | false => match ru == 6 with
    | true => endOf (ab (c ix.toNat 0) (c ix.toNat 1) (c (nxt nc ix.toNat) 0) (c (nxt nc ix.toNat) 1) ta) lo hi
    | false => endOf (ru == 5) lo hi
def wW (nc : Nat) (c f : Rows) (ru ix : Int) (wt : Rows) : Rows := match ru == 4 with
  | true => rw1 wt ix.toNat
  | false => match ru == 6 with
    | true => rwF (c ix.toNat 0) (c ix.toNat 1) (c (nxt nc ix.toNat) 0) (c (nxt nc ix.toNat) 1) f wt
    | false => ends wt 0 (ru == 5)
def okAt (e mo t l : Int) (nc : Nat) (c : Rows) (ns : Nat) (s : Rows) (ta tm r : Int) (nf : Nat) (f : Rows) (n : Nat) (it : Rows) (lo hi : Int) (m : Nat) (wt : Rows) (ld : Bool) (ru : Int) (i : Nat) : Bool :=
  !brk e mo t l nc c ns s ta tm r nf f it ld n (wI nc c s ru i it) (wT nc c ru i ta lo hi) m (wW nc c f ru i wt) ru i
def z7h (q : Int → Bool) : List Int → Int
  | [] => 1
  | r :: l => match q r with
    | true => z7h q l
    | false => r
def srR (e mo t l : Int) (nc : Nat) (c : Rows) (ns : Nat) (s : Rows) (ta tm r : Int) (nf : Nat) (f : Rows) (n : Nat) (it : Rows) (lo hi : Int) (m : Nat) (wt : Rows) (ld : Bool) : Int :=
  z7h (fun ru => from_ (okAt e mo t l nc c ns s ta tm r nf f n it lo hi m wt ld ru) (many nc ns nf ru).toNat 0) [2, 3, 4, 5, 6, 7]
def srI (e mo t l : Int) (nc : Nat) (c : Rows) (ns : Nat) (s : Rows) (ta tm r : Int) (nf : Nat) (f : Rows) (n : Nat) (it : Rows) (lo hi : Int) (m : Nat) (wt : Rows) (ld : Bool) (R : Int) : Int := match R == 1 with
  | true => 0
  | false => (fst (okAt e mo t l nc c ns s ta tm r nf f n it lo hi m wt ld R) (many nc ns nf R).toNat 0 : Nat)
end Go.Ab.S
namespace Go.Ab.B
open Go.Proofs
def zpw : List AV → Option (AV × Heap)
  | [.ag [_, _, _, _, .p (.isl 2 nc c), .p (.isl 2 ns s), .p (.int .i64 ta), _, _, .p (.isl 2 nf f)], .ag [.p (.isl 3 n it), .p (.int .i64 lo), .p (.int .i64 hi), .p (.isl 2 m wt), _], .c (.p (.int .i64 ru)), .c (.p (.int .i64 ix))] =>
    some (.ag [.p (.isl 1 n (S.val (S.wI nc (S.num c) (S.num s) ru ix (S.num it)))), .p (.int .i64 (S.wT nc (S.num c) ru ix ta lo hi)), .p (.isl 1 m (S.val (S.wW nc (S.num c) (S.num f) ru ix (S.num wt))))], [])
  | _ => none
def zsb : List AV → Option (AV × Heap)
  | [.ag [.p (.int .i64 e), .p (.int .i64 mo), .p (.int .i64 t), .p (.int .i64 l), .p (.isl 2 nc c), .p (.isl 2 ns s), .p (.int .i64 ta), .p (.int .i64 tm), .p (.int .i64 r), .p (.isl 2 nf f)], .ag [.p (.isl 3 n it), .p (.int .i64 lo), .p (.int .i64 hi), .p (.isl 2 m wt), .p (.bool ld)]] =>
    let R := S.srR e mo t l nc (S.num c) ns (S.num s) ta tm r nf (S.num f) n (S.num it) lo hi m (S.num wt) ld
    let I := S.srI e mo t l nc (S.num c) ns (S.num s) ta tm r nf (S.num f) n (S.num it) lo hi m (S.num wt) ld R
    some (.tp [vI .i64 R, vI .i64 I, .ag [.p (.isl 1 (S.cnt R n) (S.val (S.wI nc (S.num c) (S.num s) R I (S.num it)))), .p (.int .i64 (S.only R (S.wT nc (S.num c) R I ta lo hi))), .p (.isl 1 (S.cnt R m) (S.val (S.wW nc (S.num c) (S.num f) R I (S.num wt))))]], [])
  | _ => none
def Sp6 (f : Nat) (l : List AV) : Option (AV × Heap) := bif Nat.beq f za8 then zpw l else bif Nat.beq f z4v then zsb l else Sp4 f l
def z91 (j : Nat) (s : St) : Option zr :=
  match j with
  | 1 => match s.h, Tr.get (.o (.o .h)) s.t with
    | [b0, b1, b2, _, _, _, some (.arr 1 ty n g ups), b7, b8], .c (.p (.int .i64 ix)) => match b1 with
      | some (.box _ [.p (.isl 3 _ it), _, _, _, _]) => some (.e (.exit 1) ⟨za [(.i (.o (.o .h)), .c (.pt 2 0)), (.o (.i (.o .h)), .c (.pt 8 0))], [b0, b1, b2, none, none, none, some (.arr 1 ty n (S.val (S.rwO (S.num it) ix)) ups), b7, b8]⟩)
      | _ => none
    | _, _ => none
  | _ => match s.h with
    | [b0, b1, b2, _, _, _, b6, b7, b8, b9, b10] => match b0, b1, b9, b10 with
      | some (.box _ [_, _, _, _, _, .p (.isl 2 _ st), _, _, _, .p (.isl 2 _ f)]), some (.box _ [.p (.isl 3 _ it), _, _, .p (.isl 2 _ wt), _]), some (.box _ [.p (.int .i64 a0), .p (.int .i64 a1)]), some (.box _ [.p (.int .i64 d0), .p (.int .i64 d1)]) => match j with
        | 2 => match b6 with
          | some (.arr 1 ty n g ups) => some (.e (.exit 3) ⟨za [(.i (.o .h), .c (.pt 0 0)), (.o (.i .h), .c (.pt 1 0)), (.i (.o (.o .h)), .c (.pt 2 0)), (.o (.i (.o .h)), .c (.pt 8 0)), (.o (.o (.i .h)), .c (.pt 9 0)), (.i (.o (.i .h)), .c (.pt 10 0))], [b0, b1, b2, none, none, none, some (.arr 1 ty n (S.val (S.rwE a0 a1 d0 d1 (S.num st) (S.num it))) ups), b7, b8, b9, b10]⟩)
          | _ => none
        | _ => match b7 with
          | some (.arr 1 ty m g ups) => some (.e (.exit 5) ⟨za [(.i (.o (.o .h)), .c (.pt 2 0)), (.o (.i (.o .h)), .c (.pt 8 0))], [b0, b1, b2, none, none, none, b6, some (.arr 1 ty m (S.val (S.rwF a0 a1 d0 d1 (S.num f) (S.num wt))) ups), b8, b9, b10]⟩)
          | _ => none
      | _, _, _, _ => none
    | _ => none
def zsc (s : St) : Option zr :=
  match s.h, Tr.get (.o (.o (.o .h))) s.t with
  | b0 :: b1 :: b2 :: _, .c (.p (.int .i64 ru)) => match b0, b1 with
    | some (.box _ [.p (.int .i64 e), .p (.int .i64 mo), .p (.int .i64 t), .p (.int .i64 l), .p (.isl 2 nc c), .p (.isl 2 ns st), .p (.int .i64 ta), .p (.int .i64 tm), .p (.int .i64 r), .p (.isl 2 nf f)]), some (.box _ [.p (.isl 3 n it), .p (.int .i64 lo), .p (.int .i64 hi), .p (.isl 2 m wt), .p (.bool ld)]) =>
      some (.br (S.from_ (S.okAt e mo t l nc (S.num c) ns (S.num st) ta tm r nf (S.num f) n (S.num it) lo hi m (S.num wt) ld ru) (S.many nc ns nf ru).toNat 0)
        (.e (.exit 2) ⟨za [(.o (.o (.o .h)), .c (.p (.int .i64 ru))), (.i .h, .c (.pt 0 0)), (.o (.o .h), .c (.pt 1 0)), (.i (.i .h), .c (.pt 2 0))], [b0, b1, b2]⟩)
        (.e .ret ⟨za [(.i (.o .h), .c (.p (.int .i64 ru))), (.o (.i .h), .c (.p (.int .i64 (S.fst (S.okAt e mo t l nc (S.num c) ns (S.num st) ta tm r nf (S.num f) n (S.num it) lo hi m (S.num wt) ld ru) (S.many nc ns nf ru).toNat 0)))), (.i (.i .h), .c (.pt 2 0))],
          [none, none, some (.box z7 [.p (.isl 1 n (S.val (S.wI nc (S.num c) (S.num st) ru (S.fst (S.okAt e mo t l nc (S.num c) ns (S.num st) ta tm r nf (S.num f) n (S.num it) lo hi m (S.num wt) ld ru) (S.many nc ns nf ru).toNat 0) (S.num it)))),
            .p (.int .i64 (S.wT nc (S.num c) ru (S.fst (S.okAt e mo t l nc (S.num c) ns (S.num st) ta tm r nf (S.num f) n (S.num it) lo hi m (S.num wt) ld ru) (S.many nc ns nf ru).toNat 0) ta lo hi)),
            .p (.isl 1 m (S.val (S.wW nc (S.num c) (S.num f) ru (S.fst (S.okAt e mo t l nc (S.num c) ns (S.num st) ta tm r nf (S.num f) n (S.num it) lo hi m (S.num wt) ld ru) (S.many nc ns nf ru).toNat 0) (S.num wt))))])]⟩))
    | _, _ => none
  | _, _ => none
def Lp6 (n0 : Nat) (a : MC) (s : St) : Option zr := bif Nat.beq (keyM a 0) zgw then z91 1 s else bif Nat.beq (keyM a 0) zgx then z91 2 s else bif Nat.beq (keyM a 0) zgy then z91 3 s else bif Nat.beq (keyM a 0) zjh then zsc s else Lp4 n0 a s
def cs6 {P : Program} (hbs : BsOk P) : Cfg := { cs4 hbs with Sp := Sp6, Lp := Lp6 }
section
variable {hbs : BsOk Tryz.prog}
theorem zpl (fu i : Nat) (e mo t l : Int) (nc : Nat) (c : S.Rows) (ns : Nat) (s : S.Rows) (ta tm r : Int) (nf : Nat) (f : S.Rows) (n : Nat) (it : S.Rows) (lo hi : Int) (m : Nat) (wt : S.Rows) (ld : Bool) (b : Bool) (g : S.Rows) (Q : AX → St → Prop) :
 ((fun (A0 : Option Blk) => ((fun (A1 : Tr) => ((fun (A2 : Option Blk) => ((fun (A3 : Option Blk) => ((fun (A4 : Option Blk) => ((fun (A5 : Option Blk) => ((BrP (decide ((i : Int) < (n : Int)))
 (CdP (.rng (i : Int) n)
 (BrP b
 ((z8 (cs6 hbs) zt [(.ag [(cJ (it i 1)), (cJ (it i 2))]), (vB true)] (vJ (S.endOf true (it i 1) (it i 2))) []) ∧
 (CdP (.le i i)
 (CdP (.le i i)
 (CdP (.le ((i + 1) * 8) 140737488355328)
 (CdP (.i64 ((i : Int) + (1 : Int)))
 (Q .normal ⟨A1, [A3, A2, A0, A2, A0, A4, A5, (some (.arr 1 3 (i + 1) (fun x25 => (fun x26 => (if (x25 < i) then (.int .i64 (g x25 x26)) else (List.getD [(.int .i64 (S.endOf true (it i 1) (it i 2)))] (((x25 - i) * 1) + x26) .npt)))) [6]))]⟩))))))
 ((z8 (cs6 hbs) zt [(.ag [(cJ (it i 1)), (cJ (it i 2))]), (vB false)] (vJ (S.endOf false (it i 1) (it i 2))) []) ∧
 (CdP (.le i i)
 (CdP (.le i i)
 (CdP (.le ((i + 1) * 8) 140737488355328)
 (CdP (.i64 ((i : Int) + (1 : Int)))
 (Q .normal ⟨A1, [A3, A2, A0, A2, A0, A4, A5, (some (.arr 1 3 (i + 1) (fun x25 => (fun x26 => (if (x25 < i) then (.int .i64 (g x25 x26)) else (List.getD [(.int .i64 (S.endOf false (it i 1) (it i 2)))] (((x25 - i) * 1) + x26) .npt)))) [6]))]⟩))))))))
 (Q (.exit 0) ⟨(L4 (L5 (.c (.p (.bool b))) (L1 (vT 5 0))) (.nd (L1 (vT 4 0)) (vT 3 0) (L1 (vN i)))), [A3, A2, A0, A2, A0, (some (.box z7 [(.sl 6 0 i), (cJ 0), (.p .nsl)])), A5]⟩)))) (some (.arr 1 3 i (S.val g) [])))) (some (.box z7 [(.sl 7 0 (i + 1)), (cJ 0), (.p .nsl)])))) (bP e mo t l nc c ns s ta tm r nf f))) (bX n it lo hi m wt ld))) (L4 (L5 (.c (.p (.bool b))) (L1 (vT 5 0))) (.nd (L1 (vT 4 0)) (vT 3 0) (L1 (vJ ((i : Int) + (1 : Int)))))))) (some (.box z7 [(.p .nsl), (cJ 0), (.p .nsl)]))) = (ex (cs6 hbs) (fu + 60) 3 z2f ⟨za [(.i .h, .c (.pt 3 0)), (.i (.o .h), .c (.pt 4 0)), (.o (.i .h), .c (.pt 5 0)), (.o .h, .c (.p (.bool b))), (.i (.i .h), .c (cJ i))], [some (.box zp (plC e mo t l nc (S.val c) ns (S.val s) ta tm r nf (S.val f))), some (.box zf (ptC n (S.val it) lo hi m (S.val wt) ld)), some (.box z7 [.p .nsl, .p (.int .i64 0), .p .nsl]), some (.box zf (ptC n (S.val it) lo hi m (S.val wt) ld)), some (.box z7 [.p .nsl, .p (.int .i64 0), .p .nsl]), some (.box z7 [.sl 6 0 i, .p (.int .i64 0), .p .nsl]), some (.arr 1 zk i (S.val g) [])]⟩ (fun e s => .pr (Q e (z2a [.i .h, .o .h, .i (.i .h), .i (.o .h), .o (.i .h)] s)))).hold2 := by kernel_rfl
theorem zpm (fu i : Nat) (e mo t l : Int) (nc : Nat) (c : S.Rows) (ns : Nat) (s : S.Rows) (ta tm r : Int) (nf : Nat) (f : S.Rows) (n : Nat) (it : S.Rows) (lo hi : Int) (m : Nat) (wt : S.Rows) (ld : Bool) (b : Bool) (g g2 : S.Rows) (Q : AX → St → Prop) :
 ((fun (A0 : Option Blk) => ((fun (A1 : Tr) => ((fun (A2 : Option Blk) => ((fun (A3 : Option Blk) => ((fun (A4 : Option Blk) => ((fun (A5 : Option Blk) => ((fun (A6 : Option Blk) => ((BrP (decide ((i : Int) < (m : Int)))
 (CdP (.rng (i : Int) m)
 (BrP b
 ((z8 (cs6 hbs) zt [(.ag [(cJ (wt i 0)), (cJ (wt i 1))]), (vB true)] (vJ (S.endOf true (wt i 0) (wt i 1))) []) ∧
 (CdP (.le i i)
 (CdP (.le i i)
 (CdP (.le ((i + 1) * 8) 140737488355328)
 (CdP (.i64 ((i : Int) + (1 : Int)))
 (Q .normal ⟨A1, [A3, A2, A0, A2, A0, A4, A6, A5, (some (.arr 1 3 (i + 1) (fun x26 => (fun x27 => (if (x26 < i) then (.int .i64 (g2 x26 x27)) else (List.getD [(.int .i64 (S.endOf true (wt i 0) (wt i 1)))] (((x26 - i) * 1) + x27) .npt)))) [7]))]⟩))))))
 ((z8 (cs6 hbs) zt [(.ag [(cJ (wt i 0)), (cJ (wt i 1))]), (vB false)] (vJ (S.endOf false (wt i 0) (wt i 1))) []) ∧
 (CdP (.le i i)
 (CdP (.le i i)
 (CdP (.le ((i + 1) * 8) 140737488355328)
 (CdP (.i64 ((i : Int) + (1 : Int)))
 (Q .normal ⟨A1, [A3, A2, A0, A2, A0, A4, A6, A5, (some (.arr 1 3 (i + 1) (fun x26 => (fun x27 => (if (x26 < i) then (.int .i64 (g2 x26 x27)) else (List.getD [(.int .i64 (S.endOf false (wt i 0) (wt i 1)))] (((x26 - i) * 1) + x27) .npt)))) [7]))]⟩))))))))
 (Q (.exit 2) ⟨(L4 (.nd (L3 (L1 (vN i))) (.c (.p (.bool b))) (L1 (vT 5 0))) (L6 (L1 (vT 4 0)) (vT 3 0))), [A3, A2, A0, A2, A0, (some (.box z7 [(.sl 6 0 n), (cJ 0), (.sl 7 0 i)])), A6, A5]⟩)))) (some (.arr 1 3 n (S.val g) [])))) (some (.arr 1 3 i (S.val g2) [])))) (some (.box z7 [(.sl 6 0 n), (cJ 0), (.sl 8 0 (i + 1))])))) (bP e mo t l nc c ns s ta tm r nf f))) (bX n it lo hi m wt ld))) (L4 (.nd (L3 (L1 (vJ ((i : Int) + (1 : Int))))) (.c (.p (.bool b))) (L1 (vT 5 0))) (L6 (L1 (vT 4 0)) (vT 3 0))))) (some (.box z7 [(.p .nsl), (cJ 0), (.p .nsl)]))) = (ex (cs6 hbs) (fu + 60) 3 z2g ⟨za [(.i .h, .c (.pt 3 0)), (.i (.o .h), .c (.pt 4 0)), (.o (.i .h), .c (.pt 5 0)), (.o .h, .c (.p (.bool b))), (.o (.o (.o .h)), .c (cJ i))], [some (.box zp (plC e mo t l nc (S.val c) ns (S.val s) ta tm r nf (S.val f))), some (.box zf (ptC n (S.val it) lo hi m (S.val wt) ld)), some (.box z7 [.p .nsl, .p (.int .i64 0), .p .nsl]), some (.box zf (ptC n (S.val it) lo hi m (S.val wt) ld)), some (.box z7 [.p .nsl, .p (.int .i64 0), .p .nsl]), some (.box z7 [.sl 6 0 n, .p (.int .i64 0), .sl 7 0 i]), some (.arr 1 zk n (S.val g) []), some (.arr 1 zk i (S.val g2) [])]⟩ (fun e s => .pr (Q e (z2a [.i .h, .o .h, .i (.o .h), .o (.i .h), .o (.o (.o .h))] s)))).hold2 := by kernel_rfl
theorem zn2 (fu i : Nat) (e mo t l : Int) (nc : Nat) (c : S.Rows) (ns : Nat) (s : S.Rows) (ta tm r : Int) (nf : Nat) (f : S.Rows) (n : Nat) (it : S.Rows) (lo hi : Int) (m : Nat) (wt : S.Rows) (ld : Bool) (T ix : Int) (g g2 : S.Rows) (Q : AX → St → Prop) :
 ((fun (A2 : Option Blk) => ((fun (A3 : Option Blk) => ((fun (A0 : Heap) => ((fun (A4 : Tr) => ((fun (A1 : Tr) => ((BrP (decide ((i : Int) < (n : Int)))
 (CdP (.rng (i : Int) n)
 (BrP ((it i 0) == ix)
 (CdP (.rng (i : Int) n)
 (CdP (.rng (i : Int) n)
 (CdP (.le ((0 + i) + 1) n)
 (CdP (.i64 ((i : Int) + (1 : Int)))
 (Q .normal ⟨A1, [(bP e mo t l nc c ns s ta tm r nf f), (bX n it lo hi m wt ld), A3, none, none, none, (some (.arr 1 3 n (fun x27 => (fun x28 => (.int .i64 (S.upI (0 + i) 0 x27 x28 (it i 2) (g x27 x28))))) [])), (some (.arr 1 3 m (S.val g2) [])), A2]⟩)))))
 (CdP (.i64 ((i : Int) + (1 : Int)))
 (Q .normal ⟨A1, A0⟩))))
 (Q (.exit 1) ⟨(L4 A4 (L4 (L3 (L1 (vT 2 0))) (L3 (L1 (vN i))))), A0⟩)))) (L4 A4 (L4 (L3 (L1 (vT 2 0))) (L3 (L1 (vJ ((i : Int) + (1 : Int))))))))) (L4 (L1 (vJ ix)) (L6 (L1 (vT 8 0)) (vT 1 0))))) [(bP e mo t l nc c ns s ta tm r nf f), (bX n it lo hi m wt ld), A3, none, none, none, (some (.arr 1 3 n (S.val g) [])), (some (.arr 1 3 m (S.val g2) [])), A2])) (some (.box z7 [(.p .nsl), (cJ 0), (.p .nsl)])))) (some (.box z7 [(.sl 6 0 n), (cJ T), (.sl 7 0 m)]))) = (ex (cs6 hbs) (fu + 60) 0 z3q ⟨za [(.o (.o .h), .c (cJ ix)), (.o (.i .h), .c (.pt 1 0)), (.i (.o (.o .h)), .c (.pt 2 0)), (.o (.i (.o .h)), .c (.pt 8 0)), (.i (.i (.o .h)), .c (cJ i))], [some (.box zp (plC e mo t l nc (S.val c) ns (S.val s) ta tm r nf (S.val f))), some (.box zf (ptC n (S.val it) lo hi m (S.val wt) ld)), some (.box z7 [.p .nsl, .p (.int .i64 0), .p .nsl]), none, none, none, some (.arr 1 zk n (S.val g) []), some (.arr 1 zk m (S.val g2) []), some (.box z7 [.sl 6 0 n, .p (.int .i64 T), .sl 7 0 m])]⟩ (fun e s => .pr (Q e (z2a [.o (.i .h), .o (.o .h), .i (.i (.o .h)), .i (.o (.o .h)), .o (.i (.o .h))] s)))).hold2 := by kernel_rfl
theorem zn3 (fu i : Nat) (e mo t l : Int) (nc : Nat) (c : S.Rows) (ns : Nat) (s : S.Rows) (ta tm r : Int) (nf : Nat) (f : S.Rows) (n : Nat) (it : S.Rows) (lo hi : Int) (m : Nat) (wt : S.Rows) (ld : Bool) (T a0 a1 d0 d1 : Int) (g g2 : S.Rows) (Q : AX → St → Prop) :
 ((fun (A1 : Option Blk) => ((fun (A2 : Option Blk) => ((fun (A3 : Option Blk) => ((fun (A4 : Option Blk) => ((fun (A5 : Option Blk) => ((fun (A6 : Option Blk) => ((fun (A7 : Tr) => ((fun (A0 : Tr) => ((fun (A8 : Option Blk) => ((BrP (decide ((i : Int) < (n : Int)))
 (CdP (.rng (i : Int) n)
 (CdP (.i64 (d0 - a0))
 (CdP (.rng (i : Int) n)
 (CdP (.rng (it i 0) ns)
 (CdP (.i64 ((d0 - a0) * (s (Int.toNat (it i 0)) 0)))
 (CdP (.i64 (d1 - a1))
 (BrP (decide (((d0 - a0) * (s (Int.toNat (it i 0)) 0)) < (d1 - a1)))
 ((z8 (cs6 hbs) zt [(.ag [(cJ (it i 1)), (cJ (it i 2))]), (vB true)] (vJ (S.endOf true (it i 1) (it i 2))) []) ∧
 (CdP (.rng (i : Int) n)
 (CdP (.le ((0 + i) + 1) n)
 (CdP (.i64 ((i : Int) + (1 : Int)))
 (Q .normal ⟨A0, [A5, A8, A2, none, none, none, (some (.arr 1 3 n (fun x30 => (fun x31 => (.int .i64 (S.upI (0 + i) 0 x30 x31 (S.endOf true (it i 1) (it i 2)) (g x30 x31))))) [])), A6, A1, A3, A4]⟩)))))
 ((z8 (cs6 hbs) zt [(.ag [(cJ (it i 1)), (cJ (it i 2))]), (vB false)] (vJ (S.endOf false (it i 1) (it i 2))) []) ∧
 (CdP (.rng (i : Int) n)
 (CdP (.le ((0 + i) + 1) n)
 (CdP (.i64 ((i : Int) + (1 : Int)))
 (Q .normal ⟨A0, [A5, A8, A2, none, none, none, (some (.arr 1 3 n (fun x30 => (fun x31 => (.int .i64 (S.upI (0 + i) 0 x30 x31 (S.endOf false (it i 1) (it i 2)) (g x30 x31))))) [])), A6, A1, A3, A4]⟩))))))))))))
 (Q (.exit 3) ⟨(L4 (L4 (L2 (L1 (vT 9 0))) (.nd (L1 (vT 8 0)) (vT 1 0) (L1 (vN i)))) A7), [A5, A8, A2, none, none, none, (some (.arr 1 3 n (S.val g) [])), A6, A1, A3, A4]⟩)))) (bX n it lo hi m wt ld))) (L4 (L4 (L2 (L1 (vT 9 0))) (.nd (L1 (vT 8 0)) (vT 1 0) (L1 (vJ ((i : Int) + (1 : Int)))))) A7))) (L3 (.nd (L1 (vT 2 0)) (vT 0 0) (L1 (vT 10 0)))))) (some (.arr 1 3 m (S.val g2) [])))) (bP e mo t l nc c ns s ta tm r nf f))) (some (.box zl [(cJ d0), (cJ d1)])))) (some (.box zl [(cJ a0), (cJ a1)])))) (some (.box z7 [(.p .nsl), (cJ 0), (.p .nsl)])))) (some (.box z7 [(.sl 6 0 n), (cJ T), (.sl 7 0 m)]))) = (ex (cs6 hbs) (fu + 60) 0 z3r ⟨za [(.i (.o .h), .c (.pt 0 0)), (.o (.i .h), .c (.pt 1 0)), (.i (.o (.o .h)), .c (.pt 2 0)), (.o (.i (.o .h)), .c (.pt 8 0)), (.o (.o (.i .h)), .c (.pt 9 0)), (.i (.o (.i .h)), .c (.pt 10 0)), (.o (.i (.i .h)), .c (cJ i))], [some (.box zp (plC e mo t l nc (S.val c) ns (S.val s) ta tm r nf (S.val f))), some (.box zf (ptC n (S.val it) lo hi m (S.val wt) ld)), some (.box z7 [.p .nsl, .p (.int .i64 0), .p .nsl]), none, none, none, some (.arr 1 zk n (S.val g) []), some (.arr 1 zk m (S.val g2) []), some (.box z7 [.sl 6 0 n, .p (.int .i64 T), .sl 7 0 m]), some (.box zl [.p (.int .i64 a0), .p (.int .i64 a1)]), some (.box zl [.p (.int .i64 d0), .p (.int .i64 d1)])]⟩ (fun e s => .pr (Q e (z2a [.i (.o .h), .o (.i .h), .i (.o (.i .h)), .i (.o (.o .h)), .o (.i (.i .h)), .o (.i (.o .h)), .o (.o (.i .h))] s)))).hold2 := by kernel_rfl
theorem zn4 (fu i : Nat) (e mo t l : Int) (nc : Nat) (c : S.Rows) (ns : Nat) (s : S.Rows) (ta tm r : Int) (nf : Nat) (f : S.Rows) (n : Nat) (it : S.Rows) (lo hi : Int) (m : Nat) (wt : S.Rows) (ld : Bool) (T a0 a1 d0 d1 : Int) (g g2 : S.Rows) (Q : AX → St → Prop) :
 ((fun (A1 : Option Blk) => ((fun (A2 : Option Blk) => ((fun (A3 : Option Blk) => ((fun (A4 : Option Blk) => ((fun (A5 : Option Blk) => ((fun (A6 : Option Blk) => ((fun (A7 : Tr) => ((fun (A8 : Option Blk) => ((fun (A9 : Tr) => ((fun (A0 : Tr) => ((BrP (decide ((i : Int) < (m : Int)))
 (CdP (.rng (i : Int) m)
 (CdP (.i64 (d0 - a0))
 (CdP (.rng (i : Int) nf)
 (CdP (.i64 ((d0 - a0) * (f i 0)))
 (CdP (.i64 (d1 - a1))
 (BrP (decide (((d0 - a0) * (f i 0)) < (d1 - a1)))
 ((z8 (cs6 hbs) zt [(.ag [(cJ (wt i 0)), (cJ (wt i 1))]), (vB true)] (vJ (S.endOf true (wt i 0) (wt i 1))) []) ∧
 (CdP (.rng (i : Int) m)
 (CdP (.le ((0 + i) + 1) m)
 (CdP (.i64 ((i : Int) + (1 : Int)))
 (Q .normal ⟨A0, [A5, A8, A2, none, none, none, A6, (some (.arr 1 3 m (fun x30 => (fun x31 => (.int .i64 (S.upI (0 + i) 0 x30 x31 (S.endOf true (wt i 0) (wt i 1)) (g2 x30 x31))))) [])), A1, A3, A4]⟩)))))
 ((z8 (cs6 hbs) zt [(.ag [(cJ (wt i 0)), (cJ (wt i 1))]), (vB false)] (vJ (S.endOf false (wt i 0) (wt i 1))) []) ∧
 (CdP (.rng (i : Int) m)
 (CdP (.le ((0 + i) + 1) m)
 (CdP (.i64 ((i : Int) + (1 : Int)))
 (Q .normal ⟨A0, [A5, A8, A2, none, none, none, A6, (some (.arr 1 3 m (fun x30 => (fun x31 => (.int .i64 (S.upI (0 + i) 0 x30 x31 (S.endOf false (wt i 0) (wt i 1)) (g2 x30 x31))))) [])), A1, A3, A4]⟩)))))))))))
 (Q (.exit 5) ⟨(L4 A7 (L4 A9 (L2 (L1 (vN i))))), [A5, A8, A2, none, none, none, A6, (some (.arr 1 3 m (S.val g2) [])), A1, A3, A4]⟩)))) (L4 A7 (L4 A9 (L2 (L1 (vJ ((i : Int) + (1 : Int))))))))) (.nd (L1 (vT 2 0)) (vT 0 0) (L1 (vT 10 0))))) (bX n it lo hi m wt ld))) (L4 (L2 (L1 (vT 9 0))) (L6 (L1 (vT 8 0)) (vT 1 0))))) (some (.arr 1 3 n (S.val g) [])))) (bP e mo t l nc c ns s ta tm r nf f))) (some (.box zl [(cJ d0), (cJ d1)])))) (some (.box zl [(cJ a0), (cJ a1)])))) (some (.box z7 [(.p .nsl), (cJ 0), (.p .nsl)])))) (some (.box z7 [(.sl 6 0 n), (cJ T), (.sl 7 0 m)]))) = (ex (cs6 hbs) (fu + 60) 0 z2b ⟨za [(.i (.o .h), .c (.pt 0 0)), (.o (.i .h), .c (.pt 1 0)), (.i (.o (.o .h)), .c (.pt 2 0)), (.o (.i (.o .h)), .c (.pt 8 0)), (.o (.o (.i .h)), .c (.pt 9 0)), (.i (.o (.i .h)), .c (.pt 10 0)), (.i (.i (.i .h)), .c (cJ i))], [some (.box zp (plC e mo t l nc (S.val c) ns (S.val s) ta tm r nf (S.val f))), some (.box zf (ptC n (S.val it) lo hi m (S.val wt) ld)), some (.box z7 [.p .nsl, .p (.int .i64 0), .p .nsl]), none, none, none, some (.arr 1 zk n (S.val g) []), some (.arr 1 zk m (S.val g2) []), some (.box z7 [.sl 6 0 n, .p (.int .i64 T), .sl 7 0 m]), some (.box zl [.p (.int .i64 a0), .p (.int .i64 a1)]), some (.box zl [.p (.int .i64 d0), .p (.int .i64 d1)])]⟩ (fun e s => .pr (Q e (z2a [.i (.o .h), .o (.i .h), .i (.i (.i .h)), .i (.o (.i .h)), .i (.o (.o .h)), .o (.i (.o .h)), .o (.o (.i .h))] s)))).hold2 := by kernel_rfl
theorem z8x (e mo t l : Int) (nc : Nat) (c : S.Rows) (ns : Nat) (s : S.Rows) (ta tm r : Int) (nf : Nat) (f : S.Rows) (n : Nat) (it : S.Rows) (lo hi : Int) (m : Nat) (wt : S.Rows) (ld : Bool) (ru ix : Int) (Q : AV → Heap → Prop) :
 ((fun (A0 : Option Blk) => ((fun (A5 : Option Blk) => ((fun (A6 : Option Blk) => ((fun (A7 : Tr) => ((fun (A8 : Option Blk) => ((fun (A9 : Option Blk) => ((fun (A13 : Option Blk) => ((fun (A14 : Option Blk) => ((fun (A15 : List CV) => ((fun (A2 : Option Blk) => ((fun (A16 : List CV) => ((fun (A3 : Option Blk) => ((fun (A17 : Option Blk) => ((fun (A18 : Option Blk) => ((fun (A19 : AV) => ((fun (A20 : List CV) => ((fun (A1 : Option Blk) => ((fun (A21 : Tr) => ((fun (A22 : AV) => ((fun (A23 : List CV) => ((fun (A4 : Option Blk) => ((fun (A25 : Option Blk) => ((fun (A26 : AV) => ((fun (A27 : Tr) => ((fun (A28 : Option Blk) => ((fun (A29 : Tr) => ((fun (A30 : Tr) => ((fun (A31 : Tr) => ((fun (A32 : Tr) => ((fun (A33 : Tr) => ((fun (A34 : Tr) => ((fun (A35 : AV) => ((fun (A36 : AV) => ((fun (A37 : List CV) => ((fun (A24 : Option Blk) => ((fun (A38 : Option Blk) => ((fun (A39 : Tr) => ((fun (A40 : Tr) => ((fun (A41 : Tr) => ((fun (A42 : Tr) => ((fun (A43 : Tr) => ((fun (A44 : Tr) => ((fun (A45 : Tr) => ((fun (A10 : Tr) => ((fun (A11 : Tr) => ((fun (A12 : Tr) => ((BrP (ru == (5 : Int))
 ((zd (ex (cs6 hbs) 991) 3 z2f ⟨(.nd A40 A22 (.nd (L1 (vT 4 0)) (vT 3 0) (L1 (vJ 0)))), [A8, A9, A5, A9, A5, A5]⟩ (.e (.exit 0) ⟨(L4 A40 A30), [A8, A9, A5, A9, A5, A25, A18]⟩)) ∧
 ((zd (ex (cs6 hbs) 990) 3 z2g ⟨(L4 (.nd (L3 (L1 (vJ 0))) (vB true) (L1 (vT 5 0))) A30), [A8, A9, A5, A9, A5, A25, A18]⟩ (.e (.exit 2) ⟨(L4 A40 A30), [A8, A9, A5, A9, A5, A38, A18, A14]⟩)) ∧
 ((z8 (cs6 hbs) zt [A26, (vB true)] A36 []) ∧
 (BrP (ru == (2 : Int))
 ((zd (ex (cs6 hbs) 990) 0 z3q ⟨(.nd (.nd A41 A22 (.nd (L6 (L1 (vB true)) (vT 8 0)) (vT 1 0) A27)) A19 (.nd A42 (vJ ru) (L3 (L6 (L1 (.ag A16)) (vJ 0))))), [A8, A9, A5, A9, A3, A3, A18, A14, A3]⟩ (.e (.exit 1) ⟨A21, [A8, A9, A5, none, none, none, A28, A14, A3]⟩)) ∧
 (Q (.ag A16) [A8, A9, A3, none, none, none, A28, A14, A3]))
 (BrP (ru == (3 : Int))
 (Q (.ag A37) [A8, A9, A24, A9, A3, A3, A18, A14, A24])
 (BrP (ru == (4 : Int))
 (CdP (.rng ix m)
 (CdP (.rng ix m)
 (CdP (.le ((0 + (Int.toNat ix)) + 1) m)
 (Q (.ag A16) [A8, A9, A3, A9, A3, A3, A18, (some (.arr 1 3 m (fun x23 => (fun x24 => (.int .i64 (S.upI (0 + (Int.toNat ix)) 0 x23 x24 (wt (Int.toNat ix) 1) (S.ends wt 0 true x23 x24))))) [])), A3]))))
 (BrP (ru == (6 : Int))
 (CdP (.ne (nc : Int))
 (CdP (.rng (Int.tmod ix (nc : Int)) nc)
 (CdP (.i64 (ix + (1 : Int)))
 (CdP (.ne (nc : Int))
 (CdP (.rng (Int.tmod (ix + (1 : Int)) (nc : Int)) nc)
 ((zd (ex (cs6 hbs) 982) 0 z3r ⟨(.nd (.nd A34 A22 (.nd (.nd (L5 (vB true) (L1 (vB false))) (vT 8 0) (L3 (L3 (L1 (vJ (ix + (1 : Int))))))) (vT 1 0) A43)) A19 (.nd A29 (vJ ru) (L4 (L4 (L6 A27 (.ag A16)) (L3 (L3 (L1 (.ag A20))))) A44))), [A8, A9, A5, A9, A3, A3, A18, A14, A3, A4, A1]⟩ (.e (.exit 3) ⟨A33, [A8, A9, A5, none, none, none, A0, A14, A3, A4, A1]⟩)) ∧
 (CdP (.i64 ((c (Int.toNat (Int.tmod (ix + (1 : Int)) (nc : Int))) 0) - (c (Int.toNat (Int.tmod ix (nc : Int))) 0)))
 (CdP (.i64 (((c (Int.toNat (Int.tmod (ix + (1 : Int)) (nc : Int))) 0) - (c (Int.toNat (Int.tmod ix (nc : Int))) 0)) * ta))
 (CdP (.i64 ((c (Int.toNat (Int.tmod (ix + (1 : Int)) (nc : Int))) 1) - (c (Int.toNat (Int.tmod ix (nc : Int))) 1)))
 (BrP (decide ((((c (Int.toNat (Int.tmod (ix + (1 : Int)) (nc : Int))) 0) - (c (Int.toNat (Int.tmod ix (nc : Int))) 0)) * ta) < ((c (Int.toNat (Int.tmod (ix + (1 : Int)) (nc : Int))) 1) - (c (Int.toNat (Int.tmod ix (nc : Int))) 1))))
 ((z8 (cs6 hbs) zt [A26, (vB true)] A36 []) ∧
 ((zd (ex (cs6 hbs) 981) 0 z2b ⟨A12, [A8, A9, A5, none, none, none, A0, A14, A3, A4, A1]⟩ (.e (.exit 5) ⟨A21, [A8, A9, A5, none, none, none, A0, A6, A3, A4, A1]⟩)) ∧
 (Q (.ag A16) [A8, A9, A3, none, none, none, A0, A6, A3, A4, A1])))
 ((z8 (cs6 hbs) zt [A26, (vB false)] A35 []) ∧
 ((zd (ex (cs6 hbs) 981) 0 z2b ⟨A11, [A8, A9, A5, none, none, none, A0, A14, A2, A4, A1]⟩ (.e (.exit 5) ⟨A21, [A8, A9, A5, none, none, none, A0, A6, A2, A4, A1]⟩)) ∧
 (Q (.ag A15) [A8, A9, A2, none, none, none, A0, A6, A2, A4, A1])))))))))))))
 (Q (.ag A16) [A8, A9, A3, A9, A3, A3, A18, A14, A3]))))))))
 ((zd (ex (cs6 hbs) 991) 3 z2f ⟨(.nd A39 A22 (.nd (L1 (vT 4 0)) (vT 3 0) (L1 (vJ 0)))), [A8, A9, A5, A9, A5, A5]⟩ (.e (.exit 0) ⟨(L4 A39 A30), [A8, A9, A5, A9, A5, A25, A17]⟩)) ∧
 ((zd (ex (cs6 hbs) 990) 3 z2g ⟨(L4 (.nd (L3 (L1 (vJ 0))) (vB false) (L1 (vT 5 0))) A30), [A8, A9, A5, A9, A5, A25, A17]⟩ (.e (.exit 2) ⟨(L4 A39 A30), [A8, A9, A5, A9, A5, A38, A17, A13]⟩)) ∧
 ((z8 (cs6 hbs) zt [A26, (vB false)] A35 []) ∧
 (BrP (ru == (2 : Int))
 ((zd (ex (cs6 hbs) 990) 0 z3q ⟨(.nd (.nd A41 A22 (.nd (L6 (L1 (vB false)) (vT 8 0)) (vT 1 0) A27)) A19 (.nd A42 (vJ ru) (L3 (L6 (L1 (.ag A15)) (vJ 0))))), [A8, A9, A5, A9, A2, A2, A17, A13, A2]⟩ (.e (.exit 1) ⟨A21, [A8, A9, A5, none, none, none, A28, A13, A2]⟩)) ∧
 (Q (.ag A15) [A8, A9, A2, none, none, none, A28, A13, A2]))
 (BrP (ru == (3 : Int))
 (Q (.ag A37) [A8, A9, A24, A9, A2, A2, A17, A13, A24])
 (BrP (ru == (4 : Int))
 (CdP (.rng ix m)
 (CdP (.rng ix m)
 (CdP (.le ((0 + (Int.toNat ix)) + 1) m)
 (Q (.ag A15) [A8, A9, A2, A9, A2, A2, A17, (some (.arr 1 3 m (fun x23 => (fun x24 => (.int .i64 (S.upI (0 + (Int.toNat ix)) 0 x23 x24 (wt (Int.toNat ix) 1) (S.ends wt 0 false x23 x24))))) [])), A2]))))
 (BrP (ru == (6 : Int))
 (CdP (.ne (nc : Int))
 (CdP (.rng (Int.tmod ix (nc : Int)) nc)
 (CdP (.i64 (ix + (1 : Int)))
 (CdP (.ne (nc : Int))
 (CdP (.rng (Int.tmod (ix + (1 : Int)) (nc : Int)) nc)
 ((zd (ex (cs6 hbs) 982) 0 z3r ⟨(.nd (.nd A34 A22 (.nd (.nd (L5 (vB false) (L1 (vB false))) (vT 8 0) (L3 (L3 (L1 (vJ (ix + (1 : Int))))))) (vT 1 0) A43)) A19 (.nd A29 (vJ ru) (L4 (L4 (L6 A27 (.ag A15)) (L3 (L3 (L1 (.ag A20))))) A44))), [A8, A9, A5, A9, A2, A2, A17, A13, A2, A4, A1]⟩ (.e (.exit 3) ⟨A33, [A8, A9, A5, none, none, none, A0, A13, A2, A4, A1]⟩)) ∧
 (CdP (.i64 ((c (Int.toNat (Int.tmod (ix + (1 : Int)) (nc : Int))) 0) - (c (Int.toNat (Int.tmod ix (nc : Int))) 0)))
 (CdP (.i64 (((c (Int.toNat (Int.tmod (ix + (1 : Int)) (nc : Int))) 0) - (c (Int.toNat (Int.tmod ix (nc : Int))) 0)) * ta))
 (CdP (.i64 ((c (Int.toNat (Int.tmod (ix + (1 : Int)) (nc : Int))) 1) - (c (Int.toNat (Int.tmod ix (nc : Int))) 1)))
 (BrP (decide ((((c (Int.toNat (Int.tmod (ix + (1 : Int)) (nc : Int))) 0) - (c (Int.toNat (Int.tmod ix (nc : Int))) 0)) * ta) < ((c (Int.toNat (Int.tmod (ix + (1 : Int)) (nc : Int))) 1) - (c (Int.toNat (Int.tmod ix (nc : Int))) 1))))
 ((z8 (cs6 hbs) zt [A26, (vB true)] A36 []) ∧
 ((zd (ex (cs6 hbs) 981) 0 z2b ⟨A12, [A8, A9, A5, none, none, none, A0, A13, A3, A4, A1]⟩ (.e (.exit 5) ⟨A21, [A8, A9, A5, none, none, none, A0, A6, A3, A4, A1]⟩)) ∧
 (Q (.ag A16) [A8, A9, A3, none, none, none, A0, A6, A3, A4, A1])))
 ((z8 (cs6 hbs) zt [A26, (vB false)] A35 []) ∧
 ((zd (ex (cs6 hbs) 981) 0 z2b ⟨A11, [A8, A9, A5, none, none, none, A0, A13, A2, A4, A1]⟩ (.e (.exit 5) ⟨A21, [A8, A9, A5, none, none, none, A0, A6, A2, A4, A1]⟩)) ∧
 (Q (.ag A15) [A8, A9, A2, none, none, none, A0, A6, A2, A4, A1])))))))))))))
 (Q (.ag A15) [A8, A9, A2, A9, A2, A2, A17, A13, A2]))))))))))) (L4 (L4 A10 (.nd A32 (vT 1 0) (L4 (L4 (L3 (L3 (L1 A36))) (L2 (L1 A26))) (L2 (L2 (L1 (vJ ta))))))) (L4 (.nd A31 (vT 0 0) (.nd (L4 (L3 A27) (L2 (L1 (vT 1 1)))) (vT 10 0) A45)) A7)))) (L4 (L4 A10 (.nd A32 (vT 1 0) (L4 (L4 (L3 (L3 (L1 A35))) (L2 (L1 A26))) (L2 (L2 (L1 (vJ ta))))))) (L4 (.nd A31 (vT 0 0) (.nd (L4 (L3 (L3 (L1 (vB false)))) (L2 (L1 (vT 1 1)))) (vT 10 0) A45)) A7)))) (L4 (L4 (L3 (L3 (L3 (L1 (vT 10 1))))) (L2 (L2 (L1 (vJ (c (Int.toNat (Int.tmod (ix + (1 : Int)) (nc : Int))) 0)))))) (.nd (L3 (L3 (L3 (L1 (vJ ((c (Int.toNat (Int.tmod (ix + (1 : Int)) (nc : Int))) 1) - (c (Int.toNat (Int.tmod ix (nc : Int))) 1))))))) (vT 9 0) A45)))) (L2 (L2 (L1 (vT 0 6)))))) (L3 (L4 (L3 (L1 (.ag A23))) (L1 (vB false)))))) (L6 (L6 (L3 (L1 (vJ ix))) (vB false)) (vJ 0)))) (.nd (L6 (L1 (vJ ru)) (vT 2 0)) (vT 0 0) A27))) (.nd (L3 (L1 A22)) (vJ ix) (L3 (L1 (vJ ru)))))) (L5 (vB true) (L1 (vT 5 0))))) (L5 (vB false) (L1 (vT 5 0))))) (some (.box z7 [(.sl 6 0 n), (cJ 0), (.sl 7 0 m)])))) (some (.box z7 A37)))) [(.sl 6 0 n), (cJ hi), (.sl 7 0 m)])) (vJ (S.endOf true lo hi)))) (vJ (S.endOf false lo hi)))) (.nd (L4 (L1 A22) (L4 (L3 (L1 A19)) (L1 (vB false)))) (vJ ix) (L6 (L6 A27 (vJ ru)) (vT 9 0))))) (L4 (L4 (L2 (L1 (vT 9 0))) (L6 (L1 (vT 8 0)) (vT 1 0))) (L3 (.nd (L1 (vT 2 0)) (vT 0 0) (L1 (vT 10 0))))))) (.nd (L3 (L3 (L3 (L1 (vT 9 1))))) (vT 8 0) (L2 (L2 (L1 (vJ (c (Int.toNat (Int.tmod ix (nc : Int))) 0)))))))) (.nd (L3 (L3 (L3 (L1 (vJ (c (Int.toNat (Int.tmod (ix + (1 : Int)) (nc : Int))) 1)))))) (vT 2 0) (L2 (L2 (L1 (vT 9 0))))))) (L6 (L1 (vT 4 0)) (vT 3 0)))) (.nd (.nd (L5 (vJ ru) (L1 (vB false))) (vT 2 0) (L3 (L3 (L1 (vJ ix))))) (vT 0 0) (L6 (L6 (L3 (L1 A19)) (vB false)) (vT 10 0))))) (some (.arr 1 3 n (S.val (S.rwO it ix)) [])))) (L3 (L1 (vB true))))) (.ag [(cJ lo), (cJ hi)]))) (some (.box z7 [(.sl 6 0 n), (cJ 0), (.p .nsl)])))) (some (.box zl A23)))) [(cJ (c (Int.toNat (Int.tmod ix (nc : Int))) 0)), (cJ (c (Int.toNat (Int.tmod ix (nc : Int))) 1))])) (.ag (kX n it lo hi m wt ld)))) (L4 (L2 (L3 (L1 (vT 8 0)))) (L3 (L3 (L1 (vT 2 0))))))) (some (.box zl A20)))) [(cJ (c (Int.toNat (Int.tmod (ix + (1 : Int)) (nc : Int))) 0)), (cJ (c (Int.toNat (Int.tmod (ix + (1 : Int)) (nc : Int))) 1))])) (.ag (kP e mo t l nc c ns s ta tm r nf f)))) (some (.arr 1 3 n (S.val (S.ends it 1 true)) [])))) (some (.arr 1 3 n (S.val (S.ends it 1 false)) [])))) (some (.box z7 A16)))) [(.sl 6 0 n), (cJ (S.endOf true lo hi)), (.sl 7 0 m)])) (some (.box z7 A15)))) [(.sl 6 0 n), (cJ (S.endOf false lo hi)), (.sl 7 0 m)])) (some (.arr 1 3 m (S.val (S.ends wt 0 true)) [])))) (some (.arr 1 3 m (S.val (S.ends wt 0 false)) [])))) (bX n it lo hi m wt ld))) (bP e mo t l nc c ns s ta tm r nf f))) (L4 (L4 (L3 (L3 (L3 (L1 (vJ (c (Int.toNat (Int.tmod ix (nc : Int))) 1)))))) (L2 (L2 (L1 (vJ ((c (Int.toNat (Int.tmod (ix + (1 : Int)) (nc : Int))) 0) - (c (Int.toNat (Int.tmod ix (nc : Int))) 0))))))) (.nd (L4 (L3 (L3 (L1 (vT 8 1)))) (L2 (L1 (vT 10 0)))) (vJ 0) (L2 (L2 (L1 (vJ (((c (Int.toNat (Int.tmod (ix + (1 : Int)) (nc : Int))) 0) - (c (Int.toNat (Int.tmod ix (nc : Int))) 0)) * ta))))))))) (some (.arr 1 3 m (S.val (S.rwF (c (Int.toNat (Int.tmod ix (nc : Int))) 0) (c (Int.toNat (Int.tmod ix (nc : Int))) 1) (c (Int.toNat (Int.tmod (ix + (1 : Int)) (nc : Int))) 0) (c (Int.toNat (Int.tmod (ix + (1 : Int)) (nc : Int))) 1) f wt)) [])))) (some (.box z7 [(.p .nsl), (cJ 0), (.p .nsl)])))) (some (.arr 1 3 n (S.val (S.rwE (c (Int.toNat (Int.tmod ix (nc : Int))) 0) (c (Int.toNat (Int.tmod ix (nc : Int))) 1) (c (Int.toNat (Int.tmod (ix + (1 : Int)) (nc : Int))) 0) (c (Int.toNat (Int.tmod (ix + (1 : Int)) (nc : Int))) 1) s it)) []))) = (ex (cs6 hbs) 1000 0 zew ⟨ofL 0 [.ag (plC e mo t l nc (S.val c) ns (S.val s) ta tm r nf (S.val f)), .ag (ptC n (S.val it) lo hi m (S.val wt) ld), .c (cJ ru), .c (cJ ix)] .lf, []⟩ (endK z3c.rs (fun r H => .pr (Q r H)) fun _ _ => .no)).hold2 := by kernel_rfl
end
end Go.Ab.B
namespace Go.Ab.S
def mix (i : Nat) (a b : Rows) : Rows := fun k j => if k < i then a k j else b k j
theorem mix_0 (a b : Rows) : mix 0 a b = b := by funext k j; simp [mix]
theorem mix_hit {i : Nat} {a b : Rows} : mix (i + 1) a b i 0 = a i 0 := by simp [mix]
theorem mix_lt {i k : Nat} {a b : Rows} (h : k < i) (j : Nat) : mix i a b k j = a k j := by simp [mix, h]
theorem mix_ge {i k : Nat} {a b : Rows} (h : i ≤ k) (j : Nat) : mix i a b k j = b k j := by
  have : ¬ k < i := by omega
  simp [mix, this]
theorem mix_ne {i k : Nat} {a b : Rows} (h : k ≠ i) (j : Nat) : mix (i + 1) a b k j = mix i a b k j := by
  by_cases hk : k < i
  · rw [mix_lt hk, mix_lt (by omega)]
  · rw [mix_ge (by omega), mix_ge (by omega)]
end Go.Ab.S
namespace Go.Ab.B
open Go.Proofs
theorem zdq {i k : Nat} {x : Int} {a b : S.Rows} (hx : x = a i 0) : PV.int .i64 (S.upI i 0 k 0 x (S.mix i a b k 0)) = S.val (S.mix (i + 1) a b) k 0 := by
  subst hx
  show PV.int .i64 (S.upI i 0 k 0 (a i 0) (S.mix i a b k 0)) = .int .i64 (S.mix (i + 1) a b k 0)
  by_cases h : k = i
  · subst h
    rw [S.mix_hit]
    simp [S.upI]
  · have e : Nat.beq k i = false := by rw [← Bool.not_eq_true, Nat.beq_eq]; exact h
    rw [S.mix_ne h]
    simp [S.upI, e]
theorem z100 {i k : Nat} {a b : S.Rows} (hx : a i 0 = b i 0) : S.val (S.mix i a b) k 0 = S.val (S.mix (i + 1) a b) k 0 := by
  show PV.int .i64 (S.mix i a b k 0) = .int .i64 (S.mix (i + 1) a b k 0)
  by_cases h : k = i
  · subst h
    rw [S.mix_hit, S.mix_ge (Nat.le_refl _), hx]
  · rw [S.mix_ne h]
theorem zqk {n k : Nat} {a b : S.Rows} (h : k < n) : S.val (S.mix n a b) k 0 = S.val a k 0 := by
  show PV.int .i64 (S.mix n a b k 0) = .int .i64 (a k 0)
  rw [S.mix_lt h]
section
variable {hbs : BsOk Tryz.prog} (hT : zq (cs hbs)) (hT3 : zq (cs3 hbs)) (hT4 : zq (cs4 hbs)) (hT6 : zq (cs6 hbs))
abbrev PB (e mo t l : Int) (nc : Nat) (c : S.Rows) (ns : Nat) (s : S.Rows) (ta tm r : Int) (nf : Nat) (f : S.Rows) : Option Blk := some (.box zp (plC e mo t l nc (S.val c) ns (S.val s) ta tm r nf (S.val f)))
abbrev XB (n : Nat) (it : S.Rows) (lo hi : Int) (m : Nat) (wt : S.Rows) (ld : Bool) : Option Blk := some (.box zf (ptC n (S.val it) lo hi m (S.val wt) ld))
abbrev ZB : Option Blk := some (.box z7 [.p .nsl, .p (.int .i64 0), .p .nsl])
include hT3 in
theorem z1c (lo hi : Int) (b : Bool) : z8 (cs6 hbs) zt [.ag [.p (.int .i64 lo), .p (.int .i64 hi)], .c (.p (.bool b))] (.c (.p (.int .i64 (S.endOf b lo hi)))) [] :=
  z8.cfg (C := cs3 hbs) (C' := cs6 hbs) rfl rfl (z3u hT3 lo hi b)
abbrev hW1 (e mo t l : Int) (nc : Nat) (c : S.Rows) (ns : Nat) (s : S.Rows) (ta tm r : Int) (nf : Nat) (f : S.Rows) (n : Nat) (it : S.Rows) (lo hi : Int) (m : Nat) (wt : S.Rows) (ld : Bool) (b : Bool) (i : Nat) : Heap :=
  [PB e mo t l nc c ns s ta tm r nf f, XB n it lo hi m wt ld, ZB, XB n it lo hi m wt ld, ZB, some (.box z7 [.sl 6 0 i, .p (.int .i64 0), .p .nsl]), some (.arr 1 zk i (S.val (S.ends it 1 b)) [])]
abbrev hW2 (e mo t l : Int) (nc : Nat) (c : S.Rows) (ns : Nat) (s : S.Rows) (ta tm r : Int) (nf : Nat) (f : S.Rows) (n : Nat) (it : S.Rows) (lo hi : Int) (m : Nat) (wt : S.Rows) (ld : Bool) (b : Bool) (i : Nat) : Heap :=
  [PB e mo t l nc c ns s ta tm r nf f, XB n it lo hi m wt ld, ZB, XB n it lo hi m wt ld, ZB, some (.box z7 [.sl 6 0 n, .p (.int .i64 0), .sl 7 0 i]), some (.arr 1 zk n (S.val (S.ends it 1 b)) []), some (.arr 1 zk i (S.val (S.ends wt 0 b)) [])]
include hT3 in
theorem z9a (fu : Nat) (e mo t l : Int) (nc : Nat) (c : S.Rows) (ns : Nat) (s : S.Rows) (ta tm r : Int) (nf : Nat) (f : S.Rows) (n : Nat) (it : S.Rows) (lo hi : Int) (m : Nat) (wt : S.Rows) (ld : Bool) (b : Bool) (hn : n ≤ 1000000) : ∀ (i : Nat) (st : St), i ≤ n → (∃ ρ, HasR 3 ρ st [(.i .h, .c (.pt 3 0)), (.i (.o .h), .c (.pt 4 0)), (.o (.i .h), .c (.pt 5 0)), (.o .h, .c (.p (.bool b))), (.i (.i .h), .c (.p (.int .i64 i)))] (hW1 e mo t l nc c ns s ta tm r nf f n it lo hi m wt ld b i)) →
    zd (ex (cs6 hbs) (fu + 60)) 3 z2f st (.e (.exit 0) ⟨za [(.i .h, .c (.pt 3 0)), (.i (.o .h), .c (.pt 4 0)), (.o (.i .h), .c (.pt 5 0)), (.o .h, .c (.p (.bool b)))], hW1 e mo t l nc c ns s ta tm r nf f n it lo hi m wt ld b n⟩) :=
  z21 (σ := Nat) (fun i => [(.i .h, .c (.pt 3 0)), (.i (.o .h), .c (.pt 4 0)), (.o (.i .h), .c (.pt 5 0)), (.o .h, .c (.p (.bool b))), (.i (.i .h), .c (.p (.int .i64 i)))]) (fun i => hW1 e mo t l nc c ns s ta tm r nf f n it lo hi m wt ld b i) (fun i => i ≤ n) (fun i => n - i)
    (fun _ => .e (.exit 0) ⟨za [(.i .h, .c (.pt 3 0)), (.i (.o .h), .c (.pt 4 0)), (.o (.i .h), .c (.pt 5 0)), (.o .h, .c (.p (.bool b)))], hW1 e mo t l nc c ns s ta tm r nf f n it lo hi m wt ld b n⟩) _ (fun i Q => zpl (hbs := hbs) fu i e mo t l nc c ns s ta tm r nf f n it lo hi m wt ld b (S.ends it 1 b) Q) fun i hi' K hL X hX => by
      refine brP (fun h1 => cdP (zi (by simpa using h1)) (brP (fun hb => ⟨z1c hT3 _ _ _, cdP (Nat.le_refl _) (cdP (Nat.le_refl _) (cdP ?_ (cdP ?_ ?_)))⟩) fun hb => ⟨z1c hT3 _ _ _, cdP (Nat.le_refl _) (cdP (Nat.le_refl _) (cdP ?_ (cdP ?_ ?_)))⟩)) fun h1 => ?_
      · have hlt : i < n := by simpa using h1
        simp [Cd.holds]; omega
      · have hlt : i < n := by simpa using h1
        simp [Cd.holds]; omega
      · have hlt : i < n := by simpa using h1
        subst hb
        refine hX (i + 1) _ (by omega) (by omega) ⟨[some 0, some 1, some 2, some 3, some 4, some 5, some 7], HasR.mk _ rfl rfl ?_ ?_⟩ hL
        · simp [WH, WB, WL, WC, WP', upsB, memB, ptC, plC]
          exact fun k hk => z2v hk rfl
        · simp [zg, WA, WC, WP', Tr.get]
      · have hlt : i < n := by simpa using h1
        simp [Cd.holds]; omega
      · have hlt : i < n := by simpa using h1
        simp [Cd.holds]; omega
      · have hlt : i < n := by simpa using h1
        subst hb
        refine hX (i + 1) _ (by omega) (by omega) ⟨[some 0, some 1, some 2, some 3, some 4, some 5, some 7], HasR.mk _ rfl rfl ?_ ?_⟩ hL
        · simp [WH, WB, WL, WC, WP', upsB, memB, ptC, plC]
          exact fun k hk => z2v hk rfl
        · simp [zg, WA, WC, WP', Tr.get]
      · have hlt : n ≤ i := by simpa using h1
        obtain rfl : i = n := by omega
        refine HasR.out (l := [(.i .h, .c (.pt 3 0)), (.i (.o .h), .c (.pt 4 0)), (.o (.i .h), .c (.pt 5 0)), (.o .h, .c (.p (.bool b)))]) (HasR.mk (ρ := [some 0, some 1, some 2, some 3, some 4, some 5, some 6]) rfl rfl ?_ ?_) hL
        · simp [WH, WB, WL, WC, WP', upsB, memB, ptC, plC]
        · simp [zg, WA, WC, WP', Tr.get]
include hT3 in
theorem z9b (fu : Nat) (e mo t l : Int) (nc : Nat) (c : S.Rows) (ns : Nat) (s : S.Rows) (ta tm r : Int) (nf : Nat) (f : S.Rows) (n : Nat) (it : S.Rows) (lo hi : Int) (m : Nat) (wt : S.Rows) (ld : Bool) (b : Bool) (hn : m ≤ 1000000) : ∀ (i : Nat) (st : St), i ≤ m → (∃ ρ, HasR 3 ρ st [(.i .h, .c (.pt 3 0)), (.i (.o .h), .c (.pt 4 0)), (.o (.i .h), .c (.pt 5 0)), (.o .h, .c (.p (.bool b))), (.o (.o (.o .h)), .c (.p (.int .i64 i)))] (hW2 e mo t l nc c ns s ta tm r nf f n it lo hi m wt ld b i)) →
    zd (ex (cs6 hbs) (fu + 60)) 3 z2g st (.e (.exit 2) ⟨za [(.i .h, .c (.pt 3 0)), (.i (.o .h), .c (.pt 4 0)), (.o (.i .h), .c (.pt 5 0)), (.o .h, .c (.p (.bool b)))], hW2 e mo t l nc c ns s ta tm r nf f n it lo hi m wt ld b m⟩) :=
  z21 (σ := Nat) (fun i => [(.i .h, .c (.pt 3 0)), (.i (.o .h), .c (.pt 4 0)), (.o (.i .h), .c (.pt 5 0)), (.o .h, .c (.p (.bool b))), (.o (.o (.o .h)), .c (.p (.int .i64 i)))]) (fun i => hW2 e mo t l nc c ns s ta tm r nf f n it lo hi m wt ld b i) (fun i => i ≤ m) (fun i => m - i)
    (fun _ => .e (.exit 2) ⟨za [(.i .h, .c (.pt 3 0)), (.i (.o .h), .c (.pt 4 0)), (.o (.i .h), .c (.pt 5 0)), (.o .h, .c (.p (.bool b)))], hW2 e mo t l nc c ns s ta tm r nf f n it lo hi m wt ld b m⟩) _ (fun i Q => zpm (hbs := hbs) fu i e mo t l nc c ns s ta tm r nf f n it lo hi m wt ld b (S.ends it 1 b) (S.ends wt 0 b) Q) fun i hi' K hL X hX => by
      refine brP (fun h1 => cdP (zi (by simpa using h1)) (brP (fun hb => ⟨z1c hT3 _ _ _, cdP (Nat.le_refl _) (cdP (Nat.le_refl _) (cdP ?_ (cdP ?_ ?_)))⟩) fun hb => ⟨z1c hT3 _ _ _, cdP (Nat.le_refl _) (cdP (Nat.le_refl _) (cdP ?_ (cdP ?_ ?_)))⟩)) fun h1 => ?_
      · have hlt : i < m := by simpa using h1
        simp [Cd.holds]; omega
      · have hlt : i < m := by simpa using h1
        simp [Cd.holds]; omega
      · have hlt : i < m := by simpa using h1
        subst hb
        refine hX (i + 1) _ (by omega) (by omega) ⟨[some 0, some 1, some 2, some 3, some 4, some 5, some 6, some 8], HasR.mk _ rfl rfl ?_ ?_⟩ hL
        · simp [WH, WB, WL, WC, WP', upsB, memB, ptC, plC]
          exact fun k hk => z2v hk rfl
        · simp [zg, WA, WC, WP', Tr.get]
      · have hlt : i < m := by simpa using h1
        simp [Cd.holds]; omega
      · have hlt : i < m := by simpa using h1
        simp [Cd.holds]; omega
      · have hlt : i < m := by simpa using h1
        subst hb
        refine hX (i + 1) _ (by omega) (by omega) ⟨[some 0, some 1, some 2, some 3, some 4, some 5, some 6, some 8], HasR.mk _ rfl rfl ?_ ?_⟩ hL
        · simp [WH, WB, WL, WC, WP', upsB, memB, ptC, plC]
          exact fun k hk => z2v hk rfl
        · simp [zg, WA, WC, WP', Tr.get]
      · have hlt : m ≤ i := by simpa using h1
        obtain rfl : i = m := by omega
        refine HasR.out (l := [(.i .h, .c (.pt 3 0)), (.i (.o .h), .c (.pt 4 0)), (.o (.i .h), .c (.pt 5 0)), (.o .h, .c (.p (.bool b)))]) (HasR.mk (ρ := [some 0, some 1, some 2, some 3, some 4, some 5, some 6, some 7]) rfl rfl ?_ ?_) hL
        · simp [WH, WB, WL, WC, WP', upsB, memB, ptC, plC]
        · simp [zg, WA, WC, WP', Tr.get]
abbrev CB (n m : Nat) (T : Int) : Option Blk := some (.box z7 [.sl 6 0 n, .p (.int .i64 T), .sl 7 0 m])
abbrev AB (a0 a1 : Int) : Option Blk := some (.box zl [.p (.int .i64 a0), .p (.int .i64 a1)])
abbrev lv1 (ix : Int) (i : Nat) : List (Ps × AV) := [(.o (.o .h), .c (.p (.int .i64 ix))), (.o (.i .h), .c (.pt 1 0)), (.i (.o (.o .h)), .c (.pt 2 0)), (.o (.i (.o .h)), .c (.pt 8 0)), (.i (.i (.o .h)), .c (.p (.int .i64 i)))]
abbrev hp1 (e mo t l : Int) (nc : Nat) (c : S.Rows) (ns : Nat) (s : S.Rows) (ta tm r : Int) (nf : Nat) (f : S.Rows) (n : Nat) (it : S.Rows) (lo hi : Int) (m : Nat) (wt : S.Rows) (ld : Bool) (T ix : Int) (g g2 : S.Rows) (i : Nat) : Heap :=
  [PB e mo t l nc c ns s ta tm r nf f, XB n it lo hi m wt ld, ZB, none, none, none, some (.arr 1 zk n (S.val (S.mix i (S.rwO it ix) g)) []), some (.arr 1 zk m (S.val g2) []), CB n m T]
abbrev tr1 (e mo t l : Int) (nc : Nat) (c : S.Rows) (ns : Nat) (s : S.Rows) (ta tm r : Int) (nf : Nat) (f : S.Rows) (n : Nat) (it : S.Rows) (lo hi : Int) (m : Nat) (wt : S.Rows) (ld : Bool) (T ix : Int) (g2 : S.Rows) : zr :=
  .e (.exit 1) ⟨za [(.i (.o (.o .h)), .c (.pt 2 0)), (.o (.i (.o .h)), .c (.pt 8 0))], [PB e mo t l nc c ns s ta tm r nf f, XB n it lo hi m wt ld, ZB, none, none, none, some (.arr 1 zk n (S.val (S.rwO it ix)) []), some (.arr 1 zk m (S.val g2) []), CB n m T]⟩
theorem zom (fu : Nat) (e mo t l : Int) (nc : Nat) (c : S.Rows) (ns : Nat) (s : S.Rows) (ta tm r : Int) (nf : Nat) (f : S.Rows) (n : Nat) (it : S.Rows) (lo hi : Int) (m : Nat) (wt : S.Rows) (ld : Bool) (T ix : Int) (b : Bool) (g2 : S.Rows) (hb : b = false) (hn : n ≤ 1000000) : ∀ (i : Nat) (st : St), i ≤ n → (∃ ρ, HasR 0 ρ st (lv1 ix i) (hp1 e mo t l nc c ns s ta tm r nf f n it lo hi m wt ld T ix (S.ends it 1 b) g2 i)) →
    zd (ex (cs6 hbs) (fu + 60)) 0 z3q st (tr1 e mo t l nc c ns s ta tm r nf f n it lo hi m wt ld T ix g2) :=
  z21 (σ := Nat) (lv1 ix) (hp1 e mo t l nc c ns s ta tm r nf f n it lo hi m wt ld T ix (S.ends it 1 b) g2) (fun i => i ≤ n) (fun i => n - i) (fun _ => tr1 e mo t l nc c ns s ta tm r nf f n it lo hi m wt ld T ix g2) _ (fun i Q => zn2 (hbs := hbs) fu i e mo t l nc c ns s ta tm r nf f n it lo hi m wt ld T ix (S.mix i (S.rwO it ix) (S.ends it 1 b)) g2 Q) fun i hi' K hL X hX => by
      subst hb
      refine brP (fun h1 => ?_) fun h1 => ?_
      · have hlt : i < n := by simpa using h1
        refine cdP (zi hlt) (brP (fun h2 => cdP (zi hlt) (cdP (zi hlt) (cdP (by simp [Cd.holds]; omega) (cdP (by simp [Cd.holds]; omega) ?_)))) fun h2 => cdP (by simp [Cd.holds]; omega) ?_)
        · refine hX (i + 1) _ (by omega) (by omega) ⟨[some 0, some 1, some 2, none, none, none, some 6, some 7, some 8], HasR.mk _ rfl rfl ?_ ?_⟩ hL
          · simp [WH, WB, WL, WC, WP', upsB, memB, ptC, plC]
            exact fun k hk => zdq (by simp only [S.rwO, h2]; rfl)
          · simp [zg, WA, WC, WP', Tr.get]
        · refine hX (i + 1) _ (by omega) (by omega) ⟨[some 0, some 1, some 2, none, none, none, some 6, some 7, some 8], HasR.mk _ rfl rfl ?_ ?_⟩ hL
          · simp [WH, WB, WL, WC, WP', upsB, memB, ptC, plC]
            exact fun k hk => z100 (by simp only [S.rwO, h2]; rfl)
          · simp [zg, WA, WC, WP', Tr.get]
      · have hlt : n ≤ i := by simpa using h1
        obtain rfl : i = n := by omega
        refine HasR.out (l := [(.i (.o (.o .h)), .c (.pt 2 0)), (.o (.i (.o .h)), .c (.pt 8 0))]) (HasR.mk (ρ := [some 0, some 1, some 2, none, none, none, some 6, some 7, some 8]) rfl rfl ?_ ?_) hL
        · simp [WH, WB, WL, WC, WP', upsB, memB, ptC, plC]
          exact fun k hk => zqk hk
        · simp [zg, WA, WC, WP', Tr.get]
abbrev lv2 (i : Nat) : List (Ps × AV) := [(.i (.o .h), .c (.pt 0 0)), (.o (.i .h), .c (.pt 1 0)), (.i (.o (.o .h)), .c (.pt 2 0)), (.o (.i (.o .h)), .c (.pt 8 0)), (.o (.o (.i .h)), .c (.pt 9 0)), (.i (.o (.i .h)), .c (.pt 10 0)), (.o (.i (.i .h)), .c (.p (.int .i64 i)))]
abbrev hp2 (e mo t l : Int) (nc : Nat) (c : S.Rows) (ns : Nat) (s : S.Rows) (ta tm r : Int) (nf : Nat) (f : S.Rows) (n : Nat) (it : S.Rows) (lo hi : Int) (m : Nat) (wt : S.Rows) (ld : Bool) (T a0 a1 d0 d1 : Int) (g g2 : S.Rows) (i : Nat) : Heap :=
  [PB e mo t l nc c ns s ta tm r nf f, XB n it lo hi m wt ld, ZB, none, none, none, some (.arr 1 zk n (S.val (S.mix i (S.rwE a0 a1 d0 d1 s it) g)) []), some (.arr 1 zk m (S.val g2) []), CB n m T, AB a0 a1, AB d0 d1]
abbrev tr2 (e mo t l : Int) (nc : Nat) (c : S.Rows) (ns : Nat) (s : S.Rows) (ta tm r : Int) (nf : Nat) (f : S.Rows) (n : Nat) (it : S.Rows) (lo hi : Int) (m : Nat) (wt : S.Rows) (ld : Bool) (T a0 a1 d0 d1 : Int) (g g2 : S.Rows) : zr :=
  .e (.exit 3) ⟨za [(.i (.o .h), .c (.pt 0 0)), (.o (.i .h), .c (.pt 1 0)), (.i (.o (.o .h)), .c (.pt 2 0)), (.o (.i (.o .h)), .c (.pt 8 0)), (.o (.o (.i .h)), .c (.pt 9 0)), (.i (.o (.i .h)), .c (.pt 10 0))], [PB e mo t l nc c ns s ta tm r nf f, XB n it lo hi m wt ld, ZB, none, none, none, some (.arr 1 zk n (S.val (S.rwE a0 a1 d0 d1 s it)) []), some (.arr 1 zk m (S.val g2) []), CB n m T, AB a0 a1, AB d0 d1]⟩
include hT3 in
theorem zon (fu : Nat) (e mo t l : Int) (nc : Nat) (c : S.Rows) (ns : Nat) (s : S.Rows) (ta tm r : Int) (nf : Nat) (f : S.Rows) (n : Nat) (it : S.Rows) (lo hi : Int) (m : Nat) (wt : S.Rows) (ld : Bool) (T a0 a1 d0 d1 : Int) (g g2 : S.Rows) (hn : n ≤ 1000000) (hda : -20000 ≤ d0 - a0 ∧ d0 - a0 ≤ 20000) (hd1 : -40000000 ≤ d1 - a1 ∧ d1 - a1 ≤ 40000000) (hs : ∀ i, i < n → (0 ≤ it i 0 ∧ it i 0 < ns) ∧ -1000 ≤ s (it i 0).toNat 0 ∧ s (it i 0).toNat 0 ≤ 1000) : ∀ (i : Nat) (st : St), i ≤ n → (∃ ρ, HasR 0 ρ st (lv2 i) (hp2 e mo t l nc c ns s ta tm r nf f n it lo hi m wt ld T a0 a1 d0 d1 g g2 i)) →
    zd (ex (cs6 hbs) (fu + 60)) 0 z3r st (tr2 e mo t l nc c ns s ta tm r nf f n it lo hi m wt ld T a0 a1 d0 d1 g g2) :=
  z21 (σ := Nat) (lv2) (hp2 e mo t l nc c ns s ta tm r nf f n it lo hi m wt ld T a0 a1 d0 d1 g g2) (fun i => i ≤ n) (fun i => n - i) (fun _ => tr2 e mo t l nc c ns s ta tm r nf f n it lo hi m wt ld T a0 a1 d0 d1 g g2) _ (fun i Q => zn3 (hbs := hbs) fu i e mo t l nc c ns s ta tm r nf f n it lo hi m wt ld T a0 a1 d0 d1 (S.mix i (S.rwE a0 a1 d0 d1 s it) g) g2 Q) fun i hi' K hL X hX => by
      refine brP (fun h1 => ?_) fun h1 => ?_
      · have hlt : i < n := by simpa using h1
        have q := hs i hlt
        have q2 := z2t (A := 20000) (B := 1000) hda.1 hda.2 (by have := q; exact q.2.1) (by exact q.2.2)
        refine cdP (zi hlt) (cdP (z1x (by omega) (by omega)) (cdP (zi hlt) (cdP ⟨by omega, by omega⟩ (cdP (z1x (by omega) (by omega)) (cdP (z1x (by omega) (by omega)) (brP (fun h2 => ?_) fun h2 => ?_))))))
        · refine ⟨z1c hT3 _ _ _, cdP (zi hlt) (cdP (by simp [Cd.holds]; omega) (cdP (by simp [Cd.holds]; omega) ?_))⟩
          refine hX (i + 1) _ (by omega) (by omega) ⟨[some 0, some 1, some 2, none, none, none, some 6, some 7, some 8, some 9, some 10], HasR.mk _ rfl rfl ?_ ?_⟩ hL
          · simp [WH, WB, WL, WC, WP', upsB, memB, ptC, plC]
            exact fun k hk => zdq (by simp only [S.rwE, S.ab, h2])
          · simp [zg, WA, WC, WP', Tr.get]
        · refine ⟨z1c hT3 _ _ _, cdP (zi hlt) (cdP (by simp [Cd.holds]; omega) (cdP (by simp [Cd.holds]; omega) ?_))⟩
          refine hX (i + 1) _ (by omega) (by omega) ⟨[some 0, some 1, some 2, none, none, none, some 6, some 7, some 8, some 9, some 10], HasR.mk _ rfl rfl ?_ ?_⟩ hL
          · simp [WH, WB, WL, WC, WP', upsB, memB, ptC, plC]
            exact fun k hk => zdq (by simp only [S.rwE, S.ab, h2])
          · simp [zg, WA, WC, WP', Tr.get]
      · have hlt : n ≤ i := by simpa using h1
        obtain rfl : i = n := by omega
        refine HasR.out (l := [(.i (.o .h), .c (.pt 0 0)), (.o (.i .h), .c (.pt 1 0)), (.i (.o (.o .h)), .c (.pt 2 0)), (.o (.i (.o .h)), .c (.pt 8 0)), (.o (.o (.i .h)), .c (.pt 9 0)), (.i (.o (.i .h)), .c (.pt 10 0))]) (HasR.mk (ρ := [some 0, some 1, some 2, none, none, none, some 6, some 7, some 8, some 9, some 10]) rfl rfl ?_ ?_) hL
        · simp [WH, WB, WL, WC, WP', upsB, memB, ptC, plC]
          exact fun k hk => zqk hk
        · simp [zg, WA, WC, WP', Tr.get]
abbrev lv3 (i : Nat) : List (Ps × AV) := [(.i (.o .h), .c (.pt 0 0)), (.o (.i .h), .c (.pt 1 0)), (.i (.o (.o .h)), .c (.pt 2 0)), (.o (.i (.o .h)), .c (.pt 8 0)), (.o (.o (.i .h)), .c (.pt 9 0)), (.i (.o (.i .h)), .c (.pt 10 0)), (.i (.i (.i .h)), .c (.p (.int .i64 i)))]
abbrev hp3 (e mo t l : Int) (nc : Nat) (c : S.Rows) (ns : Nat) (s : S.Rows) (ta tm r : Int) (nf : Nat) (f : S.Rows) (n : Nat) (it : S.Rows) (lo hi : Int) (m : Nat) (wt : S.Rows) (ld : Bool) (T a0 a1 d0 d1 : Int) (g g2 : S.Rows) (i : Nat) : Heap :=
  [PB e mo t l nc c ns s ta tm r nf f, XB n it lo hi m wt ld, ZB, none, none, none, some (.arr 1 zk n (S.val g) []), some (.arr 1 zk m (S.val (S.mix i (S.rwF a0 a1 d0 d1 f wt) g2)) []), CB n m T, AB a0 a1, AB d0 d1]
abbrev tr3 (e mo t l : Int) (nc : Nat) (c : S.Rows) (ns : Nat) (s : S.Rows) (ta tm r : Int) (nf : Nat) (f : S.Rows) (n : Nat) (it : S.Rows) (lo hi : Int) (m : Nat) (wt : S.Rows) (ld : Bool) (T a0 a1 d0 d1 : Int) (g g2 : S.Rows) : zr :=
  .e (.exit 5) ⟨za [(.i (.o (.o .h)), .c (.pt 2 0)), (.o (.i (.o .h)), .c (.pt 8 0))], [PB e mo t l nc c ns s ta tm r nf f, XB n it lo hi m wt ld, ZB, none, none, none, some (.arr 1 zk n (S.val g) []), some (.arr 1 zk m (S.val (S.rwF a0 a1 d0 d1 f wt)) []), CB n m T, AB a0 a1, AB d0 d1]⟩
include hT3 in
theorem zci (fu : Nat) (e mo t l : Int) (nc : Nat) (c : S.Rows) (ns : Nat) (s : S.Rows) (ta tm r : Int) (nf : Nat) (f : S.Rows) (n : Nat) (it : S.Rows) (lo hi : Int) (m : Nat) (wt : S.Rows) (ld : Bool) (T a0 a1 d0 d1 : Int) (g g2 : S.Rows) (hn : m ≤ 1000000) (hda : -20000 ≤ d0 - a0 ∧ d0 - a0 ≤ 20000) (hd1 : -40000000 ≤ d1 - a1 ∧ d1 - a1 ≤ 40000000) (hmf : m = nf) (hs : ∀ i, i < m → -1000 ≤ f i 0 ∧ f i 0 ≤ 1000) : ∀ (i : Nat) (st : St), i ≤ m → (∃ ρ, HasR 0 ρ st (lv3 i) (hp3 e mo t l nc c ns s ta tm r nf f n it lo hi m wt ld T a0 a1 d0 d1 g g2 i)) →
    zd (ex (cs6 hbs) (fu + 60)) 0 z2b st (tr3 e mo t l nc c ns s ta tm r nf f n it lo hi m wt ld T a0 a1 d0 d1 g g2) :=
  z21 (σ := Nat) (lv3) (hp3 e mo t l nc c ns s ta tm r nf f n it lo hi m wt ld T a0 a1 d0 d1 g g2) (fun i => i ≤ m) (fun i => m - i) (fun _ => tr3 e mo t l nc c ns s ta tm r nf f n it lo hi m wt ld T a0 a1 d0 d1 g g2) _ (fun i Q => zn4 (hbs := hbs) fu i e mo t l nc c ns s ta tm r nf f n it lo hi m wt ld T a0 a1 d0 d1 g (S.mix i (S.rwF a0 a1 d0 d1 f wt) g2) Q) fun i hi' K hL X hX => by
      refine brP (fun h1 => ?_) fun h1 => ?_
      · have hlt : i < m := by simpa using h1
        have q := hs i hlt
        have q2 := z2t (A := 20000) (B := 1000) hda.1 hda.2 (by have := q; exact q.1) (by exact q.2)
        refine cdP (zi hlt) (cdP (z1x (by omega) (by omega)) (cdP (zi (by omega)) (cdP (z1x (by omega) (by omega)) (cdP (z1x (by omega) (by omega)) (brP (fun h2 => ?_) fun h2 => ?_)))))
        · refine ⟨z1c hT3 _ _ _, cdP (zi hlt) (cdP (by simp [Cd.holds]; omega) (cdP (by simp [Cd.holds]; omega) ?_))⟩
          refine hX (i + 1) _ (by omega) (by omega) ⟨[some 0, some 1, some 2, none, none, none, some 6, some 7, some 8, some 9, some 10], HasR.mk _ rfl rfl ?_ ?_⟩ hL
          · simp [WH, WB, WL, WC, WP', upsB, memB, ptC, plC]
            exact fun k hk => zdq (by simp only [S.rwF, S.ab, h2])
          · simp [zg, WA, WC, WP', Tr.get]
        · refine ⟨z1c hT3 _ _ _, cdP (zi hlt) (cdP (by simp [Cd.holds]; omega) (cdP (by simp [Cd.holds]; omega) ?_))⟩
          refine hX (i + 1) _ (by omega) (by omega) ⟨[some 0, some 1, some 2, none, none, none, some 6, some 7, some 8, some 9, some 10], HasR.mk _ rfl rfl ?_ ?_⟩ hL
          · simp [WH, WB, WL, WC, WP', upsB, memB, ptC, plC]
            exact fun k hk => zdq (by simp only [S.rwF, S.ab, h2])
          · simp [zg, WA, WC, WP', Tr.get]
      · have hlt : m ≤ i := by simpa using h1
        obtain rfl : i = m := by omega
        refine HasR.out (l := [(.i (.o (.o .h)), .c (.pt 2 0)), (.o (.i (.o .h)), .c (.pt 8 0))]) (HasR.mk (ρ := [some 0, some 1, some 2, none, none, none, some 6, some 7, some 8, some 9, some 10]) rfl rfl ?_ ?_) hL
        · simp [WH, WB, WL, WC, WP', upsB, memB, ptC, plC]
          exact fun k hk => zqk hk
        · simp [zg, WA, WC, WP', Tr.get]
theorem z114 (wt : S.Rows) (x : Nat) : (fun k j => PV.int .i64 (S.upI (0 + x) 0 k j (wt x 1) (S.ends wt 0 false k j))) = S.val (S.rw1 wt x) := by
  funext k j
  show _ = PV.int .i64 (S.rw1 wt x k j)
  rw [Nat.zero_add]
  unfold S.rw1 S.upI
  cases Nat.beq k x && Nat.beq j 0 <;> rfl
theorem fzW {b0 b1 b2 b3 b4 b5 : Option Blk} {rest : List (Option Blk)} {n m : Nat} {x y : Int} {g g' : Nat → Nat → PV} {h h' : Nat → Nat → PV} (eg : g = g') (ex : x = y) (eh : h = h') :
    frzA (b0 :: b1 :: b2 :: b3 :: b4 :: b5 :: some (.arr 1 3 n g []) :: some (.arr 1 3 m h []) :: rest) (.ag [.sl 6 0 n, .p (.int .i64 x), .sl 7 0 m]) = some (.ag [.p (.isl 1 n g'), .p (.int .i64 y), .p (.isl 1 m h')]) := by
  subst eg ex eh
  simp [frzA, frzL, frzC]
include hT3 hT6 in
theorem zpk (e mo t l : Int) (nc : Nat) (c : S.Rows) (ns : Nat) (s : S.Rows) (ta tm r : Int) (nf : Nat) (f : S.Rows) (n : Nat) (it : S.Rows) (lo hi : Int) (m : Nat) (wt : S.Rows) (ld : Bool) (ru ix : Int) (hp : S.PlOk e mo t l nc c ns s ta tm r nf f) (hq : S.PtOk ns nf n it lo hi m wt) (k4 : ru = 4 → 0 ≤ ix ∧ ix < m) (k6 : ru = 6 → 0 ≤ ix ∧ ix < nc) :
    z8 (cs6 hbs) za8 [.ag (plC e mo t l nc (S.val c) ns (S.val s) ta tm r nf (S.val f)), .ag (ptC n (S.val it) lo hi m (S.val wt) ld), .c (.p (.int .i64 ru)), .c (.p (.int .i64 ix))]
      (.ag [.p (.isl 1 n (S.val (S.wI nc c s ru ix it))), .p (.int .i64 (S.wT nc c ru ix ta lo hi)), .p (.isl 1 m (S.val (S.wW nc c f ru ix wt)))]) [] := by
  have b1 := hp.hnc
  have b3 := hp.hnf
  have b4 := hq.hn
  have b5 := hq.hm
  by_cases e6 : ru = 6
  · subst e6
    obtain ⟨i, rfl⟩ : ∃ i : Nat, ix = i := ⟨ix.toNat, by have := k6 rfl; omega⟩
    have hix := k6 rfl
    have hi2 : i < nc := by omega
    have e0 : Int.tmod (i : Int) (nc : Int) = (i : Int) := Int.tmod_eq_of_lt (by omega) (by omega)
    have e1 : Int.tmod ((i : Int) + 1) (nc : Int) = (S.nxt nc i : Int) := S.nxt_tmod (by omega)
    have hn2 : S.nxt nc i < nc := S.nxt_lt (by omega)
    have c1 := S.from_iff.1 hp.hcor i (Nat.zero_le _) hi2
    have c2 := S.from_iff.1 hp.hcor (S.nxt nc i) (Nat.zero_le _) hn2
    simp only [S.corAt, Bool.and_eq_true, S.inB_iff] at c1 c2
    have g1 : -20000 ≤ c (S.nxt nc i) 0 - c i 0 ∧ c (S.nxt nc i) 0 - c i 0 ≤ 20000 := by omega
    have g2 : -40000000 ≤ c (S.nxt nc i) 1 - c i 1 ∧ c (S.nxt nc i) 1 - c i 1 ≤ 40000000 := by omega
    have hst : ∀ i, i < n → (0 ≤ it i 0 ∧ it i 0 < ns) ∧ -1000 ≤ s (it i 0).toNat 0 ∧ s (it i 0).toNat 0 ≤ 1000 := fun i h => by
      have q := hq.hit i h
      exact ⟨q.1, (hp.hs _ (by omega)).1⟩
    have hfl : ∀ i, i < m → -1000 ≤ f i 0 ∧ f i 0 ≤ 1000 := fun i h => (hp.hf i (by omega)).1
    have q2 := z2t (A := 20000) (B := 1000) g1.1 g1.2 hp.hta.1 hp.hta.2
    have vc := z8x (hbs := hbs) e mo t l nc c ns s ta tm r nf f n it lo hi m wt ld 6 i
    simp only [e0, e1, Int.toNat_natCast] at vc
    refine zo hT6 (F := z3c) rfl (vc _) (brP (fun h => by cases h) fun _ => ⟨z9a hT3 931 e mo t l nc c ns s ta tm r nf f n it lo hi m wt ld false (by omega) 0 _ (Nat.zero_le _) ⟨[some 0, some 1, some 2, some 3, some 4, some 5, none], HasR.mk _ rfl rfl (by simp [WH, WB, WL, WC, WP', upsB, memB, ptC, plC]) (by simp [zg, WA, WC, WP', Tr.get])⟩, z9b hT3 930 e mo t l nc c ns s ta tm r nf f n it lo hi m wt ld false (by omega) 0 _ (Nat.zero_le _) ⟨[some 0, some 1, some 2, some 3, some 4, some 5, some 6, none], HasR.mk _ rfl rfl (by simp [WH, WB, WL, WC, WP', upsB, memB, ptC, plC]) (by simp [zg, WA, WC, WP', Tr.get])⟩, z1c hT3 _ _ _, brP (fun h => by cases h) fun _ => brP (fun h => by cases h) fun _ => brP (fun h => by cases h) fun _ => brP (fun _ => cdP (by simp [Cd.holds]; omega) (cdP (zi hi2) (cdP (z1x (by omega) (by omega)) (cdP (by simp [Cd.holds]; omega) (cdP (zi hn2) ⟨zon hT3 922 e mo t l nc c ns s ta tm r nf f n it lo hi m wt ld (S.endOf false lo hi) _ _ _ _ (S.ends it 1 false) (S.ends wt 0 false) (by omega) g1 g2 hst 0 _ (Nat.zero_le _) ⟨[some 0, some 1, some 2, none, none, none, some 6, some 7, some 8, some 9, some 10], HasR.mk _ rfl rfl (by simp [S.mix_0, WH, WB, WL, WC, WP', upsB, memB, ptC, plC]) (by simp [zg, WA, WC, WP', Tr.get])⟩, cdP (z1x (by omega) (by omega)) (cdP (z1x (by omega) (by omega)) (cdP (z1x (by omega) (by omega)) (brP (fun h => ⟨z1c hT3 _ _ _, zci hT3 921 e mo t l nc c ns s ta tm r nf f n it lo hi m wt ld (S.endOf true lo hi) _ _ _ _ (S.rwE _ _ _ _ s it) (S.ends wt 0 false) (by omega) g1 g2 hq.hm hfl 0 _ (Nat.zero_le _) ⟨[some 0, some 1, some 2, none, none, none, some 6, some 7, some 8, some 9, some 10], HasR.mk _ rfl rfl (by simp [S.mix_0, WH, WB, WL, WC, WP', upsB, memB, ptC, plC]) (by simp [zg, WA, WC, WP', Tr.get])⟩, ?_⟩) fun h => ⟨z1c hT3 _ _ _, zci hT3 921 e mo t l nc c ns s ta tm r nf f n it lo hi m wt ld (S.endOf false lo hi) _ _ _ _ (S.rwE _ _ _ _ s it) (S.ends wt 0 false) (by omega) g1 g2 hq.hm hfl 0 _ (Nat.zero_le _) ⟨[some 0, some 1, some 2, none, none, none, some 6, some 7, some 8, some 9, some 10], HasR.mk _ rfl rfl (by simp [S.mix_0, WH, WB, WL, WC, WP', upsB, memB, ptC, plC]) (by simp [zg, WA, WC, WP', Tr.get])⟩, ?_⟩)))⟩))))) fun h => by cases h⟩)
    · have ew : S.wT nc c 6 i ta lo hi = S.endOf true lo hi := by show S.endOf (S.ab _ _ _ _ ta) lo hi = _; simp only [S.ab, Int.toNat_natCast, h]
      exact fzW rfl ew.symm rfl
    · have ew : S.wT nc c 6 i ta lo hi = S.endOf false lo hi := by show S.endOf (S.ab _ _ _ _ ta) lo hi = _; simp only [S.ab, Int.toNat_natCast, h]
      exact fzW rfl ew.symm rfl
  · have n6 : (ru == 6) = false := by simpa using e6
    by_cases e5 : ru = 5
    · subst e5
      exact zo hT6 (F := z3c) rfl (z8x e mo t l nc c ns s ta tm r nf f n it lo hi m wt ld 5 ix _) (brP (fun _ => ⟨z9a hT3 931 e mo t l nc c ns s ta tm r nf f n it lo hi m wt ld true (by omega) 0 _ (Nat.zero_le _) ⟨[some 0, some 1, some 2, some 3, some 4, some 5, none], HasR.mk _ rfl rfl (by simp [WH, WB, WL, WC, WP', upsB, memB, ptC, plC]) (by simp [zg, WA, WC, WP', Tr.get])⟩, z9b hT3 930 e mo t l nc c ns s ta tm r nf f n it lo hi m wt ld true (by omega) 0 _ (Nat.zero_le _) ⟨[some 0, some 1, some 2, some 3, some 4, some 5, some 6, none], HasR.mk _ rfl rfl (by simp [WH, WB, WL, WC, WP', upsB, memB, ptC, plC]) (by simp [zg, WA, WC, WP', Tr.get])⟩, z1c hT3 _ _ _, brP (fun h => by cases h) fun _ => brP (fun h => by cases h) fun _ => brP (fun h => by cases h) fun _ => brP (fun h => by cases h) fun _ => fzW rfl rfl rfl⟩) fun h => by cases h)
    have n5 : (ru == 5) = false := by simpa using e5
    refine zo hT6 (F := z3c) rfl (z8x e mo t l nc c ns s ta tm r nf f n it lo hi m wt ld ru ix _) (brP (fun h => by rw [n5] at h; cases h) fun _ => ⟨z9a hT3 931 e mo t l nc c ns s ta tm r nf f n it lo hi m wt ld false (by omega) 0 _ (Nat.zero_le _) ⟨[some 0, some 1, some 2, some 3, some 4, some 5, none], HasR.mk _ rfl rfl (by simp [WH, WB, WL, WC, WP', upsB, memB, ptC, plC]) (by simp [zg, WA, WC, WP', Tr.get])⟩, z9b hT3 930 e mo t l nc c ns s ta tm r nf f n it lo hi m wt ld false (by omega) 0 _ (Nat.zero_le _) ⟨[some 0, some 1, some 2, some 3, some 4, some 5, some 6, none], HasR.mk _ rfl rfl (by simp [WH, WB, WL, WC, WP', upsB, memB, ptC, plC]) (by simp [zg, WA, WC, WP', Tr.get])⟩, z1c hT3 _ _ _, brP (fun h2 => ⟨zom 930 e mo t l nc c ns s ta tm r nf f n it lo hi m wt ld (S.endOf false lo hi) ix false (S.ends wt 0 false) rfl (by omega) 0 _ (Nat.zero_le _) ⟨[some 0, some 1, some 2, none, none, none, some 6, some 7, some 8], HasR.mk _ rfl rfl (by simp [S.mix_0, WH, WB, WL, WC, WP', upsB, memB, ptC, plC]) (by simp [zg, WA, WC, WP', Tr.get])⟩, ?_⟩) fun h2 => brP (fun h3 => ?_) fun h3 => brP (fun h4 => ?_) fun h4 => brP (fun h => by rw [n6] at h; cases h) fun _ => ?_⟩)
    · obtain rfl : ru = 2 := by simpa using h2
      exact fzW rfl rfl rfl
    · obtain rfl : ru = 3 := by simpa using h3
      exact fzW rfl rfl rfl
    · obtain rfl : ru = 4 := by simpa using h4
      have := k4 rfl
      refine cdP ⟨by omega, by omega⟩ (cdP ⟨by omega, by omega⟩ (cdP (by simp [Cd.holds]; omega) ?_))
      exact fzW rfl rfl (z114 wt ix.toNat)
    · exact fzW (by simp only [S.wI, h2, n5, n6]) (by simp only [S.wT, h3, n5, n6]) (by simp only [S.wW, h4, n5, n6])
end
section
variable {hbs : BsOk Tryz.prog}
theorem zpj (fu i : Nat) (e mo t l : Int) (nc : Nat) (c : S.Rows) (ns : Nat) (s : S.Rows) (ta tm r : Int) (nf : Nat) (f : S.Rows) (n : Nat) (it : S.Rows) (lo hi : Int) (m : Nat) (wt : S.Rows) (ld : Bool) (ru : Int) (Q : AX → St → Prop) :
 ((fun (A0 : List CV) => ((fun (A1 : AV) => ((fun (A2 : Option Blk) => ((fun (A3 : Option Blk) => ((fun (A4 : Option Blk) => ((fun (A5 : Tr) => ((fun (A6 : Option Blk) => (((z8 (cs6 hbs) zbk [A1, (vJ ru)] (vJ (S.many nc ns nf ru)) []) ∧
 (BrP (decide ((i : Int) < (S.many nc ns nf ru)))
 ((z8 (cs6 hbs) za8 [A1, (.ag (kX n it lo hi m wt ld)), (vJ ru), (vN i)] (.ag A0) []) ∧
 ((z8 (cs6 hbs) z99 [A1, (.ag (kX n it lo hi m wt ld)), (.ag A0), (vJ ru), (vN i)] (.c (.p (.bool (S.brk e mo t l nc c ns s ta tm r nf f it ld n (S.wI nc c s ru (i : Int) it) (S.wT nc c ru (i : Int) ta lo hi) m (S.wW nc c f ru (i : Int) wt) ru (i : Int))))) []) ∧
 (BrP (S.brk e mo t l nc c ns s ta tm r nf f it ld n (S.wI nc c s ru (i : Int) it) (S.wT nc c ru (i : Int) ta lo hi) m (S.wW nc c f ru (i : Int) wt) ru (i : Int))
 (Q .ret ⟨(L4 (L4 A5 (L1 (vN i))) (.nd (L6 (L1 (vN i)) (vJ ru)) (vT 0 0) (L1 (vT 2 0)))), [A2, A6, A3, A3]⟩)
 (CdP (.i64 ((i : Int) + (1 : Int)))
 (Q .normal ⟨(L4 (L4 A5 (L1 .any)) (.nd (L3 (L1 (vJ ((i : Int) + (1 : Int))))) (vT 0 0) (L1 (vT 2 0)))), [A2, A6, A4, A3]⟩)))))
 (Q (.exit 2) ⟨(L4 (L4 A5 (L1 .any)) (.nd (L3 (L1 (vN i))) (vT 0 0) (L1 (vT 2 0)))), [A2, A6, A4]⟩))))) (bX n it lo hi m wt ld))) (L6 (L1 (vJ ru)) (vT 1 0)))) (some (.box z7 [(.p .nsl), (cJ 0), (.p .nsl)])))) (some (.box z7 A0)))) (bP e mo t l nc c ns s ta tm r nf f))) (.ag (kP e mo t l nc c ns s ta tm r nf f)))) [(.p (.isl 1 n (S.val (S.wI nc c s ru (i : Int) it)))), (cJ (S.wT nc c ru (i : Int) ta lo hi)), (.p (.isl 1 m (S.val (S.wW nc c f ru (i : Int) wt))))]) = (ex (cs6 hbs) (fu + 60) 0 z1s ⟨za [(.i .h, .c (.pt 0 0)), (.o (.o .h), .c (.pt 1 0)), (.i (.i .h), .c (.pt 2 0)), (.o (.o (.o .h)), .c (cJ ru)), (.i (.o (.o .h)), .c (cJ i))], [some (.box zp (plC e mo t l nc (S.val c) ns (S.val s) ta tm r nf (S.val f))), some (.box zf (ptC n (S.val it) lo hi m (S.val wt) ld)), some (.box z7 [.p .nsl, .p (.int .i64 0), .p .nsl])]⟩ (fun e s => .pr (Q e (z2a [.i .h, .i (.i .h), .i (.o .h), .o (.i .h), .o (.o .h), .i (.o (.o .h)), .o (.o (.o .h))] s)))).hold2 := by kernel_rfl
theorem zev (e mo t l : Int) (nc : Nat) (c : S.Rows) (ns : Nat) (s : S.Rows) (ta tm r : Int) (nf : Nat) (f : S.Rows) (n : Nat) (it : S.Rows) (lo hi : Int) (m : Nat) (wt : S.Rows) (ld : Bool) (Q : AV → Heap → Prop) :
 ((fun (A0 : List CV) => ((fun (A1 : List CV) => ((fun (A2 : List CV) => ((fun (A3 : List CV) => ((fun (A4 : Heap) => ((fun (A5 : List CV) => ((fun (A6 : List CV) => ((fun (A7 : AV) => ((fun (A8 : AV) => ((fun (A9 : AV) => ((fun (A10 : AV) => ((fun (A11 : AV) => ((fun (A12 : AV) => ((fun (A13 : AV) => ((fun (A14 : AV) => ((fun (A15 : AV) => ((fun (A16 : AV) => ((fun (A17 : AV) => ((fun (A18 : Tr) => ((fun (A19 : Heap) => ((fun (A20 : Heap) => ((fun (A21 : Heap) => ((fun (A22 : Heap) => ((fun (A23 : Heap) => ((fun (A24 : Heap) => (((zd (ex (cs6 hbs) 989) 0 z1s ⟨(.nd (.nd (.nd (L1 (vJ 2)) (vT 1 0) (L1 (vB true))) (.ag (kX n it lo hi m wt ld)) (L1 (vJ 0))) (.ag (kP e mo t l nc c ns s ta tm r nf f)) (.nd (L6 (L1 (vJ 0)) (vJ 0)) (vT 0 0) (L6 (L1 (vJ 2)) (vT 2 0)))), A4⟩ (.br (S.from_ (S.okAt e mo t l nc c ns s ta tm r nf f n it lo hi m wt ld (2 : Int)) (Int.toNat (S.many nc ns nf (2 : Int))) 0) (.e (.exit 2) ⟨(L4 (L3 (L6 (L1 (vJ 2)) (vT 1 0))) A18), A4⟩) (.e .ret ⟨(L4 (L2 (L1 A17)) (L4 (L1 (vJ 2)) (L1 (vT 2 0)))), A19⟩))) ∧
 (BrP (S.from_ (S.okAt e mo t l nc c ns s ta tm r nf f n it lo hi m wt ld (2 : Int)) (Int.toNat (S.many nc ns nf (2 : Int))) 0)
 ((zd (ex (cs6 hbs) 988) 0 z1s ⟨(L4 (L4 (.nd (L1 A16) (vT 1 0) (L1 (vB true))) (L2 (L1 A16))) (.nd (L4 (L1 (vJ 0)) (L1 (vJ 2))) (vT 0 0) (L6 (L1 A16) (vT 2 0)))), A4⟩ (.br (S.from_ (S.okAt e mo t l nc c ns s ta tm r nf f n it lo hi m wt ld ((2 : Int) + (1 : Int))) (Int.toNat (S.many nc ns nf ((2 : Int) + (1 : Int)))) 0) (.e (.exit 2) ⟨(L4 (L3 (L6 (L1 A16) (vT 1 0))) A18), A4⟩) (.e .ret ⟨(L4 (L2 (L1 A15)) (L4 (L1 A16) (L1 (vT 2 0)))), A20⟩))) ∧
 (BrP (S.from_ (S.okAt e mo t l nc c ns s ta tm r nf f n it lo hi m wt ld ((2 : Int) + (1 : Int))) (Int.toNat (S.many nc ns nf ((2 : Int) + (1 : Int)))) 0)
 ((zd (ex (cs6 hbs) 987) 0 z1s ⟨(L4 (L4 (.nd (L1 A12) (vT 1 0) (L1 (vB true))) (L2 (L1 A12))) (.nd (L4 (L1 (vJ 0)) (L1 A16)) (vT 0 0) (L6 (L1 A12) (vT 2 0)))), A4⟩ (.br (S.from_ (S.okAt e mo t l nc c ns s ta tm r nf f n it lo hi m wt ld (((2 : Int) + (1 : Int)) + (1 : Int))) (Int.toNat (S.many nc ns nf (((2 : Int) + (1 : Int)) + (1 : Int)))) 0) (.e (.exit 2) ⟨(L4 (L3 (L6 (L1 A12) (vT 1 0))) A18), A4⟩) (.e .ret ⟨(L4 (L2 (L1 A14)) (L4 (L1 A12) (L1 (vT 2 0)))), A21⟩))) ∧
 (BrP (S.from_ (S.okAt e mo t l nc c ns s ta tm r nf f n it lo hi m wt ld (((2 : Int) + (1 : Int)) + (1 : Int))) (Int.toNat (S.many nc ns nf (((2 : Int) + (1 : Int)) + (1 : Int)))) 0)
 ((zd (ex (cs6 hbs) 986) 0 z1s ⟨(L4 (L4 (.nd (L1 A9) (vT 1 0) (L1 (vB true))) (L2 (L1 A9))) (.nd (L4 (L1 (vJ 0)) (L1 A12)) (vT 0 0) (L6 (L1 A9) (vT 2 0)))), A4⟩ (.br (S.from_ (S.okAt e mo t l nc c ns s ta tm r nf f n it lo hi m wt ld ((((2 : Int) + (1 : Int)) + (1 : Int)) + (1 : Int))) (Int.toNat (S.many nc ns nf ((((2 : Int) + (1 : Int)) + (1 : Int)) + (1 : Int)))) 0) (.e (.exit 2) ⟨(L4 (L3 (L6 (L1 A9) (vT 1 0))) A18), A4⟩) (.e .ret ⟨(L4 (L2 (L1 A13)) (L4 (L1 A9) (L1 (vT 2 0)))), A22⟩))) ∧
 (BrP (S.from_ (S.okAt e mo t l nc c ns s ta tm r nf f n it lo hi m wt ld ((((2 : Int) + (1 : Int)) + (1 : Int)) + (1 : Int))) (Int.toNat (S.many nc ns nf ((((2 : Int) + (1 : Int)) + (1 : Int)) + (1 : Int)))) 0)
 ((zd (ex (cs6 hbs) 985) 0 z1s ⟨(L4 (L4 (.nd (L1 A8) (vT 1 0) (L1 (vB true))) (L2 (L1 A8))) (.nd (L4 (L1 (vJ 0)) (L1 A9)) (vT 0 0) (L6 (L1 A8) (vT 2 0)))), A4⟩ (.br (S.from_ (S.okAt e mo t l nc c ns s ta tm r nf f n it lo hi m wt ld (((((2 : Int) + (1 : Int)) + (1 : Int)) + (1 : Int)) + (1 : Int))) (Int.toNat (S.many nc ns nf (((((2 : Int) + (1 : Int)) + (1 : Int)) + (1 : Int)) + (1 : Int)))) 0) (.e (.exit 2) ⟨(L4 (L3 (L6 (L1 A8) (vT 1 0))) A18), A4⟩) (.e .ret ⟨(L4 (L2 (L1 A11)) (L4 (L1 A8) (L1 (vT 2 0)))), A23⟩))) ∧
 (BrP (S.from_ (S.okAt e mo t l nc c ns s ta tm r nf f n it lo hi m wt ld (((((2 : Int) + (1 : Int)) + (1 : Int)) + (1 : Int)) + (1 : Int))) (Int.toNat (S.many nc ns nf (((((2 : Int) + (1 : Int)) + (1 : Int)) + (1 : Int)) + (1 : Int)))) 0)
 ((zd (ex (cs6 hbs) 984) 0 z1s ⟨(L4 (L4 (.nd (L1 A7) (vT 1 0) (L1 (vB true))) (L2 (L1 A7))) (.nd (L4 (L1 (vJ 0)) (L1 A8)) (vT 0 0) (L6 (L1 A7) (vT 2 0)))), A4⟩ (.br (S.from_ (S.okAt e mo t l nc c ns s ta tm r nf f n it lo hi m wt ld ((((((2 : Int) + (1 : Int)) + (1 : Int)) + (1 : Int)) + (1 : Int)) + (1 : Int))) (Int.toNat (S.many nc ns nf ((((((2 : Int) + (1 : Int)) + (1 : Int)) + (1 : Int)) + (1 : Int)) + (1 : Int)))) 0) (.e (.exit 2) ⟨(L4 (L3 (L6 (L1 A7) (vT 1 0))) A18), A4⟩) (.e .ret ⟨(L4 (L2 (L1 A10)) (L4 (L1 A7) (L1 (vT 2 0)))), A24⟩))) ∧
 (BrP (S.from_ (S.okAt e mo t l nc c ns s ta tm r nf f n it lo hi m wt ld ((((((2 : Int) + (1 : Int)) + (1 : Int)) + (1 : Int)) + (1 : Int)) + (1 : Int))) (Int.toNat (S.many nc ns nf ((((((2 : Int) + (1 : Int)) + (1 : Int)) + (1 : Int)) + (1 : Int)) + (1 : Int)))) 0)
 (Q (.tp [(vJ 1), (vJ 0), (.ag [(.p .nsl), (cJ 0), (.p .nsl)])]) A4)
 (Q (.tp [A7, A10, (.ag A0)]) A24)))
 (Q (.tp [A8, A11, (.ag A1)]) A23)))
 (Q (.tp [A9, A13, (.ag A2)]) A22)))
 (Q (.tp [A12, A14, (.ag A3)]) A21)))
 (Q (.tp [A16, A15, (.ag A5)]) A20)))
 (Q (.tp [(vJ 2), A17, (.ag A6)]) A19))))) [none, none, (some (.box z7 A0))])) [none, none, (some (.box z7 A1))])) [none, none, (some (.box z7 A2))])) [none, none, (some (.box z7 A3))])) [none, none, (some (.box z7 A5))])) [none, none, (some (.box z7 A6))])) (L5 (vT 0 0) (L1 (vT 2 0))))) (vJ (((S.fst (S.okAt e mo t l nc c ns s ta tm r nf f n it lo hi m wt ld (2 : Int)) (Int.toNat (S.many nc ns nf (2 : Int))) 0) : Nat) : Int)))) (vJ ((2 : Int) + (1 : Int))))) (vJ (((S.fst (S.okAt e mo t l nc c ns s ta tm r nf f n it lo hi m wt ld ((2 : Int) + (1 : Int))) (Int.toNat (S.many nc ns nf ((2 : Int) + (1 : Int)))) 0) : Nat) : Int)))) (vJ (((S.fst (S.okAt e mo t l nc c ns s ta tm r nf f n it lo hi m wt ld (((2 : Int) + (1 : Int)) + (1 : Int))) (Int.toNat (S.many nc ns nf (((2 : Int) + (1 : Int)) + (1 : Int)))) 0) : Nat) : Int)))) (vJ (((S.fst (S.okAt e mo t l nc c ns s ta tm r nf f n it lo hi m wt ld ((((2 : Int) + (1 : Int)) + (1 : Int)) + (1 : Int))) (Int.toNat (S.many nc ns nf ((((2 : Int) + (1 : Int)) + (1 : Int)) + (1 : Int)))) 0) : Nat) : Int)))) (vJ (((2 : Int) + (1 : Int)) + (1 : Int))))) (vJ (((S.fst (S.okAt e mo t l nc c ns s ta tm r nf f n it lo hi m wt ld (((((2 : Int) + (1 : Int)) + (1 : Int)) + (1 : Int)) + (1 : Int))) (Int.toNat (S.many nc ns nf (((((2 : Int) + (1 : Int)) + (1 : Int)) + (1 : Int)) + (1 : Int)))) 0) : Nat) : Int)))) (vJ (((S.fst (S.okAt e mo t l nc c ns s ta tm r nf f n it lo hi m wt ld ((((((2 : Int) + (1 : Int)) + (1 : Int)) + (1 : Int)) + (1 : Int)) + (1 : Int))) (Int.toNat (S.many nc ns nf ((((((2 : Int) + (1 : Int)) + (1 : Int)) + (1 : Int)) + (1 : Int)) + (1 : Int)))) 0) : Nat) : Int)))) (vJ ((((2 : Int) + (1 : Int)) + (1 : Int)) + (1 : Int))))) (vJ (((((2 : Int) + (1 : Int)) + (1 : Int)) + (1 : Int)) + (1 : Int))))) (vJ ((((((2 : Int) + (1 : Int)) + (1 : Int)) + (1 : Int)) + (1 : Int)) + (1 : Int))))) [(.p (.isl 1 n (S.val (S.wI nc c s (2 : Int) (((S.fst (S.okAt e mo t l nc c ns s ta tm r nf f n it lo hi m wt ld (2 : Int)) (Int.toNat (S.many nc ns nf (2 : Int))) 0) : Nat) : Int) it)))), (cJ (S.wT nc c (2 : Int) (((S.fst (S.okAt e mo t l nc c ns s ta tm r nf f n it lo hi m wt ld (2 : Int)) (Int.toNat (S.many nc ns nf (2 : Int))) 0) : Nat) : Int) ta lo hi)), (.p (.isl 1 m (S.val (S.wW nc c f (2 : Int) (((S.fst (S.okAt e mo t l nc c ns s ta tm r nf f n it lo hi m wt ld (2 : Int)) (Int.toNat (S.many nc ns nf (2 : Int))) 0) : Nat) : Int) wt))))])) [(.p (.isl 1 n (S.val (S.wI nc c s ((2 : Int) + (1 : Int)) (((S.fst (S.okAt e mo t l nc c ns s ta tm r nf f n it lo hi m wt ld ((2 : Int) + (1 : Int))) (Int.toNat (S.many nc ns nf ((2 : Int) + (1 : Int)))) 0) : Nat) : Int) it)))), (cJ (S.wT nc c ((2 : Int) + (1 : Int)) (((S.fst (S.okAt e mo t l nc c ns s ta tm r nf f n it lo hi m wt ld ((2 : Int) + (1 : Int))) (Int.toNat (S.many nc ns nf ((2 : Int) + (1 : Int)))) 0) : Nat) : Int) ta lo hi)), (.p (.isl 1 m (S.val (S.wW nc c f ((2 : Int) + (1 : Int)) (((S.fst (S.okAt e mo t l nc c ns s ta tm r nf f n it lo hi m wt ld ((2 : Int) + (1 : Int))) (Int.toNat (S.many nc ns nf ((2 : Int) + (1 : Int)))) 0) : Nat) : Int) wt))))])) [(bP e mo t l nc c ns s ta tm r nf f), (bX n it lo hi m wt ld), (some (.box z7 [(.p .nsl), (cJ 0), (.p .nsl)]))])) [(.p (.isl 1 n (S.val (S.wI nc c s (((2 : Int) + (1 : Int)) + (1 : Int)) (((S.fst (S.okAt e mo t l nc c ns s ta tm r nf f n it lo hi m wt ld (((2 : Int) + (1 : Int)) + (1 : Int))) (Int.toNat (S.many nc ns nf (((2 : Int) + (1 : Int)) + (1 : Int)))) 0) : Nat) : Int) it)))), (cJ (S.wT nc c (((2 : Int) + (1 : Int)) + (1 : Int)) (((S.fst (S.okAt e mo t l nc c ns s ta tm r nf f n it lo hi m wt ld (((2 : Int) + (1 : Int)) + (1 : Int))) (Int.toNat (S.many nc ns nf (((2 : Int) + (1 : Int)) + (1 : Int)))) 0) : Nat) : Int) ta lo hi)), (.p (.isl 1 m (S.val (S.wW nc c f (((2 : Int) + (1 : Int)) + (1 : Int)) (((S.fst (S.okAt e mo t l nc c ns s ta tm r nf f n it lo hi m wt ld (((2 : Int) + (1 : Int)) + (1 : Int))) (Int.toNat (S.many nc ns nf (((2 : Int) + (1 : Int)) + (1 : Int)))) 0) : Nat) : Int) wt))))])) [(.p (.isl 1 n (S.val (S.wI nc c s ((((2 : Int) + (1 : Int)) + (1 : Int)) + (1 : Int)) (((S.fst (S.okAt e mo t l nc c ns s ta tm r nf f n it lo hi m wt ld ((((2 : Int) + (1 : Int)) + (1 : Int)) + (1 : Int))) (Int.toNat (S.many nc ns nf ((((2 : Int) + (1 : Int)) + (1 : Int)) + (1 : Int)))) 0) : Nat) : Int) it)))), (cJ (S.wT nc c ((((2 : Int) + (1 : Int)) + (1 : Int)) + (1 : Int)) (((S.fst (S.okAt e mo t l nc c ns s ta tm r nf f n it lo hi m wt ld ((((2 : Int) + (1 : Int)) + (1 : Int)) + (1 : Int))) (Int.toNat (S.many nc ns nf ((((2 : Int) + (1 : Int)) + (1 : Int)) + (1 : Int)))) 0) : Nat) : Int) ta lo hi)), (.p (.isl 1 m (S.val (S.wW nc c f ((((2 : Int) + (1 : Int)) + (1 : Int)) + (1 : Int)) (((S.fst (S.okAt e mo t l nc c ns s ta tm r nf f n it lo hi m wt ld ((((2 : Int) + (1 : Int)) + (1 : Int)) + (1 : Int))) (Int.toNat (S.many nc ns nf ((((2 : Int) + (1 : Int)) + (1 : Int)) + (1 : Int)))) 0) : Nat) : Int) wt))))])) [(.p (.isl 1 n (S.val (S.wI nc c s (((((2 : Int) + (1 : Int)) + (1 : Int)) + (1 : Int)) + (1 : Int)) (((S.fst (S.okAt e mo t l nc c ns s ta tm r nf f n it lo hi m wt ld (((((2 : Int) + (1 : Int)) + (1 : Int)) + (1 : Int)) + (1 : Int))) (Int.toNat (S.many nc ns nf (((((2 : Int) + (1 : Int)) + (1 : Int)) + (1 : Int)) + (1 : Int)))) 0) : Nat) : Int) it)))), (cJ (S.wT nc c (((((2 : Int) + (1 : Int)) + (1 : Int)) + (1 : Int)) + (1 : Int)) (((S.fst (S.okAt e mo t l nc c ns s ta tm r nf f n it lo hi m wt ld (((((2 : Int) + (1 : Int)) + (1 : Int)) + (1 : Int)) + (1 : Int))) (Int.toNat (S.many nc ns nf (((((2 : Int) + (1 : Int)) + (1 : Int)) + (1 : Int)) + (1 : Int)))) 0) : Nat) : Int) ta lo hi)), (.p (.isl 1 m (S.val (S.wW nc c f (((((2 : Int) + (1 : Int)) + (1 : Int)) + (1 : Int)) + (1 : Int)) (((S.fst (S.okAt e mo t l nc c ns s ta tm r nf f n it lo hi m wt ld (((((2 : Int) + (1 : Int)) + (1 : Int)) + (1 : Int)) + (1 : Int))) (Int.toNat (S.many nc ns nf (((((2 : Int) + (1 : Int)) + (1 : Int)) + (1 : Int)) + (1 : Int)))) 0) : Nat) : Int) wt))))])) [(.p (.isl 1 n (S.val (S.wI nc c s ((((((2 : Int) + (1 : Int)) + (1 : Int)) + (1 : Int)) + (1 : Int)) + (1 : Int)) (((S.fst (S.okAt e mo t l nc c ns s ta tm r nf f n it lo hi m wt ld ((((((2 : Int) + (1 : Int)) + (1 : Int)) + (1 : Int)) + (1 : Int)) + (1 : Int))) (Int.toNat (S.many nc ns nf ((((((2 : Int) + (1 : Int)) + (1 : Int)) + (1 : Int)) + (1 : Int)) + (1 : Int)))) 0) : Nat) : Int) it)))), (cJ (S.wT nc c ((((((2 : Int) + (1 : Int)) + (1 : Int)) + (1 : Int)) + (1 : Int)) + (1 : Int)) (((S.fst (S.okAt e mo t l nc c ns s ta tm r nf f n it lo hi m wt ld ((((((2 : Int) + (1 : Int)) + (1 : Int)) + (1 : Int)) + (1 : Int)) + (1 : Int))) (Int.toNat (S.many nc ns nf ((((((2 : Int) + (1 : Int)) + (1 : Int)) + (1 : Int)) + (1 : Int)) + (1 : Int)))) 0) : Nat) : Int) ta lo hi)), (.p (.isl 1 m (S.val (S.wW nc c f ((((((2 : Int) + (1 : Int)) + (1 : Int)) + (1 : Int)) + (1 : Int)) + (1 : Int)) (((S.fst (S.okAt e mo t l nc c ns s ta tm r nf f n it lo hi m wt ld ((((((2 : Int) + (1 : Int)) + (1 : Int)) + (1 : Int)) + (1 : Int)) + (1 : Int))) (Int.toNat (S.many nc ns nf ((((((2 : Int) + (1 : Int)) + (1 : Int)) + (1 : Int)) + (1 : Int)) + (1 : Int)))) 0) : Nat) : Int) wt))))]) = (ex (cs6 hbs) 1000 0 zgz ⟨ofL 0 [.ag (plC e mo t l nc (S.val c) ns (S.val s) ta tm r nf (S.val f)), .ag (ptC n (S.val it) lo hi m (S.val wt) ld)] .lf, []⟩ (endK z4w.rs (fun r H => .pr (Q r H)) fun _ _ => .no)).hold2 := by kernel_rfl
end
end Go.Ab.B
namespace Go.Ab.S
theorem z7z {b : Bool} {lo hi A B : Int} (h1 : A ≤ lo) (h2 : lo ≤ hi) (h3 : hi ≤ B) : A ≤ endOf b lo hi ∧ endOf b lo hi ≤ B := by
  cases b <;> simp only [endOf] <;> omega
theorem wI_in {ns nf n : Nat} {it : Rows} {lo hi : Int} {m : Nat} {wt : Rows} (hq : PtOk ns nf n it lo hi m wt) (nc : Nat) (c s : Rows) (ru ix : Int) (i : Nat) (h : i < n) : 0 ≤ wI nc c s ru ix it i 0 ∧ wI nc c s ru ix it i 0 ≤ 20000 := by
  have q := (hq.hit i h).2
  cases h2 : (ru == 2) with
  | true => simp only [wI, h2]; exact z7z q.1 q.2.1 q.2.2
  | false => cases h6 : (ru == 6) with
    | true => simp only [wI, h2, h6]; exact z7z q.1 q.2.1 q.2.2
    | false => simp only [wI, h2, h6]; exact z7z q.1 q.2.1 q.2.2
theorem wT_in {ns nf n : Nat} {it : Rows} {lo hi : Int} {m : Nat} {wt : Rows} (hq : PtOk ns nf n it lo hi m wt) (nc : Nat) (c : Rows) (ru ix ta : Int) : -140000 ≤ wT nc c ru ix ta lo hi ∧ wT nc c ru ix ta lo hi ≤ 140000 := by
  have q := hq.htk
  cases h2 : (ru == 3) with
  | true => simp only [wT, h2]; omega
  | false => cases h6 : (ru == 6) with
    | true => simp only [wT, h2, h6]; exact z7z (by omega) q.2.1 q.2.2
    | false => simp only [wT, h2, h6]; exact z7z (by omega) q.2.1 q.2.2
theorem wW_in {ns nf n : Nat} {it : Rows} {lo hi : Int} {m : Nat} {wt : Rows} (hq : PtOk ns nf n it lo hi m wt) (nc : Nat) (c f : Rows) (ru ix : Int) (i : Nat) (h : i < m) : 0 ≤ wW nc c f ru ix wt i 0 ∧ wW nc c f ru ix wt i 0 ≤ 120000 := by
  have q := hq.hwt i h
  cases h2 : (ru == 4) with
  | true =>
    simp only [wW, h2, rw1]
    cases hb : (Nat.beq i ix.toNat && Nat.beq 0 0) with
    | true =>
      have : i = ix.toNat := by simp at hb; exact hb
      rw [← this]
      show 0 ≤ wt i 1 ∧ wt i 1 ≤ 120000
      omega
    | false =>
      show 0 ≤ wt i 0 ∧ wt i 0 ≤ 120000
      omega
  | false => cases h6 : (ru == 6) with
    | true => simp only [wW, h2, h6]; exact z7z q.1 q.2.1 q.2.2
    | false => simp only [wW, h2, h6]; exact z7z q.1 q.2.1 q.2.2
theorem srR_2 {e mo t l : Int} {nc : Nat} {c : Rows} {ns : Nat} {s : Rows} {ta tm r : Int} {nf : Nat} {f : Rows} {n : Nat} {it : Rows} {lo hi : Int} {m : Nat} {wt : Rows} {ld : Bool} (h2 : from_ (okAt e mo t l nc c ns s ta tm r nf f n it lo hi m wt ld 2) (many nc ns nf 2).toNat 0 = false) : srR e mo t l nc c ns s ta tm r nf f n it lo hi m wt ld = 2 := by simp only [srR, z7h, h2]
theorem srR_3 {e mo t l : Int} {nc : Nat} {c : Rows} {ns : Nat} {s : Rows} {ta tm r : Int} {nf : Nat} {f : Rows} {n : Nat} {it : Rows} {lo hi : Int} {m : Nat} {wt : Rows} {ld : Bool} (h2 : from_ (okAt e mo t l nc c ns s ta tm r nf f n it lo hi m wt ld 2) (many nc ns nf 2).toNat 0 = true) (h3 : from_ (okAt e mo t l nc c ns s ta tm r nf f n it lo hi m wt ld 3) (many nc ns nf 3).toNat 0 = false) : srR e mo t l nc c ns s ta tm r nf f n it lo hi m wt ld = 3 := by simp only [srR, z7h, h2, h3]
theorem srR_4 {e mo t l : Int} {nc : Nat} {c : Rows} {ns : Nat} {s : Rows} {ta tm r : Int} {nf : Nat} {f : Rows} {n : Nat} {it : Rows} {lo hi : Int} {m : Nat} {wt : Rows} {ld : Bool} (h2 : from_ (okAt e mo t l nc c ns s ta tm r nf f n it lo hi m wt ld 2) (many nc ns nf 2).toNat 0 = true) (h3 : from_ (okAt e mo t l nc c ns s ta tm r nf f n it lo hi m wt ld 3) (many nc ns nf 3).toNat 0 = true) (h4 : from_ (okAt e mo t l nc c ns s ta tm r nf f n it lo hi m wt ld 4) (many nc ns nf 4).toNat 0 = false) : srR e mo t l nc c ns s ta tm r nf f n it lo hi m wt ld = 4 := by simp only [srR, z7h, h2, h3, h4]
theorem srR_5 {e mo t l : Int} {nc : Nat} {c : Rows} {ns : Nat} {s : Rows} {ta tm r : Int} {nf : Nat} {f : Rows} {n : Nat} {it : Rows} {lo hi : Int} {m : Nat} {wt : Rows} {ld : Bool} (h2 : from_ (okAt e mo t l nc c ns s ta tm r nf f n it lo hi m wt ld 2) (many nc ns nf 2).toNat 0 = true) (h3 : from_ (okAt e mo t l nc c ns s ta tm r nf f n it lo hi m wt ld 3) (many nc ns nf 3).toNat 0 = true) (h4 : from_ (okAt e mo t l nc c ns s ta tm r nf f n it lo hi m wt ld 4) (many nc ns nf 4).toNat 0 = true) (h5 : from_ (okAt e mo t l nc c ns s ta tm r nf f n it lo hi m wt ld 5) (many nc ns nf 5).toNat 0 = false) : srR e mo t l nc c ns s ta tm r nf f n it lo hi m wt ld = 5 := by simp only [srR, z7h, h2, h3, h4, h5]
theorem srR_6 {e mo t l : Int} {nc : Nat} {c : Rows} {ns : Nat} {s : Rows} {ta tm r : Int} {nf : Nat} {f : Rows} {n : Nat} {it : Rows} {lo hi : Int} {m : Nat} {wt : Rows} {ld : Bool} (h2 : from_ (okAt e mo t l nc c ns s ta tm r nf f n it lo hi m wt ld 2) (many nc ns nf 2).toNat 0 = true) (h3 : from_ (okAt e mo t l nc c ns s ta tm r nf f n it lo hi m wt ld 3) (many nc ns nf 3).toNat 0 = true) (h4 : from_ (okAt e mo t l nc c ns s ta tm r nf f n it lo hi m wt ld 4) (many nc ns nf 4).toNat 0 = true) (h5 : from_ (okAt e mo t l nc c ns s ta tm r nf f n it lo hi m wt ld 5) (many nc ns nf 5).toNat 0 = true) (h6 : from_ (okAt e mo t l nc c ns s ta tm r nf f n it lo hi m wt ld 6) (many nc ns nf 6).toNat 0 = false) : srR e mo t l nc c ns s ta tm r nf f n it lo hi m wt ld = 6 := by simp only [srR, z7h, h2, h3, h4, h5, h6]
theorem srR_7 {e mo t l : Int} {nc : Nat} {c : Rows} {ns : Nat} {s : Rows} {ta tm r : Int} {nf : Nat} {f : Rows} {n : Nat} {it : Rows} {lo hi : Int} {m : Nat} {wt : Rows} {ld : Bool} (h2 : from_ (okAt e mo t l nc c ns s ta tm r nf f n it lo hi m wt ld 2) (many nc ns nf 2).toNat 0 = true) (h3 : from_ (okAt e mo t l nc c ns s ta tm r nf f n it lo hi m wt ld 3) (many nc ns nf 3).toNat 0 = true) (h4 : from_ (okAt e mo t l nc c ns s ta tm r nf f n it lo hi m wt ld 4) (many nc ns nf 4).toNat 0 = true) (h5 : from_ (okAt e mo t l nc c ns s ta tm r nf f n it lo hi m wt ld 5) (many nc ns nf 5).toNat 0 = true) (h6 : from_ (okAt e mo t l nc c ns s ta tm r nf f n it lo hi m wt ld 6) (many nc ns nf 6).toNat 0 = true) (h7 : from_ (okAt e mo t l nc c ns s ta tm r nf f n it lo hi m wt ld 7) (many nc ns nf 7).toNat 0 = false) : srR e mo t l nc c ns s ta tm r nf f n it lo hi m wt ld = 7 := by simp only [srR, z7h, h2, h3, h4, h5, h6, h7]
theorem srR_1 {e mo t l : Int} {nc : Nat} {c : Rows} {ns : Nat} {s : Rows} {ta tm r : Int} {nf : Nat} {f : Rows} {n : Nat} {it : Rows} {lo hi : Int} {m : Nat} {wt : Rows} {ld : Bool} (h2 : from_ (okAt e mo t l nc c ns s ta tm r nf f n it lo hi m wt ld 2) (many nc ns nf 2).toNat 0 = true) (h3 : from_ (okAt e mo t l nc c ns s ta tm r nf f n it lo hi m wt ld 3) (many nc ns nf 3).toNat 0 = true) (h4 : from_ (okAt e mo t l nc c ns s ta tm r nf f n it lo hi m wt ld 4) (many nc ns nf 4).toNat 0 = true) (h5 : from_ (okAt e mo t l nc c ns s ta tm r nf f n it lo hi m wt ld 5) (many nc ns nf 5).toNat 0 = true) (h6 : from_ (okAt e mo t l nc c ns s ta tm r nf f n it lo hi m wt ld 6) (many nc ns nf 6).toNat 0 = true) (h7 : from_ (okAt e mo t l nc c ns s ta tm r nf f n it lo hi m wt ld 7) (many nc ns nf 7).toNat 0 = true) : srR e mo t l nc c ns s ta tm r nf f n it lo hi m wt ld = 1 := by simp only [srR, z7h, h2, h3, h4, h5, h6, h7]
end Go.Ab.S
namespace Go.Ab.B
open Go.Proofs
section
variable {hbs : BsOk Tryz.prog} (hT : zq (cs hbs)) (hT3 : zq (cs3 hbs)) (hT4 : zq (cs4 hbs)) (hT6 : zq (cs6 hbs))
abbrev lvS (ru : Int) (i : Nat) : List (Ps × AV) := [(.i .h, .c (.pt 0 0)), (.o (.o .h), .c (.pt 1 0)), (.i (.i .h), .c (.pt 2 0)), (.o (.o (.o .h)), .c (.p (.int .i64 ru))), (.i (.o (.o .h)), .c (.p (.int .i64 i)))]
abbrev hpS (e mo t l : Int) (nc : Nat) (c : S.Rows) (ns : Nat) (s : S.Rows) (ta tm r : Int) (nf : Nat) (f : S.Rows) (n : Nat) (it : S.Rows) (lo hi : Int) (m : Nat) (wt : S.Rows) (ld : Bool) : Heap := [PB e mo t l nc c ns s ta tm r nf f, XB n it lo hi m wt ld, ZB]
abbrev trS (e mo t l : Int) (nc : Nat) (c : S.Rows) (ns : Nat) (s : S.Rows) (ta tm r : Int) (nf : Nat) (f : S.Rows) (n : Nat) (it : S.Rows) (lo hi : Int) (m : Nat) (wt : S.Rows) (ld : Bool) (ru : Int) (i : Nat) : zr := .br (S.from_ (S.okAt e mo t l nc c ns s ta tm r nf f n it lo hi m wt ld ru) (S.many nc ns nf ru).toNat i)
  (.e (.exit 2) ⟨za [(.o (.o (.o .h)), .c (.p (.int .i64 ru))), (.i .h, .c (.pt 0 0)), (.o (.o .h), .c (.pt 1 0)), (.i (.i .h), .c (.pt 2 0))], hpS e mo t l nc c ns s ta tm r nf f n it lo hi m wt ld⟩)
  (.e .ret ⟨za [(.i (.o .h), .c (.p (.int .i64 ru))), (.o (.i .h), .c (.p (.int .i64 ((S.fst (S.okAt e mo t l nc c ns s ta tm r nf f n it lo hi m wt ld ru) (S.many nc ns nf ru).toNat i : Nat) : Int)))), (.i (.i .h), .c (.pt 2 0))], [none, none, some (.box z7 [.p (.isl 1 n (S.val (S.wI nc c s ru (S.fst (S.okAt e mo t l nc c ns s ta tm r nf f n it lo hi m wt ld ru) (S.many nc ns nf ru).toNat i : Nat) it))), .p (.int .i64 (S.wT nc c ru (S.fst (S.okAt e mo t l nc c ns s ta tm r nf f n it lo hi m wt ld ru) (S.many nc ns nf ru).toNat i : Nat) ta lo hi)), .p (.isl 1 m (S.val (S.wW nc c f ru (S.fst (S.okAt e mo t l nc c ns s ta tm r nf f n it lo hi m wt ld ru) (S.many nc ns nf ru).toNat i : Nat) wt)))])]⟩)
theorem z10w {ns nf nc : Nat} {ru : Int} (h1 : ns ≤ 12) (h2 : nf ≤ 12) (h3 : nc ≤ 12) : S.many nc ns nf ru ≤ 12 := by
  unfold S.many
  split
  · omega
  · split
    · omega
    · split
      · omega
      · omega
include hT hT3 hT6 in
theorem z1a (fu : Nat) (e mo t l : Int) (nc : Nat) (c : S.Rows) (ns : Nat) (s : S.Rows) (ta tm r : Int) (nf : Nat) (f : S.Rows) (n : Nat) (it : S.Rows) (lo hi : Int) (m : Nat) (wt : S.Rows) (ld : Bool) (ru : Int) (hp : S.PlOk e mo t l nc c ns s ta tm r nf f) (hq : S.PtOk ns nf n it lo hi m wt) : ∀ (i : Nat) (st : St), i ≤ 100 → (∃ ρ, HasR 0 ρ st (lvS ru i) (hpS e mo t l nc c ns s ta tm r nf f n it lo hi m wt ld)) →
    zd (ex (cs6 hbs) (fu + 60)) 0 z1s st (trS e mo t l nc c ns s ta tm r nf f n it lo hi m wt ld ru i) :=
  z21 (σ := Nat) (lvS ru) (fun _ => hpS e mo t l nc c ns s ta tm r nf f n it lo hi m wt ld) (fun i => i ≤ 100) (fun i => 100 - i) (trS e mo t l nc c ns s ta tm r nf f n it lo hi m wt ld ru) _ (fun i Q => zpj (hbs := hbs) fu i e mo t l nc c ns s ta tm r nf f n it lo hi m wt ld ru Q) fun i hi' K hL X hX => by
      have b1 := hp.hnc
      have b2 := hp.hns
      have b3 := hp.hnf
      have b4 := hq.hn
      have b5 := hq.hm
      have hml : (1000 : Nat) ≤ maxLen := by decide
      have hmy := z10w (ns := ns) (nf := nf) (nc := nc) (ru := ru) (by omega) (by omega) (by omega)
      refine ⟨z8.cfg (C := cs3 hbs) (C' := cs6 hbs) rfl rfl (zs5 hT hT3 e mo t l nc c ns s ta tm r nf f ru), brP (fun h1 => ?_) fun h1 => ?_⟩
      · have hlt0 : (i : Int) < S.many nc ns nf ru := by simpa using h1
        have hlt : i < (S.many nc ns nf ru).toNat := by omega
        have k4 : ru = 4 → 0 ≤ (i : Int) ∧ (i : Int) < m := fun h => by
          subst h
          have : S.many nc ns nf 4 = nf := rfl
          omega
        have k6 : ru = 6 → 0 ≤ (i : Int) ∧ (i : Int) < nc := fun h => by
          subst h
          have : S.many nc ns nf 6 = nc := rfl
          omega
        refine ⟨zpk hT3 hT6 e mo t l nc c ns s ta tm r nf f n it lo hi m wt ld ru i hp hq k4 k6, z8.cfg (C := cs3 hbs) (C' := cs6 hbs) rfl rfl (zmv hT hT3 e mo t l nc c ns s ta tm r nf f n it lo hi m wt ld n (S.wI nc c s ru i it) (S.wT nc c ru i ta lo hi) m (S.wW nc c f ru i wt) ru i b4 (Nat.le_refl _) b5 b3 b2 (by omega) b1.2
          (fun k h => ⟨(S.wI_in hq nc c s ru i k h).1, (S.wI_in hq nc c s ru i k h).2, (hq.hit k h).1.1, (hq.hit k h).1.2⟩) (fun j h => (hp.hs j h).1) (fun k h => S.wW_in hq nc c f ru i k h) (fun j h => (hp.hf j h).1) ⟨by have := hp.he; omega, hp.he.2⟩ hp.hmo (S.wT_in hq nc c ru i ta) hp.hta hp.hcor), brP (fun h2 => ?_) fun h2 => cdP (by simp [Cd.holds]; omega) ?_⟩
        · have eo : S.okAt e mo t l nc c ns s ta tm r nf f n it lo hi m wt ld ru i = false := by simp only [S.okAt, h2]; rfl
          have e2 : S.from_ (S.okAt e mo t l nc c ns s ta tm r nf f n it lo hi m wt ld ru) (S.many nc ns nf ru).toNat i = false := by rw [S.from_step hlt, eo, Bool.false_and]
          have e3 : S.fst (S.okAt e mo t l nc c ns s ta tm r nf f n it lo hi m wt ld ru) (S.many nc ns nf ru).toNat i = i := S.fst_at hlt eo
          simp only [trS, e2, e3] at hL
          refine HasR.out (l := [(.i (.o .h), .c (.p (.int .i64 ru))), (.o (.i .h), .c (.p (.int .i64 i))), (.i (.i .h), .c (.pt 2 0))]) (HasR.mk (ρ := [some 0, some 1, some 2]) rfl rfl ?_ ?_) hL
          · simp [WH, WB, WL, WC, WP', upsB, memB, ptC, plC]
          · simp [zg, WA, WC, WP', Tr.get]
        · have eo : S.okAt e mo t l nc c ns s ta tm r nf f n it lo hi m wt ld ru i = true := by simp only [S.okAt, h2]; rfl
          have e2 : S.from_ (S.okAt e mo t l nc c ns s ta tm r nf f n it lo hi m wt ld ru) (S.many nc ns nf ru).toNat i = S.from_ (S.okAt e mo t l nc c ns s ta tm r nf f n it lo hi m wt ld ru) (S.many nc ns nf ru).toNat (i + 1) := by rw [S.from_step hlt, eo, Bool.true_and]
          have e3 : S.fst (S.okAt e mo t l nc c ns s ta tm r nf f n it lo hi m wt ld ru) (S.many nc ns nf ru).toNat i = S.fst (S.okAt e mo t l nc c ns s ta tm r nf f n it lo hi m wt ld ru) (S.many nc ns nf ru).toNat (i + 1) := S.fst_step hlt eo
          simp only [trS, e2, e3] at hL
          refine hX (i + 1) _ (by omega) (by omega) ⟨[some 0, some 1, some 2], HasR.mk _ rfl rfl ?_ ?_⟩ hL
          · simp [WH, WB, WL, WC, WP', upsB, memB, ptC, plC]
          · simp [zg, WA, WC, WP', Tr.get]
      · have hlt0 : S.many nc ns nf ru ≤ (i : Int) := by simpa using h1
        have hlt : (S.many nc ns nf ru).toNat ≤ i := by omega
        have e2 : S.from_ (S.okAt e mo t l nc c ns s ta tm r nf f n it lo hi m wt ld ru) (S.many nc ns nf ru).toNat i = true := S.from_end hlt
        simp only [trS, e2] at hL
        refine HasR.out (l := [(.o (.o (.o .h)), .c (.p (.int .i64 ru))), (.i .h, .c (.pt 0 0)), (.o (.o .h), .c (.pt 1 0)), (.i (.i .h), .c (.pt 2 0))]) (HasR.mk (ρ := [some 0, some 1, some 2]) rfl rfl ?_ ?_) hL
        · simp [WH, WB, WL, WC, WP', upsB, memB, ptC, plC]
        · simp [zg, WA, WC, WP', Tr.get]
include hT hT3 hT6 in
theorem zs6 (e mo t l : Int) (nc : Nat) (c : S.Rows) (ns : Nat) (s : S.Rows) (ta tm r : Int) (nf : Nat) (f : S.Rows) (n : Nat) (it : S.Rows) (lo hi : Int) (m : Nat) (wt : S.Rows) (ld : Bool) (hp : S.PlOk e mo t l nc c ns s ta tm r nf f) (hq : S.PtOk ns nf n it lo hi m wt) : z8 (cs6 hbs) z4v [.ag (plC e mo t l nc (S.val c) ns (S.val s) ta tm r nf (S.val f)), .ag (ptC n (S.val it) lo hi m (S.val wt) ld)] (.tp [vI .i64 (S.srR e mo t l nc c ns s ta tm r nf f n it lo hi m wt ld), vI .i64 (S.srI e mo t l nc c ns s ta tm r nf f n it lo hi m wt ld (S.srR e mo t l nc c ns s ta tm r nf f n it lo hi m wt ld)), .ag [.p (.isl 1 (S.cnt (S.srR e mo t l nc c ns s ta tm r nf f n it lo hi m wt ld) n) (S.val (S.wI nc c s (S.srR e mo t l nc c ns s ta tm r nf f n it lo hi m wt ld) (S.srI e mo t l nc c ns s ta tm r nf f n it lo hi m wt ld (S.srR e mo t l nc c ns s ta tm r nf f n it lo hi m wt ld)) it))), .p (.int .i64 (S.only (S.srR e mo t l nc c ns s ta tm r nf f n it lo hi m wt ld) (S.wT nc c (S.srR e mo t l nc c ns s ta tm r nf f n it lo hi m wt ld) (S.srI e mo t l nc c ns s ta tm r nf f n it lo hi m wt ld (S.srR e mo t l nc c ns s ta tm r nf f n it lo hi m wt ld)) ta lo hi))), .p (.isl 1 (S.cnt (S.srR e mo t l nc c ns s ta tm r nf f n it lo hi m wt ld) m) (S.val (S.wW nc c f (S.srR e mo t l nc c ns s ta tm r nf f n it lo hi m wt ld) (S.srI e mo t l nc c ns s ta tm r nf f n it lo hi m wt ld (S.srR e mo t l nc c ns s ta tm r nf f n it lo hi m wt ld)) wt)))]]) [] := by
  cases hR : (S.srR e mo t l nc c ns s ta tm r nf f n it lo hi m wt ld == 1) with
  | true =>
    have : z8 (cs6 hbs) z4v [.ag (plC e mo t l nc (S.val c) ns (S.val s) ta tm r nf (S.val f)), .ag (ptC n (S.val it) lo hi m (S.val wt) ld)] (.tp [vI .i64 (S.srR e mo t l nc c ns s ta tm r nf f n it lo hi m wt ld), vI .i64 (S.srI e mo t l nc c ns s ta tm r nf f n it lo hi m wt ld (S.srR e mo t l nc c ns s ta tm r nf f n it lo hi m wt ld)), .ag [.p .nsl, .p (.int .i64 0), .p .nsl]]) [] := zo hT6 (F := z4w) rfl (zev e mo t l nc c ns s ta tm r nf f n it lo hi m wt ld _)
      ⟨z1a hT hT3 hT6 929 e mo t l nc c ns s ta tm r nf f n it lo hi m wt ld _ hp hq 0 _ (Nat.zero_le _) ⟨[some 0, some 1, some 2], HasR.mk _ rfl rfl (by simp [WH, WB, WL, WC, WP', upsB, memB, ptC, plC]) (by simp [zg, WA, WC, WP', Tr.get])⟩, brP (fun h2 => ⟨z1a hT hT3 hT6 928 e mo t l nc c ns s ta tm r nf f n it lo hi m wt ld _ hp hq 0 _ (Nat.zero_le _) ⟨[some 0, some 1, some 2], HasR.mk _ rfl rfl (by simp [WH, WB, WL, WC, WP', upsB, memB, ptC, plC]) (by simp [zg, WA, WC, WP', Tr.get])⟩, brP (fun h3 => ⟨z1a hT hT3 hT6 927 e mo t l nc c ns s ta tm r nf f n it lo hi m wt ld _ hp hq 0 _ (Nat.zero_le _) ⟨[some 0, some 1, some 2], HasR.mk _ rfl rfl (by simp [WH, WB, WL, WC, WP', upsB, memB, ptC, plC]) (by simp [zg, WA, WC, WP', Tr.get])⟩, brP (fun h4 => ⟨z1a hT hT3 hT6 926 e mo t l nc c ns s ta tm r nf f n it lo hi m wt ld _ hp hq 0 _ (Nat.zero_le _) ⟨[some 0, some 1, some 2], HasR.mk _ rfl rfl (by simp [WH, WB, WL, WC, WP', upsB, memB, ptC, plC]) (by simp [zg, WA, WC, WP', Tr.get])⟩, brP (fun h5 => ⟨z1a hT hT3 hT6 925 e mo t l nc c ns s ta tm r nf f n it lo hi m wt ld _ hp hq 0 _ (Nat.zero_le _) ⟨[some 0, some 1, some 2], HasR.mk _ rfl rfl (by simp [WH, WB, WL, WC, WP', upsB, memB, ptC, plC]) (by simp [zg, WA, WC, WP', Tr.get])⟩, brP (fun h6 => ⟨z1a hT hT3 hT6 924 e mo t l nc c ns s ta tm r nf f n it lo hi m wt ld _ hp hq 0 _ (Nat.zero_le _) ⟨[some 0, some 1, some 2], HasR.mk _ rfl rfl (by simp [WH, WB, WL, WC, WP', upsB, memB, ptC, plC]) (by simp [zg, WA, WC, WP', Tr.get])⟩, brP (fun h7 => by rw [S.srI, S.srR_1 h2 h3 h4 h5 h6 h7]; rfl) fun h7 => Bool.noConfusion ((congrArg (fun x : Int => x == 1) (S.srR_7 h2 h3 h4 h5 h6 h7)).symm.trans hR)⟩) fun h6 => Bool.noConfusion ((congrArg (fun x : Int => x == 1) (S.srR_6 h2 h3 h4 h5 h6)).symm.trans hR)⟩) fun h5 => Bool.noConfusion ((congrArg (fun x : Int => x == 1) (S.srR_5 h2 h3 h4 h5)).symm.trans hR)⟩) fun h4 => Bool.noConfusion ((congrArg (fun x : Int => x == 1) (S.srR_4 h2 h3 h4)).symm.trans hR)⟩) fun h3 => Bool.noConfusion ((congrArg (fun x : Int => x == 1) (S.srR_3 h2 h3)).symm.trans hR)⟩) fun h2 => Bool.noConfusion ((congrArg (fun x : Int => x == 1) (S.srR_2 h2)).symm.trans hR)⟩
    refine z8.mono_r this fun w Z φ u hr => ?_
    simp only [S.cnt, S.only, hR]
    simp only [RepA, zh] at hr ⊢
    obtain ⟨us, rfl, u1, us1, rfl, g1, u2, us2, rfl, g2, u3, us3, rfl, ⟨q, rfl, g3⟩, g4⟩ := hr
    exact ⟨_, rfl, u1, _, rfl, g1, u2, _, rfl, g2, _, us3, rfl, ⟨q, rfl, zlc g3⟩, g4⟩
  | false =>
    refine zo hT6 (F := z4w) rfl (zev e mo t l nc c ns s ta tm r nf f n it lo hi m wt ld _)
      ⟨z1a hT hT3 hT6 929 e mo t l nc c ns s ta tm r nf f n it lo hi m wt ld _ hp hq 0 _ (Nat.zero_le _) ⟨[some 0, some 1, some 2], HasR.mk _ rfl rfl (by simp [WH, WB, WL, WC, WP', upsB, memB, ptC, plC]) (by simp [zg, WA, WC, WP', Tr.get])⟩, brP (fun h2 => ⟨z1a hT hT3 hT6 928 e mo t l nc c ns s ta tm r nf f n it lo hi m wt ld _ hp hq 0 _ (Nat.zero_le _) ⟨[some 0, some 1, some 2], HasR.mk _ rfl rfl (by simp [WH, WB, WL, WC, WP', upsB, memB, ptC, plC]) (by simp [zg, WA, WC, WP', Tr.get])⟩, brP (fun h3 => ⟨z1a hT hT3 hT6 927 e mo t l nc c ns s ta tm r nf f n it lo hi m wt ld _ hp hq 0 _ (Nat.zero_le _) ⟨[some 0, some 1, some 2], HasR.mk _ rfl rfl (by simp [WH, WB, WL, WC, WP', upsB, memB, ptC, plC]) (by simp [zg, WA, WC, WP', Tr.get])⟩, brP (fun h4 => ⟨z1a hT hT3 hT6 926 e mo t l nc c ns s ta tm r nf f n it lo hi m wt ld _ hp hq 0 _ (Nat.zero_le _) ⟨[some 0, some 1, some 2], HasR.mk _ rfl rfl (by simp [WH, WB, WL, WC, WP', upsB, memB, ptC, plC]) (by simp [zg, WA, WC, WP', Tr.get])⟩, brP (fun h5 => ⟨z1a hT hT3 hT6 925 e mo t l nc c ns s ta tm r nf f n it lo hi m wt ld _ hp hq 0 _ (Nat.zero_le _) ⟨[some 0, some 1, some 2], HasR.mk _ rfl rfl (by simp [WH, WB, WL, WC, WP', upsB, memB, ptC, plC]) (by simp [zg, WA, WC, WP', Tr.get])⟩, brP (fun h6 => ⟨z1a hT hT3 hT6 924 e mo t l nc c ns s ta tm r nf f n it lo hi m wt ld _ hp hq 0 _ (Nat.zero_le _) ⟨[some 0, some 1, some 2], HasR.mk _ rfl rfl (by simp [WH, WB, WL, WC, WP', upsB, memB, ptC, plC]) (by simp [zg, WA, WC, WP', Tr.get])⟩, brP (fun h7 => Bool.noConfusion (hR.symm.trans (congrArg (fun x : Int => x == 1) (S.srR_1 h2 h3 h4 h5 h6 h7)))) fun h7 => by rw [S.srR_7 h2 h3 h4 h5 h6 h7]; rfl⟩) fun h6 => by rw [S.srR_6 h2 h3 h4 h5 h6]; rfl⟩) fun h5 => by rw [S.srR_5 h2 h3 h4 h5]; rfl⟩) fun h4 => by rw [S.srR_4 h2 h3 h4]; rfl⟩) fun h3 => by rw [S.srR_3 h2 h3]; rfl⟩) fun h2 => by rw [S.srR_2 h2]; rfl⟩
end
end Go.Ab.B
