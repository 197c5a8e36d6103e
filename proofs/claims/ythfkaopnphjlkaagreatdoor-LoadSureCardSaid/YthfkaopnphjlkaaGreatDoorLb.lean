/- A part of the proof. -/
import Derived.Test.YthfkaopnphjlkaaGreatDoorLa
set_option linter.all false
set_option maxRecDepth 100000
namespace Go.Ab.S
def mn (a b : Int) : Int := if b < a then b else a
def mx (a b : Int) : Int := if b > a then b else a
def pL (p : Rows) (i : Nat) : Int := p i 0
def pH (p : Rows) (i : Nat) : Int := p i 1
def mL (p : Rows) (i : Nat) : Int := mn (p i 0 * p i 2) (p i 1 * p i 2)
def mH (p : Rows) (i : Nat) : Int := mx (p i 0 * p i 2) (p i 1 * p i 2)
def z9e (a b c d e : Int) : Nat → Int
  | 0 => a
  | 1 => b
  | 2 => c
  | 3 => d
  | _ => e
def parts (n : Nat) (it s : Rows) (lo hi ta : Int) (wt f : Rows) : Rows := fun i j => match Nat.blt i n with
  | true => z9e (it i 1) (it i 2) (s (it i 0).toNat 0) 2 (it i 0) j
  | false => match Nat.blt n i with
    | false => z9e lo hi ta 3 0 j
    | true => z9e (wt (i - n - 1) 0) (wt (i - n - 1) 1) (f (i - n - 1) 0) 4 ((i - n - 1 : Nat) : Int) j
def lk (e mo t l : Int) (nc : Nat) (c : Rows) (ns : Nat) (s : Rows) (ta tm r : Int) (nf : Nat) (f : Rows) (n : Nat) (it : Rows) (lo hi : Int) (m : Nat) (wt : Rows) (ld : Bool) (k : Nat) (p : Rows) : Nat → PV := fun j =>
  ([.int .i64 e, .int .i64 mo, .int .i64 t, .int .i64 l, .isl 2 nc (val c), .isl 2 ns (val s), .int .i64 ta, .int .i64 tm, .int .i64 r, .isl 2 nf (val f), .isl 3 n (val it), .int .i64 lo, .int .i64 hi, .isl 2 m (val wt), .bool ld, .isl 5 k (val p)] : List PV).getD (0 + j) .npt
def stS (n : Nat) (it : Rows) (st : Int) : Int := sumR (atR it (ends it 1 true) st) n 0
def subR (s : Rows) (g : Int → Int) : Rows := fun i _ => s i 1 - g i
def b01 (b : Bool) : Nat := match b with | true => 1 | false => 0
def wetR (f wt : Rows) : Rows := fun i _ => f i 1 - wt i 1
def heavyX (e t l : Int) (ld : Bool) (k : Nat) (p : Rows) : Int := (match ld with | true => l | false => t) - (e + sumR (pH p) k 0)
def lean (nc : Nat) (c : Rows) (i : Nat) (arm : Int) : Int := (c (nxt nc i) 0 - c i 0) * arm - (c (nxt nc i) 1 - c i 1)
def leanE (a b d e : Int) (p : Rows) (j : Nat) : Int := mn (((d - a) * p j 2 - (e - b)) * p j 0) (((d - a) * p j 2 - (e - b)) * p j 1)
def z10a (nc : Nat) (c p : Rows) (i : Nat) : Nat → Int := leanE (c i 0) (c i 1) (c (nxt nc i) 0) (c (nxt nc i) 1) p
def outR (e mo : Int) (nc : Nat) (c : Rows) (k : Nat) (p : Rows) : Rows := fun i _ => sd nc c i e mo + sumR (z10a nc c p i) k 0
def nonneg (g : Rows) (i : Nat) : Bool := decide (0 ≤ g i 0)
def fstF (p : Nat → Bool) : Nat → Nat → Nat
  | 0, i => i
  | k + 1, i => match p i with
    | true => fstF p k (i + 1)
    | false => i
def fst (p : Nat → Bool) (n i : Nat) : Nat := fstF p (n - i) i
def oneV (x : Int) : Nat → Nat → PV := fun i j => ([.int .i64 x] : List PV).getD (i * 1 + j) .npt
def bro : List (Int × Nat × Rows) → Int × Int
  | [] => (1, 0)
  | (r, n, g) :: l => match from_ (nonneg g) n 0 with
    | true => bro l
    | false => (r, (fst (nonneg g) n 0 : Nat))
def broR (l : List (Int × Nat × Rows)) : Int := (bro l).1
def broI (l : List (Int × Nat × Rows)) : Int := (bro l).2
def rules (e mo t l : Int) (nc : Nat) (c : Rows) (ns : Nat) (s : Rows) (tm r : Int) (nf : Nat) (f : Rows) (n : Nat) (it : Rows) (lo hi : Int) (wt : Rows) (ld : Bool) (k : Nat) (p : Rows) : List (Int × Nat × Rows) :=
  [(2, ns, subR s (stS n it)), (3, 1, num (oneV (tm - hi))), (4, nf, wetR f wt), (5, 1, num (oneV (heavyX e t l ld k p))), (6, nc, outR e mo nc c k p), (7, b01 ld, num (oneV (lo - r)))]
def ruP (e mo t l : Int) (nc : Nat) (c : Rows) (ns : Nat) (s : Rows) (ta tm r : Int) (nf : Nat) (f : Rows) (n : Nat) (it : Rows) (lo hi : Int) (m : Nat) (wt : Rows) (ld : Bool) : List (Int × Nat × Rows) :=
  rules e mo t l nc c ns s tm r nf f n it lo hi wt ld (n + 1 + m) (parts n it s lo hi ta wt f)
def asH (nc : Nat) (c : Rows) (ru ix arm pr pi : Int) : Bool := match ru == 5 with
  | true => true
  | false => match ru == 7 with
    | true => false
    | false => match ru == 6 with
      | true => decide (lean nc c ix.toNat arm < 0)
      | false => (pr == ru) && (pi == ix)
def wc (nc : Nat) (c : Rows) (ru ix : Int) (p : Rows) (i : Nat) : Int := endOf (asH nc c ru ix (p i 2) (p i 3) (p i 4)) (p i 0) (p i 1)
def wcR (nc : Nat) (c : Rows) (ru ix : Int) (p : Rows) (off : Nat) : Rows := fun i _ => wc nc c ru ix p (off + i)
def cnt (R : Int) (n : Nat) : Nat := match R == 1 with | true => 0 | false => n
def only (R x : Int) : Int := match R == 1 with | true => 0 | false => x
end Go.Ab.S
namespace Go.Ab.B
open Go.Proofs
def lkA (e mo t l : Int) (nc : Nat) (c : S.Rows) (ns : Nat) (s : S.Rows) (ta tm r : Int) (nf : Nat) (f : S.Rows) (n : Nat) (it : S.Rows) (lo hi : Int) (m : Nat) (wt : S.Rows) (ld : Bool) (k : Nat) (p : S.Rows) : AV :=
  .c (.p (.ipt 16 (S.lk e mo t l nc c ns s ta tm r nf f n it lo hi m wt ld k p)))
def zl6 : List AV → Option (AV × Heap)
  | [.c (.p (.isl 2 2 g))] => match g 0 0, g 0 1, g 1 0, g 1 1 with
    | .int .i64 a, .int .i64 b, .int .i64 c, .int .i64 d => some (.ag [.p (.int .i64 (a + c)), .p (.int .i64 (b + d))], [])
    | _, _, _, _ => none
  | _ => none
def zf6 : List AV → Option (AV × Heap)
  | [.c (.p (.ipt 16 g))] => match g 0, g 15 with
    | .int .i64 e, .isl 5 k p => some (.ag [.p (.int .i64 (e + S.sumR (S.pL (S.num p)) k 0)), .p (.int .i64 (e + S.sumR (S.pH (S.num p)) k 0))], [])
    | _, _ => none
  | _ => none
def zf7 : List AV → Option (AV × Heap)
  | [.c (.p (.ipt 16 g))] => match g 1, g 15 with
    | .int .i64 mo, .isl 5 k p => some (.ag [.p (.int .i64 (mo + S.sumR (S.mL (S.num p)) k 0)), .p (.int .i64 (mo + S.sumR (S.mH (S.num p)) k 0))], [])
    | _, _ => none
  | _ => none
def zpe : List AV → Option (AV × Heap)
  | [.ag [.p (.int .i64 e), .p (.int .i64 mo), .p (.int .i64 t), .p (.int .i64 l), .p (.isl 2 nc c), .p (.isl 2 ns s), .p (.int .i64 ta), .p (.int .i64 tm), .p (.int .i64 r), .p (.isl 2 nf f)], .ag [.p (.isl 3 n it), .p (.int .i64 lo), .p (.int .i64 hi), .p (.isl 2 m wt), .p (.bool ld)]] =>
    some (lkA e mo t l nc (S.num c) ns (S.num s) ta tm r nf (S.num f) n (S.num it) lo hi m (S.num wt) ld (n + 1 + m) (S.parts n (S.num it) (S.num s) lo hi ta (S.num wt) (S.num f)), [])
  | _ => none
def zjc : List AV → Option (AV × Heap)
  | [.c (.p (.ipt 16 g))] => match g 5, g 10 with
    | .isl 2 ns s, .isl 3 n it => some (.c (.p (.isl 1 ns (S.val (S.subR (S.num s) (S.stS n (S.num it)))))), [])
    | _, _ => none
  | _ => none
def zjd : List AV → Option (AV × Heap)
  | [.c (.p (.ipt 16 g))] => match g 7, g 12 with
    | .int .i64 tm, .int .i64 hi => some (.c (.p (.isl 1 1 (S.oneV (tm - hi)))), [])
    | _, _ => none
  | _ => none
def zl7 : List AV → Option (AV × Heap)
  | [.c (.p (.ipt 16 g))] => match g 9, g 13 with
    | .isl 2 nf f, .isl 2 m wt => some (.c (.p (.isl 1 nf (S.val (S.wetR (S.num f) (S.num wt))))), [])
    | _, _ => none
  | _ => none
def zg8 : List AV → Option (AV × Heap)
  | [.c (.p (.ipt 16 g))] => match g 0, g 2, g 3, g 14, g 15 with
    | .int .i64 e, .int .i64 t, .int .i64 l, .bool ld, .isl 5 k p => some (.c (.p (.isl 1 1 (S.oneV (S.heavyX e t l ld k (S.num p))))), [])
    | _, _, _, _, _ => none
  | _ => none
def zl8 : List AV → Option (AV × Heap)
  | [.c (.p (.ipt 16 g))] => match g 0, g 1, g 4, g 15 with
    | .int .i64 e, .int .i64 mo, .isl 2 nc c, .isl 5 k p => some (.c (.p (.isl 1 nc (S.val (S.outR e mo nc (S.num c) k (S.num p))))), [])
    | _, _, _, _ => none
  | _ => none
def zg9 : List AV → Option (AV × Heap)
  | [.c (.p (.ipt 16 g))] => match g 8, g 11, g 14 with
    | .int .i64 r, .int .i64 lo, .bool ld => some (.c (.p (.isl 1 (S.b01 ld) (S.oneV (lo - r)))), [])
    | _, _, _ => none
  | _ => none
def zf8 : List AV → Option (AV × Heap)
  | [.c (.p (.ipt 16 g))] => match g 0, g 1, g 2, g 3, g 4, g 5, g 7, g 8, g 9, g 10, g 11, g 12, g 13, g 14, g 15 with
    | .int .i64 e, .int .i64 mo, .int .i64 t, .int .i64 l, .isl 2 nc c, .isl 2 ns s, .int .i64 tm, .int .i64 r, .isl 2 nf f, .isl 3 n it, .int .i64 lo, .int .i64 hi, .isl 2 m wt, .bool ld, .isl 5 k p =>
      some (.tp [.c (.p (.int .i64 (S.broR (S.rules e mo t l nc (S.num c) ns (S.num s) tm r nf (S.num f) n (S.num it) lo hi (S.num wt) ld k (S.num p))))), .c (.p (.int .i64 (S.broI (S.rules e mo t l nc (S.num c) ns (S.num s) tm r nf (S.num f) n (S.num it) lo hi (S.num wt) ld k (S.num p)))))], [])
    | _, _, _, _, _, _, _, _, _, _, _, _, _, _, _ => none
  | _ => none
def zje : List AV → Option (AV × Heap)
  | [.c (.p (.ipt 16 g)), .c (.p (.int .i64 ix))] => match g 4 with
    | .isl 2 nc c => some (.ag [.p (.int .i64 (S.num c ix.toNat 0)), .p (.int .i64 (S.num c ix.toNat 1)), .p (.int .i64 (S.num c (S.nxt nc ix.toNat) 0)), .p (.int .i64 (S.num c (S.nxt nc ix.toNat) 1))], [])
    | _ => none
  | _ => none
def zf9 : List AV → Option (AV × Heap)
  | [.c (.p (.ipt 16 g)), .ag [_, _, .p (.int .i64 arm), .p (.int .i64 pr), .p (.int .i64 pi)], .c (.p (.int .i64 ru)), .c (.p (.int .i64 ix))] => match g 4 with
    | .isl 2 nc c => some (vB (S.asH nc (S.num c) ru ix arm pr pi), [])
    | _ => none
  | _ => none
def zga : List AV → Option (AV × Heap)
  | [.c (.p (.ipt 16 g)), .c (.p (.int .i64 ru)), .c (.p (.int .i64 ix))] => match g 4, g 10, g 13, g 15 with
    | .isl 2 nc c, .isl 3 n _, .isl 2 m _, .isl 5 _ p => some (.ag [.p (.isl 1 n (S.val (S.wcR nc (S.num c) ru ix (S.num p) 0))), .p (.int .i64 (S.wc nc (S.num c) ru ix (S.num p) n)), .p (.isl 1 m (S.val (S.wcR nc (S.num c) ru ix (S.num p) (n + 1))))], [])
    | _, _, _, _ => none
  | _ => none
def zpf : List AV → Option (AV × Heap)
  | [.ag [.p (.int .i64 e), .p (.int .i64 mo), _, _, _, .p (.isl 2 ns s), .p (.int .i64 ta), _, _, .p (.isl 2 nf f)], .ag [.p (.isl 3 n it), .p (.int .i64 lo), .p (.int .i64 hi), .p (.isl 2 m wt), _]] =>
    some (.tp [.ag [.p (.int .i64 (e + S.sumR (S.pL (S.parts n (S.num it) (S.num s) lo hi ta (S.num wt) (S.num f))) (n + 1 + m) 0)), .p (.int .i64 (e + S.sumR (S.pH (S.parts n (S.num it) (S.num s) lo hi ta (S.num wt) (S.num f))) (n + 1 + m) 0)),
      .p (.int .i64 (mo + S.sumR (S.mL (S.parts n (S.num it) (S.num s) lo hi ta (S.num wt) (S.num f))) (n + 1 + m) 0)), .p (.int .i64 (mo + S.sumR (S.mH (S.parts n (S.num it) (S.num s) lo hi ta (S.num wt) (S.num f))) (n + 1 + m) 0))], vI .i64 0], [])
  | _ => none
def ztt : List AV → Option (AV × Heap)
  | [.ag [.p (.int .i64 e), .p (.int .i64 mo), .p (.int .i64 t), .p (.int .i64 l), .p (.isl 2 nc c), .p (.isl 2 ns s), .p (.int .i64 ta), .p (.int .i64 tm), .p (.int .i64 r), .p (.isl 2 nf f)], .ag [.p (.isl 3 n it), .p (.int .i64 lo), .p (.int .i64 hi), .p (.isl 2 m wt), .p (.bool ld)]] =>
    some (.tp [vI .i64 (S.broR (S.ruP e mo t l nc (S.num c) ns (S.num s) ta tm r nf (S.num f) n (S.num it) lo hi m (S.num wt) ld)), vI .i64 (S.broI (S.ruP e mo t l nc (S.num c) ns (S.num s) ta tm r nf (S.num f) n (S.num it) lo hi m (S.num wt) ld)),
      .ag [.p (.isl 1 (S.cnt (S.broR (S.ruP e mo t l nc (S.num c) ns (S.num s) ta tm r nf (S.num f) n (S.num it) lo hi m (S.num wt) ld)) n) (S.val (S.wcR nc (S.num c) (S.broR (S.ruP e mo t l nc (S.num c) ns (S.num s) ta tm r nf (S.num f) n (S.num it) lo hi m (S.num wt) ld)) (S.broI (S.ruP e mo t l nc (S.num c) ns (S.num s) ta tm r nf (S.num f) n (S.num it) lo hi m (S.num wt) ld)) (S.parts n (S.num it) (S.num s) lo hi ta (S.num wt) (S.num f)) 0))),
        .p (.int .i64 (S.only (S.broR (S.ruP e mo t l nc (S.num c) ns (S.num s) ta tm r nf (S.num f) n (S.num it) lo hi m (S.num wt) ld)) (S.wc nc (S.num c) (S.broR (S.ruP e mo t l nc (S.num c) ns (S.num s) ta tm r nf (S.num f) n (S.num it) lo hi m (S.num wt) ld)) (S.broI (S.ruP e mo t l nc (S.num c) ns (S.num s) ta tm r nf (S.num f) n (S.num it) lo hi m (S.num wt) ld)) (S.parts n (S.num it) (S.num s) lo hi ta (S.num wt) (S.num f)) n))),
        .p (.isl 1 (S.cnt (S.broR (S.ruP e mo t l nc (S.num c) ns (S.num s) ta tm r nf (S.num f) n (S.num it) lo hi m (S.num wt) ld)) m) (S.val (S.wcR nc (S.num c) (S.broR (S.ruP e mo t l nc (S.num c) ns (S.num s) ta tm r nf (S.num f) n (S.num it) lo hi m (S.num wt) ld)) (S.broI (S.ruP e mo t l nc (S.num c) ns (S.num s) ta tm r nf (S.num f) n (S.num it) lo hi m (S.num wt) ld)) (S.parts n (S.num it) (S.num s) lo hi ta (S.num wt) (S.num f)) (n + 1))))],
      vI .i64 0], [])
  | _ => none
def Sp4 (f : Nat) (l : List AV) : Option (AV × Heap) := bif Nat.beq f z1u then zjc l else bif Nat.beq f z1v then zjd l else bif Nat.beq f z23 then zl7 l else bif Nat.beq f z1n then zg8 l else bif Nat.beq f z24 then zl8 l else bif Nat.beq f z1g then zg9 l else bif Nat.beq f z6a then zf8 l else bif Nat.beq f z7y then zje l else bif Nat.beq f z6b then zf9 l else bif Nat.beq f z75 then zga l else bif Nat.beq f z5n then zpf l else bif Nat.beq f z2i then ztt l else bif Nat.beq f z7p then zpe l else bif Nat.beq f z66 then zl6 l else bif Nat.beq f z2z then zf6 l else bif Nat.beq f z6c then zf7 l else Sp3 f l
def zaz (ga gb : S.Rows → Nat → Int) (pi px pn : Ps) (s : St) : Option zr :=
  match s.h, Tr.get pi s.t, Tr.get px s.t with
  | [b0, some (.box _ [.p (.int .i64 W), .p (.int .i64 V)])], .c (.p (.int .i64 i)), .c (.p (.isl 5 k p)) =>
    some (.e (.exit 0) ⟨za [(.i .h, .c (.pt 0 0)), (.o (.o .h), .c (.pt 1 0))], [b0, some (.box zm [.p (.int .i64 (W + S.sumR (ga (S.num p)) (k - i.toNat) i.toNat)), .p (.int .i64 (V + S.sumR (gb (S.num p)) (k - i.toNat) i.toNat))])]⟩)
  | _, _, _ => none
def lkH (e mo t l : Int) (nc : Nat) (c : S.Rows) (ns : Nat) (s : S.Rows) (ta tm r : Int) (nf : Nat) (f : S.Rows) (n : Nat) (it : S.Rows) (lo hi : Int) (m : Nat) (wt : S.Rows) (ld : Bool) (q : S.Rows) (i : Nat) : Heap :=
  [some (.box zp (plC e mo t l nc (S.val c) ns (S.val s) ta tm r nf (S.val f))), some (.box zf (ptC n (S.val it) lo hi m (S.val wt) ld)), some (.arr 5 z5z i (S.val q) []),
   some (.box z2w [.p (.int .i64 e), .p (.int .i64 mo), .p (.int .i64 t), .p (.int .i64 l), .p (.isl 2 nc (S.val c)), .p (.isl 2 ns (S.val s)), .p (.int .i64 ta), .p (.int .i64 tm), .p (.int .i64 r), .p (.isl 2 nf (S.val f)), .p (.isl 3 n (S.val it)), .p (.int .i64 lo), .p (.int .i64 hi), .p (.isl 2 m (S.val wt)), .p (.bool ld), .sl 2 0 i])]
def zd2 (j : Nat) (s : St) : Option zr :=
  match s.h with
  | b0 :: b1 :: _ => match b0, b1 with
    | some (.box _ [.p (.int .i64 e), .p (.int .i64 mo), .p (.int .i64 t), .p (.int .i64 l), .p (.isl 2 nc c), .p (.isl 2 ns s), .p (.int .i64 ta), .p (.int .i64 tm), .p (.int .i64 r), .p (.isl 2 nf f)]), some (.box _ [.p (.isl 3 n it), .p (.int .i64 lo), .p (.int .i64 hi), .p (.isl 2 m wt), .p (.bool ld)]) =>
      match j with
      | 1 => some (.e (.exit 0) ⟨za [(.i .h, .c (.pt 0 0)), (.o (.i .h), .c (.pt 3 0)), (.o (.o .h), .c (.pt 1 0))], lkH e mo t l nc (S.num c) ns (S.num s) ta tm r nf (S.num f) n (S.num it) lo hi m (S.num wt) ld (S.parts n (S.num it) (S.num s) lo hi ta (S.num wt) (S.num f)) n⟩)
      | _ => some (.e (.exit 2) ⟨za [(.o (.i .h), .c (.pt 3 0))], lkH e mo t l nc (S.num c) ns (S.num s) ta tm r nf (S.num f) n (S.num it) lo hi m (S.num wt) ld (S.parts n (S.num it) (S.num s) lo hi ta (S.num wt) (S.num f)) (n + 1 + m)⟩)
    | _, _ => none
  | _ => none
def zah (j : Nat) (s : St) : Option zr :=
  match j with
  | 1 => match Tr.get .h s.t, Tr.get (.i (.i (.i .h))) s.t with
    | a, .c (.p (.isl 3 n it)) => some (.e (.exit 0) ⟨za [(.h, a), (.o (.o .h), .c (.ref 0))], [some (.mpi (S.stS n (S.num it)))]⟩)
    | _, _ => none
  | _ => match s.h, Tr.get (.o (.i (.o (.o (.o .h))))) s.t with
    | [some (.mpi g)], .c (.p (.isl 2 ns st)) => some (.e (.exit 2) ⟨za [(.i (.i .h), .c (.sl 1 0 ns))], [some (.mpi g), some (.arr 1 zk ns (S.val (S.subR (S.num st) g)) [])]⟩)
    | _, _ => none
def zl9 (s : St) : Option zr :=
  match Tr.get .h s.t, Tr.get (.i (.i (.o .h))) s.t with
  | .c (.p (.ipt 16 g)), .c (.p (.isl 2 nf f)) => match g 13 with
    | .isl 2 _ wt => some (.e (.exit 0) ⟨za [(.o (.o .h), .c (.sl 0 0 nf))], [some (.arr 1 zk nf (S.val (S.wetR (S.num f) (S.num wt))) [])]⟩)
    | _ => none
  | _, _ => none
def zfa (s : St) : Option zr :=
  match Tr.get (.o (.o (.o (.o .h)))) s.t, Tr.get (.i (.o .h)) s.t, Tr.get (.o (.i (.o (.o .h)))) s.t, Tr.get (.o (.i (.o .h))) s.t, Tr.get (.i (.i (.o .h))) s.t with
  | .c (.p (.isl 1 n g)), .c (.p (.int .i64 I)), .c (.p (.int .i64 i)), a, b => some (.br (S.from_ (S.nonneg (S.num g)) n i.toNat) (.e (.exit 2) ⟨za [(.o (.i (.o .h)), a), (.i (.i (.o .h)), b)], s.h⟩) (.e .ret ⟨za [(.i .h, .c (.p (.int .i64 (2 + I)))), (.o (.o .h), .c (.p (.int .i64 (S.fst (S.nonneg (S.num g)) n i.toNat))))], []⟩))
  | _, _, _, _, _ => none
def z10b (ty : Nat) (s : St) : Bool := match s.h with
  | some (.box t _) :: _ => Nat.beq t ty
  | _ => false
def heO (lk : PV) (x : CV) (c : PV) (st : LS) : Heap := [some (.box z4u [.p lk]), some (.box z56 [x]), some (.box zw [.p c]), some (.clo z11 [] [.c (.pt 2 0)]), some (.lp 62 (za [(.o .h, .c (.pt 0 0)), (.o (.o .h), .c (.pt 1 0)), (.o (.o (.o (.o .h))), .c (.ref 3))]) [(.i (.o (.o (.o .h)))), (.o (.i (.o (.o .h))))] z1e z1f st)]
def heE (x : Int) (a : List CV) (c : PV) (st : LS) : Heap := [some (.box zk [.p (.int .i64 x)]), some (.box z10 a), some (.box zw [.p c]), some (.clo z11 [] [.c (.pt 2 0)]), some (.lp 20 (za [(.o (.o .h), .c (.pt 0 0)), (.i (.o .h), .c (.pt 1 0)), (.i (.o (.i .h)), .c (.ref 3))]) [(.o (.i (.i .h))), (.i (.i (.i .h)))] z1o z1p st)]
def ztu (s : St) : Option zr := match s.h with
  | some (.box _ [.p lk]) :: _ :: some (.box _ [.p (.isl 2 nc c)]) :: _ => match lk with
    | .ipt 16 g => match g 0, g 1, g 15 with
      | .int .i64 e, .int .i64 mo, .isl 5 k p => some (.e (.exit 0) ⟨.lf, heO lk (.sl 5 0 nc) (.isl 2 nc c) .ready ++ [some (.arr 1 zk nc (S.val (S.outR e mo nc (S.num c) k (S.num p))) [])]⟩)
      | _, _, _ => none
    | _ => none
  | _ => none
def zs4 (s : St) : Option zr := match s.h with
  | some (.box _ [.p (.int .i64 x)]) :: _ :: some (.box _ [.p (.isl 2 nc c)]) :: _ => some (.e .ret ⟨.lf, heE x [.p (.int .i64 (S.num c x.toNat 0)), .p (.int .i64 (S.num c x.toNat 1)), .p (.int .i64 (S.num c (S.nxt nc x.toNat) 0)), .p (.int .i64 (S.num c (S.nxt nc x.toNat) 1))] (.isl 2 nc c) (.done .ret)⟩)
  | _ => none
def zla (s : St) : Option zr :=
  match s.h, Tr.get (.i (.i .h)) s.t, Tr.get (.o (.o (.i (.o (.o .h))))) s.t, Tr.get (.o (.i (.o (.o (.o .h))))) s.t with
  | [_, _, _, _, _, _, _, some (.box _ [.p (.int .i64 a), .p (.int .i64 b), .p (.int .i64 d), .p (.int .i64 e)])], .c (.p (.int .i64 A)), .c (.p (.int .i64 j)), .c (.p (.isl 5 k p)) =>
    some (.e (.exit 2) ⟨za [(.o .h, .c (.pt 0 0)), (.o (.o .h), .c (.pt 1 0)), (.o (.o (.o (.o .h))), .c (.ref 3)), (.o (.i .h), .c (.pt 7 0)), (.i (.i .h), vI .i64 (A + S.sumR (S.leanE a b d e (S.num p)) (k - j.toNat) j.toNat))], s.h⟩)
  | _, _, _, _ => none
def zgb (s : St) : Option zr :=
  match s.h, Tr.get .h s.t, Tr.get (.o .h) s.t, Tr.get (.i .h) s.t with
  | [b0, _], .c (.p (.ipt 16 g)), .c (.p (.int .i64 ru)), .c (.p (.int .i64 ix)) => match g 4, g 10, g 13, g 15 with
    | .isl 2 nc c, .isl 3 n _, .isl 2 m _, .isl 5 _ p => some (.e (.exit 0) ⟨za [(.i (.i .h), .c (.pt 0 0)), (.o (.o (.o .h)), .c (.pt 1 0))], [b0, some (.box z7 [.sl 2 0 n, .p (.int .i64 (S.wc nc (S.num c) ru ix (S.num p) n)), .sl 3 0 m]), some (.arr 1 zk n (S.val (S.wcR nc (S.num c) ru ix (S.num p) 0)) []), some (.arr 1 zk m (S.val (S.wcR nc (S.num c) ru ix (S.num p) (n + 1))) [])]⟩)
    | _, _, _, _ => none
  | _, _, _, _ => none
def Lp4 (n0 : Nat) (a : MC) (s : St) : Option zr :=
  bif Nat.beq (keyM a 0) zd3 then zah 1 s else bif Nat.beq (keyM a 0) zd4 then zah 2 s else bif Nat.beq (keyM a 0) zdu then zl9 s else bif Nat.beq (keyM a 0) zbr then zfa s else bif Nat.beq (keyM a 0) z62 && z10b z4u s then ztu s else bif Nat.beq (keyM a 0) z62 && z10b zk s then zs4 s else bif Nat.beq (keyM a 0) zdv then zla s else bif Nat.beq (keyM a 0) zcr then zgb s else bif Nat.beq (keyM a 0) zgc then zd2 1 s else bif Nat.beq (keyM a 0) zgd then zd2 2 s else bif Nat.beq (keyM a 0) zbs then zaz S.pL S.pH (.i (.i (.i (.o .h)))) (.i (.o (.i (.o .h)))) .h s else bif Nat.beq (keyM a 0) zbt then zaz S.mL S.mH (.i (.o (.o (.i .h)))) (.i (.i (.i (.o .h)))) .h s else Lp3 n0 a s
def cs4 {P : Program} (hbs : BsOk P) : Cfg := { cs hbs with Sp := Sp4, Lp := Lp4, Sv := fun f => memN f [z1u, z1v, z23, z1n, z24, z1g] }
section
variable {hbs : BsOk Tryz.prog}
theorem zmc (a b c d : Int) (Q : AV → Heap → Prop) :
 ((fun (A0 : List CV) => ((CdP (.i64 ((0 : Int) + a))
 (CdP (.i64 ((0 : Int) + b))
 (CdP (.i64 (((0 : Int) + a) + c))
 (CdP (.i64 (((0 : Int) + b) + d))
 (Q (.ag A0) [(some (.box zm A0)), (some (.box zm A0)), (some (.box zm [(cJ a), (cJ b)])), (some (.box zm [(cJ c), (cJ d)]))]))))))) [(cJ (((0 : Int) + a) + c)), (cJ (((0 : Int) + b) + d))]) = (ex (cs4 hbs) 1000 0 zcg ⟨ofL 0 [.c (.p (.isl 2 2 (fun i j => ([.int .i64 a, .int .i64 b, .int .i64 c, .int .i64 d] : List PV).getD (i * 2 + j) .npt)))] .lf, []⟩ (endK z4k.rs (fun r H => .pr (Q r H)) fun _ _ => .no)).hold2 := by kernel_rfl
theorem zfv (fu i k : Nat) (p : S.Rows) (W V : Int) (Q : AX → St → Prop) :
 ((fun (A0 : AV) => ((fun (A1 : List CV) => ((fun (A2 : List CV) => ((BrP (decide ((i : Int) < (k : Int)))
 (CdP (.rng (i : Int) k)
 ((z8 (cs4 hbs) z66 [A0] (.ag A1) []) ∧
 (CdP (.i64 ((i : Int) + (1 : Int)))
 (Q .normal ⟨(L4 (L4 (.nd (L4 (L3 (L1 (vJ ((i : Int) + (1 : Int))))) (L1 (vB true))) (vT 1 0) (L2 (L1 (vT 2 0)))) (.nd (L2 (L1 (.ag A2))) (vT 2 0) (L4 (L1 (vN k)) (L1 A0)))) (.nd (L4 (L2 (L1 (.c (.p (.ipt 5 (S.val p i)))))) (L4 (L1 (vS 5 k p)) (L1 (.ag [(cJ (p i 0)), (cJ (p i 1))])))) (vT 0 0) (L4 (L2 (L1 (.ag [(cJ W), (cJ V)]))) (L4 (L1 (vJ ((i : Int) + (1 : Int)))) (L1 (.ag A1)))))), [(some (.box zm [(cJ 0), (cJ 0)])), (some (.box zm A1)), (some (.box z5z A2))]⟩))))
 (Q (.exit 0) ⟨(L4 (L4 (L6 (L2 (L1 (vB false))) (vT 1 0)) (L2 (L3 (L1 (vN k))))) (.nd (L2 (L3 (L1 (vS 5 k p)))) (vT 0 0) (L2 (L3 (L1 (vN i)))))), [(some (.box zm [(cJ 0), (cJ 0)])), (some (.box zm [(cJ W), (cJ V)]))]⟩)))) [(cJ (p i 0)), (cJ (p i 1)), (cJ (p i 2)), (cJ (p i 3)), (cJ (p i 4))])) [(cJ (W + (p i 0))), (cJ (V + (p i 1)))])) (.c (.p (.isl 2 2 (fun x7 => (fun x8 => (List.getD [(.int .i64 W), (.int .i64 V), (.int .i64 (p i 0)), (.int .i64 (p i 1))] ((x7 * 2) + x8) .npt))))))) = (ex (cs4 hbs) (fu + 60) 0 z39 ⟨za [(.i .h, .c (.pt 0 0)), (.o (.o .h), .c (.pt 1 0)), (.o (.i (.i (.o .h))), .c (cJ k)), (.i (.o (.i (.o .h))), .c (cS 5 k p)), (.i (.i (.i (.o .h))), .c (cJ i))], [some (.box zm [.p (.int .i64 0), .p (.int .i64 0)]), some (.box zm [.p (.int .i64 W), .p (.int .i64 V)])]⟩ (fun e s => .pr (Q e s))).hold2 := by kernel_rfl
theorem zfw (e mo t l : Int) (nc : Nat) (c : S.Rows) (ns : Nat) (s : S.Rows) (ta tm r : Int) (nf : Nat) (f : S.Rows) (n : Nat) (it : S.Rows) (lo hi : Int) (m : Nat) (wt : S.Rows) (ld : Bool) (k : Nat) (p : S.Rows) (Q : AV → Heap → Prop) :
 ((fun (A0 : AV) => ((fun (A1 : List CV) => ((fun (A2 : AV) => ((fun (A3 : AV) => ((fun (A4 : Option Blk) => (((zd (ex (cs4 hbs) 994) 0 z39 ⟨(.nd (L4 (.nd (L6 (L1 (vJ e)) A0) (vT 1 0) (L6 (L1 (.c (.p (.ipt 1 (fun x23 => (S.lk e mo t l nc c ns s ta tm r nf f n it lo hi m wt ld k p (15 + x23))))))) A0)) (L4 (L6 (L1 A0) A2) (L6 (L1 (vN k)) A3))) A0 (.nd (L4 (L6 (L1 (.ag [(cJ e), (cJ e)])) A3) (L6 (L1 (vS 5 k p)) A0)) (vT 0 0) (.nd (L6 (L1 A0) (vJ e)) A0 (L6 (L1 (vJ 0)) A2)))), [(some (.box zm [(cJ 0), (cJ 0)])), (some (.box zm [(cJ e), (cJ e)]))]⟩ (.e (.exit 0) ⟨(L4 (L3 (L1 (vT 1 0))) (L1 (vT 0 0))), [(some (.box zm [(cJ 0), (cJ 0)])), A4]⟩)) ∧
 (Q (.ag A1) [A4, A4])))) (some (.box zm A1)))) (.c (.p (.ipt 16 (fun x23 => (S.lk e mo t l nc c ns s ta tm r nf f n it lo hi m wt ld k p (0 + x23)))))))) (.c (.p (.ipt 16 (fun x23 => (S.lk e mo t l nc c ns s ta tm r nf f n it lo hi m wt ld k p (0 + (0 + x23))))))))) [(cJ (e + (S.sumR (S.pL p) k 0))), (cJ (e + (S.sumR (S.pH p) k 0)))])) (.c (.p (.ipt 16 (S.lk e mo t l nc c ns s ta tm r nf f n it lo hi m wt ld k p))))) = (ex (cs4 hbs) 1000 0 za1 ⟨ofL 0 [lkA e mo t l nc c ns s ta tm r nf f n it lo hi m wt ld k p] .lf, []⟩ (endK z32.rs (fun r H => .pr (Q r H)) fun _ _ => .no)).hold2 := by kernel_rfl
theorem zfy (fu i k : Nat) (p : S.Rows) (W V : Int) (Q : AX → St → Prop) :
 ((fun (A0 : List CV) => ((fun (A1 : AV) => ((fun (A2 : List CV) => ((fun (A3 : AV) => ((fun (A4 : AV) => ((BrP (decide ((i : Int) < (k : Int)))
 (CdP (.rng (i : Int) k)
 (CdP (.i64 ((p i 0) * (p i 2)))
 (CdP (.i64 ((p i 1) * (p i 2)))
 ((z8 (cs4 hbs) z66 [A1] (.ag A0) []) ∧
 (CdP (.i64 ((i : Int) + (1 : Int)))
 (Q .normal ⟨(L4 (L4 (.nd (.nd (L4 (L1 (vT 2 2)) (L1 (.ag [(cJ (S.mn ((p i 0) * (p i 2)) ((p i 1) * (p i 2)))), (cJ (S.mx ((p i 0) * (p i 2)) ((p i 1) * (p i 2))))]))) A3 (L6 (L1 A3) (vN k))) (vT 1 0) (L4 (L3 (L1 (vT 2 1))) (L6 (L1 (vJ (S.mn ((p i 0) * (p i 2)) ((p i 1) * (p i 2))))) (.ag A2)))) (.nd (L4 (L4 (L1 A4) (L1 (.ag A0))) (L6 (L1 A4) (vB true))) (vT 2 0) (L4 (L3 (L1 (vT 2 2))) (L6 (L1 A3) (vT 2 0))))) (.nd (L4 (L4 (L4 (L1 (vJ (p i 2))) (L1 A1)) (L6 (L1 (.ag [(cJ W), (cJ V)])) (vJ ((i : Int) + (1 : Int))))) (L4 (L3 (L1 (vJ (p i 1)))) (L6 (L1 A4) (vT 2 0)))) (vT 0 0) (.nd (L4 (L4 (L1 (vT 2 0)) (L1 (vJ ((i : Int) + (1 : Int))))) (L6 (L1 A3) (.c (.p (.ipt 5 (S.val p i)))))) A4 (L4 (L6 (L1 (vJ (p i 2))) (vS 5 k p)) (L6 (L1 (vJ (S.mx ((p i 0) * (p i 2)) ((p i 1) * (p i 2))))) (vJ (p i 0))))))), [(some (.box zm [(cJ 0), (cJ 0)])), (some (.box zm A0)), (some (.box z5z A2))]⟩))))))
 (Q (.exit 0) ⟨(L4 (L4 (L6 (L2 (L1 (vN k))) (vT 1 0)) (L3 (L2 (L1 (vB false))))) (.nd (L3 (L2 (L1 (vN i)))) (vT 0 0) (L2 (L3 (L1 (vS 5 k p)))))), [(some (.box zm [(cJ 0), (cJ 0)])), (some (.box zm [(cJ W), (cJ V)]))]⟩)))) (vJ ((p i 0) * (p i 2))))) (vJ ((p i 1) * (p i 2))))) [(cJ (p i 0)), (cJ (p i 1)), (cJ (p i 2)), (cJ (p i 3)), (cJ (p i 4))])) (.c (.p (.isl 2 2 (fun x7 => (fun x8 => (List.getD [(.int .i64 W), (.int .i64 V), (.int .i64 (S.mn ((p i 0) * (p i 2)) ((p i 1) * (p i 2)))), (.int .i64 (S.mx ((p i 0) * (p i 2)) ((p i 1) * (p i 2))))] ((x7 * 2) + x8) .npt)))))))) [(cJ (W + (S.mn ((p i 0) * (p i 2)) ((p i 1) * (p i 2))))), (cJ (V + (S.mx ((p i 0) * (p i 2)) ((p i 1) * (p i 2)))))]) = (ex (cs4 hbs) (fu + 60) 0 z3a ⟨za [(.i .h, .c (.pt 0 0)), (.o (.o .h), .c (.pt 1 0)), (.o (.o (.o (.i .h))), .c (cJ k)), (.i (.i (.i (.o .h))), .c (cS 5 k p)), (.i (.o (.o (.i .h))), .c (cJ i))], [some (.box zm [.p (.int .i64 0), .p (.int .i64 0)]), some (.box zm [.p (.int .i64 W), .p (.int .i64 V)])]⟩ (fun e s => .pr (Q e s))).hold2 := by kernel_rfl
theorem zfz (e mo t l : Int) (nc : Nat) (c : S.Rows) (ns : Nat) (s : S.Rows) (ta tm r : Int) (nf : Nat) (f : S.Rows) (n : Nat) (it : S.Rows) (lo hi : Int) (m : Nat) (wt : S.Rows) (ld : Bool) (k : Nat) (p : S.Rows) (Q : AV → Heap → Prop) :
 ((fun (A0 : AV) => ((fun (A1 : List CV) => ((fun (A2 : AV) => ((fun (A3 : AV) => ((fun (A4 : Option Blk) => (((zd (ex (cs4 hbs) 994) 0 z3a ⟨(.nd (L4 (.nd (L4 (L1 A3) (L1 (vN k))) (vT 1 0) (L6 (L1 A0) A2)) (L4 (L6 (L1 (vJ mo)) A0) (L6 (L1 (.c (.p (.ipt 1 (fun x23 => (S.lk e mo t l nc c ns s ta tm r nf f n it lo hi m wt ld k p (15 + x23))))))) A0))) A0 (.nd (L4 (.nd (L1 A2) A0 (L1 (vJ 0))) (L6 (L1 A0) (vJ mo))) (vT 0 0) (L4 (L6 (L1 (.ag [(cJ mo), (cJ mo)])) A3) (L6 (L1 (vS 5 k p)) A0)))), [(some (.box zm [(cJ 0), (cJ 0)])), (some (.box zm [(cJ mo), (cJ mo)]))]⟩ (.e (.exit 0) ⟨(L4 (L3 (L1 (vT 1 0))) (L1 (vT 0 0))), [(some (.box zm [(cJ 0), (cJ 0)])), A4]⟩)) ∧
 (Q (.ag A1) [A4, A4])))) (some (.box zm A1)))) (.c (.p (.ipt 16 (fun x23 => (S.lk e mo t l nc c ns s ta tm r nf f n it lo hi m wt ld k p (0 + x23)))))))) (.c (.p (.ipt 15 (fun x23 => (S.lk e mo t l nc c ns s ta tm r nf f n it lo hi m wt ld k p (0 + (1 + x23))))))))) [(cJ (mo + (S.sumR (S.mL p) k 0))), (cJ (mo + (S.sumR (S.mH p) k 0)))])) (.c (.p (.ipt 16 (S.lk e mo t l nc c ns s ta tm r nf f n it lo hi m wt ld k p))))) = (ex (cs4 hbs) 1000 0 za2 ⟨ofL 0 [lkA e mo t l nc c ns s ta tm r nf f n it lo hi m wt ld k p] .lf, []⟩ (endK z33.rs (fun r H => .pr (Q r H)) fun _ _ => .no)).hold2 := by kernel_rfl
end
end Go.Ab.B
namespace Go.Ab.S
theorem mn_in {a b : Int} {B : Int} (h1 : -B ≤ a ∧ a ≤ B) (h2 : -B ≤ b ∧ b ≤ B) : -B ≤ mn a b ∧ mn a b ≤ B := by unfold mn; split <;> omega
theorem mx_in {a b : Int} {B : Int} (h1 : -B ≤ a ∧ a ≤ B) (h2 : -B ≤ b ∧ b ≤ B) : -B ≤ mx a b ∧ mx a b ≤ B := by unfold mx; split <;> omega
end Go.Ab.S
namespace Go.Ab.B
open Go.Proofs
section
variable {hbs : BsOk Tryz.prog} (hT4 : zq (cs4 hbs))
include hT4
theorem zbl (a b c d : Int) (ha : -1000000000000 ≤ a ∧ a ≤ 1000000000000) (hb : -1000000000000 ≤ b ∧ b ≤ 1000000000000) (hc : -1000000000000 ≤ c ∧ c ≤ 1000000000000) (hd : -1000000000000 ≤ d ∧ d ≤ 1000000000000) :
    z8 (cs4 hbs) z66 [.c (.p (.isl 2 2 (fun i j => ([.int .i64 a, .int .i64 b, .int .i64 c, .int .i64 d] : List PV).getD (i * 2 + j) .npt)))] (.ag [.p (.int .i64 (a + c)), .p (.int .i64 (b + d))]) [] := by
  refine zo hT4 (F := z4k) rfl (zmc a b c d _) (cdP ?_ (cdP ?_ (cdP ?_ (cdP ?_ ?_))))
  · simp [Cd.holds]; omega
  · simp [Cd.holds]; omega
  · simp [Cd.holds]; omega
  · simp [Cd.holds]; omega
  · simp [frzA, frzL, frzC]
abbrev zrv (k : Nat) (p : S.Rows) (i : Nat) : List (Ps × AV) := [(.i .h, .c (.pt 0 0)), (.o (.o .h), .c (.pt 1 0)), (.o (.i (.i (.o .h))), .c (.p (.int .i64 k))), (.i (.o (.i (.o .h))), .c (.p (.isl 5 k (S.val p)))), (.i (.i (.i (.o .h))), .c (.p (.int .i64 i)))]
abbrev zrw (k : Nat) (p : S.Rows) (i : Nat) : List (Ps × AV) := [(.i .h, .c (.pt 0 0)), (.o (.o .h), .c (.pt 1 0)), (.o (.o (.o (.i .h))), .c (.p (.int .i64 k))), (.i (.i (.i (.o .h))), .c (.p (.isl 5 k (S.val p)))), (.i (.o (.o (.i .h))), .c (.p (.int .i64 i)))]
abbrev zi8 (W V : Int) : Heap := [some (.box zm [.p (.int .i64 0), .p (.int .i64 0)]), some (.box zm [.p (.int .i64 W), .p (.int .i64 V)])]
abbrev za5 (ga gb : S.Rows → Nat → Int) (k : Nat) (p : S.Rows) (x : Nat × Int × Int) : zr := .e (.exit 0) ⟨za [(.i .h, .c (.pt 0 0)), (.o (.o .h), .c (.pt 1 0))], zi8 (x.2.1 + S.sumR (ga p) (k - x.1) x.1) (x.2.2 + S.sumR (gb p) (k - x.1) x.1)⟩
def zei (B W0 V0 : Int) (k : Nat) (x : Nat × Int × Int) : Prop := x.1 ≤ k ∧ (W0 - B * (x.1 : Int) ≤ x.2.1 ∧ x.2.1 ≤ W0 + B * (x.1 : Int)) ∧ (V0 - B * (x.1 : Int) ≤ x.2.2 ∧ x.2.2 ≤ V0 + B * (x.1 : Int))
omit hT4 in
theorem zei.step {B W0 V0 : Int} {k i : Nat} {W V a b : Int} (h : zei B W0 V0 k (i, W, V)) (hi : i < k) (ha : -B ≤ a ∧ a ≤ B) (hb : -B ≤ b ∧ b ≤ B) : zei B W0 V0 k (i + 1, W + a, V + b) := by
  obtain ⟨h1, h2, h3⟩ := h
  dsimp only at h1 h2 h3
  have e : B * ((i + 1 : Nat) : Int) = B * i + B := by rw [Int.natCast_add, Int.mul_add]; simp
  refine ⟨hi, ?_, ?_⟩ <;> dsimp only <;> rw [e] <;> omega
theorem zfu (fu k : Nat) (p : S.Rows) (W0 V0 : Int) (hk : k ≤ 30) (hW0 : -1000000 ≤ W0 ∧ W0 ≤ 1000000) (hV0 : -1000000 ≤ V0 ∧ V0 ≤ 1000000) (hp : ∀ i, i < k → (-140000 ≤ p i 0 ∧ p i 0 ≤ 140000) ∧ (-140000 ≤ p i 1 ∧ p i 1 ≤ 140000)) : ∀ (x : Nat × Int × Int) (st : St), zei 140000 W0 V0 k x → Has st (zrv k p x.1) (zi8 x.2.1 x.2.2) →
    zd (ex (cs4 hbs) (fu + 60)) 0 z39 st (za5 S.pL S.pH k p x) :=
  z2d (σ := Nat × Int × Int) (fun x => zrv k p x.1) (fun x => zi8 x.2.1 x.2.2) (zei 140000 W0 V0 k) (fun x => k - x.1) (fun x => za5 S.pL S.pH k p x) (fun _ => Nat.zero_le _) _ (fun x Q => zfv (hbs := hbs) fu x.1 k p x.2.1 x.2.2 Q) fun x hx K hL X hX => by
      obtain ⟨i, W, V⟩ := x
      have hx0 := hx
      obtain ⟨h1, h2, h3⟩ := hx
      dsimp only at h1 h2 h3 hL ⊢
      refine brP (fun hb => ?_) fun hb => ?_
      · have hlt : i < k := by simpa using hb
        obtain ⟨q1, q2⟩ := hp i hlt
        refine cdP (zi hlt) ⟨zbl hT4 _ _ _ _ (by omega) (by omega) (by omega) (by omega), cdP (by simp [Cd.holds]; omega) ?_⟩
        refine hX (i + 1, W + p i 0, V + p i 1) _ (by show k - (i + 1) < k - i; omega) (hx0.step hlt q1 q2) (.cons (by kernel_rfl) rfl (.cons (by kernel_rfl) rfl (.cons (by kernel_rfl) rfl (.cons (by kernel_rfl) rfl (.cons (by kernel_rfl) rfl (.nil (ex := _) rfl (by kernel_rfl))))))) ?_
        dsimp only [za5] at hL ⊢
        rw [S.sumR_step (S.pL p) hlt, S.sumR_step (S.pH p) hlt, ← Int.add_assoc, ← Int.add_assoc] at hL
        exact hL
      · have hlt : k ≤ i := by simpa using hb
        dsimp only [za5] at hL
        rw [S.sumR_end (S.pL p) hlt, S.sumR_end (S.pH p) hlt, Int.add_zero, Int.add_zero] at hL
        exact Has.out (l := [(.i .h, .c (.pt 0 0)), (.o (.o .h), .c (.pt 1 0))]) (.cons (by kernel_rfl) rfl (.cons (by kernel_rfl) rfl (.nil (ex := _) rfl (by kernel_rfl)))) (Nat.zero_le _) hL
theorem z63 (e mo t l : Int) (nc : Nat) (c : S.Rows) (ns : Nat) (s : S.Rows) (ta tm r : Int) (nf : Nat) (f : S.Rows) (n : Nat) (it : S.Rows) (lo hi : Int) (m : Nat) (wt : S.Rows) (ld : Bool) (k : Nat) (p : S.Rows) (hk : k ≤ 30) (he : -1000000 ≤ e ∧ e ≤ 1000000) (hp : ∀ i, i < k → (-140000 ≤ p i 0 ∧ p i 0 ≤ 140000) ∧ (-140000 ≤ p i 1 ∧ p i 1 ≤ 140000)) :
    z8 (cs4 hbs) z2z [lkA e mo t l nc c ns s ta tm r nf f n it lo hi m wt ld k p] (.ag [.p (.int .i64 (e + S.sumR (S.pL p) k 0)), .p (.int .i64 (e + S.sumR (S.pH p) k 0))]) [] :=
  zo hT4 (F := z32) rfl (zfw e mo t l nc c ns s ta tm r nf f n it lo hi m wt ld k p _) ⟨zfu hT4 934 k p e e hk he he hp (0, e, e) _ ⟨Nat.zero_le _, by simp, by simp⟩ (.cons (by kernel_rfl) rfl (.cons (by kernel_rfl) rfl (.cons (by kernel_rfl) rfl (.cons (by kernel_rfl) rfl (.cons (by kernel_rfl) rfl (.nil (ex := _) rfl (by kernel_rfl))))))), by simp [frzA, frzL, frzC]⟩
theorem zfx (fu k : Nat) (p : S.Rows) (W0 V0 : Int) (hk : k ≤ 30) (hW0 : -1000000000 ≤ W0 ∧ W0 ≤ 1000000000) (hV0 : -1000000000 ≤ V0 ∧ V0 ≤ 1000000000) (hp : ∀ i, i < k → (-140000 ≤ p i 0 ∧ p i 0 ≤ 140000) ∧ (-140000 ≤ p i 1 ∧ p i 1 ≤ 140000) ∧ (-1000 ≤ p i 2 ∧ p i 2 ≤ 1000)) : ∀ (x : Nat × Int × Int) (st : St), zei 140000000 W0 V0 k x → Has st (zrw k p x.1) (zi8 x.2.1 x.2.2) →
    zd (ex (cs4 hbs) (fu + 60)) 0 z3a st (za5 S.mL S.mH k p x) :=
  z2d (σ := Nat × Int × Int) (fun x => zrw k p x.1) (fun x => zi8 x.2.1 x.2.2) (zei 140000000 W0 V0 k) (fun x => k - x.1) (fun x => za5 S.mL S.mH k p x) (fun _ => Nat.zero_le _) _ (fun x Q => zfy (hbs := hbs) fu x.1 k p x.2.1 x.2.2 Q) fun x hx K hL X hX => by
      obtain ⟨i, W, V⟩ := x
      have hx0 := hx
      obtain ⟨h1, h2, h3⟩ := hx
      dsimp only at h1 h2 h3 hL ⊢
      refine brP (fun hb => ?_) fun hb => ?_
      · have hlt : i < k := by simpa using hb
        obtain ⟨q1, q2, q3⟩ := hp i hlt
        have r1 := z2t (A := 140000) (B := 1000) q1.1 q1.2 q3.1 q3.2
        have r2 := z2t (A := 140000) (B := 1000) q2.1 q2.2 q3.1 q3.2
        have r3 := S.mn_in (B := 140000000) r1 r2
        have r4 := S.mx_in (B := 140000000) r1 r2
        refine cdP (zi hlt) (cdP (by simp [Cd.holds]; omega) (cdP (by simp [Cd.holds]; omega) ⟨zbl hT4 _ _ _ _ (by omega) (by omega) (by omega) (by omega), cdP (by simp [Cd.holds]; omega) ?_⟩))
        refine hX (i + 1, W + S.mL p i, V + S.mH p i) _ (by show k - (i + 1) < k - i; omega) (hx0.step hlt r3 r4) (.cons (by kernel_rfl) rfl (.cons (by kernel_rfl) rfl (.cons (by kernel_rfl) rfl (.cons (by kernel_rfl) rfl (.cons (by kernel_rfl) rfl (.nil (ex := _) rfl (by kernel_rfl))))))) ?_
        dsimp only [za5] at hL ⊢
        rw [S.sumR_step (S.mL p) hlt, S.sumR_step (S.mH p) hlt, ← Int.add_assoc, ← Int.add_assoc] at hL
        exact hL
      · have hlt : k ≤ i := by simpa using hb
        dsimp only [za5] at hL
        rw [S.sumR_end (S.mL p) hlt, S.sumR_end (S.mH p) hlt, Int.add_zero, Int.add_zero] at hL
        exact Has.out (l := [(.i .h, .c (.pt 0 0)), (.o (.o .h), .c (.pt 1 0))]) (.cons (by kernel_rfl) rfl (.cons (by kernel_rfl) rfl (.nil (ex := _) rfl (by kernel_rfl)))) (Nat.zero_le _) hL
theorem zff (e mo t l : Int) (nc : Nat) (c : S.Rows) (ns : Nat) (s : S.Rows) (ta tm r : Int) (nf : Nat) (f : S.Rows) (n : Nat) (it : S.Rows) (lo hi : Int) (m : Nat) (wt : S.Rows) (ld : Bool) (k : Nat) (p : S.Rows) (hk : k ≤ 30) (he : -1000000000 ≤ mo ∧ mo ≤ 1000000000) (hp : ∀ i, i < k → (-140000 ≤ p i 0 ∧ p i 0 ≤ 140000) ∧ (-140000 ≤ p i 1 ∧ p i 1 ≤ 140000) ∧ (-1000 ≤ p i 2 ∧ p i 2 ≤ 1000)) :
    z8 (cs4 hbs) z6c [lkA e mo t l nc c ns s ta tm r nf f n it lo hi m wt ld k p] (.ag [.p (.int .i64 (mo + S.sumR (S.mL p) k 0)), .p (.int .i64 (mo + S.sumR (S.mH p) k 0))]) [] :=
  zo hT4 (F := z33) rfl (zfz e mo t l nc c ns s ta tm r nf f n it lo hi m wt ld k p _) ⟨zfx hT4 934 k p mo mo hk he he hp (0, mo, mo) _ ⟨Nat.zero_le _, by simp, by simp⟩ (.cons (by kernel_rfl) rfl (.cons (by kernel_rfl) rfl (.cons (by kernel_rfl) rfl (.cons (by kernel_rfl) rfl (.cons (by kernel_rfl) rfl (.nil (ex := _) rfl (by kernel_rfl))))))), by simp [frzA, frzL, frzC]⟩
end
section
variable {hbs : BsOk Tryz.prog}
theorem zng (fu i : Nat) (e mo t l : Int) (nc : Nat) (c : S.Rows) (ns : Nat) (s : S.Rows) (ta tm r : Int) (nf : Nat) (f : S.Rows) (n : Nat) (it : S.Rows) (lo hi : Int) (m : Nat) (wt : S.Rows) (ld : Bool) (q : S.Rows) (Q : AX → St → Prop) :
 ((BrP (decide ((i : Int) < (n : Int)))
 (CdP (.rng (i : Int) n)
 (CdP (.rng (it i 0) ns)
 (CdP (.le i i)
 (CdP (.le i i)
 (CdP (.le ((i + 1) * 40) 140737488355328)
 (CdP (.i64 ((i : Int) + (1 : Int)))
 (Q .normal ⟨(L4 (L4 (L1 (vT 1 0)) (L6 (L2 (L1 (vN n))) (vT 3 0))) (.nd (L3 (L2 (L1 (vS 3 n it)))) (vT 0 0) (L3 (L2 (L1 (vJ ((i : Int) + (1 : Int)))))))), [(bP e mo t l nc c ns s ta tm r nf f), (bX n it lo hi m wt ld), (some (.arr 5 112 i (S.val q) [])), (some (.box z2w [(cJ e), (cJ mo), (cJ t), (cJ l), (cS 2 nc c), (cS 2 ns s), (cJ ta), (cJ tm), (cJ r), (cS 2 nf f), (cS 3 n it), (cJ lo), (cJ hi), (cS 2 m wt), (.p (.bool ld)), (.sl 5 0 (i + 1))])), (some (.box z8z [(cJ (it i 0)), (cJ (it i 1)), (cJ (it i 2))])), (some (.arr 5 112 (i + 1) (fun x24 => (fun x25 => (if (x24 < i) then (.int .i64 (q x24 x25)) else (List.getD [(.int .i64 (it i 1)), (.int .i64 (it i 2)), (.int .i64 (s (Int.toNat (it i 0)) 0)), (.int .i64 (2 : Int)), (.int .i64 (it i 0))] (((x24 - i) * 5) + x25) .npt)))) [2]))]⟩)))))))
 (Q (.exit 0) ⟨(L4 (L4 (L1 (vT 1 0)) (L6 (L2 (L1 (vN n))) (vT 3 0))) (.nd (L3 (L2 (L1 (vS 3 n it)))) (vT 0 0) (L3 (L2 (L1 (vN i)))))), [(bP e mo t l nc c ns s ta tm r nf f), (bX n it lo hi m wt ld), (some (.arr 5 112 i (S.val q) [])), (some (.box z2w [(cJ e), (cJ mo), (cJ t), (cJ l), (cS 2 nc c), (cS 2 ns s), (cJ ta), (cJ tm), (cJ r), (cS 2 nf f), (cS 3 n it), (cJ lo), (cJ hi), (cS 2 m wt), (.p (.bool ld)), (.sl 2 0 i)]))]⟩))) = (ex (cs4 hbs) (fu + 60) 0 z59 ⟨za [(.i .h, .c (.pt 0 0)), (.o (.i .h), .c (.pt 3 0)), (.o (.o .h), .c (.pt 1 0)), (.o (.i (.o (.i .h))), .c (cJ n)), (.i (.o (.o (.i .h))), .c (cS 3 n it)), (.i (.i (.o (.i .h))), .c (cJ i))], lkH e mo t l nc c ns s ta tm r nf f n it lo hi m wt ld q i⟩ (fun e s => .pr (Q e (z2a [.i .h, .i (.o .h), .o (.i .h), .o (.o .h), .i (.i (.o (.i .h))), .i (.o (.o (.i .h))), .o (.i (.o (.i .h)))] s)))).hold2 := by kernel_rfl
theorem zni (fu i j : Nat) (e mo t l : Int) (nc : Nat) (c : S.Rows) (ns : Nat) (s : S.Rows) (ta tm r : Int) (nf : Nat) (f : S.Rows) (n : Nat) (it : S.Rows) (lo hi : Int) (m : Nat) (wt : S.Rows) (ld : Bool) (q : S.Rows) (Q : AX → St → Prop) :
 ((BrP (decide ((i : Int) < (m : Int)))
 (CdP (.rng (i : Int) m)
 (CdP (.rng (i : Int) nf)
 (CdP (.le j j)
 (CdP (.le j j)
 (CdP (.le ((j + 1) * 40) 140737488355328)
 (CdP (.i64 ((i : Int) + (1 : Int)))
 (Q .normal ⟨(L4 (L2 (L5 (vT 3 0) (L3 (L3 (L3 (L1 (vN m))))))) (.nd (L2 (L3 (L3 (L3 (L1 (vS 2 m wt)))))) (vT 0 0) (L2 (L3 (L3 (L3 (L1 (vJ ((i : Int) + (1 : Int)))))))))), [(bP e mo t l nc c ns s ta tm r nf f), (bX n it lo hi m wt ld), (some (.arr 5 112 j (S.val q) [])), (some (.box z2w [(cJ e), (cJ mo), (cJ t), (cJ l), (cS 2 nc c), (cS 2 ns s), (cJ ta), (cJ tm), (cJ r), (cS 2 nf f), (cS 3 n it), (cJ lo), (cJ hi), (cS 2 m wt), (.p (.bool ld)), (.sl 5 0 (j + 1))])), (some (.box zm [(cJ (wt i 0)), (cJ (wt i 1))])), (some (.arr 5 112 (j + 1) (fun x25 => (fun x26 => (if (x25 < j) then (.int .i64 (q x25 x26)) else (List.getD [(.int .i64 (wt i 0)), (.int .i64 (wt i 1)), (.int .i64 (f i 0)), (.int .i64 (4 : Int)), (.int .i64 (i : Int))] (((x25 - j) * 5) + x26) .npt)))) [2]))]⟩)))))))
 (Q (.exit 2) ⟨(L4 (L2 (L5 (vT 3 0) (L3 (L3 (L3 (L1 (vN m))))))) (.nd (L2 (L3 (L3 (L3 (L1 (vS 2 m wt)))))) (vT 0 0) (L2 (L3 (L3 (L3 (L1 (vN i)))))))), [(bP e mo t l nc c ns s ta tm r nf f), (bX n it lo hi m wt ld), (some (.arr 5 112 j (S.val q) [])), (some (.box z2w [(cJ e), (cJ mo), (cJ t), (cJ l), (cS 2 nc c), (cS 2 ns s), (cJ ta), (cJ tm), (cJ r), (cS 2 nf f), (cS 3 n it), (cJ lo), (cJ hi), (cS 2 m wt), (.p (.bool ld)), (.sl 2 0 j)]))]⟩))) = (ex (cs4 hbs) (fu + 60) 0 z5a ⟨za [(.i .h, .c (.pt 0 0)), (.o (.i .h), .c (.pt 3 0)), (.o (.i (.i (.o (.o (.o .h))))), .c (cJ m)), (.i (.o (.i (.o (.o (.o .h))))), .c (cS 2 m wt)), (.i (.i (.i (.o (.o (.o .h))))), .c (cJ i))], lkH e mo t l nc c ns s ta tm r nf f n it lo hi m wt ld q j⟩ (fun e s => .pr (Q e (z2a [.i .h, .i (.o .h), .o (.i .h), .i (.i (.i (.o (.o (.o .h))))), .i (.o (.i (.o (.o (.o .h))))), .o (.i (.i (.o (.o (.o .h)))))] s)))).hold2 := by kernel_rfl
theorem zpp (e mo t l : Int) (nc : Nat) (c : S.Rows) (ns : Nat) (s : S.Rows) (ta tm r : Int) (nf : Nat) (f : S.Rows) (n : Nat) (it : S.Rows) (lo hi : Int) (m : Nat) (wt : S.Rows) (ld : Bool) (Q : AV → Heap → Prop) :
 ((fun (A1 : List CV) => ((fun (A2 : Option Blk) => ((fun (A3 : Option Blk) => ((fun (A0 : Heap) => ((fun (A4 : Option Blk) => ((CdP (.le 10 10)
 (CdP (.le 5 5)
 (CdP (.i64 ((n : Int) + (1 : Int)))
 (CdP (.i64 (((n : Int) + (1 : Int)) + (m : Int)))
 (CdP (.cut (0 : Int) (0 : Int) (((n : Int) + (1 : Int)) + (m : Int)))
 (CdP (.le ((Int.toNat (((n : Int) + (1 : Int)) + (m : Int))) * 40) 140737488355328)
 ((zd (ex (cs4 hbs) 994) 0 z59 ⟨(.nd (.nd (.nd (L4 (L1 (vJ ((n : Int) + (1 : Int)))) (L1 (vT 1 0))) (vT 1 0) (L6 (L1 (vJ (((n : Int) + (1 : Int)) + (m : Int)))) (.ag (kX n it lo hi m wt ld)))) (.ag (kX n it lo hi m wt ld)) (.nd (L4 (L1 (vS 2 m wt)) (L1 (vN n))) (vT 3 0) (L6 (L1 (.ag A1)) (vS 3 n it)))) (.ag (kP e mo t l nc c ns s ta tm r nf f)) (.nd (.nd (L4 (L1 (vT 1 3)) (L1 (vS 3 n it))) (.c (.p .npt)) (L6 (L1 (.c (.sl 2 0 0))) (vT 1 0))) (vT 0 0) (L4 (.nd (L1 (vN m)) (.ag (kP e mo t l nc c ns s ta tm r nf f)) (L1 (vJ 0))) (L6 (L1 (vT 3 0)) (vN n))))), [A2, A3, (some (.arr 5 112 0 (fun x21 => (fun x22 => (List.getD [(.int .i64 (0 : Int)), (.int .i64 (0 : Int)), (.int .i64 (0 : Int)), (.int .i64 (0 : Int)), (.int .i64 (0 : Int))] x22 .npt))) [])), (some (.box z2w A1))]⟩ (.e (.exit 0) ⟨(L4 (L4 (L1 (vT 1 0)) (L1 (vT 3 0))) (L1 (vT 0 0))), [A2, A3, A4, (some (.box z2w [(cJ e), (cJ mo), (cJ t), (cJ l), (cS 2 nc c), (cS 2 ns s), (cJ ta), (cJ tm), (cJ r), (cS 2 nf f), (cS 3 n it), (cJ lo), (cJ hi), (cS 2 m wt), (.p (.bool ld)), (.sl 2 0 n)]))]⟩)) ∧
 (CdP (.le 3 5)
 (CdP (.le n n)
 (CdP (.le n n)
 (CdP (.le ((n + 1) * 40) 140737488355328)
 (CdP (.le 16 16)
 ((zd (ex (cs4 hbs) 992) 0 z5a ⟨(L4 (L4 (.nd (L4 (L3 (L3 (L1 (.c (.p (.isl 5 1 (fun x21 => (fun x22 => (List.getD [(.int .i64 lo), (.int .i64 hi), (.int .i64 ta), (.int .i64 (3 : Int)), (.int .i64 (0 : Int))] ((x21 * 5) + x22) .npt))))))))) (L2 (L1 (vT 3 15)))) (vT 1 0) (L4 (L3 (L3 (L1 (vT 1 3)))) (L2 (L1 (vT 0 6))))) (.nd (L4 (L3 (L3 (L1 (vT 3 0)))) (L2 (L1 (vT 1 1)))) (vT 3 0) (L4 (L4 (L3 (L1 (vN m))) (L1 (vT 3 0))) (L2 (L1 (vJ ta)))))) (.nd (L4 (L4 (L3 (L3 (L1 (.c (.sl 4 0 (n + 1)))))) (L2 (L1 (.c (.sl 2 0 n))))) (L4 (L4 (L3 (L1 (vS 2 m wt))) (L1 (vT 3 0))) (L2 (L1 (vT 0 6))))) (vT 0 0) (L4 (L4 (L3 (L3 (L1 (vT 3 15)))) (L2 (L1 (.ag [(cJ lo), (cJ hi)])))) (L4 (L4 (L3 (L1 (vJ 0))) (L1 (vT 3 0))) (L2 (L1 (.ag [(cJ lo), (cJ hi), (cJ ta), (cJ 3), (cJ 0)]))))))), [A2, A3, A4, (some (.box z2w [(cJ e), (cJ mo), (cJ t), (cJ l), (cS 2 nc c), (cS 2 ns s), (cJ ta), (cJ tm), (cJ r), (cS 2 nf f), (cS 3 n it), (cJ lo), (cJ hi), (cS 2 m wt), (.p (.bool ld)), (.sl 4 0 (n + 1))])), (some (.arr 5 112 (n + 1) (fun x21 => (fun x22 => (if (x21 < n) then (.int .i64 (S.parts n it s lo hi ta wt f x21 x22)) else (List.getD [(.int .i64 lo), (.int .i64 hi), (.int .i64 ta), (.int .i64 (3 : Int)), (.int .i64 (0 : Int))] (((x21 - n) * 5) + x22) .npt)))) [2]))]⟩ (.e (.exit 2) ⟨(L3 (L2 (L1 (vT 3 0)))), A0⟩)) ∧
 (Q (vT 3 0) A0)))))))))))))))) (some (.arr 5 112 n (S.val (S.parts n it s lo hi ta wt f)) [])))) [A2, A3, (some (.arr 5 112 ((n + 1) + m) (S.val (S.parts n it s lo hi ta wt f)) [])), (some (.box z2w [(cJ e), (cJ mo), (cJ t), (cJ l), (cS 2 nc c), (cS 2 ns s), (cJ ta), (cJ tm), (cJ r), (cS 2 nf f), (cS 3 n it), (cJ lo), (cJ hi), (cS 2 m wt), (.p (.bool ld)), (.sl 2 0 ((n + 1) + m))]))])) (bX n it lo hi m wt ld))) (bP e mo t l nc c ns s ta tm r nf f))) [(cJ e), (cJ mo), (cJ t), (cJ l), (cS 2 nc c), (cS 2 ns s), (cJ ta), (cJ tm), (cJ r), (cS 2 nf f), (cS 3 n it), (cJ lo), (cJ hi), (cS 2 m wt), (.p (.bool ld)), (.sl 2 0 0)]) = (ex (cs4 hbs) 1000 0 zf2 ⟨ofL 0 [.ag (plC e mo t l nc (S.val c) ns (S.val s) ta tm r nf (S.val f)), .ag (ptC n (S.val it) lo hi m (S.val wt) ld)] .lf, []⟩ (endK z5q.rs (fun r H => .pr (Q r H)) fun _ _ => .no)).hold2 := by kernel_rfl
end
end Go.Ab.B
namespace Go.Ab.S
theorem blt_t {i n : Nat} (h : i < n) : Nat.blt i n = true := Nat.ble_eq_true_of_le h
theorem blt_f {i n : Nat} (h : n ≤ i) : Nat.blt i n = false := by
  cases hb : Nat.blt i n with
  | false => rfl
  | true => have : i + 1 ≤ n := Nat.le_of_ble_eq_true hb; omega
theorem parts_it {n : Nat} {it s : Rows} {lo hi ta : Int} {wt f : Rows} {i : Nat} (h : i < n) (j : Nat) : parts n it s lo hi ta wt f i j = z9e (it i 1) (it i 2) (s (it i 0).toNat 0) 2 (it i 0) j := by
  simp only [parts, blt_t h]
theorem parts_tk {n : Nat} {it s : Rows} {lo hi ta : Int} {wt f : Rows} (j : Nat) : parts n it s lo hi ta wt f n j = z9e lo hi ta 3 0 j := by
  simp only [parts, blt_f (Nat.le_refl n)]
theorem parts_wt {n : Nat} {it s : Rows} {lo hi ta : Int} {wt f : Rows} (i j : Nat) : parts n it s lo hi ta wt f (n + 1 + i) j = z9e (wt i 0) (wt i 1) (f i 0) 4 i j := by
  have h1 : Nat.blt (n + 1 + i) n = false := blt_f (by omega)
  have h2 : Nat.blt n (n + 1 + i) = true := blt_t (by omega)
  have h3 : n + 1 + i - n - 1 = i := by omega
  simp only [parts, h1, h2, h3]
theorem app5 {q : Rows} {a b c d e : Int} {i k j : Nat} (hj : j < 5) (hk : k < i + 1) (hq : ∀ j, q i j = z9e a b c d e j) :
    (if k < i then PV.int .i64 (q k j) else ([.int .i64 a, .int .i64 b, .int .i64 c, .int .i64 d, .int .i64 e] : List PV).getD ((k - i) * 5 + j) .npt) = S.val q k j := by
  split
  · rfl
  · obtain rfl : k = i := by omega
    rw [Nat.sub_self, Nat.zero_mul, Nat.zero_add]
    simp only [S.val, hq]
    match j, hj with
    | 0, _ => rfl
    | 1, _ => rfl
    | 2, _ => rfl
    | 3, _ => rfl
    | 4, _ => rfl
end Go.Ab.S
namespace Go.Ab.B
open Go.Proofs
section
variable {hbs : BsOk Tryz.prog} (hT4 : zq (cs4 hbs))
include hT4
abbrev znb (n : Nat) (it : S.Rows) (i : Nat) : List (Ps × AV) := [(.i .h, .c (.pt 0 0)), (.o (.i .h), .c (.pt 3 0)), (.o (.o .h), .c (.pt 1 0)), (.o (.i (.o (.i .h))), .c (.p (.int .i64 n))), (.i (.o (.o (.i .h))), .c (.p (.isl 3 n (S.val it)))), (.i (.i (.o (.i .h))), .c (.p (.int .i64 i)))]
abbrev znc (m : Nat) (wt : S.Rows) (i : Nat) : List (Ps × AV) := [(.i .h, .c (.pt 0 0)), (.o (.i .h), .c (.pt 3 0)), (.o (.i (.i (.o (.o (.o .h))))), .c (.p (.int .i64 m))), (.i (.o (.i (.o (.o (.o .h))))), .c (.p (.isl 2 m (S.val wt)))), (.i (.i (.i (.o (.o (.o .h))))), .c (.p (.int .i64 i)))]
abbrev znd (e mo t l : Int) (nc : Nat) (c : S.Rows) (ns : Nat) (s : S.Rows) (ta tm r : Int) (nf : Nat) (f : S.Rows) (n : Nat) (it : S.Rows) (lo hi : Int) (m : Nat) (wt : S.Rows) (ld : Bool) : zr := .e (.exit 0) ⟨za [(.i .h, .c (.pt 0 0)), (.o (.i .h), .c (.pt 3 0)), (.o (.o .h), .c (.pt 1 0))], lkH e mo t l nc c ns s ta tm r nf f n it lo hi m wt ld (S.parts n it s lo hi ta wt f) n⟩
abbrev zne (e mo t l : Int) (nc : Nat) (c : S.Rows) (ns : Nat) (s : S.Rows) (ta tm r : Int) (nf : Nat) (f : S.Rows) (n : Nat) (it : S.Rows) (lo hi : Int) (m : Nat) (wt : S.Rows) (ld : Bool) : zr := .e (.exit 2) ⟨za [(.o (.i .h), .c (.pt 3 0))], lkH e mo t l nc c ns s ta tm r nf f n it lo hi m wt ld (S.parts n it s lo hi ta wt f) (n + 1 + m)⟩
theorem znf (fu : Nat) (e mo t l : Int) (nc : Nat) (c : S.Rows) (ns : Nat) (s : S.Rows) (ta tm r : Int) (nf : Nat) (f : S.Rows) (n : Nat) (it : S.Rows) (lo hi : Int) (m : Nat) (wt : S.Rows) (ld : Bool) (hn : n ≤ 1000000) (hit : ∀ i, i < n → 0 ≤ it i 0 ∧ it i 0 < ns) : ∀ (i : Nat) (st : St), i ≤ n → (∃ ρ, HasR 0 ρ st (znb n it i) (lkH e mo t l nc c ns s ta tm r nf f n it lo hi m wt ld (S.parts n it s lo hi ta wt f) i)) →
    zd (ex (cs4 hbs) (fu + 60)) 0 z59 st (znd e mo t l nc c ns s ta tm r nf f n it lo hi m wt ld) :=
  z21 (σ := Nat) (fun i => znb n it i) (fun i => lkH e mo t l nc c ns s ta tm r nf f n it lo hi m wt ld (S.parts n it s lo hi ta wt f) i) (fun i => i ≤ n) (fun i => n - i)
    (fun _ => znd e mo t l nc c ns s ta tm r nf f n it lo hi m wt ld) _ (fun i Q => zng (hbs := hbs) fu i e mo t l nc c ns s ta tm r nf f n it lo hi m wt ld (S.parts n it s lo hi ta wt f) Q) fun i hi' K hL X hX => by
      refine brP (fun h1 => ?_) fun h1 => ?_
      · have hlt : i < n := by simpa using h1
        obtain ⟨q1, q2⟩ := hit i hlt
        refine cdP (zi hlt) (cdP ⟨q1, q2⟩ (cdP (Nat.le_refl _) (cdP (Nat.le_refl _) (cdP (by simp [Cd.holds]; omega) (cdP (by simp [Cd.holds]; omega) ?_)))))
        refine hX (i + 1) _ (by omega) (by omega) ⟨[some 0, some 1, some 5, some 3], HasR.mk _ rfl rfl ?_ ?_⟩ hL
        · simp [WH, WB, WL, WC, WP', upsB, memB, ptC, plC, lkH]
          exact fun k j hk hj => S.app5 hj hk (S.parts_it hlt)
        · simp [zg, WA, WC, WP', Tr.get]
      · have hlt : n ≤ i := by simpa using h1
        obtain rfl : i = n := by omega
        refine HasR.out (l := [(.i .h, .c (.pt 0 0)), (.o (.i .h), .c (.pt 3 0)), (.o (.o .h), .c (.pt 1 0))]) (HasR.mk (ρ := [some 0, some 1, some 2, some 3]) rfl rfl ?_ ?_) hL
        · simp [WH, WB, WL, WC, WP', upsB, memB, ptC, plC, lkH]
        · simp [zg, WA, WC, WP', Tr.get]
theorem znh (fu : Nat) (e mo t l : Int) (nc : Nat) (c : S.Rows) (ns : Nat) (s : S.Rows) (ta tm r : Int) (nf : Nat) (f : S.Rows) (n : Nat) (it : S.Rows) (lo hi : Int) (m : Nat) (wt : S.Rows) (ld : Bool) (hn : n ≤ 1000000) (hm : m ≤ 1000000) (hmf : m ≤ nf) : ∀ (i : Nat) (st : St), i ≤ m → (∃ ρ, HasR 0 ρ st (znc m wt i) (lkH e mo t l nc c ns s ta tm r nf f n it lo hi m wt ld (S.parts n it s lo hi ta wt f) (n + 1 + i))) →
    zd (ex (cs4 hbs) (fu + 60)) 0 z5a st (zne e mo t l nc c ns s ta tm r nf f n it lo hi m wt ld) :=
  z21 (σ := Nat) (fun i => znc m wt i) (fun i => lkH e mo t l nc c ns s ta tm r nf f n it lo hi m wt ld (S.parts n it s lo hi ta wt f) (n + 1 + i)) (fun i => i ≤ m) (fun i => m - i)
    (fun _ => zne e mo t l nc c ns s ta tm r nf f n it lo hi m wt ld) _ (fun i Q => zni (hbs := hbs) fu i (n + 1 + i) e mo t l nc c ns s ta tm r nf f n it lo hi m wt ld (S.parts n it s lo hi ta wt f) Q) fun i hi' K hL X hX => by
      refine brP (fun h1 => ?_) fun h1 => ?_
      · have hlt : i < m := by simpa using h1
        refine cdP (zi hlt) (cdP (zi (by omega)) (cdP (Nat.le_refl _) (cdP (Nat.le_refl _) (cdP (by simp [Cd.holds]; omega) (cdP (by simp [Cd.holds]; omega) ?_)))))
        refine hX (i + 1) _ (by omega) (by omega) ⟨[some 0, some 1, some 5, some 3], HasR.mk _ rfl rfl ?_ ?_⟩ hL
        · simp [WH, WB, WL, WC, WP', upsB, memB, ptC, plC, lkH]
          refine ⟨⟨by omega, fun k j hk hj => S.app5 hj (by omega) (S.parts_wt i)⟩, by omega⟩
        · simp [zg, WA, WC, WP', Tr.get]
      · have hlt : m ≤ i := by simpa using h1
        obtain rfl : i = m := by omega
        refine HasR.out (l := [(.o (.i .h), .c (.pt 3 0))]) (HasR.mk (ρ := [some 0, some 1, some 2, some 3]) rfl rfl ?_ ?_) hL
        · simp [WH, WB, WL, WC, WP', upsB, memB, ptC, plC, lkH]
        · simp [zg, WA, WC, WP', Tr.get]
theorem zd8 (e mo t l : Int) (nc : Nat) (c : S.Rows) (ns : Nat) (s : S.Rows) (ta tm r : Int) (nf : Nat) (f : S.Rows) (n : Nat) (it : S.Rows) (lo hi : Int) (m : Nat) (wt : S.Rows) (ld : Bool) (hn : n ≤ 1000000) (hm : m ≤ 1000000) (hmf : m ≤ nf) (hit : ∀ i, i < n → 0 ≤ it i 0 ∧ it i 0 < ns) :
    z8 (cs4 hbs) z7p [.ag (plC e mo t l nc (S.val c) ns (S.val s) ta tm r nf (S.val f)), .ag (ptC n (S.val it) lo hi m (S.val wt) ld)] (lkA e mo t l nc c ns s ta tm r nf f n it lo hi m wt ld (n + 1 + m) (S.parts n it s lo hi ta wt f)) [] := by
  refine zo hT4 (F := z5q) rfl (zpp e mo t l nc c ns s ta tm r nf f n it lo hi m wt ld _) (cdP (Nat.le_refl _) (cdP (Nat.le_refl _) (cdP ?_ (cdP ?_ (cdP ?_ (cdP ?_ ⟨?_, cdP (by simp [Cd.holds]) (cdP (Nat.le_refl _) (cdP (Nat.le_refl _) (cdP ?_ (cdP (by simp [Cd.holds]) ⟨?_, ?_⟩))))⟩))))))
  · simp [Cd.holds]; omega
  · simp [Cd.holds]; omega
  · simp [Cd.holds]; omega
  · simp [Cd.holds]; omega
  · refine znf hT4 934 e mo t l nc c ns s ta tm r nf f n it lo hi m wt ld hn hit 0 _ (Nat.zero_le _) ⟨[some 0, some 1, some 2, some 3], HasR.mk _ rfl rfl ?_ ?_⟩
    · simp [WH, WB, WL, WC, WP', upsB, memB, ptC, plC, lkH]
    · simp [zg, WA, WC, WP', Tr.get]
  · simp [Cd.holds]; omega
  · refine znh hT4 932 e mo t l nc c ns s ta tm r nf f n it lo hi m wt ld hn hm hmf 0 _ (Nat.zero_le _) ⟨[some 0, some 1, some 4, some 3], HasR.mk _ rfl rfl ?_ ?_⟩
    · simp [WH, WB, WL, WC, WP', upsB, memB, ptC, plC, lkH]
      exact fun k j hk hj => S.app5 hj hk S.parts_tk
    · simp [zg, WA, WC, WP', Tr.get]
  · simp [frzA, frzC, zim, frzP, lkH, lkA]
    funext j
    simp [S.lk]
end
section
variable {hbs : BsOk Tryz.prog}
theorem zgq (fu i : Nat) (e mo t l : Int) (nc : Nat) (c : S.Rows) (ns : Nat) (s : S.Rows) (ta tm r : Int) (nf : Nat) (f : S.Rows) (n : Nat) (it : S.Rows) (lo hi : Int) (m : Nat) (wt : S.Rows) (ld : Bool) (k : Nat) (p : S.Rows) (g : Int → Int) (Q : AX → St → Prop) :
 ((fun (A0 : AV) => ((BrP (decide ((i : Int) < (n : Int)))
 (CdP (.rng (i : Int) n)
 (CdP (.i64 ((g (it i 0)) + (it i 2)))
 (CdP (.i64 ((i : Int) + (1 : Int)))
 (Q .normal ⟨(.nd (L3 (L6 (L3 (L1 (vN n))) (.c (.ref 0)))) A0 (L4 (L3 (L3 (L1 (vJ ((i : Int) + (1 : Int)))))) (L2 (L1 (vS 3 n it))))), [(some (.mpi (Go.Ab.updI g (it i 0) ((g (it i 0)) + (it i 2))))), (some (.box z8z [(cJ (it i 0)), (cJ (it i 1)), (cJ (it i 2))]))]⟩))))
 (Q (.exit 0) ⟨(.nd (L3 (L6 (L3 (L1 (vN n))) (.c (.ref 0)))) A0 (L4 (L3 (L3 (L1 (vN i)))) (L2 (L1 (vS 3 n it))))), [(some (.mpi g))]⟩)))) (.c (.p (.ipt 16 (S.lk e mo t l nc c ns s ta tm r nf f n it lo hi m wt ld k p))))) = (ex (cs4 hbs) (fu + 60) 0 z40 ⟨za [(.h, lkA e mo t l nc c ns s ta tm r nf f n it lo hi m wt ld k p), (.o (.o .h), .c (.ref 0)), (.o (.o (.o (.o .h))), .c (cJ n)), (.i (.o (.o (.o .h))), .c (cJ i)), (.i (.i (.i .h)), .c (cS 3 n it))], [some (.mpi g)]⟩ (fun e s => .pr (Q e (z2a [.h, .i .h, .o (.o .h), .i (.i (.i .h)), .i (.o (.o (.o .h))), .o (.o (.o (.o .h)))] s)))).hold2 := by kernel_rfl
theorem zgr (fu i ns : Nat) (s : S.Rows) (g : Int → Int) (Q : AX → St → Prop) :
 ((BrP (decide ((i : Int) < (ns : Int)))
 (CdP (.rng (i : Int) ns)
 (CdP (.i64 ((s i 1) - (g (i : Int))))
 (CdP (.le i i)
 (CdP (.le i i)
 (CdP (.le ((i + 1) * 8) 140737488355328)
 (CdP (.i64 ((i : Int) + (1 : Int)))
 (Q .normal ⟨(L4 (L4 (L5 (.c (.ref 0)) (L3 (L3 (L1 (vJ ((i : Int) + (1 : Int))))))) (L3 (L3 (L3 (L1 (vS 2 ns s)))))) (L2 (L6 (L3 (L3 (L1 (vN ns)))) (.c (.sl 3 0 (i + 1)))))), [(some (.mpi g)), (some (.arr 1 3 i (S.val (S.subR s g)) [])), (some (.box z4p [(cJ (s i 0)), (cJ (s i 1))])), (some (.arr 1 3 (i + 1) (fun x6 => (fun x7 => (if (x6 < i) then (.int .i64 (S.subR s g x6 x7)) else (List.getD [(.int .i64 ((s i 1) - (g (i : Int))))] (((x6 - i) * 1) + x7) .npt)))) [1]))]⟩)))))))
 (Q (.exit 2) ⟨(L4 (L4 (L5 (.c (.ref 0)) (L3 (L3 (L1 (vN i))))) (L3 (L3 (L3 (L1 (vS 2 ns s)))))) (L2 (L6 (L3 (L3 (L1 (vN ns)))) (.c (.sl 1 0 i))))), [(some (.mpi g)), (some (.arr 1 3 i (S.val (S.subR s g)) []))]⟩))) = (ex (cs4 hbs) (fu + 60) 0 z41 ⟨za [(.o (.o .h), .c (.ref 0)), (.o (.o (.i (.o (.o .h)))), .c (cJ i)), (.o (.i (.o (.o (.o .h)))), .c (cS 2 ns s)), (.i (.i .h), .c (.sl 1 0 i)), (.i (.i (.o (.o (.o .h)))), .c (cJ ns))], [some (.mpi g), some (.arr 1 zk i (S.val (S.subR s g)) [])]⟩ (fun e s => .pr (Q e (z2a [.i .h, .i (.i .h), .o (.o .h), .i (.i (.o (.o (.o .h)))), .o (.i (.o (.o (.o .h)))), .o (.o (.i (.o (.o .h))))] s)))).hold2 := by kernel_rfl
theorem zjf (e mo t l : Int) (nc : Nat) (c : S.Rows) (ns : Nat) (s : S.Rows) (ta tm r : Int) (nf : Nat) (f : S.Rows) (n : Nat) (it : S.Rows) (lo hi : Int) (m : Nat) (wt : S.Rows) (ld : Bool) (k : Nat) (p : S.Rows) (Q : AV → Heap → Prop) :
 ((fun (A0 : AV) => ((fun (A1 : Heap) => (((zd (ex (cs4 hbs) 994) 0 z40 ⟨(.nd (L4 (.nd (L3 (L1 (vN n))) (.c (.ref 0)) (L1 A0)) (L4 (L1 (.c (.ref 0))) (L1 (.c (.p (.ipt 6 (fun x23 => (S.lk e mo t l nc c ns s ta tm r nf f n it lo hi m wt ld k p (10 + (0 + x23)))))))))) A0 (.nd (L4 (L3 (L1 (vJ 0))) (L1 (.c (.p (.ipt 6 (fun x23 => (S.lk e mo t l nc c ns s ta tm r nf f n it lo hi m wt ld k p (10 + x23)))))))) (.c (.p .nsl)) (L4 (L1 A0) (L1 (vS 3 n it))))), [(some (.mp []))]⟩ (.e (.exit 0) ⟨(L6 (L3 (L1 (.c (.ref 0)))) A0), [(some (.mpi (S.stS n it)))]⟩)) ∧
 ((zd (ex (cs4 hbs) 992) 0 z41 ⟨(.nd (L4 (.nd (L3 (L3 (L1 (.c (.p (.ipt 16 (fun x23 => (S.lk e mo t l nc c ns s ta tm r nf f n it lo hi m wt ld k p (0 + x23))))))))) (.c (.ref 0)) (L3 (L3 (L1 (vJ 0))))) (L4 (L3 (L3 (L1 (vS 2 ns s)))) (L2 (L1 A0)))) A0 (L4 (L3 (L3 (L3 (L1 (.c (.p (.ipt 11 (fun x23 => (S.lk e mo t l nc c ns s ta tm r nf f n it lo hi m wt ld k p (0 + (5 + x23))))))))))) (.nd (L3 (L3 (L1 (vN ns)))) (.c (.p .nsl)) (L2 (L1 A0))))), [(some (.mpi (S.stS n it)))]⟩ (.e (.exit 2) ⟨(L2 (L2 (L1 (.c (.sl 1 0 ns))))), A1⟩)) ∧
 (Q (.c (.sl 1 0 ns)) A1))))) [(some (.mpi (S.stS n it))), (some (.arr 1 3 ns (S.val (S.subR s (S.stS n it))) []))])) (.c (.p (.ipt 16 (S.lk e mo t l nc c ns s ta tm r nf f n it lo hi m wt ld k p))))) = (ex (cs4 hbs) 1000 0 zb3 ⟨ofL 0 [lkA e mo t l nc c ns s ta tm r nf f n it lo hi m wt ld k p] .lf, []⟩ (endK z3s.rs (fun r H => .pr (Q r H)) fun _ _ => .no)).hold2 := by kernel_rfl
theorem zjg (e mo t l : Int) (nc : Nat) (c : S.Rows) (ns : Nat) (s : S.Rows) (ta tm r : Int) (nf : Nat) (f : S.Rows) (n : Nat) (it : S.Rows) (lo hi : Int) (m : Nat) (wt : S.Rows) (ld : Bool) (k : Nat) (p : S.Rows) (Q : AV → Heap → Prop) :
 ((CdP (.i64 (tm - hi))
 (Q (.c (.p (.isl 1 1 (fun x23 => (fun x24 => (List.getD [(.int .i64 (tm - hi))] ((x23 * 1) + x24) .npt)))))) []))) = (ex (cs4 hbs) 1000 0 zb4 ⟨ofL 0 [lkA e mo t l nc c ns s ta tm r nf f n it lo hi m wt ld k p] .lf, []⟩ (endK z3t.rs (fun r H => .pr (Q r H)) fun _ _ => .no)).hold2 := by kernel_rfl
theorem zle (fu i : Nat) (e mo t l : Int) (nc : Nat) (c : S.Rows) (ns : Nat) (s : S.Rows) (ta tm r : Int) (nf : Nat) (f : S.Rows) (n : Nat) (it : S.Rows) (lo hi : Int) (m : Nat) (wt : S.Rows) (ld : Bool) (k : Nat) (p : S.Rows) (Q : AX → St → Prop) :
 ((fun (A0 : AV) => ((fun (A1 : Option Blk) => ((BrP (decide ((i : Int) < (nf : Int)))
 (CdP (.rng (i : Int) nf)
 (CdP (.rng (i : Int) m)
 (CdP (.i64 ((f i 1) - (wt i 1)))
 (CdP (.le i i)
 (CdP (.le i i)
 (CdP (.le ((i + 1) * 8) 140737488355328)
 (CdP (.i64 ((i : Int) + (1 : Int)))
 (Q .normal ⟨(.nd (L3 (L5 (.c (.sl 2 0 (i + 1))) (L1 (vN nf)))) A0 (L4 (L2 (L1 (vJ ((i : Int) + (1 : Int))))) (L3 (L1 (vS 2 nf f))))), [A1, (some (.box z4p [(cJ (f i 0)), (cJ (f i 1))])), (some (.arr 1 3 (i + 1) (fun x25 => (fun x26 => (if (x25 < i) then (.int .i64 (S.wetR f wt x25 x26)) else (List.getD [(.int .i64 ((f i 1) - (wt i 1)))] (((x25 - i) * 1) + x26) .npt)))) [0]))]⟩))))))))
 (Q (.exit 0) ⟨(.nd (L3 (L5 (.c (.sl 0 0 i)) (L1 (vN nf)))) A0 (L4 (L2 (L1 (vN i))) (L3 (L1 (vS 2 nf f))))), [A1]⟩)))) (some (.arr 1 3 i (S.val (S.wetR f wt)) [])))) (.c (.p (.ipt 16 (S.lk e mo t l nc c ns s ta tm r nf f n it lo hi m wt ld k p))))) = (ex (cs4 hbs) (fu + 60) 0 z4a ⟨za [(.h, lkA e mo t l nc c ns s ta tm r nf f n it lo hi m wt ld k p), (.o (.o .h), .c (.sl 0 0 i)), (.o (.o (.i .h)), .c (cJ nf)), (.i (.o (.i .h)), .c (cJ i)), (.i (.i (.o .h)), .c (cS 2 nf f))], [some (.arr 1 zk i (S.val (S.wetR f wt)) [])]⟩ (fun e s => .pr (Q e (z2a [.h, .i .h, .o (.o .h), .i (.i (.o .h)), .i (.o (.i .h)), .o (.o (.i .h))] s)))).hold2 := by kernel_rfl
theorem zlf (e mo t l : Int) (nc : Nat) (c : S.Rows) (ns : Nat) (s : S.Rows) (ta tm r : Int) (nf : Nat) (f : S.Rows) (n : Nat) (it : S.Rows) (lo hi : Int) (m : Nat) (wt : S.Rows) (ld : Bool) (k : Nat) (p : S.Rows) (Q : AV → Heap → Prop) :
 ((fun (A0 : AV) => ((fun (A1 : Heap) => (((zd (ex (cs4 hbs) 994) 0 z4a ⟨(.nd (L4 (.nd (L1 A0) (.c (.p .nsl)) (L1 (vN nf))) (L3 (L1 (.c (.p (.ipt 7 (fun x23 => (S.lk e mo t l nc c ns s ta tm r nf f n it lo hi m wt ld k p (0 + (9 + x23)))))))))) A0 (.nd (L4 (L1 (.c (.p (.ipt 16 (fun x23 => (S.lk e mo t l nc c ns s ta tm r nf f n it lo hi m wt ld k p (0 + x23))))))) (L1 (vJ 0))) (.c (.p .nsl)) (L6 (L1 (vS 2 nf f)) A0))), []⟩ (.e (.exit 0) ⟨(L3 (L3 (L1 (.c (.sl 0 0 nf))))), A1⟩)) ∧
 (Q (.c (.sl 0 0 nf)) A1)))) [(some (.arr 1 3 nf (S.val (S.wetR f wt)) []))])) (.c (.p (.ipt 16 (S.lk e mo t l nc c ns s ta tm r nf f n it lo hi m wt ld k p))))) = (ex (cs4 hbs) 1000 0 zc6 ⟨ofL 0 [lkA e mo t l nc c ns s ta tm r nf f n it lo hi m wt ld k p] .lf, []⟩ (endK z4b.rs (fun r H => .pr (Q r H)) fun _ _ => .no)).hold2 := by kernel_rfl
theorem zgs (e mo t l : Int) (nc : Nat) (c : S.Rows) (ns : Nat) (s : S.Rows) (ta tm r : Int) (nf : Nat) (f : S.Rows) (n : Nat) (it : S.Rows) (lo hi : Int) (m : Nat) (wt : S.Rows) (ld : Bool) (k : Nat) (p : S.Rows) (Q : AV → Heap → Prop) :
 ((fun (A0 : AV) => ((fun (A1 : AV) => ((BrP ld
 ((z8 (cs4 hbs) z2z [A0] A1 []) ∧
 (CdP (.i64 (l - (e + (S.sumR (S.pH p) k 0))))
 (Q (.c (.p (.isl 1 1 (fun x23 => (fun x24 => (List.getD [(.int .i64 (l - (e + (S.sumR (S.pH p) k 0))))] ((x23 * 1) + x24) .npt)))))) [])))
 ((z8 (cs4 hbs) z2z [A0] A1 []) ∧
 (CdP (.i64 (t - (e + (S.sumR (S.pH p) k 0))))
 (Q (.c (.p (.isl 1 1 (fun x23 => (fun x24 => (List.getD [(.int .i64 (t - (e + (S.sumR (S.pH p) k 0))))] ((x23 * 1) + x24) .npt)))))) [])))))) (.ag [(cJ (e + (S.sumR (S.pL p) k 0))), (cJ (e + (S.sumR (S.pH p) k 0)))]))) (.c (.p (.ipt 16 (S.lk e mo t l nc c ns s ta tm r nf f n it lo hi m wt ld k p))))) = (ex (cs4 hbs) 1000 0 zai ⟨ofL 0 [lkA e mo t l nc c ns s ta tm r nf f n it lo hi m wt ld k p] .lf, []⟩ (endK z3g.rs (fun r H => .pr (Q r H)) fun _ _ => .no)).hold2 := by kernel_rfl
theorem z9w (e mo t l : Int) (nc : Nat) (c : S.Rows) (ns : Nat) (s : S.Rows) (ta tm r : Int) (nf : Nat) (f : S.Rows) (n : Nat) (it : S.Rows) (lo hi : Int) (m : Nat) (wt : S.Rows) (ld : Bool) (k : Nat) (p : S.Rows) (Q : AV → Heap → Prop) :
 ((BrP ld
 (CdP (.i64 (lo - r))
 (Q (.c (.p (.isl 1 1 (fun x23 => (fun x24 => (List.getD [(.int .i64 (lo - r))] ((x23 * 1) + x24) .npt)))))) []))
 (Q (.c (.p .nsl)) []))) = (ex (cs4 hbs) 1000 0 zaj ⟨ofL 0 [lkA e mo t l nc c ns s ta tm r nf f n it lo hi m wt ld k p] .lf, []⟩ (endK z2p.rs (fun r H => .pr (Q r H)) fun _ _ => .no)).hold2 := by kernel_rfl
end
end Go.Ab.B
namespace Go.Ab.S
theorem zib (f : Nat → Int) : ∀ (k i : Nat), sumR f (k + 1) i = sumR f k i + f (i + k)
  | 0, i => by simp [sumR]
  | k + 1, i => by
    have := zib f k (i + 1)
    simp only [sumR] at this ⊢
    rw [this, show i + 1 + k = i + (k + 1) by omega]
    omega
theorem stS_step (it : Rows) (i : Nat) (x : Int) : Go.Ab.updI (stS i it) (it i 0) (stS i it (it i 0) + it i 2) x = stS (i + 1) it x := by
  simp only [Go.Ab.updI, stS, zib, Nat.zero_add, atR, ends]
  cases h : x == it i 0 with
  | true =>
    have h1 : x = it i 0 := by simpa using h
    subst h1
    simp [endOf]
  | false =>
    have h1 : (it i 0 == x) = false := by
      cases h2 : it i 0 == x with
      | false => rfl
      | true => simp at h2; simp [h2] at h
    simp [h1]
theorem atR_in {it : Rows} {st : Int} {i : Nat} {B : Int} (hB : 0 ≤ B) (h : -B ≤ it i 2 ∧ it i 2 ≤ B) : -B ≤ atR it (ends it 1 true) st i ∧ atR it (ends it 1 true) st i ≤ B := by
  unfold atR
  split
  · exact h
  · omega
end Go.Ab.S
namespace Go.Ab.B
open Go.Proofs
theorem z8.mono_r {C : Cfg} {f : FuncId} {args : List AV} {r r' : AV} {Hr : Heap} (h : z8 C f args r Hr) (hr : ∀ (w : World) (Z : Nat → Prop) (φ : Nat → Value) (u : Value), RepA w Z Hr φ r u → RepA w Z Hr φ r' u) : z8 C f args r' Hr :=
  fun w Z vs hz hg hv => (h w Z vs hz hg hv).mono fun e w' ⟨u, Z', φ', h1, h2, h3, h4, h5, h6⟩ => ⟨u, Z', φ', h1, h2, h3, h4, h5, hr _ _ _ _ h6⟩
section
variable {hbs : BsOk Tryz.prog} (hT4 : zq (cs4 hbs))
include hT4
abbrev zux (e mo t l : Int) (nc : Nat) (c : S.Rows) (ns : Nat) (s : S.Rows) (ta tm r : Int) (nf : Nat) (f : S.Rows) (n : Nat) (it : S.Rows) (lo hi : Int) (m : Nat) (wt : S.Rows) (ld : Bool) (k : Nat) (p : S.Rows) (i : Nat) : List (Ps × AV) := [(.h, lkA e mo t l nc c ns s ta tm r nf f n it lo hi m wt ld k p), (.o (.o .h), .c (.ref 0)), (.o (.o (.o (.o .h))), .c (.p (.int .i64 n))), (.i (.o (.o (.o .h))), .c (.p (.int .i64 i))), (.i (.i (.i .h)), .c (.p (.isl 3 n (S.val it))))]
abbrev zuy (ns : Nat) (s : S.Rows) (i : Nat) : List (Ps × AV) := [(.o (.o .h), .c (.ref 0)), (.o (.o (.i (.o (.o .h)))), .c (.p (.int .i64 i))), (.o (.i (.o (.o (.o .h)))), .c (.p (.isl 2 ns (S.val s)))), (.i (.i .h), .c (.sl 1 0 i)), (.i (.i (.o (.o (.o .h)))), .c (.p (.int .i64 ns)))]
theorem zic (fu : Nat) (e mo t l : Int) (nc : Nat) (c : S.Rows) (ns : Nat) (s : S.Rows) (ta tm r : Int) (nf : Nat) (f : S.Rows) (n : Nat) (it : S.Rows) (lo hi : Int) (m : Nat) (wt : S.Rows) (ld : Bool) (k : Nat) (p : S.Rows) (hn : n ≤ 1000) (hit : ∀ i, i < n → -20000 ≤ it i 2 ∧ it i 2 ≤ 20000) : ∀ (i : Nat) (st : St), i ≤ n → (∃ ρ, HasR 0 ρ st (zux e mo t l nc c ns s ta tm r nf f n it lo hi m wt ld k p i) [some (.mpi (S.stS i it))]) →
    zd (ex (cs4 hbs) (fu + 60)) 0 z40 st (.e (.exit 0) ⟨za [(.h, lkA e mo t l nc c ns s ta tm r nf f n it lo hi m wt ld k p), (.o (.o .h), .c (.ref 0))], [some (.mpi (S.stS n it))]⟩) :=
  z21 (σ := Nat) (fun i => zux e mo t l nc c ns s ta tm r nf f n it lo hi m wt ld k p i) (fun i => [some (.mpi (S.stS i it))]) (fun i => i ≤ n) (fun i => n - i)
    (fun _ => .e (.exit 0) ⟨za [(.h, lkA e mo t l nc c ns s ta tm r nf f n it lo hi m wt ld k p), (.o (.o .h), .c (.ref 0))], [some (.mpi (S.stS n it))]⟩) _ (fun i Q => zgq (hbs := hbs) fu i e mo t l nc c ns s ta tm r nf f n it lo hi m wt ld k p (S.stS i it) Q) fun i hi' K hL X hX => by
      refine brP (fun h1 => ?_) fun h1 => ?_
      · have hlt : i < n := by simpa using h1
        have q := S.sumR_in (f := S.atR it (S.ends it 1 true) (it i 0)) (B := 20000) (k := i) (i := 0) fun j _ h => S.atR_in (by omega) (hit j (by omega))
        have q1 := hit i hlt
        refine cdP (zi hlt) (cdP ?_ (cdP (by simp [Cd.holds]; omega) ?_))
        · simp only [S.stS]
          simp [Cd.holds]; omega
        refine hX (i + 1) _ (by omega) (by omega) ⟨[some 0], HasR.mk _ rfl rfl ?_ ?_⟩ hL
        · simp [WH, WB]
          exact S.stS_step it i
        · simp [zg, WA, WC, WP', Tr.get, lkA]
      · have hlt : n ≤ i := by simpa using h1
        obtain rfl : n = i := by omega
        refine HasR.out (l := [(.h, lkA e mo t l nc c ns s ta tm r nf f n it lo hi m wt ld k p), (.o (.o .h), .c (.ref 0))]) (HasR.mk (ρ := [some 0]) rfl rfl ?_ ?_) hL
        · simp [WH, WB]
        · simp [zg, WA, WC, WP', Tr.get, lkA]
theorem zid (fu ns : Nat) (s : S.Rows) (g : Int → Int) (hn : ns ≤ 1000) (hs : ∀ i, i < ns → (-20000 ≤ s i 1 ∧ s i 1 ≤ 20000)) (hg : ∀ x, -100000000 ≤ g x ∧ g x ≤ 100000000) : ∀ (i : Nat) (st : St), i ≤ ns → (∃ ρ, HasR 0 ρ st (zuy ns s i) [some (.mpi g), some (.arr 1 zk i (S.val (S.subR s g)) [])]) →
    zd (ex (cs4 hbs) (fu + 60)) 0 z41 st (.e (.exit 2) ⟨za [(.i (.i .h), .c (.sl 1 0 ns))], [some (.mpi g), some (.arr 1 zk ns (S.val (S.subR s g)) [])]⟩) :=
  z21 (σ := Nat) (fun i => zuy ns s i) (fun i => [some (.mpi g), some (.arr 1 zk i (S.val (S.subR s g)) [])]) (fun i => i ≤ ns) (fun i => ns - i)
    (fun _ => .e (.exit 2) ⟨za [(.i (.i .h), .c (.sl 1 0 ns))], [some (.mpi g), some (.arr 1 zk ns (S.val (S.subR s g)) [])]⟩) _ (fun i Q => zgr (hbs := hbs) fu i ns s g Q) fun i hi' K hL X hX => by
      refine brP (fun h1 => ?_) fun h1 => ?_
      · have hlt : i < ns := by simpa using h1
        have q1 := hs i hlt
        have q2 := hg i
        refine cdP (zi hlt) (cdP (by simp [Cd.holds]; omega) (cdP (Nat.le_refl _) (cdP (Nat.le_refl _) (cdP (by simp [Cd.holds]; omega) (cdP (by simp [Cd.holds]; omega) ?_)))))
        refine hX (i + 1) _ (by omega) (by omega) ⟨[some 0, some 3], HasR.mk _ rfl rfl ?_ ?_⟩ hL
        · simp [WH, WB, upsB, memB]
          exact fun k hk => z2v hk rfl
        · simp [zg, WA, WC, WP', Tr.get]
      · have hlt : ns ≤ i := by simpa using h1
        obtain rfl : i = ns := by omega
        refine HasR.out (l := [(.i (.i .h), .c (.sl 1 0 i))]) (HasR.mk (ρ := [some 0, some 1]) rfl rfl ?_ ?_) hL
        · simp [WH, WB, upsB, memB]
        · simp [zg, WA, WC, WP', Tr.get]
theorem zjp (e mo t l : Int) (nc : Nat) (c : S.Rows) (ns : Nat) (s : S.Rows) (ta tm r : Int) (nf : Nat) (f : S.Rows) (n : Nat) (it : S.Rows) (lo hi : Int) (m : Nat) (wt : S.Rows) (ld : Bool) (k : Nat) (p : S.Rows) (hn : n ≤ 1000) (hns : ns ≤ 1000) (hit : ∀ i, i < n → -20000 ≤ it i 2 ∧ it i 2 ≤ 20000) (hs : ∀ i, i < ns → (-20000 ≤ s i 1 ∧ s i 1 ≤ 20000)) :
    z8 (cs4 hbs) z1u [lkA e mo t l nc c ns s ta tm r nf f n it lo hi m wt ld k p] (.c (.p (.isl 1 ns (S.val (S.subR s (S.stS n it)))))) [] :=
  zo hT4 (F := z3s) rfl (zjf e mo t l nc c ns s ta tm r nf f n it lo hi m wt ld k p _)
    ⟨zic hT4 934 e mo t l nc c ns s ta tm r nf f n it lo hi m wt ld k p hn hit 0 _ (Nat.zero_le _) ⟨[some 0], HasR.mk _ rfl rfl (by simp [WH, WB, S.stS, S.sumR]) (by simp [zg, WA, WC, WP', Tr.get, lkA])⟩,
     zid hT4 932 ns s (S.stS n it) hns hs (fun x => by
       have q := S.sumR_in (f := S.atR it (S.ends it 1 true) x) (B := 20000) (k := n) (i := 0) fun j _ h => S.atR_in (by omega) (hit j (by omega))
       simp only [S.stS]; omega) 0 _ (Nat.zero_le _) ⟨[some 0, none], HasR.mk _ rfl rfl (by simp [WH, WB]) (by simp [zg, WA, WC, WP', Tr.get])⟩,
     by simp [frzA, frzC]⟩
theorem zjq (e mo t l : Int) (nc : Nat) (c : S.Rows) (ns : Nat) (s : S.Rows) (ta tm r : Int) (nf : Nat) (f : S.Rows) (n : Nat) (it : S.Rows) (lo hi : Int) (m : Nat) (wt : S.Rows) (ld : Bool) (k : Nat) (p : S.Rows) (h : -1000000 ≤ tm ∧ tm ≤ 1000000) (h2 : -1000000 ≤ hi ∧ hi ≤ 1000000) : z8 (cs4 hbs) z1v [lkA e mo t l nc c ns s ta tm r nf f n it lo hi m wt ld k p] (.c (.p (.isl 1 1 (S.oneV (tm - hi))))) [] :=
  zo hT4 (F := z3t) rfl (zjg e mo t l nc c ns s ta tm r nf f n it lo hi m wt ld k p _) (cdP (by simp [Cd.holds]; omega) rfl)
abbrev zz6 (e mo t l : Int) (nc : Nat) (c : S.Rows) (ns : Nat) (s : S.Rows) (ta tm r : Int) (nf : Nat) (f : S.Rows) (n : Nat) (it : S.Rows) (lo hi : Int) (m : Nat) (wt : S.Rows) (ld : Bool) (k : Nat) (p : S.Rows) (i : Nat) : List (Ps × AV) := [(.h, lkA e mo t l nc c ns s ta tm r nf f n it lo hi m wt ld k p), (.o (.o .h), .c (.sl 0 0 i)), (.o (.o (.i .h)), .c (.p (.int .i64 nf))), (.i (.o (.i .h)), .c (.p (.int .i64 i))), (.i (.i (.o .h)), .c (.p (.isl 2 nf (S.val f))))]
theorem zmd (fu : Nat) (e mo t l : Int) (nc : Nat) (c : S.Rows) (ns : Nat) (s : S.Rows) (ta tm r : Int) (nf : Nat) (f : S.Rows) (n : Nat) (it : S.Rows) (lo hi : Int) (m : Nat) (wt : S.Rows) (ld : Bool) (k : Nat) (p : S.Rows) (hn : nf ≤ 1000) (hm : nf ≤ m) (hf : ∀ i, i < nf → (-20000 ≤ f i 1 ∧ f i 1 ≤ 20000)) (hw : ∀ i, i < nf → (-140000 ≤ wt i 1 ∧ wt i 1 ≤ 140000)) : ∀ (i : Nat) (st : St), i ≤ nf → (∃ ρ, HasR 0 ρ st (zz6 e mo t l nc c ns s ta tm r nf f n it lo hi m wt ld k p i) [some (.arr 1 zk i (S.val (S.wetR f wt)) [])]) →
    zd (ex (cs4 hbs) (fu + 60)) 0 z4a st (.e (.exit 0) ⟨za [(.o (.o .h), .c (.sl 0 0 nf))], [some (.arr 1 zk nf (S.val (S.wetR f wt)) [])]⟩) :=
  z21 (σ := Nat) (fun i => zz6 e mo t l nc c ns s ta tm r nf f n it lo hi m wt ld k p i) (fun i => [some (.arr 1 zk i (S.val (S.wetR f wt)) [])]) (fun i => i ≤ nf) (fun i => nf - i)
    (fun _ => .e (.exit 0) ⟨za [(.o (.o .h), .c (.sl 0 0 nf))], [some (.arr 1 zk nf (S.val (S.wetR f wt)) [])]⟩) _ (fun i Q => zle (hbs := hbs) fu i e mo t l nc c ns s ta tm r nf f n it lo hi m wt ld k p Q) fun i hi' K hL X hX => by
      refine brP (fun h1 => ?_) fun h1 => ?_
      · have hlt : i < nf := by simpa using h1
        have q1 := hf i hlt
        have q2 := hw i hlt
        refine cdP (zi hlt) (cdP (zi (by omega)) (cdP (by simp [Cd.holds]; omega) (cdP (Nat.le_refl _) (cdP (Nat.le_refl _) (cdP (by simp [Cd.holds]; omega) (cdP (by simp [Cd.holds]; omega) ?_))))))
        refine hX (i + 1) _ (by omega) (by omega) ⟨[some 2], HasR.mk _ rfl rfl ?_ ?_⟩ hL
        · simp [WH, WB, upsB, memB]
          exact fun k hk => z2v hk rfl
        · simp [zg, WA, WC, WP', Tr.get, lkA]
      · have hlt : nf ≤ i := by simpa using h1
        obtain rfl : i = nf := by omega
        refine HasR.out (l := [(.o (.o .h), .c (.sl 0 0 i))]) (HasR.mk (ρ := [some 0]) rfl rfl ?_ ?_) hL
        · simp [WH, WB, upsB, memB]
        · simp [zg, WA, WC, WP', Tr.get]
theorem zlr (e mo t l : Int) (nc : Nat) (c : S.Rows) (ns : Nat) (s : S.Rows) (ta tm r : Int) (nf : Nat) (f : S.Rows) (n : Nat) (it : S.Rows) (lo hi : Int) (m : Nat) (wt : S.Rows) (ld : Bool) (k : Nat) (p : S.Rows) (hn : nf ≤ 1000) (hm : nf ≤ m) (hf : ∀ i, i < nf → (-20000 ≤ f i 1 ∧ f i 1 ≤ 20000)) (hw : ∀ i, i < nf → (-140000 ≤ wt i 1 ∧ wt i 1 ≤ 140000)) :
    z8 (cs4 hbs) z23 [lkA e mo t l nc c ns s ta tm r nf f n it lo hi m wt ld k p] (.c (.p (.isl 1 nf (S.val (S.wetR f wt))))) [] :=
  zo hT4 (F := z4b) rfl (zlf e mo t l nc c ns s ta tm r nf f n it lo hi m wt ld k p _)
    ⟨zmd hT4 934 e mo t l nc c ns s ta tm r nf f n it lo hi m wt ld k p hn hm hf hw 0 _ (Nat.zero_le _) ⟨[none], HasR.mk _ rfl rfl (by simp [WH, WB]) (by simp [zg, WA, WC, WP', Tr.get, lkA])⟩, by simp [frzA, frzC]⟩
theorem zh8 (e mo t l : Int) (nc : Nat) (c : S.Rows) (ns : Nat) (s : S.Rows) (ta tm r : Int) (nf : Nat) (f : S.Rows) (n : Nat) (it : S.Rows) (lo hi : Int) (m : Nat) (wt : S.Rows) (ld : Bool) (k : Nat) (p : S.Rows) (hk : k ≤ 30) (he : -1000000 ≤ e ∧ e ≤ 1000000) (ht : -1000000 ≤ t ∧ t ≤ 1000000) (hl : -1000000 ≤ l ∧ l ≤ 1000000) (hp : ∀ i, i < k → (-140000 ≤ p i 0 ∧ p i 0 ≤ 140000) ∧ (-140000 ≤ p i 1 ∧ p i 1 ≤ 140000)) :
    z8 (cs4 hbs) z1n [lkA e mo t l nc c ns s ta tm r nf f n it lo hi m wt ld k p] (.c (.p (.isl 1 1 (S.oneV (S.heavyX e t l ld k p))))) [] := by
  have q := S.sumR_in (f := S.pH p) (B := 140000) (k := k) (i := 0) fun j _ h => (hp j (by omega)).2
  exact zo hT4 (F := z3g) rfl (zgs e mo t l nc c ns s ta tm r nf f n it lo hi m wt ld k p _) (brP
    (fun h => ⟨z63 hT4 e mo t l nc c ns s ta tm r nf f n it lo hi m wt ld k p hk he hp, cdP (by simp [Cd.holds]; omega) (by subst h; rfl)⟩)
    fun h => ⟨z63 hT4 e mo t l nc c ns s ta tm r nf f n it lo hi m wt ld k p hk he hp, cdP (by simp [Cd.holds]; omega) (by subst h; rfl)⟩)
theorem zh9 (e mo t l : Int) (nc : Nat) (c : S.Rows) (ns : Nat) (s : S.Rows) (ta tm r : Int) (nf : Nat) (f : S.Rows) (n : Nat) (it : S.Rows) (lo hi : Int) (m : Nat) (wt : S.Rows) (ld : Bool) (k : Nat) (p : S.Rows) (h : -1000000 ≤ lo ∧ lo ≤ 1000000) (h2 : -1000000 ≤ r ∧ r ≤ 1000000) : z8 (cs4 hbs) z1g [lkA e mo t l nc c ns s ta tm r nf f n it lo hi m wt ld k p] (.c (.p (.isl 1 (S.b01 ld) (S.oneV (lo - r))))) [] := by
  cases ld with
  | true => exact zo hT4 (F := z2p) rfl (z9w e mo t l nc c ns s ta tm r nf f n it lo hi m wt true k p _) (brP (fun h => cdP (by simp [Cd.holds]; omega) rfl) fun h => by cases h)
  | false =>
    have h0 : z8 (cs4 hbs) z1g [lkA e mo t l nc c ns s ta tm r nf f n it lo hi m wt false k p] (.c (.p .nsl)) [] := zo hT4 (F := z2p) rfl (z9w e mo t l nc c ns s ta tm r nf f n it lo hi m wt false k p _) (brP (fun h => by cases h) fun h => rfl)
    refine z8.mono_r h0 fun w Z φ u hr => ?_
    simp only [RepA, RepC] at hr ⊢
    cases hr
    exact .isl0 _ _ _ _
end
section
variable {hbs : BsOk Tryz.prog}
theorem zll (fu i j : Nat) (e mo t l : Int) (nc : Nat) (c : S.Rows) (ns : Nat) (s : S.Rows) (ta tm r : Int) (nf : Nat) (f : S.Rows) (n : Nat) (it : S.Rows) (lo hi : Int) (m : Nat) (wt : S.Rows) (ld : Bool) (k : Nat) (p : S.Rows) (a b d h A : Int) (Q : AX → St → Prop) :
 ((fun (A0 : Option Blk) => ((fun (A1 : AV) => ((fun (A2 : AV) => ((fun (A3 : List CV) => ((fun (A4 : List CV) => ((fun (A5 : Tr) => ((fun (A6 : Option Blk) => ((fun (A7 : Option Blk) => ((fun (A8 : Option Blk) => ((BrP (decide ((j : Int) < (k : Int)))
 (CdP (.rng (j : Int) k)
 (CdP (.i64 (d - a))
 (CdP (.i64 ((d - a) * (p j 2)))
 (CdP (.i64 (h - b))
 (CdP (.i64 (((d - a) * (p j 2)) - (h - b)))
 (CdP (.i64 ((((d - a) * (p j 2)) - (h - b)) * (p j 0)))
 (CdP (.i64 ((((d - a) * (p j 2)) - (h - b)) * (p j 1)))
 (CdP (.i64 (A + (S.mn ((((d - a) * (p j 2)) - (h - b)) * (p j 0)) ((((d - a) * (p j 2)) - (h - b)) * (p j 1)))))
 (CdP (.i64 ((j : Int) + (1 : Int)))
 (Q .normal ⟨(L4 (.nd (.nd (L4 (L5 (.c (.ref 3)) (L1 (vJ (p j 0)))) (L4 (L1 (.ag A4)) (L1 A1))) (vT 1 0) (L4 (L4 (L1 (vJ ((j : Int) + (1 : Int)))) (L1 (vT 8 1))) (L3 (L1 (vJ A))))) (vT 0 0) (.nd (.nd (L4 (L1 (vS 5 k p)) (L1 A2)) A2 (L3 (L1 (vJ (p j 2))))) (vT 7 0) (L4 (L4 (L1 (.c (.p (.ipt 5 (S.val p j))))) (L1 (vJ ((((d - a) * (p j 2)) - (h - b)) * (p j 1))))) (L3 (L1 (vT 8 0)))))) (L4 (L4 (.nd (L2 (L1 (vJ ((((d - a) * (p j 2)) - (h - b)) * (p j 0))))) (vT 8 0) (L4 (L1 (vT 8 2)) (L1 (vJ ((j : Int) + (1 : Int)))))) (L4 (L4 (L1 (vB true)) (L1 (vJ (p j 1)))) (L3 (L1 A2)))) (.nd (L4 (L4 (L1 (vN k)) (L1 (vT 8 0))) (L3 (L1 A2))) A1 (L4 (L4 (L1 (.ag A3)) (L1 (vJ (S.mn ((((d - a) * (p j 2)) - (h - b)) * (p j 0)) ((((d - a) * (p j 2)) - (h - b)) * (p j 1)))))) (L3 (L1 (vT 8 0))))))), [A0, (some (.box z56 [(.sl 5 0 i)])), A7, (some (.clo z11 [] [(vT 2 0)])), (some (.lp 62 A5 [(.i (.o (.o (.o .h)))), (.o (.i (.o (.o .h))))] z1e z1f .busy)), A6, A8, (some (.box z10 A4)), (some (.box z5z A3))]⟩))))))))))
 (Q (.exit 2) ⟨(L4 (.nd (.nd (L3 (L1 (.c (.ref 3)))) (vT 1 0) (L3 (L3 (L1 (vN j))))) (vT 0 0) (L6 (L3 (L3 (L1 (vS 5 k p)))) (vT 7 0))) (L4 (L2 (L3 (L3 (L1 (vB false))))) (L6 (L3 (L3 (L1 (vN k)))) (vJ A)))), [A0, (some (.box z56 [(.sl 5 0 i)])), A7, (some (.clo z11 [] [(vT 2 0)])), (some (.lp 62 A5 [(.i (.o (.o (.o .h)))), (.o (.i (.o (.o .h))))] z1e z1f .busy)), A6, A8, (some (.box z10 A4))]⟩)))) (some (.box zl [(cJ a), (cJ b)])))) (some (.box zw [(cS 2 nc c)])))) (some (.arr 1 3 i (S.val (S.outR e mo nc c k p)) [])))) (L3 (L6 (L6 (L3 (L1 (.c (.ref 3)))) (vT 1 0)) (vT 0 0))))) [(cJ a), (cJ b), (cJ d), (cJ h)])) [(cJ (p j 0)), (cJ (p j 1)), (cJ (p j 2)), (cJ (p j 3)), (cJ (p j 4))])) (vJ (((d - a) * (p j 2)) - (h - b))))) (vJ (A + (S.mn ((((d - a) * (p j 2)) - (h - b)) * (p j 0)) ((((d - a) * (p j 2)) - (h - b)) * (p j 1))))))) (some (.box z4u [(.p (.ipt 16 (S.lk e mo t l nc c ns s ta tm r nf f n it lo hi m wt ld k p)))]))) = (ex (cs4 hbs) (fu + 60) 7 z4c ⟨za [(.o .h, .c (.pt 0 0)), (.o (.o .h), .c (.pt 1 0)), (.o (.o (.o (.o .h))), .c (.ref 3)), (.o (.o (.i (.o (.o .h)))), .c (cJ j)), (.o (.i .h), .c (.pt 7 0)), (.o (.i (.o (.o (.o .h)))), .c (cS 5 k p)), (.i (.i .h), .c (cJ A)), (.i (.i (.o (.o (.o .h)))), .c (cJ k))], (heO (.ipt 16 (S.lk e mo t l nc c ns s ta tm r nf f n it lo hi m wt ld k p)) (.sl 5 0 i) (.isl 2 nc (S.val c)) .busy ++ [some (.arr 1 zk i (S.val (S.outR e mo nc c k p)) []), some (.box zl [.p (.int .i64 a), .p (.int .i64 b)]), some (.box z10 [.p (.int .i64 a), .p (.int .i64 b), .p (.int .i64 d), .p (.int .i64 h)])])⟩ (fun e s => .pr (Q e s))).hold2 := by kernel_rfl
theorem zue (fu i : Nat) (e mo t l : Int) (nc : Nat) (c : S.Rows) (ns : Nat) (s : S.Rows) (ta tm r : Int) (nf : Nat) (f : S.Rows) (n : Nat) (it : S.Rows) (lo hi : Int) (m : Nat) (wt : S.Rows) (ld : Bool) (k : Nat) (p : S.Rows) (Q : AX → St → Prop) :
 ((fun (A1 : CV) => ((fun (A2 : List CV) => ((fun (A3 : AV) => ((fun (A4 : Tr) => ((fun (A5 : Tr) => ((fun (A6 : Option Blk) => ((fun (A7 : Option Blk) => ((fun (A8 : Option Blk) => ((fun (A9 : Option Blk) => ((fun (A10 : Option Blk) => ((fun (A0 : Heap) => ((BrP (decide ((i : Int) < (nc : Int)))
 (CdP (.rng (i : Int) nc)
 (CdP (.i64 ((i : Int) + (1 : Int)))
 (CdP (.ne (nc : Int))
 (CdP (.rng (Int.tmod ((i : Int) + (1 : Int)) (nc : Int)) nc)
 (CdP (.i64 ((c (Int.toNat (Int.tmod ((i : Int) + (1 : Int)) (nc : Int))) 0) - (c i 0)))
 (CdP (.i64 (mo - (c i 1)))
 (CdP (.i64 (((c (Int.toNat (Int.tmod ((i : Int) + (1 : Int)) (nc : Int))) 0) - (c i 0)) * (mo - (c i 1))))
 (CdP (.i64 ((c (Int.toNat (Int.tmod ((i : Int) + (1 : Int)) (nc : Int))) 1) - (c i 1)))
 (CdP (.i64 (e - (c i 0)))
 (CdP (.i64 (((c (Int.toNat (Int.tmod ((i : Int) + (1 : Int)) (nc : Int))) 1) - (c i 1)) * (e - (c i 0))))
 (CdP (.i64 ((((c (Int.toNat (Int.tmod ((i : Int) + (1 : Int)) (nc : Int))) 0) - (c i 0)) * (mo - (c i 1))) - (((c (Int.toNat (Int.tmod ((i : Int) + (1 : Int)) (nc : Int))) 1) - (c i 1)) * (e - (c i 0)))))
 ((zd (ex (cs4 hbs) (fu + 47)) 7 z4c ⟨(L4 (.nd (.nd (L4 (L6 (L1 (.c A1)) (.c (.ref 3))) (L1 (vJ e))) (vT 1 0) (L4 (L6 (L1 (vJ 0)) (.c A1)) (L1 (.c (.p (.ipt 15 (fun x25 => (S.lk e mo t l nc c ns s ta tm r nf f n it lo hi m wt ld k p (0 + (1 + x25)))))))))) (vT 0 0) (.nd (L4 (L6 (L1 (vS 5 k p)) (.ag A2)) (L1 (.c A1))) (vT 7 0) (L4 A4 (L1 A3)))) (L4 (L4 (L4 (L6 (L1 (.c (.p (.ipt 1 (fun x25 => (S.lk e mo t l nc c ns s ta tm r nf f n it lo hi m wt ld k p (15 + x25))))))) (vN i)) (L1 (.c A1))) (L4 (L1 (.c A1)) (L1 (vJ mo)))) (.nd (L4 (L6 (L1 (vN k)) (.ag A2)) A4) A3 (L4 (L1 (.c (.p (.ipt 16 (fun x25 => (S.lk e mo t l nc c ns s ta tm r nf f n it lo hi m wt ld k p (0 + (0 + x25)))))))) (L1 (.c A1)))))), A0⟩ (.e (.exit 2) ⟨(L4 (.nd (L6 (L3 (L1 (.c (.ref 3)))) (vT 1 0)) (vT 0 0) (L1 (vT 7 0))) (L2 (L1 (vJ (((((c (Int.toNat (Int.tmod ((i : Int) + (1 : Int)) (nc : Int))) 0) - (c i 0)) * (mo - (c i 1))) - (((c (Int.toNat (Int.tmod ((i : Int) + (1 : Int)) (nc : Int))) 1) - (c i 1)) * (e - (c i 0)))) + (S.sumR (S.leanE (c i 0) (c i 1) (c (Int.toNat (Int.tmod ((i : Int) + (1 : Int)) (nc : Int))) 0) (c (Int.toNat (Int.tmod ((i : Int) + (1 : Int)) (nc : Int))) 1) p) k 0)))))), A0⟩)) ∧
 (CdP (.le i i)
 (CdP (.le i i)
 (CdP (.le ((i + 1) * 8) 140737488355328)
 (CdP (.i64 ((i : Int) + (1 : Int)))
 (Q .normal ⟨(.nd (.nd (L3 (L1 (vJ ((i : Int) + (1 : Int))))) (vT 2 0) (L1 (vS 2 nc c))) (.c (.ref 4)) (L2 (L1 (vN nc)))), [A9, (some (.box z56 [(.sl 8 0 (i + 1))])), A7, A8, (some (.lp 62 A5 [(.i (.o (.o (.o .h)))), (.o (.i (.o (.o .h))))] z1e z1f .ready)), A6, A10, (some (.box z10 A2)), (some (.arr 1 3 (i + 1) (fun x25 => (fun x26 => (if (x25 < i) then (.int .i64 (S.outR e mo nc c k p x25 x26)) else (List.getD [(.int .i64 (((((c (Int.toNat (Int.tmod ((i : Int) + (1 : Int)) (nc : Int))) 0) - (c i 0)) * (mo - (c i 1))) - (((c (Int.toNat (Int.tmod ((i : Int) + (1 : Int)) (nc : Int))) 1) - (c i 1)) * (e - (c i 0)))) + (S.sumR (S.leanE (c i 0) (c i 1) (c (Int.toNat (Int.tmod ((i : Int) + (1 : Int)) (nc : Int))) 0) (c (Int.toNat (Int.tmod ((i : Int) + (1 : Int)) (nc : Int))) 1) p) k 0)))] (((x25 - i) * 1) + x26) .npt)))) [5]))]⟩)))))))))))))))))
 (Q (.exit 0) ⟨(.nd (.nd (L3 (L1 (vN i))) (vT 2 0) (L1 (vS 2 nc c))) (.c (.ref 4)) (L2 (L1 (vN nc)))), [A9, (some (.box z56 [(.sl 5 0 i)])), A7, A8, (some (.lp 62 A5 [(.i (.o (.o (.o .h)))), (.o (.i (.o (.o .h))))] z1e z1f .ready)), A6]⟩)))) [A9, (some (.box z56 [(.sl 5 0 i)])), A7, A8, (some (.lp 62 A5 [(.i (.o (.o (.o .h)))), (.o (.i (.o (.o .h))))] z1e z1f .busy)), A6, A10, (some (.box z10 A2))])) (some (.box zl [(cJ (c i 0)), (cJ (c i 1))])))) (some (.box z4u [A1])))) (some (.clo z11 [] [(vT 2 0)])))) (some (.box zw [(cS 2 nc c)])))) (some (.arr 1 3 i (S.val (S.outR e mo nc c k p)) [])))) (L3 (L6 (L6 (L3 (L1 (.c (.ref 3)))) (vT 1 0)) (vT 0 0))))) (L1 (.c (.p (.ipt 16 (fun x25 => (S.lk e mo t l nc c ns s ta tm r nf f n it lo hi m wt ld k p (0 + x25))))))))) (vJ ((((c (Int.toNat (Int.tmod ((i : Int) + (1 : Int)) (nc : Int))) 0) - (c i 0)) * (mo - (c i 1))) - (((c (Int.toNat (Int.tmod ((i : Int) + (1 : Int)) (nc : Int))) 1) - (c i 1)) * (e - (c i 0))))))) [(cJ (c i 0)), (cJ (c i 1)), (cJ (c (Int.toNat (Int.tmod ((i : Int) + (1 : Int)) (nc : Int))) 0)), (cJ (c (Int.toNat (Int.tmod ((i : Int) + (1 : Int)) (nc : Int))) 1))])) (.p (.ipt 16 (S.lk e mo t l nc c ns s ta tm r nf f n it lo hi m wt ld k p)))) = (ex (cs4 hbs) (fu + 60) 5 z17 ⟨za [(.h, .c (.ref 4)), (.o .h, .c (.pt 2 0)), (.o (.o (.o .h)), .c (cJ i)), (.o (.i .h), .c (cS 2 nc c)), (.i (.i .h), .c (cJ nc))], (heO (.ipt 16 (S.lk e mo t l nc c ns s ta tm r nf f n it lo hi m wt ld k p)) (.sl 5 0 i) (.isl 2 nc (S.val c)) .ready ++ [some (.arr 1 zk i (S.val (S.outR e mo nc c k p)) [])])⟩ (fun e s => .pr (Q e (z2a [.h, .o .h, .i (.i .h), .o (.i .h), .o (.o (.o .h))] s)))).hold2 := by kernel_rfl
theorem zlm (e mo t l : Int) (nc : Nat) (c : S.Rows) (ns : Nat) (s : S.Rows) (ta tm r : Int) (nf : Nat) (f : S.Rows) (n : Nat) (it : S.Rows) (lo hi : Int) (m : Nat) (wt : S.Rows) (ld : Bool) (k : Nat) (p : S.Rows) (Q : AV → Heap → Prop) :
 ((fun (A0 : CV) => ((fun (A1 : Option Blk) => ((fun (A2 : Option Blk) => ((fun (A3 : Option Blk) => ((fun (A4 : Option Blk) => (((zd (ex (cs4 hbs) 991) 5 z17 ⟨(.nd (.nd (L3 (L1 (vJ 0))) (vT 2 0) (L1 (vS 2 nc c))) (.c (.ref 4)) (L2 (L1 (vN nc)))), [A3, (some (.box z56 [(.p .nsl)])), A1, A2, (some (.lp 62 (.nd (.nd (.nd (L3 (L1 (.c (.ref 3)))) (vT 1 0) (L1 (.c A0))) (vT 0 0) (L2 (L1 (.c (.p (.ipt 12 (fun x23 => (S.lk e mo t l nc c ns s ta tm r nf f n it lo hi m wt ld k p (0 + (4 + x23)))))))))) (.c A0) (.nd (L2 (L1 (.c (.p (.ipt 16 (fun x23 => (S.lk e mo t l nc c ns s ta tm r nf f n it lo hi m wt ld k p (0 + x23)))))))) (.c (.p .nsl)) (L4 (L1 (.c A0)) (L1 (vS 2 nc c))))) [(.i (.o (.o (.o .h)))), (.o (.i (.o (.o .h))))] z1e z1f .ready))]⟩ (.e (.exit 0) ⟨.lf, [A3, (some (.box z56 [(.sl 5 0 nc)])), A1, A2, (some (.lp 62 (L3 (L6 (L6 (L3 (L1 (.c (.ref 3)))) (vT 1 0)) (vT 0 0))) [(.i (.o (.o (.o .h)))), (.o (.i (.o (.o .h))))] z1e z1f .ready)), A4]⟩)) ∧
 (Q (.c (.sl 5 0 nc)) [A3, (some (.box z56 [(.sl 5 0 nc)])), A1, A2, none, A4])))) (some (.arr 1 3 nc (S.val (S.outR e mo nc c k p)) [])))) (some (.box z4u [A0])))) (some (.clo z11 [] [(vT 2 0)])))) (some (.box zw [(cS 2 nc c)])))) (.p (.ipt 16 (S.lk e mo t l nc c ns s ta tm r nf f n it lo hi m wt ld k p)))) = (ex (cs4 hbs) 1000 0 zc9 ⟨ofL 0 [lkA e mo t l nc c ns s ta tm r nf f n it lo hi m wt ld k p] .lf, []⟩ (endK z4d.rs (fun r H => .pr (Q r H)) fun _ _ => .no)).hold2 := by kernel_rfl
theorem zsd (fu i x nc : Nat) (c : S.Rows) (Q : AX → St → Prop) :
 ((fun (A0 : Option Blk) => ((fun (A1 : Tr) => ((fun (A2 : Option Blk) => ((fun (A3 : Tr) => ((fun (A4 : Option Blk) => ((fun (A5 : Option Blk) => ((fun (A6 : Option Blk) => ((fun (A7 : Option Blk) => ((BrP (decide ((i : Int) < (nc : Int)))
 (CdP (.rng (i : Int) nc)
 (CdP (.i64 ((i : Int) + (1 : Int)))
 (CdP (.ne (nc : Int))
 (CdP (.rng (Int.tmod ((i : Int) + (1 : Int)) (nc : Int)) nc)
 (BrP ((i : Int) == (x : Int))
 (Q .ret ⟨A3, [A5, A0, A2, A4, (some (.lp 20 A1 [(.o (.i (.i .h))), (.i (.i (.i .h)))] z1o z1p (.done .ret))), A6, A0]⟩)
 (CdP (.i64 ((i : Int) + (1 : Int)))
 (Q .normal ⟨(.nd (.nd (L3 (L1 (vJ ((i : Int) + (1 : Int))))) (vT 2 0) (L1 (vS 2 nc c))) (.c (.ref 4)) (L2 (L1 (vN nc)))), [A5, A7, A2, A4, (some (.lp 20 A1 [(.o (.i (.i .h))), (.i (.i (.i .h)))] z1o z1p .ready)), A6, A0]⟩)))))))
 (Q (.exit 0) ⟨A3, [A5, A7, A2, A4, (some (.lp 20 A1 [(.o (.i (.i .h))), (.i (.i (.i .h)))] z1o z1p .ready))]⟩)))) (some (.box z10 [(cJ 0), (cJ 0), (cJ 0), (cJ 0)])))) (some (.box zl [(cJ (c i 0)), (cJ (c i 1))])))) (some (.box zk [(cJ (x : Int))])))) (some (.clo z11 [] [(vT 2 0)])))) (.nd (.nd (L3 (L1 (vN i))) (vT 2 0) (L1 (vS 2 nc c))) (.c (.ref 4)) (L2 (L1 (vN nc)))))) (some (.box zw [(cS 2 nc c)])))) (L4 (L3 (L1 (vT 0 0))) (L3 (L5 (vT 1 0) (L1 (.c (.ref 3)))))))) (some (.box z10 [(cJ (c i 0)), (cJ (c i 1)), (cJ (c (Int.toNat (Int.tmod ((i : Int) + (1 : Int)) (nc : Int))) 0)), (cJ (c (Int.toNat (Int.tmod ((i : Int) + (1 : Int)) (nc : Int))) 1))]))) = (ex (cs4 hbs) (fu + 60) 5 z17 ⟨za [(.h, .c (.ref 4)), (.o .h, .c (.pt 2 0)), (.o (.o (.o .h)), .c (cJ i)), (.o (.i .h), .c (cS 2 nc c)), (.i (.i .h), .c (cJ nc))], heE (x : Int) [.p (.int .i64 0), .p (.int .i64 0), .p (.int .i64 0), .p (.int .i64 0)] (.isl 2 nc (S.val c)) .ready⟩ (fun e s => .pr (Q e (z2a [.h, .o .h, .i (.i .h), .o (.i .h), .o (.o (.o .h))] s)))).hold2 := by kernel_rfl
theorem zji (e mo t l : Int) (nc : Nat) (c : S.Rows) (ns : Nat) (s : S.Rows) (ta tm r : Int) (nf : Nat) (f : S.Rows) (n : Nat) (it : S.Rows) (lo hi : Int) (m : Nat) (wt : S.Rows) (ld : Bool) (k : Nat) (p : S.Rows) (x : Nat) (Q : AV → Heap → Prop) :
 ((fun (A0 : AV) => ((fun (A1 : List CV) => ((fun (A2 : Option Blk) => ((fun (A3 : Option Blk) => ((fun (A4 : Option Blk) => (((zd (ex (cs4 hbs) 992) 5 z17 ⟨(.nd (.nd (L3 (L1 (vJ 0))) (vT 2 0) (L1 (vS 2 nc c))) (.c (.ref 4)) (L2 (L1 (vN nc)))), [A4, (some (.box z10 [(cJ 0), (cJ 0), (cJ 0), (cJ 0)])), A2, A3, (some (.lp 20 (.nd (.nd (.nd (L1 A0) (vT 0 0) (L1 (vS 2 nc c))) (vN x) (L3 (L1 (.c (.p (.ipt 16 (fun x24 => (S.lk e mo t l nc c ns s ta tm r nf f n it lo hi m wt ld k p (0 + x24))))))))) A0 (L4 (.nd (L1 A0) (vT 1 0) (L1 (.c (.ref 3)))) (L3 (L1 (.c (.p (.ipt 12 (fun x24 => (S.lk e mo t l nc c ns s ta tm r nf f n it lo hi m wt ld k p (0 + (4 + x24))))))))))) [(.o (.i (.i .h))), (.i (.i (.i .h)))] z1o z1p .ready))]⟩ (.e .ret ⟨.lf, [A4, (some (.box z10 A1)), A2, A3, (some (.lp 20 (L4 (L3 (L1 (vT 0 0))) (L3 (L5 (vT 1 0) (L1 (.c (.ref 3)))))) [(.o (.i (.i .h))), (.i (.i (.i .h)))] z1o z1p (.done .ret)))]⟩)) ∧
 (Q (.ag A1) [A4, (some (.box z10 A1)), A2, A3, none])))) (some (.box zk [(cJ (x : Int))])))) (some (.clo z11 [] [(vT 2 0)])))) (some (.box zw [(cS 2 nc c)])))) [(cJ (c x 0)), (cJ (c x 1)), (cJ (c (S.nxt nc x) 0)), (cJ (c (S.nxt nc x) 1))])) (.c (.p (.ipt 16 (S.lk e mo t l nc c ns s ta tm r nf f n it lo hi m wt ld k p))))) = (ex (cs4 hbs) 1000 0 zb8 ⟨ofL 0 [lkA e mo t l nc c ns s ta tm r nf f n it lo hi m wt ld k p, .c (cJ x)] .lf, []⟩ (endK z3v.rs (fun r H => .pr (Q r H)) fun _ _ => .no)).hold2 := by kernel_rfl
theorem zfb (e mo t l : Int) (nc : Nat) (c : S.Rows) (ns : Nat) (s : S.Rows) (ta tm r : Int) (nf : Nat) (f : S.Rows) (n : Nat) (it : S.Rows) (lo hi : Int) (m : Nat) (wt : S.Rows) (ld : Bool) (k : Nat) (p : S.Rows) (a b arm pr pi ru ix : Int) (Q : AV → Heap → Prop) :
 ((fun (A0 : Heap) => ((BrP (ru == (5 : Int))
 (Q (vB true) A0)
 (BrP (ru == (7 : Int))
 (Q (vB false) A0)
 (BrP (ru == (6 : Int))
 ((z8 (cs4 hbs) z7y [(.c (.p (.ipt 16 (S.lk e mo t l nc c ns s ta tm r nf f n it lo hi m wt ld k p)))), (vJ ix)] (.ag [(cJ (c (Int.toNat ix) 0)), (cJ (c (Int.toNat ix) 1)), (cJ (c (S.nxt nc (Int.toNat ix)) 0)), (cJ (c (S.nxt nc (Int.toNat ix)) 1))]) []) ∧
 (CdP (.i64 ((c (S.nxt nc (Int.toNat ix)) 0) - (c (Int.toNat ix) 0)))
 (CdP (.i64 (((c (S.nxt nc (Int.toNat ix)) 0) - (c (Int.toNat ix) 0)) * arm))
 (CdP (.i64 ((c (S.nxt nc (Int.toNat ix)) 1) - (c (Int.toNat ix) 1)))
 (CdP (.i64 ((((c (S.nxt nc (Int.toNat ix)) 0) - (c (Int.toNat ix) 0)) * arm) - ((c (S.nxt nc (Int.toNat ix)) 1) - (c (Int.toNat ix) 1))))
 (BrP (decide (((((c (S.nxt nc (Int.toNat ix)) 0) - (c (Int.toNat ix) 0)) * arm) - ((c (S.nxt nc (Int.toNat ix)) 1) - (c (Int.toNat ix) 1))) < (0 : Int)))
 (Q (vB true) A0)
 (Q (vB false) A0)))))))
 (BrP (pr == ru)
 (BrP (pi == ix)
 (Q (vB true) A0)
 (Q (vB false) A0))
 (Q (vB false) A0))))))) [(some (.box z5z [(cJ a), (cJ b), (cJ arm), (cJ pr), (cJ pi)]))]) = (ex (cs4 hbs) 1000 0 z9y ⟨ofL 0 [lkA e mo t l nc c ns s ta tm r nf f n it lo hi m wt ld k p, .ag [.p (.int .i64 a), .p (.int .i64 b), .p (.int .i64 arm), .p (.int .i64 pr), .p (.int .i64 pi)], .c (cJ ru), .c (cJ ix)] .lf, []⟩ (endK z31.rs (fun r H => .pr (Q r H)) fun _ _ => .no)).hold2 := by kernel_rfl
end
end Go.Ab.B
namespace Go.Ab.S
theorem leanE_in {a b d h : Int} {p : Rows} {j : Nat} (ha : 0 ≤ a ∧ a ≤ 20000) (hd : 0 ≤ d ∧ d ≤ 20000) (hb : -20000000 ≤ b ∧ b ≤ 20000000) (hh : -20000000 ≤ h ∧ h ≤ 20000000)
    (hp : (-140000 ≤ p j 0 ∧ p j 0 ≤ 140000) ∧ (-140000 ≤ p j 1 ∧ p j 1 ≤ 140000) ∧ (-1000 ≤ p j 2 ∧ p j 2 ≤ 1000)) :
    (-20000000 ≤ (d - a) * p j 2 ∧ (d - a) * p j 2 ≤ 20000000) ∧ (-60000000 ≤ (d - a) * p j 2 - (h - b) ∧ (d - a) * p j 2 - (h - b) ≤ 60000000) ∧
    (-8400000000000 ≤ ((d - a) * p j 2 - (h - b)) * p j 0 ∧ ((d - a) * p j 2 - (h - b)) * p j 0 ≤ 8400000000000) ∧ (-8400000000000 ≤ ((d - a) * p j 2 - (h - b)) * p j 1 ∧ ((d - a) * p j 2 - (h - b)) * p j 1 ≤ 8400000000000) ∧
    (-8400000000000 ≤ leanE a b d h p j ∧ leanE a b d h p j ≤ 8400000000000) := by
  obtain ⟨h0, h1, h2⟩ := hp
  have q1 := z2t (a := d - a) (b := p j 2) (A := 20000) (B := 1000) (by omega) (by omega) h2.1 h2.2
  have q2 : -60000000 ≤ (d - a) * p j 2 - (h - b) ∧ (d - a) * p j 2 - (h - b) ≤ 60000000 := by
    generalize (d - a) * p j 2 = z at *
    omega
  have q3 := z2t (a := (d - a) * p j 2 - (h - b)) (b := p j 0) (A := 60000000) (B := 140000) q2.1 q2.2 h0.1 h0.2
  have q4 := z2t (a := (d - a) * p j 2 - (h - b)) (b := p j 1) (A := 60000000) (B := 140000) q2.1 q2.2 h1.1 h1.2
  exact ⟨⟨by have := q1.1; omega, by have := q1.2; omega⟩, q2, q3, q4, mn_in (B := 8400000000000) q3 q4⟩
end Go.Ab.S
namespace Go.Ab.B
open Go.Proofs
section
variable {hbs : BsOk Tryz.prog} (hT4 : zq (cs4 hbs))
abbrev hpO (e mo t l : Int) (nc : Nat) (c : S.Rows) (ns : Nat) (s : S.Rows) (ta tm r : Int) (nf : Nat) (f : S.Rows) (n : Nat) (it : S.Rows) (lo hi : Int) (m : Nat) (wt : S.Rows) (ld : Bool) (k : Nat) (p : S.Rows) (i : Nat) (a b d h : Int) : Heap := (heO (.ipt 16 (S.lk e mo t l nc c ns s ta tm r nf f n it lo hi m wt ld k p)) (.sl 5 0 i) (.isl 2 nc (S.val c)) .busy ++ [some (.arr 1 zk i (S.val (S.outR e mo nc c k p)) []), some (.box zl [.p (.int .i64 a), .p (.int .i64 b)]), some (.box z10 [.p (.int .i64 a), .p (.int .i64 b), .p (.int .i64 d), .p (.int .i64 h)])])
abbrev lvO (k : Nat) (p : S.Rows) (x : Nat × Int) : List (Ps × AV) := [(.o .h, .c (.pt 0 0)), (.o (.o .h), .c (.pt 1 0)), (.o (.o (.o (.o .h))), .c (.ref 3)), (.o (.o (.i (.o (.o .h)))), .c (.p (.int .i64 x.1))), (.o (.i .h), .c (.pt 7 0)), (.o (.i (.o (.o (.o .h)))), .c (.p (.isl 5 k (S.val p)))), (.i (.i .h), .c (.p (.int .i64 x.2))), (.i (.i (.o (.o (.o .h)))), .c (.p (.int .i64 k)))]
abbrev trO (e mo t l : Int) (nc : Nat) (c : S.Rows) (ns : Nat) (s : S.Rows) (ta tm r : Int) (nf : Nat) (f : S.Rows) (n : Nat) (it : S.Rows) (lo hi : Int) (m : Nat) (wt : S.Rows) (ld : Bool) (k : Nat) (p : S.Rows) (i : Nat) (a b d h : Int) (x : Nat × Int) : zr := .e (.exit 2) ⟨za [(.o .h, .c (.pt 0 0)), (.o (.o .h), .c (.pt 1 0)), (.o (.o (.o (.o .h))), .c (.ref 3)), (.o (.i .h), .c (.pt 7 0)), (.i (.i .h), vI .i64 (x.2 + S.sumR (S.leanE a b d h p) (k - x.1) x.1))], hpO e mo t l nc c ns s ta tm r nf f n it lo hi m wt ld k p i a b d h⟩
theorem zmg (fu i : Nat) (e mo t l : Int) (nc : Nat) (c : S.Rows) (ns : Nat) (s : S.Rows) (ta tm r : Int) (nf : Nat) (f : S.Rows) (n : Nat) (it : S.Rows) (lo hi : Int) (m : Nat) (wt : S.Rows) (ld : Bool) (k : Nat) (p : S.Rows) (a b d h A0 : Int) (hk : k ≤ 30) (hA : -100000000000000 ≤ A0 ∧ A0 ≤ 100000000000000) (ha : 0 ≤ a ∧ a ≤ 20000) (hd : 0 ≤ d ∧ d ≤ 20000) (hb : -20000000 ≤ b ∧ b ≤ 20000000) (hh : -20000000 ≤ h ∧ h ≤ 20000000)
    (hp : ∀ j, j < k → (-140000 ≤ p j 0 ∧ p j 0 ≤ 140000) ∧ (-140000 ≤ p j 1 ∧ p j 1 ≤ 140000) ∧ (-1000 ≤ p j 2 ∧ p j 2 ≤ 1000)) :
    ∀ (x : Nat × Int) (st : St), (x.1 ≤ k ∧ A0 - 8400000000000 * (x.1 : Int) ≤ x.2 ∧ x.2 ≤ A0 + 8400000000000 * (x.1 : Int)) → Has st (lvO k p x) (hpO e mo t l nc c ns s ta tm r nf f n it lo hi m wt ld k p i a b d h) →
    zd (ex (cs4 hbs) (fu + 60)) 7 z4c st (trO e mo t l nc c ns s ta tm r nf f n it lo hi m wt ld k p i a b d h x) :=
  z2d (σ := Nat × Int) (lvO k p) (fun _ => hpO e mo t l nc c ns s ta tm r nf f n it lo hi m wt ld k p i a b d h) (fun x => x.1 ≤ k ∧ A0 - 8400000000000 * (x.1 : Int) ≤ x.2 ∧ x.2 ≤ A0 + 8400000000000 * (x.1 : Int)) (fun x => k - x.1)
    (trO e mo t l nc c ns s ta tm r nf f n it lo hi m wt ld k p i a b d h) (fun _ => by show 7 ≤ 8; decide) _ (fun x Q => zll (hbs := hbs) fu i x.1 e mo t l nc c ns s ta tm r nf f n it lo hi m wt ld k p a b d h x.2 Q) fun x hx K hL X hX => by
      obtain ⟨j, A⟩ := x
      obtain ⟨h1, h2⟩ := hx
      dsimp only at h1 h2 hL ⊢
      refine brP (fun hb1 => ?_) fun hb1 => ?_
      · have hlt : j < k := by simpa using hb1
        obtain ⟨q1, q2, q3, q4, q5⟩ := S.leanE_in ha hd hb hh (hp j hlt)
        have e8 : 8400000000000 * ((j + 1 : Nat) : Int) = 8400000000000 * j + 8400000000000 := by omega
        refine cdP (zi hlt) (cdP (by simp [Cd.holds]; omega) (cdP (by simp [Cd.holds]; omega) (cdP (by simp [Cd.holds]; omega) (cdP (by simp [Cd.holds]; omega) (cdP (by simp [Cd.holds]; omega) (cdP (by simp [Cd.holds]; omega) (cdP (by simp only [S.leanE] at q5; simp [Cd.holds]; omega) (cdP (by simp [Cd.holds]; omega) ?_))))))))
        refine hX (j + 1, A + S.leanE a b d h p j) _ (by show k - (j + 1) < k - j; omega) ⟨hlt, by dsimp only; rw [e8]; omega⟩ (.cons (by kernel_rfl) rfl (.cons (by kernel_rfl) rfl (.cons (by kernel_rfl) rfl (.cons (by kernel_rfl) rfl (.cons (by kernel_rfl) rfl (.cons (by kernel_rfl) rfl (.cons (by kernel_rfl) rfl (.cons (by kernel_rfl) rfl (.nil (ex := _) rfl (by kernel_rfl)))))))))) ?_
        dsimp only [trO] at hL ⊢
        rw [S.sumR_step (S.leanE a b d h p) hlt, ← Int.add_assoc] at hL
        exact hL
      · have hlt : k ≤ j := by simpa using hb1
        dsimp only [trO] at hL
        rw [S.sumR_end (S.leanE a b d h p) hlt, Int.add_zero] at hL
        exact Has.out (l := [(.o .h, .c (.pt 0 0)), (.o (.o .h), .c (.pt 1 0)), (.o (.o (.o (.o .h))), .c (.ref 3)), (.o (.i .h), .c (.pt 7 0)), (.i (.i .h), vI .i64 A)]) (.cons (by kernel_rfl) rfl (.cons (by kernel_rfl) rfl (.cons (by kernel_rfl) rfl (.cons (by kernel_rfl) rfl (.cons (by kernel_rfl) rfl (.nil (ex := _) rfl (by kernel_rfl))))))) (by show 7 ≤ 8; decide) hL
abbrev hpE (e mo t l : Int) (nc : Nat) (c : S.Rows) (ns : Nat) (s : S.Rows) (ta tm r : Int) (nf : Nat) (f : S.Rows) (n : Nat) (it : S.Rows) (lo hi : Int) (m : Nat) (wt : S.Rows) (ld : Bool) (k : Nat) (p : S.Rows) (i : Nat) : Heap := (heO (.ipt 16 (S.lk e mo t l nc c ns s ta tm r nf f n it lo hi m wt ld k p)) (.sl 5 0 i) (.isl 2 nc (S.val c)) .ready ++ [some (.arr 1 zk i (S.val (S.outR e mo nc c k p)) [])])
abbrev lvE (nc : Nat) (c : S.Rows) (i : Nat) : List (Ps × AV) := [(.h, .c (.ref 4)), (.o .h, .c (.pt 2 0)), (.o (.o (.o .h)), .c (.p (.int .i64 i))), (.o (.i .h), .c (.p (.isl 2 nc (S.val c)))), (.i (.i .h), .c (.p (.int .i64 nc)))]
theorem zv0 (fu : Nat) (e mo t l : Int) (nc : Nat) (c : S.Rows) (ns : Nat) (s : S.Rows) (ta tm r : Int) (nf : Nat) (f : S.Rows) (n : Nat) (it : S.Rows) (lo hi : Int) (m : Nat) (wt : S.Rows) (ld : Bool) (k : Nat) (p : S.Rows) (hncm : nc ≤ 1000) (hk : k ≤ 30) (hc : S.cor nc c = true) (he : -1000000 ≤ e ∧ e ≤ 1000000) (hmo : -1000000000 ≤ mo ∧ mo ≤ 1000000000)
    (hp : ∀ j, j < k → (-140000 ≤ p j 0 ∧ p j 0 ≤ 140000) ∧ (-140000 ≤ p j 1 ∧ p j 1 ≤ 140000) ∧ (-1000 ≤ p j 2 ∧ p j 2 ≤ 1000)) : ∀ (i : Nat) (st : St), i ≤ nc → (∃ ρ, HasR 5 ρ st (lvE nc c i) (hpE e mo t l nc c ns s ta tm r nf f n it lo hi m wt ld k p i)) →
    zd (ex (cs4 hbs) (fu + 60 + 60)) 5 z17 st (.e (.exit 0) ⟨.lf, hpE e mo t l nc c ns s ta tm r nf f n it lo hi m wt ld k p nc⟩) :=
  z21 (σ := Nat) (lvE nc c) (hpE e mo t l nc c ns s ta tm r nf f n it lo hi m wt ld k p) (fun i => i ≤ nc) (fun i => nc - i) (fun _ => .e (.exit 0) ⟨.lf, hpE e mo t l nc c ns s ta tm r nf f n it lo hi m wt ld k p nc⟩) _ (fun i Q => zue (hbs := hbs) (fu + 60) i e mo t l nc c ns s ta tm r nf f n it lo hi m wt ld k p Q) fun i hi' K hL X hX => by
      have hnm : nc ≤ maxLen := Nat.le_trans hncm (by decide)
      refine brP (fun h1 => ?_) fun h1 => ?_
      · have hlt : i < nc := by simpa using h1
        have e1 : Int.tmod ((i : Int) + 1) (nc : Int) = (S.nxt nc i : Int) := S.nxt_tmod (by omega)
        have e2 : (Int.tmod ((i : Int) + 1) (nc : Int)).toNat = S.nxt nc i := by rw [e1]; rfl
        have hx : S.nxt nc i < nc := S.nxt_lt (by omega)
        obtain ⟨b1, b2, b3, b4, b5, b6⟩ := S.sd_in (w := e) (m := mo) hc hlt he.1 he.2 hmo.1 hmo.2
        simp only [e2]
        rw [e1]
        refine cdP (zi hlt) (cdP (z1i hlt hnm) (cdP (zbe (by omega)) (cdP (zi hx) (cdP (z1x (by omega) (by omega)) (cdP (z1x (by omega) (by omega)) (cdP (z1x (by omega) (by omega)) (cdP (z1x (by omega) (by omega)) (cdP (z1x (by omega) (by omega)) (cdP (z1x (by omega) (by omega)) (cdP (z1x (by omega) (by omega)) ⟨?_, cdP (Nat.le_refl _) (cdP (Nat.le_refl _) (cdP (by simp [Cd.holds]; omega) (cdP (z1i hlt hnm) ?_)))⟩))))))))))
        · exact zmg (fu + 47) i e mo t l nc c ns s ta tm r nf f n it lo hi m wt ld k p (c i 0) (c i 1) (c (S.nxt nc i) 0) (c (S.nxt nc i) 1) ((c (S.nxt nc i) 0 - c i 0) * (mo - c i 1) - (c (S.nxt nc i) 1 - c i 1) * (e - c i 0)) hk ⟨by omega, by omega⟩ b1 b3 b2 b4 hp (0, _) _ ⟨Nat.zero_le _, by dsimp only; omega⟩ (.cons (by kernel_rfl) rfl (.cons (by kernel_rfl) rfl (.cons (by kernel_rfl) rfl (.cons (by kernel_rfl) rfl (.cons (by kernel_rfl) rfl (.cons (by kernel_rfl) rfl (.cons (by kernel_rfl) rfl (.cons (by kernel_rfl) rfl (.nil (ex := _) rfl (by kernel_rfl))))))))))
        · refine hX (i + 1) _ (by omega) (by omega) ⟨[some 0, some 1, some 2, some 3, some 4, some 8], HasR.mk _ rfl rfl ?_ ?_⟩ hL
          · simp [hpE, WH, WB, WL, WC, WP', WA, WAs, WT, upsB, memB, heO, za, Tr.set]
            exact fun k hk => z2v hk rfl
          · simp [zg, WA, WC, WP', Tr.get]
      · have hlt : nc ≤ i := by simpa using h1
        obtain rfl : nc = i := by omega
        refine HasR.out (l := []) (HasR.mk (ρ := [some 0, some 1, some 2, some 3, some 4, some 5]) rfl rfl ?_ ?_) hL
        · simp [hpE, WH, WB, WL, WC, WP', WA, WAs, WT, upsB, memB, heO, za, Tr.set]
        · simp [zg]
include hT4
theorem zls (e mo t l : Int) (nc : Nat) (c : S.Rows) (ns : Nat) (s : S.Rows) (ta tm r : Int) (nf : Nat) (f : S.Rows) (n : Nat) (it : S.Rows) (lo hi : Int) (m : Nat) (wt : S.Rows) (ld : Bool) (k : Nat) (p : S.Rows) (hncm : nc ≤ 1000) (hk : k ≤ 30) (hc : S.cor nc c = true) (he : -1000000 ≤ e ∧ e ≤ 1000000) (hmo : -1000000000 ≤ mo ∧ mo ≤ 1000000000)
    (hp : ∀ j, j < k → (-140000 ≤ p j 0 ∧ p j 0 ≤ 140000) ∧ (-140000 ≤ p j 1 ∧ p j 1 ≤ 140000) ∧ (-1000 ≤ p j 2 ∧ p j 2 ≤ 1000)) :
    z8 (cs4 hbs) z24 [lkA e mo t l nc c ns s ta tm r nf f n it lo hi m wt ld k p] (.c (.p (.isl 1 nc (S.val (S.outR e mo nc c k p))))) [] :=
  zo hT4 (F := z4d) rfl (zlm e mo t l nc c ns s ta tm r nf f n it lo hi m wt ld k p _)
    ⟨zv0 871 e mo t l nc c ns s ta tm r nf f n it lo hi m wt ld k p hncm hk hc he hmo hp 0 _ (Nat.zero_le _) ⟨[some 0, some 1, some 2, some 3, some 4, none], HasR.mk _ rfl rfl (by simp [hpE, WH, WB, WL, WC, WP', WA, WAs, WT, upsB, memB, heO, za, Tr.set]) (by simp [zg, WA, WC, WP', Tr.get])⟩, by simp [frzA, frzC]⟩
abbrev hpX (x nc : Nat) (c : S.Rows) : Heap := heE (x : Int) [.p (.int .i64 0), .p (.int .i64 0), .p (.int .i64 0), .p (.int .i64 0)] (.isl 2 nc (S.val c)) .ready
abbrev hpY (x nc : Nat) (c : S.Rows) : Heap := heE (x : Int) [.p (.int .i64 (c x 0)), .p (.int .i64 (c x 1)), .p (.int .i64 (c (S.nxt nc x) 0)), .p (.int .i64 (c (S.nxt nc x) 1))] (.isl 2 nc (S.val c)) (.done .ret)
omit hT4 in
theorem zt9 (fu x nc : Nat) (c : S.Rows) (hn : nc ≤ 1000) (hx : x < nc) : ∀ (i : Nat) (st : St), i ≤ x → (∃ ρ, HasR 5 ρ st (lvE nc c i) (hpX x nc c)) →
    zd (ex (cs4 hbs) (fu + 60)) 5 z17 st (.e .ret ⟨.lf, hpY x nc c⟩) :=
  z21 (σ := Nat) (lvE nc c) (fun _ => hpX x nc c) (fun i => i ≤ x) (fun i => nc - i) (fun _ => .e .ret ⟨.lf, hpY x nc c⟩) _ (fun i Q => zsd (hbs := hbs) fu i x nc c Q) fun i hi' K hL X hX => by
      have hnm : nc ≤ maxLen := Nat.le_trans hn (by decide)
      have hlt : i < nc := by omega
      have e1 : Int.tmod ((i : Int) + 1) (nc : Int) = (S.nxt nc i : Int) := S.nxt_tmod (by omega)
      have e2 : (Int.tmod ((i : Int) + 1) (nc : Int)).toNat = S.nxt nc i := by rw [e1]; rfl
      have hxx : S.nxt nc i < nc := S.nxt_lt (by omega)
      simp only [e2]
      rw [e1]
      refine brP (fun h1 => cdP (zi hlt) (cdP (z1i hlt hnm) (cdP (zbe (by omega)) (cdP (zi hxx) (brP (fun h2 => ?_) fun h2 => cdP (z1i hlt hnm) ?_))))) fun h1 => ?_
      · have hix : i = x := by have h2 := eq_of_beq h2; omega
        subst hix
        refine HasR.out (l := []) (HasR.mk (ρ := [some 0, some 1, some 2, some 3, some 4]) rfl rfl ?_ ?_) hL
        · simp [hpY, WH, WB, WL, WC, WP', WA, WAs, WT, upsB, memB, heE, za, Tr.set]
        · simp [zg]
      · have hix : i ≠ x := by have h2 := ne_of_beq_false h2; omega
        refine hX (i + 1) _ (by omega) (by omega) ⟨[some 0, some 1, some 2, some 3, some 4], HasR.mk _ rfl rfl ?_ ?_⟩ hL
        · simp [hpX, WH, WB, WL, WC, WP', WA, WAs, WT, upsB, memB, heE, za, Tr.set]
        · simp [zg, WA, WC, WP', Tr.get]
      · simp at h1; omega
theorem zkg (e mo t l : Int) (nc : Nat) (c : S.Rows) (ns : Nat) (s : S.Rows) (ta tm r : Int) (nf : Nat) (f : S.Rows) (n : Nat) (it : S.Rows) (lo hi : Int) (m : Nat) (wt : S.Rows) (ld : Bool) (k : Nat) (p : S.Rows) (x : Nat) (hn : nc ≤ 1000) (hx : x < nc) : z8 (cs4 hbs) z7y [lkA e mo t l nc c ns s ta tm r nf f n it lo hi m wt ld k p, .c (.p (.int .i64 x))] (.ag [.p (.int .i64 (c x 0)), .p (.int .i64 (c x 1)), .p (.int .i64 (c (S.nxt nc x) 0)), .p (.int .i64 (c (S.nxt nc x) 1))]) [] :=
  zo hT4 (F := z3v) rfl (zji e mo t l nc c ns s ta tm r nf f n it lo hi m wt ld k p x _)
    ⟨zt9 932 x nc c hn hx 0 _ (Nat.zero_le _) ⟨[some 0, some 1, some 2, some 3, some 4], HasR.mk _ rfl rfl (by simp [hpX, WH, WB, WL, WC, WP', WA, WAs, WT, upsB, memB, heE, za, Tr.set]) (by simp [zg, WA, WC, WP', Tr.get])⟩, by simp [frzA, frzL, frzC]⟩
theorem zg0 (e mo t l : Int) (nc : Nat) (c : S.Rows) (ns : Nat) (s : S.Rows) (ta tm r : Int) (nf : Nat) (f : S.Rows) (n : Nat) (it : S.Rows) (lo hi : Int) (m : Nat) (wt : S.Rows) (ld : Bool) (k : Nat) (p : S.Rows) (a b arm pr pi ru ix : Int) (hn : nc ≤ 1000) (hc : S.cor nc c = true) (hix : ru = 6 → 0 ≤ ix ∧ ix < nc) (harm : -1000 ≤ arm ∧ arm ≤ 1000) :
    z8 (cs4 hbs) z6b [lkA e mo t l nc c ns s ta tm r nf f n it lo hi m wt ld k p, .ag [.p (.int .i64 a), .p (.int .i64 b), .p (.int .i64 arm), .p (.int .i64 pr), .p (.int .i64 pi)], .c (.p (.int .i64 ru)), .c (.p (.int .i64 ix))] (vB (S.asH nc c ru ix arm pr pi)) [] := by
  refine zo hT4 (F := z31) rfl (zfb e mo t l nc c ns s ta tm r nf f n it lo hi m wt ld k p a b arm pr pi ru ix _) (brP (fun h1 => zj (by simp [S.asH, h1])) fun h1 => brP (fun h2 => zj (by simp [S.asH, h1, h2])) fun h2 => brP (fun h3 => ?_) fun h3 => brP (fun h4 => brP (fun h5 => zj (by simp [S.asH, h1, h2, h3, h4, h5])) fun h5 => zj (by simp [S.asH, h1, h2, h3, h4, h5])) fun h4 => zj (by simp [S.asH, h1, h2, h3, h4]))
  obtain ⟨i1, i2⟩ := hix (by simpa using h3)
  obtain ⟨x, rfl⟩ : ∃ x : Nat, ix = x := ⟨ix.toNat, by omega⟩
  have hx : x < nc := by omega
  have c1 := S.from_iff.1 hc x (Nat.zero_le _) hx
  have c2 := S.from_iff.1 hc (S.nxt nc x) (Nat.zero_le _) (S.nxt_lt (by omega))
  simp only [S.corAt, Bool.and_eq_true, S.inB_iff] at c1 c2
  have q1 := z2t (a := c (S.nxt nc x) 0 - c x 0) (b := arm) (A := 20000) (B := 1000) (by omega) (by omega) harm.1 harm.2
  simp only [Int.toNat_natCast]
  refine ⟨zkg hT4 e mo t l nc c ns s ta tm r nf f n it lo hi m wt ld k p x hn hx, cdP (z1x (by omega) (by omega)) (cdP (z1x (by omega) (by omega)) (cdP (z1x (by omega) (by omega)) (cdP (z1x (by omega) (by omega)) (brP (fun h4 => zj ?_) fun h4 => zj ?_))))⟩
  · simp only [S.asH, h1, h2, h3, S.lean, Int.toNat_natCast]; exact h4
  · simp only [S.asH, h1, h2, h3, S.lean, Int.toNat_natCast]; exact h4
end
section
variable {hbs : BsOk Tryz.prog}
theorem zig (fu i a b : Nat) (e mo t l : Int) (nc : Nat) (c : S.Rows) (ns : Nat) (s : S.Rows) (ta tm r : Int) (nf : Nat) (f : S.Rows) (n : Nat) (it : S.Rows) (lo hi : Int) (m : Nat) (wt : S.Rows) (ld : Bool) (k : Nat) (p : S.Rows) (ru ix T : Int) (q w : S.Rows) (Q : AX → St → Prop) :
 ((fun (A2 : Option Blk) => ((fun (A3 : Option Blk) => ((fun (A4 : Option Blk) => ((fun (A5 : AV) => ((fun (A6 : List CV) => ((fun (A1 : Option Blk) => ((fun (A7 : Option Blk) => ((fun (A8 : Option Blk) => ((fun (A9 : Tr) => ((fun (A0 : Tr) => ((BrP (decide ((i : Int) < (k : Int)))
 (CdP (.rng (i : Int) k)
 ((z8 (cs4 hbs) z6b [A5, (.ag A6), (vJ ru), (vJ ix)] (.c (.p (.bool (S.asH nc c ru ix (p i 2) (p i 3) (p i 4))))) []) ∧
 (BrP (S.asH nc c ru ix (p i 2) (p i 3) (p i 4))
 (BrP ((p i 3) == (2 : Int))
 (CdP (.le a a)
 (CdP (.le a a)
 (CdP (.le ((a + 1) * 8) 140737488355328)
 (CdP (.i64 ((i : Int) + (1 : Int)))
 (Q .normal ⟨A0, [A2, A7, A3, A4, A1, (some (.arr 1 3 (a + 1) (fun x32 => (fun x33 => (if (x32 < a) then (.int .i64 (q x32 x33)) else (List.getD [(.int .i64 (p i 1))] (((x32 - a) * 1) + x33) .npt)))) [2]))]⟩)))))
 (BrP ((p i 3) == (3 : Int))
 (CdP (.i64 ((i : Int) + (1 : Int)))
 (Q .normal ⟨A0, [A2, (some (.box z7 [(.sl 2 0 a), (cJ (p i 1)), (.sl 3 0 b)])), A3, A4, A1]⟩))
 (CdP (.le b b)
 (CdP (.le b b)
 (CdP (.le ((b + 1) * 8) 140737488355328)
 (CdP (.i64 ((i : Int) + (1 : Int)))
 (Q .normal ⟨A0, [A2, A8, A3, A4, A1, (some (.arr 1 3 (b + 1) (fun x32 => (fun x33 => (if (x32 < b) then (.int .i64 (w x32 x33)) else (List.getD [(.int .i64 (p i 1))] (((x32 - b) * 1) + x33) .npt)))) [3]))]⟩)))))))
 (BrP ((p i 3) == (2 : Int))
 (CdP (.le a a)
 (CdP (.le a a)
 (CdP (.le ((a + 1) * 8) 140737488355328)
 (CdP (.i64 ((i : Int) + (1 : Int)))
 (Q .normal ⟨A0, [A2, A7, A3, A4, A1, (some (.arr 1 3 (a + 1) (fun x32 => (fun x33 => (if (x32 < a) then (.int .i64 (q x32 x33)) else (List.getD [(.int .i64 (p i 0))] (((x32 - a) * 1) + x33) .npt)))) [2]))]⟩)))))
 (BrP ((p i 3) == (3 : Int))
 (CdP (.i64 ((i : Int) + (1 : Int)))
 (Q .normal ⟨A0, [A2, (some (.box z7 [(.sl 2 0 a), (cJ (p i 0)), (.sl 3 0 b)])), A3, A4, A1]⟩))
 (CdP (.le b b)
 (CdP (.le b b)
 (CdP (.le ((b + 1) * 8) 140737488355328)
 (CdP (.i64 ((i : Int) + (1 : Int)))
 (Q .normal ⟨A0, [A2, A8, A3, A4, A1, (some (.arr 1 3 (b + 1) (fun x32 => (fun x33 => (if (x32 < b) then (.int .i64 (w x32 x33)) else (List.getD [(.int .i64 (p i 0))] (((x32 - b) * 1) + x33) .npt)))) [3]))]⟩))))))))))
 (Q (.exit 0) ⟨(.nd A9 A5 (.nd (L3 (L3 (L1 (vN i)))) (vJ ix) (L5 (vT 0 0) (L1 (vS 5 k p))))), [A2, (some (.box z7 [(.sl 2 0 a), (cJ T), (.sl 3 0 b)])), A3, A4]⟩)))) (.nd A9 A5 (.nd (L3 (L3 (L1 (vJ ((i : Int) + (1 : Int)))))) (vJ ix) (L5 (vT 0 0) (L1 (vS 5 k p))))))) (L6 (L3 (L6 (L1 (vN k)) (vT 1 0))) (vJ ru)))) (some (.box z7 [(.sl 2 0 a), (cJ T), (.sl 5 0 (b + 1))])))) (some (.box z7 [(.sl 5 0 (a + 1)), (cJ T), (.sl 3 0 b)])))) (some (.box z5z A6)))) [(cJ (p i 0)), (cJ (p i 1)), (cJ (p i 2)), (cJ (p i 3)), (cJ (p i 4))])) (.c (.p (.ipt 16 (S.lk e mo t l nc c ns s ta tm r nf f n it lo hi m wt ld k p)))))) (some (.arr 1 3 b (S.val w) [])))) (some (.arr 1 3 a (S.val q) [])))) (some (.box z7 [(.p .nsl), (cJ 0), (.p .nsl)]))) = (ex (cs4 hbs) (fu + 60) 0 z3k ⟨za [(.h, lkA e mo t l nc c ns s ta tm r nf f n it lo hi m wt ld k p), (.o .h, .c (cJ ru)), (.i .h, .c (cJ ix)), (.o (.o (.o .h)), .c (.pt 1 0)), (.o (.o (.o (.o .h))), .c (cJ k)), (.i (.o (.o (.o .h))), .c (cJ i)), (.i (.i .h), .c (.pt 0 0)), (.i (.i (.i .h)), .c (cS 5 k p))], [some (.box z7 [.p .nsl, .p (.int .i64 0), .p .nsl]), some (.box z7 [.sl 2 0 a, .p (.int .i64 T), .sl 3 0 b]), some (.arr 1 zk a (S.val q) []), some (.arr 1 zk b (S.val w) [])]⟩ (fun e s => .pr (Q e (z2a [.h, .i .h, .o .h, .i (.i .h), .i (.i (.i .h)), .o (.o (.o .h)), .i (.o (.o (.o .h))), .o (.o (.o (.o .h)))] s)))).hold2 := by kernel_rfl
theorem zih (e mo t l : Int) (nc : Nat) (c : S.Rows) (ns : Nat) (s : S.Rows) (ta tm r : Int) (nf : Nat) (f : S.Rows) (n : Nat) (it : S.Rows) (lo hi : Int) (m : Nat) (wt : S.Rows) (ld : Bool) (k : Nat) (p : S.Rows) (ru ix : Int) (Q : AV → Heap → Prop) :
 ((fun (A1 : AV) => ((fun (A2 : Option Blk) => ((fun (A3 : Option Blk) => ((fun (A4 : List CV) => ((fun (A0 : Option Blk) => ((fun (A5 : Option Blk) => (((zd (ex (cs4 hbs) 994) 0 z3k ⟨(.nd (.nd (L4 (L6 (L1 (vN k)) (vT 1 0)) (L1 A1)) (vJ ru) (L2 (L1 (.c (.p (.ipt 1 (fun x25 => (S.lk e mo t l nc c ns s ta tm r nf f n it lo hi m wt ld k p (15 + x25))))))))) A1 (.nd (L4 (L3 (L1 (vJ 0))) (L1 A1)) (vJ ix) (L5 (vT 0 0) (L1 (vS 5 k p))))), [A2, A2]⟩ (.e (.exit 0) ⟨(L4 (L3 (L3 (L1 (vT 1 0)))) (L2 (L1 (vT 0 0)))), [A2, A0, A5, A3]⟩)) ∧
 (Q (.ag A4) [A0, A0, A5, A3])))) (some (.arr 1 3 n (S.val (S.wcR nc c ru ix p 0)) [])))) (some (.box z7 A4)))) [(.sl 2 0 n), (cJ (S.wc nc c ru ix p n)), (.sl 3 0 m)])) (some (.arr 1 3 m (S.val (S.wcR nc c ru ix p (n + 1))) [])))) (some (.box z7 [(.p .nsl), (cJ 0), (.p .nsl)])))) (.c (.p (.ipt 16 (S.lk e mo t l nc c ns s ta tm r nf f n it lo hi m wt ld k p))))) = (ex (cs4 hbs) 1000 0 zal ⟨ofL 0 [lkA e mo t l nc c ns s ta tm r nf f n it lo hi m wt ld k p, .c (cJ ru), .c (cJ ix)] .lf, []⟩ (endK z3i.rs (fun r H => .pr (Q r H)) fun _ _ => .no)).hold2 := by kernel_rfl
theorem zg3 (fu i N : Nat) (e mo t l : Int) (nc : Nat) (c : S.Rows) (ns : Nat) (s : S.Rows) (ta tm r : Int) (nf : Nat) (f : S.Rows) (n : Nat) (it : S.Rows) (lo hi : Int) (m : Nat) (wt : S.Rows) (ld : Bool) (k : Nat) (p : S.Rows) (I : Int) (G : S.Rows) (Q : AX → St → Prop) :
 ((fun (A1 : AV) => ((fun (A0 : Heap) => ((fun (A2 : AV) => ((fun (A3 : Tr) => ((fun (A4 : Tr) => ((BrP (decide ((i : Int) < (N : Int)))
 (CdP (.rng (i : Int) N)
 (BrP (decide ((G i 0) < (0 : Int)))
 (CdP (.i64 ((2 : Int) + I))
 (Q .ret ⟨(L4 (L4 (L6 A3 (vN i)) (L3 (L6 (L1 (vN i)) A2))) (.nd A4 (vJ ((2 : Int) + I)) (L3 (L1 (vJ I))))), A0⟩))
 (CdP (.i64 ((i : Int) + (1 : Int)))
 (Q .normal ⟨(L4 (L4 (L3 A3) (L3 (L6 (L1 (vJ ((i : Int) + (1 : Int)))) A2))) (L4 A4 (L3 (L1 (vJ I))))), A0⟩))))
 (Q (.exit 2) ⟨(L4 (L4 (L3 A3) (L3 (L6 (L1 (vN i)) A2))) (L4 A4 (L3 (L1 (vJ I))))), A0⟩)))) (L6 (L3 (L1 (vJ (N : Int)))) (vJ I)))) (L3 (L1 (.c (.p (.isl 1 N (S.val G)))))))) (.ag [(.ref 1), (.ref 2), (.ref 3), (.ref 4), (.ref 5), (.ref 6)]))) [(some (.box zas [(.ref 1), (.ref 2), (.ref 3), (.ref 4), (.ref 5), (.ref 6)])), (some (.clo z1u [A1] [])), (some (.clo z1v [A1] [])), (some (.clo z23 [A1] [])), (some (.clo z1n [A1] [])), (some (.clo z24 [A1] [])), (some (.clo z1g [A1] []))])) (.c (.p (.ipt 16 (S.lk e mo t l nc c ns s ta tm r nf f n it lo hi m wt ld k p))))) = (ex (cs4 hbs) (fu + 60) 0 zu ⟨za [(.o (.i (.o .h)), .ag [.ref 1, .ref 2, .ref 3, .ref 4, .ref 5, .ref 6]), (.i (.i (.o .h)), .c (cJ I)), (.i (.o .h), .c (cJ I)), (.o (.o (.o (.o .h))), .c (.p (.isl 1 N (S.val G)))), (.o (.i (.o (.o .h))), .c (cJ i)), (.i (.o (.o (.o .h))), .c (cJ N))], [some (.box zas [.ref 1, .ref 2, .ref 3, .ref 4, .ref 5, .ref 6]), some (.clo z1u [lkA e mo t l nc c ns s ta tm r nf f n it lo hi m wt ld k p] []), some (.clo z1v [lkA e mo t l nc c ns s ta tm r nf f n it lo hi m wt ld k p] []), some (.clo z23 [lkA e mo t l nc c ns s ta tm r nf f n it lo hi m wt ld k p] []), some (.clo z1n [lkA e mo t l nc c ns s ta tm r nf f n it lo hi m wt ld k p] []), some (.clo z24 [lkA e mo t l nc c ns s ta tm r nf f n it lo hi m wt ld k p] []), some (.clo z1g [lkA e mo t l nc c ns s ta tm r nf f n it lo hi m wt ld k p] [])]⟩ (fun e s => .pr (Q e (z2a [.i .h, .i (.o .h), .o (.o .h), .i (.i (.o .h)), .o (.i (.o .h)), .i (.o (.o (.o .h))), .o (.i (.o (.o .h))), .o (.o (.o (.o .h)))] s)))).hold2 := by kernel_rfl
theorem zfh (e mo t l : Int) (nc : Nat) (c : S.Rows) (ns : Nat) (s : S.Rows) (ta tm r : Int) (nf : Nat) (f : S.Rows) (n : Nat) (it : S.Rows) (lo hi : Int) (m : Nat) (wt : S.Rows) (ld : Bool) (k : Nat) (p : S.Rows) (Q : AV → Heap → Prop) :
 ((fun (A1 : AV) => ((fun (A0 : Heap) => ((fun (A2 : AV) => ((fun (A3 : AV) => ((fun (A4 : AV) => ((fun (A5 : AV) => ((fun (A6 : AV) => ((fun (A7 : AV) => ((fun (A8 : AV) => ((fun (A9 : AV) => ((fun (A10 : AV) => ((fun (A11 : Tr) => ((fun (A12 : AV) => ((fun (A13 : Tr) => ((fun (A14 : AV) => ((fun (A15 : AV) => ((fun (A16 : AV) => ((fun (A17 : AV) => ((fun (A18 : AV) => ((fun (A19 : AV) => ((fun (A20 : AV) => ((fun (A21 : AV) => ((fun (A22 : AV) => ((fun (A23 : AV) => ((fun (A24 : AV) => (((z8 (cs4 hbs) z1u [A1] A20 []) ∧
 ((zd (ex (cs4 hbs) 987) 0 zu ⟨(.nd (L4 (.nd (L3 (L1 A20)) (vJ 0) (L1 (vB true))) (.nd A11 (.c (.ref 1)) (L1 (.c (.ref 1))))) A1 (.nd (.nd (L6 (L1 (vN ns)) A1) (vJ 0) (L1 (vJ 0))) (vJ 0) (L4 (L1 (vJ 0)) (L1 (.c (.ref 1)))))), A0⟩ (.br (S.from_ (S.nonneg (S.subR s (S.stS n it))) ns 0) (.e (.exit 2) ⟨(L4 A13 (L2 (L3 (L1 (vJ 0))))), A0⟩) (.e .ret ⟨(L4 (L3 (L1 A16)) (L1 (vJ ((2 : Int) + (0 : Int))))), []⟩))) ∧
 (BrP (S.from_ (S.nonneg (S.subR s (S.stS n it))) ns 0)
 ((z8 (cs4 hbs) z1v [A1] (.c (.p (.isl 1 1 (S.oneV (tm - hi))))) []) ∧
 ((zd (ex (cs4 hbs) 986) 0 zu ⟨(L4 (L4 (L4 (L3 (L1 (.c (.p (.isl 1 1 (S.oneV (tm - hi))))))) (L1 (vB true))) (.nd A11 (.c (.ref 2)) (L1 (.c (.ref 2))))) (L4 (.nd (L3 (L1 (vN 1))) A7 (L5 A7 (L1 A7))) (L4 (L1 A7) (L1 (.c (.ref 2)))))), A0⟩ (.br (S.from_ (S.nonneg (S.num (S.oneV (tm - hi)))) 1 0) (.e (.exit 2) ⟨(L4 A13 (L2 (L3 (L1 A7)))), A0⟩) (.e .ret ⟨(L4 (L3 (L1 A14)) (L1 (vJ ((2 : Int) + ((0 : Int) + (1 : Int)))))), []⟩))) ∧
 (BrP (S.from_ (S.nonneg (S.num (S.oneV (tm - hi)))) 1 0)
 ((z8 (cs4 hbs) z23 [A1] A24 []) ∧
 ((zd (ex (cs4 hbs) 985) 0 zu ⟨(L4 (L4 (L4 (L3 (L1 A24)) (L1 (vB true))) (.nd A11 (.c (.ref 3)) (L1 (.c (.ref 3))))) (L4 (.nd (L3 (L1 (vN nf))) A6 (L5 A6 (L1 A6))) (L4 (L1 A6) (L1 (.c (.ref 3)))))), A0⟩ (.br (S.from_ (S.nonneg (S.wetR f wt)) nf 0) (.e (.exit 2) ⟨(L4 A13 (L2 (L3 (L1 A6)))), A0⟩) (.e .ret ⟨(L4 (L3 (L1 A18)) (L1 A19)), []⟩))) ∧
 (BrP (S.from_ (S.nonneg (S.wetR f wt)) nf 0)
 ((z8 (cs4 hbs) z1n [A1] A21 []) ∧
 ((zd (ex (cs4 hbs) 984) 0 zu ⟨(L4 (L4 (L4 (L3 (L1 A21)) (L1 (vB true))) (.nd A11 (.c (.ref 4)) (L1 (.c (.ref 4))))) (L4 (.nd (L3 (L1 (vN 1))) A5 (L5 A5 (L1 A5))) (L4 (L1 A5) (L1 (.c (.ref 4)))))), A0⟩ (.br (S.from_ (S.nonneg (S.num (S.oneV (S.heavyX e t l ld k p)))) 1 0) (.e (.exit 2) ⟨(L4 A13 (L2 (L3 (L1 A5)))), A0⟩) (.e .ret ⟨(L4 (L3 (L1 A9)) (L1 A15)), []⟩))) ∧
 (BrP (S.from_ (S.nonneg (S.num (S.oneV (S.heavyX e t l ld k p)))) 1 0)
 ((z8 (cs4 hbs) z24 [A1] A22 []) ∧
 ((zd (ex (cs4 hbs) 983) 0 zu ⟨(L4 (L4 (L4 (L3 (L1 A22)) (L1 (vB true))) (.nd A11 (.c (.ref 5)) (L1 (.c (.ref 5))))) (L4 (.nd (L3 (L1 (vN nc))) A4 (L5 A4 (L1 A4))) (L4 (L1 A4) (L1 (.c (.ref 5)))))), A0⟩ (.br (S.from_ (S.nonneg (S.outR e mo nc c k p)) nc 0) (.e (.exit 2) ⟨(L4 A13 (L2 (L3 (L1 A4)))), A0⟩) (.e .ret ⟨(L4 (L3 (L1 A17)) (L1 A10)), []⟩))) ∧
 (BrP (S.from_ (S.nonneg (S.outR e mo nc c k p)) nc 0)
 ((z8 (cs4 hbs) z1g [A1] A23 []) ∧
 ((zd (ex (cs4 hbs) 982) 0 zu ⟨(L4 (L4 (L4 (L3 (L1 A23)) (L1 (vB true))) (.nd A11 (.c (.ref 6)) (L1 (.c (.ref 6))))) (L4 (.nd (L3 (L1 (vJ (((S.b01 ld) : Nat) : Int)))) A3 (L5 A3 (L1 A3))) (L4 (L1 A3) (L1 (.c (.ref 6)))))), A0⟩ (.br (S.from_ (S.nonneg (S.num (S.oneV (lo - r)))) (S.b01 ld) 0) (.e (.exit 2) ⟨(L4 A13 (L2 (L3 (L1 A3)))), A0⟩) (.e .ret ⟨(L4 (L3 (L1 A12)) (L1 A8)), []⟩))) ∧
 (BrP (S.from_ (S.nonneg (S.num (S.oneV (lo - r)))) (S.b01 ld) 0)
 (Q (.tp [(vJ 1), (vJ 0)]) A0)
 (Q (.tp [A8, A12]) []))))
 (Q (.tp [A10, A17]) []))))
 (Q (.tp [A15, A9]) []))))
 (Q (.tp [A19, A18]) []))))
 (Q (.tp [(vJ ((2 : Int) + ((0 : Int) + (1 : Int)))), A14]) []))))
 (Q (.tp [(vJ ((2 : Int) + (0 : Int))), A16]) [])))))) (.c (.p (.isl 1 nf (S.val (S.wetR f wt))))))) (.c (.p (.isl 1 (S.b01 ld) (S.oneV (lo - r))))))) (.c (.p (.isl 1 nc (S.val (S.outR e mo nc c k p))))))) (.c (.p (.isl 1 1 (S.oneV (S.heavyX e t l ld k p))))))) (.c (.p (.isl 1 ns (S.val (S.subR s (S.stS n it)))))))) (vJ ((2 : Int) + (((0 : Int) + (1 : Int)) + (1 : Int)))))) (vJ (((S.fst (S.nonneg (S.wetR f wt)) nf 0) : Nat) : Int)))) (vJ (((S.fst (S.nonneg (S.outR e mo nc c k p)) nc 0) : Nat) : Int)))) (vJ (((S.fst (S.nonneg (S.subR s (S.stS n it))) ns 0) : Nat) : Int)))) (vJ ((2 : Int) + ((((0 : Int) + (1 : Int)) + (1 : Int)) + (1 : Int)))))) (vJ (((S.fst (S.nonneg (S.num (S.oneV (tm - hi)))) 1 0) : Nat) : Int)))) (L2 (L3 (L1 A2))))) (vJ (((S.fst (S.nonneg (S.num (S.oneV (lo - r)))) (S.b01 ld) 0) : Nat) : Int)))) (L6 (L1 (vJ 0)) A2))) (vJ ((2 : Int) + (((((0 : Int) + (1 : Int)) + (1 : Int)) + (1 : Int)) + (1 : Int)))))) (vJ (((S.fst (S.nonneg (S.num (S.oneV (S.heavyX e t l ld k p)))) 1 0) : Nat) : Int)))) (vJ ((2 : Int) + ((((((0 : Int) + (1 : Int)) + (1 : Int)) + (1 : Int)) + (1 : Int)) + (1 : Int)))))) (vJ ((0 : Int) + (1 : Int))))) (vJ (((0 : Int) + (1 : Int)) + (1 : Int))))) (vJ ((((0 : Int) + (1 : Int)) + (1 : Int)) + (1 : Int))))) (vJ (((((0 : Int) + (1 : Int)) + (1 : Int)) + (1 : Int)) + (1 : Int))))) (vJ ((((((0 : Int) + (1 : Int)) + (1 : Int)) + (1 : Int)) + (1 : Int)) + (1 : Int))))) (.ag [(.ref 1), (.ref 2), (.ref 3), (.ref 4), (.ref 5), (.ref 6)]))) [(some (.box zas [(.ref 1), (.ref 2), (.ref 3), (.ref 4), (.ref 5), (.ref 6)])), (some (.clo z1u [A1] [])), (some (.clo z1v [A1] [])), (some (.clo z23 [A1] [])), (some (.clo z1n [A1] [])), (some (.clo z24 [A1] [])), (some (.clo z1g [A1] []))])) (.c (.p (.ipt 16 (S.lk e mo t l nc c ns s ta tm r nf f n it lo hi m wt ld k p))))) = (ex (cs4 hbs) 1000 0 za3 ⟨ofL 0 [lkA e mo t l nc c ns s ta tm r nf f n it lo hi m wt ld k p] .lf, []⟩ (endK z34.rs (fun r H => .pr (Q r H)) fun _ _ => .no)).hold2 := by kernel_rfl
end
end Go.Ab.B
namespace Go.Ab.S
theorem fst_step {p : Nat → Bool} {n i : Nat} (h : i < n) (hp : p i = true) : fst p n i = fst p n (i + 1) := by
  unfold fst
  rw [show n - i = (n - (i + 1)) + 1 by omega]
  simp only [fstF, hp]
theorem fst_at {p : Nat → Bool} {n i : Nat} (h : i < n) (hp : p i = false) : fst p n i = i := by
  unfold fst
  rw [show n - i = (n - (i + 1)) + 1 by omega]
  simp only [fstF, hp]
theorem zdz {p : Nat → Bool} {n : Nat} : ∀ {k i : Nat}, n - i = k → from_ p n i = false → i ≤ fst p n i ∧ fst p n i < n ∧ p (fst p n i) = false ∧ ∀ j, i ≤ j → j < fst p n i → p j = true
  | 0, i, hk, h => by rw [from_end (by omega)] at h; cases h
  | k + 1, i, hk, h => by
    have hlt : i < n := by omega
    cases hp : p i with
    | false => rw [fst_at hlt hp]; exact ⟨Nat.le_refl _, hlt, hp, fun j h1 h2 => by omega⟩
    | true =>
      rw [from_step hlt, hp, Bool.true_and] at h
      obtain ⟨h1, h2, h3, h4⟩ := zdz (k := k) (i := i + 1) (by omega) h
      rw [fst_step hlt hp]
      refine ⟨by omega, h2, h3, fun j h5 h6 => ?_⟩
      by_cases hj : j = i
      · subst hj; exact hp
      · exact h4 j (by omega) h6
end Go.Ab.S
namespace Go.Ab.B
open Go.Proofs
section
variable {hbs : BsOk Tryz.prog} (hT4 : zq (cs4 hbs))
abbrev zbq (e mo t l : Int) (nc : Nat) (c : S.Rows) (ns : Nat) (s : S.Rows) (ta tm r : Int) (nf : Nat) (f : S.Rows) (n : Nat) (it : S.Rows) (lo hi : Int) (m : Nat) (wt : S.Rows) (ld : Bool) (k : Nat) (p : S.Rows) (ru ix : Int) (i : Nat) : List (Ps × AV) := [(.h, lkA e mo t l nc c ns s ta tm r nf f n it lo hi m wt ld k p), (.o .h, .c (.p (.int .i64 ru))), (.i .h, .c (.p (.int .i64 ix))), (.o (.o (.o .h)), .c (.pt 1 0)), (.o (.o (.o (.o .h))), .c (.p (.int .i64 k))), (.i (.o (.o (.o .h))), .c (.p (.int .i64 i))), (.i (.i .h), .c (.pt 0 0)), (.i (.i (.i .h)), .c (.p (.isl 5 k (S.val p))))]
abbrev hpW (nc : Nat) (c : S.Rows) (ru ix : Int) (p : S.Rows) (n a b : Nat) (T : Int) : Heap := [some (.box z7 [.p .nsl, .p (.int .i64 0), .p .nsl]), some (.box z7 [.sl 2 0 a, .p (.int .i64 T), .sl 3 0 b]), some (.arr 1 zk a (S.val (S.wcR nc c ru ix p 0)) []), some (.arr 1 zk b (S.val (S.wcR nc c ru ix p (n + 1))) [])]
abbrev trW (nc : Nat) (c : S.Rows) (ru ix : Int) (p : S.Rows) (n m : Nat) : zr := .e (.exit 0) ⟨za [(.i (.i .h), .c (.pt 0 0)), (.o (.o (.o .h)), .c (.pt 1 0))], hpW nc c ru ix p n n m (S.wc nc c ru ix p n)⟩
def tkAt (n i : Nat) (x : Int) : Int := match Nat.blt n i with | true => x | false => 0
omit hT4 in
theorem z11t (n : Nat) (x : Int) : tkAt n 0 x = 0 := by simp only [tkAt, S.blt_f (Nat.zero_le n)]
include hT4
theorem zik (fu : Nat) (e mo t l : Int) (nc : Nat) (c : S.Rows) (ns : Nat) (s : S.Rows) (ta tm r : Int) (nf : Nat) (f : S.Rows) (n : Nat) (it : S.Rows) (lo hi : Int) (m : Nat) (wt : S.Rows) (ld : Bool) (k : Nat) (p : S.Rows) (ru ix : Int) (hk : k = n + 1 + m) (hn : n ≤ 1000) (hm : m ≤ 1000) (hnc : nc ≤ 1000) (hc : S.cor nc c = true) (hix : ru = 6 → 0 ≤ ix ∧ ix < nc) (hp2 : ∀ i, i < k → -1000 ≤ p i 2 ∧ p i 2 ≤ 1000) (h2 : ∀ i, i < n → p i 3 = 2) (h3 : p n 3 = 3) (h4 : ∀ j, j < m → p (n + 1 + j) 3 = 4) :
    ∀ (i : Nat) (st : St), i ≤ k → (∃ ρ, HasR 0 ρ st (zbq e mo t l nc c ns s ta tm r nf f n it lo hi m wt ld k p ru ix i) (hpW nc c ru ix p n (min i n) (i - (n + 1)) (tkAt n i (S.wc nc c ru ix p n)))) →
    zd (ex (cs4 hbs) (fu + 60)) 0 z3k st (trW nc c ru ix p n m) :=
  z21 (σ := Nat) (zbq e mo t l nc c ns s ta tm r nf f n it lo hi m wt ld k p ru ix) (fun i => hpW nc c ru ix p n (min i n) (i - (n + 1)) (tkAt n i (S.wc nc c ru ix p n))) (fun i => i ≤ k) (fun i => k - i) (fun _ => trW nc c ru ix p n m) _ (fun i Q => zig (hbs := hbs) fu i (min i n) (i - (n + 1)) e mo t l nc c ns s ta tm r nf f n it lo hi m wt ld k p ru ix (tkAt n i (S.wc nc c ru ix p n)) (S.wcR nc c ru ix p 0) (S.wcR nc c ru ix p (n + 1)) Q) fun i hi' K hL X hX => by
      have wv : ∀ b, S.asH nc c ru ix (p i 2) (p i 3) (p i 4) = b → S.wc nc c ru ix p i = S.endOf b (p i 0) (p i 1) := fun b hb => by simp only [S.wc, hb]
      have item : ∀ (x : Int) (s' : St), i < n → x = S.wc nc c ru ix p i → (∃ ρ, HasR 0 ρ s' (zbq e mo t l nc c ns s ta tm r nf f n it lo hi m wt ld k p ru ix (i + 1)) (hpW nc c ru ix p n (min i n + 1) (i - (n + 1)) (tkAt n i (S.wc nc c ru ix p n)))) → X s' := fun x s' hin hx h => by
        refine hX (i + 1) s' (by omega) (by omega) ?_ hL
        have e1 : min (i + 1) n = min i n + 1 := by omega
        have e2 : i + 1 - (n + 1) = i - (n + 1) := by omega
        have e3 : tkAt n (i + 1) (S.wc nc c ru ix p n) = tkAt n i (S.wc nc c ru ix p n) := by simp only [tkAt, S.blt_f (show i + 1 ≤ n by omega), S.blt_f (show i ≤ n by omega)]
        rw [e1, e2, e3]
        exact h
      have tank : ∀ (s' : St), i = n → (∃ ρ, HasR 0 ρ s' (zbq e mo t l nc c ns s ta tm r nf f n it lo hi m wt ld k p ru ix (i + 1)) (hpW nc c ru ix p n (min i n) (i - (n + 1)) (S.wc nc c ru ix p i))) → X s' := fun s' hin h => by
        refine hX (i + 1) s' (by omega) (by omega) ?_ hL
        have e1 : min (i + 1) n = min i n := by omega
        have e2 : i + 1 - (n + 1) = i - (n + 1) := by omega
        have e3 : tkAt n (i + 1) (S.wc nc c ru ix p n) = S.wc nc c ru ix p i := by
          have : Nat.blt n (i + 1) = true := S.blt_t (by omega)
          simp only [tkAt, this]
          rw [hin]
        rw [e1, e2, e3]
        exact h
      have water : ∀ (s' : St), n < i → i < k → (∃ ρ, HasR 0 ρ s' (zbq e mo t l nc c ns s ta tm r nf f n it lo hi m wt ld k p ru ix (i + 1)) (hpW nc c ru ix p n (min i n) (i - (n + 1) + 1) (tkAt n i (S.wc nc c ru ix p n)))) → X s' := fun s' hin hik h => by
        refine hX (i + 1) s' (by omega) (by omega) ?_ hL
        have e1 : min (i + 1) n = min i n := by omega
        have e2 : i + 1 - (n + 1) = i - (n + 1) + 1 := by omega
        have e3 : tkAt n (i + 1) (S.wc nc c ru ix p n) = tkAt n i (S.wc nc c ru ix p n) := by simp only [tkAt, S.blt_t (show n < i + 1 by omega), S.blt_t (show n < i by omega)]
        rw [e1, e2, e3]
        exact h
      have kind : i < k → (i < n ∧ p i 3 = 2) ∨ (i = n ∧ p i 3 = 3) ∨ (n < i ∧ p i 3 = 4) := fun hik => by
        rcases Nat.lt_trichotomy i n with h | h | h
        · exact .inl ⟨h, h2 i h⟩
        · exact .inr (.inl ⟨h, by rw [h]; exact h3⟩)
        · refine .inr (.inr ⟨h, ?_⟩)
          have := h4 (i - (n + 1)) (by omega)
          rwa [show n + 1 + (i - (n + 1)) = i by omega] at this
      refine brP (fun h1 => ?_) fun h1 => ?_
      · have hlt : i < k := by simpa using h1
        have leaf : ∀ (b : Bool), S.asH nc c ru ix (p i 2) (p i 3) (p i 4) = b → ∀ x : Int, x = S.endOf b (p i 0) (p i 1) → x = S.wc nc c ru ix p i := fun b hb x hx => by rw [hx, wv b hb]
        refine cdP (zi hlt) ⟨zg0 hT4 e mo t l nc c ns s ta tm r nf f n it lo hi m wt ld k p _ _ _ _ _ _ _ hnc hc hix (hp2 i hlt), brP (fun hA => ?_) fun hA => ?_⟩
        · refine brP (fun hB => ?_) fun hB => brP (fun hC => ?_) fun hC => ?_
          · have hin : i < n := by rcases kind hlt with h | h | h; exact h.1; all_goals (have := h.2; simp [this] at hB)
            refine cdP (Nat.le_refl _) (cdP (Nat.le_refl _) (cdP (by simp [Cd.holds]; omega) (cdP (by simp [Cd.holds]; omega) ?_)))
            refine item _ _ hin (leaf true hA _ rfl) ⟨[some 0, some 1, some 5, some 3], HasR.mk _ rfl rfl ?_ ?_⟩
            · simp [WH, WB, WL, WC, WP', upsB, memB]
              exact fun j hj => z2v hj (by
                have e0 : min i n = i := by omega
                rw [e0]; show PV.int .i64 (p i 1) = .int .i64 (S.wc nc c ru ix p (0 + i))
                rw [Nat.zero_add, wv true hA]; rfl)
            · simp [zg, WA, WC, WP', Tr.get, lkA]
          · have hin : i = n := by
              rcases kind hlt with h | h | h
              · have := h.2; simp [this] at hB
              · exact h.1
              · have := h.2; simp [this] at hC
            refine cdP (by simp [Cd.holds]; omega) ?_
            refine tank _ hin ⟨[some 0, some 1, some 2, some 3], HasR.mk _ rfl rfl ?_ ?_⟩
            · have := wv true hA
              simp [WH, WB, WL, WC, WP', upsB, memB, this, S.endOf]
            · simp [zg, WA, WC, WP', Tr.get, lkA]
          · have hin : n < i := by
              rcases kind hlt with h | h | h
              · have := h.2; simp [this] at hB
              · have := h.2; simp [this] at hC
              · exact h.1
            refine cdP (Nat.le_refl _) (cdP (Nat.le_refl _) (cdP (by simp [Cd.holds]; omega) (cdP (by simp [Cd.holds]; omega) ?_)))
            refine water _ hin hlt ⟨[some 0, some 1, some 2, some 5], HasR.mk _ rfl rfl ?_ ?_⟩
            · simp [WH, WB, WL, WC, WP', upsB, memB]
              exact fun j hj => z2v hj (by
                show PV.int .i64 (p i 1) = .int .i64 (S.wc nc c ru ix p (n + 1 + (i - (n + 1))))
                rw [show n + 1 + (i - (n + 1)) = i by omega, wv true hA]; rfl)
            · simp [zg, WA, WC, WP', Tr.get, lkA]
        · refine brP (fun hB => ?_) fun hB => brP (fun hC => ?_) fun hC => ?_
          · have hin : i < n := by rcases kind hlt with h | h | h; exact h.1; all_goals (have := h.2; simp [this] at hB)
            refine cdP (Nat.le_refl _) (cdP (Nat.le_refl _) (cdP (by simp [Cd.holds]; omega) (cdP (by simp [Cd.holds]; omega) ?_)))
            refine item _ _ hin (leaf false hA _ rfl) ⟨[some 0, some 1, some 5, some 3], HasR.mk _ rfl rfl ?_ ?_⟩
            · simp [WH, WB, WL, WC, WP', upsB, memB]
              exact fun j hj => z2v hj (by
                have e0 : min i n = i := by omega
                rw [e0]; show PV.int .i64 (p i 0) = .int .i64 (S.wc nc c ru ix p (0 + i))
                rw [Nat.zero_add, wv false hA]; rfl)
            · simp [zg, WA, WC, WP', Tr.get, lkA]
          · have hin : i = n := by
              rcases kind hlt with h | h | h
              · have := h.2; simp [this] at hB
              · exact h.1
              · have := h.2; simp [this] at hC
            refine cdP (by simp [Cd.holds]; omega) ?_
            refine tank _ hin ⟨[some 0, some 1, some 2, some 3], HasR.mk _ rfl rfl ?_ ?_⟩
            · have := wv false hA
              simp [WH, WB, WL, WC, WP', upsB, memB, this, S.endOf]
            · simp [zg, WA, WC, WP', Tr.get, lkA]
          · have hin : n < i := by
              rcases kind hlt with h | h | h
              · have := h.2; simp [this] at hB
              · have := h.2; simp [this] at hC
              · exact h.1
            refine cdP (Nat.le_refl _) (cdP (Nat.le_refl _) (cdP (by simp [Cd.holds]; omega) (cdP (by simp [Cd.holds]; omega) ?_)))
            refine water _ hin hlt ⟨[some 0, some 1, some 2, some 5], HasR.mk _ rfl rfl ?_ ?_⟩
            · simp [WH, WB, WL, WC, WP', upsB, memB]
              exact fun j hj => z2v hj (by
                show PV.int .i64 (p i 0) = .int .i64 (S.wc nc c ru ix p (n + 1 + (i - (n + 1))))
                rw [show n + 1 + (i - (n + 1)) = i by omega, wv false hA]; rfl)
            · simp [zg, WA, WC, WP', Tr.get, lkA]
      · have hlt : k ≤ i := by simpa using h1
        have e0 : min i n = n := by omega
        have e1 : i - (n + 1) = m := by omega
        have e2 : tkAt n i (S.wc nc c ru ix p n) = S.wc nc c ru ix p n := by simp only [tkAt, S.blt_t (show n < i by omega)]
        simp only [e0, e1, e2]
        refine HasR.out (l := [(.i (.i .h), .c (.pt 0 0)), (.o (.o (.o .h)), .c (.pt 1 0))]) (HasR.mk (ρ := [some 0, some 1, some 2, some 3]) rfl rfl ?_ ?_) hL
        · simp [WH, WB, WL, WC, WP', upsB, memB]
        · simp [zg, WA, WC, WP', Tr.get]
theorem zha (e mo t l : Int) (nc : Nat) (c : S.Rows) (ns : Nat) (s : S.Rows) (ta tm r : Int) (nf : Nat) (f : S.Rows) (n : Nat) (it : S.Rows) (lo hi : Int) (m : Nat) (wt : S.Rows) (ld : Bool) (k : Nat) (p : S.Rows) (ru ix : Int) (hk : k = n + 1 + m) (hn : n ≤ 1000) (hm : m ≤ 1000) (hnc : nc ≤ 1000) (hc : S.cor nc c = true) (hix : ru = 6 → 0 ≤ ix ∧ ix < nc) (hp2 : ∀ i, i < k → -1000 ≤ p i 2 ∧ p i 2 ≤ 1000) (h2 : ∀ i, i < n → p i 3 = 2) (h3 : p n 3 = 3) (h4 : ∀ j, j < m → p (n + 1 + j) 3 = 4) :
    z8 (cs4 hbs) z75 [lkA e mo t l nc c ns s ta tm r nf f n it lo hi m wt ld k p, .c (.p (.int .i64 ru)), .c (.p (.int .i64 ix))] (.ag [.p (.isl 1 n (S.val (S.wcR nc c ru ix p 0))), .p (.int .i64 (S.wc nc c ru ix p n)), .p (.isl 1 m (S.val (S.wcR nc c ru ix p (n + 1))))]) [] :=
  zo hT4 (F := z3i) rfl (zih e mo t l nc c ns s ta tm r nf f n it lo hi m wt ld k p ru ix _)
    ⟨zik hT4 934 e mo t l nc c ns s ta tm r nf f n it lo hi m wt ld k p ru ix hk hn hm hnc hc hix hp2 h2 h3 h4 0 _ (Nat.zero_le _) ⟨[some 0, some 1, none, none], HasR.mk _ rfl rfl (by simp [hpW, z11t, WH, WB, WL, WC, WP', upsB, memB]) (by simp [zg, WA, WC, WP', Tr.get, lkA])⟩, by simp [frzA, frzL, frzC]⟩
abbrev lvB (N : Nat) (g : Nat → Nat → PV) (I : Int) (i : Nat) : List (Ps × AV) := [(.o (.i (.o .h)), .ag [.ref 1, .ref 2, .ref 3, .ref 4, .ref 5, .ref 6]), (.i (.i (.o .h)), .c (.p (.int .i64 I))), (.i (.o .h), .c (.p (.int .i64 I))), (.o (.o (.o (.o .h))), .c (.p (.isl 1 N g))), (.o (.i (.o (.o .h))), .c (.p (.int .i64 i))), (.i (.o (.o (.o .h))), .c (.p (.int .i64 N)))]
abbrev hpB (e mo t l : Int) (nc : Nat) (c : S.Rows) (ns : Nat) (s : S.Rows) (ta tm r : Int) (nf : Nat) (f : S.Rows) (n : Nat) (it : S.Rows) (lo hi : Int) (m : Nat) (wt : S.Rows) (ld : Bool) (k : Nat) (p : S.Rows) : Heap := [some (.box zas [.ref 1, .ref 2, .ref 3, .ref 4, .ref 5, .ref 6]), some (.clo z1u [lkA e mo t l nc c ns s ta tm r nf f n it lo hi m wt ld k p] []), some (.clo z1v [lkA e mo t l nc c ns s ta tm r nf f n it lo hi m wt ld k p] []), some (.clo z23 [lkA e mo t l nc c ns s ta tm r nf f n it lo hi m wt ld k p] []), some (.clo z1n [lkA e mo t l nc c ns s ta tm r nf f n it lo hi m wt ld k p] []), some (.clo z24 [lkA e mo t l nc c ns s ta tm r nf f n it lo hi m wt ld k p] []), some (.clo z1g [lkA e mo t l nc c ns s ta tm r nf f n it lo hi m wt ld k p] [])]
abbrev trB (e mo t l : Int) (nc : Nat) (c : S.Rows) (ns : Nat) (s : S.Rows) (ta tm r : Int) (nf : Nat) (f : S.Rows) (n : Nat) (it : S.Rows) (lo hi : Int) (m : Nat) (wt : S.Rows) (ld : Bool) (k : Nat) (p : S.Rows) (N : Nat) (G : S.Rows) (I : Int) (i : Nat) : zr := .br (S.from_ (S.nonneg G) N i) (.e (.exit 2) ⟨za [(.o (.i (.o .h)), .ag [.ref 1, .ref 2, .ref 3, .ref 4, .ref 5, .ref 6]), (.i (.i (.o .h)), .c (.p (.int .i64 I)))], hpB e mo t l nc c ns s ta tm r nf f n it lo hi m wt ld k p⟩) (.e .ret ⟨za [(.i .h, .c (.p (.int .i64 (2 + I)))), (.o (.o .h), .c (.p (.int .i64 (S.fst (S.nonneg G) N i))))], []⟩)
omit hT4 in
theorem zg5 (fu N : Nat) (e mo t l : Int) (nc : Nat) (c : S.Rows) (ns : Nat) (s : S.Rows) (ta tm r : Int) (nf : Nat) (f : S.Rows) (n : Nat) (it : S.Rows) (lo hi : Int) (m : Nat) (wt : S.Rows) (ld : Bool) (k : Nat) (p : S.Rows) (I : Int) (G : S.Rows) (hN : N ≤ 1000) (hI : 0 ≤ I ∧ I ≤ 10) : ∀ (i : Nat) (st : St), i ≤ N → (∃ ρ, HasR 0 ρ st (lvB N (S.val G) I i) (hpB e mo t l nc c ns s ta tm r nf f n it lo hi m wt ld k p)) →
    zd (ex (cs4 hbs) (fu + 60)) 0 zu st (trB e mo t l nc c ns s ta tm r nf f n it lo hi m wt ld k p N G I i) :=
  z21 (σ := Nat) (lvB N (S.val G) I) (fun _ => hpB e mo t l nc c ns s ta tm r nf f n it lo hi m wt ld k p) (fun i => i ≤ N) (fun i => N - i) (trB e mo t l nc c ns s ta tm r nf f n it lo hi m wt ld k p N G I) _ (fun i Q => zg3 (hbs := hbs) fu i N e mo t l nc c ns s ta tm r nf f n it lo hi m wt ld k p I G Q) fun i hi' K hL X hX => by
      refine brP (fun h1 => ?_) fun h1 => ?_
      · have hlt : i < N := by simpa using h1
        refine cdP (zi hlt) (brP (fun h2 => cdP (by simp [Cd.holds]; omega) ?_) fun h2 => cdP (by simp [Cd.holds]; omega) ?_)
        · have e : S.nonneg G i = false := by simp only [decide_eq_true_eq] at h2; simp [S.nonneg]; omega
          have e2 : S.from_ (S.nonneg G) N i = false := by rw [S.from_step hlt, e, Bool.false_and]
          have e3 : S.fst (S.nonneg G) N i = i := S.fst_at hlt e
          simp only [trB, e2, e3] at hL
          exact HasR.out (l := [(.i .h, .c (.p (.int .i64 (2 + I)))), (.o (.o .h), .c (.p (.int .i64 i)))]) (HasR.mk (ρ := []) rfl rfl (by simp [WH]) (by simp [zg, WA, WC, WP', Tr.get])) hL
        · have e : S.nonneg G i = true := by simp only [decide_eq_false_iff_not] at h2; simp [S.nonneg]; omega
          have e2 : S.from_ (S.nonneg G) N i = S.from_ (S.nonneg G) N (i + 1) := by rw [S.from_step hlt, e, Bool.true_and]
          have e3 : S.fst (S.nonneg G) N i = S.fst (S.nonneg G) N (i + 1) := S.fst_step hlt e
          simp only [trB, e2, e3] at hL
          refine hX (i + 1) _ (by omega) (by omega) ⟨[some 0, some 1, some 2, some 3, some 4, some 5, some 6], HasR.mk _ rfl rfl ?_ ?_⟩ hL
          · simp [WH, WB, WL, WC, WP', WA, WAs, lkA]
          · simp [zg, WA, WC, WP', WL, Tr.get]
      · have hlt : N ≤ i := by simpa using h1
        have e2 : S.from_ (S.nonneg G) N i = true := S.from_end hlt
        simp only [trB, e2] at hL
        refine HasR.out (l := [(.o (.i (.o .h)), .ag [.ref 1, .ref 2, .ref 3, .ref 4, .ref 5, .ref 6]), (.i (.i (.o .h)), .c (.p (.int .i64 I)))]) (HasR.mk (ρ := [some 0, some 1, some 2, some 3, some 4, some 5, some 6]) rfl rfl ?_ ?_) hL
        · simp [WH, WB, WL, WC, WP', WA, WAs, lkA]
        · simp [zg, WA, WC, WP', WL, Tr.get]
omit hT4 in
theorem go_load_look_broken' (fu N : Nat) (e mo t l : Int) (nc : Nat) (c : S.Rows) (ns : Nat) (s : S.Rows) (ta tm r : Int) (nf : Nat) (f : S.Rows) (n : Nat) (it : S.Rows) (lo hi : Int) (m : Nat) (wt : S.Rows) (ld : Bool) (k : Nat) (p : S.Rows) (I : Int) (g : Nat → Nat → PV) (hN : N ≤ 1000) (hI : 0 ≤ I ∧ I ≤ 10) (hg : ∀ i, i < N → g i 0 = .int .i64 (S.num g i 0)) (st : St) (h : ∃ ρ, HasR 0 ρ st (lvB N g I 0) (hpB e mo t l nc c ns s ta tm r nf f n it lo hi m wt ld k p)) :
    zd (ex (cs4 hbs) (fu + 60)) 0 zu st (trB e mo t l nc c ns s ta tm r nf f n it lo hi m wt ld k p N (S.num g) I 0) := by
  refine zg5 fu N e mo t l nc c ns s ta tm r nf f n it lo hi m wt ld k p I (S.num g) hN hI 0 st (Nat.zero_le _) ?_
  obtain ⟨ρ, a1, a2, a3, a4⟩ := h
  refine ⟨ρ, a1, a2, a3, fun p v hm => ?_⟩
  simp only [List.mem_cons, Prod.mk.injEq, List.not_mem_nil, or_false] at hm
  rcases hm with hm | hm | hm | hm | hm | hm
  · exact a4 p v (by simp [hm])
  · exact a4 p v (by simp [hm])
  · exact a4 p v (by simp [hm])
  · obtain ⟨rfl, rfl⟩ := hm
    have h4 := a4 (.o (.o (.o (.o .h)))) (.c (.p (.isl 1 N g))) (by simp)
    generalize Tr.get (.o (.o (.o (.o .h)))) st.t = a at h4 ⊢
    cases a with
    | c c =>
      simp only [WA, WC] at h4 ⊢
      cases c with
      | p v =>
        simp only [WP'] at h4 ⊢
        rcases h4 with rfl | h4
        · exact .inr ⟨rfl, rfl, fun i j hi hj => by obtain rfl : j = 0 := by omega
                                                    exact hg i hi⟩
        · cases v with
          | nsl =>
            cases N with
            | zero => exact .inr trivial
            | succ _ => exact h4.elim
          | isl e2 n2 f2 =>
            obtain ⟨rfl, rfl, h5⟩ := h4
            exact .inr ⟨rfl, rfl, fun i j hi hj => by rw [h5 i j hi hj]; obtain rfl : j = 0 := by omega
                                                      exact hg i hi⟩
          | _ => exact h4.elim
      | _ => exact h4.elim
    | _ => simp only [WA] at h4
  · exact a4 p v (by simp [hm])
  · exact a4 p v (by simp [hm])
end
section
variable {hbs : BsOk Tryz.prog}
theorem z92 (e mo t l : Int) (nc : Nat) (c : S.Rows) (ns : Nat) (s : S.Rows) (ta tm r : Int) (nf : Nat) (f : S.Rows) (n : Nat) (it : S.Rows) (lo hi : Int) (m : Nat) (wt : S.Rows) (ld : Bool) (Q : AV → Heap → Prop) :
 ((fun (A1 : AV) => ((fun (A3 : AV) => ((fun (A4 : CV) => ((fun (A5 : CV) => ((fun (A6 : CV) => ((fun (A7 : CV) => ((fun (A0 : List CV) => ((fun (A8 : List CV) => ((fun (A2 : Heap) => (((z8 (cs4 hbs) z1w [A3] (.c (.p (.bool (S.plane e mo t l nc c ns s ta tm r nf f)))) []) ∧
 (BrP (S.plane e mo t l nc c ns s ta tm r nf f)
 ((z8 (cs4 hbs) z3o [A3, (.ag (kX n it lo hi m wt ld))] (.c (.p (.bool (S.point ns nf n it lo hi m wt)))) []) ∧
 (BrP (S.point ns nf n it lo hi m wt)
 ((z8 (cs4 hbs) z7p [A3, (.ag (kX n it lo hi m wt ld))] A1 []) ∧
 ((z8 (cs4 hbs) z2z [A1] (.ag [A6, A7]) []) ∧
 ((z8 (cs4 hbs) z6c [A1] (.ag [A4, A5]) []) ∧
 (Q (.tp [(.ag A0), (vJ 0)]) [(bP e mo t l nc c ns s ta tm r nf f), (bX n it lo hi m wt ld), (some (.box zn A0))]))))
 (Q (.tp [(.ag A8), (vJ 2)]) A2)))
 (Q (.tp [(.ag A8), (vJ 2)]) A2))))) [(bP e mo t l nc c ns s ta tm r nf f), (bX n it lo hi m wt ld), (some (.box zn A8))])) [(cJ 0), (cJ 0), (cJ 0), (cJ 0)])) [A6, A7, A4, A5])) (cJ (e + (S.sumR (S.pH (S.parts n it s lo hi ta wt f)) ((n + 1) + m) 0))))) (cJ (e + (S.sumR (S.pL (S.parts n it s lo hi ta wt f)) ((n + 1) + m) 0))))) (cJ (mo + (S.sumR (S.mH (S.parts n it s lo hi ta wt f)) ((n + 1) + m) 0))))) (cJ (mo + (S.sumR (S.mL (S.parts n it s lo hi ta wt f)) ((n + 1) + m) 0))))) (.ag (kP e mo t l nc c ns s ta tm r nf f)))) (.c (.p (.ipt 16 (S.lk e mo t l nc c ns s ta tm r nf f n it lo hi m wt ld ((n + 1) + m) (S.parts n it s lo hi ta wt f)))))) = (ex (cs4 hbs) 1000 0 zf0 ⟨ofL 0 [.ag (plC e mo t l nc (S.val c) ns (S.val s) ta tm r nf (S.val f)), .ag (ptC n (S.val it) lo hi m (S.val wt) ld)] .lf, []⟩ (endK z3e.rs (fun r H => .pr (Q r H)) fun _ _ => .no)).hold2 := by kernel_rfl
theorem z8k (e mo t l : Int) (nc : Nat) (c : S.Rows) (ns : Nat) (s : S.Rows) (ta tm r : Int) (nf : Nat) (f : S.Rows) (n : Nat) (it : S.Rows) (lo hi : Int) (m : Nat) (wt : S.Rows) (ld : Bool) (Q : AV → Heap → Prop) :
 ((fun (A0 : List CV) => ((fun (A1 : AV) => ((fun (A2 : AV) => ((fun (A4 : AV) => ((fun (A5 : List CV) => ((fun (A3 : Heap) => ((fun (A6 : AV) => (((z8 (cs4 hbs) z1w [A6] (.c (.p (.bool (S.plane e mo t l nc c ns s ta tm r nf f)))) []) ∧
 (BrP (S.plane e mo t l nc c ns s ta tm r nf f)
 ((z8 (cs4 hbs) z3o [A6, (.ag (kX n it lo hi m wt ld))] (.c (.p (.bool (S.point ns nf n it lo hi m wt)))) []) ∧
 (BrP (S.point ns nf n it lo hi m wt)
 ((z8 (cs4 hbs) z7p [A6, (.ag (kX n it lo hi m wt ld))] A4 []) ∧
 ((z8 (cs4 hbs) z6a [A4] (.tp [A1, A2]) []) ∧
 (BrP ((S.broR (S.rules e mo t l nc c ns s tm r nf f n it lo hi wt ld ((n + 1) + m) (S.parts n it s lo hi ta wt f))) == (1 : Int))
 (Q (.tp [A1, A2, (.ag A5), (vJ 0)]) A3)
 ((z8 (cs4 hbs) z75 [A4, A1, A2] (.ag A0) []) ∧
 (Q (.tp [A1, A2, (.ag A0), (vJ 0)]) [(bP e mo t l nc c ns s ta tm r nf f), (bX n it lo hi m wt ld), (some (.box z7 A0))])))))
 (Q (.tp [(vJ 0), (vJ 0), (.ag A5), (vJ 2)]) A3)))
 (Q (.tp [(vJ 0), (vJ 0), (.ag A5), (vJ 2)]) A3))))) (.ag (kP e mo t l nc c ns s ta tm r nf f)))) [(bP e mo t l nc c ns s ta tm r nf f), (bX n it lo hi m wt ld), (some (.box z7 A5))])) [(.p .nsl), (cJ 0), (.p .nsl)])) (.c (.p (.ipt 16 (S.lk e mo t l nc c ns s ta tm r nf f n it lo hi m wt ld ((n + 1) + m) (S.parts n it s lo hi ta wt f))))))) (vJ (S.broI (S.rules e mo t l nc c ns s tm r nf f n it lo hi wt ld ((n + 1) + m) (S.parts n it s lo hi ta wt f)))))) (vJ (S.broR (S.rules e mo t l nc c ns s tm r nf f n it lo hi wt ld ((n + 1) + m) (S.parts n it s lo hi ta wt f)))))) [(.p (.isl 1 n (S.val (S.wcR nc c (S.broR (S.rules e mo t l nc c ns s tm r nf f n it lo hi wt ld ((n + 1) + m) (S.parts n it s lo hi ta wt f))) (S.broI (S.rules e mo t l nc c ns s tm r nf f n it lo hi wt ld ((n + 1) + m) (S.parts n it s lo hi ta wt f))) (S.parts n it s lo hi ta wt f) 0)))), (cJ (S.wc nc c (S.broR (S.rules e mo t l nc c ns s tm r nf f n it lo hi wt ld ((n + 1) + m) (S.parts n it s lo hi ta wt f))) (S.broI (S.rules e mo t l nc c ns s tm r nf f n it lo hi wt ld ((n + 1) + m) (S.parts n it s lo hi ta wt f))) (S.parts n it s lo hi ta wt f) n)), (.p (.isl 1 m (S.val (S.wcR nc c (S.broR (S.rules e mo t l nc c ns s tm r nf f n it lo hi wt ld ((n + 1) + m) (S.parts n it s lo hi ta wt f))) (S.broI (S.rules e mo t l nc c ns s tm r nf f n it lo hi wt ld ((n + 1) + m) (S.parts n it s lo hi ta wt f))) (S.parts n it s lo hi ta wt f) (n + 1)))))]) = (ex (cs4 hbs) 1000 0 zcv ⟨ofL 0 [.ag (plC e mo t l nc (S.val c) ns (S.val s) ta tm r nf (S.val f)), .ag (ptC n (S.val it) lo hi m (S.val wt) ld)] .lf, []⟩ (endK z2j.rs (fun r H => .pr (Q r H)) fun _ _ => .no)).hold2 := by kernel_rfl
end
end Go.Ab.B
namespace Go.Ab.S
structure PlOk (e mo t l : Int) (nc : Nat) (c : Rows) (ns : Nat) (s : Rows) (ta tm r : Int) (nf : Nat) (f : Rows) : Prop where
  he : 1 ≤ e ∧ e ≤ 20000
  hmo : -20000000 ≤ mo ∧ mo ≤ 20000000
  ht : 0 ≤ t ∧ t ≤ 20000
  hl : 0 ≤ l ∧ l ≤ 20000
  hr : 0 ≤ r ∧ r ≤ 20000
  hnc : 3 ≤ nc ∧ nc ≤ 12
  hcor : cor nc c = true
  hcvx : cvx nc c = true
  hns : ns ≤ 8
  hnf : nf ≤ 2
  hta : -1000 ≤ ta ∧ ta ≤ 1000
  htm : 0 ≤ tm ∧ tm ≤ 20000
  hs : ∀ i, i < ns → (-1000 ≤ s i 0 ∧ s i 0 ≤ 1000) ∧ (0 ≤ s i 1 ∧ s i 1 ≤ 20000)
  hf : ∀ i, i < nf → (-1000 ≤ f i 0 ∧ f i 0 ≤ 1000) ∧ (0 ≤ f i 1 ∧ f i 1 ≤ 20000)
theorem zyz {n : Nat} {s : Rows} (h : stn n s = true) : ∀ i, i < n → (-1000 ≤ s i 0 ∧ s i 0 ≤ 1000) ∧ (0 ≤ s i 1 ∧ s i 1 ≤ 20000) := fun i hi => by
  have := from_iff.1 h i (Nat.zero_le _) hi
  simp only [stnAt, stOk, Bool.and_eq_true, inB_iff] at this
  exact this
theorem plane_ok {e mo t l : Int} {nc : Nat} {c : Rows} {ns : Nat} {s : Rows} {ta tm r : Int} {nf : Nat} {f : Rows} (h : plane e mo t l nc c ns s ta tm r nf f = true) : PlOk e mo t l nc c ns s ta tm r nf f := by
  simp only [plane, corners, stOk, Bool.and_eq_true, inB_iff, decide_eq_true_eq] at h
  obtain ⟨⟨⟨⟨⟨⟨⟨⟨h1, h2⟩, ⟨h3, h4⟩, h5⟩, ⟨⟨h6, h7⟩, h8⟩⟩, h9⟩, h10⟩, h11, h12⟩, h13⟩, h14⟩ := h
  exact ⟨h1, h2, h3, h4, h5, by omega, h7, h8, by omega, by omega, h11, h12, zyz h13, zyz h14⟩
structure PtOk (ns nf n : Nat) (it : Rows) (lo hi : Int) (m : Nat) (wt : Rows) : Prop where
  hn : n ≤ 12
  hm : m = nf
  htk : -120000 ≤ lo ∧ lo ≤ hi ∧ hi ≤ 140000
  hit : ∀ i, i < n → (0 ≤ it i 0 ∧ it i 0 < ns) ∧ (0 ≤ it i 1 ∧ it i 1 ≤ it i 2 ∧ it i 2 ≤ 20000)
  hwt : ∀ i, i < m → (0 ≤ wt i 0 ∧ wt i 0 ≤ wt i 1 ∧ wt i 1 ≤ 120000)
theorem point_ok {ns nf n : Nat} {it : Rows} {lo hi : Int} {m : Nat} {wt : Rows} (h : point ns nf n it lo hi m wt = true) : PtOk ns nf n it lo hi m wt := by
  simp only [point, itemsOk, span, Bool.and_eq_true, inB_iff, decide_eq_true_eq] at h
  obtain ⟨h1, ⟨⟨h2, h3⟩, ⟨h4, h5⟩, h6⟩, h7⟩ := h
  refine ⟨by omega, by omega, ⟨h4, by omega, h6⟩, fun i hi => ?_, fun i hi => ?_⟩
  · have := from_iff.1 h2 i (Nat.zero_le _) hi
    simp only [itAt, span, Bool.and_eq_true, inB_iff, decide_eq_true_eq] at this
    omega
  · have := from_iff.1 h1 i (Nat.zero_le _) hi
    simp only [wtAt, span, Bool.and_eq_true, inB_iff, decide_eq_true_eq] at this
    omega
theorem zvs {n m i : Nat} (h : i < n + 1 + m) : i < n ∨ i = n ∨ ∃ j, j < m ∧ i = n + 1 + j := by
  rcases Nat.lt_trichotomy i n with h1 | h1 | h1
  · exact .inl h1
  · exact .inr (.inl h1)
  · exact .inr (.inr ⟨i - (n + 1), by omega, by omega⟩)
theorem parts_in {e mo t l : Int} {nc : Nat} {c : Rows} {ns : Nat} {s : Rows} {ta tm r : Int} {nf : Nat} {f : Rows} {n : Nat} {it : Rows} {lo hi : Int} {m : Nat} {wt : Rows} (hp : PlOk e mo t l nc c ns s ta tm r nf f) (hq : PtOk ns nf n it lo hi m wt) (i : Nat) (hi' : i < n + 1 + m) :
    (-140000 ≤ parts n it s lo hi ta wt f i 0 ∧ parts n it s lo hi ta wt f i 0 ≤ 140000) ∧ (-140000 ≤ parts n it s lo hi ta wt f i 1 ∧ parts n it s lo hi ta wt f i 1 ≤ 140000) ∧ (-1000 ≤ parts n it s lo hi ta wt f i 2 ∧ parts n it s lo hi ta wt f i 2 ≤ 1000) ∧ parts n it s lo hi ta wt f i 0 ≤ parts n it s lo hi ta wt f i 1 := by
  rcases zvs hi' with h | h | ⟨j, hj, h⟩
  · have h1 := hq.hit i h
    have h2 := hp.hs (it i 0).toNat (by omega)
    simp only [parts_it h, z9e]
    omega
  · subst h
    have h1 := hq.htk
    have h2 := hp.hta
    simp only [parts_tk, z9e]
    omega
  · subst h
    have h1 := hq.hwt j hj
    have h2 := hp.hf j (by have := hq.hm; omega)
    simp only [parts_wt, z9e]
    omega
theorem bro_t {r : Int} {n : Nat} {g : Rows} {l : List (Int × Nat × Rows)} (h : from_ (nonneg g) n 0 = true) : bro ((r, n, g) :: l) = bro l := by simp only [bro, h]
theorem bro_f {r : Int} {n : Nat} {g : Rows} {l : List (Int × Nat × Rows)} (h : from_ (nonneg g) n 0 = false) : bro ((r, n, g) :: l) = (r, ((fst (nonneg g) n 0 : Nat) : Int)) := by simp only [bro, h]
theorem bro_spec : ∀ (l : List (Int × Nat × Rows)), ((bro l = (1, 0) ∧ ∀ r n g, (r, n, g) ∈ l → ∀ i, i < n → 0 ≤ g i 0) ∨
    ∃ (r : Int) (n : Nat) (g : Rows) (i : Nat), (r, n, g) ∈ l ∧ bro l = (r, (i : Int)) ∧ i < n ∧ g i 0 < 0)
  | [] => .inl ⟨rfl, fun _ _ _ h => by simp at h⟩
  | (r, n, g) :: l => by
    cases h : from_ (nonneg g) n 0 with
    | true =>
      have e : bro ((r, n, g) :: l) = bro l := by simp only [bro, h]
      rw [e]
      rcases bro_spec l with ⟨h1, h2⟩ | ⟨r', n', g', i, h1, h2, h3, h4⟩
      · refine .inl ⟨h1, fun r' n' g' hm i hi => ?_⟩
        rcases List.mem_cons.1 hm with hm | hm
        · cases hm
          have := from_iff.1 h i (Nat.zero_le _) hi
          simpa [nonneg] using this
        · exact h2 _ _ _ hm i hi
      · exact .inr ⟨r', n', g', i, List.mem_cons_of_mem _ h1, h2, h3, h4⟩
    | false =>
      obtain ⟨h1, h2, h3, h4⟩ := zdz (n := n) (i := 0) rfl h
      refine .inr ⟨r, n, g, fst (nonneg g) n 0, List.mem_cons_self .., by simp only [bro, h], h2, ?_⟩
      simp [nonneg] at h3
      omega
end Go.Ab.S
namespace Go.Ab.B
open Go.Proofs
theorem zlc {w : World} {Z : Nat → Prop} {H : Heap} {φ : Nat → Value} {q1 q2 : Nat → Nat → PV} {us : List Value} (h : RepL w Z H φ [.p .nsl, .p (.int .i64 0), .p .nsl] us) : RepL w Z H φ [.p (.isl 1 0 q1), .p (.int .i64 0), .p (.isl 1 0 q2)] us := by
  obtain ⟨hlen, hall⟩ := h
  refine ⟨by simpa using hlen, fun i c hi => ?_⟩
  match i, hi with
  | 0, hi =>
    cases hi
    obtain ⟨u, h1, h2⟩ := hall 0 _ rfl
    refine ⟨u, h1, ?_⟩
    simp only [RepC] at h2 ⊢
    cases h2
    exact .isl0 _ _ _ _
  | 1, hi => cases hi; exact hall 1 _ rfl
  | 2, hi =>
    cases hi
    obtain ⟨u, h1, h2⟩ := hall 2 _ rfl
    refine ⟨u, h1, ?_⟩
    simp only [RepC] at h2 ⊢
    cases h2
    exact .isl0 _ _ _ _
  | n + 3, hi => simp at hi
section
variable {hbs : BsOk Tryz.prog} (hT : zq (cs hbs)) (hT3 : zq (cs3 hbs)) (hT4 : zq (cs4 hbs))
include hT hT3 hT4
theorem z4h (e mo t l : Int) (nc : Nat) (c : S.Rows) (ns : Nat) (s : S.Rows) (ta tm r : Int) (nf : Nat) (f : S.Rows) (hnc : nc ≤ maxLen) (hns : ns ≤ maxLen) (hnf : nf ≤ maxLen) : z8 (cs4 hbs) z1w [.ag (plC e mo t l nc (S.val c) ns (S.val s) ta tm r nf (S.val f))] (vB (S.plane e mo t l nc c ns s ta tm r nf f)) [] :=
  z8.cfg (C := cs hbs) (C' := cs4 hbs) rfl rfl (zjo hT hnc hns hnf)
theorem z4i (e mo t l : Int) (nc : Nat) (c : S.Rows) (ns : Nat) (s : S.Rows) (ta tm r : Int) (nf : Nat) (f : S.Rows) (n : Nat) (it : S.Rows) (lo hi : Int) (m : Nat) (wt : S.Rows) (ld : Bool) (hns : ns ≤ 1000000) (hn : n ≤ 1000000) (hm : m ≤ 1000000) : z8 (cs4 hbs) z3o [.ag (plC e mo t l nc (S.val c) ns (S.val s) ta tm r nf (S.val f)), .ag (ptC n (S.val it) lo hi m (S.val wt) ld)] (vB (S.point ns nf n it lo hi m wt)) [] :=
  z8.cfg (C := cs3 hbs) (C' := cs4 hbs) rfl rfl (zja hT hT3 e mo t l nc c ns s ta tm r nf f n it lo hi m wt ld hns hn hm)
theorem zq8 (e mo t l : Int) (nc : Nat) (c : S.Rows) (ns : Nat) (s : S.Rows) (ta tm r : Int) (nf : Nat) (f : S.Rows) (n : Nat) (it : S.Rows) (lo hi : Int) (m : Nat) (wt : S.Rows) (ld : Bool) (h1 : S.plane e mo t l nc c ns s ta tm r nf f = true) (h2 : S.point ns nf n it lo hi m wt = true) :
    z8 (cs4 hbs) z5n [.ag (plC e mo t l nc (S.val c) ns (S.val s) ta tm r nf (S.val f)), .ag (ptC n (S.val it) lo hi m (S.val wt) ld)]
      (.tp [.ag [.p (.int .i64 (e + S.sumR (S.pL (S.parts n it s lo hi ta wt f)) (n + 1 + m) 0)), .p (.int .i64 (e + S.sumR (S.pH (S.parts n it s lo hi ta wt f)) (n + 1 + m) 0)),
      .p (.int .i64 (mo + S.sumR (S.mL (S.parts n it s lo hi ta wt f)) (n + 1 + m) 0)), .p (.int .i64 (mo + S.sumR (S.mH (S.parts n it s lo hi ta wt f)) (n + 1 + m) 0))], vI .i64 0]) [] := by
  have hp := S.plane_ok h1
  have hq := S.point_ok h2
  have b1 := hp.hnc
  have b2 := hp.hns
  have b3 := hp.hnf
  have b4 := hq.hn
  have b5 := hq.hm
  have b6 := hp.he
  have b7 := hp.hmo
  have hml : (1000 : Nat) ≤ maxLen := by decide
  refine zo hT4 (F := z3e) rfl (z92 e mo t l nc c ns s ta tm r nf f n it lo hi m wt ld _) ⟨z4h hT hT3 hT4 e mo t l nc c ns s ta tm r nf f (by omega) (by omega) (by omega), brP (fun _ => ⟨z4i hT hT3 hT4 e mo t l nc c ns s ta tm r nf f n it lo hi m wt ld (by omega) (by omega) (by omega), brP (fun _ => ?_) fun h => by rw [h2] at h; cases h⟩) fun h => by rw [h1] at h; cases h⟩
  exact ⟨zd8 hT4 e mo t l nc c ns s ta tm r nf f n it lo hi m wt ld (by omega) (by omega) (by omega) (fun i h => (hq.hit i h).1),
    z63 hT4 e mo t l nc c ns s ta tm r nf f n it lo hi m wt ld _ _ (by omega) (by omega) (fun i h => ⟨(S.parts_in hp hq i h).1, (S.parts_in hp hq i h).2.1⟩),
    zff hT4 e mo t l nc c ns s ta tm r nf f n it lo hi m wt ld _ _ (by omega) (by omega) (fun i h => ⟨(S.parts_in hp hq i h).1, (S.parts_in hp hq i h).2.1, (S.parts_in hp hq i h).2.2.1⟩), by simp [frzA, zc3, frzL, frzC]⟩
theorem zfg (e mo t l : Int) (nc : Nat) (c : S.Rows) (ns : Nat) (s : S.Rows) (ta tm r : Int) (nf : Nat) (f : S.Rows) (n : Nat) (it : S.Rows) (lo hi : Int) (m : Nat) (wt : S.Rows) (ld : Bool) (hp : S.PlOk e mo t l nc c ns s ta tm r nf f) (hq : S.PtOk ns nf n it lo hi m wt) :
    z8 (cs4 hbs) z6a [lkA e mo t l nc c ns s ta tm r nf f n it lo hi m wt ld (n + 1 + m) (S.parts n it s lo hi ta wt f)] (.tp [vI .i64 (S.broR (S.ruP e mo t l nc c ns s ta tm r nf f n it lo hi m wt ld)), vI .i64 (S.broI (S.ruP e mo t l nc c ns s ta tm r nf f n it lo hi m wt ld))]) [] := by
  have b1 := hp.hnc
  have b2 := hp.hns
  have b3 := hp.hnf
  have b4 := hq.hn
  have b5 := hq.hm
  have b6 := hp.he
  have b7 := hp.hmo
  have b8 := hp.ht
  have b9 := hp.hl
  have b10 := hp.hr
  have b11 := hp.htm
  have b12 := hq.htk
  have hpp := fun i h => S.parts_in hp hq i h
  have hov := zjp hT4 e mo t l nc c ns s ta tm r nf f n it lo hi m wt ld (n + 1 + m) (S.parts n it s lo hi ta wt f) (by omega) (by omega) (fun i h => by have := (hq.hit i h).2; omega) (fun i h => by have := (hp.hs i h).2; omega)
  have hfu := zjq hT4 e mo t l nc c ns s ta tm r nf f n it lo hi m wt ld (n + 1 + m) (S.parts n it s lo hi ta wt f) (by omega) (by omega)
  have hwe := zlr hT4 e mo t l nc c ns s ta tm r nf f n it lo hi m wt ld (n + 1 + m) (S.parts n it s lo hi ta wt f) (by omega) (by omega) (fun i h => by have := (hp.hf i h).2; omega) (fun i h => by have := hq.hwt i (by omega); omega)
  have hhe := zh8 hT4 e mo t l nc c ns s ta tm r nf f n it lo hi m wt ld (n + 1 + m) (S.parts n it s lo hi ta wt f) (by omega) (by omega) (by omega) (by omega) (fun i h => ⟨(hpp i h).1, (hpp i h).2.1⟩)
  have hou := zls hT4 e mo t l nc c ns s ta tm r nf f n it lo hi m wt ld (n + 1 + m) (S.parts n it s lo hi ta wt f) (by omega) (by omega) hp.hcor (by omega) (by omega) (fun i h => ⟨(hpp i h).1, (hpp i h).2.1, (hpp i h).2.2.1⟩)
  have hsh := zh9 hT4 e mo t l nc c ns s ta tm r nf f n it lo hi m wt ld (n + 1 + m) (S.parts n it s lo hi ta wt f) (by omega) (by omega)
  have b01 : S.b01 ld ≤ 1 := by unfold S.b01; split <;> omega
  have one : ∀ (N : Nat) (x : Int), N ≤ 1 → ∀ i, i < N → S.oneV x i 0 = .int .i64 (S.num (S.oneV x) i 0) := by
    intro N x hN i hi
    have h0 : i = 0 := by omega
    subst h0
    rfl
  have row : ∀ (G : S.Rows) (N : Nat), ∀ i, i < N → S.val G i 0 = .int .i64 (S.num (S.val G) i 0) := fun G N i hi => rfl
  have fin : ∀ (H : Heap) (R I : Int), S.bro (S.ruP e mo t l nc c ns s ta tm r nf f n it lo hi m wt ld) = (R, I) → frzA H (.tp [vI .i64 R, vI .i64 I]) = some (.tp [vI .i64 (S.broR (S.ruP e mo t l nc c ns s ta tm r nf f n it lo hi m wt ld)), vI .i64 (S.broI (S.ruP e mo t l nc c ns s ta tm r nf f n it lo hi m wt ld))]) := fun H R I h => by
    simp only [S.broR, S.broI, h]
    rfl
  have st : ∀ (fu N : Nat) (I : Int) (g : Nat → Nat → PV) (s' : St), N ≤ 1000 → (0 ≤ I ∧ I ≤ 10) → (∀ i, i < N → g i 0 = .int .i64 (S.num g i 0)) → s'.h = hpB e mo t l nc c ns s ta tm r nf f n it lo hi m wt ld (n + 1 + m) (S.parts n it s lo hi ta wt f) → zg [some 0, some 1, some 2, some 3, some 4, some 5, some 6] s'.t (lvB N g I 0) →
      zd (ex (cs4 hbs) (fu + 60)) 0 zu s' (trB e mo t l nc c ns s ta tm r nf f n it lo hi m wt ld (n + 1 + m) (S.parts n it s lo hi ta wt f) N (S.num g) I 0) := fun fu N I g s' hN hI hg hh hl =>
    go_load_look_broken' fu N e mo t l nc c ns s ta tm r nf f n it lo hi m wt ld _ _ I g hN hI hg s' ⟨[some 0, some 1, some 2, some 3, some 4, some 5, some 6], HasR.mk _ rfl rfl (by rw [hh]; simp [WH, WB, WL, WC, WP', WA, WAs, lkA]) hl⟩
  refine zo hT4 (F := z34) rfl (zfh e mo t l nc c ns s ta tm r nf f n it lo hi m wt ld _ _ _)
    ⟨hov, st 927 _ 0 (S.val (S.subR s (S.stS n it))) _ (by omega) (by omega) (row _ _) rfl (by simp [zg, WA, WC, WP', WL, Tr.get]), brP (fun h1 =>
    ⟨hfu, st 926 _ (0 + 1) _ _ (by omega) (by omega) (one 1 (tm - hi) (Nat.le_refl _)) rfl (by simp [zg, WA, WC, WP', WL, Tr.get]), brP (fun h2 =>
    ⟨hwe, st 925 _ (0 + 1 + 1) (S.val (S.wetR f wt)) _ (by omega) (by omega) (row _ _) rfl (by simp [zg, WA, WC, WP', WL, Tr.get]), brP (fun h3 =>
    ⟨hhe, st 924 _ (0 + 1 + 1 + 1) _ _ (by omega) (by omega) (one 1 _ (Nat.le_refl _)) rfl (by simp [zg, WA, WC, WP', WL, Tr.get]), brP (fun h4 =>
    ⟨hou, st 923 _ (0 + 1 + 1 + 1 + 1) (S.val (S.outR e mo nc c (n + 1 + m) (S.parts n it s lo hi ta wt f))) _ (by omega) (by omega) (row _ _) rfl (by simp [zg, WA, WC, WP', WL, Tr.get]), brP (fun h5 =>
    ⟨hsh, st 922 _ (0 + 1 + 1 + 1 + 1 + 1) _ _ (by omega) (by omega) (one _ (lo - r) b01) rfl (by simp [zg, WA, WC, WP', WL, Tr.get]), brP (fun h6 => ?_) fun h6 => ?_⟩)
    fun h5 => ?_⟩) fun h4 => ?_⟩) fun h3 => ?_⟩) fun h2 => ?_⟩) fun h1 => ?_⟩
  · exact fin _ _ _ ((S.bro_t h1).trans ((S.bro_t h2).trans ((S.bro_t h3).trans ((S.bro_t h4).trans ((S.bro_t h5).trans ((S.bro_t h6).trans rfl))))))
  · exact fin _ _ _ ((S.bro_t h1).trans ((S.bro_t h2).trans ((S.bro_t h3).trans ((S.bro_t h4).trans ((S.bro_t h5).trans (S.bro_f h6))))))
  · exact fin _ _ _ ((S.bro_t h1).trans ((S.bro_t h2).trans ((S.bro_t h3).trans ((S.bro_t h4).trans (S.bro_f h5)))))
  · exact fin _ _ _ ((S.bro_t h1).trans ((S.bro_t h2).trans ((S.bro_t h3).trans (S.bro_f h4))))
  · exact fin _ _ _ ((S.bro_t h1).trans ((S.bro_t h2).trans (S.bro_f h3)))
  · exact fin _ _ _ ((S.bro_t h1).trans (S.bro_f h2))
  · exact fin _ _ _ (S.bro_f h1)
omit hT hT3 hT4 in
theorem zxq (e mo t l : Int) (nc : Nat) (c : S.Rows) (ns : Nat) (s : S.Rows) (ta tm r : Int) (nf : Nat) (f : S.Rows) (n : Nat) (it : S.Rows) (lo hi : Int) (m : Nat) (wt : S.Rows) (ld : Bool) {R : Int} {N : Nat} {g : S.Rows} (h : (R, N, g) ∈ S.ruP e mo t l nc c ns s ta tm r nf f n it lo hi m wt ld) :
    (R = 2 ∧ N = ns ∧ g = S.subR s (S.stS n it)) ∨ (R = 3 ∧ N = 1 ∧ g = S.num (S.oneV (tm - hi))) ∨ (R = 4 ∧ N = nf ∧ g = S.wetR f wt) ∨ (R = 5 ∧ N = 1 ∧ g = S.num (S.oneV (S.heavyX e t l ld (n + 1 + m) (S.parts n it s lo hi ta wt f)))) ∨
    (R = 6 ∧ N = nc ∧ g = S.outR e mo nc c (n + 1 + m) (S.parts n it s lo hi ta wt f)) ∨ (R = 7 ∧ N = S.b01 ld ∧ g = S.num (S.oneV (lo - r))) := by
  simpa [S.ruP, S.rules] using h
theorem zun (e mo t l : Int) (nc : Nat) (c : S.Rows) (ns : Nat) (s : S.Rows) (ta tm r : Int) (nf : Nat) (f : S.Rows) (n : Nat) (it : S.Rows) (lo hi : Int) (m : Nat) (wt : S.Rows) (ld : Bool) (h1 : S.plane e mo t l nc c ns s ta tm r nf f = true) (h2 : S.point ns nf n it lo hi m wt = true) :
    z8 (cs4 hbs) z2i [.ag (plC e mo t l nc (S.val c) ns (S.val s) ta tm r nf (S.val f)), .ag (ptC n (S.val it) lo hi m (S.val wt) ld)]
      (.tp [vI .i64 (S.broR (S.ruP e mo t l nc c ns s ta tm r nf f n it lo hi m wt ld)), vI .i64 (S.broI (S.ruP e mo t l nc c ns s ta tm r nf f n it lo hi m wt ld)),
        .ag [.p (.isl 1 (S.cnt (S.broR (S.ruP e mo t l nc c ns s ta tm r nf f n it lo hi m wt ld)) n) (S.val (S.wcR nc c (S.broR (S.ruP e mo t l nc c ns s ta tm r nf f n it lo hi m wt ld)) (S.broI (S.ruP e mo t l nc c ns s ta tm r nf f n it lo hi m wt ld)) (S.parts n it s lo hi ta wt f) 0))),
          .p (.int .i64 (S.only (S.broR (S.ruP e mo t l nc c ns s ta tm r nf f n it lo hi m wt ld)) (S.wc nc c (S.broR (S.ruP e mo t l nc c ns s ta tm r nf f n it lo hi m wt ld)) (S.broI (S.ruP e mo t l nc c ns s ta tm r nf f n it lo hi m wt ld)) (S.parts n it s lo hi ta wt f) n))),
          .p (.isl 1 (S.cnt (S.broR (S.ruP e mo t l nc c ns s ta tm r nf f n it lo hi m wt ld)) m) (S.val (S.wcR nc c (S.broR (S.ruP e mo t l nc c ns s ta tm r nf f n it lo hi m wt ld)) (S.broI (S.ruP e mo t l nc c ns s ta tm r nf f n it lo hi m wt ld)) (S.parts n it s lo hi ta wt f) (n + 1))))],
        vI .i64 0]) [] := by
  have hp := S.plane_ok h1
  have hq := S.point_ok h2
  have b1 := hp.hnc
  have b2 := hp.hns
  have b3 := hp.hnf
  have b4 := hq.hn
  have b5 := hq.hm
  have hml : (1000 : Nat) ≤ maxLen := by decide
  have hbr := zfg hT hT3 hT4 e mo t l nc c ns s ta tm r nf f n it lo hi m wt ld hp hq
  have hix : S.broR (S.ruP e mo t l nc c ns s ta tm r nf f n it lo hi m wt ld) = 6 → 0 ≤ S.broI (S.ruP e mo t l nc c ns s ta tm r nf f n it lo hi m wt ld) ∧ S.broI (S.ruP e mo t l nc c ns s ta tm r nf f n it lo hi m wt ld) < nc := by
    intro h
    rcases S.bro_spec (S.ruP e mo t l nc c ns s ta tm r nf f n it lo hi m wt ld) with ⟨e1, _⟩ | ⟨R, N, g, i, e1, e2, e3, _⟩
    · simp only [S.broR, e1] at h
      omega
    · simp only [S.broR, S.broI, e2] at h ⊢
      rcases zxq e mo t l nc c ns s ta tm r nf f n it lo hi m wt ld e1 with h' | h' | h' | h' | h' | h' <;> omega
  have hwo := zha hT4 e mo t l nc c ns s ta tm r nf f n it lo hi m wt ld (n + 1 + m) (S.parts n it s lo hi ta wt f) (S.broR (S.ruP e mo t l nc c ns s ta tm r nf f n it lo hi m wt ld)) (S.broI (S.ruP e mo t l nc c ns s ta tm r nf f n it lo hi m wt ld)) rfl (by omega) (by omega) (by omega) hp.hcor hix
    (fun i h => (S.parts_in hp hq i h).2.2.1) (fun i h => S.parts_it h 3) (S.parts_tk 3) (fun j h => S.parts_wt j 3)
  have hlk := zd8 hT4 e mo t l nc c ns s ta tm r nf f n it lo hi m wt ld (by omega) (by omega) (by omega) (fun i h => (hq.hit i h).1)
  have hpf := z4h hT hT3 hT4 e mo t l nc c ns s ta tm r nf f (by omega) (by omega) (by omega)
  have hqf := z4i hT hT3 hT4 e mo t l nc c ns s ta tm r nf f n it lo hi m wt ld (by omega) (by omega) (by omega)
  cases hR : (S.broR (S.ruP e mo t l nc c ns s ta tm r nf f n it lo hi m wt ld) == 1) with
  | true =>
    have : z8 (cs4 hbs) z2i [.ag (plC e mo t l nc (S.val c) ns (S.val s) ta tm r nf (S.val f)), .ag (ptC n (S.val it) lo hi m (S.val wt) ld)] (.tp [vI .i64 (S.broR (S.ruP e mo t l nc c ns s ta tm r nf f n it lo hi m wt ld)), vI .i64 (S.broI (S.ruP e mo t l nc c ns s ta tm r nf f n it lo hi m wt ld)), .ag [.p .nsl, .p (.int .i64 0), .p .nsl], vI .i64 0]) [] := zo hT4 (F := z2j) rfl (z8k e mo t l nc c ns s ta tm r nf f n it lo hi m wt ld _)
      ⟨hpf, brP (fun _ => ⟨hqf, brP (fun _ => ⟨hlk, hbr, brP (fun _ => by simp [frzA, zc3, frzL, frzC]; exact ⟨rfl, rfl⟩) fun h => Bool.noConfusion (hR.symm.trans h)⟩) fun h => by rw [h2] at h; cases h⟩) fun h => by rw [h1] at h; cases h⟩
    refine z8.mono_r this fun w Z φ u hr => ?_
    simp only [S.cnt, S.only, hR]
    simp only [RepA, zh] at hr ⊢
    obtain ⟨us, rfl, u1, us1, rfl, g1, u2, us2, rfl, g2, u3, us3, rfl, ⟨q, rfl, g3⟩, g4⟩ := hr
    exact ⟨_, rfl, u1, _, rfl, g1, u2, _, rfl, g2, _, us3, rfl, ⟨q, rfl, zlc g3⟩, g4⟩
  | false =>
    simp only [S.cnt, S.only, hR]
    exact zo hT4 (F := z2j) rfl (z8k e mo t l nc c ns s ta tm r nf f n it lo hi m wt ld _) ⟨hpf, brP (fun _ => ⟨hqf, brP (fun _ => ⟨hlk, hbr, brP (fun h => Bool.noConfusion (hR.symm.trans h)) fun _ => ⟨hwo, by simp [frzA, zc3, frzL, frzC]; exact ⟨rfl, rfl, rfl, rfl, rfl⟩⟩⟩) fun h => by rw [h2] at h; cases h⟩) fun h => by rw [h1] at h; cases h⟩
end
end Go.Ab.B
