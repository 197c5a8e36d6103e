/- A part of the proof. -/
import Derived.Test.YthfkaopnphjlkaaGreatDoorLc
set_option linter.all false
set_option maxRecDepth 100000
namespace Go.Ab.S
def gate (b : Bool) (x y : Int) : Int := match b with | true => x | false => y
def gN (b : Bool) (n : Nat) : Nat := match b with | true => n | false => 0
def fineB (e mo t l : Int) (nc : Nat) (c : Rows) (ns : Nat) (s : Rows) (ta tm r : Int) (nf : Nat) (f : Rows) (n : Nat) (it : Rows) (lo hi : Int) (m : Nat) (wt : Rows) (ld : Bool) : Bool := plane e mo t l nc c ns s ta tm r nf f && point ns nf n it lo hi m wt
def rb1 (e mo t l : Int) (nc : Nat) (c : Rows) (ns : Nat) (s : Rows) (ta tm r : Int) (nf : Nat) (f : Rows) (n : Nat) (it : Rows) (lo hi : Int) (m : Nat) (wt : Rows) (ld : Bool) : Int := e + sumR (pL (parts n it s lo hi ta wt f)) (n + 1 + m) 0
def rb2 (e mo t l : Int) (nc : Nat) (c : Rows) (ns : Nat) (s : Rows) (ta tm r : Int) (nf : Nat) (f : Rows) (n : Nat) (it : Rows) (lo hi : Int) (m : Nat) (wt : Rows) (ld : Bool) : Int := e + sumR (pH (parts n it s lo hi ta wt f)) (n + 1 + m) 0
def rb3 (e mo t l : Int) (nc : Nat) (c : Rows) (ns : Nat) (s : Rows) (ta tm r : Int) (nf : Nat) (f : Rows) (n : Nat) (it : Rows) (lo hi : Int) (m : Nat) (wt : Rows) (ld : Bool) : Int := mo + sumR (mL (parts n it s lo hi ta wt f)) (n + 1 + m) 0
def rb4 (e mo t l : Int) (nc : Nat) (c : Rows) (ns : Nat) (s : Rows) (ta tm r : Int) (nf : Nat) (f : Rows) (n : Nat) (it : Rows) (lo hi : Int) (m : Nat) (wt : Rows) (ld : Bool) : Int := mo + sumR (mH (parts n it s lo hi ta wt f)) (n + 1 + m) 0
def b1 (e mo t l : Int) (nc : Nat) (c : Rows) (ns : Nat) (s : Rows) (ta tm r : Int) (nf : Nat) (f : Rows) (n : Nat) (it : Rows) (lo hi : Int) (m : Nat) (wt : Rows) (ld : Bool) : Int := gate (fineB e mo t l nc c ns s ta tm r nf f n it lo hi m wt ld) (rb1 e mo t l nc c ns s ta tm r nf f n it lo hi m wt ld) 0
def b2 (e mo t l : Int) (nc : Nat) (c : Rows) (ns : Nat) (s : Rows) (ta tm r : Int) (nf : Nat) (f : Rows) (n : Nat) (it : Rows) (lo hi : Int) (m : Nat) (wt : Rows) (ld : Bool) : Int := gate (fineB e mo t l nc c ns s ta tm r nf f n it lo hi m wt ld) (rb2 e mo t l nc c ns s ta tm r nf f n it lo hi m wt ld) 0
def b3 (e mo t l : Int) (nc : Nat) (c : Rows) (ns : Nat) (s : Rows) (ta tm r : Int) (nf : Nat) (f : Rows) (n : Nat) (it : Rows) (lo hi : Int) (m : Nat) (wt : Rows) (ld : Bool) : Int := gate (fineB e mo t l nc c ns s ta tm r nf f n it lo hi m wt ld) (rb3 e mo t l nc c ns s ta tm r nf f n it lo hi m wt ld) 0
def b4 (e mo t l : Int) (nc : Nat) (c : Rows) (ns : Nat) (s : Rows) (ta tm r : Int) (nf : Nat) (f : Rows) (n : Nat) (it : Rows) (lo hi : Int) (m : Nat) (wt : Rows) (ld : Bool) : Int := gate (fineB e mo t l nc c ns s ta tm r nf f n it lo hi m wt ld) (rb4 e mo t l nc c ns s ta tm r nf f n it lo hi m wt ld) 0
def er (e mo t l : Int) (nc : Nat) (c : Rows) (ns : Nat) (s : Rows) (ta tm r : Int) (nf : Nat) (f : Rows) (n : Nat) (it : Rows) (lo hi : Int) (m : Nat) (wt : Rows) (ld : Bool) : Int := gate (fineB e mo t l nc c ns s ta tm r nf f n it lo hi m wt ld) 0 2
def q1 (e mo t l : Int) (nc : Nat) (c : Rows) (ns : Nat) (s : Rows) (ta tm r : Int) (nf : Nat) (f : Rows) (n : Nat) (it : Rows) (lo hi : Int) (m : Nat) (wt : Rows) (ld : Bool) : Int := gate (fineB e mo t l nc c ns s ta tm r nf f n it lo hi m wt ld) (broR (ruP e mo t l nc c ns s ta tm r nf f n it lo hi m wt ld)) 0
def q2 (e mo t l : Int) (nc : Nat) (c : Rows) (ns : Nat) (s : Rows) (ta tm r : Int) (nf : Nat) (f : Rows) (n : Nat) (it : Rows) (lo hi : Int) (m : Nat) (wt : Rows) (ld : Bool) : Int := gate (fineB e mo t l nc c ns s ta tm r nf f n it lo hi m wt ld) (broI (ruP e mo t l nc c ns s ta tm r nf f n it lo hi m wt ld)) 0
def q3 (e mo t l : Int) (nc : Nat) (c : Rows) (ns : Nat) (s : Rows) (ta tm r : Int) (nf : Nat) (f : Rows) (n : Nat) (it : Rows) (lo hi : Int) (m : Nat) (wt : Rows) (ld : Bool) : Nat := gN (fineB e mo t l nc c ns s ta tm r nf f n it lo hi m wt ld) (cnt (broR (ruP e mo t l nc c ns s ta tm r nf f n it lo hi m wt ld)) n)
def q4 (e mo t l : Int) (nc : Nat) (c : Rows) (ns : Nat) (s : Rows) (ta tm r : Int) (nf : Nat) (f : Rows) (n : Nat) (it : Rows) (lo hi : Int) (m : Nat) (wt : Rows) (ld : Bool) : Rows := wcR nc c (broR (ruP e mo t l nc c ns s ta tm r nf f n it lo hi m wt ld)) (broI (ruP e mo t l nc c ns s ta tm r nf f n it lo hi m wt ld)) (parts n it s lo hi ta wt f) 0
def q5 (e mo t l : Int) (nc : Nat) (c : Rows) (ns : Nat) (s : Rows) (ta tm r : Int) (nf : Nat) (f : Rows) (n : Nat) (it : Rows) (lo hi : Int) (m : Nat) (wt : Rows) (ld : Bool) : Int := gate (fineB e mo t l nc c ns s ta tm r nf f n it lo hi m wt ld) (only (broR (ruP e mo t l nc c ns s ta tm r nf f n it lo hi m wt ld)) (wc nc c (broR (ruP e mo t l nc c ns s ta tm r nf f n it lo hi m wt ld)) (broI (ruP e mo t l nc c ns s ta tm r nf f n it lo hi m wt ld)) (parts n it s lo hi ta wt f) n)) 0
def q6 (e mo t l : Int) (nc : Nat) (c : Rows) (ns : Nat) (s : Rows) (ta tm r : Int) (nf : Nat) (f : Rows) (n : Nat) (it : Rows) (lo hi : Int) (m : Nat) (wt : Rows) (ld : Bool) : Nat := gN (fineB e mo t l nc c ns s ta tm r nf f n it lo hi m wt ld) (cnt (broR (ruP e mo t l nc c ns s ta tm r nf f n it lo hi m wt ld)) m)
def q7 (e mo t l : Int) (nc : Nat) (c : Rows) (ns : Nat) (s : Rows) (ta tm r : Int) (nf : Nat) (f : Rows) (n : Nat) (it : Rows) (lo hi : Int) (m : Nat) (wt : Rows) (ld : Bool) : Rows := wcR nc c (broR (ruP e mo t l nc c ns s ta tm r nf f n it lo hi m wt ld)) (broI (ruP e mo t l nc c ns s ta tm r nf f n it lo hi m wt ld)) (parts n it s lo hi ta wt f) (n + 1)
def p2 (e mo t l : Int) (nc : Nat) (c : Rows) (ns : Nat) (s : Rows) (ta tm r : Int) (nf : Nat) (f : Rows) (n : Nat) (it : Rows) (lo hi : Int) (m : Nat) (wt : Rows) (ld : Bool) : Int := srI e mo t l nc c ns s ta tm r nf f n it lo hi m wt ld (srR e mo t l nc c ns s ta tm r nf f n it lo hi m wt ld)
def p3 (e mo t l : Int) (nc : Nat) (c : Rows) (ns : Nat) (s : Rows) (ta tm r : Int) (nf : Nat) (f : Rows) (n : Nat) (it : Rows) (lo hi : Int) (m : Nat) (wt : Rows) (ld : Bool) : Nat := cnt (srR e mo t l nc c ns s ta tm r nf f n it lo hi m wt ld) n
def p4 (e mo t l : Int) (nc : Nat) (c : Rows) (ns : Nat) (s : Rows) (ta tm r : Int) (nf : Nat) (f : Rows) (n : Nat) (it : Rows) (lo hi : Int) (m : Nat) (wt : Rows) (ld : Bool) : Rows := wI nc c s (srR e mo t l nc c ns s ta tm r nf f n it lo hi m wt ld) (p2 e mo t l nc c ns s ta tm r nf f n it lo hi m wt ld) it
def p5 (e mo t l : Int) (nc : Nat) (c : Rows) (ns : Nat) (s : Rows) (ta tm r : Int) (nf : Nat) (f : Rows) (n : Nat) (it : Rows) (lo hi : Int) (m : Nat) (wt : Rows) (ld : Bool) : Int := only (srR e mo t l nc c ns s ta tm r nf f n it lo hi m wt ld) (wT nc c (srR e mo t l nc c ns s ta tm r nf f n it lo hi m wt ld) (p2 e mo t l nc c ns s ta tm r nf f n it lo hi m wt ld) ta lo hi)
def p6 (e mo t l : Int) (nc : Nat) (c : Rows) (ns : Nat) (s : Rows) (ta tm r : Int) (nf : Nat) (f : Rows) (n : Nat) (it : Rows) (lo hi : Int) (m : Nat) (wt : Rows) (ld : Bool) : Nat := cnt (srR e mo t l nc c ns s ta tm r nf f n it lo hi m wt ld) m
def p7 (e mo t l : Int) (nc : Nat) (c : Rows) (ns : Nat) (s : Rows) (ta tm r : Int) (nf : Nat) (f : Rows) (n : Nat) (it : Rows) (lo hi : Int) (m : Nat) (wt : Rows) (ld : Bool) : Rows := wW nc c f (srR e mo t l nc c ns s ta tm r nf f n it lo hi m wt ld) (p2 e mo t l nc c ns s ta tm r nf f n it lo hi m wt ld) wt
end Go.Ab.S
namespace Go.Ab.B
open Go.Proofs
def znj : List AV → Option (AV × Heap)
  | [.ag [.p (.int .i64 e), .p (.int .i64 mo), .p (.int .i64 t), .p (.int .i64 l), .p (.isl 2 nc c), .p (.isl 2 ns s), .p (.int .i64 ta), .p (.int .i64 tm), .p (.int .i64 r), .p (.isl 2 nf f)], .ag [.p (.isl 3 n it), .p (.int .i64 lo), .p (.int .i64 hi), .p (.isl 2 m wt), .p (.bool ld)]] => some (.ag [.p (.int .i64 (S.rb1 e mo t l nc (S.num c) ns (S.num s) ta tm r nf (S.num f) n (S.num it) lo hi m (S.num wt) ld)), .p (.int .i64 (S.rb2 e mo t l nc (S.num c) ns (S.num s) ta tm r nf (S.num f) n (S.num it) lo hi m (S.num wt) ld)), .p (.int .i64 (S.rb3 e mo t l nc (S.num c) ns (S.num s) ta tm r nf (S.num f) n (S.num it) lo hi m (S.num wt) ld)), .p (.int .i64 (S.rb4 e mo t l nc (S.num c) ns (S.num s) ta tm r nf (S.num f) n (S.num it) lo hi m (S.num wt) ld))], [])
  | _ => none
def znk : List AV → Option (AV × Heap)
  | [.ag [.p (.int .i64 e), .p (.int .i64 mo), .p (.int .i64 t), .p (.int .i64 l), .p (.isl 2 nc c), .p (.isl 2 ns s), .p (.int .i64 ta), .p (.int .i64 tm), .p (.int .i64 r), .p (.isl 2 nf f)], .ag [.p (.isl 3 n it), .p (.int .i64 lo), .p (.int .i64 hi), .p (.isl 2 m wt), .p (.bool ld)]] => some (.tp [.ag [.p (.int .i64 (S.b1 e mo t l nc (S.num c) ns (S.num s) ta tm r nf (S.num f) n (S.num it) lo hi m (S.num wt) ld)), .p (.int .i64 (S.b2 e mo t l nc (S.num c) ns (S.num s) ta tm r nf (S.num f) n (S.num it) lo hi m (S.num wt) ld)), .p (.int .i64 (S.b3 e mo t l nc (S.num c) ns (S.num s) ta tm r nf (S.num f) n (S.num it) lo hi m (S.num wt) ld)), .p (.int .i64 (S.b4 e mo t l nc (S.num c) ns (S.num s) ta tm r nf (S.num f) n (S.num it) lo hi m (S.num wt) ld))], vI .i64 (S.er e mo t l nc (S.num c) ns (S.num s) ta tm r nf (S.num f) n (S.num it) lo hi m (S.num wt) ld)], [])
  | _ => none
def zs7 : List AV → Option (AV × Heap)
  | [.ag [.p (.int .i64 e), .p (.int .i64 mo), .p (.int .i64 t), .p (.int .i64 l), .p (.isl 2 nc c), .p (.isl 2 ns s), .p (.int .i64 ta), .p (.int .i64 tm), .p (.int .i64 r), .p (.isl 2 nf f)], .ag [.p (.isl 3 n it), .p (.int .i64 lo), .p (.int .i64 hi), .p (.isl 2 m wt), .p (.bool ld)]] => some (.tp [vI .i64 (S.q1 e mo t l nc (S.num c) ns (S.num s) ta tm r nf (S.num f) n (S.num it) lo hi m (S.num wt) ld), vI .i64 (S.q2 e mo t l nc (S.num c) ns (S.num s) ta tm r nf (S.num f) n (S.num it) lo hi m (S.num wt) ld), .ag [.p (.isl 1 (S.q3 e mo t l nc (S.num c) ns (S.num s) ta tm r nf (S.num f) n (S.num it) lo hi m (S.num wt) ld) (S.val (S.q4 e mo t l nc (S.num c) ns (S.num s) ta tm r nf (S.num f) n (S.num it) lo hi m (S.num wt) ld))), .p (.int .i64 (S.q5 e mo t l nc (S.num c) ns (S.num s) ta tm r nf (S.num f) n (S.num it) lo hi m (S.num wt) ld)), .p (.isl 1 (S.q6 e mo t l nc (S.num c) ns (S.num s) ta tm r nf (S.num f) n (S.num it) lo hi m (S.num wt) ld) (S.val (S.q7 e mo t l nc (S.num c) ns (S.num s) ta tm r nf (S.num f) n (S.num it) lo hi m (S.num wt) ld)))], vI .i64 (S.er e mo t l nc (S.num c) ns (S.num s) ta tm r nf (S.num f) n (S.num it) lo hi m (S.num wt) ld)], [])
  | _ => none
def zpq : List AV → Option (AV × Heap)
  | [.ag [.p (.int .i64 e), .p (.int .i64 mo), .p (.int .i64 t), .p (.int .i64 l), .p (.isl 2 nc c), .p (.isl 2 ns s), .p (.int .i64 ta), .p (.int .i64 tm), .p (.int .i64 r), .p (.isl 2 nf f)], .ag [.p (.isl 3 n it), .p (.int .i64 lo), .p (.int .i64 hi), .p (.isl 2 m wt), .p (.bool ld)]] => some (.tp [vI .i64 (S.srR e mo t l nc (S.num c) ns (S.num s) ta tm r nf (S.num f) n (S.num it) lo hi m (S.num wt) ld), vI .i64 (S.p2 e mo t l nc (S.num c) ns (S.num s) ta tm r nf (S.num f) n (S.num it) lo hi m (S.num wt) ld), .ag [.p (.isl 1 (S.p3 e mo t l nc (S.num c) ns (S.num s) ta tm r nf (S.num f) n (S.num it) lo hi m (S.num wt) ld) (S.val (S.p4 e mo t l nc (S.num c) ns (S.num s) ta tm r nf (S.num f) n (S.num it) lo hi m (S.num wt) ld))), .p (.int .i64 (S.p5 e mo t l nc (S.num c) ns (S.num s) ta tm r nf (S.num f) n (S.num it) lo hi m (S.num wt) ld)), .p (.isl 1 (S.p6 e mo t l nc (S.num c) ns (S.num s) ta tm r nf (S.num f) n (S.num it) lo hi m (S.num wt) ld) (S.val (S.p7 e mo t l nc (S.num c) ns (S.num s) ta tm r nf (S.num f) n (S.num it) lo hi m (S.num wt) ld)))]], [])
  | _ => none
def Sp7 (f : Nat) (l : List AV) : Option (AV × Heap) := bif Nat.beq f z71 then znj l else bif Nat.beq f z5n then znk l else bif Nat.beq f z2i then zs7 l else bif Nat.beq f z4v then zpq l else Sp6 f l
def cs7 {P : Program} (hbs : BsOk P) : Cfg := { cs6 hbs with Sp := Sp7 }
section
variable {hbs : BsOk Tryz.prog}
theorem zjt (e mo t l : Int) (nc : Nat) (c : S.Rows) (ns : Nat) (s : S.Rows) (ta tm r : Int) (nf : Nat) (f : S.Rows) (n : Nat) (it : S.Rows) (lo hi : Int) (m : Nat) (wt : S.Rows) (ld : Bool) (Q : AV → Heap → Prop) :
 ((fun (A2 : List CV) => ((fun (A3 : List CV) => ((fun (A4 : List CV) => ((fun (A6 : AV) => ((fun (A7 : AV) => ((fun (A8 : Option Blk) => ((fun (A9 : AV) => ((fun (A10 : Option Blk) => ((fun (A0 : Heap) => ((fun (A1 : Heap) => ((fun (A5 : Heap) => ((BrP (decide ((nc : Int) ≤ (20 : Int)))
 (BrP (decide ((ns : Int) ≤ (20 : Int)))
 (BrP (decide ((nf : Int) ≤ (10 : Int)))
 (BrP (decide ((n : Int) ≤ (20 : Int)))
 (BrP (decide ((m : Int) ≤ (10 : Int)))
 ((z8 (cs7 hbs) z5n [A6, A7] (.tp [(.ag A4), A9]) []) ∧
 ((z8 (cs7 hbs) z2i [A6, A7] (.tp [(vJ (S.q1 e mo t l nc c ns s ta tm r nf f n it lo hi m wt ld)), (vJ (S.q2 e mo t l nc c ns s ta tm r nf f n it lo hi m wt ld)), (.ag A2), A9]) []) ∧
 ((z8 (cs7 hbs) zab [A6] (.c (.p (.bool (S.plane e mo t l nc c ns s ta tm r nf f)))) []) ∧
 (BrP (S.plane e mo t l nc c ns s ta tm r nf f)
 ((z8 (cs7 hbs) zac [A6, A7] (.c (.p (.bool (S.point ns nf n it lo hi m wt)))) []) ∧
 (BrP (S.point ns nf n it lo hi m wt)
 ((z8 (cs7 hbs) z4v [A6, A7] (.tp [(vJ (S.srR e mo t l nc c ns s ta tm r nf f n it lo hi m wt ld)), (vJ (S.p2 e mo t l nc c ns s ta tm r nf f n it lo hi m wt ld)), (.ag A3)]) []) ∧
 (BrP ((S.er e mo t l nc c ns s ta tm r nf f n it lo hi m wt ld) == (0 : Int))
 (BrP ((S.er e mo t l nc c ns s ta tm r nf f n it lo hi m wt ld) == (0 : Int))
 ((z8 (cs7 hbs) z71 [A6, A7] (.ag [(cJ (S.rb1 e mo t l nc c ns s ta tm r nf f n it lo hi m wt ld)), (cJ (S.rb2 e mo t l nc c ns s ta tm r nf f n it lo hi m wt ld)), (cJ (S.rb3 e mo t l nc c ns s ta tm r nf f n it lo hi m wt ld)), (cJ (S.rb4 e mo t l nc c ns s ta tm r nf f n it lo hi m wt ld))]) []) ∧
 (BrP (((S.b1 e mo t l nc c ns s ta tm r nf f n it lo hi m wt ld) == (S.rb1 e mo t l nc c ns s ta tm r nf f n it lo hi m wt ld)) && (((S.b2 e mo t l nc c ns s ta tm r nf f n it lo hi m wt ld) == (S.rb2 e mo t l nc c ns s ta tm r nf f n it lo hi m wt ld)) && (((S.b3 e mo t l nc c ns s ta tm r nf f n it lo hi m wt ld) == (S.rb3 e mo t l nc c ns s ta tm r nf f n it lo hi m wt ld)) && (((S.b4 e mo t l nc c ns s ta tm r nf f n it lo hi m wt ld) == (S.rb4 e mo t l nc c ns s ta tm r nf f n it lo hi m wt ld)) && true))))
 (BrP ((S.q1 e mo t l nc c ns s ta tm r nf f n it lo hi m wt ld) == (S.srR e mo t l nc c ns s ta tm r nf f n it lo hi m wt ld))
 (BrP ((S.q2 e mo t l nc c ns s ta tm r nf f n it lo hi m wt ld) == (S.p2 e mo t l nc c ns s ta tm r nf f n it lo hi m wt ld))
 ((z8 (cs7 hbs) z81 [(.ag A2), (.ag A3)] (.c (.p (.bool (S.sameCase (S.q3 e mo t l nc c ns s ta tm r nf f n it lo hi m wt ld) (S.q4 e mo t l nc c ns s ta tm r nf f n it lo hi m wt ld) (S.q5 e mo t l nc c ns s ta tm r nf f n it lo hi m wt ld) (S.q6 e mo t l nc c ns s ta tm r nf f n it lo hi m wt ld) (S.q7 e mo t l nc c ns s ta tm r nf f n it lo hi m wt ld) (S.p3 e mo t l nc c ns s ta tm r nf f n it lo hi m wt ld) (S.p4 e mo t l nc c ns s ta tm r nf f n it lo hi m wt ld) (S.p5 e mo t l nc c ns s ta tm r nf f n it lo hi m wt ld) (S.p6 e mo t l nc c ns s ta tm r nf f n it lo hi m wt ld) (S.p7 e mo t l nc c ns s ta tm r nf f n it lo hi m wt ld))))) []) ∧
 (BrP (S.sameCase (S.q3 e mo t l nc c ns s ta tm r nf f n it lo hi m wt ld) (S.q4 e mo t l nc c ns s ta tm r nf f n it lo hi m wt ld) (S.q5 e mo t l nc c ns s ta tm r nf f n it lo hi m wt ld) (S.q6 e mo t l nc c ns s ta tm r nf f n it lo hi m wt ld) (S.q7 e mo t l nc c ns s ta tm r nf f n it lo hi m wt ld) (S.p3 e mo t l nc c ns s ta tm r nf f n it lo hi m wt ld) (S.p4 e mo t l nc c ns s ta tm r nf f n it lo hi m wt ld) (S.p5 e mo t l nc c ns s ta tm r nf f n it lo hi m wt ld) (S.p6 e mo t l nc c ns s ta tm r nf f n it lo hi m wt ld) (S.p7 e mo t l nc c ns s ta tm r nf f n it lo hi m wt ld))
 ((z8 (cs7 hbs) z1b [] (vB true) []) ∧
 (Q (vB true) A1))
 (Q (vB false) A1)))
 (Q (vB false) A1))
 (Q (vB false) A1))
 (Q (vB false) A1)))
 (Q (vB false) A1))
 (Q (vB false) A1)))
 (BrP ((S.er e mo t l nc c ns s ta tm r nf f n it lo hi m wt ld) == (2 : Int))
 (BrP ((S.er e mo t l nc c ns s ta tm r nf f n it lo hi m wt ld) == (2 : Int))
 (BrP (((S.b1 e mo t l nc c ns s ta tm r nf f n it lo hi m wt ld) == (0 : Int)) && (((S.b2 e mo t l nc c ns s ta tm r nf f n it lo hi m wt ld) == (0 : Int)) && (((S.b3 e mo t l nc c ns s ta tm r nf f n it lo hi m wt ld) == (0 : Int)) && (((S.b4 e mo t l nc c ns s ta tm r nf f n it lo hi m wt ld) == (0 : Int)) && true))))
 (BrP ((S.q1 e mo t l nc c ns s ta tm r nf f n it lo hi m wt ld) == (0 : Int))
 (BrP ((S.q2 e mo t l nc c ns s ta tm r nf f n it lo hi m wt ld) == (0 : Int))
 (BrP ((((S.q3 e mo t l nc c ns s ta tm r nf f n it lo hi m wt ld) : Nat) : Int) != (0 : Int))
 (Q (vB false) A0)
 (BrP (decide ((0 : Int) < (((S.q3 e mo t l nc c ns s ta tm r nf f n it lo hi m wt ld) : Nat) : Int)))
 (CdP (.rng (0 : Int) (S.q3 e mo t l nc c ns s ta tm r nf f n it lo hi m wt ld))
 False)
 (BrP ((S.q5 e mo t l nc c ns s ta tm r nf f n it lo hi m wt ld) == (0 : Int))
 (BrP ((((S.q6 e mo t l nc c ns s ta tm r nf f n it lo hi m wt ld) : Nat) : Int) != (0 : Int))
 (Q (vB false) A0)
 (BrP (decide ((0 : Int) < (((S.q6 e mo t l nc c ns s ta tm r nf f n it lo hi m wt ld) : Nat) : Int)))
 (CdP (.rng (0 : Int) (S.q6 e mo t l nc c ns s ta tm r nf f n it lo hi m wt ld))
 False)
 ((z8 (cs7 hbs) z1b [] (vB true) []) ∧
 (Q (vB true) A0))))
 (Q (vB false) A0))))
 (Q (vB false) A0))
 (Q (vB false) A0))
 (Q (vB false) A0))
 (Q (vB false) A0))
 (Q (vB false) A0))))
 (BrP ((S.er e mo t l nc c ns s ta tm r nf f n it lo hi m wt ld) == (2 : Int))
 (BrP ((S.er e mo t l nc c ns s ta tm r nf f n it lo hi m wt ld) == (2 : Int))
 (BrP (((S.b1 e mo t l nc c ns s ta tm r nf f n it lo hi m wt ld) == (0 : Int)) && (((S.b2 e mo t l nc c ns s ta tm r nf f n it lo hi m wt ld) == (0 : Int)) && (((S.b3 e mo t l nc c ns s ta tm r nf f n it lo hi m wt ld) == (0 : Int)) && (((S.b4 e mo t l nc c ns s ta tm r nf f n it lo hi m wt ld) == (0 : Int)) && true))))
 (BrP ((S.q1 e mo t l nc c ns s ta tm r nf f n it lo hi m wt ld) == (0 : Int))
 (BrP ((S.q2 e mo t l nc c ns s ta tm r nf f n it lo hi m wt ld) == (0 : Int))
 (BrP ((((S.q3 e mo t l nc c ns s ta tm r nf f n it lo hi m wt ld) : Nat) : Int) != (0 : Int))
 (Q (vB false) A0)
 (BrP (decide ((0 : Int) < (((S.q3 e mo t l nc c ns s ta tm r nf f n it lo hi m wt ld) : Nat) : Int)))
 (CdP (.rng (0 : Int) (S.q3 e mo t l nc c ns s ta tm r nf f n it lo hi m wt ld))
 False)
 (BrP ((S.q5 e mo t l nc c ns s ta tm r nf f n it lo hi m wt ld) == (0 : Int))
 (BrP ((((S.q6 e mo t l nc c ns s ta tm r nf f n it lo hi m wt ld) : Nat) : Int) != (0 : Int))
 (Q (vB false) A0)
 (BrP (decide ((0 : Int) < (((S.q6 e mo t l nc c ns s ta tm r nf f n it lo hi m wt ld) : Nat) : Int)))
 (CdP (.rng (0 : Int) (S.q6 e mo t l nc c ns s ta tm r nf f n it lo hi m wt ld))
 False)
 ((z8 (cs7 hbs) z1b [] (vB true) []) ∧
 (Q (vB true) A0))))
 (Q (vB false) A0))))
 (Q (vB false) A0))
 (Q (vB false) A0))
 (Q (vB false) A0))
 (Q (vB false) A0))
 (Q (vB false) A0))))))
 ((z8 (cs7 hbs) z1b [] (vB true) []) ∧
 (Q (vB true) A5)))
 ((z8 (cs7 hbs) z1b [] (vB true) []) ∧
 (Q (vB true) A5)))
 ((z8 (cs7 hbs) z1b [] (vB true) []) ∧
 (Q (vB true) A5)))
 ((z8 (cs7 hbs) z1b [] (vB true) []) ∧
 (Q (vB true) A5)))
 ((z8 (cs7 hbs) z1b [] (vB true) []) ∧
 (Q (vB true) A5))))) [A8, A10])) [A8, A10, (some (.box zn A4)), (some (.box z7 A2)), (some (.box z7 A3))])) [A8, A10, (some (.box zn A4)), (some (.box z7 A2))])) (bX n it lo hi m wt ld))) (vJ (S.er e mo t l nc c ns s ta tm r nf f n it lo hi m wt ld)))) (bP e mo t l nc c ns s ta tm r nf f))) (.ag (kX n it lo hi m wt ld)))) (.ag (kP e mo t l nc c ns s ta tm r nf f)))) [(cJ (S.b1 e mo t l nc c ns s ta tm r nf f n it lo hi m wt ld)), (cJ (S.b2 e mo t l nc c ns s ta tm r nf f n it lo hi m wt ld)), (cJ (S.b3 e mo t l nc c ns s ta tm r nf f n it lo hi m wt ld)), (cJ (S.b4 e mo t l nc c ns s ta tm r nf f n it lo hi m wt ld))])) [(.p (.isl 1 (S.p3 e mo t l nc c ns s ta tm r nf f n it lo hi m wt ld) (S.val (S.p4 e mo t l nc c ns s ta tm r nf f n it lo hi m wt ld)))), (cJ (S.p5 e mo t l nc c ns s ta tm r nf f n it lo hi m wt ld)), (.p (.isl 1 (S.p6 e mo t l nc c ns s ta tm r nf f n it lo hi m wt ld) (S.val (S.p7 e mo t l nc c ns s ta tm r nf f n it lo hi m wt ld))))])) [(.p (.isl 1 (S.q3 e mo t l nc c ns s ta tm r nf f n it lo hi m wt ld) (S.val (S.q4 e mo t l nc c ns s ta tm r nf f n it lo hi m wt ld)))), (cJ (S.q5 e mo t l nc c ns s ta tm r nf f n it lo hi m wt ld)), (.p (.isl 1 (S.q6 e mo t l nc c ns s ta tm r nf f n it lo hi m wt ld) (S.val (S.q7 e mo t l nc c ns s ta tm r nf f n it lo hi m wt ld))))]) = (ex (cs7 hbs) 1000 0 zb9 ⟨ofL 0 [.ag (plC e mo t l nc (S.val c) ns (S.val s) ta tm r nf (S.val f)), .ag (ptC n (S.val it) lo hi m (S.val wt) ld)] .lf, []⟩ (endK z3w.rs (fun r H => .pr (Q r H)) fun _ _ => .no)).hold2 := by kernel_rfl
end
end Go.Ab.B
namespace Go.Ab.S
theorem z6x {p q : Nat → Bool} {n : Nat} (h : ∀ i, i < n → p i = q i) : from_ p n 0 = from_ q n 0 := by
  cases hp : from_ p n 0 with
  | true => exact (from_iff.2 fun i h0 hi => by rw [← h i hi]; exact from_iff.1 hp i h0 hi).symm
  | false =>
    cases hq : from_ q n 0 with
    | false => rfl
    | true =>
      have : from_ p n 0 = true := from_iff.2 fun i h0 hi => by rw [h i hi]; exact from_iff.1 hq i h0 hi
      rw [hp] at this; cases this
theorem zmt {p q : Nat → Bool} : ∀ {k i : Nat}, (∀ j, i ≤ j → j < i + k → p j = q j) → fstF p k i = fstF q k i
  | 0, i, _ => rfl
  | k + 1, i, h => by
    simp only [fstF]
    rw [h i (by omega) (by omega), zmt (k := k) (i := i + 1) fun j h1 h2 => h j (by omega) (by omega)]
theorem z9p {p q : Nat → Bool} {n : Nat} (h : ∀ i, i < n → p i = q i) : fst p n 0 = fst q n 0 := zmt fun j _ hj => h j (by omega)
theorem zb0 (a b : Int) : (!decide (a < b)) = decide (0 ≤ a - b) := by
  by_cases h : a < b
  · have : ¬ 0 ≤ a - b := by omega
    rw [decide_eq_true h, decide_eq_false this]; rfl
  · have : 0 ≤ a - b := by omega
    rw [decide_eq_false h, decide_eq_true this]; rfl
section
variable {e mo t l : Int} {nc : Nat} {c : Rows} {ns : Nat} {s : Rows} {ta tm r : Int} {nf : Nat} {f : Rows} {n : Nat} {it : Rows} {lo hi : Int} {m : Nat} {wt : Rows} {ld : Bool}
theorem zty {i N : Nat} (h : i < N) : inB 0 (i : Int) ((N : Int) - 1) = true := inB_iff.2 (by omega)
theorem ok2 (i : Nat) (h : i < ns) : okAt e mo t l nc c ns s ta tm r nf f n it lo hi m wt ld 2 i = nonneg (subR s (stS n it)) i := by
  have hs : sumR (atR it (wI nc c s 2 i it) i) n 0 = stS n it i := z3j fun j _ hj => by
    show (match it j 0 == (i : Int) with | true => endOf (it j 0 == (i : Int)) (it j 1) (it j 2) | false => 0) = (match it j 0 == (i : Int) with | true => it j 2 | false => 0)
    cases hb : (it j 0 == (i : Int)) <;> rfl
  show (!(inB 0 (i : Int) ((ns : Int) - 1) && decide (s (i : Int).toNat 1 < sumR (atR it (wI nc c s 2 i it) i) n 0))) = decide (0 ≤ s i 1 - stS n it i)
  rw [zty h, hs, Bool.true_and, Int.toNat_natCast, zb0]
theorem ok3 (i : Nat) (h : i < 1) : okAt e mo t l nc c ns s ta tm r nf f n it lo hi m wt ld 3 i = nonneg (num (oneV (tm - hi))) i := by
  obtain rfl : i = 0 := by omega
  show (!(((0 : Nat) : Int) == 0 && decide (tm < hi))) = decide (0 ≤ tm - hi)
  rw [show (((0 : Nat) : Int) == 0) = true from rfl, Bool.true_and, zb0]
theorem ok4 (i : Nat) (h : i < nf) : okAt e mo t l nc c ns s ta tm r nf f n it lo hi m wt ld 4 i = nonneg (wetR f wt) i := by
  have hs : wW nc c f 4 i wt i 0 = wt i 1 := by
    show (match Nat.beq i (i : Int).toNat && Nat.beq 0 0 with | true => wt (i : Int).toNat 1 | false => wt i 0) = wt i 1
    rw [Int.toNat_natCast, show (Nat.beq i i && Nat.beq 0 0) = true by simp]
  show (!(inB 0 (i : Int) ((nf : Int) - 1) && decide (f (i : Int).toNat 1 < wW nc c f 4 i wt (i : Int).toNat 0))) = decide (0 ≤ f i 1 - wt i 1)
  rw [zty h, Bool.true_and, Int.toNat_natCast, hs, zb0]
theorem zx3 : zil n (ends it 1 true) hi m (ends wt 0 true) (pH (parts n it s lo hi ta wt f)) :=
  ⟨fun i h => by simp only [pH, parts_it h]; rfl, by simp only [pH, parts_tk]; rfl, fun j h => by simp only [pH, parts_wt]; rfl⟩
theorem ok5 (i : Nat) (h : i < 1) : okAt e mo t l nc c ns s ta tm r nf f n it lo hi m wt ld 5 i = nonneg (num (oneV (heavyX e t l ld (n + 1 + m) (parts n it s lo hi ta wt f)))) i := by
  obtain rfl : i = 0 := by omega
  have hw : wgt e (wT nc c 5 ((0 : Nat) : Int) ta lo hi) n (wI nc c s 5 ((0 : Nat) : Int) it) m (wW nc c f 5 ((0 : Nat) : Int) wt) = e + sumR (pH (parts n it s lo hi ta wt f)) (n + 1 + m) 0 := zmu (zx3 (n := n) (it := it) (s := s) (lo := lo) (hi := hi) (ta := ta) (wt := wt) (f := f) (m := m))
  show (!((((0 : Nat) : Int) == 0) && (match ld with | true => decide (l < wgt e (wT nc c 5 ((0 : Nat) : Int) ta lo hi) n (wI nc c s 5 ((0 : Nat) : Int) it) m (wW nc c f 5 ((0 : Nat) : Int) wt)) | false => decide (t < wgt e (wT nc c 5 ((0 : Nat) : Int) ta lo hi) n (wI nc c s 5 ((0 : Nat) : Int) it) m (wW nc c f 5 ((0 : Nat) : Int) wt))))) = decide (0 ≤ heavyX e t l ld (n + 1 + m) (parts n it s lo hi ta wt f))
  rw [hw, show (((0 : Nat) : Int) == 0) = true from rfl, Bool.true_and]
  cases ld
  · exact zb0 _ _
  · exact zb0 _ _
theorem zav (i : Nat) (arm : Int) : ab (c (i : Int).toNat 0) (c (i : Int).toNat 1) (c (nxt nc (i : Int).toNat) 0) (c (nxt nc (i : Int).toNat) 1) arm = decide (lean nc c i arm < 0) := by
  rw [Int.toNat_natCast]
  unfold ab lean
  generalize (c (nxt nc i) 0 - c i 0) * arm = x
  generalize c (nxt nc i) 1 - c i 1 = y
  by_cases h : x < y
  · have : x - y < 0 := by omega
    simp [h, this]
  · have : ¬ x - y < 0 := by omega
    simp [h, this]
def v6 (nc : Nat) (c : Rows) (i : Nat) (p : Rows) : Nat → Int := fun j => endOf (decide (lean nc c i (p j 2) < 0)) (p j 0) (p j 1)
theorem zyb (i : Nat) : zil n (wI nc c s 6 i it) (wT nc c 6 i ta lo hi) m (wW nc c f 6 i wt) (v6 nc c i (parts n it s lo hi ta wt f)) :=
  ⟨fun j h => by
    show _ = endOf (ab _ _ _ _ (s (it j 0).toNat 0)) (it j 1) (it j 2)
    rw [zav]
    simp only [v6, parts_it h]
    rfl, by
    show _ = endOf (ab _ _ _ _ ta) lo hi
    rw [zav]
    simp only [v6, parts_tk]
    rfl, fun j h => by
    show _ = endOf (ab _ _ _ _ (f j 0)) (wt j 0) (wt j 1)
    rw [zav]
    simp only [v6, parts_wt]
    rfl⟩
theorem ok6 (hle : ∀ j, j < n + 1 + m → parts n it s lo hi ta wt f j 0 ≤ parts n it s lo hi ta wt f j 1) (i : Nat) (h : i < nc) : okAt e mo t l nc c ns s ta tm r nf f n it lo hi m wt ld 6 i = nonneg (outR e mo nc c (n + 1 + m) (parts n it s lo hi ta wt f)) i := by
  have hv := zyb (nc := nc) (c := c) (n := n) (it := it) (s := s) (lo := lo) (hi := hi) (ta := ta) (wt := wt) (f := f) (m := m) i
  have hw := zmu (e := e) hv
  have hm := ztz (mo := mo) (ta := ta) (it := it) (s := s) (f := f) (lo := lo) (hi := hi) (wt := wt) hv
  have hse := z10v (e := e) (mo := mo) (nc := nc) (c := c) hle i (v := v6 nc c i (parts n it s lo hi ta wt f)) fun j h => rfl
  show (!(inB 0 (i : Int) ((nc : Int) - 1) && decide (sd nc c (i : Int).toNat (wgt e (wT nc c 6 i ta lo hi) n (wI nc c s 6 i it) m (wW nc c f 6 i wt)) (mom mo (wT nc c 6 i ta lo hi) ta n (wI nc c s 6 i it) it s m (wW nc c f 6 i wt) f) < 0))) = decide (0 ≤ outR e mo nc c (n + 1 + m) (parts n it s lo hi ta wt f) i 0)
  rw [zty h, Bool.true_and, Int.toNat_natCast, hw, hm, hse, zb0, Int.sub_zero]
theorem ok7 : from_ (okAt e mo t l nc c ns s ta tm r nf f n it lo hi m wt ld 7) 1 0 = from_ (nonneg (num (oneV (lo - r)))) (b01 ld) 0 := by
  cases ld
  · show from_ _ 1 0 = from_ _ 0 0
    rw [from_end (Nat.le_refl 0)]
    exact from_iff.2 fun i _ hi => by
      obtain rfl : i = 0 := by omega
      rfl
  · exact z6x fun i hi => by
      obtain rfl : i = 0 := by omega
      show (!(((0 : Nat) : Int) == 0 && (true && decide (lo < r)))) = decide (0 ≤ lo - r)
      rw [show (((0 : Nat) : Int) == 0) = true from rfl, Bool.true_and, Bool.true_and, zb0]
theorem ok7f (h : from_ (nonneg (num (oneV (lo - r)))) (b01 ld) 0 = false) : fst (okAt e mo t l nc c ns s ta tm r nf f n it lo hi m wt ld 7) 1 0 = 0 ∧ fst (nonneg (num (oneV (lo - r)))) (b01 ld) 0 = 0 := by
  have h1 := zdz (p := okAt e mo t l nc c ns s ta tm r nf f n it lo hi m wt ld 7) (n := 1) (i := 0) rfl (by rw [ok7]; exact h)
  have h2 := zdz (p := nonneg (num (oneV (lo - r)))) (n := b01 ld) (i := 0) rfl h
  have : b01 ld ≤ 1 := by cases ld <;> simp [b01]
  omega
theorem bro_sr (hmf : m = nf) (hle : ∀ j, j < n + 1 + m → parts n it s lo hi ta wt f j 0 ≤ parts n it s lo hi ta wt f j 1) :
    broR (ruP e mo t l nc c ns s ta tm r nf f n it lo hi m wt ld) = srR e mo t l nc c ns s ta tm r nf f n it lo hi m wt ld ∧
    broI (ruP e mo t l nc c ns s ta tm r nf f n it lo hi m wt ld) = srI e mo t l nc c ns s ta tm r nf f n it lo hi m wt ld (srR e mo t l nc c ns s ta tm r nf f n it lo hi m wt ld) := by
  have m2 : (many nc ns nf 2).toNat = ns := Int.toNat_natCast ns
  have m3 : (many nc ns nf 3).toNat = 1 := rfl
  have m4 : (many nc ns nf 4).toNat = nf := Int.toNat_natCast nf
  have m5 : (many nc ns nf 5).toNat = 1 := rfl
  have m6 : (many nc ns nf 6).toNat = nc := Int.toNat_natCast nc
  have m7 : (many nc ns nf 7).toNat = 1 := rfl
  have e2 := z6x (ok2 (e := e) (mo := mo) (t := t) (l := l) (nc := nc) (c := c) (ns := ns) (s := s) (ta := ta) (tm := tm) (r := r) (nf := nf) (f := f) (n := n) (it := it) (lo := lo) (hi := hi) (m := m) (wt := wt) (ld := ld))
  have e3 := z6x (ok3 (e := e) (mo := mo) (t := t) (l := l) (nc := nc) (c := c) (ns := ns) (s := s) (ta := ta) (tm := tm) (r := r) (nf := nf) (f := f) (n := n) (it := it) (lo := lo) (hi := hi) (m := m) (wt := wt) (ld := ld))
  have e4 := z6x (ok4 (e := e) (mo := mo) (t := t) (l := l) (nc := nc) (c := c) (ns := ns) (s := s) (ta := ta) (tm := tm) (r := r) (nf := nf) (f := f) (n := n) (it := it) (lo := lo) (hi := hi) (m := m) (wt := wt) (ld := ld))
  have e5 := z6x (ok5 (e := e) (mo := mo) (t := t) (l := l) (nc := nc) (c := c) (ns := ns) (s := s) (ta := ta) (tm := tm) (r := r) (nf := nf) (f := f) (n := n) (it := it) (lo := lo) (hi := hi) (m := m) (wt := wt) (ld := ld))
  have e6 := z6x (ok6 (e := e) (mo := mo) (t := t) (l := l) (nc := nc) (c := c) (ns := ns) (s := s) (ta := ta) (tm := tm) (r := r) (nf := nf) (f := f) (n := n) (it := it) (lo := lo) (hi := hi) (m := m) (wt := wt) (ld := ld) hle)
  have e7 := ok7 (e := e) (mo := mo) (t := t) (l := l) (nc := nc) (c := c) (ns := ns) (s := s) (ta := ta) (tm := tm) (r := r) (nf := nf) (f := f) (n := n) (it := it) (lo := lo) (hi := hi) (m := m) (wt := wt) (ld := ld)
  have f2 := z9p (ok2 (e := e) (mo := mo) (t := t) (l := l) (nc := nc) (c := c) (ns := ns) (s := s) (ta := ta) (tm := tm) (r := r) (nf := nf) (f := f) (n := n) (it := it) (lo := lo) (hi := hi) (m := m) (wt := wt) (ld := ld))
  have f3 := z9p (ok3 (e := e) (mo := mo) (t := t) (l := l) (nc := nc) (c := c) (ns := ns) (s := s) (ta := ta) (tm := tm) (r := r) (nf := nf) (f := f) (n := n) (it := it) (lo := lo) (hi := hi) (m := m) (wt := wt) (ld := ld))
  have f4 := z9p (ok4 (e := e) (mo := mo) (t := t) (l := l) (nc := nc) (c := c) (ns := ns) (s := s) (ta := ta) (tm := tm) (r := r) (nf := nf) (f := f) (n := n) (it := it) (lo := lo) (hi := hi) (m := m) (wt := wt) (ld := ld))
  have f5 := z9p (ok5 (e := e) (mo := mo) (t := t) (l := l) (nc := nc) (c := c) (ns := ns) (s := s) (ta := ta) (tm := tm) (r := r) (nf := nf) (f := f) (n := n) (it := it) (lo := lo) (hi := hi) (m := m) (wt := wt) (ld := ld))
  have f6 := z9p (ok6 (e := e) (mo := mo) (t := t) (l := l) (nc := nc) (c := c) (ns := ns) (s := s) (ta := ta) (tm := tm) (r := r) (nf := nf) (f := f) (n := n) (it := it) (lo := lo) (hi := hi) (m := m) (wt := wt) (ld := ld) hle)
  simp only [broR, broI, ruP, rules, bro, srR, z7h, m2, m3, m4, m5, m6, m7, e2, e3, e4, e5, e6, e7]
  cases h2 : from_ (nonneg (subR s (stS n it))) ns 0 with
  | false => exact ⟨rfl, by simp only [srI, m2, f2]; rfl⟩
  | true =>
    cases h3 : from_ (nonneg (num (oneV (tm - hi)))) 1 0 with
    | false => exact ⟨rfl, by simp only [srI, m3, f3]; rfl⟩
    | true =>
      cases h4 : from_ (nonneg (wetR f wt)) nf 0 with
      | false => exact ⟨rfl, by simp only [srI, m4, f4]; rfl⟩
      | true =>
        cases h5 : from_ (nonneg (num (oneV (heavyX e t l ld (n + 1 + m) (parts n it s lo hi ta wt f))))) 1 0 with
        | false => exact ⟨rfl, by simp only [srI, m5, f5]; rfl⟩
        | true =>
          cases h6 : from_ (nonneg (outR e mo nc c (n + 1 + m) (parts n it s lo hi ta wt f))) nc 0 with
          | false => exact ⟨rfl, by simp only [srI, m6, f6]; rfl⟩
          | true =>
            cases h7 : from_ (nonneg (num (oneV (lo - r)))) (b01 ld) 0 with
            | false =>
              have := ok7f (e := e) (mo := mo) (t := t) (l := l) (nc := nc) (c := c) (ns := ns) (s := s) (ta := ta) (tm := tm) (nf := nf) (f := f) (n := n) (it := it) (hi := hi) (m := m) (wt := wt) h7
              exact ⟨rfl, by simp only [srI, m7, this.1, this.2]; rfl⟩
            | true => exact ⟨rfl, rfl⟩
theorem w_it {R : Int} {N : Nat} {g : Rows} {i : Nat} (h : (R, N, g) ∈ ruP e mo t l nc c ns s ta tm r nf f n it lo hi m wt ld) (j : Nat) (hj : j < n) : wcR nc c R i (parts n it s lo hi ta wt f) 0 j 0 = wI nc c s R i it j 0 := by
  have e0 : wcR nc c R i (parts n it s lo hi ta wt f) 0 j 0 = endOf (asH nc c R i (s (it j 0).toNat 0) 2 (it j 0)) (it j 1) (it j 2) := by
    simp only [wcR, wc, Nat.zero_add, parts_it hj]; rfl
  rw [e0]
  rcases ze0 h with ⟨rfl, _⟩ | ⟨rfl, _⟩ | ⟨rfl, _⟩ | ⟨rfl, _⟩ | ⟨rfl, _⟩ | ⟨rfl, _⟩
  · rfl
  · rfl
  · rfl
  · rfl
  · show endOf (decide (lean nc c (i : Int).toNat _ < 0)) _ _ = endOf (ab _ _ _ _ (s (it j 0).toNat 0)) (it j 1) (it j 2)
    rw [zav, Int.toNat_natCast]
  · rfl
theorem w_tk {R : Int} {N : Nat} {g : Rows} {i : Nat} (h : (R, N, g) ∈ ruP e mo t l nc c ns s ta tm r nf f n it lo hi m wt ld) (hi' : i < N) : wc nc c R i (parts n it s lo hi ta wt f) n = wT nc c R i ta lo hi := by
  have e0 : wc nc c R i (parts n it s lo hi ta wt f) n = endOf (asH nc c R i ta 3 0) lo hi := by
    simp only [wc, parts_tk]; rfl
  rw [e0]
  rcases ze0 h with ⟨rfl, _⟩ | ⟨rfl, hN, _⟩ | ⟨rfl, _⟩ | ⟨rfl, _⟩ | ⟨rfl, _⟩ | ⟨rfl, _⟩
  · rfl
  · obtain rfl : i = 0 := by omega
    rfl
  · rfl
  · rfl
  · show endOf (decide (lean nc c (i : Int).toNat _ < 0)) _ _ = endOf (ab _ _ _ _ ta) lo hi
    rw [zav, Int.toNat_natCast]
  · rfl
theorem w_wt {R : Int} {N : Nat} {g : Rows} {i : Nat} (h : (R, N, g) ∈ ruP e mo t l nc c ns s ta tm r nf f n it lo hi m wt ld) (j : Nat) : wcR nc c R i (parts n it s lo hi ta wt f) (n + 1) j 0 = wW nc c f R i wt j 0 := by
  have e0 : wcR nc c R i (parts n it s lo hi ta wt f) (n + 1) j 0 = endOf (asH nc c R i (f j 0) 4 (j : Nat)) (wt j 0) (wt j 1) := by
    simp only [wcR, wc, parts_wt]; rfl
  rw [e0]
  rcases ze0 h with ⟨rfl, _⟩ | ⟨rfl, _⟩ | ⟨rfl, _⟩ | ⟨rfl, _⟩ | ⟨rfl, _⟩ | ⟨rfl, _⟩
  · rfl
  · rfl
  · show endOf (true && ((j : Int) == (i : Int))) (wt j 0) (wt j 1) = (match Nat.beq j (i : Int).toNat && Nat.beq 0 0 with | true => wt (i : Int).toNat 1 | false => wt j 0)
    rw [Int.toNat_natCast, Bool.true_and]
    by_cases hji : j = i
    · subst hji
      rw [show (Nat.beq j j && Nat.beq 0 0) = true by simp, show ((j : Int) == (j : Int)) = true by simp]
      rfl
    · rw [show (Nat.beq j i && Nat.beq 0 0) = false by
        cases hb : (Nat.beq j i && Nat.beq 0 0) with
        | false => rfl
        | true => simp at hb; exact absurd hb hji, show ((j : Int) == (i : Int)) = false by
        cases hb : ((j : Int) == (i : Int)) with
        | false => rfl
        | true => have := eq_of_beq hb; omega]
      rfl
  · rfl
  · show endOf (decide (lean nc c (i : Int).toNat _ < 0)) _ _ = endOf (ab _ _ _ _ (f j 0)) (wt j 0) (wt j 1)
    rw [zav, Int.toNat_natCast]
  · rfl
theorem zwi {n : Nat} {a b : Rows} (h : ∀ i, i < n → a i 0 = b i 0) : same n a n b = true := by
  unfold same
  rw [decide_eq_true rfl, Bool.true_and]
  exact from_iff.2 fun i _ hi => by unfold eqAt; rw [h i hi]; exact beq_self_eq_true _
theorem case_sr {R I : Int} (hR : broR (ruP e mo t l nc c ns s ta tm r nf f n it lo hi m wt ld) = R) (hI : broI (ruP e mo t l nc c ns s ta tm r nf f n it lo hi m wt ld) = I) :
    sameCase (cnt R n) (wcR nc c R I (parts n it s lo hi ta wt f) 0) (only R (wc nc c R I (parts n it s lo hi ta wt f) n)) (cnt R m) (wcR nc c R I (parts n it s lo hi ta wt f) (n + 1)) (cnt R n) (wI nc c s R I it) (only R (wT nc c R I ta lo hi)) (cnt R m) (wW nc c f R I wt) = true := by
  rcases bro_spec (ruP e mo t l nc c ns s ta tm r nf f n it lo hi m wt ld) with ⟨h1, _⟩ | ⟨R', N, g, i, h1, h2, h3, _⟩
  · simp only [broR, broI, h1] at hR hI
    subst hR hI
    rfl
  · simp only [broR, broI, h2] at hR hI
    subst hR hI
    unfold sameCase
    have hn : (R' == 1) = false := by
      cases hb : (R' == 1) with
      | false => rfl
      | true =>
        have := eq_of_beq hb
        rcases ze0 h1 with h' | h' | h' | h' | h' | h' <;> omega
    have c1 : ∀ k, cnt R' k = k := fun k => by simp only [cnt, hn]
    have c2 : ∀ x, only R' x = x := fun k => by simp only [only, hn]
    rw [c1, c1, c2, c2, w_tk h1 h3, zwi fun j hj => w_it h1 j hj, zwi fun j _ => w_wt h1 j, beq_self_eq_true]
    rfl
end
end Go.Ab.S
namespace Go.Ab.B
open Go.Proofs
section
variable {hbs : BsOk Tryz.prog} (hT : zq (cs hbs)) (hT3 : zq (cs3 hbs)) (hT4 : zq (cs4 hbs)) (hT6 : zq (cs6 hbs)) (hT7 : zq (cs7 hbs))
theorem zl1 {e mo t l : Int} {nc : Nat} {c : S.Rows} {ns : Nat} {s : S.Rows} {ta tm r : Int} {nf : Nat} {f : S.Rows} {n : Nat} {it : S.Rows} {lo hi : Int} {m : Nat} {wt : S.Rows} {ld : Bool} (h : S.plane e mo t l nc c ns s ta tm r nf f = false) : S.fineB e mo t l nc c ns s ta tm r nf f n it lo hi m wt ld = false := by simp only [S.fineB, h, Bool.false_and]
theorem zl2 {e mo t l : Int} {nc : Nat} {c : S.Rows} {ns : Nat} {s : S.Rows} {ta tm r : Int} {nf : Nat} {f : S.Rows} {n : Nat} {it : S.Rows} {lo hi : Int} {m : Nat} {wt : S.Rows} {ld : Bool} (h : S.point ns nf n it lo hi m wt = false) : S.fineB e mo t l nc c ns s ta tm r nf f n it lo hi m wt ld = false := by simp only [S.fineB, h, Bool.and_false]
theorem zru {e mo t l : Int} {nc : Nat} {c : S.Rows} {ns : Nat} {s : S.Rows} {ta tm r : Int} {nf : Nat} {f : S.Rows} {n : Nat} {it : S.Rows} {lo hi : Int} {m : Nat} {wt : S.Rows} {ld : Bool} (h1 : S.plane e mo t l nc c ns s ta tm r nf f = true) (h2 : S.point ns nf n it lo hi m wt = true) : S.fineB e mo t l nc c ns s ta tm r nf f n it lo hi m wt ld = true := by simp only [S.fineB, h1, h2, Bool.and_true]
include hT hT3 hT4 in
theorem zob (e mo t l : Int) (nc : Nat) (c : S.Rows) (ns : Nat) (s : S.Rows) (ta tm r : Int) (nf : Nat) (f : S.Rows) (n : Nat) (it : S.Rows) (lo hi : Int) (m : Nat) (wt : S.Rows) (ld : Bool) (hnc : nc ≤ 1000) (hns : ns ≤ 1000) (hnf : nf ≤ 1000) (hn : n ≤ 1000) (hm : m ≤ 1000) : z8 (cs7 hbs) z5n [.ag (plC e mo t l nc (S.val c) ns (S.val s) ta tm r nf (S.val f)), .ag (ptC n (S.val it) lo hi m (S.val wt) ld)] (.tp [.ag [.p (.int .i64 (S.b1 e mo t l nc c ns s ta tm r nf f n it lo hi m wt ld)), .p (.int .i64 (S.b2 e mo t l nc c ns s ta tm r nf f n it lo hi m wt ld)), .p (.int .i64 (S.b3 e mo t l nc c ns s ta tm r nf f n it lo hi m wt ld)), .p (.int .i64 (S.b4 e mo t l nc c ns s ta tm r nf f n it lo hi m wt ld))], vI .i64 (S.er e mo t l nc c ns s ta tm r nf f n it lo hi m wt ld)]) [] := by
  have hml : (1000 : Nat) ≤ maxLen := by decide
  have hpf := z4h hT hT3 hT4 e mo t l nc c ns s ta tm r nf f (by omega) (by omega) (by omega)
  have hqf := z4i hT hT3 hT4 e mo t l nc c ns s ta tm r nf f n it lo hi m wt ld (by omega) (by omega) (by omega)
  refine z8.cfg (C := cs4 hbs) (C' := cs7 hbs) rfl rfl ?_
  simp only [S.b1, S.b2, S.b3, S.b4, S.er]
  cases h1 : S.plane e mo t l nc c ns s ta tm r nf f with
  | false =>
    simp only [zl1 h1, S.gate]
    exact zo hT4 (F := z3e) rfl (z92 e mo t l nc c ns s ta tm r nf f n it lo hi m wt ld _) ⟨hpf, brP (fun h => by rw [h1] at h; cases h) fun _ => rfl⟩
  | true =>
    cases h2 : S.point ns nf n it lo hi m wt with
    | false =>
      simp only [zl2 h2, S.gate]
      exact zo hT4 (F := z3e) rfl (z92 e mo t l nc c ns s ta tm r nf f n it lo hi m wt ld _) ⟨hpf, brP (fun _ => ⟨hqf, brP (fun h => by rw [h2] at h; cases h) fun _ => rfl⟩) fun h => by rw [h1] at h; cases h⟩
    | true =>
      simp only [zru h1 h2, S.gate]
      exact zq8 hT hT3 hT4 e mo t l nc c ns s ta tm r nf f n it lo hi m wt ld h1 h2
include hT hT3 hT4 in
theorem zss (e mo t l : Int) (nc : Nat) (c : S.Rows) (ns : Nat) (s : S.Rows) (ta tm r : Int) (nf : Nat) (f : S.Rows) (n : Nat) (it : S.Rows) (lo hi : Int) (m : Nat) (wt : S.Rows) (ld : Bool) (hnc : nc ≤ 1000) (hns : ns ≤ 1000) (hnf : nf ≤ 1000) (hn : n ≤ 1000) (hm : m ≤ 1000) : z8 (cs7 hbs) z2i [.ag (plC e mo t l nc (S.val c) ns (S.val s) ta tm r nf (S.val f)), .ag (ptC n (S.val it) lo hi m (S.val wt) ld)] (.tp [vI .i64 (S.q1 e mo t l nc c ns s ta tm r nf f n it lo hi m wt ld), vI .i64 (S.q2 e mo t l nc c ns s ta tm r nf f n it lo hi m wt ld), .ag [.p (.isl 1 (S.q3 e mo t l nc c ns s ta tm r nf f n it lo hi m wt ld) (S.val (S.q4 e mo t l nc c ns s ta tm r nf f n it lo hi m wt ld))), .p (.int .i64 (S.q5 e mo t l nc c ns s ta tm r nf f n it lo hi m wt ld)), .p (.isl 1 (S.q6 e mo t l nc c ns s ta tm r nf f n it lo hi m wt ld) (S.val (S.q7 e mo t l nc c ns s ta tm r nf f n it lo hi m wt ld)))], vI .i64 (S.er e mo t l nc c ns s ta tm r nf f n it lo hi m wt ld)]) [] := by
  have hml : (1000 : Nat) ≤ maxLen := by decide
  have hpf := z4h hT hT3 hT4 e mo t l nc c ns s ta tm r nf f (by omega) (by omega) (by omega)
  have hqf := z4i hT hT3 hT4 e mo t l nc c ns s ta tm r nf f n it lo hi m wt ld (by omega) (by omega) (by omega)
  refine z8.cfg (C := cs4 hbs) (C' := cs7 hbs) rfl rfl ?_
  simp only [S.q1, S.q2, S.q3, S.q5, S.q6, S.er]
  cases h0 : S.fineB e mo t l nc c ns s ta tm r nf f n it lo hi m wt ld with
  | false =>
    simp only [S.gate, S.gN]
    have : z8 (cs4 hbs) z2i [.ag (plC e mo t l nc (S.val c) ns (S.val s) ta tm r nf (S.val f)), .ag (ptC n (S.val it) lo hi m (S.val wt) ld)] (.tp [vI .i64 0, vI .i64 0, .ag [.p .nsl, .p (.int .i64 0), .p .nsl], vI .i64 2]) [] := by
      cases h1 : S.plane e mo t l nc c ns s ta tm r nf f with
      | false => exact zo hT4 (F := z2j) rfl (z8k e mo t l nc c ns s ta tm r nf f n it lo hi m wt ld _) ⟨hpf, brP (fun h => by rw [h1] at h; cases h) fun _ => rfl⟩
      | true =>
        have h2 : S.point ns nf n it lo hi m wt = false := by simpa only [S.fineB, h1, Bool.true_and] using h0
        exact zo hT4 (F := z2j) rfl (z8k e mo t l nc c ns s ta tm r nf f n it lo hi m wt ld _) ⟨hpf, brP (fun _ => ⟨hqf, brP (fun h => by rw [h2] at h; cases h) fun _ => rfl⟩) fun h => by rw [h1] at h; cases h⟩
    refine z8.mono_r this fun w Z φ u hr => ?_
    simp only [RepA, zh] at hr ⊢
    obtain ⟨us, rfl, u1, us1, rfl, g1, u2, us2, rfl, g2, u3, us3, rfl, ⟨q, rfl, g3⟩, g4⟩ := hr
    exact ⟨_, rfl, u1, _, rfl, g1, u2, _, rfl, g2, _, us3, rfl, ⟨q, rfl, zlc g3⟩, g4⟩
  | true =>
    have h12 : S.plane e mo t l nc c ns s ta tm r nf f = true ∧ S.point ns nf n it lo hi m wt = true := by simpa only [S.fineB, Bool.and_eq_true] using h0
    simp only [S.gate, S.gN]
    exact zun hT hT3 hT4 e mo t l nc c ns s ta tm r nf f n it lo hi m wt ld h12.1 h12.2
include hT hT3 hT6 in
theorem zqb (e mo t l : Int) (nc : Nat) (c : S.Rows) (ns : Nat) (s : S.Rows) (ta tm r : Int) (nf : Nat) (f : S.Rows) (n : Nat) (it : S.Rows) (lo hi : Int) (m : Nat) (wt : S.Rows) (ld : Bool) (hp : S.PlOk e mo t l nc c ns s ta tm r nf f) (hq : S.PtOk ns nf n it lo hi m wt) : z8 (cs7 hbs) z4v [.ag (plC e mo t l nc (S.val c) ns (S.val s) ta tm r nf (S.val f)), .ag (ptC n (S.val it) lo hi m (S.val wt) ld)] (.tp [vI .i64 (S.srR e mo t l nc c ns s ta tm r nf f n it lo hi m wt ld), vI .i64 (S.p2 e mo t l nc c ns s ta tm r nf f n it lo hi m wt ld), .ag [.p (.isl 1 (S.p3 e mo t l nc c ns s ta tm r nf f n it lo hi m wt ld) (S.val (S.p4 e mo t l nc c ns s ta tm r nf f n it lo hi m wt ld))), .p (.int .i64 (S.p5 e mo t l nc c ns s ta tm r nf f n it lo hi m wt ld)), .p (.isl 1 (S.p6 e mo t l nc c ns s ta tm r nf f n it lo hi m wt ld) (S.val (S.p7 e mo t l nc c ns s ta tm r nf f n it lo hi m wt ld)))]]) [] :=
  z8.cfg (C := cs6 hbs) (C' := cs7 hbs) rfl rfl (zs6 hT hT3 hT6 e mo t l nc c ns s ta tm r nf f n it lo hi m wt ld hp hq)
include hT hT3 hT4 hT6 hT7 in
theorem zjv (h8 : z8 (cs hbs) z1b [] (vB true) []) (hBo : ∀ (e mo t l : Int) (nc : Nat) (c : S.Rows) (ns : Nat) (s : S.Rows) (ta tm r : Int) (nf : Nat) (f : S.Rows) (n : Nat) (it : S.Rows) (lo hi : Int) (m : Nat) (wt : S.Rows) (ld : Bool), S.PlOk e mo t l nc c ns s ta tm r nf f → S.PtOk ns nf n it lo hi m wt → z8 (cs7 hbs) z71 [.ag (plC e mo t l nc (S.val c) ns (S.val s) ta tm r nf (S.val f)), .ag (ptC n (S.val it) lo hi m (S.val wt) ld)] (.ag [.p (.int .i64 (S.rb1 e mo t l nc c ns s ta tm r nf f n it lo hi m wt ld)), .p (.int .i64 (S.rb2 e mo t l nc c ns s ta tm r nf f n it lo hi m wt ld)), .p (.int .i64 (S.rb3 e mo t l nc c ns s ta tm r nf f n it lo hi m wt ld)), .p (.int .i64 (S.rb4 e mo t l nc c ns s ta tm r nf f n it lo hi m wt ld))]) [])
    (e mo t l : Int) (nc : Nat) (c : S.Rows) (ns : Nat) (s : S.Rows) (ta tm r : Int) (nf : Nat) (f : S.Rows) (n : Nat) (it : S.Rows) (lo hi : Int) (m : Nat) (wt : S.Rows) (ld : Bool) (hnc : nc ≤ maxLen) (hns : ns ≤ maxLen) (hnf : nf ≤ maxLen) : z8 (cs7 hbs) zlx [.ag (plC e mo t l nc (S.val c) ns (S.val s) ta tm r nf (S.val f)), .ag (ptC n (S.val it) lo hi m (S.val wt) ld)] (vB true) [] := by
  have k8 : z8 (cs7 hbs) z1b [] (vB true) [] := z8.cfg (C := cs hbs) (C' := cs7 hbs) rfl rfl h8
  refine zo hT7 (F := z3w) rfl (zjt e mo t l nc c ns s ta tm r nf f n it lo hi m wt ld _) ?_
  refine brP (fun c1 => brP (fun c2 => brP (fun c3 => brP (fun c4 => brP (fun c5 => ?_) fun _ => ⟨k8, rfl⟩) fun _ => ⟨k8, rfl⟩) fun _ => ⟨k8, rfl⟩) fun _ => ⟨k8, rfl⟩) fun _ => ⟨k8, rfl⟩
  have c1 : nc ≤ 20 := by simp at c1; omega
  have c2 : ns ≤ 20 := by simp at c2; omega
  have c3 : nf ≤ 10 := by simp at c3; omega
  have c4 : n ≤ 20 := by simp at c4; omega
  have c5 : m ≤ 10 := by simp at c5; omega
  refine ⟨zob hT hT3 hT4 e mo t l nc c ns s ta tm r nf f n it lo hi m wt ld (by omega) (by omega) (by omega) (by omega) (by omega), zss hT hT3 hT4 e mo t l nc c ns s ta tm r nf f n it lo hi m wt ld (by omega) (by omega) (by omega) (by omega) (by omega), z8.cfg (C := cs hbs) (C' := cs7 hbs) rfl rfl (zqc hT hnc hns hnf), brP (fun h1 => ⟨z8.cfg (C := cs3 hbs) (C' := cs7 hbs) rfl rfl (zqd hT hT3 e mo t l nc c ns s ta tm r nf f n it lo hi m wt ld (by omega) (by omega) (by omega)), brP (fun h2 => ?_) fun h2 => ?_⟩) fun h1 => ?_⟩
  · have hp := S.plane_ok h1
    have hq := S.point_ok h2
    have hF := zru (t := t) (l := l) (tm := tm) (r := r) (ld := ld) h1 h2
    have hle := fun j h => (S.parts_in hp hq j h).2.2.2
    have hbr := S.bro_sr (ld := ld) (e := e) (mo := mo) (t := t) (l := l) (nc := nc) (c := c) (ns := ns) (s := s) (ta := ta) (tm := tm) (r := r) (f := f) (it := it) (lo := lo) (hi := hi) (wt := wt) hq.hm hle
    have hcs := S.case_sr hbr.1 hbr.2
    have x1 : S.er e mo t l nc c ns s ta tm r nf f n it lo hi m wt ld = 0 := by simp only [S.er, hF, S.gate]
    have x2 : S.q1 e mo t l nc c ns s ta tm r nf f n it lo hi m wt ld = S.srR e mo t l nc c ns s ta tm r nf f n it lo hi m wt ld := by simp only [S.q1, hF, S.gate]; exact hbr.1
    have x3 : S.q2 e mo t l nc c ns s ta tm r nf f n it lo hi m wt ld = S.p2 e mo t l nc c ns s ta tm r nf f n it lo hi m wt ld := by simp only [S.q2, hF, S.gate]; exact hbr.2
    have y1 : S.b1 e mo t l nc c ns s ta tm r nf f n it lo hi m wt ld = S.rb1 e mo t l nc c ns s ta tm r nf f n it lo hi m wt ld := by simp only [S.b1, hF, S.gate]
    have y2 : S.b2 e mo t l nc c ns s ta tm r nf f n it lo hi m wt ld = S.rb2 e mo t l nc c ns s ta tm r nf f n it lo hi m wt ld := by simp only [S.b2, hF, S.gate]
    have y3 : S.b3 e mo t l nc c ns s ta tm r nf f n it lo hi m wt ld = S.rb3 e mo t l nc c ns s ta tm r nf f n it lo hi m wt ld := by simp only [S.b3, hF, S.gate]
    have y4 : S.b4 e mo t l nc c ns s ta tm r nf f n it lo hi m wt ld = S.rb4 e mo t l nc c ns s ta tm r nf f n it lo hi m wt ld := by simp only [S.b4, hF, S.gate]
    have x4 : S.sameCase (S.q3 e mo t l nc c ns s ta tm r nf f n it lo hi m wt ld) (S.q4 e mo t l nc c ns s ta tm r nf f n it lo hi m wt ld) (S.q5 e mo t l nc c ns s ta tm r nf f n it lo hi m wt ld) (S.q6 e mo t l nc c ns s ta tm r nf f n it lo hi m wt ld) (S.q7 e mo t l nc c ns s ta tm r nf f n it lo hi m wt ld) (S.p3 e mo t l nc c ns s ta tm r nf f n it lo hi m wt ld) (S.p4 e mo t l nc c ns s ta tm r nf f n it lo hi m wt ld) (S.p5 e mo t l nc c ns s ta tm r nf f n it lo hi m wt ld) (S.p6 e mo t l nc c ns s ta tm r nf f n it lo hi m wt ld) (S.p7 e mo t l nc c ns s ta tm r nf f n it lo hi m wt ld) = true := by
      simp only [S.q3, S.q4, S.q5, S.q6, S.q7, S.p3, S.p4, S.p5, S.p6, S.p7, S.p2, hF, S.gate, S.gN]
      rw [hbr.1, hbr.2]
      exact hcs
    have z1 : S.q3 e mo t l nc c ns s ta tm r nf f n it lo hi m wt ld ≤ 1000000 := by
      have : S.q3 e mo t l nc c ns s ta tm r nf f n it lo hi m wt ld ≤ n := by simp only [S.q3, hF, S.gN, S.cnt]; split <;> omega
      omega
    have z2 : S.q6 e mo t l nc c ns s ta tm r nf f n it lo hi m wt ld ≤ 1000000 := by
      have : S.q6 e mo t l nc c ns s ta tm r nf f n it lo hi m wt ld ≤ m := by simp only [S.q6, hF, S.gN, S.cnt]; split <;> omega
      omega
    have b0 : ∀ {x y : Int}, x = y → (x == y) = false → False := fun e h => by rw [e, beq_self_eq_true] at h; cases h
    refine ⟨zqb hT hT3 hT6 e mo t l nc c ns s ta tm r nf f n it lo hi m wt ld hp hq, brP (fun _ => brP (fun _ => ⟨hBo e mo t l nc c ns s ta tm r nf f n it lo hi m wt ld hp hq, brP (fun _ => brP (fun _ => brP (fun _ => ⟨z8.cfg (C := cs3 hbs) (C' := cs7 hbs) rfl rfl (zjr hT3 _ _ _ _ _ _ _ _ _ _ z1 z2), brP (fun _ => ⟨k8, rfl⟩) fun h => by rw [x4] at h; cases h⟩) fun h => (b0 x3 h).elim) fun h => (b0 x2 h).elim) fun h => by simp [y1, y2, y3, y4] at h⟩) fun h => (b0 x1 h).elim) fun h => (b0 x1 h).elim⟩
  · have hF := zl2 (e := e) (mo := mo) (t := t) (l := l) (nc := nc) (c := c) (ns := ns) (s := s) (ta := ta) (tm := tm) (r := r) (nf := nf) (f := f) (n := n) (it := it) (lo := lo) (hi := hi) (m := m) (wt := wt) (ld := ld) h2
    have b0 : ∀ {x y : Int}, x = y → (x == y) = false → False := fun e h => by rw [e, beq_self_eq_true] at h; cases h
    have x1 : S.er e mo t l nc c ns s ta tm r nf f n it lo hi m wt ld = 2 := by simp only [S.er, hF, S.gate]
    have x2 : S.q1 e mo t l nc c ns s ta tm r nf f n it lo hi m wt ld = 0 := by simp only [S.q1, hF, S.gate]
    have x3 : S.q2 e mo t l nc c ns s ta tm r nf f n it lo hi m wt ld = 0 := by simp only [S.q2, hF, S.gate]
    have y1 : S.b1 e mo t l nc c ns s ta tm r nf f n it lo hi m wt ld = 0 := by simp only [S.b1, hF, S.gate]
    have y2 : S.b2 e mo t l nc c ns s ta tm r nf f n it lo hi m wt ld = 0 := by simp only [S.b2, hF, S.gate]
    have y3 : S.b3 e mo t l nc c ns s ta tm r nf f n it lo hi m wt ld = 0 := by simp only [S.b3, hF, S.gate]
    have y4 : S.b4 e mo t l nc c ns s ta tm r nf f n it lo hi m wt ld = 0 := by simp only [S.b4, hF, S.gate]
    have z3 : S.q3 e mo t l nc c ns s ta tm r nf f n it lo hi m wt ld = 0 := by simp only [S.q3, hF, S.gN]
    have z5 : S.q5 e mo t l nc c ns s ta tm r nf f n it lo hi m wt ld = 0 := by simp only [S.q5, hF, S.gate]
    have z6 : S.q6 e mo t l nc c ns s ta tm r nf f n it lo hi m wt ld = 0 := by simp only [S.q6, hF, S.gN]
    exact brP (fun _ => brP (fun _ => brP (fun _ => brP (fun _ => brP (fun _ => brP (fun h => by rw [z3] at h; cases h) fun _ => brP (fun h => by rw [z3] at h; cases h) fun _ => brP (fun _ => brP (fun h => by rw [z6] at h; cases h) fun _ => brP (fun h => by rw [z6] at h; cases h) fun _ => ⟨k8, rfl⟩) fun h => (b0 z5 h).elim) fun h => (b0 x3 h).elim) fun h => (b0 x2 h).elim) fun h => by simp [y1, y2, y3, y4] at h) fun h => (b0 x1 h).elim) fun h => (b0 x1 h).elim
  · have hF := zl1 (e := e) (mo := mo) (t := t) (l := l) (nc := nc) (c := c) (ns := ns) (s := s) (ta := ta) (tm := tm) (r := r) (nf := nf) (f := f) (n := n) (it := it) (lo := lo) (hi := hi) (m := m) (wt := wt) (ld := ld) h1
    have b0 : ∀ {x y : Int}, x = y → (x == y) = false → False := fun e h => by rw [e, beq_self_eq_true] at h; cases h
    have x1 : S.er e mo t l nc c ns s ta tm r nf f n it lo hi m wt ld = 2 := by simp only [S.er, hF, S.gate]
    have x2 : S.q1 e mo t l nc c ns s ta tm r nf f n it lo hi m wt ld = 0 := by simp only [S.q1, hF, S.gate]
    have x3 : S.q2 e mo t l nc c ns s ta tm r nf f n it lo hi m wt ld = 0 := by simp only [S.q2, hF, S.gate]
    have y1 : S.b1 e mo t l nc c ns s ta tm r nf f n it lo hi m wt ld = 0 := by simp only [S.b1, hF, S.gate]
    have y2 : S.b2 e mo t l nc c ns s ta tm r nf f n it lo hi m wt ld = 0 := by simp only [S.b2, hF, S.gate]
    have y3 : S.b3 e mo t l nc c ns s ta tm r nf f n it lo hi m wt ld = 0 := by simp only [S.b3, hF, S.gate]
    have y4 : S.b4 e mo t l nc c ns s ta tm r nf f n it lo hi m wt ld = 0 := by simp only [S.b4, hF, S.gate]
    have z3 : S.q3 e mo t l nc c ns s ta tm r nf f n it lo hi m wt ld = 0 := by simp only [S.q3, hF, S.gN]
    have z5 : S.q5 e mo t l nc c ns s ta tm r nf f n it lo hi m wt ld = 0 := by simp only [S.q5, hF, S.gate]
    have z6 : S.q6 e mo t l nc c ns s ta tm r nf f n it lo hi m wt ld = 0 := by simp only [S.q6, hF, S.gN]
    exact brP (fun _ => brP (fun _ => brP (fun _ => brP (fun _ => brP (fun _ => brP (fun h => by rw [z3] at h; cases h) fun _ => brP (fun h => by rw [z3] at h; cases h) fun _ => brP (fun _ => brP (fun h => by rw [z6] at h; cases h) fun _ => brP (fun h => by rw [z6] at h; cases h) fun _ => ⟨k8, rfl⟩) fun h => (b0 z5 h).elim) fun h => (b0 x3 h).elim) fun h => (b0 x2 h).elim) fun h => by simp [y1, y2, y3, y4] at h) fun h => (b0 x1 h).elim) fun h => (b0 x1 h).elim
end
end Go.Ab.B
namespace Go.Ab.S
def bnS (h : Bool) (s it : Rows) : Rows := fun i _ => match decide (s (it i 0).toNat 0 < 0) with | true => endOf (!h) (it i 1) (it i 2) | false => endOf h (it i 1) (it i 2)
def bwS (h : Bool) (f wt : Rows) : Rows := fun i _ => match decide (f i 0 < 0) with | true => endOf (!h) (wt i 0) (wt i 1) | false => endOf h (wt i 0) (wt i 1)
end Go.Ab.S
namespace Go.Ab.B
open Go.Proofs
def z101 : List AV → Option (AV × Heap)
  | [.ag [.p (.isl 3 n it), .p (.int .i64 lo), .p (.int .i64 hi), .p (.isl 2 m wt), _], .c (.p (.bool b))] => some (.ag [.sl 0 0 n, .p (.int .i64 (S.endOf b lo hi)), .sl 1 0 m], [some (.arr 1 zk n (S.val (S.ends (S.num it) 1 b)) []), some (.arr 1 zk m (S.val (S.ends (S.num wt) 0 b)) [])])
  | _ => none
def Sp17 (f : Nat) (l : List AV) : Option (AV × Heap) := bif Nat.beq f z7i then z101 l else Sp4 f l
abbrev lv17 : List (Ps × AV) := [(.o (.o .h), .c (.pt 1 0)), (.o (.o (.o .h)), .c (.pt 9 0)), (.o (.i .h), .c (.pt 7 0)), (.i .h, .c (.pt 0 0)), (.i (.o .h), .c (.pt 2 0)), (.i (.i .h), .c (.pt 8 0))]
def zck (j : Nat) (s : St) : Option zr :=
  match s.h with
  | [b0, b1, b2, some (.arr 1 t3 n3 g3 u3), some (.arr 1 t4 n4 g4 u4), some (.arr 1 t5 n5 g5 u5), some (.arr 1 t6 n6 g6 u6), b7, b8, b9] => match b0, b1 with
    | some (.box _ [_, _, _, _, _, .p (.isl 2 _ st), _, _, _, .p (.isl 2 _ f)]), some (.box _ [.p (.isl 3 _ it), _, _, .p (.isl 2 _ wt), _]) => match j with
      | 1 => some (.e (.exit 0) ⟨za lv17, [b0, b1, b2, some (.arr 1 t3 n3 (S.val (S.bnS false (S.num st) (S.num it))) u3), some (.arr 1 t4 n4 g4 u4), some (.arr 1 t5 n5 (S.val (S.bnS true (S.num st) (S.num it))) u5), some (.arr 1 t6 n6 g6 u6), b7, b8, b9]⟩)
      | _ => some (.e (.exit 2) ⟨za lv17, [b0, b1, b2, some (.arr 1 t3 n3 g3 u3), some (.arr 1 t4 n4 (S.val (S.bwS false (S.num f) (S.num wt))) u4), some (.arr 1 t5 n5 g5 u5), some (.arr 1 t6 n6 (S.val (S.bwS true (S.num f) (S.num wt))) u6), b7, b8, b9]⟩)
    | _, _ => none
  | _ => none
def Lp17 (n0 : Nat) (a : MC) (s : St) : Option zr := bif Nat.beq (keyM a 0) zfj then zck 1 s else bif Nat.beq (keyM a 0) zfk then zck 2 s else Lp4 n0 a s
def cs17 {P : Program} (hbs : BsOk P) : Cfg := { cs4 hbs with Sp := Sp17, Lp := Lp17 }
section
variable {hbs : BsOk Tryz.prog}
theorem zlh (fu i : Nat) (e mo t l : Int) (nc : Nat) (c : S.Rows) (ns : Nat) (s : S.Rows) (ta tm r : Int) (nf : Nat) (f : S.Rows) (n : Nat) (it : S.Rows) (lo hi : Int) (m : Nat) (wt : S.Rows) (ld : Bool) (T1 T2 y0 y1 y2 y3 : Int) (ga gb gc gd : S.Rows) (Q : AX → St → Prop) :
 ((fun (A2 : Option Blk) => ((fun (A3 : Option Blk) => ((fun (A4 : Option Blk) => ((fun (A5 : Option Blk) => ((fun (A0 : Heap) => ((fun (A6 : Tr) => ((fun (A1 : Tr) => ((BrP (decide ((i : Int) < (n : Int)))
 (CdP (.rng (i : Int) n)
 (CdP (.rng (it i 0) ns)
 (BrP (decide ((s (Int.toNat (it i 0)) 0) < (0 : Int)))
 (CdP (.rng (i : Int) n)
 (CdP (.le ((0 + i) + 1) n)
 (CdP (.rng (i : Int) n)
 (CdP (.le ((0 + i) + 1) n)
 (CdP (.rng (i : Int) n)
 (CdP (.le ((0 + i) + 1) n)
 (CdP (.rng (i : Int) n)
 (CdP (.le ((0 + i) + 1) n)
 (CdP (.i64 ((i : Int) + (1 : Int)))
 (Q .normal ⟨A1, [(bP e mo t l nc c ns s ta tm r nf f), (bX n it lo hi m wt ld), A5, (some (.arr 1 3 n (fun x33 => (fun x34 => (.int .i64 (S.upI (0 + i) 0 x33 x34 (gc (0 + i) 0) (ga x33 x34))))) [])), (some (.arr 1 3 m (S.val gb) [])), (some (.arr 1 3 n (fun x33 => (fun x34 => (.int .i64 (S.upI (0 + i) 0 x33 x34 (ga (0 + i) 0) (gc x33 x34))))) [])), (some (.arr 1 3 m (S.val gd) [])), A3, A4, A2]⟩))))))))))
 (CdP (.i64 ((i : Int) + (1 : Int)))
 (Q .normal ⟨A1, A0⟩)))))
 (Q (.exit 0) ⟨(L4 A6 (.nd (L6 (L1 (vN i)) (vT 2 0)) (vT 0 0) (L1 (vT 8 0)))), A0⟩)))) (L4 A6 (.nd (L6 (L1 (vJ ((i : Int) + (1 : Int)))) (vT 2 0)) (vT 0 0) (L1 (vT 8 0)))))) (L4 (L6 (L1 (vT 9 0)) (vT 1 0)) (L1 (vT 7 0))))) [(bP e mo t l nc c ns s ta tm r nf f), (bX n it lo hi m wt ld), A5, (some (.arr 1 3 n (S.val ga) [])), (some (.arr 1 3 m (S.val gb) [])), (some (.arr 1 3 n (S.val gc) [])), (some (.arr 1 3 m (S.val gd) [])), A3, A4, A2])) (some (.box zn [(cJ 0), (cJ 0), (cJ 0), (cJ 0)])))) (some (.box z7 [(.sl 5 0 n), (cJ T2), (.sl 6 0 m)])))) (some (.box z7 [(.sl 3 0 n), (cJ T1), (.sl 4 0 m)])))) (some (.box zn [(cJ y0), (cJ y1), (cJ y2), (cJ y3)]))) = (ex (cs17 hbs) (fu + 60) 0 z4q ⟨za [(.o (.o .h), .c (.pt 1 0)), (.o (.o (.o .h)), .c (.pt 9 0)), (.o (.i .h), .c (.pt 7 0)), (.i .h, .c (.pt 0 0)), (.i (.o .h), .c (.pt 2 0)), (.i (.i .h), .c (.pt 8 0)), (.i (.o (.o .h)), .c (cJ i))], [some (.box zp (plC e mo t l nc (S.val c) ns (S.val s) ta tm r nf (S.val f))), some (.box zf (ptC n (S.val it) lo hi m (S.val wt) ld)), some (.box zn [.p (.int .i64 0), .p (.int .i64 0), .p (.int .i64 0), .p (.int .i64 0)]), some (.arr 1 zk n (S.val ga) []), some (.arr 1 zk m (S.val gb) []), some (.arr 1 zk n (S.val gc) []), some (.arr 1 zk m (S.val gd) []), some (.box z7 [.sl 3 0 n, .p (.int .i64 T1), .sl 4 0 m]), some (.box z7 [.sl 5 0 n, .p (.int .i64 T2), .sl 6 0 m]), some (.box zn [.p (.int .i64 y0), .p (.int .i64 y1), .p (.int .i64 y2), .p (.int .i64 y3)])]⟩ (fun e s => .pr (Q e (z2a [.i .h, .i (.i .h), .i (.o .h), .o (.i .h), .o (.o .h), .i (.o (.o .h)), .o (.o (.o .h))] s)))).hold2 := by kernel_rfl
theorem zli (fu i : Nat) (e mo t l : Int) (nc : Nat) (c : S.Rows) (ns : Nat) (s : S.Rows) (ta tm r : Int) (nf : Nat) (f : S.Rows) (n : Nat) (it : S.Rows) (lo hi : Int) (m : Nat) (wt : S.Rows) (ld : Bool) (T1 T2 y0 y1 y2 y3 : Int) (ga gb gc gd : S.Rows) (Q : AX → St → Prop) :
 ((fun (A1 : Tr) => ((fun (A2 : Option Blk) => ((fun (A3 : Option Blk) => ((fun (A4 : Option Blk) => ((fun (A5 : Option Blk) => ((fun (A0 : Heap) => ((BrP (decide ((i : Int) < (m : Int)))
 (CdP (.rng (i : Int) nf)
 (BrP (decide ((f i 0) < (0 : Int)))
 (CdP (.rng (i : Int) m)
 (CdP (.le ((0 + i) + 1) m)
 (CdP (.rng (i : Int) m)
 (CdP (.le ((0 + i) + 1) m)
 (CdP (.rng (i : Int) m)
 (CdP (.le ((0 + i) + 1) m)
 (CdP (.rng (i : Int) m)
 (CdP (.le ((0 + i) + 1) m)
 (CdP (.i64 ((i : Int) + (1 : Int)))
 (Q .normal ⟨A1, [(bP e mo t l nc c ns s ta tm r nf f), (bX n it lo hi m wt ld), A5, (some (.arr 1 3 n (S.val ga) [])), (some (.arr 1 3 m (fun x33 => (fun x34 => (.int .i64 (S.upI (0 + i) 0 x33 x34 (gd (0 + i) 0) (gb x33 x34))))) [])), (some (.arr 1 3 n (S.val gc) [])), (some (.arr 1 3 m (fun x33 => (fun x34 => (.int .i64 (S.upI (0 + i) 0 x33 x34 (gb (0 + i) 0) (gd x33 x34))))) [])), A3, A4, A2]⟩))))))))))
 (CdP (.i64 ((i : Int) + (1 : Int)))
 (Q .normal ⟨A1, A0⟩))))
 (Q (.exit 2) ⟨(L4 (L4 (L6 (L1 (vT 9 0)) (vT 1 0)) (L6 (L1 (vN i)) (vT 7 0))) (.nd (L1 (vT 2 0)) (vT 0 0) (L1 (vT 8 0)))), A0⟩)))) [(bP e mo t l nc c ns s ta tm r nf f), (bX n it lo hi m wt ld), A5, (some (.arr 1 3 n (S.val ga) [])), (some (.arr 1 3 m (S.val gb) [])), (some (.arr 1 3 n (S.val gc) [])), (some (.arr 1 3 m (S.val gd) [])), A3, A4, A2])) (some (.box zn [(cJ 0), (cJ 0), (cJ 0), (cJ 0)])))) (some (.box z7 [(.sl 5 0 n), (cJ T2), (.sl 6 0 m)])))) (some (.box z7 [(.sl 3 0 n), (cJ T1), (.sl 4 0 m)])))) (some (.box zn [(cJ y0), (cJ y1), (cJ y2), (cJ y3)])))) (L4 (L4 (L6 (L1 (vT 9 0)) (vT 1 0)) (L6 (L1 (vJ ((i : Int) + (1 : Int)))) (vT 7 0))) (.nd (L1 (vT 2 0)) (vT 0 0) (L1 (vT 8 0))))) = (ex (cs17 hbs) (fu + 60) 0 z3h ⟨za [(.o (.o .h), .c (.pt 1 0)), (.o (.o (.o .h)), .c (.pt 9 0)), (.o (.i .h), .c (.pt 7 0)), (.i .h, .c (.pt 0 0)), (.i (.o .h), .c (.pt 2 0)), (.i (.i .h), .c (.pt 8 0)), (.o (.i (.o .h)), .c (cJ i))], [some (.box zp (plC e mo t l nc (S.val c) ns (S.val s) ta tm r nf (S.val f))), some (.box zf (ptC n (S.val it) lo hi m (S.val wt) ld)), some (.box zn [.p (.int .i64 0), .p (.int .i64 0), .p (.int .i64 0), .p (.int .i64 0)]), some (.arr 1 zk n (S.val ga) []), some (.arr 1 zk m (S.val gb) []), some (.arr 1 zk n (S.val gc) []), some (.arr 1 zk m (S.val gd) []), some (.box z7 [.sl 3 0 n, .p (.int .i64 T1), .sl 4 0 m]), some (.box z7 [.sl 5 0 n, .p (.int .i64 T2), .sl 6 0 m]), some (.box zn [.p (.int .i64 y0), .p (.int .i64 y1), .p (.int .i64 y2), .p (.int .i64 y3)])]⟩ (fun e s => .pr (Q e (z2a [.i .h, .i (.i .h), .i (.o .h), .o (.i .h), .o (.o .h), .o (.i (.o .h)), .o (.o (.o .h))] s)))).hold2 := by kernel_rfl
theorem zno (e mo t l : Int) (nc : Nat) (c : S.Rows) (ns : Nat) (s : S.Rows) (ta tm r : Int) (nf : Nat) (f : S.Rows) (n : Nat) (it : S.Rows) (lo hi : Int) (m : Nat) (wt : S.Rows) (ld : Bool) (Q : AV → Heap → Prop) :
 ((fun (A6 : AV) => ((fun (A7 : AV) => ((fun (A8 : CV) => ((fun (A9 : CV) => ((fun (A10 : Option Blk) => ((fun (A11 : Option Blk) => ((fun (A12 : Option Blk) => ((fun (A13 : CV) => ((fun (A14 : CV) => ((fun (A0 : Option Blk) => ((fun (A1 : List CV) => ((fun (A2 : List CV) => ((fun (A15 : Option Blk) => ((fun (A16 : Tr) => ((fun (A19 : Option Blk) => ((fun (A20 : Option Blk) => ((fun (A21 : Option Blk) => ((fun (A22 : Option Blk) => ((fun (A23 : Option Blk) => ((fun (A24 : AV) => ((fun (A25 : Option Blk) => ((fun (A26 : Option Blk) => ((fun (A27 : AV) => ((fun (A28 : AV) => ((fun (A4 : AV) => ((fun (A29 : AV) => ((fun (A5 : AV) => ((fun (A30 : Tr) => ((fun (A31 : List CV) => ((fun (A17 : Option Blk) => ((fun (A32 : List CV) => ((fun (A18 : Option Blk) => ((fun (A3 : Heap) => ((fun (A33 : Option Blk) => ((fun (A34 : Option Blk) => (((z8 (cs17 hbs) z7i [A6, (vB false)] (.ag [(.sl 0 0 n), A8, (.sl 1 0 m)]) [A33, A19]) ∧
 ((z8 (cs17 hbs) z7i [A6, (vB true)] (.ag [(.sl 0 0 n), A9, (.sl 1 0 m)]) [A34, A20]) ∧
 ((z8 (cs17 hbs) z1m [A7, A6, (.ag [(.p (.isl 1 n (wV (S.ends it 1 false)))), A8, (.p (.isl 1 m (wV (S.ends wt 0 false))))])] A4 []) ∧
 ((z8 (cs17 hbs) z1m [A7, A6, (.ag [(.p (.isl 1 n (wV (S.ends it 1 true)))), A9, (.p (.isl 1 m (wV (S.ends wt 0 true))))])] A5 []) ∧
 ((zd (ex (cs17 hbs) 991) 0 z4q ⟨(.nd (.nd (.nd (.nd (L6 (L1 A27) A7) (vT 9 0) (L1 (vT 9 2))) (vT 1 0) (.nd (L1 A28) (.ag A31) (L1 A6))) A6 (.nd (L4 (L6 (L1 (vT 9 1)) (.ag A31)) (L1 A5)) (vT 7 0) (.nd (L1 (vT 9 0)) (.ag A32) (L1 A5)))) A7 (.nd (.nd (.nd (L6 (L1 (vT 9 0)) A6) (vJ 0) (L1 (vT 9 2))) (vT 2 0) (.nd (L1 A24) A6 (L1 (.ag A32)))) (vT 0 0) (.nd (.nd (L1 A4) A6 (L1 A7)) (vT 8 0) (.nd (L1 (vT 9 0)) A4 (L1 A29))))), [A15, A23, A10, A33, A19, A34, A20, A17, A18, A0]⟩ (.e (.exit 0) ⟨A16, A3⟩)) ∧
 (BrP (decide (ta < (0 : Int)))
 ((zd (ex (cs17 hbs) 989) 0 z3h ⟨(L4 (L4 (.nd (.nd (L2 (L3 (L1 (vT 7 1)))) (vT 9 0) A30) (vT 1 0) (L2 (L3 (L3 (L1 (vT 8 1)))))) (.nd (L5 (vJ 0) (L3 (L3 (L1 (vJ ta))))) (vT 7 0) (L2 (L3 (L3 (L1 (vT 7 1))))))) (.nd (.nd (L4 (L2 (L3 (L1 (vT 8 1)))) A30) (vT 2 0) (L2 (L3 (L3 (L1 (vJ (S.endOf true lo hi))))))) (vT 0 0) (.nd (L2 (L3 (L3 (L1 (vB true))))) (vT 8 0) (L2 (L3 (L3 (L1 (vJ (S.endOf false lo hi))))))))), [A15, A23, A10, A11, A19, A12, A20, A25, A26, A0]⟩ (.e (.exit 2) ⟨A16, [A15, A23, A10, A11, A21, A12, A22, A25, A26, A0]⟩)) ∧
 ((z8 (cs17 hbs) z1m [A7, A6, (.ag [(.p (.isl 1 n (wV (S.bnS false s it)))), A9, (.p (.isl 1 m (wV (S.bwS false f wt))))])] (.tp [(vJ (S.wgt e (S.endOf true lo hi) n (S.num (wV (S.bnS false s it))) m (S.num (wV (S.bwS false f wt))))), (vJ (S.mom mo (S.endOf true lo hi) ta n (S.num (wV (S.bnS false s it))) it s m (S.num (wV (S.bwS false f wt))) f))]) []) ∧
 ((z8 (cs17 hbs) z1m [A7, A6, (.ag [(.p (.isl 1 n (wV (S.bnS true s it)))), A8, (.p (.isl 1 m (wV (S.bwS true f wt))))])] (.tp [(vJ (S.wgt e (S.endOf false lo hi) n (S.num (wV (S.bnS true s it))) m (S.num (wV (S.bwS true f wt))))), (vJ (S.mom mo (S.endOf false lo hi) ta n (S.num (wV (S.bnS true s it))) it s m (S.num (wV (S.bwS true f wt))) f))]) []) ∧
 (Q (.ag A1) [A15, A23, (some (.box zn A1)), A11, A21, A12, A22, A25, A26, (some (.box zn A1))]))))
 ((zd (ex (cs17 hbs) 989) 0 z3h ⟨(L4 (L4 (L6 (L5 (vT 9 0) A30) (vT 1 0)) (L6 (L5 (vJ 0) (L3 (L3 (L1 (vJ ta))))) (vT 7 0))) (.nd (L6 (L2 A30) (vT 2 0)) (vT 0 0) (L6 (L2 (L3 (L3 (L1 (vB false))))) (vT 8 0)))), A3⟩ (.e (.exit 2) ⟨A16, [A15, A23, A10, A11, A21, A12, A22, A17, A18, A0]⟩)) ∧
 ((z8 (cs17 hbs) z1m [A7, A6, (.ag [(.p (.isl 1 n (wV (S.bnS false s it)))), A8, (.p (.isl 1 m (wV (S.bwS false f wt))))])] (.tp [(vJ (S.wgt e (S.endOf false lo hi) n (S.num (wV (S.bnS false s it))) m (S.num (wV (S.bwS false f wt))))), (vJ (S.mom mo (S.endOf false lo hi) ta n (S.num (wV (S.bnS false s it))) it s m (S.num (wV (S.bwS false f wt))) f))]) []) ∧
 ((z8 (cs17 hbs) z1m [A7, A6, (.ag [(.p (.isl 1 n (wV (S.bnS true s it)))), A9, (.p (.isl 1 m (wV (S.bwS true f wt))))])] (.tp [(vJ (S.wgt e (S.endOf true lo hi) n (S.num (wV (S.bnS true s it))) m (S.num (wV (S.bwS true f wt))))), (vJ (S.mom mo (S.endOf true lo hi) ta n (S.num (wV (S.bnS true s it))) it s m (S.num (wV (S.bwS true f wt))) f))]) []) ∧
 (Q (.ag A2) [A15, A23, (some (.box zn A2)), A11, A21, A12, A22, A17, A18, (some (.box zn A2))])))))))))))) (some (.arr 1 3 n (S.val (S.ends it 1 true)) [])))) (some (.arr 1 3 n (S.val (S.ends it 1 false)) [])))) [A15, A23, A10, A11, A19, A12, A20, A17, A18, A0])) (some (.box z7 A32)))) [(.sl 5 0 n), A9, (.sl 6 0 m)])) (some (.box z7 A31)))) [(.sl 3 0 n), A8, (.sl 4 0 m)])) (L3 (L3 (L1 (vT 0 6)))))) (.tp [A29, A27]))) (vJ (S.wgt e (S.endOf true lo hi) n (S.num (wV (S.ends it 1 true))) m (S.num (wV (S.ends wt 0 true))))))) (.tp [A28, A24]))) (vJ (S.wgt e (S.endOf false lo hi) n (S.num (wV (S.ends it 1 false))) m (S.num (wV (S.ends wt 0 false))))))) (vJ (S.mom mo (S.endOf true lo hi) ta n (S.num (wV (S.ends it 1 true))) it s m (S.num (wV (S.ends wt 0 true))) f)))) (some (.box z7 [(.sl 5 0 n), A8, (.sl 6 0 m)])))) (some (.box z7 [(.sl 3 0 n), A9, (.sl 4 0 m)])))) (vJ (S.mom mo (S.endOf false lo hi) ta n (S.num (wV (S.ends it 1 false))) it s m (S.num (wV (S.ends wt 0 false))) f)))) (bX n it lo hi m wt ld))) (some (.arr 1 3 m (S.val (S.bwS true f wt)) [])))) (some (.arr 1 3 m (S.val (S.bwS false f wt)) [])))) (some (.arr 1 3 m (S.val (S.ends wt 0 true)) [])))) (some (.arr 1 3 m (S.val (S.ends wt 0 false)) [])))) (L4 (L4 (L6 (L1 (vT 9 0)) (vT 1 0)) (L1 (vT 7 0))) (.nd (L1 (vT 2 0)) (vT 0 0) (L1 (vT 8 0)))))) (bP e mo t l nc c ns s ta tm r nf f))) [A13, A14, (cJ (S.mom mo (S.endOf false lo hi) ta n (S.num (wV (S.bnS false s it))) it s m (S.num (wV (S.bwS false f wt))) f)), (cJ (S.mom mo (S.endOf true lo hi) ta n (S.num (wV (S.bnS true s it))) it s m (S.num (wV (S.bwS true f wt))) f))])) [A13, A14, (cJ (S.mom mo (S.endOf true lo hi) ta n (S.num (wV (S.bnS false s it))) it s m (S.num (wV (S.bwS false f wt))) f)), (cJ (S.mom mo (S.endOf false lo hi) ta n (S.num (wV (S.bnS true s it))) it s m (S.num (wV (S.bwS true f wt))) f))])) (some (.box zn [A13, A14, (cJ (S.mom mo (S.endOf false lo hi) ta n (S.num (wV (S.ends it 1 false))) it s m (S.num (wV (S.ends wt 0 false))) f)), (cJ 0)])))) (cJ (S.wgt e (S.endOf true lo hi) n (S.num (wV (S.ends it 1 true))) m (S.num (wV (S.ends wt 0 true))))))) (cJ (S.wgt e (S.endOf false lo hi) n (S.num (wV (S.ends it 1 false))) m (S.num (wV (S.ends wt 0 false))))))) (some (.arr 1 3 n (S.val (S.bnS true s it)) [])))) (some (.arr 1 3 n (S.val (S.bnS false s it)) [])))) (some (.box zn [(cJ 0), (cJ 0), (cJ 0), (cJ 0)])))) (cJ (S.endOf true lo hi)))) (cJ (S.endOf false lo hi)))) (.ag (kP e mo t l nc c ns s ta tm r nf f)))) (.ag (kX n it lo hi m wt ld))) = (ex (cs17 hbs) 1000 0 zda ⟨ofL 0 [.ag (plC e mo t l nc (S.val c) ns (S.val s) ta tm r nf (S.val f)), .ag (ptC n (S.val it) lo hi m (S.val wt) ld)] .lf, []⟩ (endK z4y.rs (fun r H => .pr (Q r H)) fun _ _ => .no)).hold2 := by kernel_rfl
end
end Go.Ab.B
namespace Go.Ab
open Go.RowKit
theorem z8.weak {C : Cfg} {f : FuncId} {args : List AV} {r r' : AV} {Hr Hr' : Heap} (h : z8 C f args r Hr) (ρ : List (Option Nat)) (hn : z5r ρ = true) (hH : WH Hr ρ ρ Hr') (hr : WA ρ r r') : z8 C f args r' Hr' :=
  fun w Z vs hz hg hv => (h w Z vs hz hg hv).mono fun e w' ⟨u, Z', φ', he, hst, h1, h2, hs, hru⟩ => ⟨u, Z', _, he, hst, h1, h2, zrj hs hn hH, zub hH hr hru⟩
end Go.Ab
namespace Go.Ab.S
theorem sw_val {i x y : Nat} {v : Int} {a b : Rows} (hy : y < 1) (hv : v = a i 0) : upI (0 + i) 0 x y v (mix i a b x y) = mix (i + 1) a b x y := by
  obtain rfl : y = 0 := by omega
  rw [Nat.zero_add]
  subst hv
  by_cases h : x = i
  · subst h
    rw [mix_hit]
    simp [upI]
  · have e : Nat.beq x i = false := by rw [← Bool.not_eq_true, Nat.beq_eq]; exact h
    rw [mix_ne h]
    simp [upI, e]
theorem kp_val {i x y : Nat} {a b : Rows} (hy : y < 1) (hx : a i 0 = b i 0) : mix i a b x y = mix (i + 1) a b x y := by
  obtain rfl : y = 0 := by omega
  by_cases h : x = i
  · subst h
    rw [mix_hit, mix_ge (Nat.le_refl _), hx]
  · rw [mix_ne h]
theorem bn_t {h : Bool} {s it : Rows} {i : Nat} (h2 : decide (s (it i 0).toNat 0 < 0) = true) : bnS h s it i 0 = endOf (!h) (it i 1) (it i 2) := by simp only [bnS, h2]
theorem bn_f {h : Bool} {s it : Rows} {i : Nat} (h2 : decide (s (it i 0).toNat 0 < 0) = false) : bnS h s it i 0 = endOf h (it i 1) (it i 2) := by simp only [bnS, h2]
theorem bw_t {h : Bool} {f wt : Rows} {i : Nat} (h2 : decide (f i 0 < 0) = true) : bwS h f wt i 0 = endOf (!h) (wt i 0) (wt i 1) := by simp only [bwS, h2]
theorem bw_f {h : Bool} {f wt : Rows} {i : Nat} (h2 : decide (f i 0 < 0) = false) : bwS h f wt i 0 = endOf h (wt i 0) (wt i 1) := by simp only [bwS, h2]
def vS (h : Bool) (p : Rows) (j : Nat) : Int := match decide (p j 2 < 0) with | true => endOf (!h) (p j 0) (p j 1) | false => endOf h (p j 0) (p j 1)
theorem z11v {p : Rows} {j : Nat} (h : p j 0 ≤ p j 1) : vS false p j * p j 2 = mL p j := by
  unfold vS mL mn
  cases h2 : decide (p j 2 < 0) with
  | true =>
    have h3 : p j 2 < 0 := of_decide_eq_true h2
    have h4 := Int.mul_le_mul_of_nonpos_right h (Int.le_of_lt h3)
    show p j 1 * p j 2 = _
    split <;> omega
  | false =>
    have h3 : 0 ≤ p j 2 := by have := of_decide_eq_false h2; omega
    have h4 := Int.mul_le_mul_of_nonneg_right h h3
    show p j 0 * p j 2 = _
    split <;> omega
theorem z11w {p : Rows} {j : Nat} (h : p j 0 ≤ p j 1) : vS true p j * p j 2 = mH p j := by
  unfold vS mH mx
  cases h2 : decide (p j 2 < 0) with
  | true =>
    have h3 : p j 2 < 0 := of_decide_eq_true h2
    have h4 := Int.mul_le_mul_of_nonpos_right h (Int.le_of_lt h3)
    show p j 0 * p j 2 = _
    split <;> omega
  | false =>
    have h3 : 0 ≤ p j 2 := by have := of_decide_eq_false h2; omega
    have h4 := Int.mul_le_mul_of_nonneg_right h h3
    show p j 1 * p j 2 = _
    split <;> omega
section
variable {e mo ta : Int} {s f : Rows} {n : Nat} {it : Rows} {lo hi : Int} {m : Nat} {wt : Rows}
theorem znm (h : Bool) : zil n (fun x y => ends it 1 h (0 + x) y) (endOf h lo hi) m (fun x y => ends wt 0 h (0 + x) y) (fun j => endOf h (parts n it s lo hi ta wt f j 0) (parts n it s lo hi ta wt f j 1)) :=
  ⟨fun i hi => by simp only [parts_it hi, Nat.zero_add]; rfl, by simp only [parts_tk]; rfl, fun j hj => by simp only [parts_wt, Nat.zero_add]; rfl⟩
theorem zuc (h : Bool) {T : Int} (hT : T = match decide (ta < 0) with | true => endOf (!h) lo hi | false => endOf h lo hi) : zil n (fun x y => bnS h s it (0 + x) y) T m (fun x y => bwS h f wt (0 + x) y) (vS h (parts n it s lo hi ta wt f)) :=
  ⟨fun i hi => by simp only [vS, parts_it hi, Nat.zero_add]; rfl, by simp only [vS, parts_tk]; exact hT.symm, fun j hj => by simp only [vS, parts_wt, Nat.zero_add]; rfl⟩
end
section
variable {e mo t l : Int} {nc : Nat} {c : Rows} {ns : Nat} {s : Rows} {ta tm r : Int} {nf : Nat} {f : Rows} {n : Nat} {it : Rows} {lo hi : Int} {m : Nat} {wt : Rows} {ld : Bool}
theorem rb1_eq : wgt e (endOf false lo hi) n (fun x y => ends it 1 false (0 + x) y) m (fun x y => ends wt 0 false (0 + x) y) = rb1 e mo t l nc c ns s ta tm r nf f n it lo hi m wt ld := by
  rw [zmu (znm (s := s) (f := f) (ta := ta) false)]; rfl
theorem rb2_eq : wgt e (endOf true lo hi) n (fun x y => ends it 1 true (0 + x) y) m (fun x y => ends wt 0 true (0 + x) y) = rb2 e mo t l nc c ns s ta tm r nf f n it lo hi m wt ld := by
  rw [zmu (znm (s := s) (f := f) (ta := ta) true)]; rfl
theorem rb3_eq (hle : ∀ j, j < n + 1 + m → parts n it s lo hi ta wt f j 0 ≤ parts n it s lo hi ta wt f j 1) {T : Int} (hT : T = match decide (ta < 0) with | true => endOf true lo hi | false => endOf false lo hi) : mom mo T ta n (fun x y => bnS false s it (0 + x) y) it s m (fun x y => bwS false f wt (0 + x) y) f = rb3 e mo t l nc c ns s ta tm r nf f n it lo hi m wt ld := by
  rw [ztz (lo := lo) (hi := hi) (wt := wt) (zuc false hT), z3j fun j _ hj => z11v (hle j (by omega))]; rfl
theorem rb4_eq (hle : ∀ j, j < n + 1 + m → parts n it s lo hi ta wt f j 0 ≤ parts n it s lo hi ta wt f j 1) {T : Int} (hT : T = match decide (ta < 0) with | true => endOf false lo hi | false => endOf true lo hi) : mom mo T ta n (fun x y => bnS true s it (0 + x) y) it s m (fun x y => bwS true f wt (0 + x) y) f = rb4 e mo t l nc c ns s ta tm r nf f n it lo hi m wt ld := by
  rw [ztz (lo := lo) (hi := hi) (wt := wt) (zuc true hT), z3j fun j _ hj => z11w (hle j (by omega))]; rfl
theorem end_in {b : Bool} {x y A B : Int} (h1 : A ≤ x) (h2 : x ≤ y) (h3 : y ≤ B) : A ≤ endOf b x y ∧ endOf b x y ≤ B := by
  cases b <;> simp only [endOf] <;> omega
end
end Go.Ab.S
namespace Go.Ab.B
open Go.Proofs
theorem frz4 {H : Heap} {a b c d a' b' c' d' : Int} (h1 : a = a') (h2 : b = b') (h3 : c = c') (h4 : d = d') : frzA H (.ag [.p (.int .i64 a), .p (.int .i64 b), .p (.int .i64 c), .p (.int .i64 d)]) = some (.ag [.p (.int .i64 a'), .p (.int .i64 b'), .p (.int .i64 c'), .p (.int .i64 d')]) := by
  subst h1 h2 h3 h4; rfl
section
variable {hbs : BsOk Tryz.prog} (hT : zq (cs hbs)) (hT3 : zq (cs3 hbs)) (hT17 : zq (cs17 hbs))
include hT3 in
theorem zd9 (n : Nat) (it : S.Rows) (lo hi : Int) (m : Nat) (wt : S.Rows) (ld b : Bool) (hn : n ≤ 1000000) (hm : m ≤ 1000000) : z8 (cs17 hbs) z7i [.ag (ptC n (S.val it) lo hi m (S.val wt) ld), .c (.p (.bool b))]
    (.ag [.sl 0 0 n, .p (.int .i64 (S.endOf b lo hi)), .sl 1 0 m]) [some (.arr 1 zk n (S.val (S.ends it 1 b)) []), some (.arr 1 zk m (S.val (S.ends wt 0 b)) [])] :=
  z8.cfg (C := cs3 hbs) (C' := cs17 hbs) rfl rfl ((zzt hT3 (F := z7j) rfl (R := .ag [.sl 3 0 n, .p (.int .i64 (S.endOf b lo hi)), .sl 4 0 m])
    (Hr := [some (.box zf (ptC n (S.val it) lo hi m (S.val wt) ld)), some (.box z7 [.sl 3 0 n, .p (.int .i64 (S.endOf b lo hi)), .sl 4 0 m]), some (.box z7 [.sl 3 0 n, .p (.int .i64 (S.endOf b lo hi)), .sl 4 0 m]), some (.arr 1 zk n (S.val (S.ends it 1 b)) []), some (.arr 1 zk m (S.val (S.ends wt 0 b)) [])])
    (zud n it lo hi m wt ld b _)
    ⟨zs8 hT3 934 n it lo hi m wt ld b hn 0 _ (Nat.zero_le _) ⟨[some 0, some 1, some 2, none], HasR.mk _ rfl rfl (by simp [WH, WB, WL, WC, WP', upsB, memB, ptC]) (by simp [zg, WA, WC, WP', Tr.get])⟩,
     zs9 hT3 933 n it lo hi m wt ld b hm 0 _ (Nat.zero_le _) ⟨[some 0, some 1, some 2, some 3, none], HasR.mk _ rfl rfl (by simp [WH, WB, WL, WC, WP', upsB, memB, ptC]) (by simp [zg, WA, WC, WP', Tr.get])⟩,
     brP (fun hb => ⟨z3u hT3 _ _ _, by subst hb; exact ⟨rfl, rfl⟩⟩) fun hb => ⟨z3u hT3 _ _ _, by subst hb; exact ⟨rfl, rfl⟩⟩⟩).weak [some 3, some 4] rfl ⟨⟨rfl, rfl, rfl, fun _ _ _ _ => rfl, rfl⟩, ⟨rfl, rfl, rfl, fun _ _ _ _ => rfl, rfl⟩, trivial⟩ ⟨⟨rfl, rfl, rfl⟩, .inl rfl, ⟨rfl, rfl, rfl⟩, trivial⟩)
abbrev hB17 (e mo t l : Int) (nc : Nat) (c : S.Rows) (ns : Nat) (s : S.Rows) (ta tm r : Int) (nf : Nat) (f : S.Rows) (n : Nat) (it : S.Rows) (lo hi : Int) (m : Nat) (wt : S.Rows) (ld : Bool) (T1 T2 y0 y1 y2 y3 : Int) (ga gb gc gd : S.Rows) : Heap :=
  [PB e mo t l nc c ns s ta tm r nf f, XB n it lo hi m wt ld, some (.box zn [.p (.int .i64 0), .p (.int .i64 0), .p (.int .i64 0), .p (.int .i64 0)]), some (.arr 1 zk n (S.val ga) []), some (.arr 1 zk m (S.val gb) []), some (.arr 1 zk n (S.val gc) []), some (.arr 1 zk m (S.val gd) []), some (.box z7 [.sl 3 0 n, .p (.int .i64 T1), .sl 4 0 m]), some (.box z7 [.sl 5 0 n, .p (.int .i64 T2), .sl 6 0 m]), some (.box zn [.p (.int .i64 y0), .p (.int .i64 y1), .p (.int .i64 y2), .p (.int .i64 y3)])]
abbrev ρ17 : List (Option Nat) := [some 0, some 1, some 2, some 3, some 4, some 5, some 6, some 7, some 8, some 9]
theorem wh17 {e mo t l : Int} {nc : Nat} {c : S.Rows} {ns : Nat} {s : S.Rows} {ta tm r : Int} {nf : Nat} {f : S.Rows} {n : Nat} {it : S.Rows} {lo hi : Int} {m : Nat} {wt : S.Rows} {ld : Bool} {T1 T2 y0 y1 y2 y3 : Int} {ga gb gc gd : S.Rows} {f3 f4 f5 f6 : Nat → Nat → PV}
    (h3 : ∀ x y, x < n → y < 1 → f3 x y = S.val ga x y) (h4 : ∀ x y, x < m → y < 1 → f4 x y = S.val gb x y) (h5 : ∀ x y, x < n → y < 1 → f5 x y = S.val gc x y) (h6 : ∀ x y, x < m → y < 1 → f6 x y = S.val gd x y) :
    WH [PB e mo t l nc c ns s ta tm r nf f, XB n it lo hi m wt ld, some (.box zn [.p (.int .i64 0), .p (.int .i64 0), .p (.int .i64 0), .p (.int .i64 0)]), some (.arr 1 zk n f3 []), some (.arr 1 zk m f4 []), some (.arr 1 zk n f5 []), some (.arr 1 zk m f6 []), some (.box z7 [.sl 3 0 n, .p (.int .i64 T1), .sl 4 0 m]), some (.box z7 [.sl 5 0 n, .p (.int .i64 T2), .sl 6 0 m]), some (.box zn [.p (.int .i64 y0), .p (.int .i64 y1), .p (.int .i64 y2), .p (.int .i64 y3)])] ρ17 ρ17 (hB17 e mo t l nc c ns s ta tm r nf f n it lo hi m wt ld T1 T2 y0 y1 y2 y3 ga gb gc gd) := by
  refine ⟨⟨rfl, ?_⟩, ⟨rfl, ?_⟩, ⟨rfl, ?_⟩, ⟨rfl, rfl, rfl, h3, rfl⟩, ⟨rfl, rfl, rfl, h4, rfl⟩, ⟨rfl, rfl, rfl, h5, rfl⟩, ⟨rfl, rfl, rfl, h6, rfl⟩, ⟨rfl, ?_⟩, ⟨rfl, ?_⟩, ⟨rfl, ?_⟩, trivial⟩ <;> simp [WL, WC, WP', plC, ptC]
theorem zlg (fu : Nat) (e mo t l : Int) (nc : Nat) (c : S.Rows) (ns : Nat) (s : S.Rows) (ta tm r : Int) (nf : Nat) (f : S.Rows) (n : Nat) (it : S.Rows) (lo hi : Int) (m : Nat) (wt : S.Rows) (ld : Bool) (T1 T2 y0 y1 y2 y3 : Int) (gb gd : S.Rows) (hn : n ≤ 1000000) (hit : ∀ i, i < n → 0 ≤ it i 0 ∧ it i 0 < ns) : ∀ (i : Nat) (st : St), i ≤ n → (∃ ρ, HasR 0 ρ st (lv17 ++ [(.i (.o (.o .h)), .c (.p (.int .i64 i)))]) (hB17 e mo t l nc c ns s ta tm r nf f n it lo hi m wt ld T1 T2 y0 y1 y2 y3 (S.mix i (S.bnS false s it) (S.ends it 1 false)) gb (S.mix i (S.bnS true s it) (S.ends it 1 true)) gd)) →
    zd (ex (cs17 hbs) (fu + 60)) 0 z4q st (.e (.exit 0) ⟨za lv17, hB17 e mo t l nc c ns s ta tm r nf f n it lo hi m wt ld T1 T2 y0 y1 y2 y3 (S.bnS false s it) gb (S.bnS true s it) gd⟩) :=
  z21 (σ := Nat) (fun i => lv17 ++ [(.i (.o (.o .h)), .c (.p (.int .i64 i)))]) (fun i => hB17 e mo t l nc c ns s ta tm r nf f n it lo hi m wt ld T1 T2 y0 y1 y2 y3 (S.mix i (S.bnS false s it) (S.ends it 1 false)) gb (S.mix i (S.bnS true s it) (S.ends it 1 true)) gd) (fun i => i ≤ n) (fun i => n - i) (fun _ => .e (.exit 0) ⟨za lv17, hB17 e mo t l nc c ns s ta tm r nf f n it lo hi m wt ld T1 T2 y0 y1 y2 y3 (S.bnS false s it) gb (S.bnS true s it) gd⟩) _
    (fun i Q => zlh (hbs := hbs) fu i e mo t l nc c ns s ta tm r nf f n it lo hi m wt ld T1 T2 y0 y1 y2 y3 (S.mix i (S.bnS false s it) (S.ends it 1 false)) gb (S.mix i (S.bnS true s it) (S.ends it 1 true)) gd Q) fun i hi' K hL X hX => by
    have nm : n ≤ maxLen := Nat.le_trans hn (by decide)
    refine brP (fun h1 => ?_) fun h1 => ?_
    · have hlt : i < n := by simpa using h1
      have hle : Cd.holds (.le ((0 + i) + 1) n) := show (0 + i) + 1 ≤ n by omega
      have hx := hit i hlt
      refine cdP (zi hlt) (cdP ⟨hx.1, hx.2⟩ (brP (fun h2 => cdP (zi hlt) (cdP hle (cdP (zi hlt) (cdP hle (cdP (zi hlt) (cdP hle (cdP (zi hlt) (cdP hle (cdP (z1i hlt nm) ?_))))))))) fun h2 => cdP (z1i hlt nm) ?_))
      · refine hX (i + 1) _ (by omega) (by omega) ⟨ρ17, HasR.mk _ rfl rfl (wh17 (fun x y _ hy => congrArg (PV.int .i64) (S.sw_val hy ?_)) (fun _ _ _ _ => rfl) (fun x y _ hy => congrArg (PV.int .i64) (S.sw_val hy ?_)) fun _ _ _ _ => rfl) (by simp [zg, WA, WC, WP', Tr.get])⟩ hL
        · rw [S.bn_t h2, Nat.zero_add, S.mix_ge (Nat.le_refl _)]; rfl
        · rw [S.bn_t h2, Nat.zero_add, S.mix_ge (Nat.le_refl _)]; rfl
      · refine hX (i + 1) _ (by omega) (by omega) ⟨ρ17, HasR.mk _ rfl rfl (wh17 (fun x y _ hy => congrArg (PV.int .i64) (S.kp_val hy ?_)) (fun _ _ _ _ => rfl) (fun x y _ hy => congrArg (PV.int .i64) (S.kp_val hy ?_)) fun _ _ _ _ => rfl) (by simp [zg, WA, WC, WP', Tr.get])⟩ hL
        · rw [S.bn_f h2]; rfl
        · rw [S.bn_f h2]; rfl
    · have hlt : n ≤ i := by simpa using h1
      obtain rfl : n = i := by omega
      exact HasR.out (l := lv17) (HasR.mk (ρ := ρ17) rfl rfl (wh17 (fun x y hx _ => congrArg (PV.int .i64) (S.mix_lt hx y)) (fun _ _ _ _ => rfl) (fun x y hx _ => congrArg (PV.int .i64) (S.mix_lt hx y)) fun _ _ _ _ => rfl) (by simp [zg, WA, WC, WP', Tr.get])) hL
theorem zb6 (fu : Nat) (e mo t l : Int) (nc : Nat) (c : S.Rows) (ns : Nat) (s : S.Rows) (ta tm r : Int) (nf : Nat) (f : S.Rows) (n : Nat) (it : S.Rows) (lo hi : Int) (m : Nat) (wt : S.Rows) (ld : Bool) (T1 T2 y0 y1 y2 y3 : Int) (ga gc : S.Rows) (hm : m ≤ 1000000) (hmf : m = nf) : ∀ (i : Nat) (st : St), i ≤ m → (∃ ρ, HasR 0 ρ st (lv17 ++ [(.o (.i (.o .h)), .c (.p (.int .i64 i)))]) (hB17 e mo t l nc c ns s ta tm r nf f n it lo hi m wt ld T1 T2 y0 y1 y2 y3 ga (S.mix i (S.bwS false f wt) (S.ends wt 0 false)) gc (S.mix i (S.bwS true f wt) (S.ends wt 0 true)))) →
    zd (ex (cs17 hbs) (fu + 60)) 0 z3h st (.e (.exit 2) ⟨za lv17, hB17 e mo t l nc c ns s ta tm r nf f n it lo hi m wt ld T1 T2 y0 y1 y2 y3 ga (S.bwS false f wt) gc (S.bwS true f wt)⟩) :=
  z21 (σ := Nat) (fun i => lv17 ++ [(.o (.i (.o .h)), .c (.p (.int .i64 i)))]) (fun i => hB17 e mo t l nc c ns s ta tm r nf f n it lo hi m wt ld T1 T2 y0 y1 y2 y3 ga (S.mix i (S.bwS false f wt) (S.ends wt 0 false)) gc (S.mix i (S.bwS true f wt) (S.ends wt 0 true))) (fun i => i ≤ m) (fun i => m - i) (fun _ => .e (.exit 2) ⟨za lv17, hB17 e mo t l nc c ns s ta tm r nf f n it lo hi m wt ld T1 T2 y0 y1 y2 y3 ga (S.bwS false f wt) gc (S.bwS true f wt)⟩) _
    (fun i Q => zli (hbs := hbs) fu i e mo t l nc c ns s ta tm r nf f n it lo hi m wt ld T1 T2 y0 y1 y2 y3 ga (S.mix i (S.bwS false f wt) (S.ends wt 0 false)) gc (S.mix i (S.bwS true f wt) (S.ends wt 0 true)) Q) fun i hi' K hL X hX => by
    have nm : m ≤ maxLen := Nat.le_trans hm (by decide)
    refine brP (fun h1 => ?_) fun h1 => ?_
    · have hlt : i < m := by simpa using h1
      have hle : Cd.holds (.le ((0 + i) + 1) m) := show (0 + i) + 1 ≤ m by omega
      refine cdP (zi (by omega)) (brP (fun h2 => cdP (zi hlt) (cdP hle (cdP (zi hlt) (cdP hle (cdP (zi hlt) (cdP hle (cdP (zi hlt) (cdP hle (cdP (z1i hlt nm) ?_))))))))) fun h2 => cdP (z1i hlt nm) ?_)
      · refine hX (i + 1) _ (by omega) (by omega) ⟨ρ17, HasR.mk _ rfl rfl (wh17 (fun _ _ _ _ => rfl) (fun x y _ hy => congrArg (PV.int .i64) (S.sw_val hy ?_)) (fun _ _ _ _ => rfl) (fun x y _ hy => congrArg (PV.int .i64) (S.sw_val hy ?_))) (by simp [zg, WA, WC, WP', Tr.get])⟩ hL
        · rw [S.bw_t h2, Nat.zero_add, S.mix_ge (Nat.le_refl _)]; rfl
        · rw [S.bw_t h2, Nat.zero_add, S.mix_ge (Nat.le_refl _)]; rfl
      · refine hX (i + 1) _ (by omega) (by omega) ⟨ρ17, HasR.mk _ rfl rfl (wh17 (fun _ _ _ _ => rfl) (fun x y _ hy => congrArg (PV.int .i64) (S.kp_val hy ?_)) (fun _ _ _ _ => rfl) (fun x y _ hy => congrArg (PV.int .i64) (S.kp_val hy ?_))) (by simp [zg, WA, WC, WP', Tr.get])⟩ hL
        · rw [S.bw_f h2]; rfl
        · rw [S.bw_f h2]; rfl
    · have hlt : m ≤ i := by simpa using h1
      obtain rfl : m = i := by omega
      exact HasR.out (l := lv17) (HasR.mk (ρ := ρ17) rfl rfl (wh17 (fun _ _ _ _ => rfl) (fun x y hx _ => congrArg (PV.int .i64) (S.mix_lt hx y)) (fun _ _ _ _ => rfl) fun x y hx _ => congrArg (PV.int .i64) (S.mix_lt hx y)) (by simp [zg, WA, WC, WP', Tr.get])) hL
include hT hT3 in
theorem zak (e mo t l : Int) (nc : Nat) (c : S.Rows) (ns : Nat) (s : S.Rows) (ta tm r : Int) (nf : Nat) (f : S.Rows) (n : Nat) (it : S.Rows) (lo hi : Int) (m : Nat) (wt : S.Rows) (ld : Bool) (hp : S.PlOk e mo t l nc c ns s ta tm r nf f) (hq : S.PtOk ns nf n it lo hi m wt) (cc ww : S.Rows) (T : Int) (h1 : ∀ i, i < n → -140000 ≤ cc i 0 ∧ cc i 0 ≤ 140000) (h2 : ∀ i, i < m → -140000 ≤ ww i 0 ∧ ww i 0 ≤ 140000) (h3 : -140000 ≤ T ∧ T ≤ 140000) :
    z8 (cs17 hbs) z1m [.ag (plC e mo t l nc (S.val c) ns (S.val s) ta tm r nf (S.val f)), .ag (ptC n (S.val it) lo hi m (S.val wt) ld), .ag [.p (.isl 1 n (S.val cc)), .p (.int .i64 T), .p (.isl 1 m (S.val ww))]] (.tp [vI .i64 (S.wgt e T n cc m ww), vI .i64 (S.mom mo T ta n cc it s m ww f)]) [] := by
  have b1 := hp.he
  have b2 := hq.hn
  have b3 := hq.hm
  have b4 := hp.hnf
  exact z8.cfg (C := cs3 hbs) (C' := cs17 hbs) rfl rfl (zc8 hT hT3 e mo t l nc c ns s ta tm r nf f n it lo hi m wt ld n cc T m ww (by omega) (Nat.le_refl _) (by omega) (by omega) (fun i hi => by have := h1 i hi; have := hq.hit i hi; omega) (fun j hj => (hp.hs j hj).1) h2 (fun j hj => (hp.hf j hj).1) (by omega) hp.hmo h3 hp.hta)
include hT hT3 hT17 in
theorem znn (e mo t l : Int) (nc : Nat) (c : S.Rows) (ns : Nat) (s : S.Rows) (ta tm r : Int) (nf : Nat) (f : S.Rows) (n : Nat) (it : S.Rows) (lo hi : Int) (m : Nat) (wt : S.Rows) (ld : Bool) (hp : S.PlOk e mo t l nc c ns s ta tm r nf f) (hq : S.PtOk ns nf n it lo hi m wt) :
    z8 (cs17 hbs) z71 [.ag (plC e mo t l nc (S.val c) ns (S.val s) ta tm r nf (S.val f)), .ag (ptC n (S.val it) lo hi m (S.val wt) ld)] (.ag [.p (.int .i64 (S.rb1 e mo t l nc c ns s ta tm r nf f n it lo hi m wt ld)), .p (.int .i64 (S.rb2 e mo t l nc c ns s ta tm r nf f n it lo hi m wt ld)), .p (.int .i64 (S.rb3 e mo t l nc c ns s ta tm r nf f n it lo hi m wt ld)), .p (.int .i64 (S.rb4 e mo t l nc c ns s ta tm r nf f n it lo hi m wt ld))]) [] := by
  have b1 := hq.hn
  have b2 := hq.hm
  have b3 := hp.hnf
  have hle : ∀ j, j < n + 1 + m → S.parts n it s lo hi ta wt f j 0 ≤ S.parts n it s lo hi ta wt f j 1 := fun j h => (S.parts_in hp hq j h).2.2.2
  have hI : ∀ (b : Bool) i, i < n → -140000 ≤ S.endOf b (it i 1) (it i 2) ∧ S.endOf b (it i 1) (it i 2) ≤ 140000 := fun b i hi => by have := hq.hit i hi; exact S.end_in (by omega) (by omega) (by omega)
  have hW : ∀ (b : Bool) i, i < m → -140000 ≤ S.endOf b (wt i 0) (wt i 1) ∧ S.endOf b (wt i 0) (wt i 1) ≤ 140000 := fun b i hi => by have := hq.hwt i hi; exact S.end_in (by omega) (by omega) (by omega)
  have hK : ∀ (b : Bool), -140000 ≤ S.endOf b lo hi ∧ S.endOf b lo hi ≤ 140000 := fun b => by have := hq.htk; exact S.end_in (by omega) (by omega) (by omega)
  have hN : ∀ (b : Bool) i, i < n → -140000 ≤ S.bnS b s it (0 + i) 0 ∧ S.bnS b s it (0 + i) 0 ≤ 140000 := fun b i hi => by
    rw [Nat.zero_add]
    unfold S.bnS
    split
    · exact hI _ i hi
    · exact hI _ i hi
  have hM : ∀ (b : Bool) i, i < m → -140000 ≤ S.bwS b f wt (0 + i) 0 ∧ S.bwS b f wt (0 + i) 0 ≤ 140000 := fun b i hi => by
    rw [Nat.zero_add]
    unfold S.bwS
    split
    · exact hW _ i hi
    · exact hW _ i hi
  have hE : ∀ (b : Bool) i, i < n → -140000 ≤ S.ends it 1 b (0 + i) 0 ∧ S.ends it 1 b (0 + i) 0 ≤ 140000 := fun b i hi => by rw [Nat.zero_add]; exact hI b i hi
  have hF : ∀ (b : Bool) i, i < m → -140000 ≤ S.ends wt 0 b (0 + i) 0 ∧ S.ends wt 0 b (0 + i) 0 ≤ 140000 := fun b i hi => by rw [Nat.zero_add]; exact hW b i hi
  have wE : ∀ b : Bool, _ := fun b => zak hT hT3 e mo t l nc c ns s ta tm r nf f n it lo hi m wt ld hp hq (fun x y => S.ends it 1 b (0 + x) y) (fun x y => S.ends wt 0 b (0 + x) y) (S.endOf b lo hi) (hE b) (hF b) (hK b)
  have wS : ∀ b b' : Bool, _ := fun b b' => zak hT hT3 e mo t l nc c ns s ta tm r nf f n it lo hi m wt ld hp hq (fun x y => S.bnS b s it (0 + x) y) (fun x y => S.bwS b f wt (0 + x) y) (S.endOf b' lo hi) (hN b) (hM b) (hK b')
  refine zo hT17 (F := z4y) rfl (zno e mo t l nc c ns s ta tm r nf f n it lo hi m wt ld _) ⟨zd9 hT3 n it lo hi m wt ld false (by omega) (by omega), zd9 hT3 n it lo hi m wt ld true (by omega) (by omega), wE false, wE true, zlg 931 e mo t l nc c ns s ta tm r nf f n it lo hi m wt ld _ _ _ _ _ _ _ _ (by omega) (fun i hi => (hq.hit i hi).1) 0 _ (Nat.zero_le _) ⟨ρ17, HasR.mk _ rfl rfl (wh17 (fun _ _ _ _ => by rw [S.mix_0]) (fun _ _ _ _ => rfl) (fun _ _ _ _ => by rw [S.mix_0]) fun _ _ _ _ => rfl) (by simp [zg, WA, WC, WP', Tr.get])⟩, brP (fun h => ?_) fun h => ?_⟩
  · refine ⟨zb6 929 e mo t l nc c ns s ta tm r nf f n it lo hi m wt ld _ _ _ _ _ _ _ _ (by omega) b2 0 _ (Nat.zero_le _) ⟨ρ17, HasR.mk _ rfl rfl (wh17 (fun _ _ _ _ => rfl) (fun _ _ _ _ => by rw [S.mix_0]) (fun _ _ _ _ => rfl) fun _ _ _ _ => by rw [S.mix_0]) (by simp [zg, WA, WC, WP', Tr.get])⟩, wS false true, wS true false, ?_⟩
    exact frz4 S.rb1_eq S.rb2_eq (S.rb3_eq hle (by rw [h])) (S.rb4_eq hle (by rw [h]))
  · refine ⟨zb6 929 e mo t l nc c ns s ta tm r nf f n it lo hi m wt ld _ _ _ _ _ _ _ _ (by omega) b2 0 _ (Nat.zero_le _) ⟨ρ17, HasR.mk _ rfl rfl (wh17 (fun _ _ _ _ => rfl) (fun _ _ _ _ => by rw [S.mix_0]) (fun _ _ _ _ => rfl) fun _ _ _ _ => by rw [S.mix_0]) (by simp [zg, WA, WC, WP', Tr.get])⟩, wS false false, wS true true, ?_⟩
    exact frz4 S.rb1_eq S.rb2_eq (S.rb3_eq hle (by rw [h])) (S.rb4_eq hle (by rw [h]))
end
end Go.Ab.B
