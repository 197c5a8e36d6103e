/- A part of the proof. -/
import Derived.Test.YthfkaopnphjlkaaGreatDoorTb
import Derived.Test.YthfkaopnphjlkaaGreatDoorVd
set_option linter.all false
set_option maxRecDepth 100000
namespace Go.Ab.B
open Go.Proofs
def ztg : List AV → Option (AV × Heap)
  | [.ag [.p (.int .i64 lo), .p (.int .i64 hi)], .c (.p (.int .i64 x))] => some (vB (S.inB lo x hi), [])
  | _ => none
def zwb : List AV → Option (AV × Heap)
  | [.c (.p (.int .i64 x)), .c (.p (.int .i64 lo)), .c (.p (.int .i64 hi))] => some (vB (S.inB lo x hi), [])
  | _ => none
def zmq : List AV → Option (AV × Heap)
  | [.ag [.p (.int .i64 a), .p (.int .i64 m)]] => some (vB (S.stOk a m), [])
  | _ => none
def zet : List AV → Option (AV × Heap)
  | [.c (.p (.isl 2 n f))] => some (vB (S.stn n (S.num f)), [])
  | _ => none
def zg6 : List AV → Option (AV × Heap)
  | [.c (.p (.isl 2 n f))] => some (vB (S.corners n (S.num f)), [])
  | _ => none
def zr5 : List AV → Option (AV × Heap)
  | [.c (.p (.isl 2 n f))] => some (vB (S.cvx n (S.num f)), [])
  | _ => none
def zr6 : List AV → Option (AV × Heap)
  | [.c (.p (.isl 2 n f)), .c (.p (.int .i64 w)), .c (.p (.int .i64 m))] => some (vB (S.ins n (S.num f) w m), [])
  | _ => none
def zx0 : List AV → Option (AV × Heap)
  | [.ag [.p (.int .i64 e), .p (.int .i64 m), .p (.int .i64 t), .p (.int .i64 l), .p (.isl 2 nc c), .p (.isl 2 ns s), .p (.int .i64 ta), .p (.int .i64 tm), .p (.int .i64 r), .p (.isl 2 nf f)]] =>
    some (vB (S.plane e m t l nc (S.num c) ns (S.num s) ta tm r nf (S.num f)), [])
  | _ => none
def zpa : List AV → Option (AV × Heap)
  | [.ag [_, _, _, _, .p (.isl 2 n f), _, _, _, _, _], .c (.p (.int .i64 w)), .c (.p (.int .i64 m))] => some (vB (S.ins n (S.num f) w m), [])
  | _ => none
def zth : List AV → Option (AV × Heap)
  | [.ag [_, _, _, _, .p (.isl 2 n f), _, _, _, _, _], .c (.p (.int .i64 e)), .c (.p (.int .i64 w)), .c (.p (.int .i64 m))] => some (vI .i64 (S.sd n (S.num f) e.toNat w m), [])
  | _ => none
def zr7 : List AV → Option (AV × Heap)
  | [] => some (vB true, [])
  | _ => none
def Sp (f : Nat) (l : List AV) : Option (AV × Heap) :=
  bif Nat.beq f z1d then ztg l else bif Nat.beq f zqa then zpa l else bif Nat.beq f z1b then zr7 l else bif Nat.beq f zab then zx0 l else bif Nat.beq f z1w then zx0 l else bif Nat.beq f zsr then zr6 l else bif Nat.beq f z15 then zwb l else bif Nat.beq f z4g then zmq l else bif Nat.beq f z6o then zth l else bif Nat.beq f z6n then zg6 l else bif Nat.beq f z26 then zet l else bif Nat.beq f zae then zr5 l else none
def zeu (s : St) : Option zr :=
  match Tr.get (.o (.i .h)) s.t, Tr.get (.o (.o (.o .h))) s.t with
  | .c (.p (.isl 2 n f)), .c (.p (.int .i64 i)) => some (.br (S.from_ (S.stnAt (S.num f)) n i.toNat) (.e (.exit 0) ⟨.lf, []⟩) (.e .ret ⟨za [(.i .h, vB false)], []⟩))
  | _, _ => none
def zg7 (s : St) : Option zr :=
  match Tr.get (.i (.i (.o .h))) s.t, Tr.get (.i (.o (.i .h))) s.t with
  | .c (.p (.isl 2 n f)), .c (.p (.int .i64 i)) => some (.br (S.from_ (S.corAt (S.num f)) n i.toNat) (.e (.exit 0) ⟨za [(.h, .c (.p (.isl 2 n f)))], []⟩) (.e .ret ⟨za [(.i .h, vB false)], []⟩))
  | _, _ => none
def zpb (s : St) : Option zr :=
  match Tr.get (.o (.o (.o .h))) s.t with
  | .c (.p (.int .i64 i)) => match s.h with
    | [b0, b1, b2, b3, b4, some (.lp nt t ps a b .ready)] => match b0, b1, b3 with
      | some (.box _ [.p (.int .i64 w)]), some (.box _ [.p (.int .i64 m)]), some (.box _ [.p (.isl 2 n f)]) =>
        some (.br (S.from_ (S.insAt n (S.num f) w m) n i.toNat) (.e (.exit 0) ⟨.lf, [b0, b1, b2, b3, b4, some (.lp nt t ps a b .ready)]⟩) (.e .ret ⟨.lf, [b0, b1, b2, b3, b4, some (.lp nt t ps a b (.done .ret))]⟩))
      | _, _, _ => none
    | [b0, b1, b2, b3, some (.lp nt t ps a b .ready)] => match b2 with
      | some (.box _ [.p (.isl 2 n f)]) =>
        some (.br (S.from_ (S.cvxRow n (S.num f)) n i.toNat) (.e (.exit 0) ⟨.lf, [b0, b1, b2, b3, some (.lp nt t ps a b .ready)]⟩) (.e .ret ⟨.lf, [b0, b1, b2, b3, some (.lp nt t ps a b (.done .ret))]⟩))
      | _ => none
    | _ => none
  | _ => none
def zr8 (s : St) : Option zr :=
  match Tr.get (.i (.o (.i .h))) s.t, Tr.get (.o (.o .h)) s.t, Tr.get (.i (.i (.i .h))) s.t with
  | .c (.p (.isl 2 n f)), .c (.p (.int .i64 e)), .c (.p (.int .i64 k)) => some (.br (S.from_ (S.cvxAt n (S.num f) e.toNat) n k.toNat) (.e (.exit 2) ⟨.lf, s.h⟩) (.e .ret ⟨.lf, s.h⟩))
  | _, _, _ => none
def z52 (j : Nat) (s : St) : Option zr :=
  match s.h with
  | [some (.box _ [_, _, _, _, .p (.isl 2 nc c), .p (.isl 2 ns st), _, _, _, .p (.isl 2 nf f)])] => match j with
    | 1 => match Tr.get (.o (.o .h)) s.t with
      | .c (.p (.int .i64 i)) => some (.br (S.from_ (S.stnAt (S.num st)) ns i.toNat) (.e (.exit 0) ⟨za [(.o .h, .c (.pt 0 0))], s.h⟩) (.e .ret ⟨za [(.i .h, vB false)], s.h⟩))
      | _ => none
    | 2 => match Tr.get (.i (.o .h)) s.t with
      | .c (.p (.int .i64 i)) => some (.br (S.from_ (S.stnAt (S.num f)) nf i.toNat) (.e (.exit 2) ⟨za [(.o .h, .c (.pt 0 0))], s.h⟩) (.e .ret ⟨za [(.i .h, vB false)], s.h⟩))
      | _ => none
    | 3 => match Tr.get (.o (.i .h)) s.t with
      | .c (.p (.int .i64 i)) => some (.br (S.from_ (S.corAt (S.num c)) nc i.toNat) (.e (.exit 4) ⟨za [(.o .h, .c (.pt 0 0))], s.h⟩) (.e .ret ⟨za [(.i .h, vB false)], s.h⟩))
      | _ => none
    | 4 => match Tr.get (.i (.i .h)) s.t with
      | .c (.p (.int .i64 i)) => some (.br (S.from_ (S.cvxRow nc (S.num c)) nc i.toNat) (.e (.exit 6) ⟨za [(.o .h, .c (.pt 0 0))], s.h⟩) (.e .ret ⟨za [(.i .h, vB false)], s.h⟩))
      | _ => none
    | _ => match Tr.get (.i (.i .h)) s.t, Tr.get (.o (.o (.o .h))) s.t with
      | .c (.p (.int .i64 e)), .c (.p (.int .i64 i)) => some (.br (S.from_ (S.cvxAt nc (S.num c) e.toNat) nc i.toNat) (.e (.exit 8) ⟨za [(.o .h, .c (.pt 0 0)), (.i (.i .h), .c (.p (.int .i64 e)))], s.h⟩) (.e .ret ⟨za [(.i .h, vB false)], s.h⟩))
      | _, _ => none
  | _ => none
def zpc (s : St) : Option zr :=
  match s.h with
  | [some (.box _ [_, _, _, _, .p (.isl 2 nc c), _, _, _, _, _])] => match Tr.get (.o .h) s.t, Tr.get (.i .h) s.t, Tr.get (.o (.o (.o .h))) s.t with
    | .c (.p (.int .i64 w)), .c (.p (.int .i64 m)), .c (.p (.int .i64 i)) => some (.br (S.from_ (S.insAt nc (S.num c) w m) nc i.toNat) (.e (.exit 0) ⟨.lf, s.h⟩) (.e .ret ⟨za [(.i (.i .h), vB false)], s.h⟩))
    | _, _, _ => none
  | _ => none
def Lp (n0 : Nat) (a : MC) (s : St) : Option zr :=
  bif Nat.beq (keyM a 0) zfi then zpc s else bif Nat.beq (keyM a 0) zhd then z52 1 s else bif Nat.beq (keyM a 0) zhe then z52 2 s else bif Nat.beq (keyM a 0) zhf then z52 3 s else bif Nat.beq (keyM a 0) zhh then z52 4 s else bif Nat.beq (keyM a 0) zhg then z52 5 s else
  bif Nat.beq (keyM a 0) zbc then zeu s else bif Nat.beq (keyM a 0) zbu then zg7 s else bif Nat.beq (keyM a 0) z62 then zpb s else bif Nat.beq (keyM a 0) zhk then zr8 s else none
def plC (e m t l : Int) (nc : Nat) (c : Nat → Nat → PV) (ns : Nat) (s : Nat → Nat → PV) (ta tm r : Int) (nf : Nat) (f : Nat → Nat → PV) : List CV :=
  [.p (.int .i64 e), .p (.int .i64 m), .p (.int .i64 t), .p (.int .i64 l), .p (.isl 2 nc c), .p (.isl 2 ns s), .p (.int .i64 ta), .p (.int .i64 tm), .p (.int .i64 r), .p (.isl 2 nf f)]
def t71 (n : Nat) (f : Nat → Nat → PV) : Tr := (.nd (.nd .lf (.c (.pt 0 0)) (.nd (.nd .lf (.c (.ref 3)) .lf) .any .lf)) (.c (.p (.isl 2 n f))) (.nd (.nd (.nd .lf (.c (.p (.isl 2 n f))) .lf) .any .lf) (.c (.pt 1 0)) .lf))
def H71 (n : Nat) (f : Nat → Nat → PV) (st : LS) : Heap := [(some (.box zw [(.p (.isl 2 n f))])), (some (.box zdp [(.p (.bool false))])), (some (.box zw [(.p (.isl 2 n f))])), (some (.clo z11 [] [(.c (.pt 2 0))])), (some (.lp 43 (t71 n f) [(.i (.i (.o .h))), (.o (.o (.i .h)))] z12 z13 st))]
def cs {P : Program} (hbs : BsOk P) : Cfg := { c0 hbs with ur := false, B := fun _ => none, Sp := Sp, Lp := Lp }
abbrev vJ (n : Int) : AV := .c (.p (.int .i64 n))
abbrev cJ (n : Int) : CV := .p (.int .i64 n)
abbrev vN (n : Nat) : AV := .c (.p (.int .i64 (n : Int)))
abbrev vS (e n : Nat) (c : S.Rows) : AV := .c (.p (.isl e n (S.val c)))
abbrev cS (e n : Nat) (c : S.Rows) : CV := .p (.isl e n (S.val c))
abbrev vT (k o : Nat) : AV := .c (.pt k o)
abbrev wV (r : S.Rows) : Nat → Nat → PV := fun i j => .int .i64 (r (0 + i) j)
abbrev L1 (v : AV) : Tr := .nd .lf v .lf
abbrev L2 (b : Tr) : Tr := .nd .lf .any b
abbrev L3 (a : Tr) : Tr := .nd a .any .lf
abbrev L4 (a b : Tr) : Tr := .nd a .any b
abbrev L5 (v : AV) (b : Tr) : Tr := .nd .lf v b
abbrev L6 (a : Tr) (v : AV) : Tr := .nd a v .lf
abbrev kP (e m t l : Int) (nc : Nat) (c : S.Rows) (ns : Nat) (s : S.Rows) (ta tm r : Int) (nf : Nat) (f : S.Rows) : List CV := [cJ e, cJ m, cJ t, cJ l, cS 2 nc c, cS 2 ns s, cJ ta, cJ tm, cJ r, cS 2 nf f]
abbrev kX (n : Nat) (it : S.Rows) (lo hi : Int) (m : Nat) (wt : S.Rows) (ld : Bool) : List CV := [cS 3 n it, cJ lo, cJ hi, cS 2 m wt, .p (.bool ld)]
abbrev kC (n : Nat) (c : S.Rows) (tk : Int) (m : Nat) (w : S.Rows) : List CV := [cS 1 n c, cJ tk, cS 1 m w]
abbrev bP (e m t l : Int) (nc : Nat) (c : S.Rows) (ns : Nat) (s : S.Rows) (ta tm r : Int) (nf : Nat) (f : S.Rows) : Option Blk := some (.box zp (kP e m t l nc c ns s ta tm r nf f))
abbrev bX (n : Nat) (it : S.Rows) (lo hi : Int) (m : Nat) (wt : S.Rows) (ld : Bool) : Option Blk := some (.box zf (kX n it lo hi m wt ld))
abbrev bC (n : Nat) (c : S.Rows) (tk : Int) (m : Nat) (w : S.Rows) : Option Blk := some (.box z7 (kC n c tk m w))
section
variable {hbs : BsOk Tryz.prog}
theorem zta (lo hi x : Int) (Q : AV → Heap → Prop) :
 ((fun (A0 : Heap) => ((BrP (decide (lo ≤ x))
 (BrP (decide (x ≤ hi))
 (Q (vB true) A0)
 (Q (vB false) A0))
 (Q (vB false) A0)))) [(some (.box zm [(cJ lo), (cJ hi)]))]) = (ex (cs hbs) 1000 0 zhs ⟨ofL 0 [.ag [.p (.int .i64 lo), .p (.int .i64 hi)], .c (cJ x)] .lf, []⟩ (endK z6r.rs (fun r H => .pr (Q r H)) fun _ _ => .no)).hold2 := by kernel_rfl
theorem zw2 (lo hi x : Int) (Q : AV → Heap → Prop) :
 ((BrP (decide (x ≥ lo))
 (BrP (decide (x ≤ hi))
 (Q (vB true) [])
 (Q (vB false) []))
 (Q (vB false) []))) = (ex (cs hbs) 1000 0 zns ⟨ofL 0 [.c (cJ x), .c (cJ lo), .c (cJ hi)] .lf, []⟩ (endK z8i.rs (fun r H => .pr (Q r H)) fun _ _ => .no)).hold2 := by kernel_rfl
theorem zmh (a m : Int) (Q : AV → Heap → Prop) :
 ((fun (A0 : Heap) => (((z8 (cs hbs) z15 [(vJ a), (vJ (-(1000 : Int))), (vJ 1000)] (.c (.p (.bool (S.inB (-(1000 : Int)) a (1000 : Int))))) []) ∧
 (BrP (S.inB (-(1000 : Int)) a (1000 : Int))
 ((z8 (cs hbs) z15 [(vJ m), (vJ 0), (vJ 20000)] (.c (.p (.bool (S.inB (0 : Int) m (20000 : Int))))) []) ∧
 (BrP (S.inB (0 : Int) m (20000 : Int))
 (Q (vB true) A0)
 (Q (vB false) A0)))
 (Q (vB false) A0))))) [(some (.box z4p [(cJ a), (cJ m)]))]) = (ex (cs hbs) 1000 0 zca ⟨ofL 0 [.ag [.p (.int .i64 a), .p (.int .i64 m)]] .lf, []⟩ (endK z4e.rs (fun r H => .pr (Q r H)) fun _ _ => .no)).hold2 := by kernel_rfl
theorem zem (n : Nat) (s : S.Rows) (Q : AV → Heap → Prop) :
 (((zd (ex (cs hbs) 995) 0 z2y ⟨(.nd (L4 (L3 (L1 (vJ 0))) (L1 (vS 2 n s))) (vS 2 n s) (L5 (vB false) (L1 (vN n)))), []⟩ (.br (S.from_ (S.stnAt s) n 0) (.e (.exit 0) ⟨.lf, []⟩) (.e .ret ⟨(L2 (L1 (vB false))), []⟩))) ∧
 (BrP (S.from_ (S.stnAt s) n 0)
 (Q (vB true) [])
 (Q (vB false) [])))) = (ex (cs hbs) 1000 0 z8v ⟨ofL 0 [.c (cS 2 n s)] .lf, []⟩ (endK z2s.rs (fun r H => .pr (Q r H)) fun _ _ => .no)).hold2 := by kernel_rfl
theorem zel (fu n i : Nat) (s : S.Rows) (Q : AX → St → Prop) :
 ((fun (A1 : List CV) => ((fun (A2 : AV) => ((fun (A0 : Tr) => ((fun (A3 : Heap) => ((fun (A4 : AV) => ((fun (A5 : Tr) => ((BrP (decide ((i : Int) < (n : Int)))
 (CdP (.rng (i : Int) n)
 ((z8 (cs hbs) z1d [A2, (vJ (s i 0))] (.c (.p (.bool (S.inB (-(1000 : Int)) (s i 0) (1000 : Int))))) []) ∧
 (BrP (S.inB (-(1000 : Int)) (s i 0) (1000 : Int))
 ((z8 (cs hbs) z1d [(.ag [(cJ 0), (cJ 20000)]), (vJ (s i 1))] (.c (.p (.bool (S.inB (0 : Int) (s i 1) (20000 : Int))))) []) ∧
 (BrP (S.inB (0 : Int) (s i 1) (20000 : Int))
 (CdP (.i64 ((i : Int) + (1 : Int)))
 (Q .normal ⟨(L4 (L4 (L4 (.nd (L1 (vB false)) (vJ ((i : Int) + (1 : Int))) (L1 (vJ ((i : Int) + (1 : Int))))) A0) (.nd (L6 (L1 (vT 0 1)) A4) (vS 2 n s) (L6 (L1 (vB false)) (vJ (s i 0))))) (L4 (.nd A5 (vT 0 0) (L6 (L1 (vB true)) (vT 0 0))) (.nd (L6 (L1 (vJ (s i 1))) (.ag A1)) (vN n) A5))), A3⟩))
 (Q .ret ⟨(L4 (L4 (L4 (L6 (L1 (vB false)) (vN i)) A0) (.nd (L6 (L1 (vT 0 1)) A4) (vS 2 n s) (L6 (L1 (vB true)) (vJ (s i 0))))) (.nd (.nd A5 (vT 0 0) (L6 (L1 (vB false)) (vT 0 0))) (vB false) (.nd (L6 (L1 (vJ (s i 1))) (.ag A1)) (vN n) (L6 (L1 (vB true)) (vB true))))), A3⟩)))
 (Q .ret ⟨(L4 (L4 (L4 (L6 (L1 (vB true)) (vN i)) (L6 (L1 (.tp [])) A2)) (.nd (L6 (L1 (.tp [])) A4) (vS 2 n s) (L6 (L1 (.tp [])) (vJ (s i 0))))) (.nd (.nd (L6 (L1 (vB true)) (vB true)) (vT 0 0) (L6 (L1 (.tp [])) (vT 0 0))) (vB false) (.nd (L6 (L1 (.tp [])) (.ag A1)) (vN n) (L6 (L1 (vB true)) (vB false))))), A3⟩))))
 (Q (.exit 0) ⟨(L4 (L4 (L3 (L1 (vN i))) (L1 (vS 2 n s))) (L4 (L3 (L1 (vB false))) (L1 (vN n)))), []⟩)))) (L6 (L1 (vB false)) (vB true)))) (.c (.p (.ipt 2 (S.val s i)))))) [(some (.box z4p A1))])) (L6 (L1 (.c (.p (.isl 1 1 (fun x5 => (fun x6 => (List.getD [(.int .i64 (s i 1))] ((x5 * 1) + x6) .npt))))))) A2))) (.ag [(cJ (-(1000 : Int))), (cJ 1000)]))) [(cJ (s i 0)), (cJ (s i 1))]) = (ex (cs hbs) (fu + 60) 0 z2y ⟨za [(.o (.i .h), .c (cS 2 n s)), (.i (.i .h), .c (cJ n)), (.o (.o (.o .h)), .c (cJ i))], []⟩ (fun e s => .pr (Q e s))).hold2 := by kernel_rfl
theorem zg4 (n : Nat) (c : S.Rows) (Q : AV → Heap → Prop) :
 (((z8 (cs hbs) z1d [(.ag [(cJ 3), (cJ 12)]), (vN n)] (.c (.p (.bool (S.inB (3 : Int) (n : Int) (12 : Int))))) []) ∧
 (BrP (S.inB (3 : Int) (n : Int) (12 : Int))
 ((zd (ex (cs hbs) 994) 0 z3b ⟨(.nd (L4 (L4 (L1 (vN n)) (L1 (vN n))) (L6 (L1 (vB false)) (.ag [(cJ 3), (cJ 12)]))) (vS 2 n c) (.nd (L4 (L1 (vB true)) (L1 (vJ 0))) (vB false) (L6 (L1 (vS 2 n c)) (vS 2 n c)))), []⟩ (.br (S.from_ (S.corAt c) n 0) (.e (.exit 0) ⟨(L1 (vS 2 n c)), []⟩) (.e .ret ⟨(L2 (L1 (vB false))), []⟩))) ∧
 (BrP (S.from_ (S.corAt c) n 0)
 ((z8 (cs hbs) zae [(vS 2 n c)] (.c (.p (.bool (S.cvx n c)))) []) ∧
 (BrP (S.cvx n c)
 (Q (vB true) [])
 (Q (vB false) [])))
 (Q (vB false) [])))
 (Q (vB false) [])))) = (ex (cs hbs) 1000 0 za4 ⟨ofL 0 [.c (cS 2 n c)] .lf, []⟩ (endK z35.rs (fun r H => .pr (Q r H)) fun _ _ => .no)).hold2 := by kernel_rfl
theorem zg2 (fu n i : Nat) (c : S.Rows) (Q : AX → St → Prop) :
 ((fun (A0 : Tr) => ((fun (A1 : List CV) => ((fun (A2 : Heap) => ((fun (A3 : AV) => ((BrP (decide ((i : Int) < (n : Int)))
 (CdP (.rng (i : Int) n)
 ((z8 (cs hbs) z1d [(.ag [(cJ 0), (cJ 20000)]), (vJ (c i 0))] (.c (.p (.bool (S.inB (0 : Int) (c i 0) (20000 : Int))))) []) ∧
 (BrP (S.inB (0 : Int) (c i 0) (20000 : Int))
 ((z8 (cs hbs) z1d [(.ag [(cJ (-(20000000 : Int))), (cJ 20000000)]), (vJ (c i 1))] (.c (.p (.bool (S.inB (-(20000000 : Int)) (c i 1) (20000000 : Int))))) []) ∧
 (BrP (S.inB (-(20000000 : Int)) (c i 1) (20000000 : Int))
 (CdP (.i64 ((i : Int) + (1 : Int)))
 (Q .normal ⟨(.nd (L4 (L4 (L4 (L1 (.ag A1)) (L1 (vJ (c i 1)))) (.nd (L1 (vB true)) (vN n) (L1 (vJ ((i : Int) + (1 : Int)))))) (L4 (L4 (L1 (vJ (c i 0))) (L1 (vB false))) (L6 (L1 (vB false)) (vB true)))) (vS 2 n c) (L4 (.nd (L4 (L1 (vT 0 0)) (L1 (vB true))) (vT 0 0) (L6 (L1 (vB false)) (vJ ((i : Int) + (1 : Int))))) (L4 (.nd A0 (vS 2 n c) (L1 (vB false))) (L6 (L1 (vT 0 1)) A3)))), A2⟩))
 (Q .ret ⟨(.nd (L4 (L4 (L4 (L1 (.ag A1)) (L1 (vJ (c i 1)))) (L6 (L1 (vB true)) (vN n))) (L4 (L4 (L1 (vJ (c i 0))) (L1 (vB true))) (L6 (L1 (vB false)) (vB true)))) (vS 2 n c) (.nd (.nd (L4 (L1 (vT 0 0)) (L1 (vB false))) (vT 0 0) (L6 (L1 (vB false)) (vN i))) (vB false) (L4 (.nd A0 (vS 2 n c) (L1 (vB true))) (L6 (L1 (vT 0 1)) A3)))), A2⟩)))
 (Q .ret ⟨(.nd (L4 (L4 (L4 (L1 (.ag A1)) (L1 (.tp []))) (L6 (L1 (vB false)) (vN n))) (L4 (L4 (L1 (vJ (c i 0))) (L1 (.tp []))) (L6 (L1 (vB true)) (vB true)))) (vS 2 n c) (.nd (.nd (L4 (L1 (vT 0 0)) (L1 (.tp []))) (vT 0 0) (L6 (L1 (vB true)) (vN i))) (vB false) (L4 (.nd A0 (vS 2 n c) (L1 (vB true))) (L6 (L1 (.tp [])) A3)))), A2⟩))))
 (Q (.exit 0) ⟨(.nd (L4 (L2 (L1 (vN n))) (L2 (L1 (vB false)))) (vS 2 n c) (L4 (L2 (L1 (vN i))) (L3 (L1 (vS 2 n c))))), []⟩)))) (.c (.p (.ipt 2 (S.val c i)))))) [(some (.box zl A1))])) [(cJ (c i 0)), (cJ (c i 1))])) (L1 (.c (.p (.isl 1 1 (fun x5 => (fun x6 => (List.getD [(.int .i64 (c i 0))] ((x5 * 1) + x6) .npt)))))))) = (ex (cs hbs) (fu + 60) 0 z3b ⟨za [(.h, .c (cS 2 n c)), (.i (.i (.o .h)), .c (cS 2 n c)), (.o (.o (.i .h)), .c (cJ n)), (.i (.o (.i .h)), .c (cJ i))], []⟩ (fun e s => .pr (Q e s))).hold2 := by kernel_rfl
end
end Go.Ab.B
namespace Go.Ab
theorem zj {H : Heap} {b b' : Bool} (h : b' = b) : frzA H (vB b) = some (vB b') := by subst h; rfl
theorem zi {i n : Nat} (h : i < n) : Cd.holds (.rng ((i : Nat) : Int) n) := ⟨by omega, by omega⟩
end Go.Ab
namespace Go.Ab.B
open Go.Proofs
section
variable {hbs : BsOk Tryz.prog} (hT : zq (cs hbs))
include hT
theorem z1k (lo hi x : Int) : z8 (cs hbs) z1d [.ag [.p (.int .i64 lo), .p (.int .i64 hi)], .c (.p (.int .i64 x))] (vB (S.inB lo x hi)) [] :=
  zo hT (F := z6r) rfl (zta lo hi x _) (brP (fun h1 => brP (fun h2 => zj (by simp [S.inB, h1, h2])) fun h2 => zj (by simp [S.inB, h1, h2])) fun h1 => zj (by simp [S.inB, h1]))
theorem z28 (lo hi x : Int) : z8 (cs hbs) z15 [.c (.p (.int .i64 x)), .c (.p (.int .i64 lo)), .c (.p (.int .i64 hi))] (vB (S.inB lo x hi)) [] :=
  zo hT (F := z8i) rfl (zw2 lo hi x _) (brP (fun h1 => brP (fun h2 => zj (by simp at h1 h2; simp [S.inB, h1, h2])) fun h2 => zj (by simp at h1 h2; simp [S.inB, h1]; omega)) fun h1 => zj (by simp at h1; simp [S.inB]; omega))
theorem z86 (a m : Int) : z8 (cs hbs) z4g [.ag [.p (.int .i64 a), .p (.int .i64 m)]] (vB (S.stOk a m)) [] :=
  zo hT (F := z4e) rfl (zmh a m _) ⟨z28 hT _ _ _, brP (fun h1 => ⟨z28 hT _ _ _, brP (fun h2 => zj (by simp [S.stOk, h1, h2])) fun h2 => zj (by simp [S.stOk, h1, h2])⟩) fun h1 => zj (by simp [S.stOk, h1])⟩
theorem zek (fu n : Nat) (s : S.Rows) (hn : n ≤ maxLen) : ∀ (i : Nat) (st : St), i ≤ n → Has st [(.o (.i .h), .c (.p (.isl 2 n (S.val s)))), (.i (.i .h), .c (.p (.int .i64 n))), (.o (.o (.o .h)), .c (.p (.int .i64 i)))] [] →
    zd (ex (cs hbs) (fu + 60)) 0 z2y st (.br (S.from_ (S.stnAt s) n i) (.e (.exit 0) ⟨.lf, []⟩) (.e .ret ⟨za [(.i .h, vB false)], []⟩)) :=
  z2d (σ := Nat) (fun i => [(.o (.i .h), .c (.p (.isl 2 n (S.val s)))), (.i (.i .h), .c (.p (.int .i64 n))), (.o (.o (.o .h)), .c (.p (.int .i64 i)))]) (fun _ => []) (fun i => i ≤ n) (fun i => n - i)
    (fun i => .br (S.from_ (S.stnAt s) n i) (.e (.exit 0) ⟨.lf, []⟩) (.e .ret ⟨za [(.i .h, vB false)], []⟩)) (fun _ => Nat.le_refl _) _ (fun i Q => zel (hbs := hbs) fu n i s Q) fun i hi K hL X hX => by
      refine brP (fun h1 => cdP (zi (by simpa using h1)) ⟨z1k hT _ _ _, brP (fun h2 => ⟨z1k hT _ _ _, brP (fun h3 => cdP ?_ ?_) fun h3 => ?_⟩) fun h2 => ?_⟩) fun h1 => ?_
      · have hlt : i < n := by simpa using h1
        simp [maxLen] at hn; simp [Cd.holds]; omega
      · have hlt : i < n := by simpa using h1
        refine hX (i + 1) _ (by omega) (by omega) (.cons (by kernel_rfl) rfl (.cons (by kernel_rfl) rfl (.cons (by kernel_rfl) rfl (.nil rfl rfl)))) ?_
        have e : S.stnAt s i = true := by simp [S.stnAt, S.stOk, h2, h3]
        rw [S.from_step hlt, e, Bool.true_and] at hL
        exact hL
      · have hlt : i < n := by simpa using h1
        have e : S.stnAt s i = false := by simp [S.stnAt, S.stOk, h2, h3]
        rw [S.from_step hlt, e, Bool.false_and] at hL
        exact Has.out (l := [(.i .h, vB false)]) (.cons (by kernel_rfl) rfl (.nil (ex := _) rfl rfl)) (Nat.le_refl _) hL
      · have hlt : i < n := by simpa using h1
        have e : S.stnAt s i = false := by simp [S.stnAt, S.stOk, h2]
        rw [S.from_step hlt, e, Bool.false_and] at hL
        exact Has.out (l := [(.i .h, vB false)]) (.cons (by kernel_rfl) rfl (.nil (ex := _) rfl rfl)) (Nat.le_refl _) hL
      · have hlt : n ≤ i := by simpa using h1
        rw [S.from_end hlt] at hL
        exact Has.out (l := []) (.nil (ex := []) rfl rfl) (Nat.le_refl _) hL
theorem z5j (n : Nat) (s : S.Rows) (hn : n ≤ maxLen) : z8 (cs hbs) z26 [.c (.p (.isl 2 n (S.val s)))] (vB (S.stn n s)) [] :=
  zo hT (F := z2s) rfl (zem n s _) ⟨zek hT 935 n s hn 0 _ (Nat.zero_le _) (.cons (by kernel_rfl) rfl (.cons (by kernel_rfl) rfl (.cons (by kernel_rfl) rfl (.nil rfl rfl)))), brP (fun h => zj (by exact h)) fun h => zj (by exact h)⟩
theorem zg1 (fu n : Nat) (c : S.Rows) (hn : n ≤ maxLen) : ∀ (i : Nat) (st : St), i ≤ n → Has st [(.h, .c (.p (.isl 2 n (S.val c)))), (.i (.i (.o .h)), .c (.p (.isl 2 n (S.val c)))), (.o (.o (.i .h)), .c (.p (.int .i64 n))), (.i (.o (.i .h)), .c (.p (.int .i64 i)))] [] →
    zd (ex (cs hbs) (fu + 60)) 0 z3b st (.br (S.from_ (S.corAt c) n i) (.e (.exit 0) ⟨za [(.h, .c (.p (.isl 2 n (S.val c))))], []⟩) (.e .ret ⟨za [(.i .h, vB false)], []⟩)) :=
  z2d (σ := Nat) (fun i => [(.h, .c (.p (.isl 2 n (S.val c)))), (.i (.i (.o .h)), .c (.p (.isl 2 n (S.val c)))), (.o (.o (.i .h)), .c (.p (.int .i64 n))), (.i (.o (.i .h)), .c (.p (.int .i64 i)))]) (fun _ => []) (fun i => i ≤ n) (fun i => n - i)
    (fun i => .br (S.from_ (S.corAt c) n i) (.e (.exit 0) ⟨za [(.h, .c (.p (.isl 2 n (S.val c))))], []⟩) (.e .ret ⟨za [(.i .h, vB false)], []⟩)) (fun _ => Nat.le_refl _) _ (fun i Q => zg2 (hbs := hbs) fu n i c Q) fun i hi K hL X hX => by
      refine brP (fun h1 => cdP (zi (by simpa using h1)) ⟨z1k hT _ _ _, brP (fun h2 => ⟨z1k hT _ _ _, brP (fun h3 => cdP ?_ ?_) fun h3 => ?_⟩) fun h2 => ?_⟩) fun h1 => ?_
      · have hlt : i < n := by simpa using h1
        simp [maxLen] at hn; simp [Cd.holds]; omega
      · have hlt : i < n := by simpa using h1
        refine hX (i + 1) _ (by omega) (by omega) (.cons (by kernel_rfl) rfl (.cons (by kernel_rfl) rfl (.cons (by kernel_rfl) rfl (.cons (by kernel_rfl) rfl (.nil rfl rfl))))) ?_
        have e : S.corAt c i = true := by simp [S.corAt, h2, h3]
        rw [S.from_step hlt, e, Bool.true_and] at hL
        exact hL
      · have hlt : i < n := by simpa using h1
        have e : S.corAt c i = false := by simp [S.corAt, h2, h3]
        rw [S.from_step hlt, e, Bool.false_and] at hL
        exact Has.out (l := [(.i .h, vB false)]) (.cons (by kernel_rfl) rfl (.nil (ex := _) rfl rfl)) (Nat.le_refl _) hL
      · have hlt : i < n := by simpa using h1
        have e : S.corAt c i = false := by simp [S.corAt, h2]
        rw [S.from_step hlt, e, Bool.false_and] at hL
        exact Has.out (l := [(.i .h, vB false)]) (.cons (by kernel_rfl) rfl (.nil (ex := _) rfl rfl)) (Nat.le_refl _) hL
      · have hlt : n ≤ i := by simpa using h1
        rw [S.from_end hlt] at hL
        exact Has.out (l := [(.h, .c (.p (.isl 2 n (S.val c))))]) (.cons (by kernel_rfl) rfl (.nil (ex := []) rfl rfl)) (Nat.le_refl _) hL
end
section
variable {hbs : BsOk Tryz.prog}
theorem zqs (n : Nat) (c : S.Rows) (Q : AV → Heap → Prop) :
 ((fun (A0 : Option Blk) => ((fun (A1 : Tr) => ((fun (A2 : Option Blk) => ((fun (A3 : Option Blk) => (((zd (ex (cs hbs) 992) 5 z17 ⟨(.nd (.nd (L3 (L1 (vJ 0))) (vT 2 0) (L1 (vS 2 n c))) (.c (.ref 4)) (L2 (L1 (vN n)))), [A0, A3, A0, A2, (some (.lp 43 A1 [(.i (.i (.o .h))), (.o (.o (.i .h)))] z12 z13 .ready))]⟩ (.br (S.from_ (S.cvxRow n c) n 0) (.e (.exit 0) ⟨.lf, [A0, A3, A0, A2, (some (.lp 43 A1 [(.i (.i (.o .h))), (.o (.o (.i .h)))] z12 z13 .ready))]⟩) (.e .ret ⟨.lf, [A0, A3, A0, A2, (some (.lp 43 A1 [(.i (.i (.o .h))), (.o (.o (.i .h)))] z12 z13 (.done .ret)))]⟩))) ∧
 (BrP (S.from_ (S.cvxRow n c) n 0)
 (Q (vB true) [A0, (some (.box zdp [(.p (.bool true))])), A0, A2, none])
 (Q (vB false) [A0, A3, A0, A2, none]))))) (some (.box zdp [(.p (.bool false))])))) (some (.clo z11 [] [(vT 2 0)])))) (.nd (L5 (vT 0 0) (L3 (L1 (.c (.ref 3))))) (vS 2 n c) (L6 (L3 (L1 (vS 2 n c))) (vT 1 0))))) (some (.box zw [(cS 2 n c)]))) = (ex (cs hbs) 1000 0 zf5 ⟨ofL 0 [.c (cS 2 n c)] .lf, []⟩ (endK z5x.rs (fun r H => .pr (Q r H)) fun _ _ => .no)).hold2 := by kernel_rfl
theorem zmj (fu n i : Nat) (c : S.Rows) (Q : AX → St → Prop) :
 ((fun (A2 : Option Blk) => ((fun (A3 : Tr) => ((fun (A5 : List CV) => ((fun (A6 : Option Blk) => ((fun (A7 : Option Blk) => ((fun (A8 : Tr) => ((fun (A9 : AV) => ((fun (A10 : Tr) => ((fun (A11 : CV) => ((fun (A12 : CV) => ((fun (A1 : List CV) => ((fun (A4 : Tr) => ((fun (A13 : Option Blk) => ((fun (A14 : Option Blk) => ((fun (A0 : Heap) => ((BrP (decide ((i : Int) < (n : Int)))
 (CdP (.rng (i : Int) n)
 (CdP (.i64 ((i : Int) + (1 : Int)))
 (CdP (.ne (n : Int))
 (CdP (.rng (Int.tmod ((i : Int) + (1 : Int)) (n : Int)) n)
 ((zd (ex (cs hbs) (fu + 49)) 6 z5k ⟨(.nd (.nd (L5 (vN i) (L1 (.ag A1))) (vT 0 0) (L4 (L1 (.c (.ref 3))) (L1 (vN n)))) (vS 2 n c) (.nd (.nd (L1 (vS 2 n c)) (vT 6 0) (L1 (vS 2 n c))) (vT 1 0) (L4 (L1 (vN i)) (L1 (vJ 0))))), A0⟩ (.br (S.from_ (S.cvxAt n c i) n 0) (.e (.exit 2) ⟨.lf, A0⟩) (.e .ret ⟨.lf, A0⟩))) ∧
 (BrP (S.from_ (S.cvxAt n c i) n 0)
 (CdP (.i64 ((i : Int) + (1 : Int)))
 (Q .normal ⟨(.nd (.nd (.nd (.nd (L1 (vS 2 n c)) A9 (L1 (.ag A1))) (vN i) (L6 (L1 (vN n)) (.ag A5))) (vT 2 0) (.nd (.nd (L1 A9) (vN i) (L1 (vB false))) (vS 2 n c) A8)) (.c (.ref 4)) (L4 (.nd (.nd (L1 (vN i)) (vB true) (L1 (vB true))) (vT 5 0) A10) (.nd (.nd (L1 (vS 2 n c)) (.c (.p (.ipt 2 (S.val c i)))) (L1 A9)) (vN n) A4))), [A2, A7, A2, A6, (some (.lp 43 A3 [(.i (.i (.o .h))), (.o (.o (.i .h)))] z12 z13 .ready)), A13, A14]⟩))
 (Q .ret ⟨(.nd (.nd (.nd (.nd (L1 (vS 2 n c)) (vN i) (L1 (.ag A1))) (vN i) (L6 (L1 (vN n)) (.ag A5))) (vT 2 0) (.nd (.nd (L1 A9) (vN i) (L1 (vB true))) (vS 2 n c) A8)) (.c (.ref 4)) (L4 (.nd (.nd (L1 (vN i)) (vB true) (L1 (vB false))) (vT 5 0) A10) (.nd (L6 (L1 (vS 2 n c)) (.c (.p (.ipt 2 (S.val c i))))) (vN n) A4))), [A2, A7, A2, A6, (some (.lp 43 A3 [(.i (.i (.o .h))), (.o (.o (.i .h)))] z12 z13 (.done .ret))), A13, A14]⟩)))))))
 (Q (.exit 0) ⟨(.nd (.nd (L3 (L1 (vN i))) (vT 2 0) (L1 (vS 2 n c))) (.c (.ref 4)) (L4 (L3 (L1 (vB false))) (L1 (vN n)))), [A2, A7, A2, A6, (some (.lp 43 A3 [(.i (.i (.o .h))), (.o (.o (.i .h)))] z12 z13 .ready))]⟩)))) [A2, A7, A2, A6, (some (.lp 43 A3 [(.i (.i (.o .h))), (.o (.o (.i .h)))] z12 z13 .busy)), A13, A14])) (some (.box z10 A1)))) (some (.box zl A5)))) (L6 (L1 (.ag [A11, A12])) (.ag A5)))) [(cJ (c i 0)), (cJ (c i 1)), A11, A12])) (cJ (c (Int.toNat (Int.tmod ((i : Int) + (1 : Int)) (n : Int))) 1)))) (cJ (c (Int.toNat (Int.tmod ((i : Int) + (1 : Int)) (n : Int))) 0)))) (L6 (L1 (vJ (Int.tmod ((i : Int) + (1 : Int)) (n : Int)))) (.c (.ref 4))))) (vJ ((i : Int) + (1 : Int))))) (L6 (L1 (.c (.p (.ipt 2 (S.val c (Int.toNat (Int.tmod ((i : Int) + (1 : Int)) (n : Int)))))))) (vN i)))) (some (.box zdp [(.p (.bool false))])))) (some (.clo z11 [] [(vT 2 0)])))) [(cJ (c i 0)), (cJ (c i 1))])) (.nd (L5 (vT 0 0) (L3 (L1 (.c (.ref 3))))) (vS 2 n c) (L6 (L3 (L1 (vS 2 n c))) (vT 1 0))))) (some (.box zw [(cS 2 n c)]))) = (ex (cs hbs) (fu + 60) 5 z17 ⟨za [(.h, .c (.ref 4)), (.o .h, .c (.pt 2 0)), (.o (.i .h), .c (cS 2 n c)), (.i (.i .h), .c (cJ n)), (.o (.o (.o .h)), .c (cJ i))], H71 n (S.val c) .ready⟩ (fun e s => .pr (Q e s))).hold2 := by kernel_rfl
theorem zqq (fu n k e nx : Nat) (c : S.Rows) (Q : AX → St → Prop) :
 ((fun (A1 : Tr) => ((fun (A2 : List CV) => ((fun (A3 : Option Blk) => ((fun (A4 : AV) => ((fun (A5 : Tr) => ((fun (A6 : List CV) => ((fun (A7 : Tr) => ((fun (A8 : AV) => ((fun (A9 : Option Blk) => ((fun (A0 : Heap) => ((fun (A10 : Tr) => ((fun (A11 : AV) => ((fun (A12 : Tr) => ((fun (A13 : Tr) => ((fun (A14 : Tr) => ((BrP (decide ((k : Int) < (n : Int)))
 (CdP (.rng (k : Int) n)
 (BrP ((k : Int) == (e : Int))
 (CdP (.i64 ((k : Int) + (1 : Int)))
 (Q .normal ⟨(L4 (.nd (.nd (.nd (L6 (L1 (vB true)) (vB true)) (vB true) (L6 (L1 (.tp [])) (.tp []))) (vN e) (L4 A13 (L1 (.tp [])))) (vT 0 0) (.nd (L4 (L6 (L1 (vB false)) A8) (L6 (L1 (vB false)) (.tp []))) (vN k) (.nd (L6 (L1 (.tp [])) (vB true)) (vN n) (L1 (.tp []))))) (.nd (.nd (L4 (L6 (L1 (vB false)) (vN k)) (L6 (L1 (.tp [])) (.tp []))) (vT 6 0) (.nd A14 (vS 2 n c) (L1 (.tp [])))) (vT 1 0) (.nd (L4 (L6 (L1 (.tp [])) (.ag A6)) (L6 (L1 A4) (.tp []))) (vT 7 0) (.nd (L6 (L1 (.tp [])) (vB true)) A4 (L1 (vB true)))))), A0⟩))
 (CdP (.i64 ((e : Int) + (1 : Int)))
 (CdP (.ne (n : Int))
 (BrP ((k : Int) == (Int.tmod ((e : Int) + (1 : Int)) (n : Int)))
 (CdP (.i64 ((k : Int) + (1 : Int)))
 (Q .normal ⟨(L4 (.nd (.nd (.nd (L6 (L1 (vB true)) (vB true)) (vB true) A13) (vN e) (L4 A13 (L1 (vN n)))) (vT 0 0) (.nd (L4 (L6 (L1 (vB false)) A8) (L6 (L1 (vB false)) A11)) (vN k) (.nd (L6 (L1 (.tp [])) (vB false)) (vN n) (L1 (vB true))))) (.nd (.nd (L4 (L6 (L1 (vB false)) (vN k)) A14) (vT 6 0) (.nd A14 (vS 2 n c) A5)) (vT 1 0) (.nd (L4 (L6 (L1 (.tp [])) (.ag A6)) (L6 (L1 A4) (vS 2 n c))) (vT 7 0) (.nd (L6 (L1 (.tp [])) (vB false)) A4 (L1 (vB true)))))), A0⟩))
 (CdP (.i64 ((c nx 0) - (c e 0)))
 (CdP (.i64 ((c k 1) - (c e 1)))
 (CdP (.i64 (((c nx 0) - (c e 0)) * ((c k 1) - (c e 1))))
 (CdP (.i64 ((c nx 1) - (c e 1)))
 (CdP (.i64 ((c k 0) - (c e 0)))
 (CdP (.i64 (((c nx 1) - (c e 1)) * ((c k 0) - (c e 0))))
 (CdP (.i64 ((((c nx 0) - (c e 0)) * ((c k 1) - (c e 1))) - (((c nx 1) - (c e 1)) * ((c k 0) - (c e 0)))))
 (BrP (decide (((((c nx 0) - (c e 0)) * ((c k 1) - (c e 1))) - (((c nx 1) - (c e 1)) * ((c k 0) - (c e 0)))) ≤ (0 : Int)))
 (Q .ret ⟨(L4 (.nd A1 (vT 0 0) (.nd (L4 (L6 (L1 (vB true)) A8) (L6 (L1 (vB true)) A11)) (vN k) A10)) (.nd (.nd (L4 (L6 (L1 (vB true)) (vN k)) (L6 (L1 (vB true)) (vN e))) (vT 6 0) A12) (vT 1 0) (.nd (L4 (L6 (L1 (.ag A2)) (.ag A6)) (L1 (vS 2 n c))) (vT 7 0) (.nd (L6 (L1 (vJ (c k 1))) (vB false)) (vN k) (L1 (vB false)))))), A0⟩)
 (CdP (.i64 ((k : Int) + (1 : Int)))
 (Q .normal ⟨(L4 (.nd A1 (vT 0 0) (.nd (L4 (L6 (L1 (vB true)) A8) (L6 (L1 (vB false)) A11)) (vN k) A10)) (.nd (.nd (L4 (L6 (L1 (vB true)) (vN k)) (L6 (L1 (vB false)) (vN e))) (vT 6 0) A12) (vT 1 0) (.nd (L4 (L6 (L1 (.ag A2)) (.ag A6)) (L6 (L1 A4) (vS 2 n c))) (vT 7 0) (.nd (L6 (L1 (vJ (c k 1))) (vB false)) A4 (L1 (vB false)))))), A0⟩)))))))))))))))
 (Q (.exit 2) ⟨(L4 (.nd (L6 (L3 (L1 (vB false))) (vN e)) (vT 0 0) (L2 (L1 (vN n)))) (.nd (L5 (vT 6 0) (L1 (vS 2 n c))) (vT 1 0) (L2 (L1 (vN k))))), [A3, (some (.box zdp [(.p (.bool false))])), A3, (some (.clo z11 [] [(vT 2 0)])), (some (.lp 43 A7 [(.i (.i (.o .h))), (.o (.o (.i .h)))] z12 z13 .busy)), A9, (some (.box z10 A2))]⟩)))) (L6 (L1 (.tp [])) (vN e)))) (L6 (L1 (.tp [])) (vN k)))) (.nd (L6 (L1 (vJ (c k 0))) (vN e)) (vS 2 n c) A5))) (vJ ((e : Int) + (1 : Int))))) (.nd (L6 (L1 (vT 7 1)) (vB false)) (vN n) (L1 (vB false))))) [A3, (some (.box zdp [(.p (.bool false))])), A3, (some (.clo z11 [] [(vT 2 0)])), (some (.lp 43 A7 [(.i (.i (.o .h))), (.o (.o (.i .h)))] z12 z13 .busy)), A9, (some (.box z10 A2)), (some (.box zl A6))])) (some (.box zl [(cJ (c e 0)), (cJ (c e 1))])))) (.c (.p (.ipt 2 (S.val c k)))))) (.nd (L5 (vT 0 0) (L3 (L1 (.c (.ref 3))))) (vS 2 n c) (L6 (L3 (L1 (vS 2 n c))) (vT 1 0))))) [(cJ (c k 0)), (cJ (c k 1))])) (L1 (vJ (Int.tmod ((e : Int) + (1 : Int)) (n : Int)))))) (vJ ((k : Int) + (1 : Int))))) (some (.box zw [(cS 2 n c)])))) [(cJ (c e 0)), (cJ (c e 1)), (cJ (c nx 0)), (cJ (c nx 1))])) (.nd (.nd (L6 (L1 (vB false)) (vB true)) (vB false) (L6 (L1 (vJ ((((c nx 0) - (c e 0)) * ((c k 1) - (c e 1))) - (((c nx 1) - (c e 1)) * ((c k 0) - (c e 0)))))) (vN k))) (vN e) (L4 (L6 (L1 (vT 7 0)) (vN k)) (L1 (vN n))))) = (ex (cs hbs) (fu + 60) 6 z5k ⟨za [(.o .h, .c (.pt 0 0)), (.i .h, .c (.pt 1 0)), (.i (.o .h), .c (.pt 6 0)), (.o (.o .h), .c (cJ e)), (.i (.o (.i .h)), .c (cS 2 n c)), (.o (.i (.i .h)), .c (cJ n)), (.i (.i (.i .h)), .c (cJ k))], (H71 n (S.val c) .busy ++ [some (.box zl [.p (.int .i64 (c e 0)), .p (.int .i64 (c e 1))]), some (.box z10 [.p (.int .i64 (c e 0)), .p (.int .i64 (c e 1)), .p (.int .i64 (c nx 0)), .p (.int .i64 (c nx 1))])])⟩ (fun e s => .pr (Q e s))).hold2 := by kernel_rfl
end
section
variable {hbs : BsOk Tryz.prog} (hT : zq (cs hbs))
theorem z1x {n : Int} (h1 : -9223372036854775808 ≤ n) (h2 : n ≤ 9223372036854775807) : Cd.holds (.i64 n) := ⟨h1, h2⟩
theorem z1i {i n : Nat} (h : i < n) (hn : n ≤ maxLen) : Cd.holds (.i64 (((i : Nat) : Int) + 1)) := by simp [maxLen] at hn; exact ⟨by omega, by omega⟩
theorem zbe {n : Nat} (h : 0 < n) : Cd.holds (.ne ((n : Nat) : Int)) := by show ((n : Nat) : Int) ≠ 0; omega
abbrev lv71 (n : Nat) (c : S.Rows) (e k : Nat) : List (Ps × AV) := [(.o .h, .c (.pt 0 0)), (.i .h, .c (.pt 1 0)), (.i (.o .h), .c (.pt 6 0)), (.o (.o .h), .c (.p (.int .i64 e))), (.i (.o (.i .h)), .c (.p (.isl 2 n (S.val c)))), (.o (.i (.i .h)), .c (.p (.int .i64 n))), (.i (.i (.i .h)), .c (.p (.int .i64 k)))]
abbrev H71b (n : Nat) (c : S.Rows) (e nx : Nat) : Heap := H71 n (S.val c) .busy ++ [some (.box zl [.p (.int .i64 (c e 0)), .p (.int .i64 (c e 1))]), some (.box z10 [.p (.int .i64 (c e 0)), .p (.int .i64 (c e 1)), .p (.int .i64 (c nx 0)), .p (.int .i64 (c nx 1))])]
theorem zqp (fu n e nx : Nat) (c : S.Rows) (hn : n ≤ maxLen) (hc : S.cor n c = true) (he : e < n) (hnx : nx = S.nxt n e) : ∀ (k : Nat) (st : St), k ≤ n → Has st (lv71 n c e k) (H71b n c e nx) →
    zd (ex (cs hbs) (fu + 60)) 6 z5k st (.br (S.from_ (S.cvxAt n c e) n k) (.e (.exit 2) ⟨.lf, H71b n c e nx⟩) (.e .ret ⟨.lf, H71b n c e nx⟩)) :=
  z2d (σ := Nat) (lv71 n c e) (fun _ => H71b n c e nx) (fun k => k ≤ n) (fun k => n - k)
    (fun k => .br (S.from_ (S.cvxAt n c e) n k) (.e (.exit 2) ⟨.lf, H71b n c e nx⟩) (.e .ret ⟨.lf, H71b n c e nx⟩)) (fun _ => by show 6 ≤ 7; decide) _ (fun k Q => zqq (hbs := hbs) fu n k e nx c Q) fun k hk K hL X hX => by
      subst hnx
      have go : ∀ st, k < n → S.cvxAt n c e k = true → Has st (lv71 n c e (k + 1)) (H71b n c e (S.nxt n e)) → X st := fun st hlt ee hh => by
        refine hX (k + 1) st (by omega) (by omega) hh ?_
        rw [S.from_step hlt, ee, Bool.true_and] at hL
        exact hL
      refine brP (fun h1 => ?_) fun h1 => ?_
      · have hlt : k < n := by simpa using h1
        have e1 : Int.tmod ((e : Int) + 1) (n : Int) = (S.nxt n e : Int) := S.nxt_tmod (by omega)
        have hk1 := S.from_iff.1 hc k (Nat.zero_le _) hlt
        simp only [S.corAt, Bool.and_eq_true, S.inB_iff] at hk1
        obtain ⟨b1, b2, b3, b4, b5, b6⟩ := S.sd_in (w := c k 0) (m := c k 1) hc he (by omega) (by omega) (by omega) (by omega)
        refine cdP (zi hlt) (brP (fun h2 => cdP (z1i hlt hn) ?_) fun h2 => cdP (z1i he hn) (cdP (zbe (by omega)) (brP (fun h3 => cdP (z1i hlt hn) ?_) fun h3 => cdP ?_ (cdP ?_ (cdP ?_ (cdP ?_ (cdP ?_ (cdP ?_ (cdP ?_ (brP (fun h4 => ?_) fun h4 => cdP (z1i hlt hn) ?_)))))))))) <;> try exact z1x (by omega) (by omega)
        · refine go _ hlt ?_ (.cons (by kernel_rfl) rfl (.cons (by kernel_rfl) rfl (.cons (by kernel_rfl) rfl (.cons (by kernel_rfl) rfl (.cons (by kernel_rfl) rfl (.cons (by kernel_rfl) rfl (.cons (by kernel_rfl) rfl (.nil (ex := [_]) rfl rfl))))))))
          have : k = e := by have h2 := eq_of_beq h2; omega
          simp [S.cvxAt, this]
        · refine go _ hlt ?_ (.cons (by kernel_rfl) rfl (.cons (by kernel_rfl) rfl (.cons (by kernel_rfl) rfl (.cons (by kernel_rfl) rfl (.cons (by kernel_rfl) rfl (.cons (by kernel_rfl) rfl (.cons (by kernel_rfl) rfl (.nil (ex := [_]) rfl rfl))))))))
          have : k = S.nxt n e := by rw [e1] at h3; have h3 := eq_of_beq h3; omega
          simp [S.cvxAt, ← this]
        · have n1 : ¬ k = e := by have h2 := ne_of_beq_false h2; omega
          have n2 : ¬ k = S.nxt n e := by rw [e1] at h3; have h3 := ne_of_beq_false h3; omega
          have n3 : ¬ 0 < S.sd n c e (c k 0) (c k 1) := by
            simp only [decide_eq_true_eq] at h4
            unfold S.sd; omega
          have ee : S.cvxAt n c e k = false := by simp [S.cvxAt, n1, n2, n3]
          rw [S.from_step hlt, ee, Bool.false_and] at hL
          exact Has.out (l := []) (.nil (ex := [_]) rfl rfl) (by show 6 ≤ 7; decide) hL
        · refine go _ hlt ?_ (.cons (by kernel_rfl) rfl (.cons (by kernel_rfl) rfl (.cons (by kernel_rfl) rfl (.cons (by kernel_rfl) rfl (.cons (by kernel_rfl) rfl (.cons (by kernel_rfl) rfl (.cons (by kernel_rfl) rfl (.nil (ex := [_]) rfl rfl))))))))
          have n3 : 0 < S.sd n c e (c k 0) (c k 1) := by
            simp only [decide_eq_false_iff_not] at h4
            unfold S.sd; omega
          simp [S.cvxAt, n3]
      · have hlt : n ≤ k := by simpa using h1
        rw [S.from_end hlt] at hL
        exact Has.out (l := []) (.nil (ex := []) rfl rfl) (by show 6 ≤ 7; decide) hL
abbrev z10n (n : Nat) (c : S.Rows) (i : Nat) : List (Ps × AV) := [(.h, .c (.ref 4)), (.o .h, .c (.pt 2 0)), (.o (.i .h), .c (.p (.isl 2 n (S.val c)))), (.i (.i .h), .c (.p (.int .i64 n))), (.o (.o (.o .h)), .c (.p (.int .i64 i)))]
theorem zmi (fu n : Nat) (c : S.Rows) (hn : n ≤ maxLen) (hc : S.cor n c = true) : ∀ (i : Nat) (st : St), i ≤ n → Has st (z10n n c i) (H71 n (S.val c) .ready) →
    zd (ex (cs hbs) (fu + 11 + 60)) 5 z17 st (.br (S.from_ (S.cvxRow n c) n i) (.e (.exit 0) ⟨.lf, H71 n (S.val c) .ready⟩) (.e .ret ⟨.lf, H71 n (S.val c) (.done .ret)⟩)) :=
  z2d (σ := Nat) (z10n n c) (fun _ => H71 n (S.val c) .ready) (fun i => i ≤ n) (fun i => n - i)
    (fun i => .br (S.from_ (S.cvxRow n c) n i) (.e (.exit 0) ⟨.lf, H71 n (S.val c) .ready⟩) (.e .ret ⟨.lf, H71 n (S.val c) (.done .ret)⟩)) (fun _ => Nat.le_refl _) _ (fun i Q => zmj (hbs := hbs) (fu + 11) n i c Q) fun i hi K hL X hX => by
      refine brP (fun h1 => ?_) fun h1 => ?_
      · have hlt : i < n := by simpa using h1
        have e1 : Int.tmod ((i : Int) + 1) (n : Int) = (S.nxt n i : Int) := S.nxt_tmod (by omega)
        have e2 : (Int.tmod ((i : Int) + 1) (n : Int)).toNat = S.nxt n i := by rw [e1]; rfl
        have hx : S.nxt n i < n := S.nxt_lt (by omega)
        refine cdP (zi hlt) (cdP (z1i hlt hn) (cdP (zbe (by omega)) (cdP (by rw [e1]; exact zi hx) ⟨zqp fu n i _ c hn hc hlt e2 0 _ (Nat.zero_le _) (.cons (by kernel_rfl) rfl (.cons (by kernel_rfl) rfl (.cons (by kernel_rfl) rfl (.cons (by kernel_rfl) rfl (.cons (by kernel_rfl) rfl (.cons (by kernel_rfl) rfl (.cons (by kernel_rfl) rfl (.nil (ex := []) rfl rfl)))))))), brP (fun h2 => cdP (z1i hlt hn) ?_) fun h2 => ?_⟩)))
        · refine hX (i + 1) _ (by omega) (by omega) (.cons (by kernel_rfl) rfl (.cons (by kernel_rfl) rfl (.cons (by kernel_rfl) rfl (.cons (by kernel_rfl) rfl (.cons (by kernel_rfl) rfl (.nil (ex := [_, _]) rfl rfl)))))) ?_
          have e : S.cvxRow n c i = true := h2
          rw [S.from_step hlt, e, Bool.true_and] at hL
          exact hL
        · have e : S.cvxRow n c i = false := h2
          rw [S.from_step hlt, e, Bool.false_and] at hL
          exact Has.out (l := []) (.nil (ex := [_, _]) rfl rfl) (Nat.le_refl _) hL
      · have hlt : n ≤ i := by simpa using h1
        rw [S.from_end hlt] at hL
        exact Has.out (l := []) (.nil (ex := []) rfl rfl) (Nat.le_refl _) hL
include hT in
theorem zqr (n : Nat) (c : S.Rows) (hn : n ≤ maxLen) (hc : S.cor n c = true) : z8 (cs hbs) zae [.c (.p (.isl 2 n (S.val c)))] (vB (S.cvx n c)) [] :=
  zo hT (F := z5x) rfl (zqs n c _) ⟨zmi 921 n c hn hc 0 _ (Nat.zero_le _) (.cons (by kernel_rfl) rfl (.cons (by kernel_rfl) rfl (.cons (by kernel_rfl) rfl (.cons (by kernel_rfl) rfl (.cons (by kernel_rfl) rfl (.nil (ex := []) rfl rfl)))))), brP (fun h => zj h) fun h => zj h⟩
include hT in
theorem zfn (n : Nat) (c : S.Rows) (hn : n ≤ maxLen) : z8 (cs hbs) z6n [.c (.p (.isl 2 n (S.val c)))] (vB (S.corners n c)) [] :=
  zo hT (F := z35) rfl (zg4 n c _) ⟨z1k hT _ _ _, brP (fun h1 => ⟨zg1 hT 934 n c hn 0 _ (Nat.zero_le _) (.cons (by kernel_rfl) rfl (.cons (by kernel_rfl) rfl (.cons (by kernel_rfl) rfl (.cons (by kernel_rfl) rfl (.nil (ex := []) rfl rfl))))), brP (fun h2 => ⟨zqr hT n c hn h2, brP (fun h3 => zj (by show (S.inB 3 n 12 && S.cor n c && S.cvx n c) = true; rw [h1, h3, show S.cor n c = true from h2]; rfl)) fun h3 => zj (by show (S.inB 3 n 12 && S.cor n c && S.cvx n c) = false; rw [h3]; simp)⟩) fun h2 => zj (by show (S.inB 3 n 12 && S.cor n c && S.cvx n c) = false; rw [show S.cor n c = false from h2]; simp)⟩) fun h1 => zj (by show (S.inB 3 n 12 && S.cor n c && S.cvx n c) = false; rw [h1]; simp)⟩
end
section
variable {hbs : BsOk Tryz.prog}
theorem zjn (e m t l : Int) (nc : Nat) (c : S.Rows) (ns : Nat) (s : S.Rows) (ta tm r : Int) (nf : Nat) (f : S.Rows) (Q : AV → Heap → Prop) :
 ((fun (A0 : Heap) => ((fun (A1 : AV) => (((z8 (cs hbs) z1d [(.ag [(cJ 1), (cJ 20000)]), (vJ e)] (.c (.p (.bool (S.inB (1 : Int) e (20000 : Int))))) []) ∧
 (BrP (S.inB (1 : Int) e (20000 : Int))
 ((z8 (cs hbs) z1d [(.ag [(cJ (-(20000000 : Int))), (cJ 20000000)]), (vJ m)] (.c (.p (.bool (S.inB (-(20000000 : Int)) m (20000000 : Int))))) []) ∧
 (BrP (S.inB (-(20000000 : Int)) m (20000000 : Int))
 ((z8 (cs hbs) z1d [A1, (vJ t)] (.c (.p (.bool (S.inB (0 : Int) t (20000 : Int))))) []) ∧
 (BrP (S.inB (0 : Int) t (20000 : Int))
 ((z8 (cs hbs) z1d [A1, (vJ l)] (.c (.p (.bool (S.inB (0 : Int) l (20000 : Int))))) []) ∧
 (BrP (S.inB (0 : Int) l (20000 : Int))
 ((z8 (cs hbs) z1d [A1, (vJ r)] (.c (.p (.bool (S.inB (0 : Int) r (20000 : Int))))) []) ∧
 (BrP (S.inB (0 : Int) r (20000 : Int))
 ((z8 (cs hbs) z6n [(vS 2 nc c)] (.c (.p (.bool (S.corners nc c)))) []) ∧
 (BrP (S.corners nc c)
 (BrP (decide ((ns : Int) ≤ (8 : Int)))
 (BrP (decide ((nf : Int) ≤ (2 : Int)))
 ((z8 (cs hbs) z26 [(.c (.p (.isl 2 1 (fun x14 => (fun x15 => (List.getD [(.int .i64 ta), (.int .i64 tm)] ((x14 * 2) + x15) .npt))))))] (.c (.p (.bool (S.stn 1 (S.num (fun x14 => (fun x15 => (List.getD [(.int .i64 ta), (.int .i64 tm)] ((x14 * 2) + x15) .npt)))))))) []) ∧
 (BrP (S.stn 1 (S.num (fun x14 => (fun x15 => (List.getD [(.int .i64 ta), (.int .i64 tm)] ((x14 * 2) + x15) .npt)))))
 ((z8 (cs hbs) z26 [(vS 2 ns s)] (.c (.p (.bool (S.stn ns s)))) []) ∧
 (BrP (S.stn ns s)
 ((z8 (cs hbs) z26 [(vS 2 nf f)] (.c (.p (.bool (S.stn nf f)))) []) ∧
 (BrP (S.stn nf f)
 (Q (vB true) A0)
 (Q (vB false) A0)))
 (Q (vB false) A0)))
 (Q (vB false) A0)))
 (Q (vB false) A0))
 (Q (vB false) A0))
 (Q (vB false) A0)))
 (Q (vB false) A0)))
 (Q (vB false) A0)))
 (Q (vB false) A0)))
 (Q (vB false) A0)))
 (Q (vB false) A0))))) (.ag [(cJ 0), (cJ 20000)]))) [(bP e m t l nc c ns s ta tm r nf f)]) = (ex (cs hbs) 1000 0 z80 ⟨ofL 0 [.ag (plC e m t l nc (S.val c) ns (S.val s) ta tm r nf (S.val f))] .lf, []⟩ (endK z2c.rs (fun r H => .pr (Q r H)) fun _ _ => .no)).hold2 := by kernel_rfl
theorem zsm (e m t l : Int) (nc : Nat) (c : S.Rows) (ns : Nat) (s : S.Rows) (ta tm r : Int) (nf : Nat) (f : S.Rows) (ed : Nat) (w mo : Int) (Q : AV → Heap → Prop) :
 ((CdP (.ne (nc : Int))
 (CdP (.rng (Int.tmod (ed : Int) (nc : Int)) nc)
 (CdP (.i64 ((ed : Int) + (1 : Int)))
 (CdP (.ne (nc : Int))
 (CdP (.rng (Int.tmod ((ed : Int) + (1 : Int)) (nc : Int)) nc)
 (CdP (.i64 ((c (Int.toNat (Int.tmod ((ed : Int) + (1 : Int)) (nc : Int))) 0) - (c (Int.toNat (Int.tmod (ed : Int) (nc : Int))) 0)))
 (CdP (.i64 (mo - (c (Int.toNat (Int.tmod (ed : Int) (nc : Int))) 1)))
 (CdP (.i64 (((c (Int.toNat (Int.tmod ((ed : Int) + (1 : Int)) (nc : Int))) 0) - (c (Int.toNat (Int.tmod (ed : Int) (nc : Int))) 0)) * (mo - (c (Int.toNat (Int.tmod (ed : Int) (nc : Int))) 1))))
 (CdP (.i64 ((c (Int.toNat (Int.tmod ((ed : Int) + (1 : Int)) (nc : Int))) 1) - (c (Int.toNat (Int.tmod (ed : Int) (nc : Int))) 1)))
 (CdP (.i64 (w - (c (Int.toNat (Int.tmod (ed : Int) (nc : Int))) 0)))
 (CdP (.i64 (((c (Int.toNat (Int.tmod ((ed : Int) + (1 : Int)) (nc : Int))) 1) - (c (Int.toNat (Int.tmod (ed : Int) (nc : Int))) 1)) * (w - (c (Int.toNat (Int.tmod (ed : Int) (nc : Int))) 0))))
 (CdP (.i64 ((((c (Int.toNat (Int.tmod ((ed : Int) + (1 : Int)) (nc : Int))) 0) - (c (Int.toNat (Int.tmod (ed : Int) (nc : Int))) 0)) * (mo - (c (Int.toNat (Int.tmod (ed : Int) (nc : Int))) 1))) - (((c (Int.toNat (Int.tmod ((ed : Int) + (1 : Int)) (nc : Int))) 1) - (c (Int.toNat (Int.tmod (ed : Int) (nc : Int))) 1)) * (w - (c (Int.toNat (Int.tmod (ed : Int) (nc : Int))) 0)))))
 (Q (vJ ((((c (Int.toNat (Int.tmod ((ed : Int) + (1 : Int)) (nc : Int))) 0) - (c (Int.toNat (Int.tmod (ed : Int) (nc : Int))) 0)) * (mo - (c (Int.toNat (Int.tmod (ed : Int) (nc : Int))) 1))) - (((c (Int.toNat (Int.tmod ((ed : Int) + (1 : Int)) (nc : Int))) 1) - (c (Int.toNat (Int.tmod (ed : Int) (nc : Int))) 1)) * (w - (c (Int.toNat (Int.tmod (ed : Int) (nc : Int))) 0))))) [(bP e m t l nc c ns s ta tm r nf f), (some (.box zl [(cJ (c (Int.toNat (Int.tmod (ed : Int) (nc : Int))) 0)), (cJ (c (Int.toNat (Int.tmod (ed : Int) (nc : Int))) 1))])), (some (.box zl [(cJ (c (Int.toNat (Int.tmod ((ed : Int) + (1 : Int)) (nc : Int))) 0)), (cJ (c (Int.toNat (Int.tmod ((ed : Int) + (1 : Int)) (nc : Int))) 1))]))])))))))))))))) = (ex (cs hbs) 1000 0 zh3 ⟨ofL 0 [.ag (plC e m t l nc (S.val c) ns (S.val s) ta tm r nf (S.val f)), .c (cJ ed), .c (cJ w), .c (cJ mo)] .lf, []⟩ (endK z6l.rs (fun r H => .pr (Q r H)) fun _ _ => .no)).hold2 := by kernel_rfl
theorem zq7 (e m t l : Int) (nc : Nat) (c : S.Rows) (ns : Nat) (s : S.Rows) (ta tm r : Int) (nf : Nat) (f : S.Rows) (Q : AV → Heap → Prop) :
 ((fun (A0 : Heap) => ((fun (A1 : Tr) => ((fun (A2 : Tr) => (((z8 (cs hbs) z15 [(vJ e), (vJ 1), (vJ 20000)] (.c (.p (.bool (S.inB (1 : Int) e (20000 : Int))))) []) ∧
 (BrP (S.inB (1 : Int) e (20000 : Int))
 ((z8 (cs hbs) z15 [(vJ m), (vJ (-(20000000 : Int))), (vJ 20000000)] (.c (.p (.bool (S.inB (-(20000000 : Int)) m (20000000 : Int))))) []) ∧
 (BrP (S.inB (-(20000000 : Int)) m (20000000 : Int))
 ((z8 (cs hbs) z15 [(vJ t), (vJ 0), (vJ 20000)] (.c (.p (.bool (S.inB (0 : Int) t (20000 : Int))))) []) ∧
 (BrP (S.inB (0 : Int) t (20000 : Int))
 ((z8 (cs hbs) z15 [(vJ l), (vJ 0), (vJ 20000)] (.c (.p (.bool (S.inB (0 : Int) l (20000 : Int))))) []) ∧
 (BrP (S.inB (0 : Int) l (20000 : Int))
 ((z8 (cs hbs) z15 [(vJ r), (vJ 0), (vJ 20000)] (.c (.p (.bool (S.inB (0 : Int) r (20000 : Int))))) []) ∧
 (BrP (S.inB (0 : Int) r (20000 : Int))
 ((z8 (cs hbs) z15 [(vN nc), (vJ 3), (vJ 12)] (.c (.p (.bool (S.inB (3 : Int) (nc : Int) (12 : Int))))) []) ∧
 (BrP (S.inB (3 : Int) (nc : Int) (12 : Int))
 (BrP (decide ((ns : Int) > (8 : Int)))
 (Q (vB false) A0)
 ((z8 (cs hbs) z4g [(.ag [(cJ ta), (cJ tm)])] (.c (.p (.bool (S.stOk ta tm)))) []) ∧
 (BrP (S.stOk ta tm)
 (BrP (decide ((nf : Int) > (2 : Int)))
 (Q (vB false) A0)
 ((zd (ex (cs hbs) 994) 0 z5d ⟨(.nd (.nd (.nd (L4 (.nd (L1 (vT 0 8)) (vB true) (L1 (vB false))) (.nd (L1 (vN nc)) (vB false) (L1 (vB false)))) (vJ 0) (.nd (.nd (L1 (vB false)) (vT 0 2) (L1 (.ag [(cJ ta), (cJ tm)]))) (vB false) (.nd (L1 (vB false)) (vB true) (L1 (vB false))))) (vT 0 0) (L4 (.nd (.nd (L1 (vB true)) (vB false) (L1 (vB false))) (vJ e) (.nd (L1 (vB false)) (vT 0 3) (L1 (vS 2 nf f)))) (.nd (.nd (L1 (vT 0 4)) (vB true) (L1 (vB false))) (vT 0 1) (L6 (L1 (vS 2 ns s)) (vB false))))) (.ag (kP e m t l nc c ns s ta tm r nf f)) (.nd (L4 (.nd (.nd (L1 (vJ r)) (vB false) (L1 (vB false))) (vT 0 0) (.nd (L1 (vB true)) (vB false) (L1 (vT 0 9)))) (.nd (.nd (L1 (vB false)) (vJ t) (L1 (vB true))) (vB false) (.nd (L1 (vT 0 5)) (vB false) (L1 (vB false))))) (vB false) (L4 (.nd (.nd (L1 (vB false)) (vB false) (L1 (vT 0 6))) (vB true) (.nd (L1 (vB false)) (vJ l) (L1 (vN nf)))) (.nd (.nd (L1 (vS 2 nc c)) (vB false) (L1 (vB false))) (vJ m) (L6 (L1 (vN ns)) (vB false)))))), A0⟩ (.br (S.from_ (S.stnAt s) ns 0) (.e (.exit 0) ⟨A2, A0⟩) (.e .ret ⟨A1, A0⟩))) ∧
 (BrP (S.from_ (S.stnAt s) ns 0)
 ((zd (ex (cs hbs) 993) 0 z5e ⟨(L4 (L1 (vT 0 0)) (L3 (L1 (vJ 0)))), A0⟩ (.br (S.from_ (S.stnAt f) nf 0) (.e (.exit 2) ⟨A2, A0⟩) (.e .ret ⟨A1, A0⟩))) ∧
 (BrP (S.from_ (S.stnAt f) nf 0)
 ((zd (ex (cs hbs) 992) 0 z5f ⟨(L3 (L5 (vT 0 0) (L1 (vJ 0)))), A0⟩ (.br (S.from_ (S.corAt c) nc 0) (.e (.exit 4) ⟨A2, A0⟩) (.e .ret ⟨A1, A0⟩))) ∧
 (BrP (S.from_ (S.corAt c) nc 0)
 ((zd (ex (cs hbs) 991) 0 z5h ⟨(L4 (L1 (vT 0 0)) (L2 (L1 (vJ 0)))), A0⟩ (.br (S.from_ (S.cvxRow nc c) nc 0) (.e (.exit 6) ⟨A2, A0⟩) (.e .ret ⟨A1, A0⟩))) ∧
 (BrP (S.from_ (S.cvxRow nc c) nc 0)
 (Q (vB true) A0)
 (Q (vB false) A0)))
 (Q (vB false) A0)))
 (Q (vB false) A0)))
 (Q (vB false) A0))))
 (Q (vB false) A0))))
 (Q (vB false) A0)))
 (Q (vB false) A0)))
 (Q (vB false) A0)))
 (Q (vB false) A0)))
 (Q (vB false) A0)))
 (Q (vB false) A0))))) (L3 (L1 (vT 0 0))))) (L2 (L1 (vB false))))) [(bP e m t l nc c ns s ta tm r nf f)]) = (ex (cs hbs) 1000 0 zf1 ⟨ofL 0 [.ag (plC e m t l nc (S.val c) ns (S.val s) ta tm r nf (S.val f))] .lf, []⟩ (endK z5v.rs (fun r H => .pr (Q r H)) fun _ _ => .no)).hold2 := by kernel_rfl
theorem znv (fu i : Nat) (e m t l : Int) (nc : Nat) (c : S.Rows) (ns : Nat) (s : S.Rows) (ta tm r : Int) (nf : Nat) (f : S.Rows) (Q : AX → St → Prop) :
 ((fun (A0 : Tr) => ((fun (A1 : Tr) => ((fun (A2 : Heap) => ((fun (A3 : Tr) => ((fun (A4 : Tr) => ((fun (A5 : Tr) => ((fun (A6 : Tr) => ((BrP (decide ((i : Int) < (ns : Int)))
 (CdP (.rng (i : Int) ns)
 ((z8 (cs hbs) z4g [(.ag [(cJ (s i 0)), (cJ (s i 1))])] (.c (.p (.bool (S.stOk (s i 0) (s i 1))))) []) ∧
 (BrP (S.stOk (s i 0) (s i 1))
 (CdP (.i64 ((i : Int) + (1 : Int)))
 (Q .normal ⟨(L4 (.nd (.nd A4 (vJ ((i : Int) + (1 : Int))) (L3 (L3 (L3 (L1 (vJ ((i : Int) + (1 : Int)))))))) (vT 0 0) (L4 (L4 A3 A3) (L4 A1 (L2 (L1 (vN i)))))) (L4 A0 (L4 (L4 (L3 (L3 (L1 (vN i)))) A5) A6))), A2⟩))
 (Q .ret ⟨(L4 (.nd (L6 A4 (vN i)) (vT 0 0) (L4 (L4 A3 A5) (L4 A1 (L2 (L1 (vN i)))))) (.nd A0 (vB false) (L4 (L2 A3) A6))), A2⟩))))
 (Q (.exit 0) ⟨(L4 (.nd (L6 (L3 A1) (vN i)) (vT 0 0) (L4 (L3 A5) (L2 (L2 (L1 (vN i)))))) (L4 (L3 (L3 (L3 (L3 (L1 (vN ns)))))) (L2 (L2 (L2 (L1 (vT 0 5))))))), A2⟩)))) (L4 (L3 (L3 (L1 (vN i)))) (L2 (L1 (vT 0 5)))))) (L3 (L3 (L1 (vB false)))))) (L4 A1 (L3 (L3 (L1 (.c (.p (.ipt 2 (S.val s i)))))))))) (L3 (L3 (L1 (vB true)))))) [(bP e m t l nc c ns s ta tm r nf f)])) (L3 (L3 (L1 (vS 2 ns s)))))) (L4 (L4 (L3 (L3 (L1 (vN ns)))) (L3 (L3 (L1 (.ag [(cJ (s i 0)), (cJ (s i 1))]))))) (L3 (L3 (L3 (L1 (vT 0 5))))))) = (ex (cs hbs) (fu + 60) 0 z5d ⟨za [(.o .h, .c (.pt 0 0)), (.o (.o .h), .c (cJ i))], [some (.box zp (plC e m t l nc (S.val c) ns (S.val s) ta tm r nf (S.val f)))]⟩ (fun e s => .pr (Q e s))).hold2 := by kernel_rfl
theorem znw (fu i : Nat) (e m t l : Int) (nc : Nat) (c : S.Rows) (ns : Nat) (s : S.Rows) (ta tm r : Int) (nf : Nat) (f : S.Rows) (Q : AX → St → Prop) :
 ((fun (A2 : Heap) => ((fun (A3 : Tr) => ((fun (A4 : Tr) => ((fun (A5 : Tr) => ((fun (A1 : Tr) => ((fun (A6 : Tr) => ((fun (A0 : Tr) => ((fun (A7 : Tr) => ((BrP (decide ((i : Int) < (nf : Int)))
 (CdP (.rng (i : Int) nf)
 ((z8 (cs hbs) z4g [(.ag [(cJ (f i 0)), (cJ (f i 1))])] (.c (.p (.bool (S.stOk (f i 0) (f i 1))))) []) ∧
 (BrP (S.stOk (f i 0) (f i 1))
 (CdP (.i64 ((i : Int) + (1 : Int)))
 (Q .normal ⟨(L4 (.nd (L4 (L4 A4 A4) (L4 (L2 A5) (L3 A3))) (vT 0 0) (L4 (L3 (L2 (L3 (L1 (vJ ((i : Int) + (1 : Int))))))) A1)) (L4 (.nd (L4 (L2 A3) A7) (vJ ((i : Int) + (1 : Int))) (L4 (L2 A3) (L3 A6))) A0)), A2⟩))
 (Q .ret ⟨(L4 (.nd (L4 (L4 A4 A7) (L4 (L2 A5) (L3 A3))) (vT 0 0) (L2 A1)) (.nd (.nd (L2 A4) (vN i) (L4 (L2 A3) (L3 A6))) (vB false) A0)), A2⟩))))
 (Q (.exit 2) ⟨(L4 (.nd (L4 (L3 A7) (L2 (L3 A3))) (vT 0 0) (L2 (L2 (L3 A5)))) (L4 (L5 (vN i) (L2 (L3 A6))) (L2 (L2 (L3 (L3 (L1 (vN nf)))))))), A2⟩)))) (L2 (L3 (L1 (vB false)))))) (L4 (L3 (L2 A6)) (L4 (L2 (L3 (L1 (.ag [(cJ (f i 0)), (cJ (f i 1))])))) (L3 (L3 (L1 (vN nf)))))))) (L3 (L1 (vT 0 9))))) (L4 (L2 (L3 (L1 (.c (.p (.ipt 2 (S.val f i))))))) (L3 A5)))) (L3 (L1 (vS 2 nf f))))) (L2 (L3 (L1 (vB true)))))) (L3 (L1 (vN i))))) [(bP e m t l nc c ns s ta tm r nf f)]) = (ex (cs hbs) (fu + 60) 0 z5e ⟨za [(.o .h, .c (.pt 0 0)), (.i (.o .h), .c (cJ i))], [some (.box zp (plC e m t l nc (S.val c) ns (S.val s) ta tm r nf (S.val f)))]⟩ (fun e s => .pr (Q e s))).hold2 := by kernel_rfl
theorem znx (fu i : Nat) (e m t l : Int) (nc : Nat) (c : S.Rows) (ns : Nat) (s : S.Rows) (ta tm r : Int) (nf : Nat) (f : S.Rows) (Q : AX → St → Prop) :
 ((fun (A0 : Tr) => ((fun (A1 : Tr) => ((fun (A2 : Tr) => ((fun (A3 : Tr) => ((fun (A4 : Tr) => ((fun (A5 : Tr) => ((fun (A6 : Tr) => ((fun (A7 : Heap) => ((fun (A8 : Tr) => ((fun (A9 : Tr) => ((fun (A10 : Tr) => ((fun (A11 : Tr) => ((BrP (decide ((i : Int) < (nc : Int)))
 (CdP (.rng (i : Int) nc)
 ((z8 (cs hbs) z15 [(vJ (c i 0)), (vJ 0), (vJ 20000)] (.c (.p (.bool (S.inB (0 : Int) (c i 0) (20000 : Int))))) []) ∧
 (BrP (S.inB (0 : Int) (c i 0) (20000 : Int))
 (CdP (.rng (i : Int) nc)
 ((z8 (cs hbs) z15 [(vJ (c i 1)), (vJ (-(20000000 : Int))), (vJ 20000000)] (.c (.p (.bool (S.inB (-(20000000 : Int)) (c i 1) (20000000 : Int))))) []) ∧
 (BrP (S.inB (-(20000000 : Int)) (c i 1) (20000000 : Int))
 (CdP (.i64 ((i : Int) + (1 : Int)))
 (Q .normal ⟨(L4 (.nd (L4 (L4 (L4 (L2 (L1 (vJ ((i : Int) + (1 : Int))))) A4) (L3 A3)) (L4 (L3 A0) (L4 (L2 (L1 (vN i))) (L3 A6)))) (vT 0 0) (.nd (L4 (L4 (L2 A6) A3) (L4 A8 A10)) (vJ ((i : Int) + (1 : Int))) A2)) (L4 (L4 (L4 (L4 A8 A3) (L3 A3)) (L4 A1 (L4 A0 A11))) (L4 A9 (L4 (L3 A4) (L4 (L2 (L1 (vJ (c i 1)))) A10))))), A7⟩))
 (Q .ret ⟨(L4 (.nd (L4 (L4 (L2 A3) (L3 A3)) (L4 (L3 A0) (L4 (L2 (L1 (vN i))) (L3 A6)))) (vT 0 0) (.nd (L4 (L4 (L2 A6) A4) (L4 A8 A10)) (vN i) A2)) (.nd (L4 (L4 (L4 A8 A4) (L3 A3)) (L4 A1 (L4 A0 A11))) (vB false) (L4 A9 (L4 (L3 A4) (L3 (L2 (L1 (vJ (c i 1))))))))), A7⟩))))
 (Q .ret ⟨(L4 (.nd (L4 (L4 (L2 A5) (L3 A4)) (L4 (L3 A0) (L4 A5 (L3 A6)))) (vT 0 0) (.nd (L4 (L4 (L2 A6) A4) (L4 A5 A10)) (vN i) (L4 (L3 (L2 (L1 (vJ (c i 0))))) (L4 A5 (L3 (L1 (vB true))))))) (.nd (L4 (L4 (L4 A8 A5) (L3 A4)) (L4 A1 (L4 A5 A11))) (vB false) (L4 (L4 (L3 (L2 (L1 (vN i)))) (L4 A5 (L3 (L1 (vT 0 4))))) (L4 (L3 A3) (L3 A5))))), A7⟩))))
 (Q (.exit 4) ⟨(L4 (.nd (L2 (L2 (L2 (L3 A6)))) (vT 0 0) (.nd (L2 (L2 A10)) (vN i) (L2 (L2 (L3 (L1 (vB false))))))) (L4 (L2 (L2 (L2 A11))) (L3 (L2 (L2 (L3 (L1 (vT 0 4)))))))), A7⟩)))) (L3 (L1 (vN nc))))) (L3 (L1 (vN i))))) (L4 (L3 (L2 (L1 (vN i)))) (L4 (L2 A6) (L3 (L1 (vT 0 4))))))) (L2 (L1 (vT 0 4))))) [(bP e m t l nc c ns s ta tm r nf f)])) (L1 (vS 2 nc c)))) (L2 (L1 (.tp []))))) (L2 (L1 (vB true))))) (L2 (L1 (vB false))))) (L4 (L3 (L2 (L1 (vJ (c i 0))))) (L4 (L2 (L1 (.c (.p (.ipt 1 (fun x16 => (.int .i64 (c i (1 + x16))))))))) (L3 (L1 (vB true))))))) (L3 (L2 (L1 (.c (.p (.ipt 2 (fun x16 => (.int .i64 (c i (0 + x16)))))))))))) (L2 (L1 (.c (.p (.ipt 2 (S.val c i))))))) = (ex (cs hbs) (fu + 60) 0 z5f ⟨za [(.o .h, .c (.pt 0 0)), (.o (.i .h), .c (cJ i))], [some (.box zp (plC e m t l nc (S.val c) ns (S.val s) ta tm r nf (S.val f)))]⟩ (fun e s => .pr (Q e s))).hold2 := by kernel_rfl
theorem zny (fu i : Nat) (e m t l : Int) (nc : Nat) (c : S.Rows) (ns : Nat) (s : S.Rows) (ta tm r : Int) (nf : Nat) (f : S.Rows) (Q : AX → St → Prop) :
 ((fun (A0 : Heap) => ((BrP (decide ((i : Int) < (nc : Int)))
 ((zd (ex (cs hbs) (fu + 54)) 0 z5g ⟨(L4 (.nd (L4 (L1 (vJ 0)) (L3 (L2 (L2 (L1 (vT 0 4)))))) (vT 0 0) (L2 (L3 (L2 (L2 (L1 (vN nc))))))) (L4 (L2 (L3 (L2 (L2 (L1 (vS 2 nc c)))))) (.nd (L3 (L2 (L2 (L1 (vN i))))) (vN i) (L3 (L2 (L2 (L1 (vB true)))))))), A0⟩ (.br (S.from_ (S.cvxAt nc c i) nc 0) (.e (.exit 8) ⟨(L4 (L1 (vT 0 0)) (L2 (L1 (vN i)))), A0⟩) (.e .ret ⟨(L2 (L1 (vB false))), A0⟩))) ∧
 (BrP (S.from_ (S.cvxAt nc c i) nc 0)
 (CdP (.i64 ((i : Int) + (1 : Int)))
 (Q .normal ⟨(L4 (L6 (L3 (L2 (L2 (L2 (L1 (vN i)))))) (vT 0 0)) (L4 (L3 (L2 (L2 (L2 (L1 (vJ ((i : Int) + (1 : Int)))))))) (L1 (vJ ((i : Int) + (1 : Int)))))), A0⟩))
 (Q .ret ⟨(L2 (L1 (vB false))), A0⟩)))
 (Q (.exit 6) ⟨(L4 (.nd (L2 (L3 (L2 (L2 (L1 (vT 0 4)))))) (vT 0 0) (L2 (L3 (L2 (L2 (L1 (vN nc))))))) (L4 (L2 (L3 (L2 (L2 (L1 (vS 2 nc c)))))) (.nd (L3 (L2 (L2 (L1 (vN i))))) (vN i) (L3 (L2 (L2 (L1 (vB false)))))))), A0⟩)))) [(bP e m t l nc c ns s ta tm r nf f)]) = (ex (cs hbs) (fu + 60) 0 z5h ⟨za [(.o .h, .c (.pt 0 0)), (.i (.i .h), .c (cJ i))], [some (.box zp (plC e m t l nc (S.val c) ns (S.val s) ta tm r nf (S.val f)))]⟩ (fun e s => .pr (Q e s))).hold2 := by kernel_rfl
theorem znz (fu i ed : Nat) (e m t l : Int) (nc : Nat) (c : S.Rows) (ns : Nat) (s : S.Rows) (ta tm r : Int) (nf : Nat) (f : S.Rows) (Q : AX → St → Prop) :
 ((fun (A0 : Tr) => ((fun (A2 : Tr) => ((fun (A4 : Tr) => ((fun (A5 : Tr) => ((fun (A6 : Heap) => ((fun (A7 : Tr) => ((fun (A8 : AV) => ((fun (A9 : Tr) => ((fun (A10 : Tr) => ((fun (A11 : Tr) => ((fun (A1 : Tr) => ((fun (A12 : Tr) => ((fun (A13 : AV) => ((fun (A14 : Tr) => ((fun (A15 : Tr) => ((fun (A16 : Tr) => ((fun (A3 : Tr) => ((fun (A17 : Tr) => ((BrP (decide ((i : Int) < (nc : Int)))
 (BrP ((i : Int) != (ed : Int))
 (CdP (.i64 ((ed : Int) + (1 : Int)))
 (CdP (.ne (nc : Int))
 (BrP ((i : Int) != (Int.tmod ((ed : Int) + (1 : Int)) (nc : Int)))
 (CdP (.rng (i : Int) nc)
 (CdP (.rng (i : Int) nc)
 ((z8 (cs hbs) z6o [A13, (vN ed), (vJ (c i 0)), (vJ (c i 1))] (vJ (S.sd nc c ed (c i 0) (c i 1))) []) ∧
 (BrP (decide ((S.sd nc c ed (c i 0) (c i 1)) ≤ (0 : Int)))
 (Q .ret ⟨(L4 (.nd (L4 (.nd (L2 A5) (vN i) (L4 A11 (L3 (L3 A7)))) A17) (vT 0 0) (L4 A14 (L4 (L4 A5 (L3 (L3 (L1 (vJ (c i 0)))))) (L4 A2 (L4 (L3 (L1 (vB true))) (L1 (vB true))))))) (.nd A1 (vB false) (.nd A3 (vN ed) (L4 (L4 A12 A11) (L4 (L3 (L3 (L1 A13))) A2))))), A6⟩)
 (CdP (.i64 ((i : Int) + (1 : Int)))
 (Q .normal ⟨(L4 (.nd (L4 (.nd (L4 (L3 (L3 (L1 A8))) A5) A8 (L4 A11 (L3 (L3 A7)))) A17) (vT 0 0) (L4 A14 (L4 (L4 A5 (L3 (L3 (L1 (vJ (c i 0)))))) (L4 A2 (L4 A4 (L1 (vB true))))))) (L4 A1 (.nd A3 (vN ed) (L4 (L4 A12 A11) (L4 (L3 (L3 (L1 A13))) (L4 A4 (L1 (vN i)))))))), A6⟩))))))
 (CdP (.i64 ((i : Int) + (1 : Int)))
 (Q .normal ⟨(L4 (.nd (L4 (.nd (L4 (L3 (L3 (L1 A8))) (L3 A0)) A8 (L4 A11 (L3 A0))) (L4 (L4 A2 (L3 A0)) (L4 (L3 A4) (L4 A0 A7)))) (vT 0 0) (L4 (L4 (L4 A5 (L3 A0)) (L4 (L3 (L3 (L1 (vN nc)))) (L4 A0 (L1 (vN i))))) (L4 (L4 A5 (L3 A0)) (L4 (L3 A4) (L4 A0 (L1 (vB true))))))) (L4 (L4 (L4 (L4 A10 (L3 A0)) (L4 (L3 (L3 A7)) (L3 A0))) (L4 (L4 A10 (L3 A0)) (L4 (L3 A4) (L4 A0 (L1 (vN nc)))))) (.nd (L4 (L4 A2 (L3 A0)) (L4 A16 (L4 A0 (L1 (vT 0 4))))) (vN ed) (L4 (L4 A12 (L3 A0)) (L4 (L3 A0) (L4 A4 (L1 (vN i)))))))), A6⟩)))))
 (CdP (.i64 ((i : Int) + (1 : Int)))
 (Q .normal ⟨(L4 (.nd (L4 (.nd (L4 (L3 (L3 (L1 A8))) (L3 A0)) A8 A15) (L4 (L4 (L3 A4) (L3 A0)) (L4 (L3 A0) (L4 A0 A7)))) (vT 0 0) (L4 (L4 (L4 A5 (L3 A0)) (L4 (L3 A0) (L4 A0 (L1 (vN i))))) (L4 A15 (L4 (L3 A4) (L4 A0 (L1 (vB true))))))) (L4 (L4 (L4 (L4 A10 (L3 A0)) A15) (L4 A15 (L4 (L3 A4) (L4 A0 (L1 (vN nc)))))) (.nd (L4 (L4 (L3 A4) (L3 A0)) (L4 (L3 A0) (L4 A0 (L1 (vT 0 4))))) (vN ed) (L4 A15 (L4 (L3 A0) (L4 A4 (L1 (vN i)))))))), A6⟩)))
 (Q (.exit 8) ⟨(L4 (.nd (L4 (L1 (vN i)) (L2 (L2 (L2 A7)))) (vT 0 0) (L4 (L2 (L2 (L2 (L1 (vN i))))) (L2 (L2 (L2 (L1 (vB false))))))) (L4 (L2 (L2 (L2 (L2 (L1 (vN nc)))))) (L6 (L2 (L2 (L2 (L1 (vT 0 4))))) (vN ed)))), A6⟩)))) (L4 (L4 A2 (L3 A9)) (L4 A2 (L4 (L3 (L1 (vJ (c i 1)))) A7))))) (L4 (L4 A2 A10) (L4 A16 (L4 (L3 (L1 (.c (.p (.ipt 1 (fun x17 => (.int .i64 (c i (1 + x17))))))))) (L1 (vT 0 4))))))) (L3 (L3 (L1 (vJ (Int.tmod ((ed : Int) + (1 : Int)) (nc : Int)))))))) (L4 (L3 A0) (L3 A0)))) (L4 (L4 A5 (L3 (L3 A7))) (L4 (L3 (L3 (L1 (vN nc)))) (L4 A9 (L1 (vN i))))))) (.ag (kP e m t l nc c ns s ta tm r nf f)))) (L3 (L3 (L1 (vJ ((ed : Int) + (1 : Int)))))))) (L4 (L4 (L4 A10 A11) (L4 (L3 (L3 A7)) A10)) (L4 (L4 A10 (L3 (L3 (L1 (.c (.p (.ipt 2 (fun x17 => (.int .i64 (c i (0 + x17))))))))))) (L4 A2 (L4 (L3 (L1 (vJ (S.sd nc c ed (c i 0) (c i 1))))) (L1 (vN nc)))))))) (L3 (L3 (L1 (vT 0 4)))))) (L3 (L3 (L1 (vN i)))))) (L3 (L1 (.c (.p (.ipt 2 (S.val c i)))))))) (vJ ((i : Int) + (1 : Int))))) (L1 (vS 2 nc c)))) [(bP e m t l nc c ns s ta tm r nf f)])) (L3 (L3 (L1 (vN ed)))))) (L3 (L1 (vB false))))) (L3 (L3 (L1 (vB true)))))) (L3 (L1 (.tp [])))) = (ex (cs hbs) (fu + 60) 0 z5g ⟨za [(.o .h, .c (.pt 0 0)), (.i (.i .h), .c (cJ ed)), (.o (.o (.o .h)), .c (cJ i))], [some (.box zp (plC e m t l nc (S.val c) ns (S.val s) ta tm r nf (S.val f)))]⟩ (fun e s => .pr (Q e s))).hold2 := by kernel_rfl
end
end Go.Ab.B
namespace Go.Ab
theorem z120 {H : Heap} {a b : Int} (h : b = a) : frzA H (vI .i64 a) = some (vI .i64 b) := by subst h; rfl
end Go.Ab
namespace Go.Ab.B
open Go.Proofs
section
variable {hbs : BsOk Tryz.prog} (hT : zq (cs hbs))
include hT
theorem fc_load_stationsFine' (ta tm : Int) : z8 (cs hbs) z26 [.c (.p (.isl 2 1 (fun i => (fun j => (List.getD [(.int .i64 ta), (.int .i64 tm)] ((i * 2) + j) .npt)))))] (vB (S.stOk ta tm)) [] := by
  have h := (z5j hT 1 (S.num fun i => (fun j => (List.getD [(.int .i64 ta), (.int .i64 tm)] ((i * 2) + j) .npt))) (by decide)).like (args := [.c (.p (.isl 2 1 (fun i => (fun j => (List.getD [(.int .i64 ta), (.int .i64 tm)] ((i * 2) + j) .npt)))))])
    ⟨.inr ⟨rfl, rfl, fun i j hi hj => by
      have : i = 0 := by omega
      subst this
      match j, hj with
      | 0, _ => rfl
      | 1, _ => rfl⟩, trivial⟩
  have e : S.stn 1 (S.num fun i => (fun j => (List.getD [(.int .i64 ta), (.int .i64 tm)] ((i * 2) + j) .npt))) = S.stOk ta tm := by
    show (S.stOk ta tm && true) = _
    simp
  rwa [e] at h
variable {e m t l : Int} {nc : Nat} {c : S.Rows} {ns : Nat} {s : S.Rows} {ta tm r : Int} {nf : Nat} {f : S.Rows} (hnc : nc ≤ maxLen) (hns : ns ≤ maxLen) (hnf : nf ≤ maxLen)
include hnc hns hnf
theorem zjo : z8 (cs hbs) z1w [.ag (plC e m t l nc (S.val c) ns (S.val s) ta tm r nf (S.val f))] (vB (S.plane e m t l nc c ns s ta tm r nf f)) [] := by
  have e50 : S.stn 1 (S.num fun i => (fun j => (List.getD [(.int .i64 ta), (.int .i64 tm)] ((i * 2) + j) .npt))) = S.stOk ta tm := by
    show (S.stOk ta tm && true) = _
    simp
  refine zo hT (F := z2c) rfl (zjn e m t l nc c ns s ta tm r nf f _) ?_
  refine ⟨z1k hT _ _ _, brP (fun h1 => ⟨z1k hT _ _ _, brP (fun h2 => ⟨z1k hT _ _ _, brP (fun h3 => ⟨z1k hT _ _ _, brP (fun h4 => ⟨z1k hT _ _ _, brP (fun h5 => ⟨zfn hT nc c hnc, brP (fun h6 => brP (fun h7 => brP (fun h8 => ⟨by rw [e50]; exact fc_load_stationsFine' hT ta tm, brP (fun h9 => ⟨z5j hT _ _ hns, brP (fun h10 => ⟨z5j hT _ _ hnf, brP (fun h11 => ?_) fun h11 => ?_⟩) fun h10 => ?_⟩) fun h9 => ?_⟩) fun h8 => ?_) fun h7 => ?_) fun h6 => ?_⟩) fun h5 => ?_⟩) fun h4 => ?_⟩) fun h3 => ?_⟩) fun h2 => ?_⟩) fun h1 => ?_⟩
  all_goals (try rw [e50] at h9)
  all_goals (refine zj ?_)
  all_goals (simp only [S.plane])
  all_goals (simp [*])
omit hT hns hnf in
theorem zf4 {ed : Nat} {w mo : Int} (hT : zq (cs hbs)) (hc : S.cor nc c = true) (he : ed < nc) (hw1 : -1000000 ≤ w) (hw2 : w ≤ 1000000) (hm1 : -1000000000 ≤ mo) (hm2 : mo ≤ 1000000000) :
    z8 (cs hbs) z6o [.ag (plC e m t l nc (S.val c) ns (S.val s) ta tm r nf (S.val f)), .c (.p (.int .i64 ed)), .c (.p (.int .i64 w)), .c (.p (.int .i64 mo))] (vI .i64 (S.sd nc c ed w mo)) [] := by
  refine zo hT (F := z6l) rfl (zsm e m t l nc c ns s ta tm r nf f ed w mo _) ?_
  have e1 : Int.tmod ((ed : Int) + 1) (nc : Int) = (S.nxt nc ed : Int) := S.nxt_tmod (by omega)
  have e0 : Int.tmod (ed : Int) (nc : Int) = (ed : Int) := Int.tmod_eq_of_lt (by omega) (by omega)
  have e2 : (Int.tmod ((ed : Int) + 1) (nc : Int)).toNat = S.nxt nc ed := by rw [e1]; rfl
  have e3 : (Int.tmod (ed : Int) (nc : Int)).toNat = ed := by rw [e0]; rfl
  have hx : S.nxt nc ed < nc := S.nxt_lt (by omega)
  obtain ⟨b1, b2, b3, b4, b5, b6⟩ := S.sd_in hc he hw1 hw2 hm1 hm2
  rw [e2, e3]
  refine cdP (zbe (by omega)) (cdP (by rw [e0]; exact zi he) (cdP (z1i he hnc) (cdP (zbe (by omega)) (cdP (by rw [e1]; exact zi hx) (cdP ?_ (cdP ?_ (cdP ?_ (cdP ?_ (cdP ?_ (cdP ?_ (cdP ?_ ?_)))))))))))
  all_goals first | exact z1x (by omega) (by omega) | exact z120 rfl
abbrev HP (e m t l : Int) (nc : Nat) (c : S.Rows) (ns : Nat) (s : S.Rows) (ta tm r : Int) (nf : Nat) (f : S.Rows) : Heap := [some (.box zp (plC e m t l nc (S.val c) ns (S.val s) ta tm r nf (S.val f)))]
omit hns hnf in
end
section
variable {hbs : BsOk Tryz.prog} (hT : zq (cs hbs))
variable {e m t l : Int} {nc : Nat} {c : S.Rows} {ns : Nat} {s : S.Rows} {ta tm r : Int} {nf : Nat} {f : S.Rows} (hnc : nc ≤ maxLen) (hns : ns ≤ maxLen) (hnf : nf ≤ maxLen)
include hT
theorem zor (fu : Nat) (hns : ns ≤ maxLen) : ∀ (i : Nat) (st : St), i ≤ ns → Has st [(.o .h, .c (.pt 0 0)), (.o (.o .h), .c (.p (.int .i64 i)))] (HP e m t l nc c ns s ta tm r nf f) →
    zd (ex (cs hbs) (fu + 60)) 0 z5d st (.br (S.from_ (S.stnAt s) ns i) (.e (.exit 0) ⟨za [(.o .h, .c (.pt 0 0))], HP e m t l nc c ns s ta tm r nf f⟩) (.e .ret ⟨za [(.i .h, vB false)], HP e m t l nc c ns s ta tm r nf f⟩)) :=
  z2d (σ := Nat) (fun i => [(.o .h, .c (.pt 0 0)), (.o (.o .h), .c (.p (.int .i64 i)))]) (fun _ => HP e m t l nc c ns s ta tm r nf f) (fun i => i ≤ ns) (fun i => ns - i)
    (fun i => .br (S.from_ (S.stnAt s) ns i) (.e (.exit 0) ⟨za [(.o .h, .c (.pt 0 0))], HP e m t l nc c ns s ta tm r nf f⟩) (.e .ret ⟨za [(.i .h, vB false)], HP e m t l nc c ns s ta tm r nf f⟩)) (fun _ => Nat.zero_le _) _ (fun i Q => znv (hbs := hbs) fu i e m t l nc c ns s ta tm r nf f Q) fun i hi K hL X hX => by
      refine brP (fun h1 => ?_) fun h1 => ?_
      · have hlt : i < ns := by simpa using h1
        refine cdP (zi hlt) ⟨z86 hT _ _, brP (fun h2 => cdP (z1i hlt hns) ?_) fun h2 => ?_⟩
        · refine hX (i + 1) _ (by omega) (by omega) (.cons (by kernel_rfl) rfl (.cons (by kernel_rfl) rfl (.nil (ex := []) rfl rfl))) ?_
          rw [S.from_step hlt, show S.stnAt s i = true from h2, Bool.true_and] at hL
          exact hL
        · rw [S.from_step hlt, show S.stnAt s i = false from h2, Bool.false_and] at hL
          exact Has.out (l := [(.i .h, vB false)]) (.cons (by kernel_rfl) rfl (.nil (ex := []) rfl rfl)) (Nat.zero_le _) hL
      · have hlt : ns ≤ i := by simpa using h1
        rw [S.from_end hlt] at hL
        exact Has.out (l := [(.o .h, .c (.pt 0 0))]) (.cons (by kernel_rfl) rfl (.nil (ex := []) rfl rfl)) (Nat.zero_le _) hL
theorem zos (fu : Nat) (hnf : nf ≤ maxLen) : ∀ (i : Nat) (st : St), i ≤ nf → Has st [(.o .h, .c (.pt 0 0)), (.i (.o .h), .c (.p (.int .i64 i)))] (HP e m t l nc c ns s ta tm r nf f) →
    zd (ex (cs hbs) (fu + 60)) 0 z5e st (.br (S.from_ (S.stnAt f) nf i) (.e (.exit 2) ⟨za [(.o .h, .c (.pt 0 0))], HP e m t l nc c ns s ta tm r nf f⟩) (.e .ret ⟨za [(.i .h, vB false)], HP e m t l nc c ns s ta tm r nf f⟩)) :=
  z2d (σ := Nat) (fun i => [(.o .h, .c (.pt 0 0)), (.i (.o .h), .c (.p (.int .i64 i)))]) (fun _ => HP e m t l nc c ns s ta tm r nf f) (fun i => i ≤ nf) (fun i => nf - i)
    (fun i => .br (S.from_ (S.stnAt f) nf i) (.e (.exit 2) ⟨za [(.o .h, .c (.pt 0 0))], HP e m t l nc c ns s ta tm r nf f⟩) (.e .ret ⟨za [(.i .h, vB false)], HP e m t l nc c ns s ta tm r nf f⟩)) (fun _ => Nat.zero_le _) _ (fun i Q => znw (hbs := hbs) fu i e m t l nc c ns s ta tm r nf f Q) fun i hi K hL X hX => by
      refine brP (fun h1 => ?_) fun h1 => ?_
      · have hlt : i < nf := by simpa using h1
        refine cdP (zi hlt) ⟨z86 hT _ _, brP (fun h2 => cdP (z1i hlt hnf) ?_) fun h2 => ?_⟩
        · refine hX (i + 1) _ (by omega) (by omega) (.cons (by kernel_rfl) rfl (.cons (by kernel_rfl) rfl (.nil (ex := []) rfl rfl))) ?_
          rw [S.from_step hlt, show S.stnAt f i = true from h2, Bool.true_and] at hL
          exact hL
        · rw [S.from_step hlt, show S.stnAt f i = false from h2, Bool.false_and] at hL
          exact Has.out (l := [(.i .h, vB false)]) (.cons (by kernel_rfl) rfl (.nil (ex := []) rfl rfl)) (Nat.zero_le _) hL
      · have hlt : nf ≤ i := by simpa using h1
        rw [S.from_end hlt] at hL
        exact Has.out (l := [(.o .h, .c (.pt 0 0))]) (.cons (by kernel_rfl) rfl (.nil (ex := []) rfl rfl)) (Nat.zero_le _) hL
theorem zot (fu : Nat) (hnc : nc ≤ maxLen) : ∀ (i : Nat) (st : St), i ≤ nc → Has st [(.o .h, .c (.pt 0 0)), (.o (.i .h), .c (.p (.int .i64 i)))] (HP e m t l nc c ns s ta tm r nf f) →
    zd (ex (cs hbs) (fu + 60)) 0 z5f st (.br (S.from_ (S.corAt c) nc i) (.e (.exit 4) ⟨za [(.o .h, .c (.pt 0 0))], HP e m t l nc c ns s ta tm r nf f⟩) (.e .ret ⟨za [(.i .h, vB false)], HP e m t l nc c ns s ta tm r nf f⟩)) :=
  z2d (σ := Nat) (fun i => [(.o .h, .c (.pt 0 0)), (.o (.i .h), .c (.p (.int .i64 i)))]) (fun _ => HP e m t l nc c ns s ta tm r nf f) (fun i => i ≤ nc) (fun i => nc - i)
    (fun i => .br (S.from_ (S.corAt c) nc i) (.e (.exit 4) ⟨za [(.o .h, .c (.pt 0 0))], HP e m t l nc c ns s ta tm r nf f⟩) (.e .ret ⟨za [(.i .h, vB false)], HP e m t l nc c ns s ta tm r nf f⟩)) (fun _ => Nat.zero_le _) _ (fun i Q => znx (hbs := hbs) fu i e m t l nc c ns s ta tm r nf f Q) fun i hi K hL X hX => by
      refine brP (fun h1 => ?_) fun h1 => ?_
      · have hlt : i < nc := by simpa using h1
        refine cdP (zi hlt) ⟨z28 hT _ _ _, brP (fun h2 => cdP (zi hlt) ⟨z28 hT _ _ _, brP (fun h3 => cdP (z1i hlt hnc) ?_) fun h3 => ?_⟩) fun h2 => ?_⟩
        · refine hX (i + 1) _ (by omega) (by omega) (.cons (by kernel_rfl) rfl (.cons (by kernel_rfl) rfl (.nil (ex := []) rfl rfl))) ?_
          rw [S.from_step hlt, show S.corAt c i = true by simp [S.corAt, h2, h3], Bool.true_and] at hL
          exact hL
        · rw [S.from_step hlt, show S.corAt c i = false by simp [S.corAt, h2, h3], Bool.false_and] at hL
          exact Has.out (l := [(.i .h, vB false)]) (.cons (by kernel_rfl) rfl (.nil (ex := []) rfl rfl)) (Nat.zero_le _) hL
        · rw [S.from_step hlt, show S.corAt c i = false by simp [S.corAt, h2], Bool.false_and] at hL
          exact Has.out (l := [(.i .h, vB false)]) (.cons (by kernel_rfl) rfl (.nil (ex := []) rfl rfl)) (Nat.zero_le _) hL
      · have hlt : nc ≤ i := by simpa using h1
        rw [S.from_end hlt] at hL
        exact Has.out (l := [(.o .h, .c (.pt 0 0))]) (.cons (by kernel_rfl) rfl (.nil (ex := []) rfl rfl)) (Nat.zero_le _) hL
abbrev zy1 (ed i : Nat) : List (Ps × AV) := [(.o .h, .c (.pt 0 0)), (.i (.i .h), .c (.p (.int .i64 ed))), (.o (.o (.o .h)), .c (.p (.int .i64 i)))]
theorem zou (fu ed : Nat) (hnc : nc ≤ maxLen) (hc : S.cor nc c = true) (he : ed < nc) : ∀ (i : Nat) (st : St), i ≤ nc → Has st (zy1 ed i) (HP e m t l nc c ns s ta tm r nf f) →
    zd (ex (cs hbs) (fu + 60)) 0 z5g st (.br (S.from_ (S.cvxAt nc c ed) nc i) (.e (.exit 8) ⟨za [(.o .h, .c (.pt 0 0)), (.i (.i .h), .c (.p (.int .i64 ed)))], HP e m t l nc c ns s ta tm r nf f⟩) (.e .ret ⟨za [(.i .h, vB false)], HP e m t l nc c ns s ta tm r nf f⟩)) :=
  z2d (σ := Nat) (zy1 ed) (fun _ => HP e m t l nc c ns s ta tm r nf f) (fun i => i ≤ nc) (fun i => nc - i)
    (fun i => .br (S.from_ (S.cvxAt nc c ed) nc i) (.e (.exit 8) ⟨za [(.o .h, .c (.pt 0 0)), (.i (.i .h), .c (.p (.int .i64 ed)))], HP e m t l nc c ns s ta tm r nf f⟩) (.e .ret ⟨za [(.i .h, vB false)], HP e m t l nc c ns s ta tm r nf f⟩)) (fun _ => Nat.zero_le _) _ (fun i Q => znz (hbs := hbs) fu i ed e m t l nc c ns s ta tm r nf f Q) fun i hi K hL X hX => by
      have go : ∀ st, i < nc → S.cvxAt nc c ed i = true → Has st (zy1 ed (i + 1)) (HP e m t l nc c ns s ta tm r nf f) → X st := fun st hlt ee hh => by
        refine hX (i + 1) st (by omega) (by omega) hh ?_
        rw [S.from_step hlt, ee, Bool.true_and] at hL
        exact hL
      refine brP (fun h1 => ?_) fun h1 => ?_
      · have hlt : i < nc := by simpa using h1
        have e1 : Int.tmod ((ed : Int) + 1) (nc : Int) = (S.nxt nc ed : Int) := S.nxt_tmod (by omega)
        have hk1 := S.from_iff.1 hc i (Nat.zero_le _) hlt
        simp only [S.corAt, Bool.and_eq_true, S.inB_iff] at hk1
        refine brP (fun h2 => cdP (z1i he hnc) (cdP (zbe (by omega)) (brP (fun h3 => cdP (zi hlt) (cdP (zi hlt) ⟨zf4 hnc hT hc he (by omega) (by omega) (by omega) (by omega), brP (fun h4 => ?_) fun h4 => cdP (z1i hlt hnc) ?_⟩)) fun h3 => cdP (z1i hlt hnc) ?_))) fun h2 => cdP (z1i hlt hnc) ?_
        · have n1 : ¬ i = ed := by simp at h2; omega
          have n2 : ¬ i = S.nxt nc ed := by rw [e1] at h3; simp at h3; omega
          have n3 : ¬ 0 < S.sd nc c ed (c i 0) (c i 1) := by simp only [decide_eq_true_eq] at h4; omega
          have ee : S.cvxAt nc c ed i = false := by simp [S.cvxAt, n1, n2, n3]
          rw [S.from_step hlt, ee, Bool.false_and] at hL
          exact Has.out (l := [(.i .h, vB false)]) (.cons (by kernel_rfl) rfl (.nil (ex := []) rfl rfl)) (Nat.zero_le _) hL
        · refine go _ hlt ?_ (.cons (by kernel_rfl) rfl (.cons (by kernel_rfl) rfl (.cons (by kernel_rfl) rfl (.nil (ex := []) rfl rfl))))
          have n3 : 0 < S.sd nc c ed (c i 0) (c i 1) := by simp only [decide_eq_false_iff_not] at h4; omega
          simp [S.cvxAt, n3]
        · refine go _ hlt ?_ (.cons (by kernel_rfl) rfl (.cons (by kernel_rfl) rfl (.cons (by kernel_rfl) rfl (.nil (ex := []) rfl rfl))))
          have : i = S.nxt nc ed := by rw [e1] at h3; simp at h3; omega
          simp [S.cvxAt, ← this]
        · refine go _ hlt ?_ (.cons (by kernel_rfl) rfl (.cons (by kernel_rfl) rfl (.cons (by kernel_rfl) rfl (.nil (ex := []) rfl rfl))))
          have : i = ed := by simp at h2; omega
          simp [S.cvxAt, this]
      · have hlt : nc ≤ i := by simpa using h1
        rw [S.from_end hlt] at hL
        exact Has.out (l := [(.o .h, .c (.pt 0 0)), (.i (.i .h), .c (.p (.int .i64 ed)))]) (.cons (by kernel_rfl) rfl (.cons (by kernel_rfl) rfl (.nil (ex := []) rfl rfl))) (Nat.zero_le _) hL
theorem zov (fu : Nat) (hnc : nc ≤ maxLen) (hc : S.cor nc c = true) : ∀ (i : Nat) (st : St), i ≤ nc → Has st [(.o .h, .c (.pt 0 0)), (.i (.i .h), .c (.p (.int .i64 i)))] (HP e m t l nc c ns s ta tm r nf f) →
    zd (ex (cs hbs) (fu + 6 + 60)) 0 z5h st (.br (S.from_ (S.cvxRow nc c) nc i) (.e (.exit 6) ⟨za [(.o .h, .c (.pt 0 0))], HP e m t l nc c ns s ta tm r nf f⟩) (.e .ret ⟨za [(.i .h, vB false)], HP e m t l nc c ns s ta tm r nf f⟩)) :=
  z2d (σ := Nat) (fun i => [(.o .h, .c (.pt 0 0)), (.i (.i .h), .c (.p (.int .i64 i)))]) (fun _ => HP e m t l nc c ns s ta tm r nf f) (fun i => i ≤ nc) (fun i => nc - i)
    (fun i => .br (S.from_ (S.cvxRow nc c) nc i) (.e (.exit 6) ⟨za [(.o .h, .c (.pt 0 0))], HP e m t l nc c ns s ta tm r nf f⟩) (.e .ret ⟨za [(.i .h, vB false)], HP e m t l nc c ns s ta tm r nf f⟩)) (fun _ => Nat.zero_le _) _ (fun i Q => zny (hbs := hbs) (fu + 6) i e m t l nc c ns s ta tm r nf f Q) fun i hi K hL X hX => by
      refine brP (fun h1 => ?_) fun h1 => ?_
      · have hlt : i < nc := by simpa using h1
        refine ⟨zou hT fu i hnc hc hlt 0 _ (Nat.zero_le _) (.cons (by kernel_rfl) rfl (.cons (by kernel_rfl) rfl (.cons (by kernel_rfl) rfl (.nil (ex := []) rfl rfl)))), brP (fun h2 => cdP (z1i hlt hnc) ?_) fun h2 => ?_⟩
        · refine hX (i + 1) _ (by omega) (by omega) (.cons (by kernel_rfl) rfl (.cons (by kernel_rfl) rfl (.nil (ex := []) rfl rfl))) ?_
          rw [S.from_step hlt, show S.cvxRow nc c i = true from h2, Bool.true_and] at hL
          exact hL
        · rw [S.from_step hlt, show S.cvxRow nc c i = false from h2, Bool.false_and] at hL
          exact Has.out (l := [(.i .h, vB false)]) (.cons (by kernel_rfl) rfl (.nil (ex := []) rfl rfl)) (Nat.zero_le _) hL
      · have hlt : nc ≤ i := by simpa using h1
        rw [S.from_end hlt] at hL
        exact Has.out (l := [(.o .h, .c (.pt 0 0))]) (.cons (by kernel_rfl) rfl (.nil (ex := []) rfl rfl)) (Nat.zero_le _) hL
include hnc hns hnf
theorem zqc : z8 (cs hbs) zab [.ag (plC e m t l nc (S.val c) ns (S.val s) ta tm r nf (S.val f))] (vB (S.plane e m t l nc c ns s ta tm r nf f)) [] := by
  refine zo hT (F := z5v) rfl (zq7 e m t l nc c ns s ta tm r nf f _) ?_
  refine ⟨z28 hT _ _ _, brP (fun h1 => ⟨z28 hT _ _ _, brP (fun h2 => ⟨z28 hT _ _ _, brP (fun h3 => ⟨z28 hT _ _ _, brP (fun h4 => ⟨z28 hT _ _ _, brP (fun h5 => ⟨z28 hT _ _ _, brP (fun h6 => brP (fun h7 => ?_) (fun h7 => ⟨z86 hT _ _, brP (fun h8 => brP (fun h9 => ?_) fun h9 =>
    ⟨zor hT 934 hns 0 _ (Nat.zero_le _) (.cons (by kernel_rfl) rfl (.cons (by kernel_rfl) rfl (.nil (ex := []) rfl rfl))), brP (fun h10 => ⟨zos hT 933 hnf 0 _ (Nat.zero_le _) (.cons (by kernel_rfl) rfl (.cons (by kernel_rfl) rfl (.nil (ex := []) rfl rfl))), brP (fun h11 =>
      ⟨zot hT 932 hnc 0 _ (Nat.zero_le _) (.cons (by kernel_rfl) rfl (.cons (by kernel_rfl) rfl (.nil (ex := []) rfl rfl))), brP (fun h12 => ⟨zov hT 925 hnc h12 0 _ (Nat.zero_le _) (.cons (by kernel_rfl) rfl (.cons (by kernel_rfl) rfl (.nil (ex := []) rfl rfl))), brP (fun h13 => ?_) fun h13 => ?_⟩) fun h12 => ?_⟩) fun h11 => ?_⟩) fun h10 => ?_⟩) fun h8 => ?_⟩)) fun h6 => ?_⟩) fun h5 => ?_⟩) fun h4 => ?_⟩) fun h3 => ?_⟩) fun h2 => ?_⟩) fun h1 => ?_⟩
  all_goals (refine zj ?_)
  all_goals (simp only [S.plane, S.corners, S.cor, S.cvx, S.stn])
  all_goals (try simp only [decide_eq_true_eq, decide_eq_false_iff_not] at h7)
  all_goals (try have h7 : decide ((ns : Int) ≤ 8) = false := decide_eq_false (by omega))
  all_goals (try have h7 : decide ((ns : Int) ≤ 8) = true := decide_eq_true (by omega))
  all_goals (try simp only [decide_eq_true_eq, decide_eq_false_iff_not] at h9)
  all_goals (try have h9 : decide ((nf : Int) ≤ 2) = false := decide_eq_false (by omega))
  all_goals (try have h9 : decide ((nf : Int) ≤ 2) = true := decide_eq_true (by omega))
  all_goals (simp [*])
end
end Go.Ab.B
namespace Go.Ab.S
def endOf (b : Bool) (lo hi : Int) : Int := match b with | true => hi | false => lo
def ends (c : Rows) (k : Nat) (b : Bool) : Rows := fun i _ => endOf b (c i k) (c i (k + 1))
def span (l h lo hi : Int) : Bool := inB lo l h && decide (h ≤ hi)
def itAt (c : Rows) (st : Int) (i : Nat) : Bool := inB 0 (c i 0) (st - 1) && span (c i 1) (c i 2) 0 20000
def itemsOk (n : Nat) (c : Rows) (st : Int) : Bool := from_ (itAt c st) n 0 && decide ((n : Int) ≤ 12)
def wtAt (w : Rows) (i : Nat) : Bool := span (w i 0) (w i 1) 0 120000
def point (ns nf n : Nat) (it : Rows) (lo hi : Int) (m : Nat) (wt : Rows) : Bool :=
  from_ (wtAt wt) m 0 && (itemsOk n it ns && span lo hi (-120000) 140000 && decide ((m : Int) = (nf : Int)))
def sumR (f : Nat → Int) : Nat → Nat → Int
  | 0, _ => 0
  | k + 1, i => f i + sumR f k (i + 1)
def itW (c : Rows) (i : Nat) : Int := c i 0
def itM (c it s : Rows) (i : Nat) : Int := c i 0 * s (it i 0).toNat 0
def wtM (w f : Rows) (i : Nat) : Int := w i 0 * f i 0
def wgt (e tank : Int) (n : Nat) (c : Rows) (m : Nat) (w : Rows) : Int := e + tank + sumR (itW c) n 0 + sumR (itW w) m 0
def mom (mo tank ta : Int) (n : Nat) (c it s : Rows) (m : Nat) (w f : Rows) : Int := mo + tank * ta + sumR (itM c it s) n 0 + sumR (wtM w f) m 0
def eqAt (a b : Rows) (i : Nat) : Bool := a i 0 == b i 0
def same (n : Nat) (a : Rows) (m : Nat) (b : Rows) : Bool := decide ((n : Int) = (m : Int)) && from_ (eqAt a b) n 0
def sameCase (n : Nat) (a : Rows) (x : Int) (m : Nat) (w : Rows) (n' : Nat) (a' : Rows) (x' : Int) (m' : Nat) (w' : Rows) : Bool := same n a n' a' && ((x == x') && same m w m' w')
def atR (it c : Rows) (st : Int) (i : Nat) : Int := match it i 0 == st with | true => c i 0 | false => 0
def many (nc ns nf : Nat) (ru : Int) : Int := match ru == 2 with
  | true => ns
  | false => match ru == 4 with
    | true => nf
    | false => match ru == 6 with
      | true => nc
      | false => 1
def brk (e mo t l : Int) (nc : Nat) (c : Rows) (ns : Nat) (s : Rows) (ta tm r : Int) (nf : Nat) (f it : Rows) (ld : Bool) (n : Nat) (cc : Rows) (tk : Int) (m : Nat) (ww : Rows) (ru ix : Int) : Bool := match ru == 2 with
  | true => inB 0 ix ((ns : Int) - 1) && decide (s ix.toNat 1 < sumR (atR it cc ix) n 0)
  | false => match ru == 3 with
    | true => (ix == 0) && decide (tm < tk)
    | false => match ru == 4 with
      | true => inB 0 ix ((nf : Int) - 1) && decide (f ix.toNat 1 < ww ix.toNat 0)
      | false => match ru == 5 with
        | true => (ix == 0) && (match ld with | true => decide (l < wgt e tk n cc m ww) | false => decide (t < wgt e tk n cc m ww))
        | false => match ru == 6 with
          | true => inB 0 ix ((nc : Int) - 1) && decide (sd nc c ix.toNat (wgt e tk n cc m ww) (mom mo tk ta n cc it s m ww f) < 0)
          | false => match ru == 7 with
            | true => (ix == 0) && (ld && decide (tk < r))
            | false => false
end Go.Ab.S
namespace Go.Ab.B
open Go.Proofs
def ptC (n : Nat) (it : Nat → Nat → PV) (lo hi : Int) (m : Nat) (wt : Nat → Nat → PV) (ld : Bool) : List CV :=
  [.p (.isl 3 n it), .p (.int .i64 lo), .p (.int .i64 hi), .p (.isl 2 m wt), .p (.bool ld)]
def zve : List AV → Option (AV × Heap)
  | [.ag [.p (.int .i64 lo), .p (.int .i64 hi)], .c (.p (.bool b))] => some (vI .i64 (S.endOf b lo hi), [])
  | _ => none
def zvf : List AV → Option (AV × Heap)
  | [.ag [.p (.isl 3 n it), .p (.int .i64 lo), .p (.int .i64 hi), .p (.isl 2 m wt), _], .c (.p (.bool b))] =>
    some (.ag [.p (.isl 1 n (S.val (S.ends (S.num it) 1 b))), .p (.int .i64 (S.endOf b lo hi)), .p (.isl 1 m (S.val (S.ends (S.num wt) 0 b)))], [])
  | _ => none
def ztc : List AV → Option (AV × Heap)
  | [.ag [.p (.int .i64 l), .p (.int .i64 h)], .c (.p (.int .i64 lo)), .c (.p (.int .i64 hi))] => some (vB (S.span l h lo hi), [])
  | _ => none
def zr2 : List AV → Option (AV × Heap)
  | [.c (.p (.isl 3 n f)), .c (.p (.int .i64 st))] => some (vB (S.itemsOk n (S.num f) st), [])
  | _ => none
def zdt : List AV → Option (AV × Heap)
  | [.ag [_, _, _, _, _, .p (.isl 2 ns _), _, _, _, .p (.isl 2 nf _)], .ag [.p (.isl 3 n it), .p (.int .i64 lo), .p (.int .i64 hi), .p (.isl 2 m wt), _]] =>
    some (vB (S.point ns nf n (S.num it) lo hi m (S.num wt)), [])
  | _ => none
def zp4 : List AV → Option (AV × Heap)
  | [.ag [.p (.int .i64 e), .p (.int .i64 mo), _, _, _, .p (.isl 2 _ s), .p (.int .i64 ta), _, _, .p (.isl 2 _ f)], .ag [.p (.isl 3 _ it), _, _, _, _], .ag [.p (.isl 1 n c), .p (.int .i64 tk), .p (.isl 1 m w)]] =>
    some (.tp [vI .i64 (S.wgt e tk n (S.num c) m (S.num w)), vI .i64 (S.mom mo tk ta n (S.num c) (S.num it) (S.num s) m (S.num w) (S.num f))], [])
  | _ => none
def zw8 : List AV → Option (AV × Heap)
  | [.ag [.p (.isl 3 _ it), _, _, _, _], .ag [.p (.isl 1 n c), _, _], .c (.p (.int .i64 st))] => some (vI .i64 (S.sumR (S.atR (S.num it) (S.num c) st) n 0), [])
  | _ => none
def ztd : List AV → Option (AV × Heap)
  | [.ag [_, _, _, _, .p (.isl 2 nc _), .p (.isl 2 ns _), _, _, _, .p (.isl 2 nf _)], .c (.p (.int .i64 ru))] => some (vI .i64 (S.many nc ns nf ru), [])
  | _ => none
def zp5 : List AV → Option (AV × Heap)
  | [.ag [.p (.int .i64 e), .p (.int .i64 mo), .p (.int .i64 t), .p (.int .i64 l), .p (.isl 2 nc c), .p (.isl 2 ns s), .p (.int .i64 ta), .p (.int .i64 tm), .p (.int .i64 r), .p (.isl 2 nf f)], .ag [.p (.isl 3 _ it), _, _, _, .p (.bool ld)], .ag [.p (.isl 1 n cc), .p (.int .i64 tk), .p (.isl 1 m ww)], .c (.p (.int .i64 ru)), .c (.p (.int .i64 ix))] =>
    some (vB (S.brk e mo t l nc (S.num c) ns (S.num s) ta tm r nf (S.num f) (S.num it) ld n (S.num cc) tk m (S.num ww) ru ix), [])
  | _ => none
def zmp : List AV → Option (AV × Heap)
  | [.ag [.p (.int .i64 l), .p (.int .i64 h)], .ag [.p (.int .i64 lo), .p (.int .i64 hi)]] => some (vB (S.span l h lo hi), [])
  | _ => none
def zkh : List AV → Option (AV × Heap)
  | [.c (.p (.int .i64 st)), .c (.p (.isl 3 n f))] => some (vB (S.itemsOk n (S.num f) st), [])
  | _ => none
def zte : List AV → Option (AV × Heap)
  | [.c (.p (.isl 1 n a)), .c (.p (.isl 1 m b))] => some (vB (S.same n (S.num a) m (S.num b)), [])
  | _ => none
def zki : List AV → Option (AV × Heap)
  | [.ag [.p (.isl 1 n a), .p (.int .i64 x), .p (.isl 1 m w)], .ag [.p (.isl 1 n' a'), .p (.int .i64 x'), .p (.isl 1 m' w')]] => some (vB (S.sameCase n (S.num a) x m (S.num w) n' (S.num a') x' m' (S.num w')), [])
  | _ => none
def Sp3 (f : Nat) (l : List AV) : Option (AV × Heap) := bif Nat.beq f zt then zve l else bif Nat.beq f z7i then zvf l else bif Nat.beq f z6i then ztc l else bif Nat.beq f za7 then zr2 l else bif Nat.beq f zac then zdt l else bif Nat.beq f z1m then zp4 l else bif Nat.beq f ze7 then zw8 l else bif Nat.beq f zbk then ztd l else bif Nat.beq f z99 then zp5 l else bif Nat.beq f z44 then zmp l else bif Nat.beq f z7x then zkh l else bif Nat.beq f z3o then zdt l else bif Nat.beq f z8l then zte l else bif Nat.beq f z81 then zki l else Sp f l
def zii (j n0 : Nat) (s : St) : Option zr :=
  match s.h.drop n0, Tr.get (.o .h) s.t with
  | b0 :: b1 :: b2 :: rest, .c (.p (.bool b)) => match b0, b2 with
    | some (.box _ [.p (.isl 3 n it), _, _, .p (.isl 2 m wt), _]), some (.box tc [x0, x1, _]) =>
      match j with
      | 1 => some (.e (.exit 0) ⟨za [(.i .h, .c (.pt n0 0)), (.i (.o .h), .c (.pt (n0 + 1) 0)), (.o (.i .h), .c (.pt (n0 + 2) 0)), (.o .h, .c (.p (.bool b)))], s.h.take n0 ++ [b0, b1, some (.box tc [.sl (n0 + 3) 0 n, .p (.int .i64 0), .p .nsl]), some (.arr 1 zk n (S.val (S.ends (S.num it) 1 b)) [])]⟩)
      | _ => match rest with
        | b3 :: _ => some (.e (.exit 2) ⟨za [(.i .h, .c (.pt n0 0)), (.i (.o .h), .c (.pt (n0 + 1) 0)), (.o (.i .h), .c (.pt (n0 + 2) 0)), (.o .h, .c (.p (.bool b)))], s.h.take n0 ++ [b0, b1, some (.box tc [x0, x1, .sl (n0 + 4) 0 m]), b3, some (.arr 1 zk m (S.val (S.ends (S.num wt) 0 b)) [])]⟩)
        | _ => none
    | _, _ => none
  | _, _ => none
def zr3 (s : St) : Option zr :=
  match Tr.get .h s.t, Tr.get (.o .h) s.t, Tr.get (.o (.i .h)) s.t with
  | .c (.p (.isl 3 n f)), .c (.p (.int .i64 st)), .c (.p (.int .i64 i)) => some (.br (S.from_ (S.itAt (S.num f) st) n i.toNat) (.e (.exit 0) ⟨za [(.h, .c (.p (.isl 3 n f)))], []⟩) (.e .ret ⟨za [(.i (.o .h), vB false)], []⟩))
  | _, _, _ => none
def zr4 (s : St) : Option zr :=
  match s.h, Tr.get (.o (.i .h)) s.t with
  | [b0, b1], .c (.p (.int .i64 i)) => match b1 with
    | some (.box _ [_, _, _, .p (.isl 2 m wt), _]) => some (.br (S.from_ (S.wtAt (S.num wt)) m i.toNat) (.e (.exit 0) ⟨za [(.i .h, .c (.pt 0 0)), (.o (.o .h), .c (.pt 1 0))], [b0, b1]⟩) (.e .ret ⟨za [(.i (.o .h), vB false)], []⟩))
    | _ => none
  | _, _ => none
def zcq (j : Nat) (s : St) : Option zr :=
  match s.h, Tr.get (.i (.o (.o .h))) s.t, Tr.get (.o (.i (.o .h))) s.t with
  | [b0, b1, b2], .c (.p (.int .i64 W)), .c (.p (.int .i64 M)) => match b0, b1, b2 with
    | some (.box _ [_, _, _, _, _, .p (.isl 2 _ st), _, _, _, .p (.isl 2 _ f)]), some (.box _ [.p (.isl 3 _ it), _, _, _, _]), some (.box _ [.p (.isl 1 n c), _, .p (.isl 1 m w)]) =>
      match j with
      | 1 => match Tr.get (.i (.i (.o .h))) s.t with
        | .c (.p (.int .i64 i)) => some (.e (.exit 0) ⟨za [(.o (.o .h), .c (.pt 0 0)), (.i (.o .h), .c (.pt 1 0)), (.o (.i .h), .c (.pt 2 0)), (.i (.o (.o .h)), vI .i64 (W + S.sumR (S.itW (S.num c)) (n - i.toNat) i.toNat)), (.o (.i (.o .h)), vI .i64 (M + S.sumR (S.itM (S.num c) (S.num it) (S.num st)) (n - i.toNat) i.toNat))], [b0, b1, b2]⟩)
        | _ => none
      | _ => match Tr.get (.o (.o (.i .h))) s.t with
        | .c (.p (.int .i64 i)) => some (.e (.exit 2) ⟨za [(.i (.o (.o .h)), vI .i64 (W + S.sumR (S.itW (S.num w)) (m - i.toNat) i.toNat)), (.o (.i (.o .h)), vI .i64 (M + S.sumR (S.wtM (S.num w) (S.num f)) (m - i.toNat) i.toNat))], []⟩)
        | _ => none
    | _, _, _ => none
  | _, _, _ => none
def zw9 (s : St) : Option zr :=
  match s.h, Tr.get (.o (.o (.o .h))) s.t, Tr.get (.i (.o (.o .h))) s.t, Tr.get (.i .h) s.t with
  | [b0, b1], .c (.p (.int .i64 N)), .c (.p (.int .i64 i)), .c (.p (.int .i64 st)) => match b0, b1 with
    | some (.box _ [.p (.isl 3 _ it), _, _, _, _]), some (.box _ [.p (.isl 1 n c), _, _]) => some (.e (.exit 0) ⟨za [(.o (.o (.o .h)), vI .i64 (N + S.sumR (S.atR (S.num it) (S.num c) st) (n - i.toNat) i.toNat))], []⟩)
    | _, _ => none
  | _, _, _, _ => none
def z11p : AV → Bool
  | .c (.p (.isl 2 _ _)) => true
  | _ => false
def zkj (s : St) : Option zr :=
  match Tr.get (.i (.i (.o .h))) s.t, Tr.get .h s.t, Tr.get (.i (.o (.i .h))) s.t with
  | .c (.p (.isl 3 n f)), .c (.p (.int .i64 st)), .c (.p (.int .i64 i)) => some (.br (S.from_ (S.itAt (S.num f) st) n i.toNat) (.e (.exit 0) ⟨.lf, []⟩) (.e .ret ⟨za [(.i (.o .h), vB false)], []⟩))
  | _, _, _ => none
def zkk (s : St) : Option zr :=
  match Tr.get (.o (.o (.o (.o (.o .h))))) s.t, Tr.get (.o (.i (.o (.o (.o .h))))) s.t with
  | .c (.p (.isl 2 m wt)), .c (.p (.int .i64 i)) => some (.br (S.from_ (S.wtAt (S.num wt)) m i.toNat) (.e (.exit 0) ⟨.lf, []⟩) (.e .ret ⟨za [(.i (.o .h), vB false)], []⟩))
  | _, _ => none
def ztf (s : St) : Option zr :=
  match Tr.get .h s.t, Tr.get (.o .h) s.t, Tr.get (.o (.i .h)) s.t with
  | .c (.p (.isl 1 n a)), .c (.p (.isl 1 _ b)), .c (.p (.int .i64 i)) => some (.br (S.from_ (S.eqAt (S.num a) (S.num b)) n i.toNat) (.e (.exit 0) ⟨.lf, []⟩) (.e .ret ⟨za [(.i (.o .h), vB false)], []⟩))
  | _, _, _ => none
def Lp3 (n0 : Nat) (a : MC) (s : St) : Option zr :=
  bif Nat.beq (keyM a 0) zlu then zii 1 n0 s else bif Nat.beq (keyM a 0) zlv then zii 2 n0 s else bif Nat.beq (keyM a 0) zhj then zr3 s else bif Nat.beq (keyM a 0) zhi then zr4 s else bif Nat.beq (keyM a 0) zfl then zcq 1 s else bif Nat.beq (keyM a 0) zfm then zcq 2 s else bif Nat.beq (keyM a 0) zo4 then zw9 s else bif Nat.beq (keyM a 0) zju then ztf s else bif Nat.beq (keyM a 0) zdh then zkj s else bif Nat.beq (keyM a 0) zdg && z11p (Tr.get (.o (.o (.o (.o (.o .h))))) s.t) then zkk s else Lp n0 a s
def cs3 {P : Program} (hbs : BsOk P) : Cfg := { cs hbs with Sp := Sp3, Lp := Lp3 }
section
variable {hbs : BsOk Tryz.prog}
theorem zuw (lo hi : Int) (b : Bool) (Q : AV → Heap → Prop) :
 ((BrP b
 (Q (vJ hi) [(some (.box zm [(cJ lo), (cJ hi)]))])
 (Q (vJ lo) [(some (.box zm [(cJ lo), (cJ hi)]))]))) = (ex (cs3 hbs) 1000 0 zl3 ⟨ofL 0 [.ag [.p (.int .i64 lo), .p (.int .i64 hi)], .c (.p (.bool b))] .lf, []⟩ (endK z7n.rs (fun r H => .pr (Q r H)) fun _ _ => .no)).hold2 := by kernel_rfl
theorem zsz (fu i : Nat) (n : Nat) (it : S.Rows) (lo hi : Int) (m : Nat) (wt : S.Rows) (ld : Bool) (b : Bool) (g : S.Rows) (Q : AX → St → Prop) :
 ((fun (A0 : Option Blk) => ((fun (A1 : Tr) => ((fun (A2 : Option Blk) => ((fun (A3 : Option Blk) => ((fun (A4 : Option Blk) => ((BrP (decide ((i : Int) < (n : Int)))
 (CdP (.rng (i : Int) n)
 (BrP b
 ((z8 (cs3 hbs) zt [(.ag [(cJ (it i 1)), (cJ (it i 2))]), (vB true)] (vJ (S.endOf true (it i 1) (it i 2))) []) ∧
 (CdP (.le i i)
 (CdP (.le i i)
 (CdP (.le ((i + 1) * 8) 140737488355328)
 (CdP (.i64 ((i : Int) + (1 : Int)))
 (Q .normal ⟨A1, [A4, A0, A2, A3, (some (.arr 1 3 (i + 1) (fun x12 => (fun x13 => (if (x12 < i) then (.int .i64 (g x12 x13)) else (List.getD [(.int .i64 (S.endOf true (it i 1) (it i 2)))] (((x12 - i) * 1) + x13) .npt)))) [3]))]⟩))))))
 ((z8 (cs3 hbs) zt [(.ag [(cJ (it i 1)), (cJ (it i 2))]), (vB false)] (vJ (S.endOf false (it i 1) (it i 2))) []) ∧
 (CdP (.le i i)
 (CdP (.le i i)
 (CdP (.le ((i + 1) * 8) 140737488355328)
 (CdP (.i64 ((i : Int) + (1 : Int)))
 (Q .normal ⟨A1, [A4, A0, A2, A3, (some (.arr 1 3 (i + 1) (fun x12 => (fun x13 => (if (x12 < i) then (.int .i64 (g x12 x13)) else (List.getD [(.int .i64 (S.endOf false (it i 1) (it i 2)))] (((x12 - i) * 1) + x13) .npt)))) [3]))]⟩))))))))
 (Q (.exit 0) ⟨(L4 (L5 (.c (.p (.bool b))) (L1 (vT 2 0))) (.nd (L1 (vT 1 0)) (vT 0 0) (L1 (vN i)))), [A4, A0, (some (.box z7 [(.sl 3 0 i), (cJ 0), (.p .nsl)])), A3]⟩)))) (bX n it lo hi m wt ld))) (some (.arr 1 3 i (S.val g) [])))) (some (.box z7 [(.sl 4 0 (i + 1)), (cJ 0), (.p .nsl)])))) (L4 (L5 (.c (.p (.bool b))) (L1 (vT 2 0))) (.nd (L1 (vT 1 0)) (vT 0 0) (L1 (vJ ((i : Int) + (1 : Int)))))))) (some (.box z7 [(.p .nsl), (cJ 0), (.p .nsl)]))) = (ex (cs3 hbs) (fu + 60) 0 z2f ⟨za [(.i .h, .c (.pt 0 0)), (.i (.o .h), .c (.pt 1 0)), (.o (.i .h), .c (.pt 2 0)), (.o .h, .c (.p (.bool b))), (.i (.i .h), .c (cJ i))], [some (.box zf (ptC n (S.val it) lo hi m (S.val wt) ld)), some (.box z7 [.p .nsl, .p (.int .i64 0), .p .nsl]), some (.box z7 [.sl 3 0 i, .p (.int .i64 0), .p .nsl]), some (.arr 1 zk i (S.val g) [])]⟩ (fun e s => .pr (Q e (z2a [.i .h, .o .h, .i (.i .h), .i (.o .h), .o (.i .h)] s)))).hold2 := by kernel_rfl
theorem zt0 (fu i : Nat) (n : Nat) (it : S.Rows) (lo hi : Int) (m : Nat) (wt : S.Rows) (ld : Bool) (b : Bool) (g g2 : S.Rows) (Q : AX → St → Prop) :
 ((fun (A0 : Option Blk) => ((fun (A1 : Tr) => ((fun (A2 : Option Blk) => ((fun (A3 : Option Blk) => ((fun (A4 : Option Blk) => ((fun (A5 : Option Blk) => ((BrP (decide ((i : Int) < (m : Int)))
 (CdP (.rng (i : Int) m)
 (BrP b
 ((z8 (cs3 hbs) zt [(.ag [(cJ (wt i 0)), (cJ (wt i 1))]), (vB true)] (vJ (S.endOf true (wt i 0) (wt i 1))) []) ∧
 (CdP (.le i i)
 (CdP (.le i i)
 (CdP (.le ((i + 1) * 8) 140737488355328)
 (CdP (.i64 ((i : Int) + (1 : Int)))
 (Q .normal ⟨A1, [A5, A0, A2, A4, A3, (some (.arr 1 3 (i + 1) (fun x13 => (fun x14 => (if (x13 < i) then (.int .i64 (g2 x13 x14)) else (List.getD [(.int .i64 (S.endOf true (wt i 0) (wt i 1)))] (((x13 - i) * 1) + x14) .npt)))) [4]))]⟩))))))
 ((z8 (cs3 hbs) zt [(.ag [(cJ (wt i 0)), (cJ (wt i 1))]), (vB false)] (vJ (S.endOf false (wt i 0) (wt i 1))) []) ∧
 (CdP (.le i i)
 (CdP (.le i i)
 (CdP (.le ((i + 1) * 8) 140737488355328)
 (CdP (.i64 ((i : Int) + (1 : Int)))
 (Q .normal ⟨A1, [A5, A0, A2, A4, A3, (some (.arr 1 3 (i + 1) (fun x13 => (fun x14 => (if (x13 < i) then (.int .i64 (g2 x13 x14)) else (List.getD [(.int .i64 (S.endOf false (wt i 0) (wt i 1)))] (((x13 - i) * 1) + x14) .npt)))) [4]))]⟩))))))))
 (Q (.exit 2) ⟨(L4 (.nd (L3 (L1 (vN i))) (.c (.p (.bool b))) (L1 (vT 2 0))) (L6 (L1 (vT 1 0)) (vT 0 0))), [A5, A0, (some (.box z7 [(.sl 3 0 n), (cJ 0), (.sl 4 0 i)])), A4, A3]⟩)))) (bX n it lo hi m wt ld))) (some (.arr 1 3 n (S.val g) [])))) (some (.arr 1 3 i (S.val g2) [])))) (some (.box z7 [(.sl 3 0 n), (cJ 0), (.sl 5 0 (i + 1))])))) (L4 (.nd (L3 (L1 (vJ ((i : Int) + (1 : Int))))) (.c (.p (.bool b))) (L1 (vT 2 0))) (L6 (L1 (vT 1 0)) (vT 0 0))))) (some (.box z7 [(.p .nsl), (cJ 0), (.p .nsl)]))) = (ex (cs3 hbs) (fu + 60) 0 z2g ⟨za [(.i .h, .c (.pt 0 0)), (.i (.o .h), .c (.pt 1 0)), (.o (.i .h), .c (.pt 2 0)), (.o .h, .c (.p (.bool b))), (.o (.o (.o .h)), .c (cJ i))], [some (.box zf (ptC n (S.val it) lo hi m (S.val wt) ld)), some (.box z7 [.p .nsl, .p (.int .i64 0), .p .nsl]), some (.box z7 [.sl 3 0 n, .p (.int .i64 0), .sl 4 0 i]), some (.arr 1 zk n (S.val g) []), some (.arr 1 zk i (S.val g2) [])]⟩ (fun e s => .pr (Q e (z2a [.i .h, .o .h, .i (.o .h), .o (.i .h), .o (.o (.o .h))] s)))).hold2 := by kernel_rfl
theorem zud (n : Nat) (it : S.Rows) (lo hi : Int) (m : Nat) (wt : S.Rows) (ld : Bool) (b : Bool) (Q : AV → Heap → Prop) :
 ((fun (A0 : Option Blk) => ((fun (A1 : Option Blk) => ((fun (A2 : List CV) => ((fun (A3 : Option Blk) => ((fun (A4 : List CV) => ((fun (A5 : Option Blk) => ((fun (A6 : Tr) => ((fun (A7 : Option Blk) => ((fun (A8 : Tr) => (((zd (ex (cs3 hbs) 994) 0 z2f ⟨(.nd A6 (.ag (kX n it lo hi m wt ld)) (.nd (L1 (vT 1 0)) (vT 0 0) (L1 (vJ 0)))), [A3, A0, A0]⟩ (.e (.exit 0) ⟨(L4 A6 A8), [A3, A0, A7, A1]⟩)) ∧
 ((zd (ex (cs3 hbs) 993) 0 z2g ⟨(L4 (.nd (L3 (L1 (vJ 0))) (.c (.p (.bool b))) (L1 (vT 2 0))) A8), [A3, A0, A7, A1]⟩ (.e (.exit 2) ⟨(L4 A6 A8), [A3, A0, (some (.box z7 [(.sl 3 0 n), (cJ 0), (.sl 4 0 m)])), A1, A5]⟩)) ∧
 (BrP b
 ((z8 (cs3 hbs) zt [(.ag [(cJ lo), (cJ hi)]), (vB true)] (vJ (S.endOf true lo hi)) []) ∧
 (Q (.ag A4) [A3, (some (.box z7 A4)), (some (.box z7 A4)), A1, A5]))
 ((z8 (cs3 hbs) zt [(.ag [(cJ lo), (cJ hi)]), (vB false)] (vJ (S.endOf false lo hi)) []) ∧
 (Q (.ag A2) [A3, (some (.box z7 A2)), (some (.box z7 A2)), A1, A5]))))))) (L6 (L1 (vT 1 0)) (vT 0 0)))) (some (.box z7 [(.sl 3 0 n), (cJ 0), (.p .nsl)])))) (L5 (.c (.p (.bool b))) (L1 (vT 2 0))))) (some (.arr 1 3 m (S.val (S.ends wt 0 b)) [])))) [(.sl 3 0 n), (cJ (S.endOf true lo hi)), (.sl 4 0 m)])) (bX n it lo hi m wt ld))) [(.sl 3 0 n), (cJ (S.endOf false lo hi)), (.sl 4 0 m)])) (some (.arr 1 3 n (S.val (S.ends it 1 b)) [])))) (some (.box z7 [(.p .nsl), (cJ 0), (.p .nsl)]))) = (ex (cs3 hbs) 1000 0 zkv ⟨ofL 0 [.ag (ptC n (S.val it) lo hi m (S.val wt) ld), .c (.p (.bool b))] .lf, []⟩ (endK z7j.rs (fun r H => .pr (Q r H)) fun _ _ => .no)).hold2 := by kernel_rfl
end
theorem z2v {g : S.Rows} {i k : Nat} {v : PV} (hk : k < i + 1) (hv : v = .int .i64 (g i 0)) : (if k < i then PV.int .i64 (g k 0) else [v][k - i]?.getD .npt) = S.val g k 0 := by
  subst hv
  split
  · rfl
  · obtain rfl : k = i := by omega
    rw [Nat.sub_self]
    rfl
section
variable {hbs : BsOk Tryz.prog} (hT : zq (cs3 hbs))
include hT
theorem z3u (lo hi : Int) (b : Bool) : z8 (cs3 hbs) zt [.ag [.p (.int .i64 lo), .p (.int .i64 hi)], .c (.p (.bool b))] (.c (.p (.int .i64 (S.endOf b lo hi)))) [] :=
  zo hT (F := z7n) rfl (zuw lo hi b _) (brP (fun h => by subst h; rfl) fun h => by subst h; rfl)
abbrev zix (n : Nat) (it : S.Rows) (lo hi : Int) (m : Nat) (wt : S.Rows) (ld b : Bool) (i : Nat) : Heap :=
  [some (.box zf (ptC n (S.val it) lo hi m (S.val wt) ld)), some (.box z7 [.p .nsl, .p (.int .i64 0), .p .nsl]), some (.box z7 [.sl 3 0 i, .p (.int .i64 0), .p .nsl]), some (.arr 1 zk i (S.val (S.ends it 1 b)) [])]
abbrev ziy (n : Nat) (it : S.Rows) (lo hi : Int) (m : Nat) (wt : S.Rows) (ld b : Bool) (i : Nat) : Heap :=
  [some (.box zf (ptC n (S.val it) lo hi m (S.val wt) ld)), some (.box z7 [.p .nsl, .p (.int .i64 0), .p .nsl]), some (.box z7 [.sl 3 0 n, .p (.int .i64 0), .sl 4 0 i]), some (.arr 1 zk n (S.val (S.ends it 1 b)) []), some (.arr 1 zk i (S.val (S.ends wt 0 b)) [])]
theorem zs8 (fu : Nat) (n : Nat) (it : S.Rows) (lo hi : Int) (m : Nat) (wt : S.Rows) (ld b : Bool) (hn : n ≤ 1000000) : ∀ (i : Nat) (st : St), i ≤ n → (∃ ρ, HasR 0 ρ st [(.i .h, .c (.pt 0 0)), (.i (.o .h), .c (.pt 1 0)), (.o (.i .h), .c (.pt 2 0)), (.o .h, .c (.p (.bool b))), (.i (.i .h), .c (.p (.int .i64 i)))] (zix n it lo hi m wt ld b i)) →
    zd (ex (cs3 hbs) (fu + 60)) 0 z2f st (.e (.exit 0) ⟨za [(.i .h, .c (.pt 0 0)), (.i (.o .h), .c (.pt 1 0)), (.o (.i .h), .c (.pt 2 0)), (.o .h, .c (.p (.bool b)))], zix n it lo hi m wt ld b n⟩) :=
  z21 (σ := Nat) (fun i => [(.i .h, .c (.pt 0 0)), (.i (.o .h), .c (.pt 1 0)), (.o (.i .h), .c (.pt 2 0)), (.o .h, .c (.p (.bool b))), (.i (.i .h), .c (.p (.int .i64 i)))]) (fun i => zix n it lo hi m wt ld b i) (fun i => i ≤ n) (fun i => n - i)
    (fun _ => .e (.exit 0) ⟨za [(.i .h, .c (.pt 0 0)), (.i (.o .h), .c (.pt 1 0)), (.o (.i .h), .c (.pt 2 0)), (.o .h, .c (.p (.bool b)))], zix n it lo hi m wt ld b n⟩) _ (fun i Q => zsz (hbs := hbs) fu i n it lo hi m wt ld b (S.ends it 1 b) Q) fun i hi' K hL X hX => by
      refine brP (fun h1 => cdP (zi (by simpa using h1)) (brP (fun hb => ⟨z3u hT _ _ _, cdP (Nat.le_refl _) (cdP (Nat.le_refl _) (cdP ?_ (cdP ?_ ?_)))⟩) fun hb => ⟨z3u hT _ _ _, cdP (Nat.le_refl _) (cdP (Nat.le_refl _) (cdP ?_ (cdP ?_ ?_)))⟩)) fun h1 => ?_
      · have hlt : i < n := by simpa using h1
        simp [Cd.holds]; omega
      · have hlt : i < n := by simpa using h1
        simp [Cd.holds]; omega
      · have hlt : i < n := by simpa using h1
        subst hb
        refine hX (i + 1) _ (by omega) (by omega) ⟨[some 0, some 1, some 2, some 4], HasR.mk _ rfl rfl ?_ ?_⟩ hL
        · simp [WH, WB, WL, WC, WP', upsB, memB, ptC]
          exact fun k hk => z2v hk rfl
        · simp [zg, WA, WC, WP', Tr.get]
      · have hlt : i < n := by simpa using h1
        simp [Cd.holds]; omega
      · have hlt : i < n := by simpa using h1
        simp [Cd.holds]; omega
      · have hlt : i < n := by simpa using h1
        subst hb
        refine hX (i + 1) _ (by omega) (by omega) ⟨[some 0, some 1, some 2, some 4], HasR.mk _ rfl rfl ?_ ?_⟩ hL
        · simp [WH, WB, WL, WC, WP', upsB, memB, ptC]
          exact fun k hk => z2v hk rfl
        · simp [zg, WA, WC, WP', Tr.get]
      · have hlt : n ≤ i := by simpa using h1
        obtain rfl : i = n := by omega
        refine HasR.out (l := [(.i .h, .c (.pt 0 0)), (.i (.o .h), .c (.pt 1 0)), (.o (.i .h), .c (.pt 2 0)), (.o .h, .c (.p (.bool b)))]) (HasR.mk (ρ := [some 0, some 1, some 2, some 3]) rfl rfl ?_ ?_) hL
        · simp [WH, WB, WL, WC, WP', upsB, memB, ptC]
        · simp [zg, WA, WC, WP', Tr.get]
theorem zs9 (fu : Nat) (n : Nat) (it : S.Rows) (lo hi : Int) (m : Nat) (wt : S.Rows) (ld b : Bool) (hn : m ≤ 1000000) : ∀ (i : Nat) (st : St), i ≤ m → (∃ ρ, HasR 0 ρ st [(.i .h, .c (.pt 0 0)), (.i (.o .h), .c (.pt 1 0)), (.o (.i .h), .c (.pt 2 0)), (.o .h, .c (.p (.bool b))), (.o (.o (.o .h)), .c (.p (.int .i64 i)))] (ziy n it lo hi m wt ld b i)) →
    zd (ex (cs3 hbs) (fu + 60)) 0 z2g st (.e (.exit 2) ⟨za [(.i .h, .c (.pt 0 0)), (.i (.o .h), .c (.pt 1 0)), (.o (.i .h), .c (.pt 2 0)), (.o .h, .c (.p (.bool b)))], ziy n it lo hi m wt ld b m⟩) :=
  z21 (σ := Nat) (fun i => [(.i .h, .c (.pt 0 0)), (.i (.o .h), .c (.pt 1 0)), (.o (.i .h), .c (.pt 2 0)), (.o .h, .c (.p (.bool b))), (.o (.o (.o .h)), .c (.p (.int .i64 i)))]) (fun i => ziy n it lo hi m wt ld b i) (fun i => i ≤ m) (fun i => m - i)
    (fun _ => .e (.exit 2) ⟨za [(.i .h, .c (.pt 0 0)), (.i (.o .h), .c (.pt 1 0)), (.o (.i .h), .c (.pt 2 0)), (.o .h, .c (.p (.bool b)))], ziy n it lo hi m wt ld b m⟩) _ (fun i Q => zt0 (hbs := hbs) fu i n it lo hi m wt ld b (S.ends it 1 b) (S.ends wt 0 b) Q) fun i hi' K hL X hX => by
      refine brP (fun h1 => cdP (zi (by simpa using h1)) (brP (fun hb => ⟨z3u hT _ _ _, cdP (Nat.le_refl _) (cdP (Nat.le_refl _) (cdP ?_ (cdP ?_ ?_)))⟩) fun hb => ⟨z3u hT _ _ _, cdP (Nat.le_refl _) (cdP (Nat.le_refl _) (cdP ?_ (cdP ?_ ?_)))⟩)) fun h1 => ?_
      · have hlt : i < m := by simpa using h1
        simp [Cd.holds]; omega
      · have hlt : i < m := by simpa using h1
        simp [Cd.holds]; omega
      · have hlt : i < m := by simpa using h1
        subst hb
        refine hX (i + 1) _ (by omega) (by omega) ⟨[some 0, some 1, some 2, some 3, some 5], HasR.mk _ rfl rfl ?_ ?_⟩ hL
        · simp [WH, WB, WL, WC, WP', upsB, memB, ptC]
          exact fun k hk => z2v hk rfl
        · simp [zg, WA, WC, WP', Tr.get]
      · have hlt : i < m := by simpa using h1
        simp [Cd.holds]; omega
      · have hlt : i < m := by simpa using h1
        simp [Cd.holds]; omega
      · have hlt : i < m := by simpa using h1
        subst hb
        refine hX (i + 1) _ (by omega) (by omega) ⟨[some 0, some 1, some 2, some 3, some 5], HasR.mk _ rfl rfl ?_ ?_⟩ hL
        · simp [WH, WB, WL, WC, WP', upsB, memB, ptC]
          exact fun k hk => z2v hk rfl
        · simp [zg, WA, WC, WP', Tr.get]
      · have hlt : m ≤ i := by simpa using h1
        obtain rfl : i = m := by omega
        refine HasR.out (l := [(.i .h, .c (.pt 0 0)), (.i (.o .h), .c (.pt 1 0)), (.o (.i .h), .c (.pt 2 0)), (.o .h, .c (.p (.bool b)))]) (HasR.mk (ρ := [some 0, some 1, some 2, some 3, some 4]) rfl rfl ?_ ?_) hL
        · simp [WH, WB, WL, WC, WP', upsB, memB, ptC]
        · simp [zg, WA, WC, WP', Tr.get]
end
section
variable {hbs : BsOk Tryz.prog}
theorem zsa (l h lo hi : Int) (Q : AV → Heap → Prop) :
 ((fun (A0 : Heap) => (((z8 (cs3 hbs) z15 [(vJ l), (vJ lo), (vJ h)] (.c (.p (.bool (S.inB lo l h)))) []) ∧
 (BrP (S.inB lo l h)
 (BrP (decide (h ≤ hi))
 (Q (vB true) A0)
 (Q (vB false) A0))
 (Q (vB false) A0))))) [(some (.box zm [(cJ l), (cJ h)]))]) = (ex (cs3 hbs) 1000 0 zgv ⟨ofL 0 [.ag [.p (.int .i64 l), .p (.int .i64 h)], .c (cJ lo), .c (cJ hi)] .lf, []⟩ (endK z6h.rs (fun r H => .pr (Q r H)) fun _ _ => .no)).hold2 := by kernel_rfl
theorem zpr (fu i n : Nat) (c : S.Rows) (st : Int) (Q : AX → St → Prop) :
 ((fun (A0 : Tr) => ((fun (A1 : AV) => ((fun (A2 : Tr) => ((fun (A3 : AV) => ((fun (A4 : AV) => ((BrP (decide ((i : Int) < (n : Int)))
 (CdP (.rng (i : Int) n)
 (CdP (.i64 (st - (1 : Int)))
 ((z8 (cs3 hbs) z15 [(vJ (c i 0)), (vJ 0), A4] (.c (.p (.bool (S.inB (0 : Int) (c i 0) (st - (1 : Int)))))) []) ∧
 (BrP (S.inB (0 : Int) (c i 0) (st - (1 : Int)))
 (CdP (.rng (i : Int) n)
 ((z8 (cs3 hbs) z6i [A3, (vJ 0), (vJ 20000)] (.c (.p (.bool (S.span (c i 1) (c i 2) (0 : Int) (20000 : Int))))) []) ∧
 (BrP (S.span (c i 1) (c i 2) (0 : Int) (20000 : Int))
 (CdP (.i64 ((i : Int) + (1 : Int)))
 (Q .normal ⟨(.nd (.nd (L4 (.nd A0 (vS 3 n c) (L1 (vN i))) (.nd (L1 (vB true)) (vJ ((i : Int) + (1 : Int))) (L1 (vB true)))) (vJ st) (.nd A2 (vJ ((i : Int) + (1 : Int))) (.nd (L1 (vB false)) (vN i) (L1 (vB false))))) (vS 3 n c) (L4 (L4 (.nd (L1 (vJ (c i 0))) (vN n) (L1 A1)) (.nd (L1 (vB false)) (vS 3 n c) (L1 (vB false)))) (.nd (.nd (L1 A4) (vN i) (L1 A3)) (vN i) (L6 (L1 (vS 3 n c)) A1)))), []⟩))
 (Q .ret ⟨(.nd (.nd (L4 (.nd A0 (vS 3 n c) (L1 (vN i))) (L4 (L1 (vB true)) (L1 (vB false)))) (vJ st) (.nd A2 (vN i) (.nd (L1 (vB false)) (vN i) (L1 (vB true))))) (vS 3 n c) (L4 (.nd (.nd (L1 (vJ (c i 0))) (vN n) (L1 A1)) (vB false) (.nd (L1 (vB false)) (vS 3 n c) (L1 (vB true)))) (.nd (L4 (L1 A4) (L1 A3)) (vN i) (L6 (L1 (vS 3 n c)) A1)))), []⟩))))
 (Q .ret ⟨(.nd (.nd (L4 (.nd A0 (vS 3 n c) (L1 (.tp []))) (L4 (L1 (vB false)) (L1 (.tp [])))) (vJ st) (.nd (.nd (L1 (vJ st)) (vB true) (L1 (.tp []))) (vN i) (.nd (L1 (vB true)) (vN i) (L1 (vB true))))) (vS 3 n c) (L4 (.nd (.nd (L1 (vJ (c i 0))) (vN n) (L1 (.tp []))) (vB false) (.nd (L1 (vB true)) (vS 3 n c) (L1 (.tp [])))) (.nd (L4 (L1 A4) (L1 (.tp []))) (vN i) (L6 (L1 (.tp [])) A1)))), []⟩)))))
 (Q (.exit 0) ⟨(.nd (.nd (L3 (L1 (vS 3 n c))) (vJ st) (L6 (L1 (vB false)) (vN i))) (vS 3 n c) (L4 (L3 (L1 (vN n))) (L1 (vN i)))), []⟩)))) (vJ (st - (1 : Int))))) (.ag [(cJ (c i 1)), (cJ (c i 2))]))) (.nd (L1 (vJ st)) (vB true) (L1 (.c (.p (.ipt 2 (fun x6 => (.int .i64 (c i (1 + x6))))))))))) (.c (.p (.ipt 3 (S.val c i)))))) (L1 (.c (.p (.ipt 3 (fun x6 => (.int .i64 (c i (0 + x6))))))))) = (ex (cs3 hbs) (fu + 60) 0 z5b ⟨za [(.h, .c (cS 3 n c)), (.o .h, .c (cJ st)), (.o (.i .h), .c (cJ i))], []⟩ (fun e s => .pr (Q e s))).hold2 := by kernel_rfl
theorem zps (n : Nat) (c : S.Rows) (st : Int) (Q : AV → Heap → Prop) :
 (((zd (ex (cs3 hbs) 995) 0 z5b ⟨(.nd (L5 (vJ st) (L1 (vJ 0))) (vS 3 n c) (L3 (L1 (vB false)))), []⟩ (.br (S.from_ (S.itAt c st) n 0) (.e (.exit 0) ⟨(L1 (vS 3 n c)), []⟩) (.e .ret ⟨(L2 (L3 (L1 (vB false)))), []⟩))) ∧
 (BrP (S.from_ (S.itAt c st) n 0)
 (BrP (decide ((n : Int) ≤ (12 : Int)))
 (Q (vB true) [])
 (Q (vB false) []))
 (Q (vB false) [])))) = (ex (cs3 hbs) 1000 0 zex ⟨ofL 0 [.c (cS 3 n c), .c (cJ st)] .lf, []⟩ (endK z5s.rs (fun r H => .pr (Q r H)) fun _ _ => .no)).hold2 := by kernel_rfl
theorem zpt (fu i : Nat) (e mo t l : Int) (nc : Nat) (c : S.Rows) (ns : Nat) (s : S.Rows) (ta tm r : Int) (nf : Nat) (f : S.Rows) (n1 : Nat) (it : S.Rows) (lo hi : Int) (m1 : Nat) (wt : S.Rows) (ld : Bool) (Q : AX → St → Prop) :
 ((fun (A0 : Heap) => ((fun (A1 : AV) => ((fun (A2 : Tr) => ((BrP (decide ((i : Int) < (m1 : Int)))
 (CdP (.rng (i : Int) m1)
 ((z8 (cs3 hbs) z6i [A1, (vJ 0), (vJ 120000)] (.c (.p (.bool (S.span (wt i 0) (wt i 1) (0 : Int) (120000 : Int))))) []) ∧
 (BrP (S.span (wt i 0) (wt i 1) (0 : Int) (120000 : Int))
 (CdP (.i64 ((i : Int) + (1 : Int)))
 (Q .normal ⟨(L4 (L4 (.nd (L6 (L1 (vN i)) (vT 1 3)) (vT 1 0) (L6 (L1 (vB false)) (vN i))) (.nd (L6 (L1 A1) (vN m1)) (vJ ((i : Int) + (1 : Int))) (L1 (vT 1 3)))) (.nd (L4 A2 (L1 (vJ ((i : Int) + (1 : Int))))) (vT 0 0) (.nd (L6 (L1 (vB true)) (vB true)) (vN i) (L1 (vS 2 m1 wt))))), A0⟩))
 (Q .ret ⟨(L4 (L4 (.nd (L6 (L1 (vN i)) (vT 1 3)) (vT 1 0) (L3 (L1 (vB true)))) (.nd (L6 (L1 A1) (vN m1)) (vN i) (L1 (vT 1 3)))) (.nd (L6 A2 (vB false)) (vT 0 0) (.nd (L6 (L1 (vB false)) (vB true)) (vN i) (L1 (vS 2 m1 wt))))), A0⟩))))
 (Q (.exit 0) ⟨(L4 (L4 (L6 (L1 (vT 1 3)) (vT 1 0)) (L6 (L1 (vN m1)) (vN i))) (.nd (L3 (L1 (vS 2 m1 wt))) (vT 0 0) (L6 (L1 (vB false)) (vN i)))), A0⟩)))) (L6 (L1 (.c (.p (.ipt 2 (S.val wt i))))) (vS 2 m1 wt)))) (.ag [(cJ (wt i 0)), (cJ (wt i 1))]))) [(bP e mo t l nc c ns s ta tm r nf f), (bX n1 it lo hi m1 wt ld)]) = (ex (cs3 hbs) (fu + 60) 0 z5c ⟨za [(.i .h, .c (.pt 0 0)), (.o (.o .h), .c (.pt 1 0)), (.o (.i .h), .c (cJ i))], [some (.box zp (plC e mo t l nc (S.val c) ns (S.val s) ta tm r nf (S.val f))), some (.box zf (ptC n1 (S.val it) lo hi m1 (S.val wt) ld))]⟩ (fun e s => .pr (Q e s))).hold2 := by kernel_rfl
theorem zpu (e mo t l : Int) (nc : Nat) (c : S.Rows) (ns : Nat) (s : S.Rows) (ta tm r : Int) (nf : Nat) (f : S.Rows) (n1 : Nat) (it : S.Rows) (lo hi : Int) (m1 : Nat) (wt : S.Rows) (ld : Bool) (Q : AV → Heap → Prop) :
 ((fun (A0 : Heap) => (((zd (ex (cs3 hbs) 995) 0 z5c ⟨(.nd (.nd (L1 (vT 1 0)) (.ag (kX n1 it lo hi m1 wt ld)) (L1 (vJ 0))) (.ag (kP e mo t l nc c ns s ta tm r nf f)) (L6 (L1 (vB false)) (vT 0 0))), A0⟩ (.br (S.from_ (S.wtAt wt) m1 0) (.e (.exit 0) ⟨(L4 (L3 (L1 (vT 1 0))) (L1 (vT 0 0))), A0⟩) (.e .ret ⟨(L2 (L3 (L1 (vB false)))), []⟩))) ∧
 (BrP (S.from_ (S.wtAt wt) m1 0)
 ((z8 (cs3 hbs) za7 [(vS 3 n1 it), (vN ns)] (.c (.p (.bool (S.itemsOk n1 it (ns : Int))))) []) ∧
 (BrP (S.itemsOk n1 it (ns : Int))
 ((z8 (cs3 hbs) z6i [(.ag [(cJ lo), (cJ hi)]), (vJ (-(120000 : Int))), (vJ 140000)] (.c (.p (.bool (S.span lo hi (-(120000 : Int)) (140000 : Int))))) []) ∧
 (BrP (S.span lo hi (-(120000 : Int)) (140000 : Int))
 (BrP ((m1 : Int) == (nf : Int))
 (Q (vB true) A0)
 (Q (vB false) A0))
 (Q (vB false) A0)))
 (Q (vB false) A0)))
 (Q (vB false) []))))) [(bP e mo t l nc c ns s ta tm r nf f), (bX n1 it lo hi m1 wt ld)]) = (ex (cs3 hbs) 1000 0 zey ⟨ofL 0 [.ag (plC e mo t l nc (S.val c) ns (S.val s) ta tm r nf (S.val f)), .ag (ptC n1 (S.val it) lo hi m1 (S.val wt) ld)] .lf, []⟩ (endK z5t.rs (fun r H => .pr (Q r H)) fun _ _ => .no)).hold2 := by kernel_rfl
theorem zlj (fu i : Nat) (W M : Int) (e mo t l : Int) (nc : Nat) (c : S.Rows) (ns : Nat) (s : S.Rows) (ta tm r : Int) (nf : Nat) (f : S.Rows) (n1 : Nat) (it : S.Rows) (lo hi : Int) (m1 : Nat) (wt : S.Rows) (ld : Bool) (n : Nat) (cc : S.Rows) (tk : Int) (m : Nat) (ww : S.Rows) (Q : AX → St → Prop) :
 ((fun (A0 : Heap) => ((fun (A1 : AV) => ((BrP (decide ((i : Int) < (n : Int)))
 (CdP (.rng (i : Int) n)
 (CdP (.i64 (W + (cc i 0)))
 (CdP (.rng (i : Int) n)
 (CdP (.rng (i : Int) n1)
 (CdP (.rng (it i 0) ns)
 (CdP (.i64 ((cc i 0) * (s (Int.toNat (it i 0)) 0)))
 (CdP (.i64 (M + ((cc i 0) * (s (Int.toNat (it i 0)) 0))))
 (CdP (.i64 ((i : Int) + (1 : Int)))
 (Q .normal ⟨(L4 (L4 (.nd (L4 (L4 (L1 (vN i)) (L1 (vS 2 ns s))) (L4 (L1 (vJ (W + (cc i 0)))) (L1 (.c (.p (.ipt 2 (fun x30 => (.int .i64 (s (Int.toNat (it i 0)) (0 + x30)))))))))) (vT 0 0) (L4 (L4 (L1 (vS 1 n cc)) (L1 (.c (.p (.ipt 3 (S.val it i)))))) (L6 (L1 (vN i)) (vT 2 0)))) (.nd (.nd (L4 (L1 (vJ W)) (L1 (vS 3 n1 it))) A1 (L4 (L1 (vT 2 0)) (L1 (vJ ((cc i 0) * (s (Int.toNat (it i 0)) 0)))))) (vT 2 0) (L4 (L4 (L1 (.c (.p (.ipt 1 (S.val cc i))))) (L1 (vJ (it i 0)))) (L6 (L1 (vJ (cc i 0))) (vN n))))) (L4 (.nd (.nd (L4 (L1 (vJ ((i : Int) + (1 : Int)))) (L1 (vT 1 0))) (vJ (W + (cc i 0))) (L4 (L1 (vJ M)) (L1 (vJ (s (Int.toNat (it i 0)) 0))))) (vT 1 0) (L4 (L4 (L1 (vN i)) (L1 (.c (.p (.ipt 3 (fun x30 => (.int .i64 (it i (0 + x30))))))))) (L6 (L1 (.c (.p (.ipt 1 (S.val cc i))))) (vS 1 n cc)))) (L4 (.nd (L4 (L1 (vT 2 0)) (L1 (vN i))) (vJ ((i : Int) + (1 : Int))) (.nd (L1 (vS 1 n cc)) (vN i) (L1 A1))) (L4 (L4 (L1 (vJ (cc i 0))) (L1 (.c (.p (.ipt 2 (S.val s (Int.toNat (it i 0)))))))) (L6 (L1 (vT 0 5)) (vB true)))))), A0⟩)))))))))
 (Q (.exit 0) ⟨(L4 (L4 (L5 (vT 0 0) (L2 (L1 (vT 2 0)))) (.nd (L1 (vJ M)) (vT 2 0) (L2 (L1 (vN n))))) (L4 (.nd (L1 (vJ W)) (vT 1 0) (L2 (L1 (vS 1 n cc)))) (L4 (L5 (vN i) (L1 (vN i))) (L2 (L1 (vB false)))))), A0⟩)))) (vJ (M + ((cc i 0) * (s (Int.toNat (it i 0)) 0)))))) [(bP e mo t l nc c ns s ta tm r nf f), (bX n1 it lo hi m1 wt ld), (bC n cc tk m ww)]) = (ex (cs3 hbs) (fu + 60) 0 z4r ⟨za [(.o (.o .h), .c (.pt 0 0)), (.i (.o .h), .c (.pt 1 0)), (.o (.i .h), .c (.pt 2 0)), (.i (.o (.o .h)), .c (cJ W)), (.o (.i (.o .h)), .c (cJ M)), (.i (.i (.o .h)), .c (cJ i))], [some (.box zp (plC e mo t l nc (S.val c) ns (S.val s) ta tm r nf (S.val f))), some (.box zf (ptC n1 (S.val it) lo hi m1 (S.val wt) ld)), some (.box z7 [.p (.isl 1 n (S.val cc)), .p (.int .i64 tk), .p (.isl 1 m (S.val ww))])]⟩ (fun e s => .pr (Q e s))).hold2 := by kernel_rfl
theorem zlk (fu i : Nat) (W M : Int) (e mo t l : Int) (nc : Nat) (c : S.Rows) (ns : Nat) (s : S.Rows) (ta tm r : Int) (nf : Nat) (f : S.Rows) (n1 : Nat) (it : S.Rows) (lo hi : Int) (m1 : Nat) (wt : S.Rows) (ld : Bool) (n : Nat) (cc : S.Rows) (tk : Int) (m : Nat) (ww : S.Rows) (Q : AX → St → Prop) :
 ((fun (A0 : Heap) => ((BrP (decide ((i : Int) < (m : Int)))
 (CdP (.rng (i : Int) m)
 (CdP (.i64 (W + (ww i 0)))
 (CdP (.rng (i : Int) m)
 (CdP (.rng (i : Int) nf)
 (CdP (.i64 ((ww i 0) * (f i 0)))
 (CdP (.i64 (M + ((ww i 0) * (f i 0))))
 (CdP (.i64 ((i : Int) + (1 : Int)))
 (Q .normal ⟨(L4 (L4 (.nd (L4 (L4 (L3 (L1 (vB true))) (L3 (L1 (vT 0 9)))) (L3 (L3 (L1 (vJ (ww i 0)))))) (vT 0 0) (.nd (L4 (L3 (L1 (vT 2 2))) (L3 (L1 (.c (.p (.ipt 2 (fun x30 => (.int .i64 (f i (0 + x30)))))))))) (vJ ((i : Int) + (1 : Int))) (L4 (L3 (L1 (vS 1 m ww))) (L1 (vN i))))) (.nd (.nd (L4 (L3 (L1 (vJ ((i : Int) + (1 : Int))))) (L3 (L1 (vN i)))) (vJ (M + ((ww i 0) * (f i 0)))) (L3 (L3 (L1 (vJ M))))) (vT 2 0) (L4 (L4 (L3 (L1 (vN i))) (L3 (L1 (vJ ((ww i 0) * (f i 0)))))) (L4 (L3 (L1 (.c (.p (.ipt 1 (S.val ww i)))))) (L1 (vS 1 m ww)))))) (L4 (.nd (.nd (L4 (L3 (L1 (vN i))) (L3 (L1 (vS 2 nf f)))) (vJ (W + (ww i 0))) (L3 (L3 (L1 (vJ (W + (ww i 0))))))) (vT 1 0) (L4 (L4 (L3 (L1 (vS 1 m ww))) (L3 (L1 (vJ (f i 0))))) (L4 (L3 (L1 (vN i))) (L1 (vT 2 2))))) (L4 (L4 (L4 (L3 (L1 (vJ W))) (L3 (L1 (.c (.p (.ipt 2 (S.val f i))))))) (L3 (L3 (L1 (vT 2 2))))) (L4 (L4 (L3 (L1 (.c (.p (.ipt 1 (S.val ww i)))))) (L3 (L1 (vJ (M + ((ww i 0) * (f i 0))))))) (L4 (L3 (L1 (vJ (ww i 0)))) (L1 (vN m))))))), A0⟩))))))))
 (Q (.exit 2) ⟨(L4 (L4 (.nd (L3 (L3 (L3 (L1 (vB false))))) (vT 0 0) (L5 (vN i) (L2 (L1 (vN i))))) (.nd (L1 (vJ M)) (vT 2 0) (L2 (L2 (L1 (vS 1 m ww)))))) (L4 (.nd (L1 (vJ W)) (vT 1 0) (L2 (L2 (L1 (vT 2 2))))) (L2 (L2 (L2 (L1 (vN m))))))), A0⟩)))) [(bP e mo t l nc c ns s ta tm r nf f), (bX n1 it lo hi m1 wt ld), (bC n cc tk m ww)]) = (ex (cs3 hbs) (fu + 60) 0 z4s ⟨za [(.o (.o .h), .c (.pt 0 0)), (.i (.o .h), .c (.pt 1 0)), (.o (.i .h), .c (.pt 2 0)), (.i (.o (.o .h)), .c (cJ W)), (.o (.i (.o .h)), .c (cJ M)), (.o (.o (.i .h)), .c (cJ i))], [some (.box zp (plC e mo t l nc (S.val c) ns (S.val s) ta tm r nf (S.val f))), some (.box zf (ptC n1 (S.val it) lo hi m1 (S.val wt) ld)), some (.box z7 [.p (.isl 1 n (S.val cc)), .p (.int .i64 tk), .p (.isl 1 m (S.val ww))])]⟩ (fun e s => .pr (Q e s))).hold2 := by kernel_rfl
theorem znp (e mo t l : Int) (nc : Nat) (c : S.Rows) (ns : Nat) (s : S.Rows) (ta tm r : Int) (nf : Nat) (f : S.Rows) (n1 : Nat) (it : S.Rows) (lo hi : Int) (m1 : Nat) (wt : S.Rows) (ld : Bool) (n : Nat) (cc : S.Rows) (tk : Int) (m : Nat) (ww : S.Rows) (Q : AV → Heap → Prop) :
 ((fun (A0 : Heap) => ((fun (A1 : AV) => ((fun (A2 : Tr) => ((fun (A3 : AV) => ((fun (A4 : Tr) => ((CdP (.i64 (e + tk))
 (CdP (.i64 (tk * ta))
 (CdP (.i64 (mo + (tk * ta)))
 ((zd (ex (cs3 hbs) 994) 0 z4r ⟨(.nd (.nd (.nd (.nd (L1 (vJ tk)) (vJ 0) (L1 (vJ ta))) (vT 0 0) (L3 (L1 (vT 2 1)))) (.ag (kX n1 it lo hi m1 wt ld)) (.nd (.nd (L1 (vT 0 1)) (vJ (mo + (tk * ta))) (L1 (vJ (mo + (tk * ta))))) (vT 2 0) (L6 (L1 (vT 0 6)) (vJ e)))) (.ag (kP e mo t l nc c ns s ta tm r nf f)) (.nd (.nd (.nd (L1 (vJ (e + tk))) (vJ (e + tk)) (L1 (vJ (tk * ta)))) (vT 1 0) (L6 (L1 (vJ tk)) (vT 0 0))) (.ag (kC n cc tk m ww)) (.nd (L6 (L1 (vJ mo)) (vJ 0)) (vJ 0) (L6 (L1 (vT 0 6)) (vT 2 1))))), A0⟩ (.e (.exit 0) ⟨(L4 (L4 (L1 (vT 0 0)) A2) A4), A0⟩)) ∧
 ((zd (ex (cs3 hbs) 993) 0 z4s ⟨(L4 (L4 (L5 (vT 0 0) (L1 (vJ 0))) A2) A4), A0⟩ (.e (.exit 2) ⟨(L4 (L2 (L3 (L1 A1))) (L3 (L3 (L1 A3)))), []⟩)) ∧
 (Q (.tp [A3, A1]) [])))))))) (L3 (L6 (L1 (vJ ((e + tk) + (S.sumR (S.itW cc) n 0)))) (vT 1 0))))) (vJ (((e + tk) + (S.sumR (S.itW cc) n 0)) + (S.sumR (S.itW ww) m 0))))) (L6 (L1 (vJ ((mo + (tk * ta)) + (S.sumR (S.itM cc it s) n 0)))) (vT 2 0)))) (vJ (((mo + (tk * ta)) + (S.sumR (S.itM cc it s) n 0)) + (S.sumR (S.wtM ww f) m 0))))) [(bP e mo t l nc c ns s ta tm r nf f), (bX n1 it lo hi m1 wt ld), (bC n cc tk m ww)]) = (ex (cs3 hbs) 1000 0 zdb ⟨ofL 0 [.ag (plC e mo t l nc (S.val c) ns (S.val s) ta tm r nf (S.val f)), .ag (ptC n1 (S.val it) lo hi m1 (S.val wt) ld), .ag [.p (.isl 1 n (S.val cc)), .p (.int .i64 tk), .p (.isl 1 m (S.val ww))]] .lf, []⟩ (endK z4z.rs (fun r H => .pr (Q r H)) fun _ _ => .no)).hold2 := by kernel_rfl
end
end Go.Ab.B
namespace Go.Ab.S
theorem sumR_step (f : Nat → Int) {n i : Nat} (h : i < n) : sumR f (n - i) i = f i + sumR f (n - (i + 1)) (i + 1) := by
  rw [show n - i = (n - (i + 1)) + 1 by omega]
  rfl
theorem sumR_end (f : Nat → Int) {n i : Nat} (h : n ≤ i) : sumR f (n - i) i = 0 := by
  rw [show n - i = 0 by omega]
  rfl
theorem sumR_in {f : Nat → Int} {B : Int} : ∀ {k i : Nat}, (∀ j, i ≤ j → j < i + k → -B ≤ f j ∧ f j ≤ B) → -(B * k) ≤ sumR f k i ∧ sumR f k i ≤ B * k
  | 0, i, _ => by simp [sumR]
  | k + 1, i, h => by
    have h1 := h i (by omega) (by omega)
    have h2 := sumR_in (f := f) (B := B) (k := k) (i := i + 1) fun j h3 h4 => h j (by omega) (by omega)
    have e : B * ((k + 1 : Nat) : Int) = B * k + B := by rw [Int.natCast_add, Int.mul_add]; simp
    simp only [sumR]
    rw [e]
    omega
end Go.Ab.S
namespace Go.Ab.B
open Go.Proofs
section
variable {hbs : BsOk Tryz.prog} (hT : zq (cs hbs)) (hT3 : zq (cs3 hbs))
include hT hT3
theorem z6w (lo hi x : Int) : z8 (cs3 hbs) z15 [.c (.p (.int .i64 x)), .c (.p (.int .i64 lo)), .c (.p (.int .i64 hi))] (vB (S.inB lo x hi)) [] :=
  z8.cfg (C := cs hbs) (C' := cs3 hbs) rfl rfl (z28 hT lo hi x)
theorem zaf (l h lo hi : Int) : z8 (cs3 hbs) z6i [.ag [.p (.int .i64 l), .p (.int .i64 h)], .c (.p (.int .i64 lo)), .c (.p (.int .i64 hi))] (vB (S.span l h lo hi)) [] :=
  zo hT3 (F := z6h) rfl (zsa l h lo hi _) ⟨z6w hT hT3 _ _ _, brP (fun h1 => brP (fun h2 => zj (by simp [S.span, h1, h2])) fun h2 => zj (by simp [S.span, h1, h2])) fun h1 => zj (by simp [S.span, h1])⟩
theorem zqu (fu n : Nat) (c : S.Rows) (st : Int) (hn : n ≤ 1000000) (hs : 0 ≤ st ∧ st ≤ 1000000) : ∀ (i : Nat) (s : St), i ≤ n → Has s [(.h, .c (.p (.isl 3 n (S.val c)))), (.o .h, .c (.p (.int .i64 st))), (.o (.i .h), .c (.p (.int .i64 i)))] [] →
    zd (ex (cs3 hbs) (fu + 60)) 0 z5b s (.br (S.from_ (S.itAt c st) n i) (.e (.exit 0) ⟨za [(.h, .c (.p (.isl 3 n (S.val c))))], []⟩) (.e .ret ⟨za [(.i (.o .h), vB false)], []⟩)) :=
  z2d (σ := Nat) (fun i => [(.h, .c (.p (.isl 3 n (S.val c)))), (.o .h, .c (.p (.int .i64 st))), (.o (.i .h), .c (.p (.int .i64 i)))]) (fun _ => []) (fun i => i ≤ n) (fun i => n - i)
    (fun i => .br (S.from_ (S.itAt c st) n i) (.e (.exit 0) ⟨za [(.h, .c (.p (.isl 3 n (S.val c))))], []⟩) (.e .ret ⟨za [(.i (.o .h), vB false)], []⟩)) (fun _ => Nat.le_refl _) _ (fun i Q => zpr (hbs := hbs) fu i n c st Q) fun i hi K hL X hX => by
      refine brP (fun h1 => cdP (zi (by simpa using h1)) (cdP ?_ ⟨z6w hT hT3 _ _ _, brP (fun h2 => cdP (zi (by simpa using h1)) ⟨zaf hT hT3 _ _ _ _, brP (fun h3 => cdP ?_ ?_) fun h3 => ?_⟩) fun h2 => ?_⟩)) fun h1 => ?_
      · simp [Cd.holds]; omega
      · have hlt : i < n := by simpa using h1
        simp [Cd.holds]; omega
      · have hlt : i < n := by simpa using h1
        refine hX (i + 1) _ (by omega) (by omega) (.cons (by kernel_rfl) rfl (.cons (by kernel_rfl) rfl (.cons (by kernel_rfl) rfl (.nil (ex := []) rfl rfl)))) ?_
        have e : S.itAt c st i = true := by simp [S.itAt, h2, h3]
        rw [S.from_step hlt, e, Bool.true_and] at hL
        exact hL
      · have hlt : i < n := by simpa using h1
        have e : S.itAt c st i = false := by simp [S.itAt, h2, h3]
        rw [S.from_step hlt, e, Bool.false_and] at hL
        exact Has.out (l := [(.i (.o .h), vB false)]) (.cons (by kernel_rfl) rfl (.nil (ex := _) rfl rfl)) (Nat.le_refl _) hL
      · have hlt : i < n := by simpa using h1
        have e : S.itAt c st i = false := by simp [S.itAt, h2]
        rw [S.from_step hlt, e, Bool.false_and] at hL
        exact Has.out (l := [(.i (.o .h), vB false)]) (.cons (by kernel_rfl) rfl (.nil (ex := _) rfl rfl)) (Nat.le_refl _) hL
      · have hlt : n ≤ i := by simpa using h1
        rw [S.from_end hlt] at hL
        exact Has.out (l := [(.h, .c (.p (.isl 3 n (S.val c))))]) (.cons (by kernel_rfl) rfl (.nil (ex := []) rfl rfl)) (Nat.le_refl _) hL
theorem zqv (n : Nat) (c : S.Rows) (st : Int) (hn : n ≤ 1000000) (hs : 0 ≤ st ∧ st ≤ 1000000) : z8 (cs3 hbs) za7 [.c (.p (.isl 3 n (S.val c))), .c (.p (.int .i64 st))] (vB (S.itemsOk n c st)) [] :=
  zo hT3 (F := z5s) rfl (zps n c st _) ⟨zqu hT hT3 935 n c st hn hs 0 _ (Nat.zero_le _) (.cons (by kernel_rfl) rfl (.cons (by kernel_rfl) rfl (.cons (by kernel_rfl) rfl (.nil (ex := []) rfl rfl)))),
    brP (fun h1 => brP (fun h2 => zj (by simp [S.itemsOk, h1]; simpa using h2)) fun h2 => zj (by simp [S.itemsOk, h1]; simpa using h2)) fun h1 => zj (by simp [S.itemsOk, h1])⟩
theorem zqw (fu : Nat) (e mo t l : Int) (nc : Nat) (c : S.Rows) (ns : Nat) (s : S.Rows) (ta tm r : Int) (nf : Nat) (f : S.Rows) (n1 : Nat) (it : S.Rows) (lo hi : Int) (m1 : Nat) (wt : S.Rows) (ld : Bool) (hm : m1 ≤ 1000000) : ∀ (i : Nat) (st : St), i ≤ m1 → Has st [(.i .h, .c (.pt 0 0)), (.o (.o .h), .c (.pt 1 0)), (.o (.i .h), .c (.p (.int .i64 i)))] [some (.box zp (plC e mo t l nc (S.val c) ns (S.val s) ta tm r nf (S.val f))), some (.box zf (ptC n1 (S.val it) lo hi m1 (S.val wt) ld))] →
    zd (ex (cs3 hbs) (fu + 60)) 0 z5c st (.br (S.from_ (S.wtAt wt) m1 i) (.e (.exit 0) ⟨za [(.i .h, .c (.pt 0 0)), (.o (.o .h), .c (.pt 1 0))], [some (.box zp (plC e mo t l nc (S.val c) ns (S.val s) ta tm r nf (S.val f))), some (.box zf (ptC n1 (S.val it) lo hi m1 (S.val wt) ld))]⟩) (.e .ret ⟨za [(.i (.o .h), vB false)], []⟩)) :=
  z2d (σ := Nat) (fun i => [(.i .h, .c (.pt 0 0)), (.o (.o .h), .c (.pt 1 0)), (.o (.i .h), .c (.p (.int .i64 i)))]) (fun _ => [some (.box zp (plC e mo t l nc (S.val c) ns (S.val s) ta tm r nf (S.val f))), some (.box zf (ptC n1 (S.val it) lo hi m1 (S.val wt) ld))]) (fun i => i ≤ m1) (fun i => m1 - i)
    (fun i => .br (S.from_ (S.wtAt wt) m1 i) (.e (.exit 0) ⟨za [(.i .h, .c (.pt 0 0)), (.o (.o .h), .c (.pt 1 0))], [some (.box zp (plC e mo t l nc (S.val c) ns (S.val s) ta tm r nf (S.val f))), some (.box zf (ptC n1 (S.val it) lo hi m1 (S.val wt) ld))]⟩) (.e .ret ⟨za [(.i (.o .h), vB false)], []⟩)) (fun _ => Nat.zero_le _) _ (fun i Q => zpt (hbs := hbs) fu i e mo t l nc c ns s ta tm r nf f n1 it lo hi m1 wt ld Q) fun i hi' K hL X hX => by
      refine brP (fun h1 => cdP (zi (by simpa using h1)) ⟨zaf hT hT3 _ _ _ _, brP (fun h3 => cdP ?_ ?_) fun h3 => ?_⟩) fun h1 => ?_
      · have hlt : i < m1 := by simpa using h1
        simp [Cd.holds]; omega
      · have hlt : i < m1 := by simpa using h1
        refine hX (i + 1) _ (by omega) (by omega) (.cons (by kernel_rfl) rfl (.cons (by kernel_rfl) rfl (.cons (by kernel_rfl) rfl (.nil (ex := []) rfl (by kernel_rfl))))) ?_
        have e : S.wtAt wt i = true := h3
        rw [S.from_step hlt, e, Bool.true_and] at hL
        exact hL
      · have hlt : i < m1 := by simpa using h1
        have e : S.wtAt wt i = false := h3
        rw [S.from_step hlt, e, Bool.false_and] at hL
        exact Has.out (l := [(.i (.o .h), vB false)]) (.cons (by kernel_rfl) rfl (.nil (ex := _) rfl rfl)) (Nat.le_refl _) hL
      · have hlt : m1 ≤ i := by simpa using h1
        rw [S.from_end hlt] at hL
        exact Has.out (l := [(.i .h, .c (.pt 0 0)), (.o (.o .h), .c (.pt 1 0))]) (.cons (by kernel_rfl) rfl (.cons (by kernel_rfl) rfl (.nil (ex := []) rfl (by kernel_rfl)))) (Nat.zero_le _) hL
theorem zqd (e mo t l : Int) (nc : Nat) (c : S.Rows) (ns : Nat) (s : S.Rows) (ta tm r : Int) (nf : Nat) (f : S.Rows) (n1 : Nat) (it : S.Rows) (lo hi : Int) (m1 : Nat) (wt : S.Rows) (ld : Bool) (hns : ns ≤ 1000000) (hn : n1 ≤ 1000000) (hm : m1 ≤ 1000000) : z8 (cs3 hbs) zac [.ag (plC e mo t l nc (S.val c) ns (S.val s) ta tm r nf (S.val f)), .ag (ptC n1 (S.val it) lo hi m1 (S.val wt) ld)] (vB (S.point ns nf n1 it lo hi m1 wt)) [] :=
  zo hT3 (F := z5t) rfl (zpu e mo t l nc c ns s ta tm r nf f n1 it lo hi m1 wt ld _) ⟨zqw hT hT3 935 e mo t l nc c ns s ta tm r nf f n1 it lo hi m1 wt ld hm 0 _ (Nat.zero_le _) (.cons (by kernel_rfl) rfl (.cons (by kernel_rfl) rfl (.cons (by kernel_rfl) rfl (.nil (ex := []) rfl (by kernel_rfl))))),
    brP (fun h1 => ⟨zqv hT hT3 _ _ _ hn (by omega), brP (fun h2 => ⟨zaf hT hT3 _ _ _ _, brP (fun h3 => brP (fun h4 => zj (by simp [S.point, h1, h2, h3]; simpa using h4)) fun h4 => zj (by simp [S.point, h1, h2, h3]; simpa using h4)) fun h3 => zj (by simp [S.point, h1, h2, h3])⟩) fun h2 => zj (by simp [S.point, h1, h2])⟩) fun h1 => zj (by simp [S.point, h1])⟩
theorem zmm (fu : Nat) (e mo t l : Int) (nc : Nat) (c : S.Rows) (ns : Nat) (s : S.Rows) (ta tm r : Int) (nf : Nat) (f : S.Rows) (n1 : Nat) (it : S.Rows) (lo hi : Int) (m1 : Nat) (wt : S.Rows) (ld : Bool) (n : Nat) (cc : S.Rows) (tk : Int) (m : Nat) (ww : S.Rows) (W0 M0 : Int) (hW0 : -10000000 ≤ W0 ∧ W0 ≤ 10000000) (hM0 : -10000000000 ≤ M0 ∧ M0 ≤ 10000000000) (hn : n ≤ 1000) (hn1 : n ≤ n1) (hb : ∀ i, i < n → -140000 ≤ cc i 0 ∧ cc i 0 ≤ 140000 ∧ 0 ≤ it i 0 ∧ it i 0 < ns) (hs : ∀ j, j < ns → -1000 ≤ s j 0 ∧ s j 0 ≤ 1000) : ∀ (x : Nat × Int × Int) (st : St), (x.1 ≤ n ∧ (-(1000000 + 140000 * (x.1 : Int)) + W0 ≤ x.2.1 ∧ x.2.1 ≤ W0 + (1000000 + 140000 * (x.1 : Int))) ∧ (M0 - (1000000000 + 140000000 * (x.1 : Int)) ≤ x.2.2 ∧ x.2.2 ≤ M0 + (1000000000 + 140000000 * (x.1 : Int)))) →
    Has st [(.o (.o .h), .c (.pt 0 0)), (.i (.o .h), .c (.pt 1 0)), (.o (.i .h), .c (.pt 2 0)), (.i (.o (.o .h)), .c (.p (.int .i64 x.2.1))), (.o (.i (.o .h)), .c (.p (.int .i64 x.2.2))), (.i (.i (.o .h)), .c (.p (.int .i64 x.1)))] [some (.box zp (plC e mo t l nc (S.val c) ns (S.val s) ta tm r nf (S.val f))), some (.box zf (ptC n1 (S.val it) lo hi m1 (S.val wt) ld)), some (.box z7 [.p (.isl 1 n (S.val cc)), .p (.int .i64 tk), .p (.isl 1 m (S.val ww))])] →
    zd (ex (cs3 hbs) (fu + 60)) 0 z4r st (.e (.exit 0) ⟨za [(.o (.o .h), .c (.pt 0 0)), (.i (.o .h), .c (.pt 1 0)), (.o (.i .h), .c (.pt 2 0)), (.i (.o (.o .h)), vI .i64 (x.2.1 + S.sumR (S.itW cc) (n - x.1) x.1)), (.o (.i (.o .h)), vI .i64 (x.2.2 + S.sumR (S.itM cc it s) (n - x.1) x.1))], [some (.box zp (plC e mo t l nc (S.val c) ns (S.val s) ta tm r nf (S.val f))), some (.box zf (ptC n1 (S.val it) lo hi m1 (S.val wt) ld)), some (.box z7 [.p (.isl 1 n (S.val cc)), .p (.int .i64 tk), .p (.isl 1 m (S.val ww))])]⟩) :=
  z2d (σ := Nat × Int × Int) (fun x => [(.o (.o .h), .c (.pt 0 0)), (.i (.o .h), .c (.pt 1 0)), (.o (.i .h), .c (.pt 2 0)), (.i (.o (.o .h)), .c (.p (.int .i64 x.2.1))), (.o (.i (.o .h)), .c (.p (.int .i64 x.2.2))), (.i (.i (.o .h)), .c (.p (.int .i64 x.1)))]) (fun _ => [some (.box zp (plC e mo t l nc (S.val c) ns (S.val s) ta tm r nf (S.val f))), some (.box zf (ptC n1 (S.val it) lo hi m1 (S.val wt) ld)), some (.box z7 [.p (.isl 1 n (S.val cc)), .p (.int .i64 tk), .p (.isl 1 m (S.val ww))])]) (fun x => x.1 ≤ n ∧ (-(1000000 + 140000 * (x.1 : Int)) + W0 ≤ x.2.1 ∧ x.2.1 ≤ W0 + (1000000 + 140000 * (x.1 : Int))) ∧ (M0 - (1000000000 + 140000000 * (x.1 : Int)) ≤ x.2.2 ∧ x.2.2 ≤ M0 + (1000000000 + 140000000 * (x.1 : Int)))) (fun x => n - x.1)
    (fun x => .e (.exit 0) ⟨za [(.o (.o .h), .c (.pt 0 0)), (.i (.o .h), .c (.pt 1 0)), (.o (.i .h), .c (.pt 2 0)), (.i (.o (.o .h)), vI .i64 (x.2.1 + S.sumR (S.itW cc) (n - x.1) x.1)), (.o (.i (.o .h)), vI .i64 (x.2.2 + S.sumR (S.itM cc it s) (n - x.1) x.1))], [some (.box zp (plC e mo t l nc (S.val c) ns (S.val s) ta tm r nf (S.val f))), some (.box zf (ptC n1 (S.val it) lo hi m1 (S.val wt) ld)), some (.box z7 [.p (.isl 1 n (S.val cc)), .p (.int .i64 tk), .p (.isl 1 m (S.val ww))])]⟩) (fun _ => Nat.zero_le _) _ (fun x Q => zlj (hbs := hbs) fu x.1 x.2.1 x.2.2 e mo t l nc c ns s ta tm r nf f n1 it lo hi m1 wt ld n cc tk m ww Q) fun x hx K hL X hX => by
      obtain ⟨i, W, M⟩ := x
      obtain ⟨hi', hW, hM⟩ := hx
      dsimp only at hi' hW hM hL ⊢
      refine brP (fun h1 => ?_) fun h1 => ?_
      · have hlt : i < n := by simpa using h1
        obtain ⟨q1, q2, q3, q4⟩ := hb i hlt
        have q5 := hs (it i 0).toNat (by omega)
        have q6 := z2t q1 q2 q5.1 q5.2
        refine cdP (zi hlt) (cdP ?_ (cdP (zi hlt) (cdP (zi (by omega)) (cdP ⟨q3, q4⟩ (cdP ?_ (cdP ?_ (cdP ?_ ?_)))))))
        · simp [Cd.holds]; omega
        · generalize cc i 0 * s (it i 0).toNat 0 = q at *
          simp [Cd.holds]; omega
        · generalize cc i 0 * s (it i 0).toNat 0 = q at *
          simp [Cd.holds]; omega
        · simp [Cd.holds]; omega
        · refine hX (i + 1, W + S.itW cc i, M + S.itM cc it s i) _ (by show n - (i + 1) < n - i; omega) ⟨hlt, ?_, ?_⟩ (.cons (by kernel_rfl) rfl (.cons (by kernel_rfl) rfl (.cons (by kernel_rfl) rfl (.cons (by kernel_rfl) rfl (.cons (by kernel_rfl) rfl (.cons (by kernel_rfl) rfl (.nil (ex := []) rfl (by kernel_rfl)))))))) ?_
          · simp only [S.itW]; omega
          · simp only [S.itM]
            generalize cc i 0 * s (it i 0).toNat 0 = q at *
            omega
          · rw [S.sumR_step (S.itW cc) hlt, S.sumR_step (S.itM cc it s) hlt, ← Int.add_assoc, ← Int.add_assoc] at hL
            exact hL
      · have hlt : n ≤ i := by simpa using h1
        rw [S.sumR_end (S.itW cc) hlt, S.sumR_end (S.itM cc it s) hlt, Int.add_zero, Int.add_zero] at hL
        exact Has.out (l := [(.o (.o .h), .c (.pt 0 0)), (.i (.o .h), .c (.pt 1 0)), (.o (.i .h), .c (.pt 2 0)), (.i (.o (.o .h)), .c (.p (.int .i64 W))), (.o (.i (.o .h)), .c (.p (.int .i64 M)))]) (.cons (by kernel_rfl) rfl (.cons (by kernel_rfl) rfl (.cons (by kernel_rfl) rfl (.cons (by kernel_rfl) rfl (.cons (by kernel_rfl) rfl (.nil (ex := []) rfl (by kernel_rfl))))))) (Nat.zero_le _) hL
theorem zmn (fu : Nat) (e mo t l : Int) (nc : Nat) (c : S.Rows) (ns : Nat) (s : S.Rows) (ta tm r : Int) (nf : Nat) (f : S.Rows) (n1 : Nat) (it : S.Rows) (lo hi : Int) (m1 : Nat) (wt : S.Rows) (ld : Bool) (n : Nat) (cc : S.Rows) (tk : Int) (m : Nat) (ww : S.Rows) (W0 M0 : Int) (hW0 : -10000000 ≤ W0 ∧ W0 ≤ 10000000) (hM0 : -10000000000 ≤ M0 ∧ M0 ≤ 10000000000) (hm : m ≤ 1000) (hm1 : m ≤ nf) (hb : ∀ i, i < m → -140000 ≤ ww i 0 ∧ ww i 0 ≤ 140000) (hs : ∀ j, j < nf → -1000 ≤ f j 0 ∧ f j 0 ≤ 1000) : ∀ (x : Nat × Int × Int) (st : St), (x.1 ≤ m ∧ (-(1000000 + 140000 * (x.1 : Int)) + W0 ≤ x.2.1 ∧ x.2.1 ≤ W0 + (1000000 + 140000 * (x.1 : Int))) ∧ (M0 - (1000000000 + 140000000 * (x.1 : Int)) ≤ x.2.2 ∧ x.2.2 ≤ M0 + (1000000000 + 140000000 * (x.1 : Int)))) →
    Has st [(.o (.o .h), .c (.pt 0 0)), (.i (.o .h), .c (.pt 1 0)), (.o (.i .h), .c (.pt 2 0)), (.i (.o (.o .h)), .c (.p (.int .i64 x.2.1))), (.o (.i (.o .h)), .c (.p (.int .i64 x.2.2))), (.o (.o (.i .h)), .c (.p (.int .i64 x.1)))] [some (.box zp (plC e mo t l nc (S.val c) ns (S.val s) ta tm r nf (S.val f))), some (.box zf (ptC n1 (S.val it) lo hi m1 (S.val wt) ld)), some (.box z7 [.p (.isl 1 n (S.val cc)), .p (.int .i64 tk), .p (.isl 1 m (S.val ww))])] →
    zd (ex (cs3 hbs) (fu + 60)) 0 z4s st (.e (.exit 2) ⟨za [(.i (.o (.o .h)), vI .i64 (x.2.1 + S.sumR (S.itW ww) (m - x.1) x.1)), (.o (.i (.o .h)), vI .i64 (x.2.2 + S.sumR (S.wtM ww f) (m - x.1) x.1))], []⟩) :=
  z2d (σ := Nat × Int × Int) (fun x => [(.o (.o .h), .c (.pt 0 0)), (.i (.o .h), .c (.pt 1 0)), (.o (.i .h), .c (.pt 2 0)), (.i (.o (.o .h)), .c (.p (.int .i64 x.2.1))), (.o (.i (.o .h)), .c (.p (.int .i64 x.2.2))), (.o (.o (.i .h)), .c (.p (.int .i64 x.1)))]) (fun _ => [some (.box zp (plC e mo t l nc (S.val c) ns (S.val s) ta tm r nf (S.val f))), some (.box zf (ptC n1 (S.val it) lo hi m1 (S.val wt) ld)), some (.box z7 [.p (.isl 1 n (S.val cc)), .p (.int .i64 tk), .p (.isl 1 m (S.val ww))])]) (fun x => x.1 ≤ m ∧ (-(1000000 + 140000 * (x.1 : Int)) + W0 ≤ x.2.1 ∧ x.2.1 ≤ W0 + (1000000 + 140000 * (x.1 : Int))) ∧ (M0 - (1000000000 + 140000000 * (x.1 : Int)) ≤ x.2.2 ∧ x.2.2 ≤ M0 + (1000000000 + 140000000 * (x.1 : Int)))) (fun x => m - x.1)
    (fun x => .e (.exit 2) ⟨za [(.i (.o (.o .h)), vI .i64 (x.2.1 + S.sumR (S.itW ww) (m - x.1) x.1)), (.o (.i (.o .h)), vI .i64 (x.2.2 + S.sumR (S.wtM ww f) (m - x.1) x.1))], []⟩) (fun _ => Nat.zero_le _) _ (fun x Q => zlk (hbs := hbs) fu x.1 x.2.1 x.2.2 e mo t l nc c ns s ta tm r nf f n1 it lo hi m1 wt ld n cc tk m ww Q) fun x hx K hL X hX => by
      obtain ⟨i, W, M⟩ := x
      obtain ⟨hi', hW, hM⟩ := hx
      dsimp only at hi' hW hM hL ⊢
      refine brP (fun h1 => ?_) fun h1 => ?_
      · have hlt : i < m := by simpa using h1
        obtain ⟨q1, q2⟩ := hb i hlt
        have q5 := hs i (by omega)
        have q6 := z2t q1 q2 q5.1 q5.2
        refine cdP (zi hlt) (cdP ?_ (cdP (zi hlt) (cdP (zi (by omega)) (cdP ?_ (cdP ?_ (cdP ?_ ?_))))))
        · simp [Cd.holds]; omega
        · generalize ww i 0 * f i 0 = q at *
          simp [Cd.holds]; omega
        · generalize ww i 0 * f i 0 = q at *
          simp [Cd.holds]; omega
        · simp [Cd.holds]; omega
        · refine hX (i + 1, W + S.itW ww i, M + S.wtM ww f i) _ (by show m - (i + 1) < m - i; omega) ⟨hlt, ?_, ?_⟩ (.cons (by kernel_rfl) rfl (.cons (by kernel_rfl) rfl (.cons (by kernel_rfl) rfl (.cons (by kernel_rfl) rfl (.cons (by kernel_rfl) rfl (.cons (by kernel_rfl) rfl (.nil (ex := []) rfl (by kernel_rfl)))))))) ?_
          · simp only [S.itW]; omega
          · simp only [S.wtM]
            generalize ww i 0 * f i 0 = q at *
            omega
          · rw [S.sumR_step (S.itW ww) hlt, S.sumR_step (S.wtM ww f) hlt, ← Int.add_assoc, ← Int.add_assoc] at hL
            exact hL
      · have hlt : m ≤ i := by simpa using h1
        rw [S.sumR_end (S.itW ww) hlt, S.sumR_end (S.wtM ww f) hlt, Int.add_zero, Int.add_zero] at hL
        exact Has.out (l := [(.i (.o (.o .h)), .c (.p (.int .i64 W))), (.o (.i (.o .h)), .c (.p (.int .i64 M)))]) (.cons (by kernel_rfl) rfl (.cons (by kernel_rfl) rfl (.nil (ex := _) rfl rfl))) (Nat.le_refl _) hL
theorem zc8 (e mo t l : Int) (nc : Nat) (c : S.Rows) (ns : Nat) (s : S.Rows) (ta tm r : Int) (nf : Nat) (f : S.Rows) (n1 : Nat) (it : S.Rows) (lo hi : Int) (m1 : Nat) (wt : S.Rows) (ld : Bool) (n : Nat) (cc : S.Rows) (tk : Int) (m : Nat) (ww : S.Rows) (hn : n ≤ 20) (hn1 : n ≤ n1) (hm : m ≤ 20) (hm1 : m ≤ nf)
    (hb : ∀ i, i < n → -140000 ≤ cc i 0 ∧ cc i 0 ≤ 140000 ∧ 0 ≤ it i 0 ∧ it i 0 < ns) (hs : ∀ j, j < ns → -1000 ≤ s j 0 ∧ s j 0 ≤ 1000) (hb2 : ∀ i, i < m → -140000 ≤ ww i 0 ∧ ww i 0 ≤ 140000) (hs2 : ∀ j, j < nf → -1000 ≤ f j 0 ∧ f j 0 ≤ 1000)
    (he : -20000 ≤ e ∧ e ≤ 20000) (hmo : -20000000 ≤ mo ∧ mo ≤ 20000000) (htk : -140000 ≤ tk ∧ tk ≤ 140000) (hta : -1000 ≤ ta ∧ ta ≤ 1000) :
    z8 (cs3 hbs) z1m [.ag (plC e mo t l nc (S.val c) ns (S.val s) ta tm r nf (S.val f)), .ag (ptC n1 (S.val it) lo hi m1 (S.val wt) ld), .ag [.p (.isl 1 n (S.val cc)), .p (.int .i64 tk), .p (.isl 1 m (S.val ww))]] (.tp [vI .i64 (S.wgt e tk n cc m ww), vI .i64 (S.mom mo tk ta n cc it s m ww f)]) [] := by
  have q := z2t htk.1 htk.2 hta.1 hta.2
  refine zo hT3 (F := z4z) rfl (znp e mo t l nc c ns s ta tm r nf f n1 it lo hi m1 wt ld n cc tk m ww _) (cdP ?_ (cdP ?_ (cdP ?_ ⟨?_, ?_, ?_⟩)))
  · simp [Cd.holds]; omega
  · generalize tk * ta = q at *
    simp [Cd.holds]; omega
  · generalize tk * ta = q at *
    simp [Cd.holds]; omega
  · refine zmm hT hT3 934 e mo t l nc c ns s ta tm r nf f n1 it lo hi m1 wt ld n cc tk m ww 0 0 (by omega) (by omega) (by omega) hn1 hb hs (0, e + tk, mo + tk * ta) _ ⟨Nat.zero_le _, ?_, ?_⟩ (.cons (by kernel_rfl) rfl (.cons (by kernel_rfl) rfl (.cons (by kernel_rfl) rfl (.cons (by kernel_rfl) rfl (.cons (by kernel_rfl) rfl (.cons (by kernel_rfl) rfl (.nil (ex := []) rfl (by kernel_rfl))))))))
    · dsimp only; omega
    · dsimp only
      generalize tk * ta = q at *
      omega
  · have w1 := S.sumR_in (f := S.itW cc) (B := 140000) (k := n) (i := 0) fun j _ h => ⟨(hb j (by omega)).1, (hb j (by omega)).2.1⟩
    have w2 := S.sumR_in (f := S.itM cc it s) (B := 140000000) (k := n) (i := 0) fun j _ h => by
      obtain ⟨q1, q2, q3, q4⟩ := hb j (by omega)
      have q5 := hs (it j 0).toNat (by omega)
      exact z2t q1 q2 q5.1 q5.2
    refine zmn hT hT3 933 e mo t l nc c ns s ta tm r nf f n1 it lo hi m1 wt ld n cc tk m ww (e + tk + S.sumR (S.itW cc) n 0) (mo + tk * ta + S.sumR (S.itM cc it s) n 0) ?_ ?_ (by omega) hm1 hb2 hs2 (0, e + tk + S.sumR (S.itW cc) n 0, mo + tk * ta + S.sumR (S.itM cc it s) n 0) _ ⟨Nat.zero_le _, ?_, ?_⟩ (.cons (by kernel_rfl) rfl (.cons (by kernel_rfl) rfl (.cons (by kernel_rfl) rfl (.cons (by kernel_rfl) rfl (.cons (by kernel_rfl) rfl (.cons (by kernel_rfl) rfl (.nil (ex := []) rfl (by kernel_rfl))))))))
    · omega
    · generalize tk * ta = q at *
      omega
    · dsimp only; omega
    · dsimp only; omega
  · rfl
end
section
variable {hbs : BsOk Tryz.prog}
theorem zvu (fu i : Nat) (N : Int) (n1 : Nat) (it : S.Rows) (lo hi : Int) (m1 : Nat) (wt : S.Rows) (ld : Bool) (n : Nat) (cc : S.Rows) (tk : Int) (m : Nat) (ww : S.Rows) (st : Int) (Q : AX → St → Prop) :
 ((fun (A0 : Heap) => ((fun (A1 : AV) => ((fun (A2 : Tr) => ((BrP (decide ((i : Int) < (n : Int)))
 (CdP (.rng (i : Int) n1)
 (BrP ((it i 0) == st)
 (CdP (.rng (i : Int) n)
 (CdP (.i64 (N + (cc i 0)))
 (CdP (.i64 ((i : Int) + (1 : Int)))
 (Q .normal ⟨(L4 (L4 (.nd (.nd (L1 A1) (vJ (N + (cc i 0))) (L1 (vB true))) (vT 0 0) (.nd (L1 (.c (.p (.ipt 3 (S.val it i))))) (vS 1 n cc) (L1 (vN i)))) (L4 (.nd (L1 (vS 3 n1 it)) (vN i) (L1 (vT 1 0))) (.nd (L1 (vJ (it i 0))) (vB true) (L1 (vJ (cc i 0)))))) (.nd (.nd (.nd (L1 (vT 0 0)) A1 (L1 (vJ N))) (vT 1 0) (.nd A2 (vN n) (L1 (.c (.p (.ipt 1 (S.val cc i))))))) (vJ st) (L4 (.nd (L1 (vN i)) (vT 1 0) (L1 (vS 1 n cc))) (.nd (L1 (vJ st)) (vN i) (L1 (vJ (N + (cc i 0)))))))), A0⟩))))
 (CdP (.i64 ((i : Int) + (1 : Int)))
 (Q .normal ⟨(L4 (L4 (.nd (.nd (L1 A1) (vJ N) (L1 (vB false))) (vT 0 0) (L6 (L1 (.c (.p (.ipt 3 (S.val it i))))) (vS 1 n cc))) (L4 (L6 (L1 (vS 3 n1 it)) (vN i)) (L6 (L1 (vJ (it i 0))) (vB true)))) (.nd (.nd (L6 (L1 (vT 0 0)) A1) (vT 1 0) (L6 A2 (vN n))) (vJ st) (L4 (L6 (L1 (vN i)) (vT 1 0)) (L6 (L1 (vJ st)) (vN i))))), A0⟩))))
 (Q (.exit 0) ⟨(L4 (L4 (.nd (L1 (vJ N)) (vT 0 0) (L1 (vS 1 n cc))) (L4 (L1 (vN i)) (L1 (vB false)))) (.nd (.nd (L1 (vN i)) (vT 1 0) (L1 (vN n))) (vJ st) (L3 (L1 (vT 1 0))))), A0⟩)))) (L1 (.c (.p (.ipt 3 (fun x17 => (.int .i64 (it i (0 + x17)))))))))) (vJ ((i : Int) + (1 : Int))))) [(bX n1 it lo hi m1 wt ld), (bC n cc tk m ww)]) = (ex (cs3 hbs) (fu + 60) 0 z7u ⟨za [(.o (.o .h), .c (.pt 0 0)), (.i (.o .h), .c (.pt 1 0)), (.i .h, .c (cJ st)), (.o (.o (.o .h)), .c (cJ N)), (.i (.o (.o .h)), .c (cJ i))], [some (.box zf (ptC n1 (S.val it) lo hi m1 (S.val wt) ld)), some (.box z7 [.p (.isl 1 n (S.val cc)), .p (.int .i64 tk), .p (.isl 1 m (S.val ww))])]⟩ (fun e s => .pr (Q e s))).hold2 := by kernel_rfl
theorem zvv (n1 : Nat) (it : S.Rows) (lo hi : Int) (m1 : Nat) (wt : S.Rows) (ld : Bool) (n : Nat) (cc : S.Rows) (tk : Int) (m : Nat) (ww : S.Rows) (st : Int) (Q : AV → Heap → Prop) :
 (((zd (ex (cs3 hbs) 994) 0 z7u ⟨(.nd (L6 (L6 (L1 (vJ 0)) (vT 0 0)) (.ag (kC n cc tk m ww))) (.ag (kX n1 it lo hi m1 wt ld)) (.nd (L6 (L1 (vJ 0)) (vT 1 0)) (vJ st) (L1 (vJ 0)))), [(bX n1 it lo hi m1 wt ld), (bC n cc tk m ww)]⟩ (.e (.exit 0) ⟨(L3 (L3 (L3 (L1 (vJ ((0 : Int) + (S.sumR (S.atR it cc st) n 0))))))), []⟩)) ∧
 (Q (vJ ((0 : Int) + (S.sumR (S.atR it cc st) n 0))) []))) = (ex (cs3 hbs) 1000 0 zo1 ⟨ofL 0 [.ag (ptC n1 (S.val it) lo hi m1 (S.val wt) ld), .ag [.p (.isl 1 n (S.val cc)), .p (.int .i64 tk), .p (.isl 1 m (S.val ww))], .c (cJ st)] .lf, []⟩ (endK z8m.rs (fun r H => .pr (Q r H)) fun _ _ => .no)).hold2 := by kernel_rfl
theorem zsq (e mo t l : Int) (nc : Nat) (c : S.Rows) (ns : Nat) (s : S.Rows) (ta tm r : Int) (nf : Nat) (f : S.Rows) (ru : Int) (Q : AV → Heap → Prop) :
 ((fun (A0 : Heap) => ((BrP (ru == (2 : Int))
 (Q (vN ns) A0)
 (BrP (ru == (4 : Int))
 (Q (vN nf) A0)
 (BrP (ru == (6 : Int))
 (Q (vN nc) A0)
 (Q (vJ 1) A0)))))) [(bP e mo t l nc c ns s ta tm r nf f)]) = (ex (cs3 hbs) 1000 0 zh4 ⟨ofL 0 [.ag (plC e mo t l nc (S.val c) ns (S.val s) ta tm r nf (S.val f)), .c (cJ ru)] .lf, []⟩ (endK z6m.rs (fun r H => .pr (Q r H)) fun _ _ => .no)).hold2 := by kernel_rfl
theorem zo2 (e mo t l : Int) (nc : Nat) (c : S.Rows) (ns : Nat) (s : S.Rows) (ta tm r : Int) (nf : Nat) (f : S.Rows) (n1 : Nat) (it : S.Rows) (lo hi : Int) (m1 : Nat) (wt : S.Rows) (ld : Bool) (n : Nat) (cc : S.Rows) (tk : Int) (m : Nat) (ww : S.Rows) (ru ix : Int) (Q : AV → Heap → Prop) :
 ((fun (A0 : Heap) => (((z8 (cs3 hbs) z1m [(.ag (kP e mo t l nc c ns s ta tm r nf f)), (.ag (kX n1 it lo hi m1 wt ld)), (.ag (kC n cc tk m ww))] (.tp [(vJ (S.wgt e tk n cc m ww)), (vJ (S.mom mo tk ta n cc it s m ww f))]) []) ∧
 (BrP (ru == (2 : Int))
 (CdP (.i64 ((ns : Int) - (1 : Int)))
 ((z8 (cs3 hbs) z15 [(vJ ix), (vJ 0), (vJ ((ns : Int) - (1 : Int)))] (.c (.p (.bool (S.inB (0 : Int) ix ((ns : Int) - (1 : Int)))))) []) ∧
 (BrP (S.inB (0 : Int) ix ((ns : Int) - (1 : Int)))
 ((z8 (cs3 hbs) ze7 [(.ag (kX n1 it lo hi m1 wt ld)), (.ag (kC n cc tk m ww)), (vJ ix)] (vJ (S.sumR (S.atR it cc ix) n 0)) []) ∧
 (CdP (.rng ix ns)
 (BrP (decide ((S.sumR (S.atR it cc ix) n 0) > (s (Int.toNat ix) 1)))
 (Q (vB true) A0)
 (Q (vB false) A0))))
 (Q (vB false) A0))))
 (BrP (ru == (3 : Int))
 (BrP (ix == (0 : Int))
 (BrP (decide (tk > tm))
 (Q (vB true) A0)
 (Q (vB false) A0))
 (Q (vB false) A0))
 (BrP (ru == (4 : Int))
 (CdP (.i64 ((nf : Int) - (1 : Int)))
 ((z8 (cs3 hbs) z15 [(vJ ix), (vJ 0), (vJ ((nf : Int) - (1 : Int)))] (.c (.p (.bool (S.inB (0 : Int) ix ((nf : Int) - (1 : Int)))))) []) ∧
 (BrP (S.inB (0 : Int) ix ((nf : Int) - (1 : Int)))
 (CdP (.rng ix m)
 (CdP (.rng ix nf)
 (BrP (decide ((ww (Int.toNat ix) 0) > (f (Int.toNat ix) 1)))
 (Q (vB true) A0)
 (Q (vB false) A0))))
 (Q (vB false) A0))))
 (BrP (ru == (5 : Int))
 (BrP (ix == (0 : Int))
 (BrP ld
 (BrP ld
 (BrP (decide ((S.wgt e tk n cc m ww) > l))
 (Q (vB true) A0)
 (Q (vB false) A0))
 (Q (vB false) A0))
 (BrP (decide ((S.wgt e tk n cc m ww) > t))
 (Q (vB true) A0)
 (BrP ld
 (BrP (decide ((S.wgt e tk n cc m ww) > l))
 (Q (vB true) A0)
 (Q (vB false) A0))
 (Q (vB false) A0))))
 (Q (vB false) A0))
 (BrP (ru == (6 : Int))
 (CdP (.i64 ((nc : Int) - (1 : Int)))
 ((z8 (cs3 hbs) z15 [(vJ ix), (vJ 0), (vJ ((nc : Int) - (1 : Int)))] (.c (.p (.bool (S.inB (0 : Int) ix ((nc : Int) - (1 : Int)))))) []) ∧
 (BrP (S.inB (0 : Int) ix ((nc : Int) - (1 : Int)))
 ((z8 (cs3 hbs) z6o [(.ag (kP e mo t l nc c ns s ta tm r nf f)), (vJ ix), (vJ (S.wgt e tk n cc m ww)), (vJ (S.mom mo tk ta n cc it s m ww f))] (vJ (S.sd nc c (Int.toNat ix) (S.wgt e tk n cc m ww) (S.mom mo tk ta n cc it s m ww f))) []) ∧
 (BrP (decide ((S.sd nc c (Int.toNat ix) (S.wgt e tk n cc m ww) (S.mom mo tk ta n cc it s m ww f)) < (0 : Int)))
 (Q (vB true) A0)
 (Q (vB false) A0)))
 (Q (vB false) A0))))
 (BrP (ru == (7 : Int))
 (BrP (ix == (0 : Int))
 (BrP ld
 (BrP (decide (tk < r))
 (Q (vB true) A0)
 (Q (vB false) A0))
 (Q (vB false) A0))
 (Q (vB false) A0))
 (Q (vB false) A0)))))))))) [(bP e mo t l nc c ns s ta tm r nf f), (bX n1 it lo hi m1 wt ld), (bC n cc tk m ww)]) = (ex (cs3 hbs) 1000 0 zdd ⟨ofL 0 [.ag (plC e mo t l nc (S.val c) ns (S.val s) ta tm r nf (S.val f)), .ag (ptC n1 (S.val it) lo hi m1 (S.val wt) ld), .ag [.p (.isl 1 n (S.val cc)), .p (.int .i64 tk), .p (.isl 1 m (S.val ww))], .c (cJ ru), .c (cJ ix)] .lf, []⟩ (endK z50.rs (fun r H => .pr (Q r H)) fun _ _ => .no)).hold2 := by kernel_rfl
end
section
variable {hbs : BsOk Tryz.prog} (hT : zq (cs hbs)) (hT3 : zq (cs3 hbs))
include hT hT3
theorem zw3 (fu : Nat) (n1 : Nat) (it : S.Rows) (lo hi : Int) (m1 : Nat) (wt : S.Rows) (ld : Bool) (n : Nat) (cc : S.Rows) (tk : Int) (m : Nat) (ww : S.Rows) (st : Int) (hn : n ≤ 1000) (hn1 : n ≤ n1) (hb : ∀ i, i < n → -140000 ≤ cc i 0 ∧ cc i 0 ≤ 140000) : ∀ (x : Nat × Int) (s : St), (x.1 ≤ n ∧ -(140000 * (x.1 : Int)) ≤ x.2 ∧ x.2 ≤ 140000 * (x.1 : Int)) → Has s [(.o (.o .h), .c (.pt 0 0)), (.i (.o .h), .c (.pt 1 0)), (.i .h, .c (.p (.int .i64 st))), (.o (.o (.o .h)), .c (.p (.int .i64 x.2))), (.i (.o (.o .h)), .c (.p (.int .i64 x.1)))] [some (.box zf (ptC n1 (S.val it) lo hi m1 (S.val wt) ld)), some (.box z7 [.p (.isl 1 n (S.val cc)), .p (.int .i64 tk), .p (.isl 1 m (S.val ww))])] →
    zd (ex (cs3 hbs) (fu + 60)) 0 z7u s (.e (.exit 0) ⟨za [(.o (.o (.o .h)), vI .i64 (x.2 + S.sumR (S.atR it cc st) (n - x.1) x.1))], []⟩) :=
  z2d (σ := Nat × Int) (fun x => [(.o (.o .h), .c (.pt 0 0)), (.i (.o .h), .c (.pt 1 0)), (.i .h, .c (.p (.int .i64 st))), (.o (.o (.o .h)), .c (.p (.int .i64 x.2))), (.i (.o (.o .h)), .c (.p (.int .i64 x.1)))]) (fun _ => [some (.box zf (ptC n1 (S.val it) lo hi m1 (S.val wt) ld)), some (.box z7 [.p (.isl 1 n (S.val cc)), .p (.int .i64 tk), .p (.isl 1 m (S.val ww))])]) (fun x => x.1 ≤ n ∧ -(140000 * (x.1 : Int)) ≤ x.2 ∧ x.2 ≤ 140000 * (x.1 : Int)) (fun x => n - x.1)
    (fun x => .e (.exit 0) ⟨za [(.o (.o (.o .h)), vI .i64 (x.2 + S.sumR (S.atR it cc st) (n - x.1) x.1))], []⟩) (fun _ => Nat.zero_le _) _ (fun x Q => zvu (hbs := hbs) fu x.1 x.2 n1 it lo hi m1 wt ld n cc tk m ww st Q) fun x hx K hL X hX => by
      obtain ⟨i, N⟩ := x
      obtain ⟨hi', hN⟩ := hx
      dsimp only at hi' hN hL ⊢
      refine brP (fun h1 => ?_) fun h1 => ?_
      · have hlt : i < n := by simpa using h1
        have q1 := hb i hlt
        refine cdP (zi (by omega)) (brP (fun h2 => cdP (zi hlt) (cdP ?_ (cdP ?_ ?_))) fun h2 => cdP ?_ ?_)
        · simp [Cd.holds]; omega
        · simp [Cd.holds]; omega
        · refine hX (i + 1, N + S.atR it cc st i) _ (by show n - (i + 1) < n - i; omega) ⟨hlt, ?_⟩ ?_ ?_
          · simp only [S.atR, h2]; omega
          · have e : S.atR it cc st i = cc i 0 := by simp only [S.atR, h2]
            rw [e]
            exact (.cons (by kernel_rfl) rfl (.cons (by kernel_rfl) rfl (.cons (by kernel_rfl) rfl (.cons (by kernel_rfl) rfl (.cons (by kernel_rfl) rfl (.nil (ex := []) rfl (by kernel_rfl)))))))
          · rw [S.sumR_step _ hlt, ← Int.add_assoc] at hL
            exact hL
        · simp [Cd.holds]; omega
        · have e : S.atR it cc st i = 0 := by simp only [S.atR, h2]
          rw [S.sumR_step _ hlt, e, Int.zero_add] at hL
          exact hX (i + 1, N) _ (by show n - (i + 1) < n - i; omega) ⟨hlt, by dsimp only; omega⟩ (.cons (by kernel_rfl) rfl (.cons (by kernel_rfl) rfl (.cons (by kernel_rfl) rfl (.cons (by kernel_rfl) rfl (.cons (by kernel_rfl) rfl (.nil (ex := []) rfl (by kernel_rfl))))))) hL
      · have hlt : n ≤ i := by simpa using h1
        rw [S.sumR_end _ hlt, Int.add_zero] at hL
        exact Has.out (l := [(.o (.o (.o .h)), .c (.p (.int .i64 N)))]) (.cons (by kernel_rfl) rfl (.nil (ex := _) rfl rfl)) (Nat.le_refl _) hL
theorem zw4 (n1 : Nat) (it : S.Rows) (lo hi : Int) (m1 : Nat) (wt : S.Rows) (ld : Bool) (n : Nat) (cc : S.Rows) (tk : Int) (m : Nat) (ww : S.Rows) (st : Int) (hn : n ≤ 1000) (hn1 : n ≤ n1) (hb : ∀ i, i < n → -140000 ≤ cc i 0 ∧ cc i 0 ≤ 140000) :
    z8 (cs3 hbs) ze7 [.ag (ptC n1 (S.val it) lo hi m1 (S.val wt) ld), .ag [.p (.isl 1 n (S.val cc)), .p (.int .i64 tk), .p (.isl 1 m (S.val ww))], .c (.p (.int .i64 st))] (vI .i64 (S.sumR (S.atR it cc st) n 0)) [] :=
  zo hT3 (F := z8m) rfl (zvv n1 it lo hi m1 wt ld n cc tk m ww st _) ⟨zw3 hT hT3 934 n1 it lo hi m1 wt ld n cc tk m ww st hn hn1 hb (0, 0) _ ⟨Nat.zero_le _, by simp⟩ (.cons (by kernel_rfl) rfl (.cons (by kernel_rfl) rfl (.cons (by kernel_rfl) rfl (.cons (by kernel_rfl) rfl (.cons (by kernel_rfl) rfl (.nil (ex := []) rfl (by kernel_rfl))))))), by show some (vI .i64 (0 + S.sumR (S.atR it cc st) n 0)) = _; rw [Int.zero_add]⟩
theorem zs5 (e mo t l : Int) (nc : Nat) (c : S.Rows) (ns : Nat) (s : S.Rows) (ta tm r : Int) (nf : Nat) (f : S.Rows) (ru : Int) : z8 (cs3 hbs) zbk [.ag (plC e mo t l nc (S.val c) ns (S.val s) ta tm r nf (S.val f)), .c (.p (.int .i64 ru))] (vI .i64 (S.many nc ns nf ru)) [] :=
  zo hT3 (F := z6m) rfl (zsq e mo t l nc c ns s ta tm r nf f ru _) (brP (fun h1 => by simp only [S.many, h1]; rfl) fun h1 => brP (fun h2 => by simp only [S.many, h1, h2]; rfl) fun h2 => brP (fun h3 => by simp only [S.many, h1, h2, h3]; rfl) fun h3 => by simp only [S.many, h1, h2, h3]; rfl)
theorem zmv (e mo t l : Int) (nc : Nat) (c : S.Rows) (ns : Nat) (s : S.Rows) (ta tm r : Int) (nf : Nat) (f : S.Rows) (n1 : Nat) (it : S.Rows) (lo hi : Int) (m1 : Nat) (wt : S.Rows) (ld : Bool) (n : Nat) (cc : S.Rows) (tk : Int) (m : Nat) (ww : S.Rows) (ru ix : Int) (hn : n ≤ 12) (hn1 : n ≤ n1) (hm : m = nf) (hm1 : nf ≤ 2) (hns : ns ≤ 8) (hncm : nc ≤ maxLen) (hnc : nc ≤ 12)
    (hb : ∀ i, i < n → 0 ≤ cc i 0 ∧ cc i 0 ≤ 20000 ∧ 0 ≤ it i 0 ∧ it i 0 < ns) (hs : ∀ j, j < ns → -1000 ≤ s j 0 ∧ s j 0 ≤ 1000) (hb2 : ∀ i, i < m → 0 ≤ ww i 0 ∧ ww i 0 ≤ 120000) (hs2 : ∀ j, j < nf → -1000 ≤ f j 0 ∧ f j 0 ≤ 1000)
    (he : -20000 ≤ e ∧ e ≤ 20000) (hmo : -20000000 ≤ mo ∧ mo ≤ 20000000) (htk : -140000 ≤ tk ∧ tk ≤ 140000) (hta : -1000 ≤ ta ∧ ta ≤ 1000) (hc : S.cor nc c = true) :
    z8 (cs3 hbs) z99 [.ag (plC e mo t l nc (S.val c) ns (S.val s) ta tm r nf (S.val f)), .ag (ptC n1 (S.val it) lo hi m1 (S.val wt) ld), .ag [.p (.isl 1 n (S.val cc)), .p (.int .i64 tk), .p (.isl 1 m (S.val ww))], .c (.p (.int .i64 ru)), .c (.p (.int .i64 ix))] (vB (S.brk e mo t l nc c ns s ta tm r nf f it ld n cc tk m ww ru ix)) [] := by
  have w1 := S.sumR_in (f := S.itW cc) (B := 20000) (k := n) (i := 0) fun j _ h => by have := hb j (by omega); simp only [S.itW]; omega
  have w2 := S.sumR_in (f := S.itM cc it s) (B := 20000000) (k := n) (i := 0) fun j _ h => by
    obtain ⟨q1, q2, q3, q4⟩ := hb j (by omega)
    have q5 := hs (it j 0).toNat (by omega)
    exact z2t (A := 20000) (B := 1000) (by omega) q2 q5.1 q5.2
  have w3 := S.sumR_in (f := S.itW ww) (B := 120000) (k := m) (i := 0) fun j _ h => by have := hb2 j (by omega); simp only [S.itW]; omega
  have w4 := S.sumR_in (f := S.wtM ww f) (B := 120000000) (k := m) (i := 0) fun j _ h => by
    obtain ⟨q1, q2⟩ := hb2 j (by omega)
    have q5 := hs2 j (by omega)
    exact z2t (A := 120000) (B := 1000) (by omega) q2 q5.1 q5.2
  have w5 := z2t (A := 140000) (B := 1000) htk.1 htk.2 hta.1 hta.2
  have hW : -1000000 ≤ S.wgt e tk n cc m ww ∧ S.wgt e tk n cc m ww ≤ 1000000 := by simp only [S.wgt]; omega
  have hM : -1000000000 ≤ S.mom mo tk ta n cc it s m ww f ∧ S.mom mo tk ta n cc it s m ww f ≤ 1000000000 := by
    simp only [S.mom]
    generalize tk * ta = q at *
    omega
  have wg := zc8 hT hT3 e mo t l nc c ns s ta tm r nf f n1 it lo hi m1 wt ld n cc tk m ww (by omega) hn1 (by omega) (by omega) (fun i h => by have := hb i h; omega) hs (fun i h => by have := hb2 i h; omega) hs2 he hmo htk hta
  have at_ := zw4 hT hT3 n1 it lo hi m1 wt ld n cc tk m ww ix (by omega) hn1 (fun i h => by have := hb i h; omega)
  have rg : ∀ k : Nat, S.inB 0 ix ((k : Int) - 1) = true → Cd.holds (.rng ix k) := fun k h => by
    rw [S.inB_iff] at h
    exact ⟨by omega, by omega⟩
  have side : S.inB 0 ix ((nc : Int) - 1) = true → z8 (cs3 hbs) z6o [.ag (plC e mo t l nc (S.val c) ns (S.val s) ta tm r nf (S.val f)), .c (.p (.int .i64 ix)), .c (.p (.int .i64 (S.wgt e tk n cc m ww))), .c (.p (.int .i64 (S.mom mo tk ta n cc it s m ww f)))] (vI .i64 (S.sd nc c ix.toNat (S.wgt e tk n cc m ww) (S.mom mo tk ta n cc it s m ww f))) [] := fun h => by
    rw [S.inB_iff] at h
    have hx : ((ix.toNat : Nat) : Int) = ix := by omega
    have := z8.cfg (C := cs hbs) (C' := cs3 hbs) rfl rfl (zf4 (e := e) (m := mo) (t := t) (l := l) (nc := nc) (c := c) (ns := ns) (s := s) (ta := ta) (tm := tm) (r := r) (nf := nf) (f := f) (ed := ix.toNat) hncm hT hc (by omega) hW.1 hW.2 hM.1 hM.2)
    rw [hx] at this
    exact this
  subst hm
  refine zo hT3 (F := z50) rfl (zo2 e mo t l nc c ns s ta tm r m f n1 it lo hi m1 wt ld n cc tk m ww ru ix _) ⟨wg, brP (fun h1 => cdP ?_ ⟨z6w hT hT3 _ _ _, brP (fun h2 => ⟨at_, cdP ?_ (brP (fun h3 => zj ?_) fun h3 => zj ?_)⟩) fun h2 => zj ?_⟩)
    fun h1 => brP (fun h2 => brP (fun h3 => brP (fun h4 => zj ?_) fun h4 => zj ?_) fun h3 => zj ?_)
    fun h2 => brP (fun h3 => cdP ?_ ⟨z6w hT hT3 _ _ _, brP (fun h4 => cdP ?_ (cdP ?_ (brP (fun h5 => zj ?_) fun h5 => zj ?_))) fun h4 => zj ?_⟩)
    fun h3 => brP (fun h4 => brP (fun h5 => brP (fun h6 => brP (fun h7 => brP (fun h8 => zj ?_) fun h8 => zj ?_) fun h7 => zj ?_) fun h6 => brP (fun h7 => zj ?_) fun h7 => brP (fun h8 => brP (fun h9 => zj ?_) fun h9 => zj ?_) fun h8 => zj ?_) fun h5 => zj ?_)
    fun h4 => brP (fun h5 => cdP ?_ ⟨z6w hT hT3 _ _ _, brP (fun h6 => ⟨?_, brP (fun h7 => zj ?_) fun h7 => zj ?_⟩) fun h6 => zj ?_⟩)
    fun h5 => brP (fun h6 => brP (fun h7 => brP (fun h8 => brP (fun h9 => zj ?_) fun h9 => zj ?_) fun h8 => zj ?_) fun h7 => zj ?_) fun h6 => zj ?_⟩
  all_goals first
    | exact rg _ (by assumption)
    | exact side (by assumption)
    | (simp [Cd.holds]; omega; done)
    | (simp only [S.brk, *]; done)
    | (simp_all [S.brk]; done)
    | fail
end
section
variable {hbs : BsOk Tryz.prog}
theorem zl5 (l h lo hi : Int) (Q : AV → Heap → Prop) :
 ((fun (A0 : Heap) => ((BrP (decide (lo ≤ l))
 (BrP (decide (l ≤ h))
 (BrP (decide (h ≤ hi))
 (Q (vB true) A0)
 (Q (vB false) A0))
 (Q (vB false) A0))
 (Q (vB false) A0)))) [(some (.box zm [(cJ l), (cJ h)])), (some (.box zm [(cJ lo), (cJ hi)]))]) = (ex (cs3 hbs) 1000 0 zcf ⟨ofL 0 [.ag [.p (.int .i64 l), .p (.int .i64 h)], .ag [.p (.int .i64 lo), .p (.int .i64 hi)]] .lf, []⟩ (endK z45.rs (fun r H => .pr (Q r H)) fun _ _ => .no)).hold2 := by kernel_rfl
theorem zj5 (fu i n : Nat) (c : S.Rows) (st : Int) (Q : AX → St → Prop) :
 ((fun (A0 : List CV) => ((fun (A2 : AV) => ((fun (A1 : Tr) => ((fun (A3 : Tr) => ((fun (A4 : Heap) => ((fun (A5 : AV) => ((BrP (decide ((i : Int) < (n : Int)))
 (CdP (.rng (i : Int) n)
 (CdP (.i64 (st - (1 : Int)))
 ((z8 (cs3 hbs) z1d [A2, (vJ (c i 0))] (.c (.p (.bool (S.inB (0 : Int) (c i 0) (st - (1 : Int)))))) []) ∧
 (BrP (S.inB (0 : Int) (c i 0) (st - (1 : Int)))
 ((z8 (cs3 hbs) z44 [(.ag [(cJ (c i 1)), (cJ (c i 2))]), (.ag [(cJ 0), (cJ 20000)])] (.c (.p (.bool (S.span (c i 1) (c i 2) (0 : Int) (20000 : Int))))) []) ∧
 (BrP (S.span (c i 1) (c i 2) (0 : Int) (20000 : Int))
 (CdP (.i64 ((i : Int) + (1 : Int)))
 (Q .normal ⟨(.nd (L4 (L4 (L4 (L1 (.ag A0)) (L1 (vB false))) (.nd (L1 (vT 0 0)) (vN n) (L1 (vB true)))) (L4 A3 (.nd (L1 (vB true)) (vB true) (L1 (vB false))))) (vJ st) (L4 (L4 (L4 (L1 (vJ st)) (L1 (vT 0 1))) (.nd (L1 (vJ (c i 0))) (vJ ((i : Int) + (1 : Int))) (L1 (vB false)))) (.nd A1 (vT 0 0) (.nd (L1 (vB false)) A5 (L1 (vJ ((i : Int) + (1 : Int)))))))), A4⟩))
 (Q .ret ⟨(.nd (L4 (L4 (L4 (L1 (.ag A0)) (L1 (vB false))) (.nd (L1 (vT 0 0)) (vN n) (L1 (vB false)))) (L4 A3 (.nd (L1 (vB true)) (vB true) (L1 (vB true))))) (vJ st) (L4 (.nd (L4 (L1 (vJ st)) (L1 (vT 0 1))) (vB false) (.nd (L1 (vJ (c i 0))) (vN i) (L1 (vB true)))) (.nd A1 (vT 0 0) (L6 (L1 (vB false)) A5)))), A4⟩)))
 (Q .ret ⟨(.nd (L4 (L4 (L4 (L1 (.ag A0)) (L1 (vB true))) (.nd (L1 (vT 0 0)) (vN n) (L1 (.tp [])))) (L4 (L4 (L1 (vJ (st - (1 : Int)))) (L1 (.tp []))) (.nd (L1 (vB false)) (vB true) (L1 (vB true))))) (vJ st) (L4 (.nd (L4 (L1 (vJ st)) (L1 (.tp []))) (vB false) (.nd (L1 (vJ (c i 0))) (vN i) (L1 (.tp [])))) (.nd (.nd (L1 A2) (vS 3 n c) (L1 (.tp []))) (vT 0 0) (L6 (L1 (vB true)) A5)))), A4⟩)))))
 (Q (.exit 0) ⟨(.nd (L4 (L2 (L1 (vN n))) (L2 (L1 (vB false)))) (vJ st) (L4 (L2 (L1 (vN i))) (L3 (L1 (vS 3 n c))))), []⟩)))) (.c (.p (.ipt 3 (S.val c i)))))) [(some (.box z8z A0))])) (L4 (L1 (vJ (st - (1 : Int)))) (L1 (.ag [(cJ (c i 1)), (cJ (c i 2))]))))) (.nd (L1 A2) (vS 3 n c) (L1 (.c (.p (.isl 2 1 (fun x6 => (fun x7 => (List.getD [(.int .i64 (c i 1)), (.int .i64 (c i 2))] ((x6 * 2) + x7) .npt)))))))))) (.ag [(cJ 0), (cJ (st - (1 : Int)))]))) [(cJ (c i 0)), (cJ (c i 1)), (cJ (c i 2))]) = (ex (cs3 hbs) (fu + 60) 0 z3y ⟨za [(.h, .c (cJ st)), (.i (.i (.o .h)), .c (cS 3 n c)), (.o (.o (.i .h)), .c (cJ n)), (.i (.o (.i .h)), .c (cJ i))], []⟩ (fun e s => .pr (Q e s))).hold2 := by kernel_rfl
theorem zj7 (n : Nat) (c : S.Rows) (st : Int) (Q : AV → Heap → Prop) :
 ((BrP (decide ((n : Int) > (12 : Int)))
 (Q (vB false) [])
 ((zd (ex (cs3 hbs) 994) 0 z3y ⟨(.nd (.nd (L4 (L1 (vS 3 n c)) (L1 (vN n))) (vS 3 n c) (L3 (L1 (vB false)))) (vJ st) (L4 (.nd (L1 (vN n)) (vB false) (L1 (vJ 0))) (L3 (L1 (vS 3 n c))))), []⟩ (.br (S.from_ (S.itAt c st) n 0) (.e (.exit 0) ⟨.lf, []⟩) (.e .ret ⟨(L2 (L3 (L1 (vB false)))), []⟩))) ∧
 (BrP (S.from_ (S.itAt c st) n 0)
 (Q (vB true) [])
 (Q (vB false) []))))) = (ex (cs3 hbs) 1000 0 zbf ⟨ofL 0 [.c (cJ st), .c (cS 3 n c)] .lf, []⟩ (endK z3n.rs (fun r H => .pr (Q r H)) fun _ _ => .no)).hold2 := by kernel_rfl
theorem zj9 (fu i m1 : Nat) (wt : S.Rows) (Q : AX → St → Prop) :
 ((fun (A0 : List CV) => ((fun (A1 : Tr) => ((fun (A2 : Tr) => ((fun (A3 : Tr) => ((BrP (decide ((i : Int) < (m1 : Int)))
 (CdP (.rng (i : Int) m1)
 ((z8 (cs3 hbs) z44 [(.ag A0), (.ag [(cJ 0), (cJ 120000)])] (.c (.p (.bool (S.span (wt i 0) (wt i 1) (0 : Int) (120000 : Int))))) []) ∧
 (BrP (S.span (wt i 0) (wt i 1) (0 : Int) (120000 : Int))
 (CdP (.i64 ((i : Int) + (1 : Int)))
 (Q .normal ⟨(L4 (L4 (L4 (L4 (L3 (L1 (vS 2 m1 wt))) (L3 (L1 (vB true)))) A3) (L4 (L4 (L3 (L1 (vJ ((i : Int) + (1 : Int))))) (L3 (L1 (vJ ((i : Int) + (1 : Int)))))) A2)) (L4 (L4 (L4 (L3 (L1 (vN m1))) (L3 (L1 (vB false)))) A2) A1)), [(some (.box zm A0))]⟩))
 (Q .ret ⟨(L4 (L4 (L4 (L4 (L3 (L1 (vS 2 m1 wt))) (L3 (L1 (vB false)))) A3) (L4 (L3 (L3 (L1 (vN i)))) A2)) (L4 (.nd (L4 (L3 (L1 (vN m1))) (L3 (L1 (vB true)))) (vB false) A2) A1)), [(some (.box zm A0))]⟩))))
 (Q (.exit 0) ⟨(L4 (L4 (L3 (L3 (L3 (L1 (vS 2 m1 wt))))) (L3 (L3 (L3 (L1 (vN i)))))) (L4 (L3 (L3 (L3 (L1 (vN m1))))) (L3 (L3 (L3 (L1 (vB false))))))), []⟩)))) (L3 (L3 (L1 (.c (.p (.ipt 2 (S.val wt i))))))))) (L3 (L3 (L1 (.ag A0)))))) (.nd (L3 (L3 (L1 (vB true)))) (vT 0 0) (L3 (L3 (L1 (.ag [(cJ 0), (cJ 120000)]))))))) [(cJ (wt i 0)), (cJ (wt i 1))]) = (ex (cs3 hbs) (fu + 60) 0 z3z ⟨za [(.o (.o (.o (.o (.o .h)))), .c (cS 2 m1 wt)), (.i (.o (.o (.o (.o .h)))), .c (cJ m1)), (.o (.i (.o (.o (.o .h)))), .c (cJ i))], []⟩ (fun e s => .pr (Q e s))).hold2 := by kernel_rfl
theorem zjb (e mo t l : Int) (nc : Nat) (c : S.Rows) (ns : Nat) (s : S.Rows) (ta tm r : Int) (nf : Nat) (f : S.Rows) (n1 : Nat) (it : S.Rows) (lo hi : Int) (m1 : Nat) (wt : S.Rows) (ld : Bool) (Q : AV → Heap → Prop) :
 ((fun (A0 : Heap) => ((fun (A1 : AV) => (((z8 (cs3 hbs) z7x [(vN ns), (vS 3 n1 it)] (.c (.p (.bool (S.itemsOk n1 it (ns : Int))))) []) ∧
 (BrP (S.itemsOk n1 it (ns : Int))
 ((z8 (cs3 hbs) z44 [(.ag [(cJ lo), (cJ hi)]), A1] (.c (.p (.bool (S.span lo hi (-(120000 : Int)) (140000 : Int))))) []) ∧
 (BrP (S.span lo hi (-(120000 : Int)) (140000 : Int))
 (BrP ((m1 : Int) != (nf : Int))
 (Q (vB false) A0)
 ((zd (ex (cs3 hbs) 994) 0 z3z ⟨(.nd (.nd (.nd (.nd (L6 (L1 (vS 2 m1 wt)) (vT 1 1)) (vT 0 5) (L1 (vS 2 m1 wt))) (vT 1 0) (.nd (L1 (vB false)) (vS 3 n1 it) (L1 (vN nf)))) (.ag (kX n1 it lo hi m1 wt ld)) (L4 (.nd (L6 (L1 (vJ 0)) A1) (vN ns) (L1 (vT 0 9))) (.nd (L1 (vB false)) (vB false) (L1 (vB false))))) (.ag (kP e mo t l nc c ns s ta tm r nf f)) (.nd (.nd (.nd (L6 (L1 (vN m1)) (.ag [(cJ lo), (cJ hi)])) (vS 2 ns s) (L1 (vN m1))) (vB false) (.nd (L1 (vB false)) (vB true) (L1 (vB false)))) (vT 0 0) (L4 (.nd (L1 (vB true)) (vT 1 0) (L1 (vS 2 nf f))) (.nd (L1 (vT 1 3)) (vB false) (L1 (vT 1 3)))))), A0⟩ (.br (S.from_ (S.wtAt wt) m1 0) (.e (.exit 0) ⟨.lf, []⟩) (.e .ret ⟨(L2 (L3 (L1 (vB false)))), []⟩))) ∧
 (BrP (S.from_ (S.wtAt wt) m1 0)
 (Q (vB true) [])
 (Q (vB false) []))))
 (Q (vB false) A0)))
 (Q (vB false) A0))))) (.ag [(cJ (-(120000 : Int))), (cJ 140000)]))) [(bP e mo t l nc c ns s ta tm r nf f), (bX n1 it lo hi m1 wt ld)]) = (ex (cs3 hbs) 1000 0 zbb ⟨ofL 0 [.ag (plC e mo t l nc (S.val c) ns (S.val s) ta tm r nf (S.val f)), .ag (ptC n1 (S.val it) lo hi m1 (S.val wt) ld)] .lf, []⟩ (endK z3p.rs (fun r H => .pr (Q r H)) fun _ _ => .no)).hold2 := by kernel_rfl
end
section
variable {hbs : BsOk Tryz.prog} (hT : zq (cs hbs)) (hT3 : zq (cs3 hbs))
include hT hT3
theorem zpd (lo hi x : Int) : z8 (cs3 hbs) z1d [.ag [.p (.int .i64 lo), .p (.int .i64 hi)], .c (.p (.int .i64 x))] (vB (S.inB lo x hi)) [] :=
  z8.cfg (C := cs hbs) (C' := cs3 hbs) rfl rfl (z1k hT lo hi x)
theorem z7w (l h lo hi : Int) : z8 (cs3 hbs) z44 [.ag [.p (.int .i64 l), .p (.int .i64 h)], .ag [.p (.int .i64 lo), .p (.int .i64 hi)]] (vB (S.span l h lo hi)) [] :=
  zo hT3 (F := z45) rfl (zl5 l h lo hi _) (brP (fun h1 => brP (fun h2 => brP (fun h3 => zj (by simp_all [S.span, S.inB])) fun h3 => zj (by simp_all [S.span, S.inB])) fun h2 => zj (by simp at h1 h2; simp [S.span, S.inB]; omega)) fun h1 => zj (by simp at h1; simp [S.span, S.inB]; omega))
theorem zj4 (fu n : Nat) (c : S.Rows) (st : Int) (hn : n ≤ 1000000) (hs : 0 ≤ st ∧ st ≤ 1000000) : ∀ (i : Nat) (s : St), i ≤ n → Has s [(.h, .c (.p (.int .i64 st))), (.i (.i (.o .h)), .c (.p (.isl 3 n (S.val c)))), (.o (.o (.i .h)), .c (.p (.int .i64 n))), (.i (.o (.i .h)), .c (.p (.int .i64 i)))] [] →
    zd (ex (cs3 hbs) (fu + 60)) 0 z3y s (.br (S.from_ (S.itAt c st) n i) (.e (.exit 0) ⟨.lf, []⟩) (.e .ret ⟨za [(.i (.o .h), vB false)], []⟩)) :=
  z2d (σ := Nat) (fun i => [(.h, .c (.p (.int .i64 st))), (.i (.i (.o .h)), .c (.p (.isl 3 n (S.val c)))), (.o (.o (.i .h)), .c (.p (.int .i64 n))), (.i (.o (.i .h)), .c (.p (.int .i64 i)))]) (fun _ => []) (fun i => i ≤ n) (fun i => n - i)
    (fun i => .br (S.from_ (S.itAt c st) n i) (.e (.exit 0) ⟨.lf, []⟩) (.e .ret ⟨za [(.i (.o .h), vB false)], []⟩)) (fun _ => Nat.le_refl _) _ (fun i Q => zj5 (hbs := hbs) fu i n c st Q) fun i hi K hL X hX => by
      refine brP (fun h1 => cdP (zi (by simpa using h1)) (cdP ?_ ⟨zpd hT hT3 _ _ _, brP (fun h2 => ⟨z7w hT hT3 _ _ _ _, brP (fun h3 => cdP ?_ ?_) fun h3 => ?_⟩) fun h2 => ?_⟩)) fun h1 => ?_
      · simp [Cd.holds]; omega
      · have hlt : i < n := by simpa using h1
        simp [Cd.holds]; omega
      · have hlt : i < n := by simpa using h1
        refine hX (i + 1) _ (by omega) (by omega) (.cons (by kernel_rfl) rfl (.cons (by kernel_rfl) rfl (.cons (by kernel_rfl) rfl (.cons (by kernel_rfl) rfl (.nil (ex := _) rfl rfl))))) ?_
        have e : S.itAt c st i = true := by simp [S.itAt, h2, h3]
        rw [S.from_step hlt, e, Bool.true_and] at hL
        exact hL
      · have hlt : i < n := by simpa using h1
        have e : S.itAt c st i = false := by simp [S.itAt, h2, h3]
        rw [S.from_step hlt, e, Bool.false_and] at hL
        exact Has.out (l := [(.i (.o .h), vB false)]) (.cons (by kernel_rfl) rfl (.nil (ex := _) rfl rfl)) (Nat.le_refl _) hL
      · have hlt : i < n := by simpa using h1
        have e : S.itAt c st i = false := by simp [S.itAt, h2]
        rw [S.from_step hlt, e, Bool.false_and] at hL
        exact Has.out (l := [(.i (.o .h), vB false)]) (.cons (by kernel_rfl) rfl (.nil (ex := _) rfl rfl)) (Nat.le_refl _) hL
      · have hlt : n ≤ i := by simpa using h1
        rw [S.from_end hlt] at hL
        exact Has.out (l := []) (.nil (ex := _) rfl rfl) (Nat.le_refl _) hL
theorem zj6 (n : Nat) (c : S.Rows) (st : Int) (hn : n ≤ 1000000) (hs : 0 ≤ st ∧ st ≤ 1000000) : z8 (cs3 hbs) z7x [.c (.p (.int .i64 st)), .c (.p (.isl 3 n (S.val c)))] (vB (S.itemsOk n c st)) [] :=
  zo hT3 (F := z3n) rfl (zj7 n c st _) (brP (fun h1 => zj (by simp at h1; simp [S.itemsOk]; intro _; omega))
    fun h1 => ⟨zj4 hT hT3 934 n c st hn hs 0 _ (Nat.zero_le _) (.cons (by kernel_rfl) rfl (.cons (by kernel_rfl) rfl (.cons (by kernel_rfl) rfl (.cons (by kernel_rfl) rfl (.nil (ex := _) rfl rfl))))), brP (fun h2 => zj (by simp at h1; simp [S.itemsOk, h2]; omega)) fun h2 => zj (by simp [S.itemsOk, h2])⟩)
theorem zj8 (fu m1 : Nat) (wt : S.Rows) (hm : m1 ≤ 1000000) : ∀ (i : Nat) (s : St), i ≤ m1 → Has s [(.o (.o (.o (.o (.o .h)))), .c (.p (.isl 2 m1 (S.val wt)))), (.i (.o (.o (.o (.o .h)))), .c (.p (.int .i64 m1))), (.o (.i (.o (.o (.o .h)))), .c (.p (.int .i64 i)))] [] →
    zd (ex (cs3 hbs) (fu + 60)) 0 z3z s (.br (S.from_ (S.wtAt wt) m1 i) (.e (.exit 0) ⟨.lf, []⟩) (.e .ret ⟨za [(.i (.o .h), vB false)], []⟩)) :=
  z2d (σ := Nat) (fun i => [(.o (.o (.o (.o (.o .h)))), .c (.p (.isl 2 m1 (S.val wt)))), (.i (.o (.o (.o (.o .h)))), .c (.p (.int .i64 m1))), (.o (.i (.o (.o (.o .h)))), .c (.p (.int .i64 i)))]) (fun _ => []) (fun i => i ≤ m1) (fun i => m1 - i)
    (fun i => .br (S.from_ (S.wtAt wt) m1 i) (.e (.exit 0) ⟨.lf, []⟩) (.e .ret ⟨za [(.i (.o .h), vB false)], []⟩)) (fun _ => Nat.le_refl _) _ (fun i Q => zj9 (hbs := hbs) fu i m1 wt Q) fun i hi K hL X hX => by
      refine brP (fun h1 => cdP (zi (by simpa using h1)) ⟨z7w hT hT3 _ _ _ _, brP (fun h3 => cdP ?_ ?_) fun h3 => ?_⟩) fun h1 => ?_
      · have hlt : i < m1 := by simpa using h1
        simp [Cd.holds]; omega
      · have hlt : i < m1 := by simpa using h1
        refine hX (i + 1) _ (by omega) (by omega) (.cons (by kernel_rfl) rfl (.cons (by kernel_rfl) rfl (.cons (by kernel_rfl) rfl (.nil (ex := _) rfl rfl)))) ?_
        have e : S.wtAt wt i = true := h3
        rw [S.from_step hlt, e, Bool.true_and] at hL
        exact hL
      · have hlt : i < m1 := by simpa using h1
        have e : S.wtAt wt i = false := h3
        rw [S.from_step hlt, e, Bool.false_and] at hL
        exact Has.out (l := [(.i (.o .h), vB false)]) (.cons (by kernel_rfl) rfl (.nil (ex := _) rfl rfl)) (Nat.le_refl _) hL
      · have hlt : m1 ≤ i := by simpa using h1
        rw [S.from_end hlt] at hL
        exact Has.out (l := []) (.nil (ex := _) rfl rfl) (Nat.le_refl _) hL
theorem zja (e mo t l : Int) (nc : Nat) (c : S.Rows) (ns : Nat) (s : S.Rows) (ta tm r : Int) (nf : Nat) (f : S.Rows) (n1 : Nat) (it : S.Rows) (lo hi : Int) (m1 : Nat) (wt : S.Rows) (ld : Bool) (hns : ns ≤ 1000000) (hn : n1 ≤ 1000000) (hm : m1 ≤ 1000000) : z8 (cs3 hbs) z3o [.ag (plC e mo t l nc (S.val c) ns (S.val s) ta tm r nf (S.val f)), .ag (ptC n1 (S.val it) lo hi m1 (S.val wt) ld)] (vB (S.point ns nf n1 it lo hi m1 wt)) [] :=
  zo hT3 (F := z3p) rfl (zjb e mo t l nc c ns s ta tm r nf f n1 it lo hi m1 wt ld _) ⟨zj6 hT hT3 _ _ _ hn (by omega), brP (fun h1 => ⟨z7w hT hT3 _ _ _ _, brP (fun h2 => brP (fun h3 => zj (by
      have h3 : ¬ ((m1 : Int) = (nf : Int)) := by simpa using h3
      simp [S.point, h3]))
    fun h3 => ⟨zj8 hT hT3 934 m1 wt hm 0 _ (Nat.zero_le _) (.cons (by kernel_rfl) rfl (.cons (by kernel_rfl) rfl (.cons (by kernel_rfl) rfl (.nil (ex := _) rfl rfl)))), brP (fun h4 => zj (by
      have h3 : (m1 : Int) = (nf : Int) := by simpa using h3
      simp [S.point, h1, h2, h3, h4])) fun h4 => zj (by simp [S.point, h4])⟩) fun h2 => zj (by simp [S.point, h2])⟩) fun h1 => zj (by simp [S.point, h1])⟩
end
section
variable {hbs : BsOk Tryz.prog}
theorem zso (fu i n m : Nat) (a b : S.Rows) (Q : AX → St → Prop) :
 ((fun (A0 : Tr) => ((fun (A1 : Tr) => ((BrP (decide ((i : Int) < (n : Int)))
 (CdP (.rng (i : Int) n)
 (CdP (.rng (i : Int) m)
 (BrP ((a i 0) != (b i 0))
 (Q .ret ⟨(.nd (.nd (L4 (L2 (L1 (.c (.p (.ipt 1 (S.val b i)))))) A1) (vS 1 m b) (.nd (L4 (L1 (vS 1 n a)) (L1 (vB true))) (vN i) (L6 (L1 (vS 1 m b)) (vN n)))) (vS 1 n a) (L4 (.nd (L2 (L1 (vJ (b i 0)))) (vB false) (L6 (L1 (vJ (a i 0))) (vS 1 n a))) A0)), []⟩)
 (CdP (.i64 ((i : Int) + (1 : Int)))
 (Q .normal ⟨(.nd (.nd (L4 (L4 (L1 (vN i)) (L1 (.c (.p (.ipt 1 (S.val b i)))))) A1) (vS 1 m b) (.nd (L4 (L1 (vS 1 n a)) (L1 (vB false))) (vJ ((i : Int) + (1 : Int))) (L6 (L1 (vS 1 m b)) (vN n)))) (vS 1 n a) (L4 (L4 (L4 (L1 (vJ ((i : Int) + (1 : Int)))) (L1 (vJ (b i 0)))) (L6 (L1 (vJ (a i 0))) (vS 1 n a))) A0)), []⟩)))))
 (Q (.exit 0) ⟨(.nd (.nd (L2 (L1 (vN i))) (vS 1 m b) (L5 (vN i) (L1 (vN n)))) (vS 1 n a) (L4 (L2 (L1 (vS 1 n a))) (L2 (L1 (vB false))))), []⟩)))) (L6 (L1 (.c (.p (.ipt 1 (S.val a i))))) (vN i)))) (L4 (L3 (L1 (vN i))) (L6 (L1 (vN i)) (vB true)))) = (ex (cs3 hbs) (fu + 60) 0 z68 ⟨za [(.h, .c (cS 1 n a)), (.o .h, .c (cS 1 m b)), (.o (.i .h), .c (cJ i))], []⟩ (fun e s => .pr (Q e s))).hold2 := by kernel_rfl
theorem zsp (n m : Nat) (a b : S.Rows) (Q : AV → Heap → Prop) :
 ((BrP ((n : Int) != (m : Int))
 (Q (vB false) [])
 ((zd (ex (cs3 hbs) 994) 0 z68 ⟨(.nd (.nd (L3 (L1 (vN n))) (vS 1 m b) (L6 (L1 (vN m)) (vJ 0))) (vS 1 n a) (L4 (L6 (L1 (vS 1 m b)) (vB false)) (L6 (L1 (vB false)) (vS 1 n a)))), []⟩ (.br (S.from_ (S.eqAt a b) n 0) (.e (.exit 0) ⟨.lf, []⟩) (.e .ret ⟨(L2 (L3 (L1 (vB false)))), []⟩))) ∧
 (BrP (S.from_ (S.eqAt a b) n 0)
 (Q (vB true) [])
 (Q (vB false) []))))) = (ex (cs3 hbs) 1000 0 zh1 ⟨ofL 0 [.c (cS 1 n a), .c (cS 1 m b)] .lf, []⟩ (endK z6k.rs (fun r H => .pr (Q r H)) fun _ _ => .no)).hold2 := by kernel_rfl
theorem zjs (n : Nat) (a : S.Rows) (x : Int) (m : Nat) (w : S.Rows) (n' : Nat) (a' : S.Rows) (x' : Int) (m' : Nat) (w' : S.Rows) (Q : AV → Heap → Prop) :
 ((fun (A0 : Heap) => (((z8 (cs3 hbs) z8l [(vS 1 n a), (.c (.p (.isl 1 n' (S.val a'))))] (.c (.p (.bool (S.same n a n' a')))) []) ∧
 (BrP (S.same n a n' a')
 (BrP (x == x')
 ((z8 (cs3 hbs) z8l [(vS 1 m w), (.c (.p (.isl 1 m' (S.val w'))))] (.c (.p (.bool (S.same m w m' w')))) []) ∧
 (BrP (S.same m w m' w')
 (Q (vB true) A0)
 (Q (vB false) A0)))
 (Q (vB false) A0))
 (Q (vB false) A0))))) [(bC n a x m w), (some (.box z7 [(.p (.isl 1 n' (S.val a'))), (cJ x'), (.p (.isl 1 m' (S.val w')))]))]) = (ex (cs3 hbs) 1000 0 zba ⟨ofL 0 [.ag [.p (.isl 1 n (S.val a)), .p (.int .i64 x), .p (.isl 1 m (S.val w))], .ag [.p (.isl 1 n' (S.val a')), .p (.int .i64 x'), .p (.isl 1 m' (S.val w'))]] .lf, []⟩ (endK z3x.rs (fun r H => .pr (Q r H)) fun _ _ => .no)).hold2 := by kernel_rfl
end
section
variable {hbs : BsOk Tryz.prog} (hT3 : zq (cs3 hbs))
include hT3
theorem zsn (fu n m : Nat) (a b : S.Rows) (hn : n ≤ 1000000) (hnm : n ≤ m) : ∀ (i : Nat) (s : St), i ≤ n → Has s [(.h, .c (.p (.isl 1 n (S.val a)))), (.o .h, .c (.p (.isl 1 m (S.val b)))), (.o (.i .h), .c (.p (.int .i64 i)))] [] →
    zd (ex (cs3 hbs) (fu + 60)) 0 z68 s (.br (S.from_ (S.eqAt a b) n i) (.e (.exit 0) ⟨.lf, []⟩) (.e .ret ⟨za [(.i (.o .h), vB false)], []⟩)) :=
  z2d (σ := Nat) (fun i => [(.h, .c (.p (.isl 1 n (S.val a)))), (.o .h, .c (.p (.isl 1 m (S.val b)))), (.o (.i .h), .c (.p (.int .i64 i)))]) (fun _ => []) (fun i => i ≤ n) (fun i => n - i)
    (fun i => .br (S.from_ (S.eqAt a b) n i) (.e (.exit 0) ⟨.lf, []⟩) (.e .ret ⟨za [(.i (.o .h), vB false)], []⟩)) (fun _ => Nat.le_refl _) _ (fun i Q => zso (hbs := hbs) fu i n m a b Q) fun i hi K hL X hX => by
      refine brP (fun h1 => ?_) fun h1 => ?_
      · have hlt : i < n := by simpa using h1
        refine cdP (zi hlt) (cdP (zi (by omega)) (brP (fun h2 => ?_) fun h2 => cdP ?_ ?_))
        · have e : S.eqAt a b i = false := by simpa [S.eqAt] using h2
          rw [S.from_step hlt, e, Bool.false_and] at hL
          exact Has.out (l := [(.i (.o .h), vB false)]) (.cons (by kernel_rfl) rfl (.nil (ex := _) rfl rfl)) (Nat.le_refl _) hL
        · simp [Cd.holds]; omega
        · have e : S.eqAt a b i = true := by simpa [S.eqAt] using h2
          rw [S.from_step hlt, e, Bool.true_and] at hL
          exact hX (i + 1) _ (by omega) (by omega) (.cons (by kernel_rfl) rfl (.cons (by kernel_rfl) rfl (.cons (by kernel_rfl) rfl (.nil (ex := _) rfl rfl)))) hL
      · have hlt : n ≤ i := by simpa using h1
        rw [S.from_end hlt] at hL
        exact Has.out (l := []) (.nil (ex := _) rfl rfl) (Nat.le_refl _) hL
theorem zf3 (n m : Nat) (a b : S.Rows) (hn : n ≤ 1000000) : z8 (cs3 hbs) z8l [.c (.p (.isl 1 n (S.val a))), .c (.p (.isl 1 m (S.val b)))] (vB (S.same n a m b)) [] :=
  zo hT3 (F := z6k) rfl (zsp n m a b _) (brP (fun h1 => zj (by
      have h1 : ¬ ((n : Int) = (m : Int)) := by simpa using h1
      simp [S.same, h1]))
    fun h1 => ⟨zsn hT3 934 n m a b hn (by simp at h1; omega) 0 _ (Nat.zero_le _) (.cons (by kernel_rfl) rfl (.cons (by kernel_rfl) rfl (.cons (by kernel_rfl) rfl (.nil (ex := _) rfl rfl)))), brP (fun h2 => zj (by
      have h1 : ((n : Int) = (m : Int)) := by simpa using h1
      simp [S.same, h1, h2])) fun h2 => zj (by simp [S.same, h2])⟩)
theorem zjr (n : Nat) (a : S.Rows) (x : Int) (m : Nat) (w : S.Rows) (n' : Nat) (a' : S.Rows) (x' : Int) (m' : Nat) (w' : S.Rows) (hn : n ≤ 1000000) (hm : m ≤ 1000000) :
    z8 (cs3 hbs) z81 [.ag [.p (.isl 1 n (S.val a)), .p (.int .i64 x), .p (.isl 1 m (S.val w))], .ag [.p (.isl 1 n' (S.val a')), .p (.int .i64 x'), .p (.isl 1 m' (S.val w'))]] (vB (S.sameCase n a x m w n' a' x' m' w')) [] :=
  zo hT3 (F := z3x) rfl (zjs n a x m w n' a' x' m' w' _) ⟨zf3 hT3 _ _ _ _ hn, brP (fun h1 => brP (fun h2 => ⟨zf3 hT3 _ _ _ _ hm, brP (fun h3 => zj (by simp only [S.sameCase, h1, h2, h3]; rfl)) fun h3 => zj (by simp only [S.sameCase, h1, h2, h3]; rfl)⟩) fun h2 => zj (by simp only [S.sameCase, h1, h2]; rfl)) fun h1 => zj (by simp only [S.sameCase, h1]; rfl)⟩
end
end Go.Ab.B
