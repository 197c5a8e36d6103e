/- A part of the proof: an evaluator of the program over plain values, proved sound, and what it gives. -/
import Derived.Test.YtedlbcnomlpkfabDoorTb
import Derived.Test.YtedlbcnomlpkfabDoorVd
set_option linter.all false
set_option maxRecDepth 100000
namespace Go.Ab.B
open Go.Proofs

/-! What the functions give, by their arguments. -/
def sp29 : List AV → Option (AV × Heap)
  | [.ag [.p (.int .i64 lo), .p (.int .i64 hi)], .c (.p (.int .i64 x))] => some (vB (S.inB lo x hi), [])
  | _ => none
def sp31 : List AV → Option (AV × Heap)
  | [.c (.p (.int .i64 x)), .c (.p (.int .i64 lo)), .c (.p (.int .i64 hi))] => some (vB (S.inB lo x hi), [])
  | _ => none
def sp32 : List AV → Option (AV × Heap)
  | [.ag [.p (.int .i64 a), .p (.int .i64 m)]] => some (vB (S.stOk a m), [])
  | _ => none
def sp50 : List AV → Option (AV × Heap)
  | [.c (.p (.isl 2 n f))] => some (vB (S.stn n (S.num f)), [])
  | _ => none
def sp49 : List AV → Option (AV × Heap)
  | [.c (.p (.isl 2 n f))] => some (vB (S.corners n (S.num f)), [])
  | _ => none
def sp71 : List AV → Option (AV × Heap)
  | [.c (.p (.isl 2 n f))] => some (vB (S.cvx n (S.num f)), [])
  | _ => none
def sp30 : List AV → Option (AV × Heap)
  | [.c (.p (.isl 2 n f)), .c (.p (.int .i64 w)), .c (.p (.int .i64 m))] => some (vB (S.ins n (S.num f) w m), [])
  | _ => none
def spPlane : List AV → Option (AV × Heap)
  | [.ag [.p (.int .i64 e), .p (.int .i64 m), .p (.int .i64 t), .p (.int .i64 l), .p (.isl 2 nc c), .p (.isl 2 ns s), .p (.int .i64 ta), .p (.int .i64 tm), .p (.int .i64 r), .p (.isl 2 nf f)]] =>
    some (vB (S.plane e m t l nc (S.num c) ns (S.num s) ta tm r nf (S.num f)), [])
  | _ => none
def sp12 : List AV → Option (AV × Heap)
  | [.ag [_, _, _, _, .p (.isl 2 n f), _, _, _, _, _], .c (.p (.int .i64 w)), .c (.p (.int .i64 m))] => some (vB (S.ins n (S.num f) w m), [])
  | _ => none
def sp33 : List AV → Option (AV × Heap)
  | [.ag [_, _, _, _, .p (.isl 2 n f), _, _, _, _, _], .c (.p (.int .i64 e)), .c (.p (.int .i64 w)), .c (.p (.int .i64 m))] => some (vI .i64 (S.sd n (S.num f) e.toNat w m), [])
  | _ => none
def sp8 : List AV → Option (AV × Heap)
  | [] => some (vB true, [])
  | _ => none

def Sp (f : Nat) (l : List AV) : Option (AV × Heap) :=
  bif Nat.blt f 30 then (bif Nat.beq f 29 then sp29 l else bif Nat.beq f 12 then sp12 l else bif Nat.beq f 8 then sp8 l else bif Nat.beq f 11 then spPlane l else bif Nat.beq f 27 then spPlane l else none)
  else bif Nat.beq f 30 then sp30 l else bif Nat.beq f 31 then sp31 l else bif Nat.beq f 32 then sp32 l else bif Nat.beq f 33 then sp33 l else bif Nat.beq f 49 then sp49 l else bif Nat.beq f 50 then sp50 l else bif Nat.beq f 71 then sp71 l else none

/-! Where loops end. -/
abbrev pI (n : Int) : PV := .int .i64 n
def lp50 (s : St) : Option LTree :=
  match Tr.get (.o (.i .h)) s.t, Tr.get (.o (.o (.o .h))) s.t with
  | .c (.p (.isl 2 n f)), .c (.p (.int .i64 i)) => some (.br (S.from_ (S.stnAt (S.num f)) n i.toNat) (.e (.exit 0) ⟨.lf, []⟩) (.e .ret ⟨setAll [(.i .h, vB false)], []⟩))
  | _, _ => none
def lp49 (s : St) : Option LTree :=
  match Tr.get (.i (.i (.o .h))) s.t, Tr.get (.i (.o (.i .h))) s.t with
  | .c (.p (.isl 2 n f)), .c (.p (.int .i64 i)) => some (.br (S.from_ (S.corAt (S.num f)) n i.toNat) (.e (.exit 0) ⟨setAll [(.h, .c (.p (.isl 2 n f)))], []⟩) (.e .ret ⟨setAll [(.i .h, vB false)], []⟩))
  | _, _ => none
def lp72 (s : St) : Option LTree :=
  match Tr.get (.o (.o (.o .h))) s.t with
  | .c (.p (.int .i64 i)) => match s.h with
    | [b0, b1, b2, b3, b4, some (.lp nt t ps a b .ready)] => match b0, b1, b3 with
      | some (.box _ [.p (.int .i64 w)]), some (.box _ [.p (.int .i64 m)]), some (.box _ [.p (.isl 2 n f)]) =>
        some (.br (S.from_ (S.insAt n (S.num f) w m) n i.toNat) (.e (.exit 0) ⟨.lf, [b0, b1, b2, b3, b4, some (.lp nt t ps a b .ready)]⟩) (.e .ret ⟨.lf, [b0, b1, b2, b3, b4, some (.lp nt t ps a b (.done .ret))]⟩))
      | _, _, _ => none
    | [b0, b1, b2, b3, some (.lp nt t ps a b .ready)] => match b2 with
      | some (.box _ [.p (.isl 2 n f)]) =>
        some (.br (S.from_ (S.cvxRow n (S.num f)) n i.toNat) (.e (.exit 0) ⟨.lf, [b0, b1, b2, b3, some (.lp nt t ps a b .ready)]⟩) (.e .ret ⟨.lf, [b0, b1, b2, b3, some (.lp nt t ps a b (.done .ret))]⟩))
      | _ => none
    | _ => none
  | _ => none
def lp71 (s : St) : Option LTree :=
  match Tr.get (.i (.o (.i .h))) s.t, Tr.get (.o (.o .h)) s.t, Tr.get (.i (.i (.i .h))) s.t with
  | .c (.p (.isl 2 n f)), .c (.p (.int .i64 e)), .c (.p (.int .i64 k)) => some (.br (S.from_ (S.cvxAt n (S.num f) e.toNat) n k.toNat) (.e (.exit 2) ⟨.lf, s.h⟩) (.e .ret ⟨.lf, s.h⟩))
  | _, _, _ => none
def lp11 (j : Nat) (s : St) : Option LTree :=
  match s.h with
  | [some (.box _ [_, _, _, _, .p (.isl 2 nc c), .p (.isl 2 ns st), _, _, _, .p (.isl 2 nf f)])] => match j with
    | 1 => match Tr.get (.o (.o .h)) s.t with
      | .c (.p (.int .i64 i)) => some (.br (S.from_ (S.stnAt (S.num st)) ns i.toNat) (.e (.exit 0) ⟨setAll [(.o .h, .c (.pt 0 0))], s.h⟩) (.e .ret ⟨setAll [(.i .h, vB false)], s.h⟩))
      | _ => none
    | 2 => match Tr.get (.i (.o .h)) s.t with
      | .c (.p (.int .i64 i)) => some (.br (S.from_ (S.stnAt (S.num f)) nf i.toNat) (.e (.exit 2) ⟨setAll [(.o .h, .c (.pt 0 0))], s.h⟩) (.e .ret ⟨setAll [(.i .h, vB false)], s.h⟩))
      | _ => none
    | 3 => match Tr.get (.o (.i .h)) s.t with
      | .c (.p (.int .i64 i)) => some (.br (S.from_ (S.corAt (S.num c)) nc i.toNat) (.e (.exit 4) ⟨setAll [(.o .h, .c (.pt 0 0))], s.h⟩) (.e .ret ⟨setAll [(.i .h, vB false)], s.h⟩))
      | _ => none
    | 4 => match Tr.get (.i (.i .h)) s.t with
      | .c (.p (.int .i64 i)) => some (.br (S.from_ (S.cvxRow nc (S.num c)) nc i.toNat) (.e (.exit 6) ⟨setAll [(.o .h, .c (.pt 0 0))], s.h⟩) (.e .ret ⟨setAll [(.i .h, vB false)], s.h⟩))
      | _ => none
    | _ => match Tr.get (.i (.i .h)) s.t, Tr.get (.o (.o (.o .h))) s.t with
      | .c (.p (.int .i64 e)), .c (.p (.int .i64 i)) => some (.br (S.from_ (S.cvxAt nc (S.num c) e.toNat) nc i.toNat) (.e (.exit 8) ⟨setAll [(.o .h, .c (.pt 0 0)), (.i (.i .h), .c (.p (.int .i64 e)))], s.h⟩) (.e .ret ⟨setAll [(.i .h, vB false)], s.h⟩))
      | _, _ => none
  | _ => none
def lp12 (s : St) : Option LTree :=
  match s.h with
  | [some (.box _ [_, _, _, _, .p (.isl 2 nc c), _, _, _, _, _])] => match Tr.get (.o .h) s.t, Tr.get (.i .h) s.t, Tr.get (.o (.o (.o .h))) s.t with
    | .c (.p (.int .i64 w)), .c (.p (.int .i64 m)), .c (.p (.int .i64 i)) => some (.br (S.from_ (S.insAt nc (S.num c) w m) nc i.toNat) (.e (.exit 0) ⟨.lf, s.h⟩) (.e .ret ⟨setAll [(.i (.i .h), vB false)], s.h⟩))
    | _, _, _ => none
  | _ => none
def Lp (n0 : Nat) (a : MC) (s : St) : Option LTree :=
  bif Nat.beq (keyM a 0) 588118495 then lp12 s else bif Nat.beq (keyM a 0) 421903343 then lp11 1 s else bif Nat.beq (keyM a 0) 982466683 then lp11 2 s else bif Nat.beq (keyM a 0) 26903696 then lp11 3 s else bif Nat.beq (keyM a 0) 491927316 then lp11 4 s else bif Nat.beq (keyM a 0) 326339615 then lp11 5 s else
  bif Nat.beq (keyM a 0) 682394635 then lp50 s else bif Nat.beq (keyM a 0) 751324746 then lp49 s else bif Nat.beq (keyM a 0) 738437533 then lp72 s else bif Nat.beq (keyM a 0) 956816631 then lp71 s else none
/-- The cells of a plane. -/
def plC (e m t l : Int) (nc : Nat) (c : Nat → Nat → PV) (ns : Nat) (s : Nat → Nat → PV) (ta tm r : Int) (nf : Nat) (f : Nat → Nat → PV) : List CV :=
  [.p (.int .i64 e), .p (.int .i64 m), .p (.int .i64 t), .p (.int .i64 l), .p (.isl 2 nc c), .p (.isl 2 ns s), .p (.int .i64 ta), .p (.int .i64 tm), .p (.int .i64 r), .p (.isl 2 nf f)]
/-! Heaps at the heads of loops over functions. -/
def t30 (n : Nat) (f : Nat → Nat → PV) (w m : Int) : Tr := (.nd (.nd .lf (.c (.p (.int .i64 w))) (.nd (.nd .lf (.c (.p (.isl 2 n f))) .lf) (.c (.pt 1 0)) .lf)) (.c (.p (.isl 2 n f))) (.nd (.nd .lf (.c (.pt 0 0)) .lf) (.c (.p (.int .i64 m))) (.nd (.nd .lf (.c (.ref 4)) .lf) (.c (.pt 2 0)) .lf)))
def H30 (n : Nat) (f : Nat → Nat → PV) (w m : Int) (st : LS) : Heap := [(some (.box 3 [(.p (.int .i64 w))])), (some (.box 3 [(.p (.int .i64 m))])), (some (.box 4 [(.p (.bool false))])), (some (.box 22 [(.p (.isl 2 n f))])), (some (.clo 72 [] [(.c (.pt 3 0))])), (some (.lp 18 (t30 n f w m) [(.o (.o (.i .h))), (.i (.o (.i .h)))] m30_a1 m30_b1 st))]
def t71 (n : Nat) (f : Nat → Nat → PV) : Tr := (.nd (.nd .lf (.c (.pt 0 0)) (.nd (.nd .lf (.c (.ref 3)) .lf) .any .lf)) (.c (.p (.isl 2 n f))) (.nd (.nd (.nd .lf (.c (.p (.isl 2 n f))) .lf) .any .lf) (.c (.pt 1 0)) .lf))
def H71 (n : Nat) (f : Nat → Nat → PV) (st : LS) : Heap := [(some (.box 22 [(.p (.isl 2 n f))])), (some (.box 4 [(.p (.bool false))])), (some (.box 22 [(.p (.isl 2 n f))])), (some (.clo 72 [] [(.c (.pt 2 0))])), (some (.lp 43 (t71 n f) [(.i (.i (.o .h))), (.o (.o (.i .h)))] m71_a1 m71_b1 st))]
def cs {P : Program} (hbs : BsOk P) : Cfg := { c0 hbs with ur := false, B := fun _ => none, Sp := Sp, Lp := Lp }
end Go.Ab.B
set_option linter.all false
set_option maxRecDepth 100000
namespace Go.Ab.B
open Go.Proofs
section
variable {hbs : BsOk Tryd.prog}
theorem vc29 (lo hi x : Int) (Q : AV → Heap → Prop) :
 ((BrP (decide (lo ≤ x))
 (BrP (decide (x ≤ hi))
  (Q (.c (.p (.bool true))) [(some (.box 40 [(.p (.int .i64 lo)), (.p (.int .i64 hi))]))])
  (Q (.c (.p (.bool false))) [(some (.box 40 [(.p (.int .i64 lo)), (.p (.int .i64 hi))]))]))
 (Q (.c (.p (.bool false))) [(some (.box 40 [(.p (.int .i64 lo)), (.p (.int .i64 hi))]))]))) = (ex (cs hbs) 1000 0 m29 ⟨ofL 0 [.ag [.p (.int .i64 lo), .p (.int .i64 hi)], .c (.p (.int .i64 x))] .lf, []⟩ (endK F29.rs (fun r H => .pr (Q r H)) fun _ _ => .no)).hold2 := by kernel_rfl
theorem vc31 (lo hi x : Int) (Q : AV → Heap → Prop) :
 ((BrP (decide (x ≥ lo))
 (BrP (decide (x ≤ hi))
  (Q (.c (.p (.bool true))) [])
  (Q (.c (.p (.bool false))) []))
 (Q (.c (.p (.bool false))) []))) = (ex (cs hbs) 1000 0 m31 ⟨ofL 0 [.c (.p (.int .i64 x)), .c (.p (.int .i64 lo)), .c (.p (.int .i64 hi))] .lf, []⟩ (endK F31.rs (fun r H => .pr (Q r H)) fun _ _ => .no)).hold2 := by kernel_rfl
theorem vc32 (a m : Int) (Q : AV → Heap → Prop) :
 (((FCall (cs hbs) 31 [(.c (.p (.int .i64 a))), (.c (.p (.int .i64 (-(1000 : Int))))), (.c (.p (.int .i64 (1000 : Int))))] (.c (.p (.bool (S.inB (-(1000 : Int)) a (1000 : Int))))) []) ∧
 (BrP (S.inB (-(1000 : Int)) a (1000 : Int))
 ((FCall (cs hbs) 31 [(.c (.p (.int .i64 m))), (.c (.p (.int .i64 (0 : Int)))), (.c (.p (.int .i64 (20000 : Int))))] (.c (.p (.bool (S.inB (0 : Int) m (20000 : Int))))) []) ∧
  (BrP (S.inB (0 : Int) m (20000 : Int))
  (Q (.c (.p (.bool true))) [(some (.box 25 [(.p (.int .i64 a)), (.p (.int .i64 m))]))])
  (Q (.c (.p (.bool false))) [(some (.box 25 [(.p (.int .i64 a)), (.p (.int .i64 m))]))])))
 (Q (.c (.p (.bool false))) [(some (.box 25 [(.p (.int .i64 a)), (.p (.int .i64 m))]))])))) = (ex (cs hbs) 1000 0 m32 ⟨ofL 0 [.ag [.p (.int .i64 a), .p (.int .i64 m)]] .lf, []⟩ (endK F32.rs (fun r H => .pr (Q r H)) fun _ _ => .no)).hold2 := by kernel_rfl
theorem vc50 (n : Nat) (s : S.Rows) (Q : AV → Heap → Prop) :
 (((LoopGo (ex (cs hbs) 995) 0 m50_l1 ⟨(.nd (.nd (.nd (.nd .lf (.c (.p (.int .i64 (0 : Int)))) .lf) .any .lf) .any (.nd .lf (.c (.p (.isl 2 n (S.val s)))) .lf)) (.c (.p (.isl 2 n (S.val s)))) (.nd .lf (.c (.p (.bool false))) (.nd .lf (.c (.p (.int .i64 ((n : Nat) : Int)))) .lf))), []⟩ (.br (S.from_ (S.stnAt s) n 0) (.e (.exit 0) ⟨.lf, []⟩) (.e .ret ⟨(.nd .lf .any (.nd .lf (.c (.p (.bool false))) .lf)), []⟩))) ∧
 (BrP (S.from_ (S.stnAt s) n 0)
 (Q (.c (.p (.bool true))) [])
 (Q (.c (.p (.bool false))) [])))) = (ex (cs hbs) 1000 0 m50 ⟨ofL 0 [.c (.p (.isl 2 n (S.val s)))] .lf, []⟩ (endK F50.rs (fun r H => .pr (Q r H)) fun _ _ => .no)).hold2 := by kernel_rfl
theorem vs50 (fu n i : Nat) (s : S.Rows) (Q : AX → St → Prop) :
 ((BrP (decide (((i : Nat) : Int) < ((n : Nat) : Int)))
 (CdP (.rng ((i : Nat) : Int) n)
  ((FCall (cs hbs) 29 [(.ag [(.p (.int .i64 (-(1000 : Int)))), (.p (.int .i64 (1000 : Int)))]), (.c (.p (.int .i64 (s i 0))))] (.c (.p (.bool (S.inB (-(1000 : Int)) (s i 0) (1000 : Int))))) []) ∧
  (BrP (S.inB (-(1000 : Int)) (s i 0) (1000 : Int))
  ((FCall (cs hbs) 29 [(.ag [(.p (.int .i64 (0 : Int))), (.p (.int .i64 (20000 : Int)))]), (.c (.p (.int .i64 (s i 1))))] (.c (.p (.bool (S.inB (0 : Int) (s i 1) (20000 : Int))))) []) ∧
   (BrP (S.inB (0 : Int) (s i 1) (20000 : Int))
   (CdP (.i64 (((i : Nat) : Int) + (1 : Int)))
    (Q .normal ⟨(.nd (.nd (.nd (.nd (.nd .lf (.c (.p (.bool false))) .lf) (.c (.p (.int .i64 (((i : Nat) : Int) + (1 : Int))))) (.nd .lf (.c (.p (.int .i64 (((i : Nat) : Int) + (1 : Int))))) .lf)) .any (.nd (.nd .lf (.c (.p (.isl 1 1 (fun x5 => (fun x6 => (List.getD [(.int .i64 (s i 1))] ((x5 * 1) + x6) .npt)))))) .lf) (.ag [(.p (.int .i64 (-(1000 : Int)))), (.p (.int .i64 (1000 : Int)))]) .lf)) .any (.nd (.nd (.nd .lf (.c (.pt 0 1)) .lf) (.c (.p (.ipt 2 (S.val s i)))) .lf) (.c (.p (.isl 2 n (S.val s)))) (.nd (.nd .lf (.c (.p (.bool false))) .lf) (.c (.p (.int .i64 (s i 0)))) .lf))) .any (.nd (.nd (.nd (.nd .lf (.c (.p (.bool false))) .lf) (.c (.p (.bool true))) .lf) (.c (.pt 0 0)) (.nd (.nd .lf (.c (.p (.bool true))) .lf) (.c (.pt 0 0)) .lf)) .any (.nd (.nd (.nd .lf (.c (.p (.int .i64 (s i 1)))) .lf) (.ag [(.p (.int .i64 (s i 0))), (.p (.int .i64 (s i 1)))]) .lf) (.c (.p (.int .i64 ((n : Nat) : Int)))) (.nd (.nd .lf (.c (.p (.bool false))) .lf) (.c (.p (.bool true))) .lf)))), [(some (.box 25 [(.p (.int .i64 (s i 0))), (.p (.int .i64 (s i 1)))]))]⟩))
   (Q .ret ⟨(.nd (.nd (.nd (.nd (.nd .lf (.c (.p (.bool false))) .lf) (.c (.p (.int .i64 ((i : Nat) : Int)))) .lf) .any (.nd (.nd .lf (.c (.p (.isl 1 1 (fun x5 => (fun x6 => (List.getD [(.int .i64 (s i 1))] ((x5 * 1) + x6) .npt)))))) .lf) (.ag [(.p (.int .i64 (-(1000 : Int)))), (.p (.int .i64 (1000 : Int)))]) .lf)) .any (.nd (.nd (.nd .lf (.c (.pt 0 1)) .lf) (.c (.p (.ipt 2 (S.val s i)))) .lf) (.c (.p (.isl 2 n (S.val s)))) (.nd (.nd .lf (.c (.p (.bool true))) .lf) (.c (.p (.int .i64 (s i 0)))) .lf))) .any (.nd (.nd (.nd (.nd .lf (.c (.p (.bool false))) .lf) (.c (.p (.bool true))) .lf) (.c (.pt 0 0)) (.nd (.nd .lf (.c (.p (.bool false))) .lf) (.c (.pt 0 0)) .lf)) (.c (.p (.bool false))) (.nd (.nd (.nd .lf (.c (.p (.int .i64 (s i 1)))) .lf) (.ag [(.p (.int .i64 (s i 0))), (.p (.int .i64 (s i 1)))]) .lf) (.c (.p (.int .i64 ((n : Nat) : Int)))) (.nd (.nd .lf (.c (.p (.bool true))) .lf) (.c (.p (.bool true))) .lf)))), [(some (.box 25 [(.p (.int .i64 (s i 0))), (.p (.int .i64 (s i 1)))]))]⟩)))
  (Q .ret ⟨(.nd (.nd (.nd (.nd (.nd .lf (.c (.p (.bool true))) .lf) (.c (.p (.int .i64 ((i : Nat) : Int)))) .lf) .any (.nd (.nd .lf (.tp []) .lf) (.ag [(.p (.int .i64 (-(1000 : Int)))), (.p (.int .i64 (1000 : Int)))]) .lf)) .any (.nd (.nd (.nd .lf (.tp []) .lf) (.c (.p (.ipt 2 (S.val s i)))) .lf) (.c (.p (.isl 2 n (S.val s)))) (.nd (.nd .lf (.tp []) .lf) (.c (.p (.int .i64 (s i 0)))) .lf))) .any (.nd (.nd (.nd (.nd .lf (.c (.p (.bool true))) .lf) (.c (.p (.bool true))) .lf) (.c (.pt 0 0)) (.nd (.nd .lf (.tp []) .lf) (.c (.pt 0 0)) .lf)) (.c (.p (.bool false))) (.nd (.nd (.nd .lf (.tp []) .lf) (.ag [(.p (.int .i64 (s i 0))), (.p (.int .i64 (s i 1)))]) .lf) (.c (.p (.int .i64 ((n : Nat) : Int)))) (.nd (.nd .lf (.c (.p (.bool true))) .lf) (.c (.p (.bool false))) .lf)))), [(some (.box 25 [(.p (.int .i64 (s i 0))), (.p (.int .i64 (s i 1)))]))]⟩))))
 (Q (.exit 0) ⟨(.nd (.nd (.nd (.nd .lf (.c (.p (.int .i64 ((i : Nat) : Int)))) .lf) .any .lf) .any (.nd .lf (.c (.p (.isl 2 n (S.val s)))) .lf)) .any (.nd (.nd (.nd .lf (.c (.p (.bool false))) .lf) .any .lf) .any (.nd .lf (.c (.p (.int .i64 ((n : Nat) : Int)))) .lf))), []⟩))) = (ex (cs hbs) (fu + 60) 0 m50_l1 ⟨setAll [(.o (.i .h), .c (.p (.isl 2 n (S.val s)))), (.i (.i .h), .c (.p (.int .i64 n))), (.o (.o (.o .h)), .c (.p (.int .i64 i)))], []⟩ (fun e s => .pr (Q e s))).hold2 := by kernel_rfl
theorem vc49 (n : Nat) (c : S.Rows) (Q : AV → Heap → Prop) :
 (((FCall (cs hbs) 29 [(.ag [(.p (.int .i64 (3 : Int))), (.p (.int .i64 (12 : Int)))]), (.c (.p (.int .i64 ((n : Nat) : Int))))] (.c (.p (.bool (S.inB (3 : Int) ((n : Nat) : Int) (12 : Int))))) []) ∧
 (BrP (S.inB (3 : Int) ((n : Nat) : Int) (12 : Int))
 ((LoopGo (ex (cs hbs) 994) 0 m49_l1 ⟨(.nd (.nd (.nd (.nd .lf (.c (.p (.int .i64 ((n : Nat) : Int)))) .lf) .any (.nd .lf (.c (.p (.int .i64 ((n : Nat) : Int)))) .lf)) .any (.nd (.nd .lf (.c (.p (.bool false))) .lf) (.ag [(.p (.int .i64 (3 : Int))), (.p (.int .i64 (12 : Int)))]) .lf)) (.c (.p (.isl 2 n (S.val c)))) (.nd (.nd (.nd .lf (.c (.p (.bool true))) .lf) .any (.nd .lf (.c (.p (.int .i64 (0 : Int)))) .lf)) (.c (.p (.bool false))) (.nd (.nd .lf (.c (.p (.isl 2 n (S.val c)))) .lf) (.c (.p (.isl 2 n (S.val c)))) .lf))), []⟩ (.br (S.from_ (S.corAt c) n 0) (.e (.exit 0) ⟨(.nd .lf (.c (.p (.isl 2 n (S.val c)))) .lf), []⟩) (.e .ret ⟨(.nd .lf .any (.nd .lf (.c (.p (.bool false))) .lf)), []⟩))) ∧
  (BrP (S.from_ (S.corAt c) n 0)
  ((FCall (cs hbs) 71 [(.c (.p (.isl 2 n (S.val c))))] (.c (.p (.bool (S.cvx n c)))) []) ∧
   (BrP (S.cvx n c)
   (Q (.c (.p (.bool true))) [])
   (Q (.c (.p (.bool false))) [])))
  (Q (.c (.p (.bool false))) [])))
 (Q (.c (.p (.bool false))) [])))) = (ex (cs hbs) 1000 0 m49 ⟨ofL 0 [.c (.p (.isl 2 n (S.val c)))] .lf, []⟩ (endK F49.rs (fun r H => .pr (Q r H)) fun _ _ => .no)).hold2 := by kernel_rfl
theorem vs49 (fu n i : Nat) (c : S.Rows) (Q : AX → St → Prop) :
 ((BrP (decide (((i : Nat) : Int) < ((n : Nat) : Int)))
 (CdP (.rng ((i : Nat) : Int) n)
  ((FCall (cs hbs) 29 [(.ag [(.p (.int .i64 (0 : Int))), (.p (.int .i64 (20000 : Int)))]), (.c (.p (.int .i64 (c i 0))))] (.c (.p (.bool (S.inB (0 : Int) (c i 0) (20000 : Int))))) []) ∧
  (BrP (S.inB (0 : Int) (c i 0) (20000 : Int))
  ((FCall (cs hbs) 29 [(.ag [(.p (.int .i64 (-(20000000 : Int)))), (.p (.int .i64 (20000000 : Int)))]), (.c (.p (.int .i64 (c i 1))))] (.c (.p (.bool (S.inB (-(20000000 : Int)) (c i 1) (20000000 : Int))))) []) ∧
   (BrP (S.inB (-(20000000 : Int)) (c i 1) (20000000 : Int))
   (CdP (.i64 (((i : Nat) : Int) + (1 : Int)))
    (Q .normal ⟨(.nd (.nd (.nd (.nd (.nd .lf (.ag [(.p (.int .i64 (c i 0))), (.p (.int .i64 (c i 1)))]) .lf) .any (.nd .lf (.c (.p (.int .i64 (c i 1)))) .lf)) .any (.nd (.nd .lf (.c (.p (.bool true))) .lf) (.c (.p (.int .i64 ((n : Nat) : Int)))) (.nd .lf (.c (.p (.int .i64 (((i : Nat) : Int) + (1 : Int))))) .lf))) .any (.nd (.nd (.nd .lf (.c (.p (.int .i64 (c i 0)))) .lf) .any (.nd .lf (.c (.p (.bool false))) .lf)) .any (.nd (.nd .lf (.c (.p (.bool false))) .lf) (.c (.p (.bool true))) .lf))) (.c (.p (.isl 2 n (S.val c)))) (.nd (.nd (.nd (.nd .lf (.c (.pt 0 0)) .lf) .any (.nd .lf (.c (.p (.bool true))) .lf)) (.c (.pt 0 0)) (.nd (.nd .lf (.c (.p (.bool false))) .lf) (.c (.p (.int .i64 (((i : Nat) : Int) + (1 : Int))))) .lf)) .any (.nd (.nd (.nd .lf (.c (.p (.isl 1 1 (fun x5 => (fun x6 => (List.getD [(.int .i64 (c i 0))] ((x5 * 1) + x6) .npt)))))) .lf) (.c (.p (.isl 2 n (S.val c)))) (.nd .lf (.c (.p (.bool false))) .lf)) .any (.nd (.nd .lf (.c (.pt 0 1)) .lf) (.c (.p (.ipt 2 (S.val c i)))) .lf)))), [(some (.box 36 [(.p (.int .i64 (c i 0))), (.p (.int .i64 (c i 1)))]))]⟩))
   (Q .ret ⟨(.nd (.nd (.nd (.nd (.nd .lf (.ag [(.p (.int .i64 (c i 0))), (.p (.int .i64 (c i 1)))]) .lf) .any (.nd .lf (.c (.p (.int .i64 (c i 1)))) .lf)) .any (.nd (.nd .lf (.c (.p (.bool true))) .lf) (.c (.p (.int .i64 ((n : Nat) : Int)))) .lf)) .any (.nd (.nd (.nd .lf (.c (.p (.int .i64 (c i 0)))) .lf) .any (.nd .lf (.c (.p (.bool true))) .lf)) .any (.nd (.nd .lf (.c (.p (.bool false))) .lf) (.c (.p (.bool true))) .lf))) (.c (.p (.isl 2 n (S.val c)))) (.nd (.nd (.nd (.nd .lf (.c (.pt 0 0)) .lf) .any (.nd .lf (.c (.p (.bool false))) .lf)) (.c (.pt 0 0)) (.nd (.nd .lf (.c (.p (.bool false))) .lf) (.c (.p (.int .i64 ((i : Nat) : Int)))) .lf)) (.c (.p (.bool false))) (.nd (.nd (.nd .lf (.c (.p (.isl 1 1 (fun x5 => (fun x6 => (List.getD [(.int .i64 (c i 0))] ((x5 * 1) + x6) .npt)))))) .lf) (.c (.p (.isl 2 n (S.val c)))) (.nd .lf (.c (.p (.bool true))) .lf)) .any (.nd (.nd .lf (.c (.pt 0 1)) .lf) (.c (.p (.ipt 2 (S.val c i)))) .lf)))), [(some (.box 36 [(.p (.int .i64 (c i 0))), (.p (.int .i64 (c i 1)))]))]⟩)))
  (Q .ret ⟨(.nd (.nd (.nd (.nd (.nd .lf (.ag [(.p (.int .i64 (c i 0))), (.p (.int .i64 (c i 1)))]) .lf) .any (.nd .lf (.tp []) .lf)) .any (.nd (.nd .lf (.c (.p (.bool false))) .lf) (.c (.p (.int .i64 ((n : Nat) : Int)))) .lf)) .any (.nd (.nd (.nd .lf (.c (.p (.int .i64 (c i 0)))) .lf) .any (.nd .lf (.tp []) .lf)) .any (.nd (.nd .lf (.c (.p (.bool true))) .lf) (.c (.p (.bool true))) .lf))) (.c (.p (.isl 2 n (S.val c)))) (.nd (.nd (.nd (.nd .lf (.c (.pt 0 0)) .lf) .any (.nd .lf (.tp []) .lf)) (.c (.pt 0 0)) (.nd (.nd .lf (.c (.p (.bool true))) .lf) (.c (.p (.int .i64 ((i : Nat) : Int)))) .lf)) (.c (.p (.bool false))) (.nd (.nd (.nd .lf (.c (.p (.isl 1 1 (fun x5 => (fun x6 => (List.getD [(.int .i64 (c i 0))] ((x5 * 1) + x6) .npt)))))) .lf) (.c (.p (.isl 2 n (S.val c)))) (.nd .lf (.c (.p (.bool true))) .lf)) .any (.nd (.nd .lf (.tp []) .lf) (.c (.p (.ipt 2 (S.val c i)))) .lf)))), [(some (.box 36 [(.p (.int .i64 (c i 0))), (.p (.int .i64 (c i 1)))]))]⟩))))
 (Q (.exit 0) ⟨(.nd (.nd (.nd .lf .any (.nd .lf (.c (.p (.int .i64 ((n : Nat) : Int)))) .lf)) .any (.nd .lf .any (.nd .lf (.c (.p (.bool false))) .lf))) (.c (.p (.isl 2 n (S.val c)))) (.nd (.nd .lf .any (.nd .lf (.c (.p (.int .i64 ((i : Nat) : Int)))) .lf)) .any (.nd (.nd .lf (.c (.p (.isl 2 n (S.val c)))) .lf) .any .lf))), []⟩))) = (ex (cs hbs) (fu + 60) 0 m49_l1 ⟨setAll [(.h, .c (.p (.isl 2 n (S.val c)))), (.i (.i (.o .h)), .c (.p (.isl 2 n (S.val c)))), (.o (.o (.i .h)), .c (.p (.int .i64 n))), (.i (.o (.i .h)), .c (.p (.int .i64 i)))], []⟩ (fun e s => .pr (Q e s))).hold2 := by kernel_rfl
end
end Go.Ab.B
set_option linter.all false
set_option maxRecDepth 100000
namespace Go.Ab
theorem frz_b {H : Heap} {b b' : Bool} (h : b' = b) : frzA H (vB b) = some (vB b') := by subst h; rfl
theorem idx_ok {i n : Nat} (h : i < n) : Cd.holds (.rng ((i : Nat) : Int) n) := ⟨by omega, by omega⟩
end Go.Ab
namespace Go.Ab.B
open Go.Proofs
section
variable {hbs : BsOk Tryd.prog} (hT : TabOk (cs hbs))
include hT

theorem fc29 (lo hi x : Int) : FCall (cs hbs) 29 [.ag [.p (.int .i64 lo), .p (.int .i64 hi)], .c (.p (.int .i64 x))] (vB (S.inB lo x hi)) [] :=
  fcall_k hT (F := F29) rfl (vc29 lo hi x _) (brP (fun h1 => brP (fun h2 => frz_b (by simp [S.inB, h1, h2])) fun h2 => frz_b (by simp [S.inB, h1, h2])) fun h1 => frz_b (by simp [S.inB, h1]))
theorem fc31 (lo hi x : Int) : FCall (cs hbs) 31 [.c (.p (.int .i64 x)), .c (.p (.int .i64 lo)), .c (.p (.int .i64 hi))] (vB (S.inB lo x hi)) [] :=
  fcall_k hT (F := F31) rfl (vc31 lo hi x _) (brP (fun h1 => brP (fun h2 => frz_b (by simp at h1 h2; simp [S.inB, h1, h2])) fun h2 => frz_b (by simp at h1 h2; simp [S.inB, h1]; omega)) fun h1 => frz_b (by simp at h1; simp [S.inB]; omega))
theorem fc32 (a m : Int) : FCall (cs hbs) 32 [.ag [.p (.int .i64 a), .p (.int .i64 m)]] (vB (S.stOk a m)) [] :=
  fcall_k hT (F := F32) rfl (vc32 a m _) ⟨fc31 hT _ _ _, brP (fun h1 => ⟨fc31 hT _ _ _, brP (fun h2 => frz_b (by simp [S.stOk, h1, h2])) fun h2 => frz_b (by simp [S.stOk, h1, h2])⟩) fun h1 => frz_b (by simp [S.stOk, h1])⟩

theorem go50 (fu n : Nat) (s : S.Rows) (hn : n ≤ maxLen) : ∀ (i : Nat) (st : St), i ≤ n → Has st [(.o (.i .h), .c (.p (.isl 2 n (S.val s)))), (.i (.i .h), .c (.p (.int .i64 n))), (.o (.o (.o .h)), .c (.p (.int .i64 i)))] [] →
    LoopGo (ex (cs hbs) (fu + 60)) 0 m50_l1 st (.br (S.from_ (S.stnAt s) n i) (.e (.exit 0) ⟨.lf, []⟩) (.e .ret ⟨setAll [(.i .h, vB false)], []⟩)) :=
  loop_k (σ := Nat) (fun i => [(.o (.i .h), .c (.p (.isl 2 n (S.val s)))), (.i (.i .h), .c (.p (.int .i64 n))), (.o (.o (.o .h)), .c (.p (.int .i64 i)))]) (fun _ => []) (fun i => i ≤ n) (fun i => n - i)
    (fun i => .br (S.from_ (S.stnAt s) n i) (.e (.exit 0) ⟨.lf, []⟩) (.e .ret ⟨setAll [(.i .h, vB false)], []⟩)) (fun _ => Nat.le_refl _) _ (fun i Q => vs50 (hbs := hbs) fu n i s Q) fun i hi K hL X hX => by
      refine brP (fun h1 => cdP (idx_ok (by simpa using h1)) ⟨fc29 hT _ _ _, brP (fun h2 => ⟨fc29 hT _ _ _, brP (fun h3 => cdP ?_ ?_) fun h3 => ?_⟩) fun h2 => ?_⟩) fun h1 => ?_
      · have hlt : i < n := by simpa using h1
        simp [maxLen] at hn; simp [Cd.holds]; omega
      · have hlt : i < n := by simpa using h1
        refine hX (i + 1) _ (by omega) (by omega) (.cons (by kernel_rfl) rfl (.cons (by kernel_rfl) rfl (.cons (by kernel_rfl) rfl (.nil rfl rfl)))) ?_
        have e : S.stnAt s i = true := by simp [S.stnAt, S.stOk, h2, h3]
        rw [S.from_step hlt, e, Bool.true_and] at hL
        exact hL
      · have hlt : i < n := by simpa using h1
        have e : S.stnAt s i = false := by simp [S.stnAt, S.stOk, h2, h3]
        rw [S.from_step hlt, e, Bool.false_and] at hL
        exact Has.out (l := [(.i .h, vB false)]) (.cons (by kernel_rfl) rfl (.nil (ex := _) rfl rfl)) (Nat.le_refl _) hL
      · have hlt : i < n := by simpa using h1
        have e : S.stnAt s i = false := by simp [S.stnAt, S.stOk, h2]
        rw [S.from_step hlt, e, Bool.false_and] at hL
        exact Has.out (l := [(.i .h, vB false)]) (.cons (by kernel_rfl) rfl (.nil (ex := _) rfl rfl)) (Nat.le_refl _) hL
      · have hlt : n ≤ i := by simpa using h1
        rw [S.from_end hlt] at hL
        exact Has.out (l := []) (.nil (ex := []) rfl rfl) (Nat.le_refl _) hL

theorem fc50 (n : Nat) (s : S.Rows) (hn : n ≤ maxLen) : FCall (cs hbs) 50 [.c (.p (.isl 2 n (S.val s)))] (vB (S.stn n s)) [] :=
  fcall_k hT (F := F50) rfl (vc50 n s _) ⟨go50 hT 935 n s hn 0 _ (Nat.zero_le _) (.cons (by kernel_rfl) rfl (.cons (by kernel_rfl) rfl (.cons (by kernel_rfl) rfl (.nil rfl rfl)))), brP (fun h => frz_b (by exact h)) fun h => frz_b (by exact h)⟩

theorem fc47 (m : Int) : FCall (cs hbs) 29 [.ag [.p (.int .i64 (-20000000)), .p (.int .i64 20000000)], .c (.p (.int .i64 m))] (vB (S.inB (-20000000) m 20000000)) [] := fc29 hT _ _ _
theorem go49 (fu n : Nat) (c : S.Rows) (hn : n ≤ maxLen) : ∀ (i : Nat) (st : St), i ≤ n → Has st [(.h, .c (.p (.isl 2 n (S.val c)))), (.i (.i (.o .h)), .c (.p (.isl 2 n (S.val c)))), (.o (.o (.i .h)), .c (.p (.int .i64 n))), (.i (.o (.i .h)), .c (.p (.int .i64 i)))] [] →
    LoopGo (ex (cs hbs) (fu + 60)) 0 m49_l1 st (.br (S.from_ (S.corAt c) n i) (.e (.exit 0) ⟨setAll [(.h, .c (.p (.isl 2 n (S.val c))))], []⟩) (.e .ret ⟨setAll [(.i .h, vB false)], []⟩)) :=
  loop_k (σ := Nat) (fun i => [(.h, .c (.p (.isl 2 n (S.val c)))), (.i (.i (.o .h)), .c (.p (.isl 2 n (S.val c)))), (.o (.o (.i .h)), .c (.p (.int .i64 n))), (.i (.o (.i .h)), .c (.p (.int .i64 i)))]) (fun _ => []) (fun i => i ≤ n) (fun i => n - i)
    (fun i => .br (S.from_ (S.corAt c) n i) (.e (.exit 0) ⟨setAll [(.h, .c (.p (.isl 2 n (S.val c))))], []⟩) (.e .ret ⟨setAll [(.i .h, vB false)], []⟩)) (fun _ => Nat.le_refl _) _ (fun i Q => vs49 (hbs := hbs) fu n i c Q) fun i hi K hL X hX => by
      refine brP (fun h1 => cdP (idx_ok (by simpa using h1)) ⟨fc29 hT _ _ _, brP (fun h2 => ⟨fc29 hT _ _ _, brP (fun h3 => cdP ?_ ?_) fun h3 => ?_⟩) fun h2 => ?_⟩) fun h1 => ?_
      · have hlt : i < n := by simpa using h1
        simp [maxLen] at hn; simp [Cd.holds]; omega
      · have hlt : i < n := by simpa using h1
        refine hX (i + 1) _ (by omega) (by omega) (.cons (by kernel_rfl) rfl (.cons (by kernel_rfl) rfl (.cons (by kernel_rfl) rfl (.cons (by kernel_rfl) rfl (.nil rfl rfl))))) ?_
        have e : S.corAt c i = true := by simp [S.corAt, h2, h3]
        rw [S.from_step hlt, e, Bool.true_and] at hL
        exact hL
      · have hlt : i < n := by simpa using h1
        have e : S.corAt c i = false := by simp [S.corAt, h2, h3]
        rw [S.from_step hlt, e, Bool.false_and] at hL
        exact Has.out (l := [(.i .h, vB false)]) (.cons (by kernel_rfl) rfl (.nil (ex := _) rfl rfl)) (Nat.le_refl _) hL
      · have hlt : i < n := by simpa using h1
        have e : S.corAt c i = false := by simp [S.corAt, h2]
        rw [S.from_step hlt, e, Bool.false_and] at hL
        exact Has.out (l := [(.i .h, vB false)]) (.cons (by kernel_rfl) rfl (.nil (ex := _) rfl rfl)) (Nat.le_refl _) hL
      · have hlt : n ≤ i := by simpa using h1
        rw [S.from_end hlt] at hL
        exact Has.out (l := [(.h, .c (.p (.isl 2 n (S.val c))))]) (.cons (by kernel_rfl) rfl (.nil (ex := []) rfl rfl)) (Nat.le_refl _) hL
end
end Go.Ab.B
set_option linter.all false
set_option maxRecDepth 100000
namespace Go.Ab.B
open Go.Proofs
section
variable {hbs : BsOk Tryd.prog}
theorem vc30 (n : Nat) (c : S.Rows) (w m : Int) (Q : AV → Heap → Prop) :
 (((LoopGo (ex (cs hbs) 992) 6 m72_l1 ⟨(.nd (.nd (.nd (.nd .lf (.c (.p (.int .i64 (0 : Int)))) .lf) .any .lf) (.c (.pt 3 0)) (.nd .lf (.c (.p (.isl 2 n (S.val c)))) .lf)) (.c (.ref 5)) (.nd .lf .any (.nd .lf (.c (.p (.int .i64 ((n : Nat) : Int)))) .lf))), [(some (.box 3 [(.p (.int .i64 w))])), (some (.box 3 [(.p (.int .i64 m))])), (some (.box 4 [(.p (.bool false))])), (some (.box 22 [(.p (.isl 2 n (S.val c)))])), (some (.clo 72 [] [(.c (.pt 3 0))])), (some (.lp 18 (.nd (.nd .lf (.c (.p (.int .i64 w))) (.nd (.nd .lf (.c (.p (.isl 2 n (S.val c)))) .lf) (.c (.pt 1 0)) .lf)) (.c (.p (.isl 2 n (S.val c)))) (.nd (.nd .lf (.c (.pt 0 0)) .lf) (.c (.p (.int .i64 m))) (.nd (.nd .lf (.c (.ref 4)) .lf) (.c (.pt 2 0)) .lf))) [(.o (.o (.i .h))), (.i (.o (.i .h)))] m30_a1 m30_b1 .ready))]⟩ (.br (S.from_ (S.insAt n c w m) n 0) (.e (.exit 0) ⟨.lf, [(some (.box 3 [(.p (.int .i64 w))])), (some (.box 3 [(.p (.int .i64 m))])), (some (.box 4 [(.p (.bool false))])), (some (.box 22 [(.p (.isl 2 n (S.val c)))])), (some (.clo 72 [] [(.c (.pt 3 0))])), (some (.lp 18 (.nd (.nd .lf (.c (.p (.int .i64 w))) (.nd (.nd .lf (.c (.p (.isl 2 n (S.val c)))) .lf) (.c (.pt 1 0)) .lf)) (.c (.p (.isl 2 n (S.val c)))) (.nd (.nd .lf (.c (.pt 0 0)) .lf) (.c (.p (.int .i64 m))) (.nd (.nd .lf (.c (.ref 4)) .lf) (.c (.pt 2 0)) .lf))) [(.o (.o (.i .h))), (.i (.o (.i .h)))] m30_a1 m30_b1 .ready))]⟩) (.e .ret ⟨.lf, [(some (.box 3 [(.p (.int .i64 w))])), (some (.box 3 [(.p (.int .i64 m))])), (some (.box 4 [(.p (.bool false))])), (some (.box 22 [(.p (.isl 2 n (S.val c)))])), (some (.clo 72 [] [(.c (.pt 3 0))])), (some (.lp 18 (.nd (.nd .lf (.c (.p (.int .i64 w))) (.nd (.nd .lf (.c (.p (.isl 2 n (S.val c)))) .lf) (.c (.pt 1 0)) .lf)) (.c (.p (.isl 2 n (S.val c)))) (.nd (.nd .lf (.c (.pt 0 0)) .lf) (.c (.p (.int .i64 m))) (.nd (.nd .lf (.c (.ref 4)) .lf) (.c (.pt 2 0)) .lf))) [(.o (.o (.i .h))), (.i (.o (.i .h)))] m30_a1 m30_b1 (.done .ret)))]⟩))) ∧
 (BrP (S.from_ (S.insAt n c w m) n 0)
 (Q (.c (.p (.bool true))) [(some (.box 3 [(.p (.int .i64 w))])), (some (.box 3 [(.p (.int .i64 m))])), (some (.box 4 [(.p (.bool true))])), (some (.box 22 [(.p (.isl 2 n (S.val c)))])), (some (.clo 72 [] [(.c (.pt 3 0))])), none])
 (Q (.c (.p (.bool false))) [(some (.box 3 [(.p (.int .i64 w))])), (some (.box 3 [(.p (.int .i64 m))])), (some (.box 4 [(.p (.bool false))])), (some (.box 22 [(.p (.isl 2 n (S.val c)))])), (some (.clo 72 [] [(.c (.pt 3 0))])), none])))) = (ex (cs hbs) 1000 0 m30 ⟨ofL 0 [.c (.p (.isl 2 n (S.val c))), .c (.p (.int .i64 w)), .c (.p (.int .i64 m))] .lf, []⟩ (endK F30.rs (fun r H => .pr (Q r H)) fun _ _ => .no)).hold2 := by kernel_rfl
theorem vs72i (fu n i : Nat) (c : S.Rows) (w m : Int) (Q : AX → St → Prop) :
 ((BrP (decide (((i : Nat) : Int) < ((n : Nat) : Int)))
 (CdP (.rng ((i : Nat) : Int) n)
  (CdP (.i64 (((i : Nat) : Int) + (1 : Int)))
  (CdP (.ne ((n : Nat) : Int))
  (CdP (.rng (Int.tmod (((i : Nat) : Int) + (1 : Int)) ((n : Nat) : Int)) n)
  (CdP (.i64 ((c (Int.toNat (Int.tmod (((i : Nat) : Int) + (1 : Int)) ((n : Nat) : Int))) 0) - (c i 0)))
  (CdP (.i64 (m - (c i 1)))
  (CdP (.i64 (((c (Int.toNat (Int.tmod (((i : Nat) : Int) + (1 : Int)) ((n : Nat) : Int))) 0) - (c i 0)) * (m - (c i 1))))
  (CdP (.i64 ((c (Int.toNat (Int.tmod (((i : Nat) : Int) + (1 : Int)) ((n : Nat) : Int))) 1) - (c i 1)))
  (CdP (.i64 (w - (c i 0)))
  (CdP (.i64 (((c (Int.toNat (Int.tmod (((i : Nat) : Int) + (1 : Int)) ((n : Nat) : Int))) 1) - (c i 1)) * (w - (c i 0))))
  (CdP (.i64 ((((c (Int.toNat (Int.tmod (((i : Nat) : Int) + (1 : Int)) ((n : Nat) : Int))) 0) - (c i 0)) * (m - (c i 1))) - (((c (Int.toNat (Int.tmod (((i : Nat) : Int) + (1 : Int)) ((n : Nat) : Int))) 1) - (c i 1)) * (w - (c i 0)))))
  (BrP (decide (((((c (Int.toNat (Int.tmod (((i : Nat) : Int) + (1 : Int)) ((n : Nat) : Int))) 0) - (c i 0)) * (m - (c i 1))) - (((c (Int.toNat (Int.tmod (((i : Nat) : Int) + (1 : Int)) ((n : Nat) : Int))) 1) - (c i 1)) * (w - (c i 0)))) < (0 : Int)))
  (Q .ret ⟨(.nd (.nd (.nd (.nd (.nd .lf (.c (.p (.isl 2 n (S.val c)))) .lf) (.c (.p (.int .i64 ((i : Nat) : Int)))) (.nd .lf (.ag [(.p (.int .i64 (c i 0))), (.p (.int .i64 (c i 1))), (.p (.int .i64 (c (Int.toNat (Int.tmod (((i : Nat) : Int) + (1 : Int)) ((n : Nat) : Int))) 0))), (.p (.int .i64 (c (Int.toNat (Int.tmod (((i : Nat) : Int) + (1 : Int)) ((n : Nat) : Int))) 1)))]) .lf)) (.c (.p (.int .i64 ((i : Nat) : Int)))) (.nd (.nd .lf (.c (.p (.int .i64 ((n : Nat) : Int)))) .lf) (.ag [(.p (.int .i64 (c i 0))), (.p (.int .i64 (c i 1)))]) .lf)) (.c (.pt 3 0)) (.nd (.nd (.nd .lf (.c (.p (.int .i64 (((i : Nat) : Int) + (1 : Int))))) .lf) (.c (.p (.int .i64 ((i : Nat) : Int)))) (.nd .lf (.c (.p (.bool true))) .lf)) (.c (.p (.isl 2 n (S.val c)))) (.nd (.nd .lf (.c (.p (.ipt 2 (S.val c (Int.toNat (Int.tmod (((i : Nat) : Int) + (1 : Int)) ((n : Nat) : Int))))))) .lf) (.c (.p (.int .i64 ((i : Nat) : Int)))) .lf))) (.c (.ref 5)) (.nd (.nd (.nd (.nd .lf (.c (.p (.int .i64 ((i : Nat) : Int)))) .lf) (.c (.p (.bool true))) (.nd .lf (.c (.p (.bool false))) .lf)) (.c (.pt 6 0)) (.nd (.nd .lf (.c (.p (.int .i64 (Int.tmod (((i : Nat) : Int) + (1 : Int)) ((n : Nat) : Int))))) .lf) (.c (.ref 5)) .lf)) .any (.nd (.nd (.nd .lf (.c (.p (.isl 2 n (S.val c)))) .lf) (.c (.p (.ipt 2 (S.val c i)))) .lf) (.c (.p (.int .i64 ((n : Nat) : Int)))) (.nd (.nd .lf (.ag [(.p (.int .i64 (c (Int.toNat (Int.tmod (((i : Nat) : Int) + (1 : Int)) ((n : Nat) : Int))) 0))), (.p (.int .i64 (c (Int.toNat (Int.tmod (((i : Nat) : Int) + (1 : Int)) ((n : Nat) : Int))) 1)))]) .lf) (.ag [(.p (.int .i64 (c i 0))), (.p (.int .i64 (c i 1)))]) .lf)))), [(some (.box 3 [(.p (.int .i64 w))])), (some (.box 3 [(.p (.int .i64 m))])), (some (.box 4 [(.p (.bool false))])), (some (.box 22 [(.p (.isl 2 n (S.val c)))])), (some (.clo 72 [] [(.c (.pt 3 0))])), (some (.lp 18 (.nd (.nd .lf (.c (.p (.int .i64 w))) (.nd (.nd .lf (.c (.p (.isl 2 n (S.val c)))) .lf) (.c (.pt 1 0)) .lf)) (.c (.p (.isl 2 n (S.val c)))) (.nd (.nd .lf (.c (.pt 0 0)) .lf) (.c (.p (.int .i64 m))) (.nd (.nd .lf (.c (.ref 4)) .lf) (.c (.pt 2 0)) .lf))) [(.o (.o (.i .h))), (.i (.o (.i .h)))] m30_a1 m30_b1 (.done .ret))), (some (.box 36 [(.p (.int .i64 (c i 0))), (.p (.int .i64 (c i 1)))])), (some (.box 111 [(.p (.int .i64 (c i 0))), (.p (.int .i64 (c i 1))), (.p (.int .i64 (c (Int.toNat (Int.tmod (((i : Nat) : Int) + (1 : Int)) ((n : Nat) : Int))) 0))), (.p (.int .i64 (c (Int.toNat (Int.tmod (((i : Nat) : Int) + (1 : Int)) ((n : Nat) : Int))) 1)))]))]⟩)
  (CdP (.i64 (((i : Nat) : Int) + (1 : Int)))
   (Q .normal ⟨(.nd (.nd (.nd (.nd (.nd .lf (.c (.p (.isl 2 n (S.val c)))) .lf) (.c (.p (.int .i64 (((i : Nat) : Int) + (1 : Int))))) (.nd .lf (.ag [(.p (.int .i64 (c i 0))), (.p (.int .i64 (c i 1))), (.p (.int .i64 (c (Int.toNat (Int.tmod (((i : Nat) : Int) + (1 : Int)) ((n : Nat) : Int))) 0))), (.p (.int .i64 (c (Int.toNat (Int.tmod (((i : Nat) : Int) + (1 : Int)) ((n : Nat) : Int))) 1)))]) .lf)) (.c (.p (.int .i64 ((i : Nat) : Int)))) (.nd (.nd .lf (.c (.p (.int .i64 ((n : Nat) : Int)))) .lf) (.ag [(.p (.int .i64 (c i 0))), (.p (.int .i64 (c i 1)))]) .lf)) (.c (.pt 3 0)) (.nd (.nd (.nd .lf (.c (.p (.int .i64 (((i : Nat) : Int) + (1 : Int))))) .lf) (.c (.p (.int .i64 ((i : Nat) : Int)))) (.nd .lf (.c (.p (.bool false))) .lf)) (.c (.p (.isl 2 n (S.val c)))) (.nd (.nd .lf (.c (.p (.ipt 2 (S.val c (Int.toNat (Int.tmod (((i : Nat) : Int) + (1 : Int)) ((n : Nat) : Int))))))) .lf) (.c (.p (.int .i64 ((i : Nat) : Int)))) .lf))) (.c (.ref 5)) (.nd (.nd (.nd (.nd .lf (.c (.p (.int .i64 ((i : Nat) : Int)))) .lf) (.c (.p (.bool true))) (.nd .lf (.c (.p (.bool true))) .lf)) (.c (.pt 6 0)) (.nd (.nd .lf (.c (.p (.int .i64 (Int.tmod (((i : Nat) : Int) + (1 : Int)) ((n : Nat) : Int))))) .lf) (.c (.ref 5)) .lf)) .any (.nd (.nd (.nd .lf (.c (.p (.isl 2 n (S.val c)))) .lf) (.c (.p (.ipt 2 (S.val c i)))) (.nd .lf (.c (.p (.int .i64 (((i : Nat) : Int) + (1 : Int))))) .lf)) (.c (.p (.int .i64 ((n : Nat) : Int)))) (.nd (.nd .lf (.ag [(.p (.int .i64 (c (Int.toNat (Int.tmod (((i : Nat) : Int) + (1 : Int)) ((n : Nat) : Int))) 0))), (.p (.int .i64 (c (Int.toNat (Int.tmod (((i : Nat) : Int) + (1 : Int)) ((n : Nat) : Int))) 1)))]) .lf) (.ag [(.p (.int .i64 (c i 0))), (.p (.int .i64 (c i 1)))]) .lf)))), [(some (.box 3 [(.p (.int .i64 w))])), (some (.box 3 [(.p (.int .i64 m))])), (some (.box 4 [(.p (.bool false))])), (some (.box 22 [(.p (.isl 2 n (S.val c)))])), (some (.clo 72 [] [(.c (.pt 3 0))])), (some (.lp 18 (.nd (.nd .lf (.c (.p (.int .i64 w))) (.nd (.nd .lf (.c (.p (.isl 2 n (S.val c)))) .lf) (.c (.pt 1 0)) .lf)) (.c (.p (.isl 2 n (S.val c)))) (.nd (.nd .lf (.c (.pt 0 0)) .lf) (.c (.p (.int .i64 m))) (.nd (.nd .lf (.c (.ref 4)) .lf) (.c (.pt 2 0)) .lf))) [(.o (.o (.i .h))), (.i (.o (.i .h)))] m30_a1 m30_b1 .ready)), (some (.box 36 [(.p (.int .i64 (c i 0))), (.p (.int .i64 (c i 1)))])), (some (.box 111 [(.p (.int .i64 (c i 0))), (.p (.int .i64 (c i 1))), (.p (.int .i64 (c (Int.toNat (Int.tmod (((i : Nat) : Int) + (1 : Int)) ((n : Nat) : Int))) 0))), (.p (.int .i64 (c (Int.toNat (Int.tmod (((i : Nat) : Int) + (1 : Int)) ((n : Nat) : Int))) 1)))]))]⟩))))))))))))))
 (Q (.exit 0) ⟨(.nd (.nd (.nd (.nd .lf (.c (.p (.int .i64 ((i : Nat) : Int)))) .lf) .any .lf) (.c (.pt 3 0)) (.nd .lf (.c (.p (.isl 2 n (S.val c)))) .lf)) (.c (.ref 5)) (.nd (.nd (.nd .lf (.c (.p (.bool false))) .lf) .any .lf) .any (.nd .lf (.c (.p (.int .i64 ((n : Nat) : Int)))) .lf))), [(some (.box 3 [(.p (.int .i64 w))])), (some (.box 3 [(.p (.int .i64 m))])), (some (.box 4 [(.p (.bool false))])), (some (.box 22 [(.p (.isl 2 n (S.val c)))])), (some (.clo 72 [] [(.c (.pt 3 0))])), (some (.lp 18 (.nd (.nd .lf (.c (.p (.int .i64 w))) (.nd (.nd .lf (.c (.p (.isl 2 n (S.val c)))) .lf) (.c (.pt 1 0)) .lf)) (.c (.p (.isl 2 n (S.val c)))) (.nd (.nd .lf (.c (.pt 0 0)) .lf) (.c (.p (.int .i64 m))) (.nd (.nd .lf (.c (.ref 4)) .lf) (.c (.pt 2 0)) .lf))) [(.o (.o (.i .h))), (.i (.o (.i .h)))] m30_a1 m30_b1 .ready))]⟩))) = (ex (cs hbs) (fu + 60) 6 m72_l1 ⟨setAll [(.h, .c (.ref 5)), (.o .h, .c (.pt 3 0)), (.o (.i .h), .c (.p (.isl 2 n (S.val c)))), (.i (.i .h), .c (.p (.int .i64 n))), (.o (.o (.o .h)), .c (.p (.int .i64 i)))], H30 n (S.val c) w m .ready⟩ (fun e s => .pr (Q e s))).hold2 := by kernel_rfl
theorem vc71 (n : Nat) (c : S.Rows) (Q : AV → Heap → Prop) :
 (((LoopGo (ex (cs hbs) 992) 5 m72_l1 ⟨(.nd (.nd (.nd (.nd .lf (.c (.p (.int .i64 (0 : Int)))) .lf) .any .lf) (.c (.pt 2 0)) (.nd .lf (.c (.p (.isl 2 n (S.val c)))) .lf)) (.c (.ref 4)) (.nd .lf .any (.nd .lf (.c (.p (.int .i64 ((n : Nat) : Int)))) .lf))), [(some (.box 22 [(.p (.isl 2 n (S.val c)))])), (some (.box 4 [(.p (.bool false))])), (some (.box 22 [(.p (.isl 2 n (S.val c)))])), (some (.clo 72 [] [(.c (.pt 2 0))])), (some (.lp 43 (.nd (.nd .lf (.c (.pt 0 0)) (.nd (.nd .lf (.c (.ref 3)) .lf) .any .lf)) (.c (.p (.isl 2 n (S.val c)))) (.nd (.nd (.nd .lf (.c (.p (.isl 2 n (S.val c)))) .lf) .any .lf) (.c (.pt 1 0)) .lf)) [(.i (.i (.o .h))), (.o (.o (.i .h)))] m71_a1 m71_b1 .ready))]⟩ (.br (S.from_ (S.cvxRow n c) n 0) (.e (.exit 0) ⟨.lf, [(some (.box 22 [(.p (.isl 2 n (S.val c)))])), (some (.box 4 [(.p (.bool false))])), (some (.box 22 [(.p (.isl 2 n (S.val c)))])), (some (.clo 72 [] [(.c (.pt 2 0))])), (some (.lp 43 (.nd (.nd .lf (.c (.pt 0 0)) (.nd (.nd .lf (.c (.ref 3)) .lf) .any .lf)) (.c (.p (.isl 2 n (S.val c)))) (.nd (.nd (.nd .lf (.c (.p (.isl 2 n (S.val c)))) .lf) .any .lf) (.c (.pt 1 0)) .lf)) [(.i (.i (.o .h))), (.o (.o (.i .h)))] m71_a1 m71_b1 .ready))]⟩) (.e .ret ⟨.lf, [(some (.box 22 [(.p (.isl 2 n (S.val c)))])), (some (.box 4 [(.p (.bool false))])), (some (.box 22 [(.p (.isl 2 n (S.val c)))])), (some (.clo 72 [] [(.c (.pt 2 0))])), (some (.lp 43 (.nd (.nd .lf (.c (.pt 0 0)) (.nd (.nd .lf (.c (.ref 3)) .lf) .any .lf)) (.c (.p (.isl 2 n (S.val c)))) (.nd (.nd (.nd .lf (.c (.p (.isl 2 n (S.val c)))) .lf) .any .lf) (.c (.pt 1 0)) .lf)) [(.i (.i (.o .h))), (.o (.o (.i .h)))] m71_a1 m71_b1 (.done .ret)))]⟩))) ∧
 (BrP (S.from_ (S.cvxRow n c) n 0)
 (Q (.c (.p (.bool true))) [(some (.box 22 [(.p (.isl 2 n (S.val c)))])), (some (.box 4 [(.p (.bool true))])), (some (.box 22 [(.p (.isl 2 n (S.val c)))])), (some (.clo 72 [] [(.c (.pt 2 0))])), none])
 (Q (.c (.p (.bool false))) [(some (.box 22 [(.p (.isl 2 n (S.val c)))])), (some (.box 4 [(.p (.bool false))])), (some (.box 22 [(.p (.isl 2 n (S.val c)))])), (some (.clo 72 [] [(.c (.pt 2 0))])), none])))) = (ex (cs hbs) 1000 0 m71 ⟨ofL 0 [.c (.p (.isl 2 n (S.val c)))] .lf, []⟩ (endK F71.rs (fun r H => .pr (Q r H)) fun _ _ => .no)).hold2 := by kernel_rfl
theorem vs72c (fu n i : Nat) (c : S.Rows) (Q : AX → St → Prop) :
 ((BrP (decide (((i : Nat) : Int) < ((n : Nat) : Int)))
 (CdP (.rng ((i : Nat) : Int) n)
  (CdP (.i64 (((i : Nat) : Int) + (1 : Int)))
  (CdP (.ne ((n : Nat) : Int))
  (CdP (.rng (Int.tmod (((i : Nat) : Int) + (1 : Int)) ((n : Nat) : Int)) n)
  ((LoopGo (ex (cs hbs) (fu + 49)) 6 m71_l1 ⟨(.nd (.nd (.nd .lf (.c (.p (.int .i64 ((i : Nat) : Int)))) (.nd .lf (.ag [(.p (.int .i64 (c i 0))), (.p (.int .i64 (c i 1))), (.p (.int .i64 (c (Int.toNat (Int.tmod (((i : Nat) : Int) + (1 : Int)) ((n : Nat) : Int))) 0))), (.p (.int .i64 (c (Int.toNat (Int.tmod (((i : Nat) : Int) + (1 : Int)) ((n : Nat) : Int))) 1)))]) .lf)) (.c (.pt 0 0)) (.nd (.nd .lf (.c (.ref 3)) .lf) .any (.nd .lf (.c (.p (.int .i64 ((n : Nat) : Int)))) .lf))) (.c (.p (.isl 2 n (S.val c)))) (.nd (.nd (.nd .lf (.c (.p (.isl 2 n (S.val c)))) .lf) (.c (.pt 6 0)) (.nd .lf (.c (.p (.isl 2 n (S.val c)))) .lf)) (.c (.pt 1 0)) (.nd (.nd .lf (.c (.p (.int .i64 ((i : Nat) : Int)))) .lf) .any (.nd .lf (.c (.p (.int .i64 (0 : Int)))) .lf)))), [(some (.box 22 [(.p (.isl 2 n (S.val c)))])), (some (.box 4 [(.p (.bool false))])), (some (.box 22 [(.p (.isl 2 n (S.val c)))])), (some (.clo 72 [] [(.c (.pt 2 0))])), (some (.lp 43 (.nd (.nd .lf (.c (.pt 0 0)) (.nd (.nd .lf (.c (.ref 3)) .lf) .any .lf)) (.c (.p (.isl 2 n (S.val c)))) (.nd (.nd (.nd .lf (.c (.p (.isl 2 n (S.val c)))) .lf) .any .lf) (.c (.pt 1 0)) .lf)) [(.i (.i (.o .h))), (.o (.o (.i .h)))] m71_a1 m71_b1 .busy)), (some (.box 36 [(.p (.int .i64 (c i 0))), (.p (.int .i64 (c i 1)))])), (some (.box 111 [(.p (.int .i64 (c i 0))), (.p (.int .i64 (c i 1))), (.p (.int .i64 (c (Int.toNat (Int.tmod (((i : Nat) : Int) + (1 : Int)) ((n : Nat) : Int))) 0))), (.p (.int .i64 (c (Int.toNat (Int.tmod (((i : Nat) : Int) + (1 : Int)) ((n : Nat) : Int))) 1)))]))]⟩ (.br (S.from_ (S.cvxAt n c i) n 0) (.e (.exit 2) ⟨.lf, [(some (.box 22 [(.p (.isl 2 n (S.val c)))])), (some (.box 4 [(.p (.bool false))])), (some (.box 22 [(.p (.isl 2 n (S.val c)))])), (some (.clo 72 [] [(.c (.pt 2 0))])), (some (.lp 43 (.nd (.nd .lf (.c (.pt 0 0)) (.nd (.nd .lf (.c (.ref 3)) .lf) .any .lf)) (.c (.p (.isl 2 n (S.val c)))) (.nd (.nd (.nd .lf (.c (.p (.isl 2 n (S.val c)))) .lf) .any .lf) (.c (.pt 1 0)) .lf)) [(.i (.i (.o .h))), (.o (.o (.i .h)))] m71_a1 m71_b1 .busy)), (some (.box 36 [(.p (.int .i64 (c i 0))), (.p (.int .i64 (c i 1)))])), (some (.box 111 [(.p (.int .i64 (c i 0))), (.p (.int .i64 (c i 1))), (.p (.int .i64 (c (Int.toNat (Int.tmod (((i : Nat) : Int) + (1 : Int)) ((n : Nat) : Int))) 0))), (.p (.int .i64 (c (Int.toNat (Int.tmod (((i : Nat) : Int) + (1 : Int)) ((n : Nat) : Int))) 1)))]))]⟩) (.e .ret ⟨.lf, [(some (.box 22 [(.p (.isl 2 n (S.val c)))])), (some (.box 4 [(.p (.bool false))])), (some (.box 22 [(.p (.isl 2 n (S.val c)))])), (some (.clo 72 [] [(.c (.pt 2 0))])), (some (.lp 43 (.nd (.nd .lf (.c (.pt 0 0)) (.nd (.nd .lf (.c (.ref 3)) .lf) .any .lf)) (.c (.p (.isl 2 n (S.val c)))) (.nd (.nd (.nd .lf (.c (.p (.isl 2 n (S.val c)))) .lf) .any .lf) (.c (.pt 1 0)) .lf)) [(.i (.i (.o .h))), (.o (.o (.i .h)))] m71_a1 m71_b1 .busy)), (some (.box 36 [(.p (.int .i64 (c i 0))), (.p (.int .i64 (c i 1)))])), (some (.box 111 [(.p (.int .i64 (c i 0))), (.p (.int .i64 (c i 1))), (.p (.int .i64 (c (Int.toNat (Int.tmod (((i : Nat) : Int) + (1 : Int)) ((n : Nat) : Int))) 0))), (.p (.int .i64 (c (Int.toNat (Int.tmod (((i : Nat) : Int) + (1 : Int)) ((n : Nat) : Int))) 1)))]))]⟩))) ∧
  (BrP (S.from_ (S.cvxAt n c i) n 0)
  (CdP (.i64 (((i : Nat) : Int) + (1 : Int)))
   (Q .normal ⟨(.nd (.nd (.nd (.nd (.nd .lf (.c (.p (.isl 2 n (S.val c)))) .lf) (.c (.p (.int .i64 (((i : Nat) : Int) + (1 : Int))))) (.nd .lf (.ag [(.p (.int .i64 (c i 0))), (.p (.int .i64 (c i 1))), (.p (.int .i64 (c (Int.toNat (Int.tmod (((i : Nat) : Int) + (1 : Int)) ((n : Nat) : Int))) 0))), (.p (.int .i64 (c (Int.toNat (Int.tmod (((i : Nat) : Int) + (1 : Int)) ((n : Nat) : Int))) 1)))]) .lf)) (.c (.p (.int .i64 ((i : Nat) : Int)))) (.nd (.nd .lf (.c (.p (.int .i64 ((n : Nat) : Int)))) .lf) (.ag [(.p (.int .i64 (c i 0))), (.p (.int .i64 (c i 1)))]) .lf)) (.c (.pt 2 0)) (.nd (.nd (.nd .lf (.c (.p (.int .i64 (((i : Nat) : Int) + (1 : Int))))) .lf) (.c (.p (.int .i64 ((i : Nat) : Int)))) (.nd .lf (.c (.p (.bool false))) .lf)) (.c (.p (.isl 2 n (S.val c)))) (.nd (.nd .lf (.c (.p (.ipt 2 (S.val c (Int.toNat (Int.tmod (((i : Nat) : Int) + (1 : Int)) ((n : Nat) : Int))))))) .lf) (.c (.p (.int .i64 ((i : Nat) : Int)))) .lf))) (.c (.ref 4)) (.nd (.nd (.nd (.nd .lf (.c (.p (.int .i64 ((i : Nat) : Int)))) .lf) (.c (.p (.bool true))) (.nd .lf (.c (.p (.bool true))) .lf)) (.c (.pt 5 0)) (.nd (.nd .lf (.c (.p (.int .i64 (Int.tmod (((i : Nat) : Int) + (1 : Int)) ((n : Nat) : Int))))) .lf) (.c (.ref 4)) .lf)) .any (.nd (.nd (.nd .lf (.c (.p (.isl 2 n (S.val c)))) .lf) (.c (.p (.ipt 2 (S.val c i)))) (.nd .lf (.c (.p (.int .i64 (((i : Nat) : Int) + (1 : Int))))) .lf)) (.c (.p (.int .i64 ((n : Nat) : Int)))) (.nd (.nd .lf (.ag [(.p (.int .i64 (c (Int.toNat (Int.tmod (((i : Nat) : Int) + (1 : Int)) ((n : Nat) : Int))) 0))), (.p (.int .i64 (c (Int.toNat (Int.tmod (((i : Nat) : Int) + (1 : Int)) ((n : Nat) : Int))) 1)))]) .lf) (.ag [(.p (.int .i64 (c i 0))), (.p (.int .i64 (c i 1)))]) .lf)))), [(some (.box 22 [(.p (.isl 2 n (S.val c)))])), (some (.box 4 [(.p (.bool false))])), (some (.box 22 [(.p (.isl 2 n (S.val c)))])), (some (.clo 72 [] [(.c (.pt 2 0))])), (some (.lp 43 (.nd (.nd .lf (.c (.pt 0 0)) (.nd (.nd .lf (.c (.ref 3)) .lf) .any .lf)) (.c (.p (.isl 2 n (S.val c)))) (.nd (.nd (.nd .lf (.c (.p (.isl 2 n (S.val c)))) .lf) .any .lf) (.c (.pt 1 0)) .lf)) [(.i (.i (.o .h))), (.o (.o (.i .h)))] m71_a1 m71_b1 .ready)), (some (.box 36 [(.p (.int .i64 (c i 0))), (.p (.int .i64 (c i 1)))])), (some (.box 111 [(.p (.int .i64 (c i 0))), (.p (.int .i64 (c i 1))), (.p (.int .i64 (c (Int.toNat (Int.tmod (((i : Nat) : Int) + (1 : Int)) ((n : Nat) : Int))) 0))), (.p (.int .i64 (c (Int.toNat (Int.tmod (((i : Nat) : Int) + (1 : Int)) ((n : Nat) : Int))) 1)))]))]⟩))
  (Q .ret ⟨(.nd (.nd (.nd (.nd (.nd .lf (.c (.p (.isl 2 n (S.val c)))) .lf) (.c (.p (.int .i64 ((i : Nat) : Int)))) (.nd .lf (.ag [(.p (.int .i64 (c i 0))), (.p (.int .i64 (c i 1))), (.p (.int .i64 (c (Int.toNat (Int.tmod (((i : Nat) : Int) + (1 : Int)) ((n : Nat) : Int))) 0))), (.p (.int .i64 (c (Int.toNat (Int.tmod (((i : Nat) : Int) + (1 : Int)) ((n : Nat) : Int))) 1)))]) .lf)) (.c (.p (.int .i64 ((i : Nat) : Int)))) (.nd (.nd .lf (.c (.p (.int .i64 ((n : Nat) : Int)))) .lf) (.ag [(.p (.int .i64 (c i 0))), (.p (.int .i64 (c i 1)))]) .lf)) (.c (.pt 2 0)) (.nd (.nd (.nd .lf (.c (.p (.int .i64 (((i : Nat) : Int) + (1 : Int))))) .lf) (.c (.p (.int .i64 ((i : Nat) : Int)))) (.nd .lf (.c (.p (.bool true))) .lf)) (.c (.p (.isl 2 n (S.val c)))) (.nd (.nd .lf (.c (.p (.ipt 2 (S.val c (Int.toNat (Int.tmod (((i : Nat) : Int) + (1 : Int)) ((n : Nat) : Int))))))) .lf) (.c (.p (.int .i64 ((i : Nat) : Int)))) .lf))) (.c (.ref 4)) (.nd (.nd (.nd (.nd .lf (.c (.p (.int .i64 ((i : Nat) : Int)))) .lf) (.c (.p (.bool true))) (.nd .lf (.c (.p (.bool false))) .lf)) (.c (.pt 5 0)) (.nd (.nd .lf (.c (.p (.int .i64 (Int.tmod (((i : Nat) : Int) + (1 : Int)) ((n : Nat) : Int))))) .lf) (.c (.ref 4)) .lf)) .any (.nd (.nd (.nd .lf (.c (.p (.isl 2 n (S.val c)))) .lf) (.c (.p (.ipt 2 (S.val c i)))) .lf) (.c (.p (.int .i64 ((n : Nat) : Int)))) (.nd (.nd .lf (.ag [(.p (.int .i64 (c (Int.toNat (Int.tmod (((i : Nat) : Int) + (1 : Int)) ((n : Nat) : Int))) 0))), (.p (.int .i64 (c (Int.toNat (Int.tmod (((i : Nat) : Int) + (1 : Int)) ((n : Nat) : Int))) 1)))]) .lf) (.ag [(.p (.int .i64 (c i 0))), (.p (.int .i64 (c i 1)))]) .lf)))), [(some (.box 22 [(.p (.isl 2 n (S.val c)))])), (some (.box 4 [(.p (.bool false))])), (some (.box 22 [(.p (.isl 2 n (S.val c)))])), (some (.clo 72 [] [(.c (.pt 2 0))])), (some (.lp 43 (.nd (.nd .lf (.c (.pt 0 0)) (.nd (.nd .lf (.c (.ref 3)) .lf) .any .lf)) (.c (.p (.isl 2 n (S.val c)))) (.nd (.nd (.nd .lf (.c (.p (.isl 2 n (S.val c)))) .lf) .any .lf) (.c (.pt 1 0)) .lf)) [(.i (.i (.o .h))), (.o (.o (.i .h)))] m71_a1 m71_b1 (.done .ret))), (some (.box 36 [(.p (.int .i64 (c i 0))), (.p (.int .i64 (c i 1)))])), (some (.box 111 [(.p (.int .i64 (c i 0))), (.p (.int .i64 (c i 1))), (.p (.int .i64 (c (Int.toNat (Int.tmod (((i : Nat) : Int) + (1 : Int)) ((n : Nat) : Int))) 0))), (.p (.int .i64 (c (Int.toNat (Int.tmod (((i : Nat) : Int) + (1 : Int)) ((n : Nat) : Int))) 1)))]))]⟩)))))))
 (Q (.exit 0) ⟨(.nd (.nd (.nd (.nd .lf (.c (.p (.int .i64 ((i : Nat) : Int)))) .lf) .any .lf) (.c (.pt 2 0)) (.nd .lf (.c (.p (.isl 2 n (S.val c)))) .lf)) (.c (.ref 4)) (.nd (.nd (.nd .lf (.c (.p (.bool false))) .lf) .any .lf) .any (.nd .lf (.c (.p (.int .i64 ((n : Nat) : Int)))) .lf))), [(some (.box 22 [(.p (.isl 2 n (S.val c)))])), (some (.box 4 [(.p (.bool false))])), (some (.box 22 [(.p (.isl 2 n (S.val c)))])), (some (.clo 72 [] [(.c (.pt 2 0))])), (some (.lp 43 (.nd (.nd .lf (.c (.pt 0 0)) (.nd (.nd .lf (.c (.ref 3)) .lf) .any .lf)) (.c (.p (.isl 2 n (S.val c)))) (.nd (.nd (.nd .lf (.c (.p (.isl 2 n (S.val c)))) .lf) .any .lf) (.c (.pt 1 0)) .lf)) [(.i (.i (.o .h))), (.o (.o (.i .h)))] m71_a1 m71_b1 .ready))]⟩))) = (ex (cs hbs) (fu + 60) 5 m72_l1 ⟨setAll [(.h, .c (.ref 4)), (.o .h, .c (.pt 2 0)), (.o (.i .h), .c (.p (.isl 2 n (S.val c)))), (.i (.i .h), .c (.p (.int .i64 n))), (.o (.o (.o .h)), .c (.p (.int .i64 i)))], H71 n (S.val c) .ready⟩ (fun e s => .pr (Q e s))).hold2 := by kernel_rfl
theorem vs71 (fu n k e nx : Nat) (c : S.Rows) (Q : AX → St → Prop) :
 ((BrP (decide (((k : Nat) : Int) < ((n : Nat) : Int)))
 (CdP (.rng ((k : Nat) : Int) n)
  (BrP (((k : Nat) : Int) == ((e : Nat) : Int))
  (CdP (.i64 (((k : Nat) : Int) + (1 : Int)))
   (Q .normal ⟨(.nd (.nd (.nd (.nd (.nd (.nd .lf (.c (.p (.bool true))) .lf) (.c (.p (.bool true))) .lf) (.c (.p (.bool true))) (.nd (.nd .lf (.tp []) .lf) (.tp []) .lf)) (.c (.p (.int .i64 ((e : Nat) : Int)))) (.nd (.nd (.nd .lf (.tp []) .lf) (.c (.p (.int .i64 ((k : Nat) : Int)))) .lf) .any (.nd .lf (.tp []) .lf))) (.c (.pt 0 0)) (.nd (.nd (.nd (.nd .lf (.c (.p (.bool false))) .lf) (.c (.p (.ipt 2 (S.val c k)))) .lf) .any (.nd (.nd .lf (.c (.p (.bool false))) .lf) (.tp []) .lf)) (.c (.p (.int .i64 ((k : Nat) : Int)))) (.nd (.nd (.nd .lf (.tp []) .lf) (.c (.p (.bool true))) .lf) (.c (.p (.int .i64 ((n : Nat) : Int)))) (.nd .lf (.tp []) .lf)))) .any (.nd (.nd (.nd (.nd (.nd .lf (.c (.p (.bool false))) .lf) (.c (.p (.int .i64 ((k : Nat) : Int)))) .lf) .any (.nd (.nd .lf (.tp []) .lf) (.tp []) .lf)) (.c (.pt 6 0)) (.nd (.nd (.nd .lf (.tp []) .lf) (.c (.p (.int .i64 ((e : Nat) : Int)))) .lf) (.c (.p (.isl 2 n (S.val c)))) (.nd .lf (.tp []) .lf))) (.c (.pt 1 0)) (.nd (.nd (.nd (.nd .lf (.tp []) .lf) (.ag [(.p (.int .i64 (c k 0))), (.p (.int .i64 (c k 1)))]) .lf) .any (.nd (.nd .lf (.c (.p (.int .i64 (((k : Nat) : Int) + (1 : Int))))) .lf) (.tp []) .lf)) (.c (.pt 7 0)) (.nd (.nd (.nd .lf (.tp []) .lf) (.c (.p (.bool true))) .lf) (.c (.p (.int .i64 (((k : Nat) : Int) + (1 : Int))))) (.nd .lf (.c (.p (.bool true))) .lf))))), [(some (.box 22 [(.p (.isl 2 n (S.val c)))])), (some (.box 4 [(.p (.bool false))])), (some (.box 22 [(.p (.isl 2 n (S.val c)))])), (some (.clo 72 [] [(.c (.pt 2 0))])), (some (.lp 43 (.nd (.nd .lf (.c (.pt 0 0)) (.nd (.nd .lf (.c (.ref 3)) .lf) .any .lf)) (.c (.p (.isl 2 n (S.val c)))) (.nd (.nd (.nd .lf (.c (.p (.isl 2 n (S.val c)))) .lf) .any .lf) (.c (.pt 1 0)) .lf)) [(.i (.i (.o .h))), (.o (.o (.i .h)))] m71_a1 m71_b1 .busy)), (some (.box 36 [(.p (.int .i64 (c e 0))), (.p (.int .i64 (c e 1)))])), (some (.box 111 [(.p (.int .i64 (c e 0))), (.p (.int .i64 (c e 1))), (.p (.int .i64 (c nx 0))), (.p (.int .i64 (c nx 1)))])), (some (.box 36 [(.p (.int .i64 (c k 0))), (.p (.int .i64 (c k 1)))]))]⟩))
  (CdP (.i64 (((e : Nat) : Int) + (1 : Int)))
   (CdP (.ne ((n : Nat) : Int))
   (BrP (((k : Nat) : Int) == (Int.tmod (((e : Nat) : Int) + (1 : Int)) ((n : Nat) : Int)))
   (CdP (.i64 (((k : Nat) : Int) + (1 : Int)))
    (Q .normal ⟨(.nd (.nd (.nd (.nd (.nd (.nd .lf (.c (.p (.bool true))) .lf) (.c (.p (.bool true))) .lf) (.c (.p (.bool true))) (.nd (.nd .lf (.tp []) .lf) (.c (.p (.int .i64 ((k : Nat) : Int)))) .lf)) (.c (.p (.int .i64 ((e : Nat) : Int)))) (.nd (.nd (.nd .lf (.tp []) .lf) (.c (.p (.int .i64 ((k : Nat) : Int)))) .lf) .any (.nd .lf (.c (.p (.int .i64 ((n : Nat) : Int)))) .lf))) (.c (.pt 0 0)) (.nd (.nd (.nd (.nd .lf (.c (.p (.bool false))) .lf) (.c (.p (.ipt 2 (S.val c k)))) .lf) .any (.nd (.nd .lf (.c (.p (.bool false))) .lf) (.c (.p (.int .i64 (((e : Nat) : Int) + (1 : Int))))) .lf)) (.c (.p (.int .i64 ((k : Nat) : Int)))) (.nd (.nd (.nd .lf (.tp []) .lf) (.c (.p (.bool false))) .lf) (.c (.p (.int .i64 ((n : Nat) : Int)))) (.nd .lf (.c (.p (.bool true))) .lf)))) .any (.nd (.nd (.nd (.nd (.nd .lf (.c (.p (.bool false))) .lf) (.c (.p (.int .i64 ((k : Nat) : Int)))) .lf) .any (.nd (.nd .lf (.tp []) .lf) (.c (.p (.int .i64 ((e : Nat) : Int)))) .lf)) (.c (.pt 6 0)) (.nd (.nd (.nd .lf (.tp []) .lf) (.c (.p (.int .i64 ((e : Nat) : Int)))) .lf) (.c (.p (.isl 2 n (S.val c)))) (.nd .lf (.c (.p (.int .i64 (Int.tmod (((e : Nat) : Int) + (1 : Int)) ((n : Nat) : Int))))) .lf))) (.c (.pt 1 0)) (.nd (.nd (.nd (.nd .lf (.tp []) .lf) (.ag [(.p (.int .i64 (c k 0))), (.p (.int .i64 (c k 1)))]) .lf) .any (.nd (.nd .lf (.c (.p (.int .i64 (((k : Nat) : Int) + (1 : Int))))) .lf) (.c (.p (.isl 2 n (S.val c)))) .lf)) (.c (.pt 7 0)) (.nd (.nd (.nd .lf (.tp []) .lf) (.c (.p (.bool false))) .lf) (.c (.p (.int .i64 (((k : Nat) : Int) + (1 : Int))))) (.nd .lf (.c (.p (.bool true))) .lf))))), [(some (.box 22 [(.p (.isl 2 n (S.val c)))])), (some (.box 4 [(.p (.bool false))])), (some (.box 22 [(.p (.isl 2 n (S.val c)))])), (some (.clo 72 [] [(.c (.pt 2 0))])), (some (.lp 43 (.nd (.nd .lf (.c (.pt 0 0)) (.nd (.nd .lf (.c (.ref 3)) .lf) .any .lf)) (.c (.p (.isl 2 n (S.val c)))) (.nd (.nd (.nd .lf (.c (.p (.isl 2 n (S.val c)))) .lf) .any .lf) (.c (.pt 1 0)) .lf)) [(.i (.i (.o .h))), (.o (.o (.i .h)))] m71_a1 m71_b1 .busy)), (some (.box 36 [(.p (.int .i64 (c e 0))), (.p (.int .i64 (c e 1)))])), (some (.box 111 [(.p (.int .i64 (c e 0))), (.p (.int .i64 (c e 1))), (.p (.int .i64 (c nx 0))), (.p (.int .i64 (c nx 1)))])), (some (.box 36 [(.p (.int .i64 (c k 0))), (.p (.int .i64 (c k 1)))]))]⟩))
   (CdP (.i64 ((c nx 0) - (c e 0)))
    (CdP (.i64 ((c k 1) - (c e 1)))
    (CdP (.i64 (((c nx 0) - (c e 0)) * ((c k 1) - (c e 1))))
    (CdP (.i64 ((c nx 1) - (c e 1)))
    (CdP (.i64 ((c k 0) - (c e 0)))
    (CdP (.i64 (((c nx 1) - (c e 1)) * ((c k 0) - (c e 0))))
    (CdP (.i64 ((((c nx 0) - (c e 0)) * ((c k 1) - (c e 1))) - (((c nx 1) - (c e 1)) * ((c k 0) - (c e 0)))))
    (BrP (decide (((((c nx 0) - (c e 0)) * ((c k 1) - (c e 1))) - (((c nx 1) - (c e 1)) * ((c k 0) - (c e 0)))) ≤ (0 : Int)))
    (Q .ret ⟨(.nd (.nd (.nd (.nd (.nd (.nd .lf (.c (.p (.bool false))) .lf) (.c (.p (.bool true))) .lf) (.c (.p (.bool false))) (.nd (.nd .lf (.c (.p (.int .i64 ((((c nx 0) - (c e 0)) * ((c k 1) - (c e 1))) - (((c nx 1) - (c e 1)) * ((c k 0) - (c e 0))))))) .lf) (.c (.p (.int .i64 ((k : Nat) : Int)))) .lf)) (.c (.p (.int .i64 ((e : Nat) : Int)))) (.nd (.nd (.nd .lf (.c (.pt 7 0)) .lf) (.c (.p (.int .i64 ((k : Nat) : Int)))) .lf) .any (.nd .lf (.c (.p (.int .i64 ((n : Nat) : Int)))) .lf))) (.c (.pt 0 0)) (.nd (.nd (.nd (.nd .lf (.c (.p (.bool true))) .lf) (.c (.p (.ipt 2 (S.val c k)))) .lf) .any (.nd (.nd .lf (.c (.p (.bool true))) .lf) (.c (.p (.int .i64 (((e : Nat) : Int) + (1 : Int))))) .lf)) (.c (.p (.int .i64 ((k : Nat) : Int)))) (.nd (.nd (.nd .lf (.c (.pt 7 1)) .lf) (.c (.p (.bool false))) .lf) (.c (.p (.int .i64 ((n : Nat) : Int)))) (.nd .lf (.c (.p (.bool false))) .lf)))) .any (.nd (.nd (.nd (.nd (.nd .lf (.c (.p (.bool true))) .lf) (.c (.p (.int .i64 ((k : Nat) : Int)))) .lf) .any (.nd (.nd .lf (.c (.p (.bool true))) .lf) (.c (.p (.int .i64 ((e : Nat) : Int)))) .lf)) (.c (.pt 6 0)) (.nd (.nd (.nd .lf (.c (.p (.int .i64 (c k 0)))) .lf) (.c (.p (.int .i64 ((e : Nat) : Int)))) .lf) (.c (.p (.isl 2 n (S.val c)))) (.nd .lf (.c (.p (.int .i64 (Int.tmod (((e : Nat) : Int) + (1 : Int)) ((n : Nat) : Int))))) .lf))) (.c (.pt 1 0)) (.nd (.nd (.nd (.nd .lf (.ag [(.p (.int .i64 (c e 0))), (.p (.int .i64 (c e 1))), (.p (.int .i64 (c nx 0))), (.p (.int .i64 (c nx 1)))]) .lf) (.ag [(.p (.int .i64 (c k 0))), (.p (.int .i64 (c k 1)))]) .lf) .any (.nd .lf (.c (.p (.isl 2 n (S.val c)))) .lf)) (.c (.pt 7 0)) (.nd (.nd (.nd .lf (.c (.p (.int .i64 (c k 1)))) .lf) (.c (.p (.bool false))) .lf) (.c (.p (.int .i64 ((k : Nat) : Int)))) (.nd .lf (.c (.p (.bool false))) .lf))))), [(some (.box 22 [(.p (.isl 2 n (S.val c)))])), (some (.box 4 [(.p (.bool false))])), (some (.box 22 [(.p (.isl 2 n (S.val c)))])), (some (.clo 72 [] [(.c (.pt 2 0))])), (some (.lp 43 (.nd (.nd .lf (.c (.pt 0 0)) (.nd (.nd .lf (.c (.ref 3)) .lf) .any .lf)) (.c (.p (.isl 2 n (S.val c)))) (.nd (.nd (.nd .lf (.c (.p (.isl 2 n (S.val c)))) .lf) .any .lf) (.c (.pt 1 0)) .lf)) [(.i (.i (.o .h))), (.o (.o (.i .h)))] m71_a1 m71_b1 .busy)), (some (.box 36 [(.p (.int .i64 (c e 0))), (.p (.int .i64 (c e 1)))])), (some (.box 111 [(.p (.int .i64 (c e 0))), (.p (.int .i64 (c e 1))), (.p (.int .i64 (c nx 0))), (.p (.int .i64 (c nx 1)))])), (some (.box 36 [(.p (.int .i64 (c k 0))), (.p (.int .i64 (c k 1)))]))]⟩)
    (CdP (.i64 (((k : Nat) : Int) + (1 : Int)))
     (Q .normal ⟨(.nd (.nd (.nd (.nd (.nd (.nd .lf (.c (.p (.bool false))) .lf) (.c (.p (.bool true))) .lf) (.c (.p (.bool false))) (.nd (.nd .lf (.c (.p (.int .i64 ((((c nx 0) - (c e 0)) * ((c k 1) - (c e 1))) - (((c nx 1) - (c e 1)) * ((c k 0) - (c e 0))))))) .lf) (.c (.p (.int .i64 ((k : Nat) : Int)))) .lf)) (.c (.p (.int .i64 ((e : Nat) : Int)))) (.nd (.nd (.nd .lf (.c (.pt 7 0)) .lf) (.c (.p (.int .i64 ((k : Nat) : Int)))) .lf) .any (.nd .lf (.c (.p (.int .i64 ((n : Nat) : Int)))) .lf))) (.c (.pt 0 0)) (.nd (.nd (.nd (.nd .lf (.c (.p (.bool true))) .lf) (.c (.p (.ipt 2 (S.val c k)))) .lf) .any (.nd (.nd .lf (.c (.p (.bool false))) .lf) (.c (.p (.int .i64 (((e : Nat) : Int) + (1 : Int))))) .lf)) (.c (.p (.int .i64 ((k : Nat) : Int)))) (.nd (.nd (.nd .lf (.c (.pt 7 1)) .lf) (.c (.p (.bool false))) .lf) (.c (.p (.int .i64 ((n : Nat) : Int)))) (.nd .lf (.c (.p (.bool false))) .lf)))) .any (.nd (.nd (.nd (.nd (.nd .lf (.c (.p (.bool true))) .lf) (.c (.p (.int .i64 ((k : Nat) : Int)))) .lf) .any (.nd (.nd .lf (.c (.p (.bool false))) .lf) (.c (.p (.int .i64 ((e : Nat) : Int)))) .lf)) (.c (.pt 6 0)) (.nd (.nd (.nd .lf (.c (.p (.int .i64 (c k 0)))) .lf) (.c (.p (.int .i64 ((e : Nat) : Int)))) .lf) (.c (.p (.isl 2 n (S.val c)))) (.nd .lf (.c (.p (.int .i64 (Int.tmod (((e : Nat) : Int) + (1 : Int)) ((n : Nat) : Int))))) .lf))) (.c (.pt 1 0)) (.nd (.nd (.nd (.nd .lf (.ag [(.p (.int .i64 (c e 0))), (.p (.int .i64 (c e 1))), (.p (.int .i64 (c nx 0))), (.p (.int .i64 (c nx 1)))]) .lf) (.ag [(.p (.int .i64 (c k 0))), (.p (.int .i64 (c k 1)))]) .lf) .any (.nd (.nd .lf (.c (.p (.int .i64 (((k : Nat) : Int) + (1 : Int))))) .lf) (.c (.p (.isl 2 n (S.val c)))) .lf)) (.c (.pt 7 0)) (.nd (.nd (.nd .lf (.c (.p (.int .i64 (c k 1)))) .lf) (.c (.p (.bool false))) .lf) (.c (.p (.int .i64 (((k : Nat) : Int) + (1 : Int))))) (.nd .lf (.c (.p (.bool false))) .lf))))), [(some (.box 22 [(.p (.isl 2 n (S.val c)))])), (some (.box 4 [(.p (.bool false))])), (some (.box 22 [(.p (.isl 2 n (S.val c)))])), (some (.clo 72 [] [(.c (.pt 2 0))])), (some (.lp 43 (.nd (.nd .lf (.c (.pt 0 0)) (.nd (.nd .lf (.c (.ref 3)) .lf) .any .lf)) (.c (.p (.isl 2 n (S.val c)))) (.nd (.nd (.nd .lf (.c (.p (.isl 2 n (S.val c)))) .lf) .any .lf) (.c (.pt 1 0)) .lf)) [(.i (.i (.o .h))), (.o (.o (.i .h)))] m71_a1 m71_b1 .busy)), (some (.box 36 [(.p (.int .i64 (c e 0))), (.p (.int .i64 (c e 1)))])), (some (.box 111 [(.p (.int .i64 (c e 0))), (.p (.int .i64 (c e 1))), (.p (.int .i64 (c nx 0))), (.p (.int .i64 (c nx 1)))])), (some (.box 36 [(.p (.int .i64 (c k 0))), (.p (.int .i64 (c k 1)))]))]⟩)))))))))))))))
 (Q (.exit 2) ⟨(.nd (.nd (.nd (.nd (.nd .lf (.c (.p (.bool false))) .lf) .any .lf) (.c (.p (.int .i64 ((e : Nat) : Int)))) .lf) (.c (.pt 0 0)) (.nd .lf .any (.nd .lf (.c (.p (.int .i64 ((n : Nat) : Int)))) .lf))) .any (.nd (.nd .lf (.c (.pt 6 0)) (.nd .lf (.c (.p (.isl 2 n (S.val c)))) .lf)) (.c (.pt 1 0)) (.nd .lf .any (.nd .lf (.c (.p (.int .i64 ((k : Nat) : Int)))) .lf)))), [(some (.box 22 [(.p (.isl 2 n (S.val c)))])), (some (.box 4 [(.p (.bool false))])), (some (.box 22 [(.p (.isl 2 n (S.val c)))])), (some (.clo 72 [] [(.c (.pt 2 0))])), (some (.lp 43 (.nd (.nd .lf (.c (.pt 0 0)) (.nd (.nd .lf (.c (.ref 3)) .lf) .any .lf)) (.c (.p (.isl 2 n (S.val c)))) (.nd (.nd (.nd .lf (.c (.p (.isl 2 n (S.val c)))) .lf) .any .lf) (.c (.pt 1 0)) .lf)) [(.i (.i (.o .h))), (.o (.o (.i .h)))] m71_a1 m71_b1 .busy)), (some (.box 36 [(.p (.int .i64 (c e 0))), (.p (.int .i64 (c e 1)))])), (some (.box 111 [(.p (.int .i64 (c e 0))), (.p (.int .i64 (c e 1))), (.p (.int .i64 (c nx 0))), (.p (.int .i64 (c nx 1)))]))]⟩))) = (ex (cs hbs) (fu + 60) 6 m71_l1 ⟨setAll [(.o .h, .c (.pt 0 0)), (.i .h, .c (.pt 1 0)), (.i (.o .h), .c (.pt 6 0)), (.o (.o .h), .c (.p (.int .i64 e))), (.i (.o (.i .h)), .c (.p (.isl 2 n (S.val c)))), (.o (.i (.i .h)), .c (.p (.int .i64 n))), (.i (.i (.i .h)), .c (.p (.int .i64 k)))], (H71 n (S.val c) .busy ++ [some (.box 36 [.p (.int .i64 (c e 0)), .p (.int .i64 (c e 1))]), some (.box 111 [.p (.int .i64 (c e 0)), .p (.int .i64 (c e 1)), .p (.int .i64 (c nx 0)), .p (.int .i64 (c nx 1))])])⟩ (fun e s => .pr (Q e s))).hold2 := by kernel_rfl
end
end Go.Ab.B
set_option linter.all false
set_option maxRecDepth 100000
namespace Go.Ab.B
open Go.Proofs
section
variable {hbs : BsOk Tryd.prog} (hT : TabOk (cs hbs))

theorem i64_of {n : Int} (h1 : -9223372036854775808 ≤ n) (h2 : n ≤ 9223372036854775807) : Cd.holds (.i64 n) := ⟨h1, h2⟩
theorem i64_nat {i n : Nat} (h : i < n) (hn : n ≤ maxLen) : Cd.holds (.i64 (((i : Nat) : Int) + 1)) := by simp [maxLen] at hn; exact ⟨by omega, by omega⟩
theorem ne_nat {n : Nat} (h : 0 < n) : Cd.holds (.ne ((n : Nat) : Int)) := by show ((n : Nat) : Int) ≠ 0; omega

abbrev lv72i (n : Nat) (c : S.Rows) (i : Nat) : List (Ps × AV) := [(.h, .c (.ref 5)), (.o .h, .c (.pt 3 0)), (.o (.i .h), .c (.p (.isl 2 n (S.val c)))), (.i (.i .h), .c (.p (.int .i64 n))), (.o (.o (.o .h)), .c (.p (.int .i64 i)))]
theorem go72i (fu n : Nat) (c : S.Rows) (w m : Int) (hn : n ≤ maxLen) (hc : S.cor n c = true) (hw1 : -1000000 ≤ w) (hw2 : w ≤ 1000000) (hm1 : -1000000000 ≤ m) (hm2 : m ≤ 1000000000) : ∀ (i : Nat) (st : St), i ≤ n → Has st (lv72i n c i) (H30 n (S.val c) w m .ready) →
    LoopGo (ex (cs hbs) (fu + 60)) 6 m72_l1 st (.br (S.from_ (S.insAt n c w m) n i) (.e (.exit 0) ⟨.lf, H30 n (S.val c) w m .ready⟩) (.e .ret ⟨.lf, H30 n (S.val c) w m (.done .ret)⟩)) :=
  loop_k (σ := Nat) (lv72i n c) (fun _ => H30 n (S.val c) w m .ready) (fun i => i ≤ n) (fun i => n - i)
    (fun i => .br (S.from_ (S.insAt n c w m) n i) (.e (.exit 0) ⟨.lf, H30 n (S.val c) w m .ready⟩) (.e .ret ⟨.lf, H30 n (S.val c) w m (.done .ret)⟩)) (fun _ => Nat.le_refl _) _ (fun i Q => vs72i (hbs := hbs) fu n i c w m Q) fun i hi K hL X hX => by
      refine brP (fun h1 => ?_) fun h1 => ?_
      · have hlt : i < n := by simpa using h1
        have e1 : Int.tmod ((i : Int) + 1) (n : Int) = (S.nxt n i : Int) := S.nxt_tmod (by omega)
        have e2 : (Int.tmod ((i : Int) + 1) (n : Int)).toNat = S.nxt n i := by rw [e1]; rfl
        have hx : S.nxt n i < n := S.nxt_lt (by omega)
        obtain ⟨b1, b2, b3, b4, b5, b6⟩ := S.sd_in hc hlt hw1 hw2 hm1 hm2
        refine cdP (idx_ok hlt) (cdP (i64_nat hlt hn) (cdP (ne_nat (by omega)) (cdP (by rw [e1]; exact idx_ok hx) (cdP ?_ (cdP ?_ (cdP ?_ (cdP ?_ (cdP ?_ (cdP ?_ (cdP ?_ (brP (fun h2 => ?_) fun h2 => cdP (i64_nat hlt hn) ?_)))))))))))
        · rw [e2]; exact i64_of (by omega) (by omega)
        · exact i64_of (by omega) (by omega)
        · rw [e2]; exact i64_of (by omega) (by omega)
        · rw [e2]; exact i64_of (by omega) (by omega)
        · exact i64_of (by omega) (by omega)
        · rw [e2]; exact i64_of (by omega) (by omega)
        · rw [e2]; exact i64_of (by omega) (by omega)
        · have e : S.insAt n c w m i = false := by
            simp only [e2, decide_eq_true_eq] at h2
            exact decide_eq_false (by show ¬ (0 ≤ S.sd n c i w m); unfold S.sd; omega)
          rw [S.from_step hlt, e, Bool.false_and] at hL
          exact Has.out (l := []) (.nil (ex := [_, _]) rfl rfl) (Nat.le_refl _) hL
        · have e : S.insAt n c w m i = true := by
            simp only [e2, decide_eq_false_iff_not] at h2
            exact decide_eq_true (by show 0 ≤ S.sd n c i w m; unfold S.sd; omega)
          refine hX (i + 1) _ (by omega) (by omega) (.cons (by kernel_rfl) rfl (.cons (by kernel_rfl) rfl (.cons (by kernel_rfl) rfl (.cons (by kernel_rfl) rfl (.cons (by kernel_rfl) rfl (.nil (ex := [_, _]) rfl rfl)))))) ?_
          rw [S.from_step hlt, e, Bool.true_and] at hL
          exact hL
      · have hlt : n ≤ i := by simpa using h1
        rw [S.from_end hlt] at hL
        exact Has.out (l := []) (.nil (ex := []) rfl rfl) (Nat.le_refl _) hL

include hT in
theorem fc30 (n : Nat) (c : S.Rows) (w m : Int) (hn : n ≤ maxLen) (hc : S.cor n c = true) (hw1 : -1000000 ≤ w) (hw2 : w ≤ 1000000) (hm1 : -1000000000 ≤ m) (hm2 : m ≤ 1000000000) :
    FCall (cs hbs) 30 [.c (.p (.isl 2 n (S.val c))), .c (.p (.int .i64 w)), .c (.p (.int .i64 m))] (vB (S.ins n c w m)) [] :=
  fcall_k hT (F := F30) rfl (vc30 n c w m _) ⟨go72i 932 n c w m hn hc hw1 hw2 hm1 hm2 0 _ (Nat.zero_le _) (.cons (by kernel_rfl) rfl (.cons (by kernel_rfl) rfl (.cons (by kernel_rfl) rfl (.cons (by kernel_rfl) rfl (.cons (by kernel_rfl) rfl (.nil (ex := []) rfl rfl)))))), brP (fun h => frz_b h) fun h => frz_b h⟩

abbrev lv71 (n : Nat) (c : S.Rows) (e k : Nat) : List (Ps × AV) := [(.o .h, .c (.pt 0 0)), (.i .h, .c (.pt 1 0)), (.i (.o .h), .c (.pt 6 0)), (.o (.o .h), .c (.p (.int .i64 e))), (.i (.o (.i .h)), .c (.p (.isl 2 n (S.val c)))), (.o (.i (.i .h)), .c (.p (.int .i64 n))), (.i (.i (.i .h)), .c (.p (.int .i64 k)))]
abbrev H71b (n : Nat) (c : S.Rows) (e nx : Nat) : Heap := H71 n (S.val c) .busy ++ [some (.box 36 [.p (.int .i64 (c e 0)), .p (.int .i64 (c e 1))]), some (.box 111 [.p (.int .i64 (c e 0)), .p (.int .i64 (c e 1)), .p (.int .i64 (c nx 0)), .p (.int .i64 (c nx 1))])]
theorem go71 (fu n e nx : Nat) (c : S.Rows) (hn : n ≤ maxLen) (hc : S.cor n c = true) (he : e < n) (hnx : nx = S.nxt n e) : ∀ (k : Nat) (st : St), k ≤ n → Has st (lv71 n c e k) (H71b n c e nx) →
    LoopGo (ex (cs hbs) (fu + 60)) 6 m71_l1 st (.br (S.from_ (S.cvxAt n c e) n k) (.e (.exit 2) ⟨.lf, H71b n c e nx⟩) (.e .ret ⟨.lf, H71b n c e nx⟩)) :=
  loop_k (σ := Nat) (lv71 n c e) (fun _ => H71b n c e nx) (fun k => k ≤ n) (fun k => n - k)
    (fun k => .br (S.from_ (S.cvxAt n c e) n k) (.e (.exit 2) ⟨.lf, H71b n c e nx⟩) (.e .ret ⟨.lf, H71b n c e nx⟩)) (fun _ => by show 6 ≤ 7; decide) _ (fun k Q => vs71 (hbs := hbs) fu n k e nx c Q) fun k hk K hL X hX => by
      subst hnx
      have go : ∀ st, k < n → S.cvxAt n c e k = true → Has st (lv71 n c e (k + 1)) (H71b n c e (S.nxt n e)) → X st := fun st hlt ee hh => by
        refine hX (k + 1) st (by omega) (by omega) hh ?_
        rw [S.from_step hlt, ee, Bool.true_and] at hL
        exact hL
      refine brP (fun h1 => ?_) fun h1 => ?_
      · have hlt : k < n := by simpa using h1
        have e1 : Int.tmod ((e : Int) + 1) (n : Int) = (S.nxt n e : Int) := S.nxt_tmod (by omega)
        have hk1 := S.from_iff.1 hc k (Nat.zero_le _) hlt
        simp only [S.corAt, Bool.and_eq_true, S.inB_iff] at hk1
        obtain ⟨b1, b2, b3, b4, b5, b6⟩ := S.sd_in (w := c k 0) (m := c k 1) hc he (by omega) (by omega) (by omega) (by omega)
        refine cdP (idx_ok hlt) (brP (fun h2 => cdP (i64_nat hlt hn) ?_) fun h2 => cdP (i64_nat he hn) (cdP (ne_nat (by omega)) (brP (fun h3 => cdP (i64_nat hlt hn) ?_) fun h3 => cdP ?_ (cdP ?_ (cdP ?_ (cdP ?_ (cdP ?_ (cdP ?_ (cdP ?_ (brP (fun h4 => ?_) fun h4 => cdP (i64_nat hlt hn) ?_)))))))))) <;> try exact i64_of (by omega) (by omega)
        · refine go _ hlt ?_ (.cons (by kernel_rfl) rfl (.cons (by kernel_rfl) rfl (.cons (by kernel_rfl) rfl (.cons (by kernel_rfl) rfl (.cons (by kernel_rfl) rfl (.cons (by kernel_rfl) rfl (.cons (by kernel_rfl) rfl (.nil (ex := [_]) rfl rfl))))))))
          have : k = e := by have h2 := eq_of_beq h2; omega
          simp [S.cvxAt, this]
        · refine go _ hlt ?_ (.cons (by kernel_rfl) rfl (.cons (by kernel_rfl) rfl (.cons (by kernel_rfl) rfl (.cons (by kernel_rfl) rfl (.cons (by kernel_rfl) rfl (.cons (by kernel_rfl) rfl (.cons (by kernel_rfl) rfl (.nil (ex := [_]) rfl rfl))))))))
          have : k = S.nxt n e := by rw [e1] at h3; have h3 := eq_of_beq h3; omega
          simp [S.cvxAt, ← this]
        · have n1 : ¬ k = e := by have h2 := ne_of_beq_false h2; omega
          have n2 : ¬ k = S.nxt n e := by rw [e1] at h3; have h3 := ne_of_beq_false h3; omega
          have n3 : ¬ 0 < S.sd n c e (c k 0) (c k 1) := by
            simp only [decide_eq_true_eq] at h4
            unfold S.sd; omega
          have ee : S.cvxAt n c e k = false := by simp [S.cvxAt, n1, n2, n3]
          rw [S.from_step hlt, ee, Bool.false_and] at hL
          exact Has.out (l := []) (.nil (ex := [_]) rfl rfl) (by show 6 ≤ 7; decide) hL
        · refine go _ hlt ?_ (.cons (by kernel_rfl) rfl (.cons (by kernel_rfl) rfl (.cons (by kernel_rfl) rfl (.cons (by kernel_rfl) rfl (.cons (by kernel_rfl) rfl (.cons (by kernel_rfl) rfl (.cons (by kernel_rfl) rfl (.nil (ex := [_]) rfl rfl))))))))
          have n3 : 0 < S.sd n c e (c k 0) (c k 1) := by
            simp only [decide_eq_false_iff_not] at h4
            unfold S.sd; omega
          simp [S.cvxAt, n3]
      · have hlt : n ≤ k := by simpa using h1
        rw [S.from_end hlt] at hL
        exact Has.out (l := []) (.nil (ex := []) rfl rfl) (by show 6 ≤ 7; decide) hL

abbrev lv72c (n : Nat) (c : S.Rows) (i : Nat) : List (Ps × AV) := [(.h, .c (.ref 4)), (.o .h, .c (.pt 2 0)), (.o (.i .h), .c (.p (.isl 2 n (S.val c)))), (.i (.i .h), .c (.p (.int .i64 n))), (.o (.o (.o .h)), .c (.p (.int .i64 i)))]
theorem go72c (fu n : Nat) (c : S.Rows) (hn : n ≤ maxLen) (hc : S.cor n c = true) : ∀ (i : Nat) (st : St), i ≤ n → Has st (lv72c n c i) (H71 n (S.val c) .ready) →
    LoopGo (ex (cs hbs) (fu + 11 + 60)) 5 m72_l1 st (.br (S.from_ (S.cvxRow n c) n i) (.e (.exit 0) ⟨.lf, H71 n (S.val c) .ready⟩) (.e .ret ⟨.lf, H71 n (S.val c) (.done .ret)⟩)) :=
  loop_k (σ := Nat) (lv72c n c) (fun _ => H71 n (S.val c) .ready) (fun i => i ≤ n) (fun i => n - i)
    (fun i => .br (S.from_ (S.cvxRow n c) n i) (.e (.exit 0) ⟨.lf, H71 n (S.val c) .ready⟩) (.e .ret ⟨.lf, H71 n (S.val c) (.done .ret)⟩)) (fun _ => Nat.le_refl _) _ (fun i Q => vs72c (hbs := hbs) (fu + 11) n i c Q) fun i hi K hL X hX => by
      refine brP (fun h1 => ?_) fun h1 => ?_
      · have hlt : i < n := by simpa using h1
        have e1 : Int.tmod ((i : Int) + 1) (n : Int) = (S.nxt n i : Int) := S.nxt_tmod (by omega)
        have e2 : (Int.tmod ((i : Int) + 1) (n : Int)).toNat = S.nxt n i := by rw [e1]; rfl
        have hx : S.nxt n i < n := S.nxt_lt (by omega)
        refine cdP (idx_ok hlt) (cdP (i64_nat hlt hn) (cdP (ne_nat (by omega)) (cdP (by rw [e1]; exact idx_ok hx) ⟨go71 fu n i _ c hn hc hlt e2 0 _ (Nat.zero_le _) (.cons (by kernel_rfl) rfl (.cons (by kernel_rfl) rfl (.cons (by kernel_rfl) rfl (.cons (by kernel_rfl) rfl (.cons (by kernel_rfl) rfl (.cons (by kernel_rfl) rfl (.cons (by kernel_rfl) rfl (.nil (ex := []) rfl rfl)))))))), brP (fun h2 => cdP (i64_nat hlt hn) ?_) fun h2 => ?_⟩)))
        · refine hX (i + 1) _ (by omega) (by omega) (.cons (by kernel_rfl) rfl (.cons (by kernel_rfl) rfl (.cons (by kernel_rfl) rfl (.cons (by kernel_rfl) rfl (.cons (by kernel_rfl) rfl (.nil (ex := [_, _]) rfl rfl)))))) ?_
          have e : S.cvxRow n c i = true := h2
          rw [S.from_step hlt, e, Bool.true_and] at hL
          exact hL
        · have e : S.cvxRow n c i = false := h2
          rw [S.from_step hlt, e, Bool.false_and] at hL
          exact Has.out (l := []) (.nil (ex := [_, _]) rfl rfl) (Nat.le_refl _) hL
      · have hlt : n ≤ i := by simpa using h1
        rw [S.from_end hlt] at hL
        exact Has.out (l := []) (.nil (ex := []) rfl rfl) (Nat.le_refl _) hL

include hT in
theorem fc71 (n : Nat) (c : S.Rows) (hn : n ≤ maxLen) (hc : S.cor n c = true) : FCall (cs hbs) 71 [.c (.p (.isl 2 n (S.val c)))] (vB (S.cvx n c)) [] :=
  fcall_k hT (F := F71) rfl (vc71 n c _) ⟨go72c 921 n c hn hc 0 _ (Nat.zero_le _) (.cons (by kernel_rfl) rfl (.cons (by kernel_rfl) rfl (.cons (by kernel_rfl) rfl (.cons (by kernel_rfl) rfl (.cons (by kernel_rfl) rfl (.nil (ex := []) rfl rfl)))))), brP (fun h => frz_b h) fun h => frz_b h⟩

include hT in
theorem fc49 (n : Nat) (c : S.Rows) (hn : n ≤ maxLen) : FCall (cs hbs) 49 [.c (.p (.isl 2 n (S.val c)))] (vB (S.corners n c)) [] :=
  fcall_k hT (F := F49) rfl (vc49 n c _) ⟨fc29 hT _ _ _, brP (fun h1 => ⟨go49 hT 934 n c hn 0 _ (Nat.zero_le _) (.cons (by kernel_rfl) rfl (.cons (by kernel_rfl) rfl (.cons (by kernel_rfl) rfl (.cons (by kernel_rfl) rfl (.nil (ex := []) rfl rfl))))), brP (fun h2 => ⟨fc71 hT n c hn h2, brP (fun h3 => frz_b (by show (S.inB 3 n 12 && S.cor n c && S.cvx n c) = true; rw [h1, h3, show S.cor n c = true from h2]; rfl)) fun h3 => frz_b (by show (S.inB 3 n 12 && S.cor n c && S.cvx n c) = false; rw [h3]; simp)⟩) fun h2 => frz_b (by show (S.inB 3 n 12 && S.cor n c && S.cvx n c) = false; rw [show S.cor n c = false from h2]; simp)⟩) fun h1 => frz_b (by show (S.inB 3 n 12 && S.cor n c && S.cvx n c) = false; rw [h1]; simp)⟩
end
end Go.Ab.B
set_option linter.all false
set_option maxRecDepth 100000
namespace Go.Ab.B
open Go.Proofs
section
variable {hbs : BsOk Tryd.prog}
theorem vc27 (e m t l : Int) (nc : Nat) (c : S.Rows) (ns : Nat) (s : S.Rows) (ta tm r : Int) (nf : Nat) (f : S.Rows) (Q : AV → Heap → Prop) :
 (((FCall (cs hbs) 29 [(.ag [(.p (.int .i64 (1 : Int))), (.p (.int .i64 (20000 : Int)))]), (.c (.p (.int .i64 e)))] (.c (.p (.bool (S.inB (1 : Int) e (20000 : Int))))) []) ∧
 (BrP (S.inB (1 : Int) e (20000 : Int))
 ((FCall (cs hbs) 29 [(.ag [(.p (.int .i64 (-(20000000 : Int)))), (.p (.int .i64 (20000000 : Int)))]), (.c (.p (.int .i64 m)))] (.c (.p (.bool (S.inB (-(20000000 : Int)) m (20000000 : Int))))) []) ∧
  (BrP (S.inB (-(20000000 : Int)) m (20000000 : Int))
  ((FCall (cs hbs) 29 [(.ag [(.p (.int .i64 (0 : Int))), (.p (.int .i64 (20000 : Int)))]), (.c (.p (.int .i64 t)))] (.c (.p (.bool (S.inB (0 : Int) t (20000 : Int))))) []) ∧
   (BrP (S.inB (0 : Int) t (20000 : Int))
   ((FCall (cs hbs) 29 [(.ag [(.p (.int .i64 (0 : Int))), (.p (.int .i64 (20000 : Int)))]), (.c (.p (.int .i64 l)))] (.c (.p (.bool (S.inB (0 : Int) l (20000 : Int))))) []) ∧
    (BrP (S.inB (0 : Int) l (20000 : Int))
    ((FCall (cs hbs) 29 [(.ag [(.p (.int .i64 (0 : Int))), (.p (.int .i64 (20000 : Int)))]), (.c (.p (.int .i64 r)))] (.c (.p (.bool (S.inB (0 : Int) r (20000 : Int))))) []) ∧
     (BrP (S.inB (0 : Int) r (20000 : Int))
     ((FCall (cs hbs) 49 [(.c (.p (.isl 2 nc (S.val c))))] (.c (.p (.bool (S.corners nc c)))) []) ∧
      (BrP (S.corners nc c)
      (BrP (decide (((ns : Nat) : Int) ≤ (8 : Int)))
       (BrP (decide (((nf : Nat) : Int) ≤ (2 : Int)))
        ((FCall (cs hbs) 50 [(.c (.p (.isl 2 1 (fun x14 => (fun x15 => (List.getD [(.int .i64 ta), (.int .i64 tm)] ((x14 * 2) + x15) .npt))))))] (.c (.p (.bool (S.stn 1 (S.num (fun x14 => (fun x15 => (List.getD [(.int .i64 ta), (.int .i64 tm)] ((x14 * 2) + x15) .npt)))))))) []) ∧
         (BrP (S.stn 1 (S.num (fun x14 => (fun x15 => (List.getD [(.int .i64 ta), (.int .i64 tm)] ((x14 * 2) + x15) .npt)))))
         ((FCall (cs hbs) 50 [(.c (.p (.isl 2 ns (S.val s))))] (.c (.p (.bool (S.stn ns s)))) []) ∧
          (BrP (S.stn ns s)
          ((FCall (cs hbs) 50 [(.c (.p (.isl 2 nf (S.val f))))] (.c (.p (.bool (S.stn nf f)))) []) ∧
           (BrP (S.stn nf f)
           (Q (.c (.p (.bool true))) [(some (.box 27 [(.p (.int .i64 e)), (.p (.int .i64 m)), (.p (.int .i64 t)), (.p (.int .i64 l)), (.p (.isl 2 nc (S.val c))), (.p (.isl 2 ns (S.val s))), (.p (.int .i64 ta)), (.p (.int .i64 tm)), (.p (.int .i64 r)), (.p (.isl 2 nf (S.val f)))]))])
           (Q (.c (.p (.bool false))) [(some (.box 27 [(.p (.int .i64 e)), (.p (.int .i64 m)), (.p (.int .i64 t)), (.p (.int .i64 l)), (.p (.isl 2 nc (S.val c))), (.p (.isl 2 ns (S.val s))), (.p (.int .i64 ta)), (.p (.int .i64 tm)), (.p (.int .i64 r)), (.p (.isl 2 nf (S.val f)))]))])))
          (Q (.c (.p (.bool false))) [(some (.box 27 [(.p (.int .i64 e)), (.p (.int .i64 m)), (.p (.int .i64 t)), (.p (.int .i64 l)), (.p (.isl 2 nc (S.val c))), (.p (.isl 2 ns (S.val s))), (.p (.int .i64 ta)), (.p (.int .i64 tm)), (.p (.int .i64 r)), (.p (.isl 2 nf (S.val f)))]))])))
         (Q (.c (.p (.bool false))) [(some (.box 27 [(.p (.int .i64 e)), (.p (.int .i64 m)), (.p (.int .i64 t)), (.p (.int .i64 l)), (.p (.isl 2 nc (S.val c))), (.p (.isl 2 ns (S.val s))), (.p (.int .i64 ta)), (.p (.int .i64 tm)), (.p (.int .i64 r)), (.p (.isl 2 nf (S.val f)))]))])))
        (Q (.c (.p (.bool false))) [(some (.box 27 [(.p (.int .i64 e)), (.p (.int .i64 m)), (.p (.int .i64 t)), (.p (.int .i64 l)), (.p (.isl 2 nc (S.val c))), (.p (.isl 2 ns (S.val s))), (.p (.int .i64 ta)), (.p (.int .i64 tm)), (.p (.int .i64 r)), (.p (.isl 2 nf (S.val f)))]))]))
       (Q (.c (.p (.bool false))) [(some (.box 27 [(.p (.int .i64 e)), (.p (.int .i64 m)), (.p (.int .i64 t)), (.p (.int .i64 l)), (.p (.isl 2 nc (S.val c))), (.p (.isl 2 ns (S.val s))), (.p (.int .i64 ta)), (.p (.int .i64 tm)), (.p (.int .i64 r)), (.p (.isl 2 nf (S.val f)))]))]))
      (Q (.c (.p (.bool false))) [(some (.box 27 [(.p (.int .i64 e)), (.p (.int .i64 m)), (.p (.int .i64 t)), (.p (.int .i64 l)), (.p (.isl 2 nc (S.val c))), (.p (.isl 2 ns (S.val s))), (.p (.int .i64 ta)), (.p (.int .i64 tm)), (.p (.int .i64 r)), (.p (.isl 2 nf (S.val f)))]))])))
     (Q (.c (.p (.bool false))) [(some (.box 27 [(.p (.int .i64 e)), (.p (.int .i64 m)), (.p (.int .i64 t)), (.p (.int .i64 l)), (.p (.isl 2 nc (S.val c))), (.p (.isl 2 ns (S.val s))), (.p (.int .i64 ta)), (.p (.int .i64 tm)), (.p (.int .i64 r)), (.p (.isl 2 nf (S.val f)))]))])))
    (Q (.c (.p (.bool false))) [(some (.box 27 [(.p (.int .i64 e)), (.p (.int .i64 m)), (.p (.int .i64 t)), (.p (.int .i64 l)), (.p (.isl 2 nc (S.val c))), (.p (.isl 2 ns (S.val s))), (.p (.int .i64 ta)), (.p (.int .i64 tm)), (.p (.int .i64 r)), (.p (.isl 2 nf (S.val f)))]))])))
   (Q (.c (.p (.bool false))) [(some (.box 27 [(.p (.int .i64 e)), (.p (.int .i64 m)), (.p (.int .i64 t)), (.p (.int .i64 l)), (.p (.isl 2 nc (S.val c))), (.p (.isl 2 ns (S.val s))), (.p (.int .i64 ta)), (.p (.int .i64 tm)), (.p (.int .i64 r)), (.p (.isl 2 nf (S.val f)))]))])))
  (Q (.c (.p (.bool false))) [(some (.box 27 [(.p (.int .i64 e)), (.p (.int .i64 m)), (.p (.int .i64 t)), (.p (.int .i64 l)), (.p (.isl 2 nc (S.val c))), (.p (.isl 2 ns (S.val s))), (.p (.int .i64 ta)), (.p (.int .i64 tm)), (.p (.int .i64 r)), (.p (.isl 2 nf (S.val f)))]))])))
 (Q (.c (.p (.bool false))) [(some (.box 27 [(.p (.int .i64 e)), (.p (.int .i64 m)), (.p (.int .i64 t)), (.p (.int .i64 l)), (.p (.isl 2 nc (S.val c))), (.p (.isl 2 ns (S.val s))), (.p (.int .i64 ta)), (.p (.int .i64 tm)), (.p (.int .i64 r)), (.p (.isl 2 nf (S.val f)))]))])))) = (ex (cs hbs) 1000 0 m27 ⟨ofL 0 [.ag (plC e m t l nc (S.val c) ns (S.val s) ta tm r nf (S.val f))] .lf, []⟩ (endK F27.rs (fun r H => .pr (Q r H)) fun _ _ => .no)).hold2 := by kernel_rfl
theorem vc33 (e m t l : Int) (nc : Nat) (c : S.Rows) (ns : Nat) (s : S.Rows) (ta tm r : Int) (nf : Nat) (f : S.Rows) (ed : Nat) (w mo : Int) (Q : AV → Heap → Prop) :
 ((CdP (.ne ((nc : Nat) : Int))
 (CdP (.rng (Int.tmod ((ed : Nat) : Int) ((nc : Nat) : Int)) nc)
 (CdP (.i64 (((ed : Nat) : Int) + (1 : Int)))
 (CdP (.ne ((nc : Nat) : Int))
 (CdP (.rng (Int.tmod (((ed : Nat) : Int) + (1 : Int)) ((nc : Nat) : Int)) nc)
 (CdP (.i64 ((c (Int.toNat (Int.tmod (((ed : Nat) : Int) + (1 : Int)) ((nc : Nat) : Int))) 0) - (c (Int.toNat (Int.tmod ((ed : Nat) : Int) ((nc : Nat) : Int))) 0)))
 (CdP (.i64 (mo - (c (Int.toNat (Int.tmod ((ed : Nat) : Int) ((nc : Nat) : Int))) 1)))
 (CdP (.i64 (((c (Int.toNat (Int.tmod (((ed : Nat) : Int) + (1 : Int)) ((nc : Nat) : Int))) 0) - (c (Int.toNat (Int.tmod ((ed : Nat) : Int) ((nc : Nat) : Int))) 0)) * (mo - (c (Int.toNat (Int.tmod ((ed : Nat) : Int) ((nc : Nat) : Int))) 1))))
 (CdP (.i64 ((c (Int.toNat (Int.tmod (((ed : Nat) : Int) + (1 : Int)) ((nc : Nat) : Int))) 1) - (c (Int.toNat (Int.tmod ((ed : Nat) : Int) ((nc : Nat) : Int))) 1)))
 (CdP (.i64 (w - (c (Int.toNat (Int.tmod ((ed : Nat) : Int) ((nc : Nat) : Int))) 0)))
 (CdP (.i64 (((c (Int.toNat (Int.tmod (((ed : Nat) : Int) + (1 : Int)) ((nc : Nat) : Int))) 1) - (c (Int.toNat (Int.tmod ((ed : Nat) : Int) ((nc : Nat) : Int))) 1)) * (w - (c (Int.toNat (Int.tmod ((ed : Nat) : Int) ((nc : Nat) : Int))) 0))))
 (CdP (.i64 ((((c (Int.toNat (Int.tmod (((ed : Nat) : Int) + (1 : Int)) ((nc : Nat) : Int))) 0) - (c (Int.toNat (Int.tmod ((ed : Nat) : Int) ((nc : Nat) : Int))) 0)) * (mo - (c (Int.toNat (Int.tmod ((ed : Nat) : Int) ((nc : Nat) : Int))) 1))) - (((c (Int.toNat (Int.tmod (((ed : Nat) : Int) + (1 : Int)) ((nc : Nat) : Int))) 1) - (c (Int.toNat (Int.tmod ((ed : Nat) : Int) ((nc : Nat) : Int))) 1)) * (w - (c (Int.toNat (Int.tmod ((ed : Nat) : Int) ((nc : Nat) : Int))) 0)))))
 (Q (.c (.p (.int .i64 ((((c (Int.toNat (Int.tmod (((ed : Nat) : Int) + (1 : Int)) ((nc : Nat) : Int))) 0) - (c (Int.toNat (Int.tmod ((ed : Nat) : Int) ((nc : Nat) : Int))) 0)) * (mo - (c (Int.toNat (Int.tmod ((ed : Nat) : Int) ((nc : Nat) : Int))) 1))) - (((c (Int.toNat (Int.tmod (((ed : Nat) : Int) + (1 : Int)) ((nc : Nat) : Int))) 1) - (c (Int.toNat (Int.tmod ((ed : Nat) : Int) ((nc : Nat) : Int))) 1)) * (w - (c (Int.toNat (Int.tmod ((ed : Nat) : Int) ((nc : Nat) : Int))) 0))))))) [(some (.box 27 [(.p (.int .i64 e)), (.p (.int .i64 m)), (.p (.int .i64 t)), (.p (.int .i64 l)), (.p (.isl 2 nc (S.val c))), (.p (.isl 2 ns (S.val s))), (.p (.int .i64 ta)), (.p (.int .i64 tm)), (.p (.int .i64 r)), (.p (.isl 2 nf (S.val f)))])), (some (.box 36 [(.p (.int .i64 (c (Int.toNat (Int.tmod ((ed : Nat) : Int) ((nc : Nat) : Int))) 0))), (.p (.int .i64 (c (Int.toNat (Int.tmod ((ed : Nat) : Int) ((nc : Nat) : Int))) 1)))])), (some (.box 36 [(.p (.int .i64 (c (Int.toNat (Int.tmod (((ed : Nat) : Int) + (1 : Int)) ((nc : Nat) : Int))) 0))), (.p (.int .i64 (c (Int.toNat (Int.tmod (((ed : Nat) : Int) + (1 : Int)) ((nc : Nat) : Int))) 1)))]))])))))))))))))) = (ex (cs hbs) 1000 0 m33 ⟨ofL 0 [.ag (plC e m t l nc (S.val c) ns (S.val s) ta tm r nf (S.val f)), .c (.p (.int .i64 ed)), .c (.p (.int .i64 w)), .c (.p (.int .i64 mo))] .lf, []⟩ (endK F33.rs (fun r H => .pr (Q r H)) fun _ _ => .no)).hold2 := by kernel_rfl
theorem vc12 (e m t l : Int) (nc : Nat) (c : S.Rows) (ns : Nat) (s : S.Rows) (ta tm r : Int) (nf : Nat) (f : S.Rows) (w mo : Int) (Q : AV → Heap → Prop) :
 (((LoopGo (ex (cs hbs) 995) 0 m12_l1 ⟨(.nd (.nd (.nd (.nd .lf (.c (.p (.int .i64 (0 : Int)))) .lf) (.c (.pt 0 0)) .lf) (.c (.p (.int .i64 w))) .lf) (.ag [(.p (.int .i64 e)), (.p (.int .i64 m)), (.p (.int .i64 t)), (.p (.int .i64 l)), (.p (.isl 2 nc (S.val c))), (.p (.isl 2 ns (S.val s))), (.p (.int .i64 ta)), (.p (.int .i64 tm)), (.p (.int .i64 r)), (.p (.isl 2 nf (S.val f)))]) (.nd .lf (.c (.p (.int .i64 mo))) (.nd .lf (.c (.p (.bool false))) .lf))), [(some (.box 27 [(.p (.int .i64 e)), (.p (.int .i64 m)), (.p (.int .i64 t)), (.p (.int .i64 l)), (.p (.isl 2 nc (S.val c))), (.p (.isl 2 ns (S.val s))), (.p (.int .i64 ta)), (.p (.int .i64 tm)), (.p (.int .i64 r)), (.p (.isl 2 nf (S.val f)))]))]⟩ (.br (S.from_ (S.insAt nc c w mo) nc 0) (.e (.exit 0) ⟨.lf, [(some (.box 27 [(.p (.int .i64 e)), (.p (.int .i64 m)), (.p (.int .i64 t)), (.p (.int .i64 l)), (.p (.isl 2 nc (S.val c))), (.p (.isl 2 ns (S.val s))), (.p (.int .i64 ta)), (.p (.int .i64 tm)), (.p (.int .i64 r)), (.p (.isl 2 nf (S.val f)))]))]⟩) (.e .ret ⟨(.nd .lf .any (.nd .lf .any (.nd .lf (.c (.p (.bool false))) .lf))), [(some (.box 27 [(.p (.int .i64 e)), (.p (.int .i64 m)), (.p (.int .i64 t)), (.p (.int .i64 l)), (.p (.isl 2 nc (S.val c))), (.p (.isl 2 ns (S.val s))), (.p (.int .i64 ta)), (.p (.int .i64 tm)), (.p (.int .i64 r)), (.p (.isl 2 nf (S.val f)))]))]⟩))) ∧
 (BrP (S.from_ (S.insAt nc c w mo) nc 0)
 (Q (.c (.p (.bool true))) [(some (.box 27 [(.p (.int .i64 e)), (.p (.int .i64 m)), (.p (.int .i64 t)), (.p (.int .i64 l)), (.p (.isl 2 nc (S.val c))), (.p (.isl 2 ns (S.val s))), (.p (.int .i64 ta)), (.p (.int .i64 tm)), (.p (.int .i64 r)), (.p (.isl 2 nf (S.val f)))]))])
 (Q (.c (.p (.bool false))) [(some (.box 27 [(.p (.int .i64 e)), (.p (.int .i64 m)), (.p (.int .i64 t)), (.p (.int .i64 l)), (.p (.isl 2 nc (S.val c))), (.p (.isl 2 ns (S.val s))), (.p (.int .i64 ta)), (.p (.int .i64 tm)), (.p (.int .i64 r)), (.p (.isl 2 nf (S.val f)))]))])))) = (ex (cs hbs) 1000 0 m12 ⟨ofL 0 [.ag (plC e m t l nc (S.val c) ns (S.val s) ta tm r nf (S.val f)), .c (.p (.int .i64 w)), .c (.p (.int .i64 mo))] .lf, []⟩ (endK F12.rs (fun r H => .pr (Q r H)) fun _ _ => .no)).hold2 := by kernel_rfl
theorem vs12 (fu i : Nat) (e m t l : Int) (nc : Nat) (c : S.Rows) (ns : Nat) (s : S.Rows) (ta tm r : Int) (nf : Nat) (f : S.Rows) (w mo : Int) (Q : AX → St → Prop) :
 ((BrP (decide (((i : Nat) : Int) < ((nc : Nat) : Int)))
 ((FCall (cs hbs) 33 [(.ag [(.p (.int .i64 e)), (.p (.int .i64 m)), (.p (.int .i64 t)), (.p (.int .i64 l)), (.p (.isl 2 nc (S.val c))), (.p (.isl 2 ns (S.val s))), (.p (.int .i64 ta)), (.p (.int .i64 tm)), (.p (.int .i64 r)), (.p (.isl 2 nf (S.val f)))]), (.c (.p (.int .i64 ((i : Nat) : Int)))), (.c (.p (.int .i64 w))), (.c (.p (.int .i64 mo)))] (.c (.p (.int .i64 (S.sd nc c i w mo)))) []) ∧
  (BrP (decide ((S.sd nc c i w mo) < (0 : Int)))
  (Q .ret ⟨(.nd (.nd (.nd (.nd (.nd .lf (.ag [(.p (.int .i64 e)), (.p (.int .i64 m)), (.p (.int .i64 t)), (.p (.int .i64 l)), (.p (.isl 2 nc (S.val c))), (.p (.isl 2 ns (S.val s))), (.p (.int .i64 ta)), (.p (.int .i64 tm)), (.p (.int .i64 r)), (.p (.isl 2 nf (S.val f)))]) .lf) (.c (.p (.int .i64 ((i : Nat) : Int)))) .lf) (.c (.pt 0 0)) (.nd (.nd .lf (.c (.p (.int .i64 (S.sd nc c i w mo)))) .lf) (.c (.p (.int .i64 ((nc : Nat) : Int)))) .lf)) (.c (.p (.int .i64 w))) (.nd (.nd (.nd .lf (.c (.p (.int .i64 w))) .lf) (.c (.pt 0 4)) .lf) .any .lf)) .any (.nd (.nd (.nd (.nd .lf (.c (.p (.int .i64 ((i : Nat) : Int)))) .lf) (.c (.p (.int .i64 ((i : Nat) : Int)))) .lf) .any (.nd (.nd .lf (.c (.p (.bool true))) .lf) (.c (.p (.bool true))) .lf)) (.c (.p (.int .i64 mo))) (.nd (.nd (.nd .lf (.c (.p (.int .i64 mo))) .lf) (.c (.p (.isl 2 nc (S.val c)))) .lf) (.c (.p (.bool false))) .lf))), [(some (.box 27 [(.p (.int .i64 e)), (.p (.int .i64 m)), (.p (.int .i64 t)), (.p (.int .i64 l)), (.p (.isl 2 nc (S.val c))), (.p (.isl 2 ns (S.val s))), (.p (.int .i64 ta)), (.p (.int .i64 tm)), (.p (.int .i64 r)), (.p (.isl 2 nf (S.val f)))]))]⟩)
  (CdP (.i64 (((i : Nat) : Int) + (1 : Int)))
   (Q .normal ⟨(.nd (.nd (.nd (.nd (.nd .lf (.ag [(.p (.int .i64 e)), (.p (.int .i64 m)), (.p (.int .i64 t)), (.p (.int .i64 l)), (.p (.isl 2 nc (S.val c))), (.p (.isl 2 ns (S.val s))), (.p (.int .i64 ta)), (.p (.int .i64 tm)), (.p (.int .i64 r)), (.p (.isl 2 nf (S.val f)))]) .lf) (.c (.p (.int .i64 (((i : Nat) : Int) + (1 : Int))))) .lf) (.c (.pt 0 0)) (.nd (.nd .lf (.c (.p (.int .i64 (S.sd nc c i w mo)))) .lf) (.c (.p (.int .i64 ((nc : Nat) : Int)))) .lf)) (.c (.p (.int .i64 w))) (.nd (.nd (.nd .lf (.c (.p (.int .i64 w))) .lf) (.c (.pt 0 4)) .lf) .any (.nd .lf (.c (.p (.int .i64 ((i : Nat) : Int)))) .lf))) .any (.nd (.nd (.nd (.nd .lf (.c (.p (.int .i64 ((i : Nat) : Int)))) .lf) (.c (.p (.int .i64 ((i : Nat) : Int)))) .lf) .any (.nd (.nd .lf (.c (.p (.bool false))) .lf) (.c (.p (.bool true))) .lf)) (.c (.p (.int .i64 mo))) (.nd (.nd (.nd .lf (.c (.p (.int .i64 mo))) .lf) (.c (.p (.isl 2 nc (S.val c)))) .lf) .any (.nd .lf (.c (.p (.int .i64 (((i : Nat) : Int) + (1 : Int))))) .lf)))), [(some (.box 27 [(.p (.int .i64 e)), (.p (.int .i64 m)), (.p (.int .i64 t)), (.p (.int .i64 l)), (.p (.isl 2 nc (S.val c))), (.p (.isl 2 ns (S.val s))), (.p (.int .i64 ta)), (.p (.int .i64 tm)), (.p (.int .i64 r)), (.p (.isl 2 nf (S.val f)))]))]⟩))))
 (Q (.exit 0) ⟨(.nd (.nd (.nd (.nd .lf (.c (.p (.int .i64 ((i : Nat) : Int)))) .lf) (.c (.pt 0 0)) (.nd .lf (.c (.p (.int .i64 ((nc : Nat) : Int)))) .lf)) (.c (.p (.int .i64 w))) (.nd (.nd .lf (.c (.pt 0 4)) .lf) .any .lf)) .any (.nd (.nd (.nd .lf (.c (.p (.int .i64 ((i : Nat) : Int)))) .lf) .any (.nd .lf (.c (.p (.bool false))) .lf)) (.c (.p (.int .i64 mo))) (.nd (.nd .lf (.c (.p (.isl 2 nc (S.val c)))) .lf) .any .lf))), [(some (.box 27 [(.p (.int .i64 e)), (.p (.int .i64 m)), (.p (.int .i64 t)), (.p (.int .i64 l)), (.p (.isl 2 nc (S.val c))), (.p (.isl 2 ns (S.val s))), (.p (.int .i64 ta)), (.p (.int .i64 tm)), (.p (.int .i64 r)), (.p (.isl 2 nf (S.val f)))]))]⟩))) = (ex (cs hbs) (fu + 60) 0 m12_l1 ⟨setAll [(.o .h, .c (.p (.int .i64 w))), (.i .h, .c (.p (.int .i64 mo))), (.o (.o .h), .c (.pt 0 0)), (.o (.o (.o .h)), .c (.p (.int .i64 i)))], [some (.box 27 (plC e m t l nc (S.val c) ns (S.val s) ta tm r nf (S.val f)))]⟩ (fun e s => .pr (Q e s))).hold2 := by kernel_rfl
theorem vc11 (e m t l : Int) (nc : Nat) (c : S.Rows) (ns : Nat) (s : S.Rows) (ta tm r : Int) (nf : Nat) (f : S.Rows) (Q : AV → Heap → Prop) :
 (((FCall (cs hbs) 31 [(.c (.p (.int .i64 e))), (.c (.p (.int .i64 (1 : Int)))), (.c (.p (.int .i64 (20000 : Int))))] (.c (.p (.bool (S.inB (1 : Int) e (20000 : Int))))) []) ∧
 (BrP (S.inB (1 : Int) e (20000 : Int))
 ((FCall (cs hbs) 31 [(.c (.p (.int .i64 m))), (.c (.p (.int .i64 (-(20000000 : Int))))), (.c (.p (.int .i64 (20000000 : Int))))] (.c (.p (.bool (S.inB (-(20000000 : Int)) m (20000000 : Int))))) []) ∧
  (BrP (S.inB (-(20000000 : Int)) m (20000000 : Int))
  ((FCall (cs hbs) 31 [(.c (.p (.int .i64 t))), (.c (.p (.int .i64 (0 : Int)))), (.c (.p (.int .i64 (20000 : Int))))] (.c (.p (.bool (S.inB (0 : Int) t (20000 : Int))))) []) ∧
   (BrP (S.inB (0 : Int) t (20000 : Int))
   ((FCall (cs hbs) 31 [(.c (.p (.int .i64 l))), (.c (.p (.int .i64 (0 : Int)))), (.c (.p (.int .i64 (20000 : Int))))] (.c (.p (.bool (S.inB (0 : Int) l (20000 : Int))))) []) ∧
    (BrP (S.inB (0 : Int) l (20000 : Int))
    ((FCall (cs hbs) 31 [(.c (.p (.int .i64 r))), (.c (.p (.int .i64 (0 : Int)))), (.c (.p (.int .i64 (20000 : Int))))] (.c (.p (.bool (S.inB (0 : Int) r (20000 : Int))))) []) ∧
     (BrP (S.inB (0 : Int) r (20000 : Int))
     ((FCall (cs hbs) 31 [(.c (.p (.int .i64 ((nc : Nat) : Int)))), (.c (.p (.int .i64 (3 : Int)))), (.c (.p (.int .i64 (12 : Int))))] (.c (.p (.bool (S.inB (3 : Int) ((nc : Nat) : Int) (12 : Int))))) []) ∧
      (BrP (S.inB (3 : Int) ((nc : Nat) : Int) (12 : Int))
      (BrP (decide (((ns : Nat) : Int) > (8 : Int)))
       (Q (.c (.p (.bool false))) [(some (.box 27 [(.p (.int .i64 e)), (.p (.int .i64 m)), (.p (.int .i64 t)), (.p (.int .i64 l)), (.p (.isl 2 nc (S.val c))), (.p (.isl 2 ns (S.val s))), (.p (.int .i64 ta)), (.p (.int .i64 tm)), (.p (.int .i64 r)), (.p (.isl 2 nf (S.val f)))]))])
       ((FCall (cs hbs) 32 [(.ag [(.p (.int .i64 ta)), (.p (.int .i64 tm))])] (.c (.p (.bool (S.stOk ta tm)))) []) ∧
        (BrP (S.stOk ta tm)
        (BrP (decide (((nf : Nat) : Int) > (2 : Int)))
         (Q (.c (.p (.bool false))) [(some (.box 27 [(.p (.int .i64 e)), (.p (.int .i64 m)), (.p (.int .i64 t)), (.p (.int .i64 l)), (.p (.isl 2 nc (S.val c))), (.p (.isl 2 ns (S.val s))), (.p (.int .i64 ta)), (.p (.int .i64 tm)), (.p (.int .i64 r)), (.p (.isl 2 nf (S.val f)))]))])
         ((LoopGo (ex (cs hbs) 994) 0 m11_l1 ⟨(.nd (.nd (.nd (.nd (.nd (.nd .lf (.c (.pt 0 8)) .lf) (.c (.p (.bool true))) (.nd .lf (.c (.p (.bool false))) .lf)) .any (.nd (.nd .lf (.c (.p (.int .i64 ((nc : Nat) : Int)))) .lf) (.c (.p (.bool false))) (.nd .lf (.c (.p (.bool false))) .lf))) (.c (.p (.int .i64 (0 : Int)))) (.nd (.nd (.nd .lf (.c (.p (.bool false))) .lf) (.c (.pt 0 2)) (.nd .lf (.ag [(.p (.int .i64 ta)), (.p (.int .i64 tm))]) .lf)) (.c (.p (.bool false))) (.nd (.nd .lf (.c (.p (.bool false))) .lf) (.c (.p (.bool true))) (.nd .lf (.c (.p (.bool false))) .lf)))) (.c (.pt 0 0)) (.nd (.nd (.nd (.nd .lf (.c (.p (.bool true))) .lf) (.c (.p (.bool false))) (.nd .lf (.c (.p (.bool false))) .lf)) (.c (.p (.int .i64 e))) (.nd (.nd .lf (.c (.p (.bool false))) .lf) (.c (.pt 0 3)) (.nd .lf (.c (.p (.isl 2 nf (S.val f)))) .lf))) .any (.nd (.nd (.nd .lf (.c (.pt 0 4)) .lf) (.c (.p (.bool true))) (.nd .lf (.c (.p (.bool false))) .lf)) (.c (.pt 0 1)) (.nd (.nd .lf (.c (.p (.isl 2 ns (S.val s)))) .lf) (.c (.p (.bool false))) .lf)))) (.ag [(.p (.int .i64 e)), (.p (.int .i64 m)), (.p (.int .i64 t)), (.p (.int .i64 l)), (.p (.isl 2 nc (S.val c))), (.p (.isl 2 ns (S.val s))), (.p (.int .i64 ta)), (.p (.int .i64 tm)), (.p (.int .i64 r)), (.p (.isl 2 nf (S.val f)))]) (.nd (.nd (.nd (.nd (.nd .lf (.c (.p (.int .i64 r))) .lf) (.c (.p (.bool false))) (.nd .lf (.c (.p (.bool false))) .lf)) (.c (.pt 0 0)) (.nd (.nd .lf (.c (.p (.bool true))) .lf) (.c (.p (.bool false))) (.nd .lf (.c (.pt 0 9)) .lf))) .any (.nd (.nd (.nd .lf (.c (.p (.bool false))) .lf) (.c (.p (.int .i64 t))) (.nd .lf (.c (.p (.bool true))) .lf)) (.c (.p (.bool false))) (.nd (.nd .lf (.c (.pt 0 5)) .lf) (.c (.p (.bool false))) (.nd .lf (.c (.p (.bool false))) .lf)))) (.c (.p (.bool false))) (.nd (.nd (.nd (.nd .lf (.c (.p (.bool false))) .lf) (.c (.p (.bool false))) (.nd .lf (.c (.pt 0 6)) .lf)) (.c (.p (.bool true))) (.nd (.nd .lf (.c (.p (.bool false))) .lf) (.c (.p (.int .i64 l))) (.nd .lf (.c (.p (.int .i64 ((nf : Nat) : Int)))) .lf))) .any (.nd (.nd (.nd .lf (.c (.p (.isl 2 nc (S.val c)))) .lf) (.c (.p (.bool false))) (.nd .lf (.c (.p (.bool false))) .lf)) (.c (.p (.int .i64 m))) (.nd (.nd .lf (.c (.p (.int .i64 ((ns : Nat) : Int)))) .lf) (.c (.p (.bool false))) .lf))))), [(some (.box 27 [(.p (.int .i64 e)), (.p (.int .i64 m)), (.p (.int .i64 t)), (.p (.int .i64 l)), (.p (.isl 2 nc (S.val c))), (.p (.isl 2 ns (S.val s))), (.p (.int .i64 ta)), (.p (.int .i64 tm)), (.p (.int .i64 r)), (.p (.isl 2 nf (S.val f)))]))]⟩ (.br (S.from_ (S.stnAt s) ns 0) (.e (.exit 0) ⟨(.nd (.nd .lf (.c (.pt 0 0)) .lf) .any .lf), [(some (.box 27 [(.p (.int .i64 e)), (.p (.int .i64 m)), (.p (.int .i64 t)), (.p (.int .i64 l)), (.p (.isl 2 nc (S.val c))), (.p (.isl 2 ns (S.val s))), (.p (.int .i64 ta)), (.p (.int .i64 tm)), (.p (.int .i64 r)), (.p (.isl 2 nf (S.val f)))]))]⟩) (.e .ret ⟨(.nd .lf .any (.nd .lf (.c (.p (.bool false))) .lf)), [(some (.box 27 [(.p (.int .i64 e)), (.p (.int .i64 m)), (.p (.int .i64 t)), (.p (.int .i64 l)), (.p (.isl 2 nc (S.val c))), (.p (.isl 2 ns (S.val s))), (.p (.int .i64 ta)), (.p (.int .i64 tm)), (.p (.int .i64 r)), (.p (.isl 2 nf (S.val f)))]))]⟩))) ∧
          (BrP (S.from_ (S.stnAt s) ns 0)
          ((LoopGo (ex (cs hbs) 993) 0 m11_l2 ⟨(.nd (.nd .lf (.c (.pt 0 0)) .lf) .any (.nd (.nd .lf (.c (.p (.int .i64 (0 : Int)))) .lf) .any .lf)), [(some (.box 27 [(.p (.int .i64 e)), (.p (.int .i64 m)), (.p (.int .i64 t)), (.p (.int .i64 l)), (.p (.isl 2 nc (S.val c))), (.p (.isl 2 ns (S.val s))), (.p (.int .i64 ta)), (.p (.int .i64 tm)), (.p (.int .i64 r)), (.p (.isl 2 nf (S.val f)))]))]⟩ (.br (S.from_ (S.stnAt f) nf 0) (.e (.exit 2) ⟨(.nd (.nd .lf (.c (.pt 0 0)) .lf) .any .lf), [(some (.box 27 [(.p (.int .i64 e)), (.p (.int .i64 m)), (.p (.int .i64 t)), (.p (.int .i64 l)), (.p (.isl 2 nc (S.val c))), (.p (.isl 2 ns (S.val s))), (.p (.int .i64 ta)), (.p (.int .i64 tm)), (.p (.int .i64 r)), (.p (.isl 2 nf (S.val f)))]))]⟩) (.e .ret ⟨(.nd .lf .any (.nd .lf (.c (.p (.bool false))) .lf)), [(some (.box 27 [(.p (.int .i64 e)), (.p (.int .i64 m)), (.p (.int .i64 t)), (.p (.int .i64 l)), (.p (.isl 2 nc (S.val c))), (.p (.isl 2 ns (S.val s))), (.p (.int .i64 ta)), (.p (.int .i64 tm)), (.p (.int .i64 r)), (.p (.isl 2 nf (S.val f)))]))]⟩))) ∧
           (BrP (S.from_ (S.stnAt f) nf 0)
           ((LoopGo (ex (cs hbs) 992) 0 m11_l3 ⟨(.nd (.nd .lf (.c (.pt 0 0)) (.nd .lf (.c (.p (.int .i64 (0 : Int)))) .lf)) .any .lf), [(some (.box 27 [(.p (.int .i64 e)), (.p (.int .i64 m)), (.p (.int .i64 t)), (.p (.int .i64 l)), (.p (.isl 2 nc (S.val c))), (.p (.isl 2 ns (S.val s))), (.p (.int .i64 ta)), (.p (.int .i64 tm)), (.p (.int .i64 r)), (.p (.isl 2 nf (S.val f)))]))]⟩ (.br (S.from_ (S.corAt c) nc 0) (.e (.exit 4) ⟨(.nd (.nd .lf (.c (.pt 0 0)) .lf) .any .lf), [(some (.box 27 [(.p (.int .i64 e)), (.p (.int .i64 m)), (.p (.int .i64 t)), (.p (.int .i64 l)), (.p (.isl 2 nc (S.val c))), (.p (.isl 2 ns (S.val s))), (.p (.int .i64 ta)), (.p (.int .i64 tm)), (.p (.int .i64 r)), (.p (.isl 2 nf (S.val f)))]))]⟩) (.e .ret ⟨(.nd .lf .any (.nd .lf (.c (.p (.bool false))) .lf)), [(some (.box 27 [(.p (.int .i64 e)), (.p (.int .i64 m)), (.p (.int .i64 t)), (.p (.int .i64 l)), (.p (.isl 2 nc (S.val c))), (.p (.isl 2 ns (S.val s))), (.p (.int .i64 ta)), (.p (.int .i64 tm)), (.p (.int .i64 r)), (.p (.isl 2 nf (S.val f)))]))]⟩))) ∧
            (BrP (S.from_ (S.corAt c) nc 0)
            ((LoopGo (ex (cs hbs) 991) 0 m11_l4 ⟨(.nd (.nd .lf (.c (.pt 0 0)) .lf) .any (.nd .lf .any (.nd .lf (.c (.p (.int .i64 (0 : Int)))) .lf))), [(some (.box 27 [(.p (.int .i64 e)), (.p (.int .i64 m)), (.p (.int .i64 t)), (.p (.int .i64 l)), (.p (.isl 2 nc (S.val c))), (.p (.isl 2 ns (S.val s))), (.p (.int .i64 ta)), (.p (.int .i64 tm)), (.p (.int .i64 r)), (.p (.isl 2 nf (S.val f)))]))]⟩ (.br (S.from_ (S.cvxRow nc c) nc 0) (.e (.exit 6) ⟨(.nd (.nd .lf (.c (.pt 0 0)) .lf) .any .lf), [(some (.box 27 [(.p (.int .i64 e)), (.p (.int .i64 m)), (.p (.int .i64 t)), (.p (.int .i64 l)), (.p (.isl 2 nc (S.val c))), (.p (.isl 2 ns (S.val s))), (.p (.int .i64 ta)), (.p (.int .i64 tm)), (.p (.int .i64 r)), (.p (.isl 2 nf (S.val f)))]))]⟩) (.e .ret ⟨(.nd .lf .any (.nd .lf (.c (.p (.bool false))) .lf)), [(some (.box 27 [(.p (.int .i64 e)), (.p (.int .i64 m)), (.p (.int .i64 t)), (.p (.int .i64 l)), (.p (.isl 2 nc (S.val c))), (.p (.isl 2 ns (S.val s))), (.p (.int .i64 ta)), (.p (.int .i64 tm)), (.p (.int .i64 r)), (.p (.isl 2 nf (S.val f)))]))]⟩))) ∧
             (BrP (S.from_ (S.cvxRow nc c) nc 0)
             (Q (.c (.p (.bool true))) [(some (.box 27 [(.p (.int .i64 e)), (.p (.int .i64 m)), (.p (.int .i64 t)), (.p (.int .i64 l)), (.p (.isl 2 nc (S.val c))), (.p (.isl 2 ns (S.val s))), (.p (.int .i64 ta)), (.p (.int .i64 tm)), (.p (.int .i64 r)), (.p (.isl 2 nf (S.val f)))]))])
             (Q (.c (.p (.bool false))) [(some (.box 27 [(.p (.int .i64 e)), (.p (.int .i64 m)), (.p (.int .i64 t)), (.p (.int .i64 l)), (.p (.isl 2 nc (S.val c))), (.p (.isl 2 ns (S.val s))), (.p (.int .i64 ta)), (.p (.int .i64 tm)), (.p (.int .i64 r)), (.p (.isl 2 nf (S.val f)))]))])))
            (Q (.c (.p (.bool false))) [(some (.box 27 [(.p (.int .i64 e)), (.p (.int .i64 m)), (.p (.int .i64 t)), (.p (.int .i64 l)), (.p (.isl 2 nc (S.val c))), (.p (.isl 2 ns (S.val s))), (.p (.int .i64 ta)), (.p (.int .i64 tm)), (.p (.int .i64 r)), (.p (.isl 2 nf (S.val f)))]))])))
           (Q (.c (.p (.bool false))) [(some (.box 27 [(.p (.int .i64 e)), (.p (.int .i64 m)), (.p (.int .i64 t)), (.p (.int .i64 l)), (.p (.isl 2 nc (S.val c))), (.p (.isl 2 ns (S.val s))), (.p (.int .i64 ta)), (.p (.int .i64 tm)), (.p (.int .i64 r)), (.p (.isl 2 nf (S.val f)))]))])))
          (Q (.c (.p (.bool false))) [(some (.box 27 [(.p (.int .i64 e)), (.p (.int .i64 m)), (.p (.int .i64 t)), (.p (.int .i64 l)), (.p (.isl 2 nc (S.val c))), (.p (.isl 2 ns (S.val s))), (.p (.int .i64 ta)), (.p (.int .i64 tm)), (.p (.int .i64 r)), (.p (.isl 2 nf (S.val f)))]))]))))
        (Q (.c (.p (.bool false))) [(some (.box 27 [(.p (.int .i64 e)), (.p (.int .i64 m)), (.p (.int .i64 t)), (.p (.int .i64 l)), (.p (.isl 2 nc (S.val c))), (.p (.isl 2 ns (S.val s))), (.p (.int .i64 ta)), (.p (.int .i64 tm)), (.p (.int .i64 r)), (.p (.isl 2 nf (S.val f)))]))]))))
      (Q (.c (.p (.bool false))) [(some (.box 27 [(.p (.int .i64 e)), (.p (.int .i64 m)), (.p (.int .i64 t)), (.p (.int .i64 l)), (.p (.isl 2 nc (S.val c))), (.p (.isl 2 ns (S.val s))), (.p (.int .i64 ta)), (.p (.int .i64 tm)), (.p (.int .i64 r)), (.p (.isl 2 nf (S.val f)))]))])))
     (Q (.c (.p (.bool false))) [(some (.box 27 [(.p (.int .i64 e)), (.p (.int .i64 m)), (.p (.int .i64 t)), (.p (.int .i64 l)), (.p (.isl 2 nc (S.val c))), (.p (.isl 2 ns (S.val s))), (.p (.int .i64 ta)), (.p (.int .i64 tm)), (.p (.int .i64 r)), (.p (.isl 2 nf (S.val f)))]))])))
    (Q (.c (.p (.bool false))) [(some (.box 27 [(.p (.int .i64 e)), (.p (.int .i64 m)), (.p (.int .i64 t)), (.p (.int .i64 l)), (.p (.isl 2 nc (S.val c))), (.p (.isl 2 ns (S.val s))), (.p (.int .i64 ta)), (.p (.int .i64 tm)), (.p (.int .i64 r)), (.p (.isl 2 nf (S.val f)))]))])))
   (Q (.c (.p (.bool false))) [(some (.box 27 [(.p (.int .i64 e)), (.p (.int .i64 m)), (.p (.int .i64 t)), (.p (.int .i64 l)), (.p (.isl 2 nc (S.val c))), (.p (.isl 2 ns (S.val s))), (.p (.int .i64 ta)), (.p (.int .i64 tm)), (.p (.int .i64 r)), (.p (.isl 2 nf (S.val f)))]))])))
  (Q (.c (.p (.bool false))) [(some (.box 27 [(.p (.int .i64 e)), (.p (.int .i64 m)), (.p (.int .i64 t)), (.p (.int .i64 l)), (.p (.isl 2 nc (S.val c))), (.p (.isl 2 ns (S.val s))), (.p (.int .i64 ta)), (.p (.int .i64 tm)), (.p (.int .i64 r)), (.p (.isl 2 nf (S.val f)))]))])))
 (Q (.c (.p (.bool false))) [(some (.box 27 [(.p (.int .i64 e)), (.p (.int .i64 m)), (.p (.int .i64 t)), (.p (.int .i64 l)), (.p (.isl 2 nc (S.val c))), (.p (.isl 2 ns (S.val s))), (.p (.int .i64 ta)), (.p (.int .i64 tm)), (.p (.int .i64 r)), (.p (.isl 2 nf (S.val f)))]))])))) = (ex (cs hbs) 1000 0 m11 ⟨ofL 0 [.ag (plC e m t l nc (S.val c) ns (S.val s) ta tm r nf (S.val f))] .lf, []⟩ (endK F11.rs (fun r H => .pr (Q r H)) fun _ _ => .no)).hold2 := by kernel_rfl
theorem vs11a (fu i : Nat) (e m t l : Int) (nc : Nat) (c : S.Rows) (ns : Nat) (s : S.Rows) (ta tm r : Int) (nf : Nat) (f : S.Rows) (Q : AX → St → Prop) :
 ((BrP (decide (((i : Nat) : Int) < ((ns : Nat) : Int)))
 (CdP (.rng ((i : Nat) : Int) ns)
  ((FCall (cs hbs) 32 [(.ag [(.p (.int .i64 (s i 0))), (.p (.int .i64 (s i 1)))])] (.c (.p (.bool (S.stOk (s i 0) (s i 1))))) []) ∧
  (BrP (S.stOk (s i 0) (s i 1))
  (CdP (.i64 (((i : Nat) : Int) + (1 : Int)))
   (Q .normal ⟨(.nd (.nd (.nd (.nd (.nd (.nd (.nd .lf (.c (.p (.isl 2 ns (S.val s)))) .lf) .any .lf) .any .lf) .any (.nd (.nd (.nd .lf (.c (.p (.ipt 2 (S.val s i)))) .lf) .any .lf) .any .lf)) (.c (.p (.int .i64 (((i : Nat) : Int) + (1 : Int))))) (.nd (.nd (.nd (.nd .lf (.c (.p (.int .i64 (((i : Nat) : Int) + (1 : Int))))) .lf) .any .lf) .any .lf) .any .lf)) (.c (.pt 0 0)) (.nd (.nd (.nd (.nd (.nd .lf (.c (.p (.bool true))) .lf) .any .lf) .any .lf) .any (.nd (.nd (.nd .lf (.c (.p (.bool true))) .lf) .any .lf) .any .lf)) .any (.nd (.nd (.nd (.nd .lf (.c (.p (.isl 2 ns (S.val s)))) .lf) .any .lf) .any .lf) .any (.nd .lf .any (.nd .lf (.c (.p (.int .i64 ((i : Nat) : Int)))) .lf))))) .any (.nd (.nd (.nd (.nd (.nd (.nd .lf (.c (.p (.int .i64 ((ns : Nat) : Int)))) .lf) .any .lf) .any .lf) .any (.nd (.nd (.nd .lf (.ag [(.p (.int .i64 (s i 0))), (.p (.int .i64 (s i 1)))]) .lf) .any .lf) .any .lf)) .any (.nd (.nd (.nd (.nd .lf (.c (.pt 0 5)) .lf) .any .lf) .any .lf) .any .lf)) .any (.nd (.nd (.nd (.nd (.nd .lf (.c (.p (.int .i64 ((i : Nat) : Int)))) .lf) .any .lf) .any .lf) .any (.nd (.nd (.nd .lf (.c (.p (.bool false))) .lf) .any .lf) .any .lf)) .any (.nd (.nd (.nd (.nd .lf (.c (.p (.int .i64 ((i : Nat) : Int)))) .lf) .any .lf) .any .lf) .any (.nd .lf .any (.nd .lf (.c (.pt 0 5)) .lf)))))), [(some (.box 27 [(.p (.int .i64 e)), (.p (.int .i64 m)), (.p (.int .i64 t)), (.p (.int .i64 l)), (.p (.isl 2 nc (S.val c))), (.p (.isl 2 ns (S.val s))), (.p (.int .i64 ta)), (.p (.int .i64 tm)), (.p (.int .i64 r)), (.p (.isl 2 nf (S.val f)))]))]⟩))
  (Q .ret ⟨(.nd (.nd (.nd (.nd (.nd (.nd (.nd .lf (.c (.p (.isl 2 ns (S.val s)))) .lf) .any .lf) .any .lf) .any (.nd (.nd (.nd .lf (.c (.p (.ipt 2 (S.val s i)))) .lf) .any .lf) .any .lf)) (.c (.p (.int .i64 ((i : Nat) : Int)))) .lf) (.c (.pt 0 0)) (.nd (.nd (.nd (.nd (.nd .lf (.c (.p (.bool true))) .lf) .any .lf) .any .lf) .any (.nd (.nd (.nd .lf (.c (.p (.bool false))) .lf) .any .lf) .any .lf)) .any (.nd (.nd (.nd (.nd .lf (.c (.p (.isl 2 ns (S.val s)))) .lf) .any .lf) .any .lf) .any (.nd .lf .any (.nd .lf (.c (.p (.int .i64 ((i : Nat) : Int)))) .lf))))) .any (.nd (.nd (.nd (.nd (.nd (.nd .lf (.c (.p (.int .i64 ((ns : Nat) : Int)))) .lf) .any .lf) .any .lf) .any (.nd (.nd (.nd .lf (.ag [(.p (.int .i64 (s i 0))), (.p (.int .i64 (s i 1)))]) .lf) .any .lf) .any .lf)) .any (.nd (.nd (.nd (.nd .lf (.c (.pt 0 5)) .lf) .any .lf) .any .lf) .any .lf)) (.c (.p (.bool false))) (.nd (.nd .lf .any (.nd (.nd (.nd .lf (.c (.p (.bool true))) .lf) .any .lf) .any .lf)) .any (.nd (.nd (.nd (.nd .lf (.c (.p (.int .i64 ((i : Nat) : Int)))) .lf) .any .lf) .any .lf) .any (.nd .lf .any (.nd .lf (.c (.pt 0 5)) .lf)))))), [(some (.box 27 [(.p (.int .i64 e)), (.p (.int .i64 m)), (.p (.int .i64 t)), (.p (.int .i64 l)), (.p (.isl 2 nc (S.val c))), (.p (.isl 2 ns (S.val s))), (.p (.int .i64 ta)), (.p (.int .i64 tm)), (.p (.int .i64 r)), (.p (.isl 2 nf (S.val f)))]))]⟩))))
 (Q (.exit 0) ⟨(.nd (.nd (.nd (.nd (.nd (.nd (.nd .lf (.c (.p (.isl 2 ns (S.val s)))) .lf) .any .lf) .any .lf) .any .lf) (.c (.p (.int .i64 ((i : Nat) : Int)))) .lf) (.c (.pt 0 0)) (.nd (.nd (.nd (.nd (.nd .lf (.c (.p (.bool false))) .lf) .any .lf) .any .lf) .any .lf) .any (.nd .lf .any (.nd .lf .any (.nd .lf (.c (.p (.int .i64 ((i : Nat) : Int)))) .lf))))) .any (.nd (.nd (.nd (.nd (.nd (.nd .lf (.c (.p (.int .i64 ((ns : Nat) : Int)))) .lf) .any .lf) .any .lf) .any .lf) .any .lf) .any (.nd .lf .any (.nd .lf .any (.nd .lf .any (.nd .lf (.c (.pt 0 5)) .lf)))))), [(some (.box 27 [(.p (.int .i64 e)), (.p (.int .i64 m)), (.p (.int .i64 t)), (.p (.int .i64 l)), (.p (.isl 2 nc (S.val c))), (.p (.isl 2 ns (S.val s))), (.p (.int .i64 ta)), (.p (.int .i64 tm)), (.p (.int .i64 r)), (.p (.isl 2 nf (S.val f)))]))]⟩))) = (ex (cs hbs) (fu + 60) 0 m11_l1 ⟨setAll [(.o .h, .c (.pt 0 0)), (.o (.o .h), .c (.p (.int .i64 i)))], [some (.box 27 (plC e m t l nc (S.val c) ns (S.val s) ta tm r nf (S.val f)))]⟩ (fun e s => .pr (Q e s))).hold2 := by kernel_rfl
theorem vs11b (fu i : Nat) (e m t l : Int) (nc : Nat) (c : S.Rows) (ns : Nat) (s : S.Rows) (ta tm r : Int) (nf : Nat) (f : S.Rows) (Q : AX → St → Prop) :
 ((BrP (decide (((i : Nat) : Int) < ((nf : Nat) : Int)))
 (CdP (.rng ((i : Nat) : Int) nf)
  ((FCall (cs hbs) 32 [(.ag [(.p (.int .i64 (f i 0))), (.p (.int .i64 (f i 1)))])] (.c (.p (.bool (S.stOk (f i 0) (f i 1))))) []) ∧
  (BrP (S.stOk (f i 0) (f i 1))
  (CdP (.i64 (((i : Nat) : Int) + (1 : Int)))
   (Q .normal ⟨(.nd (.nd (.nd (.nd (.nd .lf .any (.nd (.nd .lf (.c (.p (.bool true))) .lf) .any .lf)) .any (.nd .lf .any (.nd (.nd .lf (.c (.p (.bool true))) .lf) .any .lf))) .any (.nd (.nd .lf .any (.nd (.nd .lf (.c (.p (.isl 2 nf (S.val f)))) .lf) .any .lf)) .any (.nd (.nd (.nd .lf (.c (.p (.int .i64 ((i : Nat) : Int)))) .lf) .any .lf) .any .lf))) (.c (.pt 0 0)) (.nd (.nd (.nd .lf .any (.nd (.nd .lf (.c (.p (.int .i64 (((i : Nat) : Int) + (1 : Int))))) .lf) .any .lf)) .any .lf) .any (.nd (.nd .lf .any (.nd (.nd .lf (.c (.p (.ipt 2 (S.val f i)))) .lf) .any .lf)) .any (.nd (.nd (.nd .lf (.c (.p (.isl 2 nf (S.val f)))) .lf) .any .lf) .any .lf)))) .any (.nd (.nd (.nd (.nd .lf .any (.nd (.nd .lf (.c (.p (.int .i64 ((i : Nat) : Int)))) .lf) .any .lf)) .any (.nd .lf .any (.nd (.nd .lf (.c (.p (.bool false))) .lf) .any .lf))) (.c (.p (.int .i64 (((i : Nat) : Int) + (1 : Int))))) (.nd (.nd .lf .any (.nd (.nd .lf (.c (.p (.int .i64 ((i : Nat) : Int)))) .lf) .any .lf)) .any (.nd (.nd (.nd .lf (.c (.pt 0 9)) .lf) .any .lf) .any .lf))) .any (.nd (.nd (.nd .lf .any (.nd (.nd .lf (.c (.pt 0 9)) .lf) .any .lf)) .any .lf) .any (.nd (.nd .lf .any (.nd (.nd .lf (.ag [(.p (.int .i64 (f i 0))), (.p (.int .i64 (f i 1)))]) .lf) .any .lf)) .any (.nd (.nd (.nd .lf (.c (.p (.int .i64 ((nf : Nat) : Int)))) .lf) .any .lf) .any .lf))))), [(some (.box 27 [(.p (.int .i64 e)), (.p (.int .i64 m)), (.p (.int .i64 t)), (.p (.int .i64 l)), (.p (.isl 2 nc (S.val c))), (.p (.isl 2 ns (S.val s))), (.p (.int .i64 ta)), (.p (.int .i64 tm)), (.p (.int .i64 r)), (.p (.isl 2 nf (S.val f)))]))]⟩))
  (Q .ret ⟨(.nd (.nd (.nd (.nd (.nd .lf .any (.nd (.nd .lf (.c (.p (.bool true))) .lf) .any .lf)) .any (.nd .lf .any (.nd (.nd .lf (.c (.p (.bool false))) .lf) .any .lf))) .any (.nd (.nd .lf .any (.nd (.nd .lf (.c (.p (.isl 2 nf (S.val f)))) .lf) .any .lf)) .any (.nd (.nd (.nd .lf (.c (.p (.int .i64 ((i : Nat) : Int)))) .lf) .any .lf) .any .lf))) (.c (.pt 0 0)) (.nd .lf .any (.nd (.nd .lf .any (.nd (.nd .lf (.c (.p (.ipt 2 (S.val f i)))) .lf) .any .lf)) .any (.nd (.nd (.nd .lf (.c (.p (.isl 2 nf (S.val f)))) .lf) .any .lf) .any .lf)))) .any (.nd (.nd (.nd .lf .any (.nd .lf .any (.nd (.nd .lf (.c (.p (.bool true))) .lf) .any .lf))) (.c (.p (.int .i64 ((i : Nat) : Int)))) (.nd (.nd .lf .any (.nd (.nd .lf (.c (.p (.int .i64 ((i : Nat) : Int)))) .lf) .any .lf)) .any (.nd (.nd (.nd .lf (.c (.pt 0 9)) .lf) .any .lf) .any .lf))) (.c (.p (.bool false))) (.nd (.nd (.nd .lf .any (.nd (.nd .lf (.c (.pt 0 9)) .lf) .any .lf)) .any .lf) .any (.nd (.nd .lf .any (.nd (.nd .lf (.ag [(.p (.int .i64 (f i 0))), (.p (.int .i64 (f i 1)))]) .lf) .any .lf)) .any (.nd (.nd (.nd .lf (.c (.p (.int .i64 ((nf : Nat) : Int)))) .lf) .any .lf) .any .lf))))), [(some (.box 27 [(.p (.int .i64 e)), (.p (.int .i64 m)), (.p (.int .i64 t)), (.p (.int .i64 l)), (.p (.isl 2 nc (S.val c))), (.p (.isl 2 ns (S.val s))), (.p (.int .i64 ta)), (.p (.int .i64 tm)), (.p (.int .i64 r)), (.p (.isl 2 nf (S.val f)))]))]⟩))))
 (Q (.exit 2) ⟨(.nd (.nd (.nd (.nd (.nd .lf .any (.nd (.nd .lf (.c (.p (.bool false))) .lf) .any .lf)) .any .lf) .any (.nd .lf .any (.nd (.nd (.nd .lf (.c (.p (.int .i64 ((i : Nat) : Int)))) .lf) .any .lf) .any .lf))) (.c (.pt 0 0)) (.nd .lf .any (.nd .lf .any (.nd (.nd (.nd .lf (.c (.p (.isl 2 nf (S.val f)))) .lf) .any .lf) .any .lf)))) .any (.nd (.nd .lf (.c (.p (.int .i64 ((i : Nat) : Int)))) (.nd .lf .any (.nd (.nd (.nd .lf (.c (.pt 0 9)) .lf) .any .lf) .any .lf))) .any (.nd .lf .any (.nd .lf .any (.nd (.nd (.nd .lf (.c (.p (.int .i64 ((nf : Nat) : Int)))) .lf) .any .lf) .any .lf))))), [(some (.box 27 [(.p (.int .i64 e)), (.p (.int .i64 m)), (.p (.int .i64 t)), (.p (.int .i64 l)), (.p (.isl 2 nc (S.val c))), (.p (.isl 2 ns (S.val s))), (.p (.int .i64 ta)), (.p (.int .i64 tm)), (.p (.int .i64 r)), (.p (.isl 2 nf (S.val f)))]))]⟩))) = (ex (cs hbs) (fu + 60) 0 m11_l2 ⟨setAll [(.o .h, .c (.pt 0 0)), (.i (.o .h), .c (.p (.int .i64 i)))], [some (.box 27 (plC e m t l nc (S.val c) ns (S.val s) ta tm r nf (S.val f)))]⟩ (fun e s => .pr (Q e s))).hold2 := by kernel_rfl
theorem vs11c (fu i : Nat) (e m t l : Int) (nc : Nat) (c : S.Rows) (ns : Nat) (s : S.Rows) (ta tm r : Int) (nf : Nat) (f : S.Rows) (Q : AX → St → Prop) :
 ((BrP (decide (((i : Nat) : Int) < ((nc : Nat) : Int)))
 (CdP (.rng ((i : Nat) : Int) nc)
  ((FCall (cs hbs) 31 [(.c (.p (.int .i64 (c i 0)))), (.c (.p (.int .i64 (0 : Int)))), (.c (.p (.int .i64 (20000 : Int))))] (.c (.p (.bool (S.inB (0 : Int) (c i 0) (20000 : Int))))) []) ∧
  (BrP (S.inB (0 : Int) (c i 0) (20000 : Int))
  (CdP (.rng ((i : Nat) : Int) nc)
   ((FCall (cs hbs) 31 [(.c (.p (.int .i64 (c i 1)))), (.c (.p (.int .i64 (-(20000000 : Int))))), (.c (.p (.int .i64 (20000000 : Int))))] (.c (.p (.bool (S.inB (-(20000000 : Int)) (c i 1) (20000000 : Int))))) []) ∧
   (BrP (S.inB (-(20000000 : Int)) (c i 1) (20000000 : Int))
   (CdP (.i64 (((i : Nat) : Int) + (1 : Int)))
    (Q .normal ⟨(.nd (.nd (.nd (.nd (.nd (.nd .lf .any (.nd .lf (.c (.p (.int .i64 (((i : Nat) : Int) + (1 : Int))))) .lf)) .any (.nd .lf .any (.nd .lf (.c (.p (.bool true))) .lf))) .any (.nd (.nd .lf .any (.nd .lf (.c (.p (.bool false))) .lf)) .any .lf)) .any (.nd (.nd (.nd .lf .any (.nd .lf (.c (.p (.ipt 2 (S.val c i)))) .lf)) .any .lf) .any (.nd (.nd .lf .any (.nd .lf (.c (.p (.int .i64 ((i : Nat) : Int)))) .lf)) .any (.nd (.nd .lf (.c (.p (.isl 2 nc (S.val c)))) .lf) .any .lf)))) (.c (.pt 0 0)) (.nd (.nd (.nd (.nd .lf .any (.nd .lf (.c (.p (.isl 2 nc (S.val c)))) .lf)) .any (.nd .lf .any (.nd .lf (.c (.p (.bool false))) .lf))) .any (.nd (.nd .lf .any (.nd .lf (.c (.pt 0 4)) .lf)) .any (.nd (.nd .lf (.c (.p (.int .i64 ((i : Nat) : Int)))) .lf) .any .lf))) (.c (.p (.int .i64 (((i : Nat) : Int) + (1 : Int))))) (.nd (.nd (.nd .lf .any (.nd .lf (.c (.p (.int .i64 (c i 0)))) .lf)) .any .lf) .any (.nd (.nd .lf .any (.nd .lf (.c (.p (.ipt 1 (fun x16 => (.int .i64 (c i (1 + x16))))))) .lf)) .any (.nd (.nd .lf (.c (.p (.bool true))) .lf) .any .lf))))) .any (.nd (.nd (.nd (.nd (.nd .lf .any (.nd .lf (.c (.pt 0 4)) .lf)) .any (.nd .lf .any (.nd .lf (.c (.p (.bool false))) .lf))) .any (.nd (.nd .lf .any (.nd .lf (.c (.p (.bool false))) .lf)) .any .lf)) .any (.nd (.nd (.nd .lf .any (.nd .lf (.c (.p (.ipt 2 (fun x16 => (.int .i64 (c i (0 + x16))))))) .lf)) .any .lf) .any (.nd (.nd .lf .any (.nd .lf (.c (.p (.ipt 2 (S.val c i)))) .lf)) .any (.nd (.nd .lf (.c (.p (.int .i64 ((nc : Nat) : Int)))) .lf) .any .lf)))) .any (.nd (.nd (.nd (.nd .lf .any (.nd .lf (.c (.p (.int .i64 ((i : Nat) : Int)))) .lf)) .any .lf) .any (.nd (.nd .lf .any (.nd .lf (.c (.p (.isl 2 nc (S.val c)))) .lf)) .any (.nd (.nd .lf (.c (.pt 0 4)) .lf) .any .lf))) .any (.nd (.nd (.nd .lf .any (.nd .lf (.c (.p (.bool true))) .lf)) .any .lf) .any (.nd (.nd .lf .any (.nd .lf (.c (.p (.int .i64 (c i 1)))) .lf)) .any (.nd (.nd .lf (.c (.p (.int .i64 ((i : Nat) : Int)))) .lf) .any .lf)))))), [(some (.box 27 [(.p (.int .i64 e)), (.p (.int .i64 m)), (.p (.int .i64 t)), (.p (.int .i64 l)), (.p (.isl 2 nc (S.val c))), (.p (.isl 2 ns (S.val s))), (.p (.int .i64 ta)), (.p (.int .i64 tm)), (.p (.int .i64 r)), (.p (.isl 2 nf (S.val f)))]))]⟩))
   (Q .ret ⟨(.nd (.nd (.nd (.nd (.nd .lf .any (.nd .lf .any (.nd .lf (.c (.p (.bool false))) .lf))) .any (.nd (.nd .lf .any (.nd .lf (.c (.p (.bool false))) .lf)) .any .lf)) .any (.nd (.nd (.nd .lf .any (.nd .lf (.c (.p (.ipt 2 (S.val c i)))) .lf)) .any .lf) .any (.nd (.nd .lf .any (.nd .lf (.c (.p (.int .i64 ((i : Nat) : Int)))) .lf)) .any (.nd (.nd .lf (.c (.p (.isl 2 nc (S.val c)))) .lf) .any .lf)))) (.c (.pt 0 0)) (.nd (.nd (.nd (.nd .lf .any (.nd .lf (.c (.p (.isl 2 nc (S.val c)))) .lf)) .any (.nd .lf .any (.nd .lf (.c (.p (.bool true))) .lf))) .any (.nd (.nd .lf .any (.nd .lf (.c (.pt 0 4)) .lf)) .any (.nd (.nd .lf (.c (.p (.int .i64 ((i : Nat) : Int)))) .lf) .any .lf))) (.c (.p (.int .i64 ((i : Nat) : Int)))) (.nd (.nd (.nd .lf .any (.nd .lf (.c (.p (.int .i64 (c i 0)))) .lf)) .any .lf) .any (.nd (.nd .lf .any (.nd .lf (.c (.p (.ipt 1 (fun x16 => (.int .i64 (c i (1 + x16))))))) .lf)) .any (.nd (.nd .lf (.c (.p (.bool true))) .lf) .any .lf))))) .any (.nd (.nd (.nd (.nd (.nd .lf .any (.nd .lf (.c (.pt 0 4)) .lf)) .any (.nd .lf .any (.nd .lf (.c (.p (.bool true))) .lf))) .any (.nd (.nd .lf .any (.nd .lf (.c (.p (.bool false))) .lf)) .any .lf)) .any (.nd (.nd (.nd .lf .any (.nd .lf (.c (.p (.ipt 2 (fun x16 => (.int .i64 (c i (0 + x16))))))) .lf)) .any .lf) .any (.nd (.nd .lf .any (.nd .lf (.c (.p (.ipt 2 (S.val c i)))) .lf)) .any (.nd (.nd .lf (.c (.p (.int .i64 ((nc : Nat) : Int)))) .lf) .any .lf)))) (.c (.p (.bool false))) (.nd (.nd (.nd (.nd .lf .any (.nd .lf (.c (.p (.int .i64 ((i : Nat) : Int)))) .lf)) .any .lf) .any (.nd (.nd .lf .any (.nd .lf (.c (.p (.isl 2 nc (S.val c)))) .lf)) .any (.nd (.nd .lf (.c (.pt 0 4)) .lf) .any .lf))) .any (.nd (.nd (.nd .lf .any (.nd .lf (.c (.p (.bool true))) .lf)) .any .lf) .any (.nd (.nd .lf .any (.nd .lf (.c (.p (.int .i64 (c i 1)))) .lf)) .any .lf))))), [(some (.box 27 [(.p (.int .i64 e)), (.p (.int .i64 m)), (.p (.int .i64 t)), (.p (.int .i64 l)), (.p (.isl 2 nc (S.val c))), (.p (.isl 2 ns (S.val s))), (.p (.int .i64 ta)), (.p (.int .i64 tm)), (.p (.int .i64 r)), (.p (.isl 2 nf (S.val f)))]))]⟩))))
  (Q .ret ⟨(.nd (.nd (.nd (.nd (.nd .lf .any (.nd .lf .any (.nd .lf (.tp []) .lf))) .any (.nd (.nd .lf .any (.nd .lf (.c (.p (.bool true))) .lf)) .any .lf)) .any (.nd (.nd (.nd .lf .any (.nd .lf (.c (.p (.ipt 2 (S.val c i)))) .lf)) .any .lf) .any (.nd (.nd .lf .any (.nd .lf (.tp []) .lf)) .any (.nd (.nd .lf (.c (.p (.isl 2 nc (S.val c)))) .lf) .any .lf)))) (.c (.pt 0 0)) (.nd (.nd (.nd (.nd .lf .any (.nd .lf (.c (.p (.isl 2 nc (S.val c)))) .lf)) .any (.nd .lf .any (.nd .lf (.c (.p (.bool true))) .lf))) .any (.nd (.nd .lf .any (.nd .lf (.tp []) .lf)) .any (.nd (.nd .lf (.c (.p (.int .i64 ((i : Nat) : Int)))) .lf) .any .lf))) (.c (.p (.int .i64 ((i : Nat) : Int)))) (.nd (.nd (.nd .lf .any (.nd .lf (.c (.p (.int .i64 (c i 0)))) .lf)) .any .lf) .any (.nd (.nd .lf .any (.nd .lf (.tp []) .lf)) .any (.nd (.nd .lf (.c (.p (.bool true))) .lf) .any .lf))))) .any (.nd (.nd (.nd (.nd (.nd .lf .any (.nd .lf (.c (.pt 0 4)) .lf)) .any (.nd .lf .any (.nd .lf (.tp []) .lf))) .any (.nd (.nd .lf .any (.nd .lf (.c (.p (.bool true))) .lf)) .any .lf)) .any (.nd (.nd (.nd .lf .any (.nd .lf (.c (.p (.ipt 2 (fun x16 => (.int .i64 (c i (0 + x16))))))) .lf)) .any .lf) .any (.nd (.nd .lf .any (.nd .lf (.tp []) .lf)) .any (.nd (.nd .lf (.c (.p (.int .i64 ((nc : Nat) : Int)))) .lf) .any .lf)))) (.c (.p (.bool false))) (.nd (.nd (.nd (.nd .lf .any (.nd .lf (.c (.p (.int .i64 ((i : Nat) : Int)))) .lf)) .any .lf) .any (.nd (.nd .lf .any (.nd .lf (.tp []) .lf)) .any (.nd (.nd .lf (.c (.pt 0 4)) .lf) .any .lf))) .any (.nd (.nd (.nd .lf .any (.nd .lf (.c (.p (.bool false))) .lf)) .any .lf) .any (.nd (.nd .lf .any (.nd .lf (.tp []) .lf)) .any .lf))))), [(some (.box 27 [(.p (.int .i64 e)), (.p (.int .i64 m)), (.p (.int .i64 t)), (.p (.int .i64 l)), (.p (.isl 2 nc (S.val c))), (.p (.isl 2 ns (S.val s))), (.p (.int .i64 ta)), (.p (.int .i64 tm)), (.p (.int .i64 r)), (.p (.isl 2 nf (S.val f)))]))]⟩))))
 (Q (.exit 4) ⟨(.nd (.nd (.nd .lf .any (.nd .lf .any (.nd .lf .any (.nd (.nd .lf (.c (.p (.isl 2 nc (S.val c)))) .lf) .any .lf)))) (.c (.pt 0 0)) (.nd (.nd .lf .any (.nd .lf .any (.nd (.nd .lf (.c (.p (.int .i64 ((i : Nat) : Int)))) .lf) .any .lf))) (.c (.p (.int .i64 ((i : Nat) : Int)))) (.nd .lf .any (.nd .lf .any (.nd (.nd .lf (.c (.p (.bool false))) .lf) .any .lf))))) .any (.nd (.nd .lf .any (.nd .lf .any (.nd .lf .any (.nd (.nd .lf (.c (.p (.int .i64 ((nc : Nat) : Int)))) .lf) .any .lf)))) .any (.nd (.nd .lf .any (.nd .lf .any (.nd (.nd .lf (.c (.pt 0 4)) .lf) .any .lf))) .any .lf))), [(some (.box 27 [(.p (.int .i64 e)), (.p (.int .i64 m)), (.p (.int .i64 t)), (.p (.int .i64 l)), (.p (.isl 2 nc (S.val c))), (.p (.isl 2 ns (S.val s))), (.p (.int .i64 ta)), (.p (.int .i64 tm)), (.p (.int .i64 r)), (.p (.isl 2 nf (S.val f)))]))]⟩))) = (ex (cs hbs) (fu + 60) 0 m11_l3 ⟨setAll [(.o .h, .c (.pt 0 0)), (.o (.i .h), .c (.p (.int .i64 i)))], [some (.box 27 (plC e m t l nc (S.val c) ns (S.val s) ta tm r nf (S.val f)))]⟩ (fun e s => .pr (Q e s))).hold2 := by kernel_rfl
theorem vs11d (fu i : Nat) (e m t l : Int) (nc : Nat) (c : S.Rows) (ns : Nat) (s : S.Rows) (ta tm r : Int) (nf : Nat) (f : S.Rows) (Q : AX → St → Prop) :
 ((BrP (decide (((i : Nat) : Int) < ((nc : Nat) : Int)))
 ((LoopGo (ex (cs hbs) (fu + 54)) 0 m11_l5 ⟨(.nd (.nd (.nd (.nd .lf (.c (.p (.int .i64 (0 : Int)))) .lf) .any (.nd (.nd .lf .any (.nd .lf .any (.nd .lf (.c (.pt 0 4)) .lf))) .any .lf)) (.c (.pt 0 0)) (.nd .lf .any (.nd (.nd .lf .any (.nd .lf .any (.nd .lf (.c (.p (.int .i64 ((nc : Nat) : Int)))) .lf))) .any .lf))) .any (.nd (.nd .lf .any (.nd (.nd .lf .any (.nd .lf .any (.nd .lf (.c (.p (.isl 2 nc (S.val c)))) .lf))) .any .lf)) .any (.nd (.nd (.nd .lf .any (.nd .lf .any (.nd .lf (.c (.p (.int .i64 ((i : Nat) : Int)))) .lf))) .any .lf) (.c (.p (.int .i64 ((i : Nat) : Int)))) (.nd (.nd .lf .any (.nd .lf .any (.nd .lf (.c (.p (.bool true))) .lf))) .any .lf)))), [(some (.box 27 [(.p (.int .i64 e)), (.p (.int .i64 m)), (.p (.int .i64 t)), (.p (.int .i64 l)), (.p (.isl 2 nc (S.val c))), (.p (.isl 2 ns (S.val s))), (.p (.int .i64 ta)), (.p (.int .i64 tm)), (.p (.int .i64 r)), (.p (.isl 2 nf (S.val f)))]))]⟩ (.br (S.from_ (S.cvxAt nc c i) nc 0) (.e (.exit 8) ⟨(.nd (.nd .lf (.c (.pt 0 0)) .lf) .any (.nd .lf .any (.nd .lf (.c (.p (.int .i64 ((i : Nat) : Int)))) .lf))), [(some (.box 27 [(.p (.int .i64 e)), (.p (.int .i64 m)), (.p (.int .i64 t)), (.p (.int .i64 l)), (.p (.isl 2 nc (S.val c))), (.p (.isl 2 ns (S.val s))), (.p (.int .i64 ta)), (.p (.int .i64 tm)), (.p (.int .i64 r)), (.p (.isl 2 nf (S.val f)))]))]⟩) (.e .ret ⟨(.nd .lf .any (.nd .lf (.c (.p (.bool false))) .lf)), [(some (.box 27 [(.p (.int .i64 e)), (.p (.int .i64 m)), (.p (.int .i64 t)), (.p (.int .i64 l)), (.p (.isl 2 nc (S.val c))), (.p (.isl 2 ns (S.val s))), (.p (.int .i64 ta)), (.p (.int .i64 tm)), (.p (.int .i64 r)), (.p (.isl 2 nf (S.val f)))]))]⟩))) ∧
  (BrP (S.from_ (S.cvxAt nc c i) nc 0)
  (CdP (.i64 (((i : Nat) : Int) + (1 : Int)))
   (Q .normal ⟨(.nd (.nd (.nd (.nd .lf .any (.nd .lf .any (.nd .lf .any (.nd .lf (.c (.p (.int .i64 ((i : Nat) : Int)))) .lf)))) .any .lf) (.c (.pt 0 0)) .lf) .any (.nd (.nd (.nd .lf .any (.nd .lf .any (.nd .lf .any (.nd .lf (.c (.p (.int .i64 (((i : Nat) : Int) + (1 : Int))))) .lf)))) .any .lf) .any (.nd .lf (.c (.p (.int .i64 (((i : Nat) : Int) + (1 : Int))))) .lf))), [(some (.box 27 [(.p (.int .i64 e)), (.p (.int .i64 m)), (.p (.int .i64 t)), (.p (.int .i64 l)), (.p (.isl 2 nc (S.val c))), (.p (.isl 2 ns (S.val s))), (.p (.int .i64 ta)), (.p (.int .i64 tm)), (.p (.int .i64 r)), (.p (.isl 2 nf (S.val f)))]))]⟩))
  (Q .ret ⟨(.nd .lf .any (.nd .lf (.c (.p (.bool false))) .lf)), [(some (.box 27 [(.p (.int .i64 e)), (.p (.int .i64 m)), (.p (.int .i64 t)), (.p (.int .i64 l)), (.p (.isl 2 nc (S.val c))), (.p (.isl 2 ns (S.val s))), (.p (.int .i64 ta)), (.p (.int .i64 tm)), (.p (.int .i64 r)), (.p (.isl 2 nf (S.val f)))]))]⟩)))
 (Q (.exit 6) ⟨(.nd (.nd (.nd .lf .any (.nd (.nd .lf .any (.nd .lf .any (.nd .lf (.c (.pt 0 4)) .lf))) .any .lf)) (.c (.pt 0 0)) (.nd .lf .any (.nd (.nd .lf .any (.nd .lf .any (.nd .lf (.c (.p (.int .i64 ((nc : Nat) : Int)))) .lf))) .any .lf))) .any (.nd (.nd .lf .any (.nd (.nd .lf .any (.nd .lf .any (.nd .lf (.c (.p (.isl 2 nc (S.val c)))) .lf))) .any .lf)) .any (.nd (.nd (.nd .lf .any (.nd .lf .any (.nd .lf (.c (.p (.int .i64 ((i : Nat) : Int)))) .lf))) .any .lf) (.c (.p (.int .i64 ((i : Nat) : Int)))) (.nd (.nd .lf .any (.nd .lf .any (.nd .lf (.c (.p (.bool false))) .lf))) .any .lf)))), [(some (.box 27 [(.p (.int .i64 e)), (.p (.int .i64 m)), (.p (.int .i64 t)), (.p (.int .i64 l)), (.p (.isl 2 nc (S.val c))), (.p (.isl 2 ns (S.val s))), (.p (.int .i64 ta)), (.p (.int .i64 tm)), (.p (.int .i64 r)), (.p (.isl 2 nf (S.val f)))]))]⟩))) = (ex (cs hbs) (fu + 60) 0 m11_l4 ⟨setAll [(.o .h, .c (.pt 0 0)), (.i (.i .h), .c (.p (.int .i64 i)))], [some (.box 27 (plC e m t l nc (S.val c) ns (S.val s) ta tm r nf (S.val f)))]⟩ (fun e s => .pr (Q e s))).hold2 := by kernel_rfl
theorem vs11e (fu i ed : Nat) (e m t l : Int) (nc : Nat) (c : S.Rows) (ns : Nat) (s : S.Rows) (ta tm r : Int) (nf : Nat) (f : S.Rows) (Q : AX → St → Prop) :
 ((BrP (decide (((i : Nat) : Int) < ((nc : Nat) : Int)))
 (BrP (((i : Nat) : Int) != ((ed : Nat) : Int))
  (CdP (.i64 (((ed : Nat) : Int) + (1 : Int)))
   (CdP (.ne ((nc : Nat) : Int))
   (BrP (((i : Nat) : Int) != (Int.tmod (((ed : Nat) : Int) + (1 : Int)) ((nc : Nat) : Int)))
   (CdP (.rng ((i : Nat) : Int) nc)
    (CdP (.rng ((i : Nat) : Int) nc)
    ((FCall (cs hbs) 33 [(.ag [(.p (.int .i64 e)), (.p (.int .i64 m)), (.p (.int .i64 t)), (.p (.int .i64 l)), (.p (.isl 2 nc (S.val c))), (.p (.isl 2 ns (S.val s))), (.p (.int .i64 ta)), (.p (.int .i64 tm)), (.p (.int .i64 r)), (.p (.isl 2 nf (S.val f)))]), (.c (.p (.int .i64 ((ed : Nat) : Int)))), (.c (.p (.int .i64 (c i 0)))), (.c (.p (.int .i64 (c i 1))))] (.c (.p (.int .i64 (S.sd nc c ed (c i 0) (c i 1))))) []) ∧
    (BrP (decide ((S.sd nc c ed (c i 0) (c i 1)) ≤ (0 : Int)))
    (Q .ret ⟨(.nd (.nd (.nd (.nd (.nd .lf .any (.nd (.nd (.nd .lf (.c (.p (.int .i64 ((ed : Nat) : Int)))) .lf) .any .lf) .any .lf)) (.c (.p (.int .i64 ((i : Nat) : Int)))) (.nd (.nd (.nd (.nd .lf (.c (.pt 0 4)) .lf) .any .lf) .any .lf) .any (.nd (.nd (.nd .lf (.c (.p (.isl 2 nc (S.val c)))) .lf) .any .lf) .any .lf))) .any (.nd (.nd (.nd (.nd (.nd .lf (.c (.p (.bool true))) .lf) .any .lf) .any .lf) .any (.nd (.nd (.nd .lf (.c (.p (.ipt 2 (S.val c i)))) .lf) .any .lf) .any .lf)) .any (.nd (.nd (.nd (.nd .lf (.c (.p (.bool true))) .lf) .any .lf) .any .lf) .any (.nd (.nd (.nd .lf (.c (.p (.int .i64 (c i 1)))) .lf) .any .lf) .any (.nd .lf (.c (.p (.isl 2 nc (S.val c)))) .lf))))) (.c (.pt 0 0)) (.nd (.nd (.nd (.nd (.nd (.nd .lf (.c (.p (.int .i64 ((ed : Nat) : Int)))) .lf) .any .lf) .any .lf) .any (.nd (.nd (.nd .lf (.c (.p (.isl 2 nc (S.val c)))) .lf) .any .lf) .any .lf)) .any (.nd (.nd (.nd (.nd .lf (.c (.p (.int .i64 ((nc : Nat) : Int)))) .lf) .any .lf) .any .lf) .any (.nd (.nd (.nd .lf (.c (.p (.ipt 2 (S.val c i)))) .lf) .any .lf) .any (.nd .lf (.c (.p (.int .i64 ((i : Nat) : Int)))) .lf)))) .any (.nd (.nd (.nd (.nd (.nd .lf (.c (.p (.int .i64 ((ed : Nat) : Int)))) .lf) .any .lf) .any .lf) .any (.nd (.nd (.nd .lf (.c (.p (.int .i64 (c i 0)))) .lf) .any .lf) .any .lf)) .any (.nd (.nd (.nd (.nd .lf (.c (.p (.bool true))) .lf) .any .lf) .any .lf) .any (.nd (.nd (.nd .lf (.c (.p (.bool true))) .lf) .any .lf) .any (.nd .lf (.c (.p (.bool true))) .lf)))))) .any (.nd (.nd (.nd (.nd (.nd (.nd (.nd .lf (.c (.p (.int .i64 ((i : Nat) : Int)))) .lf) .any .lf) .any .lf) .any (.nd (.nd (.nd .lf (.c (.pt 0 4)) .lf) .any .lf) .any .lf)) .any (.nd (.nd (.nd (.nd .lf (.c (.p (.isl 2 nc (S.val c)))) .lf) .any .lf) .any .lf) .any (.nd (.nd (.nd .lf (.c (.p (.int .i64 ((i : Nat) : Int)))) .lf) .any .lf) .any .lf))) .any (.nd (.nd (.nd (.nd (.nd .lf (.c (.p (.int .i64 ((i : Nat) : Int)))) .lf) .any .lf) .any .lf) .any (.nd (.nd (.nd .lf (.c (.p (.ipt 2 (fun x17 => (.int .i64 (c i (0 + x17))))))) .lf) .any .lf) .any .lf)) .any (.nd (.nd (.nd (.nd .lf (.c (.p (.bool true))) .lf) .any .lf) .any .lf) .any (.nd (.nd (.nd .lf (.c (.p (.int .i64 (S.sd nc c ed (c i 0) (c i 1))))) .lf) .any .lf) .any (.nd .lf (.c (.p (.int .i64 ((nc : Nat) : Int)))) .lf))))) (.c (.p (.bool false))) (.nd (.nd (.nd (.nd (.nd (.nd .lf (.c (.p (.bool true))) .lf) .any .lf) .any .lf) .any (.nd (.nd (.nd .lf (.c (.p (.int .i64 ((i : Nat) : Int)))) .lf) .any .lf) .any .lf)) .any (.nd (.nd (.nd (.nd .lf (.c (.p (.int .i64 (Int.tmod (((ed : Nat) : Int) + (1 : Int)) ((nc : Nat) : Int))))) .lf) .any .lf) .any .lf) .any (.nd (.nd (.nd .lf (.c (.p (.ipt 1 (fun x17 => (.int .i64 (c i (1 + x17))))))) .lf) .any .lf) .any (.nd .lf (.c (.pt 0 4)) .lf)))) (.c (.p (.int .i64 ((ed : Nat) : Int)))) (.nd (.nd (.nd (.nd (.nd .lf (.c (.p (.int .i64 (((ed : Nat) : Int) + (1 : Int))))) .lf) .any .lf) .any .lf) .any (.nd (.nd (.nd .lf (.c (.pt 0 4)) .lf) .any .lf) .any .lf)) .any (.nd (.nd (.nd (.nd .lf (.ag [(.p (.int .i64 e)), (.p (.int .i64 m)), (.p (.int .i64 t)), (.p (.int .i64 l)), (.p (.isl 2 nc (S.val c))), (.p (.isl 2 ns (S.val s))), (.p (.int .i64 ta)), (.p (.int .i64 tm)), (.p (.int .i64 r)), (.p (.isl 2 nf (S.val f)))]) .lf) .any .lf) .any .lf) .any (.nd (.nd (.nd .lf (.c (.p (.bool true))) .lf) .any .lf) .any .lf)))))), [(some (.box 27 [(.p (.int .i64 e)), (.p (.int .i64 m)), (.p (.int .i64 t)), (.p (.int .i64 l)), (.p (.isl 2 nc (S.val c))), (.p (.isl 2 ns (S.val s))), (.p (.int .i64 ta)), (.p (.int .i64 tm)), (.p (.int .i64 r)), (.p (.isl 2 nf (S.val f)))]))]⟩)
    (CdP (.i64 (((i : Nat) : Int) + (1 : Int)))
     (Q .normal ⟨(.nd (.nd (.nd (.nd (.nd (.nd (.nd (.nd .lf (.c (.p (.int .i64 (((i : Nat) : Int) + (1 : Int))))) .lf) .any .lf) .any .lf) .any (.nd (.nd (.nd .lf (.c (.p (.int .i64 ((ed : Nat) : Int)))) .lf) .any .lf) .any .lf)) (.c (.p (.int .i64 (((i : Nat) : Int) + (1 : Int))))) (.nd (.nd (.nd (.nd .lf (.c (.pt 0 4)) .lf) .any .lf) .any .lf) .any (.nd (.nd (.nd .lf (.c (.p (.isl 2 nc (S.val c)))) .lf) .any .lf) .any .lf))) .any (.nd (.nd (.nd (.nd (.nd .lf (.c (.p (.bool true))) .lf) .any .lf) .any .lf) .any (.nd (.nd (.nd .lf (.c (.p (.ipt 2 (S.val c i)))) .lf) .any .lf) .any .lf)) .any (.nd (.nd (.nd (.nd .lf (.c (.p (.bool true))) .lf) .any .lf) .any .lf) .any (.nd (.nd (.nd .lf (.c (.p (.int .i64 (c i 1)))) .lf) .any .lf) .any (.nd .lf (.c (.p (.isl 2 nc (S.val c)))) .lf))))) (.c (.pt 0 0)) (.nd (.nd (.nd (.nd (.nd (.nd .lf (.c (.p (.int .i64 ((ed : Nat) : Int)))) .lf) .any .lf) .any .lf) .any (.nd (.nd (.nd .lf (.c (.p (.isl 2 nc (S.val c)))) .lf) .any .lf) .any .lf)) .any (.nd (.nd (.nd (.nd .lf (.c (.p (.int .i64 ((nc : Nat) : Int)))) .lf) .any .lf) .any .lf) .any (.nd (.nd (.nd .lf (.c (.p (.ipt 2 (S.val c i)))) .lf) .any .lf) .any (.nd .lf (.c (.p (.int .i64 ((i : Nat) : Int)))) .lf)))) .any (.nd (.nd (.nd (.nd (.nd .lf (.c (.p (.int .i64 ((ed : Nat) : Int)))) .lf) .any .lf) .any .lf) .any (.nd (.nd (.nd .lf (.c (.p (.int .i64 (c i 0)))) .lf) .any .lf) .any .lf)) .any (.nd (.nd (.nd (.nd .lf (.c (.p (.bool true))) .lf) .any .lf) .any .lf) .any (.nd (.nd (.nd .lf (.c (.p (.bool false))) .lf) .any .lf) .any (.nd .lf (.c (.p (.bool true))) .lf)))))) .any (.nd (.nd (.nd (.nd (.nd (.nd (.nd .lf (.c (.p (.int .i64 ((i : Nat) : Int)))) .lf) .any .lf) .any .lf) .any (.nd (.nd (.nd .lf (.c (.pt 0 4)) .lf) .any .lf) .any .lf)) .any (.nd (.nd (.nd (.nd .lf (.c (.p (.isl 2 nc (S.val c)))) .lf) .any .lf) .any .lf) .any (.nd (.nd (.nd .lf (.c (.p (.int .i64 ((i : Nat) : Int)))) .lf) .any .lf) .any .lf))) .any (.nd (.nd (.nd (.nd (.nd .lf (.c (.p (.int .i64 ((i : Nat) : Int)))) .lf) .any .lf) .any .lf) .any (.nd (.nd (.nd .lf (.c (.p (.ipt 2 (fun x17 => (.int .i64 (c i (0 + x17))))))) .lf) .any .lf) .any .lf)) .any (.nd (.nd (.nd (.nd .lf (.c (.p (.bool true))) .lf) .any .lf) .any .lf) .any (.nd (.nd (.nd .lf (.c (.p (.int .i64 (S.sd nc c ed (c i 0) (c i 1))))) .lf) .any .lf) .any (.nd .lf (.c (.p (.int .i64 ((nc : Nat) : Int)))) .lf))))) .any (.nd (.nd (.nd (.nd (.nd (.nd .lf (.c (.p (.bool true))) .lf) .any .lf) .any .lf) .any (.nd (.nd (.nd .lf (.c (.p (.int .i64 ((i : Nat) : Int)))) .lf) .any .lf) .any .lf)) .any (.nd (.nd (.nd (.nd .lf (.c (.p (.int .i64 (Int.tmod (((ed : Nat) : Int) + (1 : Int)) ((nc : Nat) : Int))))) .lf) .any .lf) .any .lf) .any (.nd (.nd (.nd .lf (.c (.p (.ipt 1 (fun x17 => (.int .i64 (c i (1 + x17))))))) .lf) .any .lf) .any (.nd .lf (.c (.pt 0 4)) .lf)))) (.c (.p (.int .i64 ((ed : Nat) : Int)))) (.nd (.nd (.nd (.nd (.nd .lf (.c (.p (.int .i64 (((ed : Nat) : Int) + (1 : Int))))) .lf) .any .lf) .any .lf) .any (.nd (.nd (.nd .lf (.c (.pt 0 4)) .lf) .any .lf) .any .lf)) .any (.nd (.nd (.nd (.nd .lf (.ag [(.p (.int .i64 e)), (.p (.int .i64 m)), (.p (.int .i64 t)), (.p (.int .i64 l)), (.p (.isl 2 nc (S.val c))), (.p (.isl 2 ns (S.val s))), (.p (.int .i64 ta)), (.p (.int .i64 tm)), (.p (.int .i64 r)), (.p (.isl 2 nf (S.val f)))]) .lf) .any .lf) .any .lf) .any (.nd (.nd (.nd .lf (.c (.p (.bool false))) .lf) .any .lf) .any (.nd .lf (.c (.p (.int .i64 ((i : Nat) : Int)))) .lf))))))), [(some (.box 27 [(.p (.int .i64 e)), (.p (.int .i64 m)), (.p (.int .i64 t)), (.p (.int .i64 l)), (.p (.isl 2 nc (S.val c))), (.p (.isl 2 ns (S.val s))), (.p (.int .i64 ta)), (.p (.int .i64 tm)), (.p (.int .i64 r)), (.p (.isl 2 nf (S.val f)))]))]⟩))))))
   (CdP (.i64 (((i : Nat) : Int) + (1 : Int)))
    (Q .normal ⟨(.nd (.nd (.nd (.nd (.nd (.nd (.nd (.nd .lf (.c (.p (.int .i64 (((i : Nat) : Int) + (1 : Int))))) .lf) .any .lf) .any .lf) .any (.nd (.nd (.nd .lf (.tp []) .lf) .any .lf) .any .lf)) (.c (.p (.int .i64 (((i : Nat) : Int) + (1 : Int))))) (.nd (.nd (.nd (.nd .lf (.c (.pt 0 4)) .lf) .any .lf) .any .lf) .any (.nd (.nd (.nd .lf (.tp []) .lf) .any .lf) .any .lf))) .any (.nd (.nd (.nd (.nd (.nd .lf (.c (.p (.bool true))) .lf) .any .lf) .any .lf) .any (.nd (.nd (.nd .lf (.tp []) .lf) .any .lf) .any .lf)) .any (.nd (.nd (.nd (.nd .lf (.c (.p (.bool false))) .lf) .any .lf) .any .lf) .any (.nd (.nd (.nd .lf (.tp []) .lf) .any .lf) .any (.nd .lf (.c (.p (.isl 2 nc (S.val c)))) .lf))))) (.c (.pt 0 0)) (.nd (.nd (.nd (.nd (.nd (.nd .lf (.c (.p (.int .i64 ((ed : Nat) : Int)))) .lf) .any .lf) .any .lf) .any (.nd (.nd (.nd .lf (.tp []) .lf) .any .lf) .any .lf)) .any (.nd (.nd (.nd (.nd .lf (.c (.p (.int .i64 ((nc : Nat) : Int)))) .lf) .any .lf) .any .lf) .any (.nd (.nd (.nd .lf (.tp []) .lf) .any .lf) .any (.nd .lf (.c (.p (.int .i64 ((i : Nat) : Int)))) .lf)))) .any (.nd (.nd (.nd (.nd (.nd .lf (.c (.p (.int .i64 ((ed : Nat) : Int)))) .lf) .any .lf) .any .lf) .any (.nd (.nd (.nd .lf (.tp []) .lf) .any .lf) .any .lf)) .any (.nd (.nd (.nd (.nd .lf (.c (.p (.bool false))) .lf) .any .lf) .any .lf) .any (.nd (.nd (.nd .lf (.tp []) .lf) .any .lf) .any (.nd .lf (.c (.p (.bool true))) .lf)))))) .any (.nd (.nd (.nd (.nd (.nd (.nd (.nd .lf (.c (.p (.int .i64 ((i : Nat) : Int)))) .lf) .any .lf) .any .lf) .any (.nd (.nd (.nd .lf (.tp []) .lf) .any .lf) .any .lf)) .any (.nd (.nd (.nd (.nd .lf (.c (.p (.isl 2 nc (S.val c)))) .lf) .any .lf) .any .lf) .any (.nd (.nd (.nd .lf (.tp []) .lf) .any .lf) .any .lf))) .any (.nd (.nd (.nd (.nd (.nd .lf (.c (.p (.int .i64 ((i : Nat) : Int)))) .lf) .any .lf) .any .lf) .any (.nd (.nd (.nd .lf (.tp []) .lf) .any .lf) .any .lf)) .any (.nd (.nd (.nd (.nd .lf (.c (.p (.bool false))) .lf) .any .lf) .any .lf) .any (.nd (.nd (.nd .lf (.tp []) .lf) .any .lf) .any (.nd .lf (.c (.p (.int .i64 ((nc : Nat) : Int)))) .lf))))) .any (.nd (.nd (.nd (.nd (.nd (.nd .lf (.c (.p (.bool true))) .lf) .any .lf) .any .lf) .any (.nd (.nd (.nd .lf (.tp []) .lf) .any .lf) .any .lf)) .any (.nd (.nd (.nd (.nd .lf (.c (.p (.int .i64 (Int.tmod (((ed : Nat) : Int) + (1 : Int)) ((nc : Nat) : Int))))) .lf) .any .lf) .any .lf) .any (.nd (.nd (.nd .lf (.tp []) .lf) .any .lf) .any (.nd .lf (.c (.pt 0 4)) .lf)))) (.c (.p (.int .i64 ((ed : Nat) : Int)))) (.nd (.nd (.nd (.nd (.nd .lf (.c (.p (.int .i64 (((ed : Nat) : Int) + (1 : Int))))) .lf) .any .lf) .any .lf) .any (.nd (.nd (.nd .lf (.tp []) .lf) .any .lf) .any .lf)) .any (.nd (.nd (.nd (.nd .lf (.tp []) .lf) .any .lf) .any .lf) .any (.nd (.nd (.nd .lf (.c (.p (.bool false))) .lf) .any .lf) .any (.nd .lf (.c (.p (.int .i64 ((i : Nat) : Int)))) .lf))))))), [(some (.box 27 [(.p (.int .i64 e)), (.p (.int .i64 m)), (.p (.int .i64 t)), (.p (.int .i64 l)), (.p (.isl 2 nc (S.val c))), (.p (.isl 2 ns (S.val s))), (.p (.int .i64 ta)), (.p (.int .i64 tm)), (.p (.int .i64 r)), (.p (.isl 2 nf (S.val f)))]))]⟩)))))
  (CdP (.i64 (((i : Nat) : Int) + (1 : Int)))
   (Q .normal ⟨(.nd (.nd (.nd (.nd (.nd (.nd (.nd (.nd .lf (.c (.p (.int .i64 (((i : Nat) : Int) + (1 : Int))))) .lf) .any .lf) .any .lf) .any (.nd (.nd (.nd .lf (.tp []) .lf) .any .lf) .any .lf)) (.c (.p (.int .i64 (((i : Nat) : Int) + (1 : Int))))) (.nd (.nd (.nd (.nd .lf (.tp []) .lf) .any .lf) .any .lf) .any (.nd (.nd (.nd .lf (.tp []) .lf) .any .lf) .any .lf))) .any (.nd (.nd (.nd (.nd (.nd .lf (.c (.p (.bool false))) .lf) .any .lf) .any .lf) .any (.nd (.nd (.nd .lf (.tp []) .lf) .any .lf) .any .lf)) .any (.nd (.nd (.nd (.nd .lf (.tp []) .lf) .any .lf) .any .lf) .any (.nd (.nd (.nd .lf (.tp []) .lf) .any .lf) .any (.nd .lf (.c (.p (.isl 2 nc (S.val c)))) .lf))))) (.c (.pt 0 0)) (.nd (.nd (.nd (.nd (.nd (.nd .lf (.c (.p (.int .i64 ((ed : Nat) : Int)))) .lf) .any .lf) .any .lf) .any (.nd (.nd (.nd .lf (.tp []) .lf) .any .lf) .any .lf)) .any (.nd (.nd (.nd (.nd .lf (.tp []) .lf) .any .lf) .any .lf) .any (.nd (.nd (.nd .lf (.tp []) .lf) .any .lf) .any (.nd .lf (.c (.p (.int .i64 ((i : Nat) : Int)))) .lf)))) .any (.nd (.nd (.nd (.nd (.nd .lf (.tp []) .lf) .any .lf) .any .lf) .any (.nd (.nd (.nd .lf (.tp []) .lf) .any .lf) .any .lf)) .any (.nd (.nd (.nd (.nd .lf (.c (.p (.bool false))) .lf) .any .lf) .any .lf) .any (.nd (.nd (.nd .lf (.tp []) .lf) .any .lf) .any (.nd .lf (.c (.p (.bool true))) .lf)))))) .any (.nd (.nd (.nd (.nd (.nd (.nd (.nd .lf (.c (.p (.int .i64 ((i : Nat) : Int)))) .lf) .any .lf) .any .lf) .any (.nd (.nd (.nd .lf (.tp []) .lf) .any .lf) .any .lf)) .any (.nd (.nd (.nd (.nd .lf (.tp []) .lf) .any .lf) .any .lf) .any (.nd (.nd (.nd .lf (.tp []) .lf) .any .lf) .any .lf))) .any (.nd (.nd (.nd (.nd (.nd .lf (.tp []) .lf) .any .lf) .any .lf) .any (.nd (.nd (.nd .lf (.tp []) .lf) .any .lf) .any .lf)) .any (.nd (.nd (.nd (.nd .lf (.c (.p (.bool false))) .lf) .any .lf) .any .lf) .any (.nd (.nd (.nd .lf (.tp []) .lf) .any .lf) .any (.nd .lf (.c (.p (.int .i64 ((nc : Nat) : Int)))) .lf))))) .any (.nd (.nd (.nd (.nd (.nd (.nd .lf (.c (.p (.bool false))) .lf) .any .lf) .any .lf) .any (.nd (.nd (.nd .lf (.tp []) .lf) .any .lf) .any .lf)) .any (.nd (.nd (.nd (.nd .lf (.tp []) .lf) .any .lf) .any .lf) .any (.nd (.nd (.nd .lf (.tp []) .lf) .any .lf) .any (.nd .lf (.c (.pt 0 4)) .lf)))) (.c (.p (.int .i64 ((ed : Nat) : Int)))) (.nd (.nd (.nd (.nd (.nd .lf (.tp []) .lf) .any .lf) .any .lf) .any (.nd (.nd (.nd .lf (.tp []) .lf) .any .lf) .any .lf)) .any (.nd (.nd (.nd (.nd .lf (.tp []) .lf) .any .lf) .any .lf) .any (.nd (.nd (.nd .lf (.c (.p (.bool false))) .lf) .any .lf) .any (.nd .lf (.c (.p (.int .i64 ((i : Nat) : Int)))) .lf))))))), [(some (.box 27 [(.p (.int .i64 e)), (.p (.int .i64 m)), (.p (.int .i64 t)), (.p (.int .i64 l)), (.p (.isl 2 nc (S.val c))), (.p (.isl 2 ns (S.val s))), (.p (.int .i64 ta)), (.p (.int .i64 tm)), (.p (.int .i64 r)), (.p (.isl 2 nf (S.val f)))]))]⟩)))
 (Q (.exit 8) ⟨(.nd (.nd (.nd (.nd .lf (.c (.p (.int .i64 ((i : Nat) : Int)))) .lf) .any (.nd .lf .any (.nd .lf .any (.nd .lf .any (.nd .lf (.c (.p (.isl 2 nc (S.val c)))) .lf))))) (.c (.pt 0 0)) (.nd (.nd .lf .any (.nd .lf .any (.nd .lf .any (.nd .lf (.c (.p (.int .i64 ((i : Nat) : Int)))) .lf)))) .any (.nd .lf .any (.nd .lf .any (.nd .lf .any (.nd .lf (.c (.p (.bool false))) .lf)))))) .any (.nd (.nd .lf .any (.nd .lf .any (.nd .lf .any (.nd .lf .any (.nd .lf (.c (.p (.int .i64 ((nc : Nat) : Int)))) .lf))))) .any (.nd (.nd .lf .any (.nd .lf .any (.nd .lf .any (.nd .lf (.c (.pt 0 4)) .lf)))) (.c (.p (.int .i64 ((ed : Nat) : Int)))) .lf))), [(some (.box 27 [(.p (.int .i64 e)), (.p (.int .i64 m)), (.p (.int .i64 t)), (.p (.int .i64 l)), (.p (.isl 2 nc (S.val c))), (.p (.isl 2 ns (S.val s))), (.p (.int .i64 ta)), (.p (.int .i64 tm)), (.p (.int .i64 r)), (.p (.isl 2 nf (S.val f)))]))]⟩))) = (ex (cs hbs) (fu + 60) 0 m11_l5 ⟨setAll [(.o .h, .c (.pt 0 0)), (.i (.i .h), .c (.p (.int .i64 ed))), (.o (.o (.o .h)), .c (.p (.int .i64 i)))], [some (.box 27 (plC e m t l nc (S.val c) ns (S.val s) ta tm r nf (S.val f)))]⟩ (fun e s => .pr (Q e s))).hold2 := by kernel_rfl
end
end Go.Ab.B
set_option linter.all false
set_option maxRecDepth 100000
namespace Go.Ab
theorem frz_i {H : Heap} {a b : Int} (h : b = a) : frzA H (vI .i64 a) = some (vI .i64 b) := by subst h; rfl
end Go.Ab
namespace Go.Ab.B
open Go.Proofs
section
variable {hbs : BsOk Tryd.prog} (hT : TabOk (cs hbs))
include hT

theorem fc50' (ta tm : Int) : FCall (cs hbs) 50 [.c (.p (.isl 2 1 (fun i => (fun j => (List.getD [(.int .i64 ta), (.int .i64 tm)] ((i * 2) + j) .npt)))))] (vB (S.stOk ta tm)) [] := by
  have h := (fc50 hT 1 (S.num fun i => (fun j => (List.getD [(.int .i64 ta), (.int .i64 tm)] ((i * 2) + j) .npt))) (by decide)).like (args := [.c (.p (.isl 2 1 (fun i => (fun j => (List.getD [(.int .i64 ta), (.int .i64 tm)] ((i * 2) + j) .npt)))))])
    ⟨.inr ⟨rfl, rfl, fun i j hi hj => by
      have : i = 0 := by omega
      subst this
      match j, hj with
      | 0, _ => rfl
      | 1, _ => rfl⟩, trivial⟩
  have e : S.stn 1 (S.num fun i => (fun j => (List.getD [(.int .i64 ta), (.int .i64 tm)] ((i * 2) + j) .npt))) = S.stOk ta tm := by
    show (S.stOk ta tm && true) = _
    simp
  rwa [e] at h

variable {e m t l : Int} {nc : Nat} {c : S.Rows} {ns : Nat} {s : S.Rows} {ta tm r : Int} {nf : Nat} {f : S.Rows} (hnc : nc ≤ maxLen) (hns : ns ≤ maxLen) (hnf : nf ≤ maxLen)
include hnc hns hnf

theorem fc27 : FCall (cs hbs) 27 [.ag (plC e m t l nc (S.val c) ns (S.val s) ta tm r nf (S.val f))] (vB (S.plane e m t l nc c ns s ta tm r nf f)) [] := by
  have e50 : S.stn 1 (S.num fun i => (fun j => (List.getD [(.int .i64 ta), (.int .i64 tm)] ((i * 2) + j) .npt))) = S.stOk ta tm := by
    show (S.stOk ta tm && true) = _
    simp
  refine fcall_k hT (F := F27) rfl (vc27 e m t l nc c ns s ta tm r nf f _) ?_
  refine ⟨fc29 hT _ _ _, brP (fun h1 => ⟨fc29 hT _ _ _, brP (fun h2 => ⟨fc29 hT _ _ _, brP (fun h3 => ⟨fc29 hT _ _ _, brP (fun h4 => ⟨fc29 hT _ _ _, brP (fun h5 => ⟨fc49 hT nc c hnc, brP (fun h6 => brP (fun h7 => brP (fun h8 => ⟨by rw [e50]; exact fc50' hT ta tm, brP (fun h9 => ⟨fc50 hT _ _ hns, brP (fun h10 => ⟨fc50 hT _ _ hnf, brP (fun h11 => ?_) fun h11 => ?_⟩) fun h10 => ?_⟩) fun h9 => ?_⟩) fun h8 => ?_) fun h7 => ?_) fun h6 => ?_⟩) fun h5 => ?_⟩) fun h4 => ?_⟩) fun h3 => ?_⟩) fun h2 => ?_⟩) fun h1 => ?_⟩
  all_goals (try rw [e50] at h9)
  all_goals (refine frz_b ?_)
  all_goals (simp only [S.plane])
  all_goals (simp [*])

omit hT hns hnf in
theorem fc33 {ed : Nat} {w mo : Int} (hT : TabOk (cs hbs)) (hc : S.cor nc c = true) (he : ed < nc) (hw1 : -1000000 ≤ w) (hw2 : w ≤ 1000000) (hm1 : -1000000000 ≤ mo) (hm2 : mo ≤ 1000000000) :
    FCall (cs hbs) 33 [.ag (plC e m t l nc (S.val c) ns (S.val s) ta tm r nf (S.val f)), .c (.p (.int .i64 ed)), .c (.p (.int .i64 w)), .c (.p (.int .i64 mo))] (vI .i64 (S.sd nc c ed w mo)) [] := by
  refine fcall_k hT (F := F33) rfl (vc33 e m t l nc c ns s ta tm r nf f ed w mo _) ?_
  have e1 : Int.tmod ((ed : Int) + 1) (nc : Int) = (S.nxt nc ed : Int) := S.nxt_tmod (by omega)
  have e0 : Int.tmod (ed : Int) (nc : Int) = (ed : Int) := Int.tmod_eq_of_lt (by omega) (by omega)
  have e2 : (Int.tmod ((ed : Int) + 1) (nc : Int)).toNat = S.nxt nc ed := by rw [e1]; rfl
  have e3 : (Int.tmod (ed : Int) (nc : Int)).toNat = ed := by rw [e0]; rfl
  have hx : S.nxt nc ed < nc := S.nxt_lt (by omega)
  obtain ⟨b1, b2, b3, b4, b5, b6⟩ := S.sd_in hc he hw1 hw2 hm1 hm2
  rw [e2, e3]
  refine cdP (ne_nat (by omega)) (cdP (by rw [e0]; exact idx_ok he) (cdP (i64_nat he hnc) (cdP (ne_nat (by omega)) (cdP (by rw [e1]; exact idx_ok hx) (cdP ?_ (cdP ?_ (cdP ?_ (cdP ?_ (cdP ?_ (cdP ?_ (cdP ?_ ?_)))))))))))
  all_goals first | exact i64_of (by omega) (by omega) | exact frz_i rfl

abbrev lv12 (w mo : Int) (i : Nat) : List (Ps × AV) := [(.o .h, .c (.p (.int .i64 w))), (.i .h, .c (.p (.int .i64 mo))), (.o (.o .h), .c (.pt 0 0)), (.o (.o (.o .h)), .c (.p (.int .i64 i)))]
abbrev HP (e m t l : Int) (nc : Nat) (c : S.Rows) (ns : Nat) (s : S.Rows) (ta tm r : Int) (nf : Nat) (f : S.Rows) : Heap := [some (.box 27 (plC e m t l nc (S.val c) ns (S.val s) ta tm r nf (S.val f)))]
omit hns hnf in
theorem go12 {w mo : Int} (fu : Nat) (hc : S.cor nc c = true) (hw1 : -1000000 ≤ w) (hw2 : w ≤ 1000000) (hm1 : -1000000000 ≤ mo) (hm2 : mo ≤ 1000000000) : ∀ (i : Nat) (st : St), i ≤ nc → Has st (lv12 w mo i) (HP e m t l nc c ns s ta tm r nf f) →
    LoopGo (ex (cs hbs) (fu + 60)) 0 m12_l1 st (.br (S.from_ (S.insAt nc c w mo) nc i) (.e (.exit 0) ⟨.lf, HP e m t l nc c ns s ta tm r nf f⟩) (.e .ret ⟨setAll [(.i (.i .h), vB false)], HP e m t l nc c ns s ta tm r nf f⟩)) :=
  loop_k (σ := Nat) (lv12 w mo) (fun _ => HP e m t l nc c ns s ta tm r nf f) (fun i => i ≤ nc) (fun i => nc - i)
    (fun i => .br (S.from_ (S.insAt nc c w mo) nc i) (.e (.exit 0) ⟨.lf, HP e m t l nc c ns s ta tm r nf f⟩) (.e .ret ⟨setAll [(.i (.i .h), vB false)], HP e m t l nc c ns s ta tm r nf f⟩)) (fun _ => Nat.zero_le _) _ (fun i Q => vs12 (hbs := hbs) fu i e m t l nc c ns s ta tm r nf f w mo Q) fun i hi K hL X hX => by
      refine brP (fun h1 => ?_) fun h1 => ?_
      · have hlt : i < nc := by simpa using h1
        refine ⟨fc33 hnc hT hc hlt hw1 hw2 hm1 hm2, brP (fun h2 => ?_) fun h2 => cdP (i64_nat hlt hnc) ?_⟩
        · have ee : S.insAt nc c w mo i = false := by
            simp only [decide_eq_true_eq] at h2
            exact decide_eq_false (by omega)
          rw [S.from_step hlt, ee, Bool.false_and] at hL
          exact Has.out (l := [(.i (.i .h), vB false)]) (.cons (by kernel_rfl) rfl (.nil (ex := []) rfl rfl)) (Nat.zero_le _) hL
        · have ee : S.insAt nc c w mo i = true := by
            simp only [decide_eq_false_iff_not] at h2
            exact decide_eq_true (by omega)
          refine hX (i + 1) _ (by omega) (by omega) (.cons (by kernel_rfl) rfl (.cons (by kernel_rfl) rfl (.cons (by kernel_rfl) rfl (.cons (by kernel_rfl) rfl (.nil (ex := []) rfl rfl))))) ?_
          rw [S.from_step hlt, ee, Bool.true_and] at hL
          exact hL
      · have hlt : nc ≤ i := by simpa using h1
        rw [S.from_end hlt] at hL
        exact Has.out (l := []) (.nil (ex := []) rfl rfl) (Nat.zero_le _) hL
omit hns hnf in
theorem fc12 {w mo : Int} (hc : S.cor nc c = true) (hw1 : -1000000 ≤ w) (hw2 : w ≤ 1000000) (hm1 : -1000000000 ≤ mo) (hm2 : mo ≤ 1000000000) :
    FCall (cs hbs) 12 [.ag (plC e m t l nc (S.val c) ns (S.val s) ta tm r nf (S.val f)), .c (.p (.int .i64 w)), .c (.p (.int .i64 mo))] (vB (S.ins nc c w mo)) [] :=
  fcall_k hT (F := F12) rfl (vc12 e m t l nc c ns s ta tm r nf f w mo _) ⟨go12 hT hnc 935 hc hw1 hw2 hm1 hm2 0 _ (Nat.zero_le _) (.cons (by kernel_rfl) rfl (.cons (by kernel_rfl) rfl (.cons (by kernel_rfl) rfl (.cons (by kernel_rfl) rfl (.nil (ex := []) rfl rfl))))), brP (fun h => frz_b h) fun h => frz_b h⟩
end
end Go.Ab.B
set_option linter.all false
set_option maxRecDepth 100000
namespace Go.Ab.B
open Go.Proofs
section
variable {hbs : BsOk Tryd.prog} (hT : TabOk (cs hbs))
variable {e m t l : Int} {nc : Nat} {c : S.Rows} {ns : Nat} {s : S.Rows} {ta tm r : Int} {nf : Nat} {f : S.Rows} (hnc : nc ≤ maxLen) (hns : ns ≤ maxLen) (hnf : nf ≤ maxLen)
include hT

theorem go11a (fu : Nat) (hns : ns ≤ maxLen) : ∀ (i : Nat) (st : St), i ≤ ns → Has st [(.o .h, .c (.pt 0 0)), (.o (.o .h), .c (.p (.int .i64 i)))] (HP e m t l nc c ns s ta tm r nf f) →
    LoopGo (ex (cs hbs) (fu + 60)) 0 m11_l1 st (.br (S.from_ (S.stnAt s) ns i) (.e (.exit 0) ⟨setAll [(.o .h, .c (.pt 0 0))], HP e m t l nc c ns s ta tm r nf f⟩) (.e .ret ⟨setAll [(.i .h, vB false)], HP e m t l nc c ns s ta tm r nf f⟩)) :=
  loop_k (σ := Nat) (fun i => [(.o .h, .c (.pt 0 0)), (.o (.o .h), .c (.p (.int .i64 i)))]) (fun _ => HP e m t l nc c ns s ta tm r nf f) (fun i => i ≤ ns) (fun i => ns - i)
    (fun i => .br (S.from_ (S.stnAt s) ns i) (.e (.exit 0) ⟨setAll [(.o .h, .c (.pt 0 0))], HP e m t l nc c ns s ta tm r nf f⟩) (.e .ret ⟨setAll [(.i .h, vB false)], HP e m t l nc c ns s ta tm r nf f⟩)) (fun _ => Nat.zero_le _) _ (fun i Q => vs11a (hbs := hbs) fu i e m t l nc c ns s ta tm r nf f Q) fun i hi K hL X hX => by
      refine brP (fun h1 => ?_) fun h1 => ?_
      · have hlt : i < ns := by simpa using h1
        refine cdP (idx_ok hlt) ⟨fc32 hT _ _, brP (fun h2 => cdP (i64_nat hlt hns) ?_) fun h2 => ?_⟩
        · refine hX (i + 1) _ (by omega) (by omega) (.cons (by kernel_rfl) rfl (.cons (by kernel_rfl) rfl (.nil (ex := []) rfl rfl))) ?_
          rw [S.from_step hlt, show S.stnAt s i = true from h2, Bool.true_and] at hL
          exact hL
        · rw [S.from_step hlt, show S.stnAt s i = false from h2, Bool.false_and] at hL
          exact Has.out (l := [(.i .h, vB false)]) (.cons (by kernel_rfl) rfl (.nil (ex := []) rfl rfl)) (Nat.zero_le _) hL
      · have hlt : ns ≤ i := by simpa using h1
        rw [S.from_end hlt] at hL
        exact Has.out (l := [(.o .h, .c (.pt 0 0))]) (.cons (by kernel_rfl) rfl (.nil (ex := []) rfl rfl)) (Nat.zero_le _) hL

theorem go11b (fu : Nat) (hnf : nf ≤ maxLen) : ∀ (i : Nat) (st : St), i ≤ nf → Has st [(.o .h, .c (.pt 0 0)), (.i (.o .h), .c (.p (.int .i64 i)))] (HP e m t l nc c ns s ta tm r nf f) →
    LoopGo (ex (cs hbs) (fu + 60)) 0 m11_l2 st (.br (S.from_ (S.stnAt f) nf i) (.e (.exit 2) ⟨setAll [(.o .h, .c (.pt 0 0))], HP e m t l nc c ns s ta tm r nf f⟩) (.e .ret ⟨setAll [(.i .h, vB false)], HP e m t l nc c ns s ta tm r nf f⟩)) :=
  loop_k (σ := Nat) (fun i => [(.o .h, .c (.pt 0 0)), (.i (.o .h), .c (.p (.int .i64 i)))]) (fun _ => HP e m t l nc c ns s ta tm r nf f) (fun i => i ≤ nf) (fun i => nf - i)
    (fun i => .br (S.from_ (S.stnAt f) nf i) (.e (.exit 2) ⟨setAll [(.o .h, .c (.pt 0 0))], HP e m t l nc c ns s ta tm r nf f⟩) (.e .ret ⟨setAll [(.i .h, vB false)], HP e m t l nc c ns s ta tm r nf f⟩)) (fun _ => Nat.zero_le _) _ (fun i Q => vs11b (hbs := hbs) fu i e m t l nc c ns s ta tm r nf f Q) fun i hi K hL X hX => by
      refine brP (fun h1 => ?_) fun h1 => ?_
      · have hlt : i < nf := by simpa using h1
        refine cdP (idx_ok hlt) ⟨fc32 hT _ _, brP (fun h2 => cdP (i64_nat hlt hnf) ?_) fun h2 => ?_⟩
        · refine hX (i + 1) _ (by omega) (by omega) (.cons (by kernel_rfl) rfl (.cons (by kernel_rfl) rfl (.nil (ex := []) rfl rfl))) ?_
          rw [S.from_step hlt, show S.stnAt f i = true from h2, Bool.true_and] at hL
          exact hL
        · rw [S.from_step hlt, show S.stnAt f i = false from h2, Bool.false_and] at hL
          exact Has.out (l := [(.i .h, vB false)]) (.cons (by kernel_rfl) rfl (.nil (ex := []) rfl rfl)) (Nat.zero_le _) hL
      · have hlt : nf ≤ i := by simpa using h1
        rw [S.from_end hlt] at hL
        exact Has.out (l := [(.o .h, .c (.pt 0 0))]) (.cons (by kernel_rfl) rfl (.nil (ex := []) rfl rfl)) (Nat.zero_le _) hL

theorem go11c (fu : Nat) (hnc : nc ≤ maxLen) : ∀ (i : Nat) (st : St), i ≤ nc → Has st [(.o .h, .c (.pt 0 0)), (.o (.i .h), .c (.p (.int .i64 i)))] (HP e m t l nc c ns s ta tm r nf f) →
    LoopGo (ex (cs hbs) (fu + 60)) 0 m11_l3 st (.br (S.from_ (S.corAt c) nc i) (.e (.exit 4) ⟨setAll [(.o .h, .c (.pt 0 0))], HP e m t l nc c ns s ta tm r nf f⟩) (.e .ret ⟨setAll [(.i .h, vB false)], HP e m t l nc c ns s ta tm r nf f⟩)) :=
  loop_k (σ := Nat) (fun i => [(.o .h, .c (.pt 0 0)), (.o (.i .h), .c (.p (.int .i64 i)))]) (fun _ => HP e m t l nc c ns s ta tm r nf f) (fun i => i ≤ nc) (fun i => nc - i)
    (fun i => .br (S.from_ (S.corAt c) nc i) (.e (.exit 4) ⟨setAll [(.o .h, .c (.pt 0 0))], HP e m t l nc c ns s ta tm r nf f⟩) (.e .ret ⟨setAll [(.i .h, vB false)], HP e m t l nc c ns s ta tm r nf f⟩)) (fun _ => Nat.zero_le _) _ (fun i Q => vs11c (hbs := hbs) fu i e m t l nc c ns s ta tm r nf f Q) fun i hi K hL X hX => by
      refine brP (fun h1 => ?_) fun h1 => ?_
      · have hlt : i < nc := by simpa using h1
        refine cdP (idx_ok hlt) ⟨fc31 hT _ _ _, brP (fun h2 => cdP (idx_ok hlt) ⟨fc31 hT _ _ _, brP (fun h3 => cdP (i64_nat hlt hnc) ?_) fun h3 => ?_⟩) fun h2 => ?_⟩
        · refine hX (i + 1) _ (by omega) (by omega) (.cons (by kernel_rfl) rfl (.cons (by kernel_rfl) rfl (.nil (ex := []) rfl rfl))) ?_
          rw [S.from_step hlt, show S.corAt c i = true by simp [S.corAt, h2, h3], Bool.true_and] at hL
          exact hL
        · rw [S.from_step hlt, show S.corAt c i = false by simp [S.corAt, h2, h3], Bool.false_and] at hL
          exact Has.out (l := [(.i .h, vB false)]) (.cons (by kernel_rfl) rfl (.nil (ex := []) rfl rfl)) (Nat.zero_le _) hL
        · rw [S.from_step hlt, show S.corAt c i = false by simp [S.corAt, h2], Bool.false_and] at hL
          exact Has.out (l := [(.i .h, vB false)]) (.cons (by kernel_rfl) rfl (.nil (ex := []) rfl rfl)) (Nat.zero_le _) hL
      · have hlt : nc ≤ i := by simpa using h1
        rw [S.from_end hlt] at hL
        exact Has.out (l := [(.o .h, .c (.pt 0 0))]) (.cons (by kernel_rfl) rfl (.nil (ex := []) rfl rfl)) (Nat.zero_le _) hL

abbrev lv11e (ed i : Nat) : List (Ps × AV) := [(.o .h, .c (.pt 0 0)), (.i (.i .h), .c (.p (.int .i64 ed))), (.o (.o (.o .h)), .c (.p (.int .i64 i)))]
theorem go11e (fu ed : Nat) (hnc : nc ≤ maxLen) (hc : S.cor nc c = true) (he : ed < nc) : ∀ (i : Nat) (st : St), i ≤ nc → Has st (lv11e ed i) (HP e m t l nc c ns s ta tm r nf f) →
    LoopGo (ex (cs hbs) (fu + 60)) 0 m11_l5 st (.br (S.from_ (S.cvxAt nc c ed) nc i) (.e (.exit 8) ⟨setAll [(.o .h, .c (.pt 0 0)), (.i (.i .h), .c (.p (.int .i64 ed)))], HP e m t l nc c ns s ta tm r nf f⟩) (.e .ret ⟨setAll [(.i .h, vB false)], HP e m t l nc c ns s ta tm r nf f⟩)) :=
  loop_k (σ := Nat) (lv11e ed) (fun _ => HP e m t l nc c ns s ta tm r nf f) (fun i => i ≤ nc) (fun i => nc - i)
    (fun i => .br (S.from_ (S.cvxAt nc c ed) nc i) (.e (.exit 8) ⟨setAll [(.o .h, .c (.pt 0 0)), (.i (.i .h), .c (.p (.int .i64 ed)))], HP e m t l nc c ns s ta tm r nf f⟩) (.e .ret ⟨setAll [(.i .h, vB false)], HP e m t l nc c ns s ta tm r nf f⟩)) (fun _ => Nat.zero_le _) _ (fun i Q => vs11e (hbs := hbs) fu i ed e m t l nc c ns s ta tm r nf f Q) fun i hi K hL X hX => by
      have go : ∀ st, i < nc → S.cvxAt nc c ed i = true → Has st (lv11e ed (i + 1)) (HP e m t l nc c ns s ta tm r nf f) → X st := fun st hlt ee hh => by
        refine hX (i + 1) st (by omega) (by omega) hh ?_
        rw [S.from_step hlt, ee, Bool.true_and] at hL
        exact hL
      refine brP (fun h1 => ?_) fun h1 => ?_
      · have hlt : i < nc := by simpa using h1
        have e1 : Int.tmod ((ed : Int) + 1) (nc : Int) = (S.nxt nc ed : Int) := S.nxt_tmod (by omega)
        have hk1 := S.from_iff.1 hc i (Nat.zero_le _) hlt
        simp only [S.corAt, Bool.and_eq_true, S.inB_iff] at hk1
        refine brP (fun h2 => cdP (i64_nat he hnc) (cdP (ne_nat (by omega)) (brP (fun h3 => cdP (idx_ok hlt) (cdP (idx_ok hlt) ⟨fc33 hnc hT hc he (by omega) (by omega) (by omega) (by omega), brP (fun h4 => ?_) fun h4 => cdP (i64_nat hlt hnc) ?_⟩)) fun h3 => cdP (i64_nat hlt hnc) ?_))) fun h2 => cdP (i64_nat hlt hnc) ?_
        · have n1 : ¬ i = ed := by simp at h2; omega
          have n2 : ¬ i = S.nxt nc ed := by rw [e1] at h3; simp at h3; omega
          have n3 : ¬ 0 < S.sd nc c ed (c i 0) (c i 1) := by simp only [decide_eq_true_eq] at h4; omega
          have ee : S.cvxAt nc c ed i = false := by simp [S.cvxAt, n1, n2, n3]
          rw [S.from_step hlt, ee, Bool.false_and] at hL
          exact Has.out (l := [(.i .h, vB false)]) (.cons (by kernel_rfl) rfl (.nil (ex := []) rfl rfl)) (Nat.zero_le _) hL
        · refine go _ hlt ?_ (.cons (by kernel_rfl) rfl (.cons (by kernel_rfl) rfl (.cons (by kernel_rfl) rfl (.nil (ex := []) rfl rfl))))
          have n3 : 0 < S.sd nc c ed (c i 0) (c i 1) := by simp only [decide_eq_false_iff_not] at h4; omega
          simp [S.cvxAt, n3]
        · refine go _ hlt ?_ (.cons (by kernel_rfl) rfl (.cons (by kernel_rfl) rfl (.cons (by kernel_rfl) rfl (.nil (ex := []) rfl rfl))))
          have : i = S.nxt nc ed := by rw [e1] at h3; simp at h3; omega
          simp [S.cvxAt, ← this]
        · refine go _ hlt ?_ (.cons (by kernel_rfl) rfl (.cons (by kernel_rfl) rfl (.cons (by kernel_rfl) rfl (.nil (ex := []) rfl rfl))))
          have : i = ed := by simp at h2; omega
          simp [S.cvxAt, this]
      · have hlt : nc ≤ i := by simpa using h1
        rw [S.from_end hlt] at hL
        exact Has.out (l := [(.o .h, .c (.pt 0 0)), (.i (.i .h), .c (.p (.int .i64 ed)))]) (.cons (by kernel_rfl) rfl (.cons (by kernel_rfl) rfl (.nil (ex := []) rfl rfl))) (Nat.zero_le _) hL

theorem go11d (fu : Nat) (hnc : nc ≤ maxLen) (hc : S.cor nc c = true) : ∀ (i : Nat) (st : St), i ≤ nc → Has st [(.o .h, .c (.pt 0 0)), (.i (.i .h), .c (.p (.int .i64 i)))] (HP e m t l nc c ns s ta tm r nf f) →
    LoopGo (ex (cs hbs) (fu + 6 + 60)) 0 m11_l4 st (.br (S.from_ (S.cvxRow nc c) nc i) (.e (.exit 6) ⟨setAll [(.o .h, .c (.pt 0 0))], HP e m t l nc c ns s ta tm r nf f⟩) (.e .ret ⟨setAll [(.i .h, vB false)], HP e m t l nc c ns s ta tm r nf f⟩)) :=
  loop_k (σ := Nat) (fun i => [(.o .h, .c (.pt 0 0)), (.i (.i .h), .c (.p (.int .i64 i)))]) (fun _ => HP e m t l nc c ns s ta tm r nf f) (fun i => i ≤ nc) (fun i => nc - i)
    (fun i => .br (S.from_ (S.cvxRow nc c) nc i) (.e (.exit 6) ⟨setAll [(.o .h, .c (.pt 0 0))], HP e m t l nc c ns s ta tm r nf f⟩) (.e .ret ⟨setAll [(.i .h, vB false)], HP e m t l nc c ns s ta tm r nf f⟩)) (fun _ => Nat.zero_le _) _ (fun i Q => vs11d (hbs := hbs) (fu + 6) i e m t l nc c ns s ta tm r nf f Q) fun i hi K hL X hX => by
      refine brP (fun h1 => ?_) fun h1 => ?_
      · have hlt : i < nc := by simpa using h1
        refine ⟨go11e hT fu i hnc hc hlt 0 _ (Nat.zero_le _) (.cons (by kernel_rfl) rfl (.cons (by kernel_rfl) rfl (.cons (by kernel_rfl) rfl (.nil (ex := []) rfl rfl)))), brP (fun h2 => cdP (i64_nat hlt hnc) ?_) fun h2 => ?_⟩
        · refine hX (i + 1) _ (by omega) (by omega) (.cons (by kernel_rfl) rfl (.cons (by kernel_rfl) rfl (.nil (ex := []) rfl rfl))) ?_
          rw [S.from_step hlt, show S.cvxRow nc c i = true from h2, Bool.true_and] at hL
          exact hL
        · rw [S.from_step hlt, show S.cvxRow nc c i = false from h2, Bool.false_and] at hL
          exact Has.out (l := [(.i .h, vB false)]) (.cons (by kernel_rfl) rfl (.nil (ex := []) rfl rfl)) (Nat.zero_le _) hL
      · have hlt : nc ≤ i := by simpa using h1
        rw [S.from_end hlt] at hL
        exact Has.out (l := [(.o .h, .c (.pt 0 0))]) (.cons (by kernel_rfl) rfl (.nil (ex := []) rfl rfl)) (Nat.zero_le _) hL

include hnc hns hnf
theorem fc11 : FCall (cs hbs) 11 [.ag (plC e m t l nc (S.val c) ns (S.val s) ta tm r nf (S.val f))] (vB (S.plane e m t l nc c ns s ta tm r nf f)) [] := by
  refine fcall_k hT (F := F11) rfl (vc11 e m t l nc c ns s ta tm r nf f _) ?_
  refine ⟨fc31 hT _ _ _, brP (fun h1 => ⟨fc31 hT _ _ _, brP (fun h2 => ⟨fc31 hT _ _ _, brP (fun h3 => ⟨fc31 hT _ _ _, brP (fun h4 => ⟨fc31 hT _ _ _, brP (fun h5 => ⟨fc31 hT _ _ _, brP (fun h6 => brP (fun h7 => ?_) (fun h7 => ⟨fc32 hT _ _, brP (fun h8 => brP (fun h9 => ?_) fun h9 =>
    ⟨go11a hT 934 hns 0 _ (Nat.zero_le _) (.cons (by kernel_rfl) rfl (.cons (by kernel_rfl) rfl (.nil (ex := []) rfl rfl))), brP (fun h10 => ⟨go11b hT 933 hnf 0 _ (Nat.zero_le _) (.cons (by kernel_rfl) rfl (.cons (by kernel_rfl) rfl (.nil (ex := []) rfl rfl))), brP (fun h11 =>
      ⟨go11c hT 932 hnc 0 _ (Nat.zero_le _) (.cons (by kernel_rfl) rfl (.cons (by kernel_rfl) rfl (.nil (ex := []) rfl rfl))), brP (fun h12 => ⟨go11d hT 925 hnc h12 0 _ (Nat.zero_le _) (.cons (by kernel_rfl) rfl (.cons (by kernel_rfl) rfl (.nil (ex := []) rfl rfl))), brP (fun h13 => ?_) fun h13 => ?_⟩) fun h12 => ?_⟩) fun h11 => ?_⟩) fun h10 => ?_⟩) fun h8 => ?_⟩)) fun h6 => ?_⟩) fun h5 => ?_⟩) fun h4 => ?_⟩) fun h3 => ?_⟩) fun h2 => ?_⟩) fun h1 => ?_⟩
  all_goals (refine frz_b ?_)
  all_goals (simp only [S.plane, S.corners, S.cor, S.cvx, S.stn])
  all_goals (try simp only [decide_eq_true_eq, decide_eq_false_iff_not] at h7)
  all_goals (try have h7 : decide ((ns : Int) ≤ 8) = false := decide_eq_false (by omega))
  all_goals (try have h7 : decide ((ns : Int) ≤ 8) = true := decide_eq_true (by omega))
  all_goals (try simp only [decide_eq_true_eq, decide_eq_false_iff_not] at h9)
  all_goals (try have h9 : decide ((nf : Int) ≤ 2) = false := decide_eq_false (by omega))
  all_goals (try have h9 : decide ((nf : Int) ≤ 2) = true := decide_eq_true (by omega))
  all_goals (simp [*])
end
end Go.Ab.B
