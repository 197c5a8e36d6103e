/- A part of the proof. -/
import Derived.Test.YtmchhfpjdgfacaaDoorLc
set_option linter.all false
set_option maxRecDepth 100000
namespace Go.Ab.S
def fewAt (g : Nat → Nat → PV) (i : Nat) : Bool := decide ((lN (g i 0) : Int) ≤ 20)
def fewB (n : Nat) (g : Nat → Nat → PV) : Bool := from_ (fewAt g) n 0 && decide ((n : Int) ≤ 12)
def tE (e mo t l : Int) (nc : Nat) (c : Rows) (ns : Nat) (s : Rows) (ta tm r : Int) (nf : Nat) (f : Rows) (a b : Int) (n : Nat) (g : Nat → Nat → PV) : Int := tErr (plane e mo t l nc c ns s ta tm r nf f) ns a b n g
def tA (e mo t l : Int) (nc : Nat) (c : Rows) (ns : Nat) (s : Rows) (ta tm r : Int) (nf : Nat) (f : Rows) (a b : Int) (n : Nat) (g : Nat → Nat → PV) : Int := unX (tE e mo t l nc c ns s ta tm r nf f a b n g != 0) (unA (from_ (sureH e mo t l nc c ns s ta tm r nf f (ptV a b nf g)) (2 * n) 0) (fst (sureH e mo t l nc c ns s ta tm r nf f (ptV a b nf g)) (2 * n) 0)) 0
def tR (e mo t l : Int) (nc : Nat) (c : Rows) (ns : Nat) (s : Rows) (ta tm r : Int) (nf : Nat) (f : Rows) (a b : Int) (n : Nat) (g : Nat → Nat → PV) : Int := unX (tE e mo t l nc c ns s ta tm r nf f a b n g != 0) (unX (from_ (sureH e mo t l nc c ns s ta tm r nf f (ptV a b nf g)) (2 * n) 0) (broR (ruH e mo t l nc c ns s ta tm r nf f (ptV a b nf g) (fst (sureH e mo t l nc c ns s ta tm r nf f (ptV a b nf g)) (2 * n) 0))) 1) 0
def tI (e mo t l : Int) (nc : Nat) (c : Rows) (ns : Nat) (s : Rows) (ta tm r : Int) (nf : Nat) (f : Rows) (a b : Int) (n : Nat) (g : Nat → Nat → PV) : Int := unX (tE e mo t l nc c ns s ta tm r nf f a b n g != 0) (unX (from_ (sureH e mo t l nc c ns s ta tm r nf f (ptV a b nf g)) (2 * n) 0) (broI (ruH e mo t l nc c ns s ta tm r nf f (ptV a b nf g) (fst (sureH e mo t l nc c ns s ta tm r nf f (ptV a b nf g)) (2 * n) 0))) 0) 0
def legsB (st : Int) (n : Nat) (g : Nat → Nat → PV) : Bool := from_ (legAt st g) n 0 && decide ((n : Int) ≥ 1)
def nrR (it : Rows) (x y : Int) : Rows := fun j w => match w with
  | 0 => it j 0
  | 1 => part (it j 1) (it j 2) x
  | _ => part (it j 1) (it j 2) y
def nrQ (g : Nat → Nat → PV) (x y : Int) : Rows := fun i w => match w with
  | 0 => lI (g i 2)
  | 1 => part (lI (g i 3)) (lI (g i 4)) x
  | 2 => part (lI (g i 3)) (lI (g i 4)) y
  | 3 => part (lI (g i 5)) (lI (g i 6)) x
  | _ => part (lI (g i 5)) (lI (g i 6)) y
def nrL (g : Nat → Nat → PV) (x y : Int) : Nat → Nat → PV := legV (fun i => lN (g i 0)) (fun i => nrR (lR (g i 0)) x y) (nrQ g x y) (fun i => lB (g i 1))
end Go.Ab.S
namespace Go.Ab.B
open Go.Proofs
def sp_law02_few : List AV → Option (AV × Heap)
  | [.c (.p (.isl 7 n g))] => some (vB (S.fewB n g), [])
  | _ => none
def sp_ref02_Legs : List AV → Option (AV × Heap)
  | [.c (.p (.isl 7 n g)), .c (.p (.int .i64 st))] => some (vB (S.legsB st n g), [])
  | _ => none
def sp_law02_refused : List AV → Option (AV × Heap)
  | [.ag [.p (.int .i64 e), .p (.int .i64 mo), .p (.int .i64 t), .p (.int .i64 l), .p (.isl 2 nc c), .p (.isl 2 ns s), .p (.int .i64 ta), .p (.int .i64 tm), .p (.int .i64 r), .p (.isl 2 nf f)], .ag [.p (.int .i64 a), .p (.int .i64 b)], .c (.p (.isl 7 n g)), .c (.p (.bool true))] =>
    some (vI .i64 (S.tE e mo t l nc (S.num c) ns (S.num s) ta tm r nf (S.num f) a b n g), [])
  | _ => none
def sp_law02_part : List AV → Option (AV × Heap)
  | [.ag [.p (.int .i64 lo), .p (.int .i64 hi)], .c (.p (.int .i64 pc))] => some (vI .i64 (S.part lo hi pc), [])
  | _ => none
def sp_law02_narrow : List AV → Option (AV × Heap)
  | [.ag [.p (.int .i64 lo), .p (.int .i64 hi)], .c (.p (.int .i64 x)), .c (.p (.int .i64 y))] => some (.ag [.p (.int .i64 (S.part lo hi x)), .p (.int .i64 (S.part lo hi y))], [])
  | _ => none
def sp_load_Trip : List AV → Option (AV × Heap)
  | [.ag [.p (.int .i64 e), .p (.int .i64 mo), .p (.int .i64 t), .p (.int .i64 l), .p (.isl 2 nc c), .p (.isl 2 ns s), .p (.int .i64 ta), .p (.int .i64 tm), .p (.int .i64 r), .p (.isl 2 nf f)], .ag [.p (.int .i64 a), .p (.int .i64 b)], .c (.p (.isl 7 n g))] =>
    some (.tp [vI .i64 (S.tA e mo t l nc (S.num c) ns (S.num s) ta tm r nf (S.num f) a b n g), vI .i64 (S.tR e mo t l nc (S.num c) ns (S.num s) ta tm r nf (S.num f) a b n g), vI .i64 (S.tI e mo t l nc (S.num c) ns (S.num s) ta tm r nf (S.num f) a b n g), vI .i64 (S.tE e mo t l nc (S.num c) ns (S.num s) ta tm r nf (S.num f) a b n g)], [])
  | _ => none
def Sp12 (f : Nat) (l : List AV) : Option (AV × Heap) := bif Nat.beq f f_law02_few then sp_law02_few l else bif Nat.beq f f_ref02_Legs then sp_ref02_Legs l else bif Nat.beq f f_law02_refused then sp_law02_refused l else bif Nat.beq f f_law02_part then sp_law02_part l else bif Nat.beq f f_law02_narrow then sp_law02_narrow l else bif Nat.beq f f_load_Trip then sp_load_Trip l else Sp11 f l
def lp_law02_few (s : St) : Option LTree :=
  match Tr.get .h s.t with
  | .c (.p (.isl 7 n g)) => some (.br (S.from_ (S.fewAt g) n 0) (.e (.exit 0) ⟨setAll [(.h, .c (.p (.isl 7 n g)))], []⟩) (.e .ret ⟨setAll [((.i .h), vB false)], []⟩))
  | _ => none
def lp_ref02_Legs (s : St) : Option LTree :=
  match Tr.get .h s.t, Tr.get (.o .h) s.t with
  | .c (.p (.isl 7 n g)), .c (.p (.int .i64 st)) => some (.br (S.from_ (S.legAt st g) n 0) (.e (.exit 0) ⟨setAll [(.h, .c (.p (.isl 7 n g)))], []⟩) (.e .ret ⟨setAll [((.i (.o .h)), vB false)], []⟩))
  | _, _ => none
def lp_law02_LoadMore (j : Nat) (s : St) : Option LTree :=
  match Tr.get (.i .h) s.t, Tr.get (.o (.o .h)) s.t, Tr.get (.i (.o .h)) s.t, Tr.get (.o (.i (.i (.o .h)))) s.t with
  | .c (.p (.isl 7 n g)), .c (.p (.int .i64 x)), .c (.p (.int .i64 y)), .c (.p (.int .i64 i)) => match j with
    | 1 => match s.h with
      | _ :: b1 :: b2 :: _ => some (.e (.exit 0) ⟨setAll [(.i (.o (.i (.o .h))), .c (.sl 3 0 n)), (.i (.o (.o .h)), .c (.pt 1 0)), (.i (.o .h), vI .i64 y), (.o (.o (.i (.o .h))), .c (.pt 2 0)), (.o (.o .h), vI .i64 x)], [none, b1, b2, some (.arr 7 t_api_LoadLeg n (S.nrL g x y) [])]⟩)
      | _ => none
    | _ => match s.h with
      | b0 :: b1 :: b2 :: b3 :: b4 :: _ => match b4, b3 with
        | some (.box tl [_, c1, c2, c3, c4, c5, c6]), some (.arr _ _ m _ _) => some (.e (.exit 2) ⟨setAll [(.i (.i (.i (.o .h))), .c (.pt 4 0)), (.i (.o (.i (.o .h))), .c (.sl 3 0 m)), (.i (.o (.o .h)), .c (.pt 1 0)), (.i (.o .h), vI .i64 y), (.i .h, .c (.p (.isl 7 n g))), (.o (.i (.i (.o .h))), vI .i64 i), (.o (.o (.i (.o .h))), .c (.pt 2 0)), (.o (.o .h), vI .i64 x)],
          [b0, b1, b2, b3, some (.box tl [.sl 5 0 (S.lN (g i.toNat 0)), c1, c2, c3, c4, c5, c6]), some (.arr 3 t_api_LoadItem (S.lN (g i.toNat 0)) (S.val (S.nrR (S.lR (g i.toNat 0)) x y)) [])]⟩)
        | _, _ => none
      | _ => none
  | _, _, _, _ => none
def Lp12 (n0 : Nat) (a : MC) (s : St) : Option LTree := bif Nat.beq (keyM a 0) key_law02_few_l1 then lp_law02_few s else bif Nat.beq (keyM a 0) key_ref02_Legs_l1 then lp_ref02_Legs s else bif Nat.beq (keyM a 0) key_law02_LoadMore_l1 then lp_law02_LoadMore 1 s else bif Nat.beq (keyM a 0) key_law02_LoadMore_l2 then lp_law02_LoadMore 2 s else Lp11 n0 a s
def cs12 {P : Program} (hbs : BsOk P) : Cfg := { cs11 hbs with Sp := Sp12, Lp := Lp12 }
section
variable {hbs : BsOk Tryd.prog}
theorem vs_law02_few (fu i : Nat) (K0 : Nat) (k : Nat → Nat) (li : Nat → S.Rows) (q : S.Rows) (pu : Nat → Bool) (Q : AX → St → Prop) :
 ((fun (A0 : AV) => ((fun (A1 : Tr) => ((fun (A2 : Tr) => ((fun (A3 : Tr) => ((fun (A4 : Tr) => ((BrP (decide ((i : Int) < (K0 : Int)))
 (CdP (.rng (i : Int) K0)
 (BrP (decide (((k i : Nat) : Int) > (20 : Int)))
 (Q .ret ⟨(.nd (L4 (.nd A3 (vN i) (L1 (vN i))) (L5 A0 A2)) A0 (.nd (.nd (L3 (L1 (vB true))) (vN i) A4) (vB false) A1)), []⟩)
 (CdP (.i64 ((i : Int) + (1 : Int)))
 (Q .normal ⟨(.nd (L4 (.nd A3 (vJ ((i : Int) + (1 : Int))) (L1 (vN i))) (.nd (L1 (vJ ((i : Int) + (1 : Int)))) A0 A2)) A0 (L4 (.nd (L6 (L1 (vB false)) (vN i)) (vN i) A4) A1)), []⟩))))
 (Q (.exit 0) ⟨(.nd (L4 (L6 (L1 (vB false)) (vN i)) (L1 A0)) A0 (L4 (L1 (vN i)) (L1 (vJ (K0 : Int))))), []⟩)))) (L1 (.c (.p (.ipt 7 (S.legV k li q pu i))))))) (L6 (L1 (vJ ((k i : Nat) : Int))) (vB true)))) (L1 (.c (.p (.ipt 7 (fun x8 => (S.legV k li q pu i (0 + x8))))))))) (.nd (L1 A0) (vJ (K0 : Int)) (L1 (.c (.p (.isl 3 (k i) (S.val (li i))))))))) (.c (.p (.isl 7 K0 (S.legV k li q pu))))) = (ex (cs12 hbs) (fu + 60) 0 m_law02_few_l1 ⟨setAll [(.h, .c (.p (.isl 7 K0 (S.legV k li q pu)))), (.o (.o .h), .c (cJ i))], []⟩ (fun e s => .pr (Q e s))).hold2 := by kernel_rfl
theorem vc_law02_few (K0 : Nat) (k : Nat → Nat) (li : Nat → S.Rows) (q : S.Rows) (pu : Nat → Bool) (Q : AV → Heap → Prop) :
 (((LoopGo (ex (cs12 hbs) 995) 0 m_law02_few_l1 ⟨(.nd (L3 (L1 (vJ 0))) (.c (.p (.isl 7 K0 (S.legV k li q pu)))) (L1 (vB false))), []⟩ (.br (S.from_ (S.fewAt (S.legV k li q pu)) K0 0) (.e (.exit 0) ⟨(L1 (.c (.p (.isl 7 K0 (S.legV k li q pu))))), []⟩) (.e .ret ⟨(L2 (L1 (vB false))), []⟩))) ∧
 (BrP (S.from_ (S.fewAt (S.legV k li q pu)) K0 0)
 (BrP (decide ((K0 : Int) ≤ (12 : Int)))
 (Q (vB true) [])
 (Q (vB false) []))
 (Q (vB false) [])))) = (ex (cs12 hbs) 1000 0 m_law02_few ⟨ofL 0 [.c (.p (.isl 7 K0 (S.legV k li q pu)))] .lf, []⟩ (endK F_law02_few.rs (fun r H => .pr (Q r H)) fun _ _ => .no)).hold2 := by kernel_rfl
theorem vs_ref02_Legs (fu i : Nat) (st : Int) (K0 : Nat) (k : Nat → Nat) (li : Nat → S.Rows) (q : S.Rows) (pu : Nat → Bool) (Q : AX → St → Prop) :
 ((fun (A0 : AV) => ((fun (A1 : AV) => ((fun (A2 : AV) => ((fun (A3 : Tr) => ((fun (A4 : AV) => ((fun (A5 : AV) => ((fun (A6 : Tr) => ((fun (A7 : Tr) => ((fun (A8 : Tr) => ((fun (A9 : Tr) => ((fun (A10 : Tr) => ((fun (A11 : Tr) => ((fun (A12 : Tr) => ((fun (A13 : Tr) => ((fun (A14 : AV) => ((fun (A15 : Tr) => ((fun (A16 : Tr) => ((fun (A17 : Tr) => ((fun (A18 : Tr) => ((fun (A19 : Tr) => ((fun (A20 : Tr) => ((BrP (decide ((i : Int) < (K0 : Int)))
 (CdP (.rng (i : Int) K0)
 ((FCall (cs12 hbs) f_ref02_items [A4, (vJ st)] (.c (.p (.bool (S.itemsOk (k i) (li i) st)))) []) ∧
 (BrP (S.itemsOk (k i) (li i) st)
 (CdP (.rng (i : Int) K0)
 ((FCall (cs12 hbs) f_ref02_in [(vJ (q i 0)), (vJ 0), (vJ 20000)] (.c (.p (.bool (S.inB (0 : Int) (q i 0) (20000 : Int))))) []) ∧
 (BrP (S.inB (0 : Int) (q i 0) (20000 : Int))
 (CdP (.rng (i : Int) K0)
 ((FCall (cs12 hbs) f_ref02_Span [(.ag [(cJ (q i 1)), (cJ (q i 2))]), (vJ 0), (vJ 20000)] (.c (.p (.bool (S.span (q i 1) (q i 2) (0 : Int) (20000 : Int))))) []) ∧
 (BrP (S.span (q i 1) (q i 2) (0 : Int) (20000 : Int))
 (CdP (.rng (i : Int) K0)
 ((FCall (cs12 hbs) f_ref02_Span [A14, (vJ 0), (vJ 20000)] (.c (.p (.bool (S.span (q i 3) (q i 4) (0 : Int) (20000 : Int))))) []) ∧
 (BrP (S.span (q i 3) (q i 4) (0 : Int) (20000 : Int))
 (CdP (.i64 ((i : Int) + (1 : Int)))
 (Q .normal ⟨(.nd (.nd (L4 A18 (.nd A9 (vJ ((i : Int) + (1 : Int))) (L6 (L1 A14) (vB false)))) (vJ st) (.nd A19 (vJ ((i : Int) + (1 : Int))) (.nd A20 (vN i) A8))) A0 (L4 (L4 A16 (.nd A8 A0 A9)) (.nd (.nd A10 (vN i) A12) (vN i) (.nd A17 A1 A20)))), []⟩))
 (Q .ret ⟨(.nd (.nd (L4 A18 (L4 A9 (L6 (L1 A14) (vB false)))) (vJ st) (.nd A19 (vN i) (.nd A20 (vN i) A9))) A0 (L4 (.nd A16 (vB false) (.nd A8 A0 A8)) (.nd (L4 A10 A12) (vN i) (.nd A17 A1 A15)))), []⟩))))
 (Q .ret ⟨(.nd (.nd (L4 (.nd (L6 (L1 (vN i)) A2) A0 (L6 (L1 (.tp [])) A1)) (L4 A8 A6)) (vJ st) (.nd (.nd A7 (vB true) (L6 (L1 (.tp [])) (vJ (q i 0)))) (vN i) (.nd A15 (vN i) A6))) A0 (L4 (.nd (.nd (L6 (L1 A1) A4) (vJ (K0 : Int)) (L6 (L1 (.tp [])) A5)) (vB false) (.nd A9 A0 A6)) (.nd (L4 A10 A3) (vN i) (.nd (L6 (L1 (vB true)) (vN i)) A1 A15)))), []⟩))))
 (Q .ret ⟨(.nd (.nd (L4 (.nd (L6 (L1 (.tp [])) A2) A0 (L6 (L1 (.tp [])) A1)) (L4 A6 A3)) (vJ st) (.nd (.nd (L6 (L1 (.tp [])) (vJ st)) (vB true) (L6 (L1 (.tp [])) (vJ (q i 0)))) (vN i) (.nd A15 (vN i) A3))) A0 (L4 (.nd (.nd (L6 (L1 (.tp [])) A4) (vJ (K0 : Int)) (L6 (L1 (.tp [])) A5)) (vB false) (.nd A6 A0 A3)) (.nd (L4 A3 A6) (vN i) (.nd (L6 (L1 (vB true)) (vN i)) A1 A13)))), []⟩))))
 (Q .ret ⟨(.nd (.nd (L4 (.nd (L6 (L1 (.tp [])) A2) A0 A11) (L4 A3 A11)) (vJ st) (.nd (.nd (L6 (L1 (.tp [])) (vJ st)) (vB true) A11) (vN i) (.nd A13 (vN i) A3))) A0 (L4 (.nd (.nd (L6 (L1 (.tp [])) A4) (vJ (K0 : Int)) A11) (vB false) (.nd A3 A0 A3)) (.nd (L4 A6 A11) (vN i) (.nd A13 A1 A13)))), []⟩))))
 (Q (.exit 0) ⟨(.nd (.nd (L3 (L1 A0)) (vJ st) A17) A0 (L4 (L3 (L1 (vJ (K0 : Int)))) (L1 (vN i)))), []⟩)))) (L6 (L1 (vB false)) A0))) (.nd A7 (vB true) (L6 (L1 A1) (vJ (q i 0)))))) (.nd (L6 (L1 (vN i)) A2) A0 (L6 (L1 A0) A1)))) (L6 (L1 (vB false)) (vN i)))) (.nd (L6 (L1 A1) A4) (vJ (K0 : Int)) (L6 (L1 (vN i)) A5)))) (L6 (L1 (vB true)) A0))) (.ag [(cJ (q i 3)), (cJ (q i 4))]))) (L6 (L1 (vB true)) (.tp [])))) (L6 (L1 (.c (.p (.ipt 2 (fun x9 => (S.legV k li q pu i (5 + x9))))))) (vB true)))) (L6 (L1 (.tp [])) (.tp [])))) (L6 (L1 (.ag [(cJ (q i 1)), (cJ (q i 2))])) (vB true)))) (L6 (L1 (vB true)) (vB false)))) (L6 (L1 (vB false)) (vB false)))) (L6 (L1 (.c (.p (.ipt 4 (fun x9 => (S.legV k li q pu i (3 + x9))))))) (vJ st)))) (L6 (L1 (.tp [])) (vB false)))) (.c (.p (.ipt 5 (fun x9 => (S.legV k li q pu i (2 + x9)))))))) (.c (.p (.isl 3 (k i) (S.val (li i))))))) (L6 (L1 (.tp [])) (vB true)))) (.c (.p (.ipt 7 (fun x9 => (S.legV k li q pu i (0 + x9)))))))) (.c (.p (.ipt 7 (S.legV k li q pu i)))))) (.c (.p (.isl 7 K0 (S.legV k li q pu))))) = (ex (cs12 hbs) (fu + 60) 0 m_ref02_Legs_l1 ⟨setAll [(.h, .c (.p (.isl 7 K0 (S.legV k li q pu)))), (.o .h, .c (cJ st)), (.o (.i .h), .c (cJ i))], []⟩ (fun e s => .pr (Q e s))).hold2 := by kernel_rfl
theorem vc_ref02_Legs (st : Int) (K0 : Nat) (k : Nat → Nat) (li : Nat → S.Rows) (q : S.Rows) (pu : Nat → Bool) (Q : AV → Heap → Prop) :
 (((LoopGo (ex (cs12 hbs) 995) 0 m_ref02_Legs_l1 ⟨(.nd (L5 (vJ st) (L1 (vJ 0))) (.c (.p (.isl 7 K0 (S.legV k li q pu)))) (L3 (L1 (vB false)))), []⟩ (.br (S.from_ (S.legAt st (S.legV k li q pu)) K0 0) (.e (.exit 0) ⟨(L1 (.c (.p (.isl 7 K0 (S.legV k li q pu))))), []⟩) (.e .ret ⟨(L2 (L3 (L1 (vB false)))), []⟩))) ∧
 (BrP (S.from_ (S.legAt st (S.legV k li q pu)) K0 0)
 (BrP (decide ((K0 : Int) ≥ (1 : Int)))
 (Q (vB true) [])
 (Q (vB false) []))
 (Q (vB false) [])))) = (ex (cs12 hbs) 1000 0 m_ref02_Legs ⟨ofL 0 [.c (.p (.isl 7 K0 (S.legV k li q pu))), .c (cJ st)] .lf, []⟩ (endK F_ref02_Legs.rs (fun r H => .pr (Q r H)) fun _ _ => .no)).hold2 := by kernel_rfl
theorem vc_law02_refused (e mo t l : Int) (nc : Nat) (c : S.Rows) (ns : Nat) (s : S.Rows) (ta tm r : Int) (nf : Nat) (f : S.Rows) (a b : Int) (K0 : Nat) (k : Nat → Nat) (li : Nat → S.Rows) (q : S.Rows) (pu : Nat → Bool) (Q : AV → Heap → Prop) :
 ((fun (A0 : Heap) => ((BrP (decide ((K0 : Int) > (6 : Int)))
 (Q (vJ 3) A0)
 ((FCall (cs12 hbs) f_ref02_Plane [(.ag (kP e mo t l nc c ns s ta tm r nf f))] (.c (.p (.bool (S.plane e mo t l nc c ns s ta tm r nf f)))) []) ∧
 (BrP (S.plane e mo t l nc c ns s ta tm r nf f)
 ((FCall (cs12 hbs) f_ref02_Span [(.ag [(cJ a), (cJ b)]), (vJ 0), (vJ 20000)] (.c (.p (.bool (S.span a b (0 : Int) (20000 : Int))))) []) ∧
 (BrP (S.span a b (0 : Int) (20000 : Int))
 ((FCall (cs12 hbs) f_ref02_Legs [(.c (.p (.isl 7 K0 (S.legV k li q pu)))), (vN ns)] (.c (.p (.bool (S.legsB (ns : Int) K0 (S.legV k li q pu))))) []) ∧
 (BrP (S.legsB (ns : Int) K0 (S.legV k li q pu))
 (Q (vJ 0) A0)
 (Q (vJ 2) A0)))
 (Q (vJ 2) A0)))
 (Q (vJ 2) A0)))))) [(bP e mo t l nc c ns s ta tm r nf f), (some (.box t_api_Span [(cJ a), (cJ b)]))]) = (ex (cs12 hbs) 1000 0 m_law02_refused ⟨ofL 0 [.ag (plC e mo t l nc (S.val c) ns (S.val s) ta tm r nf (S.val f)), .ag [.p (.int .i64 a), .p (.int .i64 b)], .c (.p (.isl 7 K0 (S.legV k li q pu))), .c (.p (.bool true))] .lf, []⟩ (endK F_law02_refused.rs (fun r H => .pr (Q r H)) fun _ _ => .no)).hold2 := by kernel_rfl
theorem vc_law02_part (lo hi pc : Int) (Q : AV → Heap → Prop) :
 ((CdP (.i64 (hi - lo))
 (CdP (.i64 ((hi - lo) * pc))
 (CdP (.i64 (Int.tdiv ((hi - lo) * pc) (100 : Int)))
 (CdP (.i64 (lo + (Int.tdiv ((hi - lo) * pc) (100 : Int))))
 (Q (vJ (lo + (Int.tdiv ((hi - lo) * pc) (100 : Int)))) [(some (.box t_api_Span [(cJ lo), (cJ hi)]))])))))) = (ex (cs12 hbs) 1000 0 m_law02_part ⟨ofL 0 [.ag [.p (.int .i64 lo), .p (.int .i64 hi)], .c (cJ pc)] .lf, []⟩ (endK F_law02_part.rs (fun r H => .pr (Q r H)) fun _ _ => .no)).hold2 := by kernel_rfl
end
end Go.Ab.B
namespace Go.Ab.S
theorem fewAt_eq (k : Nat → Nat) (li : Nat → Rows) (q : Rows) (pu : Nat → Bool) (i : Nat) : fewAt (legV k li q pu) i = decide ((k i : Int) ≤ 20) := rfl
theorem legs_tErr {pl : Bool} {ns : Nat} {a b : Int} {n : Nat} {g : Nat → Nat → PV} (h1 : (n : Int) ≤ 6) : tErr pl ns a b n g = (match pl && (span a b 0 20000 && legsB ns n g) with | true => 0 | false => 2) := by
  have e : decide ((n : Int) > 6) = false := by simpa using h1
  have e2 : inB 1 (n : Int) 6 = decide ((n : Int) ≥ 1) := by
    unfold inB
    have : decide ((n : Int) ≤ 6) = true := by simpa using h1
    rw [this, Bool.and_true]
  simp only [tErr, e, tripB, legsB, e2]
  rw [Bool.and_comm (decide ((n : Int) ≥ 1))]
  rfl
end Go.Ab.S
namespace Go.Ab.B
open Go.Proofs
section
variable {hbs : BsOk Tryd.prog} (hT : TabOk (cs hbs)) (hT3 : TabOk (cs3 hbs)) (hT12 : TabOk (cs12 hbs))
abbrev lvFw (K0 : Nat) (g : Nat → Nat → PV) (i : Nat) : List (Ps × AV) := [(.h, .c (.p (.isl 7 K0 g))), (.o (.o .h), .c (.p (.int .i64 i)))]
abbrev trFw (K0 : Nat) (g : Nat → Nat → PV) (i : Nat) : LTree := .br (S.from_ (S.fewAt g) K0 i) (.e (.exit 0) ⟨setAll [(.h, .c (.p (.isl 7 K0 g)))], []⟩) (.e .ret ⟨setAll [((.i .h), vB false)], []⟩)
theorem go_law02_few (fu K0 : Nat) (k : Nat → Nat) (li : Nat → S.Rows) (q : S.Rows) (pu : Nat → Bool) (hK : K0 ≤ maxLen) : ∀ (i : Nat) (s : St), i ≤ K0 → (∃ ρ, HasR 0 ρ s (lvFw K0 (S.legV k li q pu) i) []) → LoopGo (ex (cs12 hbs) (fu + 60)) 0 m_law02_few_l1 s (trFw K0 (S.legV k li q pu) i) :=
  loop_kR (σ := Nat) (lvFw K0 (S.legV k li q pu)) (fun _ => []) (fun i => i ≤ K0) (fun i => K0 - i) (trFw K0 (S.legV k li q pu)) _ (fun i Q => vs_law02_few (hbs := hbs) fu i K0 k li q pu Q) fun i hi' K hL X hX => by
      refine brP (fun h1 => ?_) fun h1 => ?_
      · have hlt : i < K0 := by simpa using h1
        refine cdP (idx_ok hlt) (brP (fun h2 => ?_) fun h2 => cdP (i64_nat hlt hK) ?_)
        · have eo : S.fewAt (S.legV k li q pu) i = false := by rw [S.fewAt_eq]; simp at h2 ⊢; omega
          have e2 : S.from_ (S.fewAt (S.legV k li q pu)) K0 i = false := by rw [S.from_step hlt, eo, Bool.false_and]
          simp only [trFw, e2] at hL
          exact HasR.out (l := [((.i .h), vB false)]) (HasR.mk (ρ := []) rfl rfl (by simp [WH]) ⟨.inl rfl, trivial⟩) hL
        · have eo : S.fewAt (S.legV k li q pu) i = true := by rw [S.fewAt_eq]; simp at h2 ⊢; omega
          have e2 : S.from_ (S.fewAt (S.legV k li q pu)) K0 i = S.from_ (S.fewAt (S.legV k li q pu)) K0 (i + 1) := by rw [S.from_step hlt, eo, Bool.true_and]
          simp only [trFw, e2] at hL
          exact hX (i + 1) _ (by omega) (by omega) ⟨[], HasR.mk _ rfl rfl (by simp [WH]) ⟨.inl rfl, .inl rfl, trivial⟩⟩ hL
      · have hlt : K0 ≤ i := by simpa using h1
        have e2 : S.from_ (S.fewAt (S.legV k li q pu)) K0 i = true := S.from_end hlt
        simp only [trFw, e2] at hL
        exact HasR.out (l := [(.h, .c (.p (.isl 7 K0 (S.legV k li q pu))))]) (HasR.mk (ρ := []) rfl rfl (by simp [WH]) ⟨.inl rfl, trivial⟩) hL
include hT12 in
theorem fc_law02_few (K0 : Nat) (k : Nat → Nat) (li : Nat → S.Rows) (q : S.Rows) (pu : Nat → Bool) (hK : K0 ≤ maxLen) : FCall (cs12 hbs) f_law02_few [.c (.p (.isl 7 K0 (S.legV k li q pu)))] (vB (S.fewB K0 (S.legV k li q pu))) [] :=
  fcall_k hT12 (F := F_law02_few) rfl (vc_law02_few K0 k li q pu _) ⟨go_law02_few 935 K0 k li q pu hK 0 _ (Nat.zero_le _) ⟨[], HasR.mk _ rfl rfl (by simp [WH]) ⟨.inl rfl, .inl rfl, trivial⟩⟩, brP (fun h1 => brP (fun h2 => frz_b (by simp only [S.fewB, h1, h2]; rfl)) fun h2 => frz_b (by simp only [S.fewB, h1, h2]; rfl)) fun h1 => frz_b (by simp only [S.fewB, h1]; rfl)⟩
abbrev lvLg (st : Int) (K0 : Nat) (g : Nat → Nat → PV) (i : Nat) : List (Ps × AV) := [(.h, .c (.p (.isl 7 K0 g))), (.o .h, .c (.p (.int .i64 st))), (.o (.i .h), .c (.p (.int .i64 i)))]
abbrev trLg (st : Int) (K0 : Nat) (g : Nat → Nat → PV) (i : Nat) : LTree := .br (S.from_ (S.legAt st g) K0 i) (.e (.exit 0) ⟨setAll [(.h, .c (.p (.isl 7 K0 g)))], []⟩) (.e .ret ⟨setAll [((.i (.o .h)), vB false)], []⟩)
include hT hT3 in
theorem go_ref02_Legs (fu : Nat) (st : Int) (K0 : Nat) (k : Nat → Nat) (li : Nat → S.Rows) (q : S.Rows) (pu : Nat → Bool) (hst : 0 ≤ st ∧ st ≤ 1000000) (hK : K0 ≤ 1000) (hk : ∀ i, i < K0 → k i ≤ 1000000) : ∀ (i : Nat) (s : St), i ≤ K0 → (∃ ρ, HasR 0 ρ s (lvLg st K0 (S.legV k li q pu) i) []) → LoopGo (ex (cs12 hbs) (fu + 60)) 0 m_ref02_Legs_l1 s (trLg st K0 (S.legV k li q pu) i) :=
  loop_kR (σ := Nat) (lvLg st K0 (S.legV k li q pu)) (fun _ => []) (fun i => i ≤ K0) (fun i => K0 - i) (trLg st K0 (S.legV k li q pu)) _ (fun i Q => vs_ref02_Legs (hbs := hbs) fu i st K0 k li q pu Q) fun i hi' K hL X hX => by
      have bad : ∀ (s' : St), i < K0 → S.legAt st (S.legV k li q pu) i = false → (∃ ρ, HasR 0 ρ s' [((.i (.o .h)), vB false)] []) → ∃ s'', Wk 0 s' s'' ∧ (K .ret s'').holds := fun s' hlt eo h => by
        have e2 : S.from_ (S.legAt st (S.legV k li q pu)) K0 i = false := by rw [S.from_step hlt, eo, Bool.false_and]
        simp only [trLg, e2] at hL
        obtain ⟨ρ, h⟩ := h
        exact HasR.out h hL
      refine brP (fun h1 => ?_) fun h1 => ?_
      · have hlt : i < K0 := by simpa using h1
        have hs0 : ∀ (x y : Int), FCall (cs12 hbs) f_ref02_Span [.ag [.p (.int .i64 x), .p (.int .i64 y)], .c (.p (.int .i64 0)), .c (.p (.int .i64 20000))] (vB (S.span x y 0 20000)) [] := fun x y => FCall.cfg (C := cs3 hbs) (C' := cs12 hbs) rfl rfl (fc_ref02_Span hT hT3 _ _ _ _)
        refine cdP (idx_ok hlt) ⟨FCall.cfg (C := cs3 hbs) (C' := cs12 hbs) rfl rfl (fc_ref02_items hT hT3 (k i) (li i) st (hk i hlt) hst), brP (fun a1 => cdP (idx_ok hlt) ⟨FCall.cfg (C := cs3 hbs) (C' := cs12 hbs) rfl rfl (fc3_ref02_in hT hT3 _ _ _), brP (fun a2 => cdP (idx_ok hlt) ⟨hs0 _ _, brP (fun a3 => cdP (idx_ok hlt) ⟨hs0 _ _, brP (fun a4 => cdP (by simp [Cd.holds]; omega) ?_) fun a4 => bad _ hlt ?_ ⟨[], HasR.mk _ rfl rfl (by simp [WH]) ⟨.inl rfl, trivial⟩⟩⟩) fun a3 => bad _ hlt ?_ ⟨[], HasR.mk _ rfl rfl (by simp [WH]) ⟨.inl rfl, trivial⟩⟩⟩) fun a2 => bad _ hlt ?_ ⟨[], HasR.mk _ rfl rfl (by simp [WH]) ⟨.inl rfl, trivial⟩⟩⟩) fun a1 => bad _ hlt ?_ ⟨[], HasR.mk _ rfl rfl (by simp [WH]) ⟨.inl rfl, trivial⟩⟩⟩
        · have a1 : S.itemsOk (k i) (li i) st = true := a1
          have eo : S.legAt st (S.legV k li q pu) i = true := by rw [S.legAt_eq, a1, a2, a3, a4]; rfl
          have e2 : S.from_ (S.legAt st (S.legV k li q pu)) K0 i = S.from_ (S.legAt st (S.legV k li q pu)) K0 (i + 1) := by rw [S.from_step hlt, eo, Bool.true_and]
          simp only [trLg, e2] at hL
          exact hX (i + 1) _ (by omega) (by omega) ⟨[], HasR.mk _ rfl rfl (by simp [WH]) ⟨.inl rfl, .inl rfl, .inl rfl, trivial⟩⟩ hL
        · rw [S.legAt_eq, a4]; simp
        · rw [S.legAt_eq, a3]; simp
        · rw [S.legAt_eq, a2]; simp
        · have a1 : S.itemsOk (k i) (li i) st = false := a1
          rw [S.legAt_eq, a1]; rfl
      · have hlt : K0 ≤ i := by simpa using h1
        have e2 : S.from_ (S.legAt st (S.legV k li q pu)) K0 i = true := S.from_end hlt
        simp only [trLg, e2] at hL
        exact HasR.out (l := [(.h, .c (.p (.isl 7 K0 (S.legV k li q pu))))]) (HasR.mk (ρ := []) rfl rfl (by simp [WH]) ⟨.inl rfl, trivial⟩) hL
include hT hT3 hT12 in
theorem fc_ref02_Legs (st : Int) (K0 : Nat) (k : Nat → Nat) (li : Nat → S.Rows) (q : S.Rows) (pu : Nat → Bool) (hst : 0 ≤ st ∧ st ≤ 1000000) (hK : K0 ≤ 1000) (hk : ∀ i, i < K0 → k i ≤ 1000000) : FCall (cs12 hbs) f_ref02_Legs [.c (.p (.isl 7 K0 (S.legV k li q pu))), .c (.p (.int .i64 st))] (vB (S.legsB st K0 (S.legV k li q pu))) [] :=
  fcall_k hT12 (F := F_ref02_Legs) rfl (vc_ref02_Legs st K0 k li q pu _) ⟨go_ref02_Legs hT hT3 935 st K0 k li q pu hst hK hk 0 _ (Nat.zero_le _) ⟨[], HasR.mk _ rfl rfl (by simp [WH]) ⟨.inl rfl, .inl rfl, .inl rfl, trivial⟩⟩, brP (fun h1 => brP (fun h2 => frz_b (by simp only [S.legsB, h1, h2]; rfl)) fun h2 => frz_b (by simp only [S.legsB, h1, h2]; rfl)) fun h1 => frz_b (by simp only [S.legsB, h1]; rfl)⟩
include hT hT3 hT12 in
theorem fc_law02_refused (e mo t l : Int) (nc : Nat) (c : S.Rows) (ns : Nat) (s : S.Rows) (ta tm r : Int) (nf : Nat) (f : S.Rows) (a b : Int) (K0 : Nat) (k : Nat → Nat) (li : Nat → S.Rows) (q : S.Rows) (pu : Nat → Bool) (hnc : nc ≤ maxLen) (hns : ns ≤ 1000000) (hns' : ns ≤ maxLen) (hnf : nf ≤ maxLen) (hk : ∀ i, i < K0 → k i ≤ 1000000) : FCall (cs12 hbs) f_law02_refused [.ag (plC e mo t l nc (S.val c) ns (S.val s) ta tm r nf (S.val f)), .ag [.p (.int .i64 a), .p (.int .i64 b)], .c (.p (.isl 7 K0 (S.legV k li q pu))), .c (.p (.bool true))] (vI .i64 (S.tE e mo t l nc c ns s ta tm r nf f a b K0 (S.legV k li q pu))) [] :=
  fcall_k hT12 (F := F_law02_refused) rfl (vc_law02_refused e mo t l nc c ns s ta tm r nf f a b K0 k li q pu _) (brP (fun h1 => by simp only [S.tE, S.tErr, h1]; rfl) fun h1 => by
    have h6 : (K0 : Int) ≤ 6 := by simpa using h1
    have he : S.tE e mo t l nc c ns s ta tm r nf f a b K0 (S.legV k li q pu) = _ := S.legs_tErr h6
    rw [he]
    exact ⟨FCall.cfg (C := cs hbs) (C' := cs12 hbs) rfl rfl (fc_ref02_Plane hT hnc hns' hnf), brP (fun g1 => ⟨FCall.cfg (C := cs3 hbs) (C' := cs12 hbs) rfl rfl (fc_ref02_Span hT hT3 _ _ _ _), brP (fun g2 => ⟨fc_ref02_Legs hT hT3 hT12 ns K0 k li q pu (by omega) (by omega) hk, brP (fun g3 => by simp only [g1, g2, g3]; rfl) fun g3 => by simp only [g1, g2, g3]; rfl⟩) fun g2 => by simp only [g1, g2]; rfl⟩) fun g1 => by simp only [g1]; rfl⟩)
include hT12 in
theorem fc_law02_part (lo hi pc : Int) (h : lo ≤ hi) (h0 : -1000000 ≤ lo) (h9 : hi ≤ 1000000) (h1 : 0 ≤ pc) (h2 : pc ≤ 100) : FCall (cs12 hbs) f_law02_part [.ag [.p (.int .i64 lo), .p (.int .i64 hi)], .c (.p (.int .i64 pc))] (vI .i64 (S.part lo hi pc)) [] := by
  obtain ⟨q1, q2, q3, q4⟩ := S.part_raw h h1 h2
  refine fcall_k hT12 (F := F_law02_part) rfl (vc_law02_part lo hi pc _) (cdP (i64_of (by omega) (by omega)) (cdP (i64_of (by omega) (by omega)) (cdP (i64_of (by omega) (by omega)) (cdP (i64_of (by omega) (by omega)) rfl))))
include hT12 in
end
end Go.Ab.B
namespace Go.Ab.S
section
variable {e mo t l : Int} {nc : Nat} {c : Rows} {ns : Nat} {s : Rows} {ta tm r : Int} {nf : Nat} {f : Rows} {a b : Int} {n : Nat} {g : Nat → Nat → PV}
theorem tE_0 (hp : plane e mo t l nc c ns s ta tm r nf f = true) (ht : tripB ns a b n g = true) : tE e mo t l nc c ns s ta tm r nf f a b n g = 0 := by
  have h6 : decide ((n : Int) > 6) = false := by
    simp only [tripB, Bool.and_eq_true, inB_iff] at ht
    have := ht.2.1
    simp only [decide_eq_false_iff_not]
    omega
  simp only [tE, tErr, h6, hp, ht, Bool.and_true]
theorem tE_ok (h : (tE e mo t l nc c ns s ta tm r nf f a b n g != 0) = false) : plane e mo t l nc c ns s ta tm r nf f = true ∧ tripB ns a b n g = true := tErr_0 h
theorem tA_sure (h0 : tE e mo t l nc c ns s ta tm r nf f a b n g = 0) (h : from_ (sureH e mo t l nc c ns s ta tm r nf f (ptV a b nf g)) (2 * n) 0 = true) : tA e mo t l nc c ns s ta tm r nf f a b n g = -1 ∧ tR e mo t l nc c ns s ta tm r nf f a b n g = 1 := by
  have h1 : (tE e mo t l nc c ns s ta tm r nf f a b n g != 0) = false := by rw [h0]; rfl
  simp only [tA, tR, h1, h, unX, unA]
  exact ⟨trivial, trivial⟩
end
end Go.Ab.S
namespace Go.Ab.B
open Go.Proofs
section
variable {hbs : BsOk Tryd.prog} (hT : TabOk (cs hbs)) (hT3 : TabOk (cs3 hbs)) (hT4 : TabOk (cs4 hbs)) (hT7 : TabOk (cs7 hbs)) (hT9 : TabOk (cs9 hbs)) (hT10 : TabOk (cs10 hbs)) (hT11 : TabOk (cs11 hbs)) (hT12 : TabOk (cs12 hbs))
include hT hT3 hT4 hT7 hT9 hT10 hT11 hT12 in
theorem fc12_Trip (e mo t l : Int) (nc : Nat) (c : S.Rows) (ns : Nat) (s : S.Rows) (ta tm r : Int) (nf : Nat) (f : S.Rows) (a b : Int) (K0 : Nat) (k : Nat → Nat) (li : Nat → S.Rows) (q : S.Rows) (pu : Nat → Bool) (hnc : nc ≤ maxLen) (hns : ns ≤ 1000000) (hns' : ns ≤ maxLen) (hnf : nf ≤ maxLen) (hK : K0 ≤ 1000) (hk : ∀ i, i < K0 → k i ≤ 1000000) : FCall (cs12 hbs) f_load_Trip [.ag (plC e mo t l nc (S.val c) ns (S.val s) ta tm r nf (S.val f)), .ag [.p (.int .i64 a), .p (.int .i64 b)], .c (.p (.isl 7 K0 (S.legV k li q pu)))]
    (.tp [vI .i64 (S.tA e mo t l nc c ns s ta tm r nf f a b K0 (S.legV k li q pu)), vI .i64 (S.tR e mo t l nc c ns s ta tm r nf f a b K0 (S.legV k li q pu)), vI .i64 (S.tI e mo t l nc c ns s ta tm r nf f a b K0 (S.legV k li q pu)), vI .i64 (S.tE e mo t l nc c ns s ta tm r nf f a b K0 (S.legV k li q pu))]) [] :=
  FCall.cfg (C := cs11 hbs) (C' := cs12 hbs) rfl rfl (fc_load_Trip hT hT3 hT4 hT7 hT9 hT10 hT11 e mo t l nc c ns s ta tm r nf f a b K0 k li q pu hnc hns hns' hnf hK hk)
end
end Go.Ab.B
namespace Go.Ab.S
def rowsV (k : Nat → Nat) (li : Nat → Rows) : Nat → Nat → PV := fun i _ => .isl 1 (k i) (val (li i))
def pcA (a : Rows) (i : Nat) : Bool := decide (0 ≤ a i 0) && decide (a i 0 ≤ 100)
def pcB (n : Nat) (a : Rows) : Bool := from_ (pcA a) n 0
def fitA (nf : Nat) (g g1 : Nat → Nat → PV) (fb : Rows) (g3 : Nat → Nat → PV) (i : Nat) : Bool :=
  decide ((lN (g1 i 0) : Int) = (lN (g i 0) : Int)) && decide ((lN (g3 i 0) : Int) = (nf : Int)) && pcA fb i && pcB (lN (g1 i 0)) (lR (g1 i 0)) && pcB (lN (g3 i 0)) (lR (g3 i 0))
def fitB (nf n : Nat) (g : Nat → Nat → PV) (n1 : Nat) (g1 : Nat → Nat → PV) (ff : Int) (n2 : Nat) (fb : Rows) (n3 : Nat) (g3 : Nat → Nat → PV) : Bool :=
  decide ((n1 : Int) = (n : Int)) && decide ((n2 : Int) = (n : Int)) && decide ((n3 : Int) = (n : Int)) && (decide (0 ≤ ff) && decide (ff ≤ 100)) && from_ (fitA nf g g1 fb g3) n 0
def alW (li a : Rows) : Nat → Int := fun x => 100 * part (li x 1) (li x 2) (a x 0)
def alM (li a s : Rows) : Nat → Int := fun x => 100 * part (li x 1) (li x 2) (a x 0) * s (li x 0).toNat 0
def flW (p : Bool) (w : Rows) (lo hi fw : Int) (a : Rows) : Nat → Int := fun x => 100 * pmp p (w x 0) + fw * part lo hi (a x 0)
def flM (p : Bool) (w : Rows) (lo hi fw : Int) (a f : Rows) : Nat → Int := fun x => (100 * pmp p (w x 0) + fw * part lo hi (a x 0)) * f x 0
def flA (p : Bool) (w : Rows) (lo hi : Int) (a : Rows) : Rows := fun x _ => pmp p (w x 0) + part lo hi (a x 0)
end Go.Ab.S
namespace Go.Ab.B
open Go.Proofs
def sp_law02_fits : List AV → Option (AV × Heap)
  | [.ag [_, _, _, _, _, _, _, _, _, .p (.isl 2 nf _)], .c (.p (.isl 7 n g)), .ag [.p (.isl 1 n1 g1), .p (.int .i64 ff), .p (.isl 1 n2 fb), .p (.isl 1 n3 g3)]] =>
    some (vB (S.fitB nf n g n1 g1 ff n2 (S.num fb) n3 g3), [])
  | _ => none
def Sp16 (f : Nat) (l : List AV) : Option (AV × Heap) := bif Nat.beq f f_law02_fits then sp_law02_fits l else Sp12 f l
def lp_law02_fits (j : Nat) (s : St) : Option LTree :=
  match Tr.get (.o .h) s.t, Tr.get (.o (.o (.o .h))) s.t, s.h with
  | .c (.p (.isl 7 n g)), .c (.p (.int .i64 i)), b0 :: b1 :: _ => match b0, b1 with
    | some (.box _ [_, _, _, _, _, _, _, _, _, .p (.isl 2 nf _)]), some (.box _ [.p (.isl 1 _ g1), _, .p (.isl 1 _ fb), .p (.isl 1 _ g3)]) => match j with
      | 1 => some (.br (S.from_ (S.fitA nf g g1 (S.num fb) g3) n 0) (.e (.exit 0) ⟨setAll [], [b0, b1]⟩) (.e .ret ⟨setAll [((.i (.i .h)), vB false)], [b0, b1]⟩))
      | 2 => some (.br (S.pcB (S.lN (g1 i.toNat 0)) (S.lR (g1 i.toNat 0))) (.e (.exit 2) ⟨setAll [(.o .h, .c (.p (.isl 7 n g))), (.o (.o .h), .c (.pt 0 0)), (.o (.i .h), .c (.pt 1 0)), (.o (.o (.o .h)), vI .i64 i)], [b0, b1]⟩) (.e .ret ⟨setAll [((.i (.i .h)), vB false)], [b0, b1]⟩))
      | _ => some (.br (S.pcB (S.lN (g3 i.toNat 0)) (S.lR (g3 i.toNat 0))) (.e (.exit 4) ⟨setAll [(.o .h, .c (.p (.isl 7 n g))), (.o (.o .h), .c (.pt 0 0)), (.o (.i .h), .c (.pt 1 0)), (.o (.o (.o .h)), vI .i64 i)], [b0, b1]⟩) (.e .ret ⟨setAll [((.i (.i .h)), vB false)], [b0, b1]⟩))
    | _, _ => none
  | _, _, _ => none
abbrev alO (n : Nat) (g : Nat → Nat → PV) (fw tk : Int) (i : Int) (nf : Nat) : List (Ps × AV) := [(.o (.o (.o (.o .h))), vI .i64 tk), (.o (.i .h), .c (.pt 0 0)), (.o (.i (.o (.o .h))), vI .i64 i), (.i .h, .c (.p (.isl 7 n g))), (.i (.o .h), vI .i64 fw), (.i (.o (.o .h)), .c (.pt 2 0)), (.i (.o (.o (.o .h))), .c (.sl 3 0 nf))]
def lp_law02_LoadAlong (j : Nat) (s : St) : Option LTree :=
  match j with
  | 1 => some (.e (.exit 0) ⟨setAll [], []⟩)
  | _ => match Tr.get (.i .h) s.t, Tr.get (.i (.o .h)) s.t, Tr.get (.o (.o (.o (.o .h)))) s.t, Tr.get (.o (.i (.o (.o .h)))) s.t, Tr.get (.o (.o (.i (.o .h)))) s.t, Tr.get (.i (.o (.i (.o .h)))) s.t with
    | .c (.p (.isl 7 n g)), .c (.p (.int .i64 fw)), .c (.p (.int .i64 tk)), .c (.p (.int .i64 i)), .c (.p (.int .i64 bu)), .c (.p (.int .i64 W)) => match s.h with
      | b0 :: b1 :: b2 :: b3 :: rest => match b0, b2, b3 with
        | some (.box _ [_, _, _, _, _, .p (.isl 2 ns st), _, _, _, .p (.isl 2 nf f)]), some (.box _ [.p (.isl 1 _ g1), _, _, .p (.isl 1 _ g3)]), some (.arr _ _ m w _) => match j with
          | 4 => some (.e (.exit 6) ⟨setAll (alO n g fw tk i m ++ [(.o (.o (.i (.o .h))), vI .i64 bu), (.i (.o (.i (.o .h))), vI .i64 W)]), [b0, b1, b2, b3]⟩)
          | _ => match Tr.get (.o (.i (.i (.o .h)))) s.t with
            | .c (.p (.int .i64 M)) => match j with
              | 2 => match rest with
                | b4 :: _ => some (.e (.exit 2) ⟨setAll (alO n g fw tk i m ++ [(.o (.o (.i (.o .h))), vI .i64 bu), (.i (.o (.i (.o .h))), vI .i64 (W + S.sumR (S.alW (S.lR (g i.toNat 0)) (S.lR (g1 i.toNat 0))) (S.lN (g i.toNat 0)) 0)), (.o (.i (.i (.o .h))), vI .i64 (M + S.sumR (S.alM (S.lR (g i.toNat 0)) (S.lR (g1 i.toNat 0)) (S.num st)) (S.lN (g i.toNat 0)) 0)), (.i (.i (.o (.o .h))), .c (.pt 4 0))]), [b0, b1, b2, b3, b4]⟩)
                | _ => none
              | _ => some (.e (.exit 4) ⟨setAll (alO n g fw tk i m ++ [(.o (.o (.i (.o .h))), vI .i64 bu), (.i (.o (.i (.o .h))), vI .i64 (W + S.sumR (S.flW (S.lB (g i.toNat 1)) (S.num w) (S.lI (g i.toNat 5)) (S.lI (g i.toNat 6)) fw (S.lR (g3 i.toNat 0))) m 0)), (.o (.i (.i (.o .h))), vI .i64 (M + S.sumR (S.flM (S.lB (g i.toNat 1)) (S.num w) (S.lI (g i.toNat 5)) (S.lI (g i.toNat 6)) fw (S.lR (g3 i.toNat 0)) (S.num f)) m 0))]), [b0, b1, b2, some (.arr 1 t_int m (S.val (S.flA (S.lB (g i.toNat 1)) (S.num w) (S.lI (g i.toNat 5)) (S.lI (g i.toNat 6)) (S.lR (g3 i.toNat 0)))) [])]⟩)
            | _ => none
        | _, _, _ => none
      | _ => none
    | _, _, _, _, _, _ => none
def Lp16 (n0 : Nat) (a : MC) (s : St) : Option LTree := bif Nat.beq (keyM a 0) key_law02_fits_l1 then lp_law02_fits 1 s else bif Nat.beq (keyM a 0) key_law02_fits_l2 then lp_law02_fits 2 s else bif Nat.beq (keyM a 0) key_law02_fits_l3 then lp_law02_fits 3 s else bif Nat.beq (keyM a 0) key_law02_LoadAlong_l1 then lp_law02_LoadAlong 1 s else bif Nat.beq (keyM a 0) key_law02_LoadAlong_l2 then lp_law02_LoadAlong 2 s else bif Nat.beq (keyM a 0) key_law02_LoadAlong_l3 then lp_law02_LoadAlong 3 s else bif Nat.beq (keyM a 0) key_law02_LoadAlong_l4 then lp_law02_LoadAlong 4 s else Lp12 n0 a s
def cs16 {P : Program} (hbs : BsOk P) : Cfg := { cs12 hbs with Sp := Sp16, Lp := Lp16 }
section
variable {hbs : BsOk Tryd.prog}
theorem vs_law02_fits2 (fu i j : Nat) (e mo t l : Int) (nc : Nat) (c : S.Rows) (ns : Nat) (s : S.Rows) (ta tm r : Int) (nf : Nat) (f : S.Rows) (K0 : Nat) (k : Nat → Nat) (li : Nat → S.Rows) (q : S.Rows) (pu : Nat → Bool) (K1 : Nat) (ka : Nat → Nat) (fi : Nat → S.Rows) (ff : Int) (K2 : Nat) (fb : S.Rows) (K3 : Nat) (kb : Nat → Nat) (fl : Nat → S.Rows) (Q : AX → St → Prop) :
 ((fun (A0 : Heap) => ((fun (A1 : Tr) => ((fun (A2 : Tr) => ((fun (A3 : Tr) => ((fun (A6 : Tr) => ((fun (A7 : Tr) => ((fun (A8 : AV) => ((fun (A9 : Tr) => ((fun (A10 : Tr) => ((fun (A11 : Tr) => ((fun (A12 : Tr) => ((fun (A13 : Tr) => ((fun (A14 : Tr) => ((fun (A15 : Tr) => ((fun (A4 : Tr) => ((fun (A5 : Tr) => ((CdP (.rng (i : Int) K1)
 (BrP (decide ((j : Int) < ((ka i : Nat) : Int)))
 (CdP (.rng (i : Int) K1)
 (CdP (.rng (j : Int) (ka i))
 (BrP (decide ((fi i j 0) < (0 : Int)))
 (Q .ret ⟨(L4 (.nd (.nd (.nd (L4 A13 A6) (vN i) (L3 (L2 A1))) (vT 0 0) (L4 (L4 A14 A6) (L4 A7 (L3 A2)))) A8 (.nd (L4 (L2 A6) A5) (vT 1 0) (L4 (L4 (L2 (L1 (vN i))) A6) (L4 A6 (L3 A3))))) (L4 (L4 (.nd (L4 A7 A6) (vN j) (L3 A12)) (L4 (L4 (L2 A2) A6) (L4 A7 (L3 (L1 (vN i)))))) (.nd (L4 (L2 A6) A9) (vB false) (L4 (L4 (L2 A3) A7) (L4 A6 (L3 A1)))))), A0⟩)
 (CdP (.rng (i : Int) K1)
 (CdP (.rng (j : Int) (ka i))
 (BrP (decide ((fi i j 0) > (100 : Int)))
 (Q .ret ⟨(L4 (.nd A4 A8 (.nd (L4 (L2 (L2 A1)) A5) (vT 1 0) (L4 (L4 (L2 (L1 (vN i))) A7) (L4 A14 (L3 A3))))) (L4 (L4 (.nd (L4 A7 (L2 A3)) (vN j) (L3 A12)) A11) (.nd (L4 (L2 A12) A9) (vB false) (L4 (L4 (L2 A3) A7) (L4 (L2 A2) (L3 A1)))))), A0⟩)
 (CdP (.i64 ((j : Int) + (1 : Int)))
 (Q .normal ⟨(L4 (.nd A4 A8 (.nd (L4 (L4 A12 (L2 A1)) A5) (vT 1 0) (L4 (L4 (L2 (L1 (vN i))) A10) (L4 A14 (L3 A3))))) (L4 (L4 (.nd (L4 A7 (L2 A3)) (vJ ((j : Int) + (1 : Int))) (L3 A12)) A11) (L4 (L4 (L4 (L2 (L1 (vJ ((j : Int) + (1 : Int))))) A12) A9) (L4 (L4 (L2 A3) A10) (L4 (L2 A2) (L3 A1)))))), A0⟩))))))))
 (Q (.exit 2) ⟨(L4 (.nd (.nd (L6 (L3 A13) (vN i)) (vT 0 0) (L2 (L2 (L3 A2)))) A8 (.nd (L2 (L2 (L3 (L1 (vN j))))) (vT 1 0) (L2 (L2 (L3 A3))))) (L4 (L4 (L6 (L3 A10) (vN j)) (L2 (L2 (L3 (L1 (vN i)))))) (L4 (L2 (L2 (L3 (L1 (vT 1 0))))) (L2 (L2 (L3 A1)))))), A0⟩))))) (L4 A15 (L3 (L1 (vN j)))))) (.nd (.nd (L4 A13 (L2 (L1 (vN i)))) (vN i) (L3 (L2 A1))) (vT 0 0) (L4 (L4 A14 A15) (L4 A10 (L3 A2)))))) (L2 (L1 (.c (.p (.ipt 1 (S.val (fi i) j)))))))) (L2 (L1 (vT 1 0))))) (L2 (L1 (vJ ((ka i : Nat) : Int)))))) (L2 (L1 (vN j))))) (L4 (L4 (L2 A2) (L2 (L1 (vJ (fi i j 0))))) (L4 A10 (L3 (L1 (vN i))))))) (L2 (L1 (vB false))))) (L4 (L2 (L1 (vJ (fi i j 0)))) (L3 (L1 (vT 1 0)))))) (.c (.p (.isl 7 K0 (S.legV k li q pu)))))) (L2 (L1 (vB true))))) (L2 (L1 (.tp []))))) (L1 (.c (.p (.ipt 1 (S.rowsV ka fi i))))))) (L1 (.c (.p (.isl 1 K1 (S.rowsV ka fi))))))) (L1 (.c (.p (.isl 1 (ka i) (S.val (fi i)))))))) [(bP e mo t l nc c ns s ta tm r nf f), (some (.box t_law02_Flight [(.p (.isl 1 K1 (S.rowsV ka fi))), (cJ ff), (.p (.isl 1 K2 (S.val fb))), (.p (.isl 1 K3 (S.rowsV kb fl)))]))]) = (ex (cs16 hbs) (fu + 52) 0 m_law02_fits_l2 ⟨setAll [(.o .h, .c (.p (.isl 7 K0 (S.legV k li q pu)))), (.o (.o .h), .c (.pt 0 0)), (.o (.i .h), .c (.pt 1 0)), (.o (.o (.o .h)), .c (cJ i)), (.i (.o (.o .h)), .c (cJ j))], [PB e mo t l nc c ns s ta tm r nf f, some (.box t_law02_Flight [.p (.isl 1 K1 (S.rowsV ka fi)), .p (.int .i64 ff), .p (.isl 1 K2 (S.val fb)), .p (.isl 1 K3 (S.rowsV kb fl))])]⟩ (fun e s => .pr (Q e s))).hold2 := by kernel_rfl
theorem vs_law02_fits3 (fu i j : Nat) (e mo t l : Int) (nc : Nat) (c : S.Rows) (ns : Nat) (s : S.Rows) (ta tm r : Int) (nf : Nat) (f : S.Rows) (K0 : Nat) (k : Nat → Nat) (li : Nat → S.Rows) (q : S.Rows) (pu : Nat → Bool) (K1 : Nat) (ka : Nat → Nat) (fi : Nat → S.Rows) (ff : Int) (K2 : Nat) (fb : S.Rows) (K3 : Nat) (kb : Nat → Nat) (fl : Nat → S.Rows) (Q : AX → St → Prop) :
 ((fun (A0 : Heap) => ((fun (A1 : Tr) => ((fun (A2 : Tr) => ((fun (A3 : Tr) => ((fun (A4 : Tr) => ((fun (A5 : Tr) => ((fun (A6 : AV) => ((fun (A7 : Tr) => ((fun (A8 : Tr) => ((fun (A9 : Tr) => ((fun (A10 : Tr) => ((fun (A11 : Tr) => ((fun (A12 : Tr) => ((fun (A13 : Tr) => ((fun (A14 : Tr) => ((fun (A15 : Tr) => ((fun (A16 : Tr) => ((fun (A17 : Tr) => ((CdP (.rng (i : Int) K3)
 (BrP (decide ((j : Int) < ((kb i : Nat) : Int)))
 (CdP (.rng (i : Int) K3)
 (CdP (.rng (j : Int) (kb i))
 (BrP (decide ((fl i j 0) < (0 : Int)))
 (Q .ret ⟨(L4 (.nd (.nd (.nd (L2 A5) (vN i) A17) (vT 0 0) (L4 (L4 A13 A5) (L4 A5 (L2 A3)))) A6 (.nd (.nd (L4 A12 A5) (vN j) (L4 A11 (L2 A2))) (vT 1 0) (L4 (L3 (L3 (L3 A1))) (L4 A5 A9)))) (L4 (L4 (L4 (L2 A5) A16) (L4 (L4 (L3 (L3 A3)) A11) (L4 A5 (L2 A1)))) (.nd (L4 (L4 (L3 (L3 A2)) A5) (L4 A11 (L2 (L1 (vN i))))) (vB false) (L4 (L3 A10) (L4 A5 (L2 (L1 (vB true)))))))), A0⟩)
 (CdP (.rng (i : Int) K3)
 (CdP (.rng (j : Int) (kb i))
 (BrP (decide ((fl i j 0) > (100 : Int)))
 (Q .ret ⟨(L4 (.nd (.nd (.nd (L2 (L3 (L3 A1))) (vN i) A17) (vT 0 0) (L4 (L4 A13 A11) (L4 A12 (L2 A3)))) A6 (.nd (.nd (L4 A12 A4) (vN j) (L4 A7 (L2 A2))) (vT 1 0) (L4 (L3 (L3 (L3 A1))) (L4 A13 A9)))) (L4 (L4 (L4 (L2 A10) A16) (L4 (L4 (L3 (L3 A3)) A11) (L4 (L3 (L3 A2)) (L2 A1)))) (.nd A15 (vB false) A14))), A0⟩)
 (CdP (.i64 ((j : Int) + (1 : Int)))
 (Q .normal ⟨(L4 (.nd (.nd (.nd (L4 A10 (L3 (L3 A1))) (vN i) A17) (vT 0 0) (L4 (L4 A13 A7) (L4 A12 (L2 A3)))) A6 (.nd (.nd (L4 A12 A4) (vJ ((j : Int) + (1 : Int))) (L4 A7 (L2 A2))) (vT 1 0) (L4 (L3 (L3 (L3 A1))) (L4 A13 A9)))) (L4 (L4 (L4 (L4 (L3 (L3 (L1 (vJ ((j : Int) + (1 : Int)))))) A10) A16) (L4 (L4 (L3 (L3 A3)) A7) (L4 (L3 (L3 A2)) (L2 A1)))) (L4 A15 A14))), A0⟩))))))))
 (Q (.exit 4) ⟨(L4 (.nd (.nd (L5 (vN i) (L2 (L2 (L1 (vN j))))) (vT 0 0) (L2 (L2 (L2 A3)))) A6 (.nd (L5 (vN j) (L2 (L2 A2))) (vT 1 0) (L2 (L2 A9)))) (L4 (L4 (L2 (L2 (L2 (L1 (vT 1 3))))) (L2 (L2 (L2 A1)))) (L4 (L2 (L2 (L2 (L1 (vN i))))) (L2 (L2 (L2 (L1 (vB false)))))))), A0⟩))))) (L4 A4 (L2 (L1 (vN j)))))) (L4 A8 (L2 (L1 (vT 1 3)))))) (L4 (L4 (L3 (L3 A2)) A8) (L4 A7 (L2 (L1 (vN i))))))) (L4 (L3 A10) (L4 (L3 (L3 A3)) (L2 (L1 (vB true))))))) (L3 (L3 (L1 (vN i)))))) (L3 (L3 (L1 (vT 1 3)))))) (L3 (L3 (L1 (vB true)))))) (L3 (L3 (L1 (vN j)))))) (L2 (L1 (vJ ((kb i : Nat) : Int)))))) (L3 (L3 (L1 (vJ (fl i j 0))))))) (L3 (L3 (L1 (vB false)))))) (.c (.p (.isl 7 K0 (S.legV k li q pu)))))) (L3 (L3 (L1 (.tp [])))))) (L3 (L3 (L1 (.c (.p (.ipt 1 (S.val (fl i) j))))))))) (L1 (.c (.p (.ipt 1 (S.rowsV kb fl i))))))) (L1 (.c (.p (.isl 1 K3 (S.rowsV kb fl))))))) (L1 (.c (.p (.isl 1 (kb i) (S.val (fl i)))))))) [(bP e mo t l nc c ns s ta tm r nf f), (some (.box t_law02_Flight [(.p (.isl 1 K1 (S.rowsV ka fi))), (cJ ff), (.p (.isl 1 K2 (S.val fb))), (.p (.isl 1 K3 (S.rowsV kb fl)))]))]) = (ex (cs16 hbs) (fu + 52) 0 m_law02_fits_l3 ⟨setAll [(.o .h, .c (.p (.isl 7 K0 (S.legV k li q pu)))), (.o (.o .h), .c (.pt 0 0)), (.o (.i .h), .c (.pt 1 0)), (.o (.o (.o .h)), .c (cJ i)), (.o (.i (.o .h)), .c (cJ j))], [PB e mo t l nc c ns s ta tm r nf f, some (.box t_law02_Flight [.p (.isl 1 K1 (S.rowsV ka fi)), .p (.int .i64 ff), .p (.isl 1 K2 (S.val fb)), .p (.isl 1 K3 (S.rowsV kb fl))])]⟩ (fun e s => .pr (Q e s))).hold2 := by kernel_rfl
theorem vs_law02_fits1 (fu i : Nat) (e mo t l : Int) (nc : Nat) (c : S.Rows) (ns : Nat) (s : S.Rows) (ta tm r : Int) (nf : Nat) (f : S.Rows) (K0 : Nat) (k : Nat → Nat) (li : Nat → S.Rows) (q : S.Rows) (pu : Nat → Bool) (K1 : Nat) (ka : Nat → Nat) (fi : Nat → S.Rows) (ff : Int) (K2 : Nat) (fb : S.Rows) (K3 : Nat) (kb : Nat → Nat) (fl : Nat → S.Rows) (Q : AX → St → Prop) :
 ((fun (A1 : AV) => ((fun (A4 : Tr) => ((fun (A5 : Tr) => ((fun (A6 : Tr) => ((fun (A7 : Tr) => ((fun (A8 : Tr) => ((fun (A9 : Tr) => ((fun (A10 : AV) => ((fun (A11 : Tr) => ((fun (A12 : Tr) => ((fun (A13 : CV) => ((fun (A14 : Tr) => ((fun (A15 : Tr) => ((fun (A16 : Tr) => ((fun (A17 : Tr) => ((fun (A18 : Tr) => ((fun (A19 : Tr) => ((fun (A20 : Tr) => ((fun (A21 : Tr) => ((fun (A22 : Tr) => ((fun (A23 : CV) => ((fun (A0 : Heap) => ((fun (A24 : Tr) => ((fun (A2 : Tr) => ((fun (A25 : Tr) => ((fun (A26 : Tr) => ((fun (A27 : Tr) => ((fun (A3 : Tr) => ((fun (A28 : Tr) => ((fun (A29 : Tr) => ((fun (A30 : Tr) => ((fun (A31 : Tr) => ((fun (A32 : Tr) => ((BrP (decide ((i : Int) < (K0 : Int)))
 (CdP (.rng (i : Int) K1)
 (CdP (.rng (i : Int) K0)
 (BrP (((ka i : Nat) : Int) != ((k i : Nat) : Int))
 (Q .ret ⟨(L4 (.nd (.nd (.nd (L4 A5 A5) (vN i) (L4 A5 A9)) (vT 0 0) (L4 (L4 A5 A14) (L4 A22 A21))) A1 (.nd (L4 (L4 A5 A28) (L4 A20 A4)) (vT 1 0) (L4 (L4 A5 A19) (L4 (L6 (L1 (.tp [])) (vB true)) (L1 (vB true)))))) (L4 (L4 (L4 (L4 A5 A29) (L4 A20 A7)) (L4 (L4 A5 (L6 (L1 (.tp [])) A10)) (L4 (L6 (L1 (.tp [])) (vJ (K0 : Int))) (L1 (vB true))))) (.nd (L4 (L4 A5 A9) (L4 A9 A8)) (vB false) (L4 (L4 A5 A22) (L4 A5 (L1 (.tp []))))))), A0⟩)
 (CdP (.rng (i : Int) K3)
 (BrP (((kb i : Nat) : Int) != (nf : Int))
 (Q .ret ⟨(L4 (.nd (.nd (.nd (L4 A12 A5) (vN i) (L4 A20 A9)) (vT 0 0) (L4 (L4 A27 A14) (L4 A22 A21))) A1 (.nd (L4 (L4 A18 A28) (L4 A20 A4)) (vT 1 0) (L4 (L4 (L3 (L1 (vS 2 nf f))) A19) (L4 (L6 (L1 (.tp [])) (vB true)) (L1 (vB false)))))) (L4 (L4 (L4 (L4 A26 A29) (L4 A20 A7)) (L4 A32 (L4 (L6 (L1 (.tp [])) (vJ (K0 : Int))) (L1 (vB false))))) (.nd (L4 (L4 A11 A9) (L4 A9 A8)) (vB false) (L4 (L4 (L3 (L1 (vN nf))) A22) (L4 A5 (L1 (vT 1 3))))))), A0⟩)
 (CdP (.rng (i : Int) K2)
 (BrP (decide ((fb i 0) < (0 : Int)))
 (Q .ret ⟨(L4 (.nd (.nd (.nd (L4 A12 A20) (vN i) (L4 A6 A9)) (vT 0 0) (L4 (L4 A27 A14) (L4 (L6 (L1 (.c A23)) A1) A21))) A1 (.nd (L4 (L4 A18 A28) (L4 A6 A4)) (vT 1 0) (L4 (L4 (L3 (L1 (vS 2 nf f))) A19) A24))) (L4 (L4 (L4 (L4 A26 A29) (L4 A6 A7)) (L4 A32 A15)) (.nd (L4 (L4 A11 A9) (L4 A17 A8)) (vB false) (L4 (L4 (L3 (L1 (vN nf))) A22) (L4 (L3 (L1 (vJ (fb i 0)))) (L1 (vT 1 3))))))), A0⟩)
 (CdP (.rng (i : Int) K2)
 (BrP (decide ((fb i 0) > (100 : Int)))
 (Q .ret ⟨(L4 (.nd (.nd (.nd (L4 A12 A6) (vN i) (L4 A6 (L6 (L1 (vB true)) (vN i)))) (vT 0 0) A3) A1 A2) (L4 (L4 (L4 (L4 A26 (L6 (L1 (vB false)) (vT 1 0))) (L4 A6 A7)) A30) (.nd (L4 (L4 A11 A17) (L4 A17 A8)) (vB false) A16))), A0⟩)
 ((LoopGo (ex (cs16 hbs) (fu + 52)) 0 m_law02_fits_l2 ⟨(L4 (.nd (.nd (.nd (L4 A12 A6) (vN i) (L4 A6 (L6 (L1 (vB false)) (vN i)))) (vT 0 0) A3) A1 A2) (L4 (L4 (.nd (L4 A26 (L6 (L1 (vB false)) (vT 1 0))) (vJ 0) (L4 A6 (L6 (L1 (vB false)) (.c (.p (.ipt 7 (S.legV k li q pu i))))))) A30) (L4 (L4 (L4 A11 A17) (L4 A17 A8)) A16))), A0⟩ (.br (S.pcB (S.lN (.isl 1 (ka i) (S.val (fi i)))) (S.lR (.isl 1 (ka i) (S.val (fi i))))) (.e (.exit 2) ⟨A31, A0⟩) (.e .ret ⟨A25, A0⟩))) ∧
 (BrP (S.pcB (S.lN (.isl 1 (ka i) (S.val (fi i)))) (S.lR (.isl 1 (ka i) (S.val (fi i)))))
 ((LoopGo (ex (cs16 hbs) (fu + 52)) 0 m_law02_fits_l3 ⟨(L3 (.nd (L6 (L1 (vN i)) (vT 0 0)) A1 (L6 (L1 (vJ 0)) (vT 1 0)))), A0⟩ (.br (S.pcB (S.lN (.isl 1 (kb i) (S.val (fl i)))) (S.lR (.isl 1 (kb i) (S.val (fl i))))) (.e (.exit 4) ⟨A31, A0⟩) (.e .ret ⟨A25, A0⟩))) ∧
 (BrP (S.pcB (S.lN (.isl 1 (kb i) (S.val (fl i)))) (S.lR (.isl 1 (kb i) (S.val (fl i)))))
 (CdP (.i64 ((i : Int) + (1 : Int)))
 (Q .normal ⟨(L4 (.nd (L6 (L6 (L2 (L1 (vJ ((i : Int) + (1 : Int))))) (vJ ((i : Int) + (1 : Int)))) (vT 0 0)) A1 (L1 (vT 1 0))) (L2 (L2 (L2 A26)))), A0⟩))
 (Q .ret ⟨A25, A0⟩)))
 (Q .ret ⟨A25, A0⟩))))))))))))
 (Q (.exit 0) ⟨(L4 (.nd (.nd (L1 (vN i)) (vT 0 0) (L2 (L3 (L1 A1)))) A1 (L5 (vT 1 0) (L2 A6))) (L4 (L2 (L2 (L3 (L1 (vJ (K0 : Int)))))) (L3 (L2 A26)))), A0⟩)))) (L4 (L3 (L1 (vT 0 9))) (L6 (L1 (.tp [])) A10)))) (L3 (.nd (L6 (L1 (vN i)) (vT 0 0)) A1 (L1 (vT 1 0)))))) (L4 (L4 (L3 (L1 (vT 0 9))) (L6 (L1 (vN i)) A10)) A15))) (L6 (L1 (vB true)) (vT 1 0)))) (L6 (L1 (vB true)) (.c A13)))) (L4 (L4 A27 (L6 (L1 (.c A23)) (.c (.p (.ipt 1 (S.rowsV ka fi i)))))) (L4 (L6 (L1 (.c A23)) A1) A21)))) (L3 (L1 (vJ ((kb i : Nat) : Int)))))) (L3 (L1 (vN i))))) (L2 (L2 (L1 (vB false)))))) (.nd (L4 (L4 A18 (L6 (L1 (vB false)) (.c A13))) (L4 A6 A4)) (vT 1 0) (L4 (L4 (L3 (L1 (vS 2 nf f))) (L6 (L1 (.c (.p (.ipt 1 (S.val fb i))))) (vJ ((ka i : Nat) : Int)))) A24)))) (L4 (L6 (L1 (.c (.p (.ipt 1 (S.val fb i))))) (vB true)) (L1 (vB false))))) [(bP e mo t l nc c ns s ta tm r nf f), (some (.box t_law02_Flight [A13, (cJ ff), A23, (.p (.isl 1 K3 (S.rowsV kb fl)))]))])) (.p (.isl 1 K2 (S.val fb))))) (L6 (L1 (.tp [])) A1))) (L1 (vJ ((k i : Nat) : Int))))) (L3 (L1 (vB true))))) (L6 (L1 (.tp [])) (vJ ((ka i : Nat) : Int))))) (L3 (L1 (.c (.p (.ipt 1 (S.rowsV kb fl i)))))))) (L6 (L1 (vT 1 2)) (vN i)))) (L4 (L4 (L3 (L1 (vN nf))) (L6 (L1 (vJ (fb i 0))) A1)) (L4 (L3 (L1 (vJ (fb i 0)))) (L1 (vT 1 3)))))) (L4 (L6 (L1 (vN i)) (vJ (K0 : Int))) (L1 (vB false))))) (L6 (L1 (.tp [])) (.c (.p (.ipt 1 (S.rowsV ka fi i))))))) (.p (.isl 1 K1 (S.rowsV ka fi))))) (L3 (L1 (.c (.p (.isl 1 K3 (S.rowsV kb fl)))))))) (L3 (L1 (.c (.p (.isl 1 (kb i) (S.val (fl i))))))))) (.c (.p (.isl 1 (ka i) (S.val (fi i))))))) (L6 (L1 (.tp [])) (vN i)))) (L1 (.c (.p (.isl 3 (k i) (S.val (li i)))))))) (L6 (L1 (vB true)) (.c (.p (.ipt 7 (S.legV k li q pu i))))))) (L3 (L1 (vB false))))) (L3 (L1 (.tp []))))) (L1 (.c (.p (.ipt 7 (fun x30 => (S.legV k li q pu i (0 + x30))))))))) (.c (.p (.isl 7 K0 (S.legV k li q pu))))) = (ex (cs16 hbs) (fu + 60) 0 m_law02_fits_l1 ⟨setAll [(.o .h, .c (.p (.isl 7 K0 (S.legV k li q pu)))), (.o (.o .h), .c (.pt 0 0)), (.o (.i .h), .c (.pt 1 0)), (.o (.o (.o .h)), .c (cJ i))], [PB e mo t l nc c ns s ta tm r nf f, some (.box t_law02_Flight [.p (.isl 1 K1 (S.rowsV ka fi)), .p (.int .i64 ff), .p (.isl 1 K2 (S.val fb)), .p (.isl 1 K3 (S.rowsV kb fl))])]⟩ (fun e s => .pr (Q e s))).hold2 := by kernel_rfl
theorem vc_law02_fits (e mo t l : Int) (nc : Nat) (c : S.Rows) (ns : Nat) (s : S.Rows) (ta tm r : Int) (nf : Nat) (f : S.Rows) (K0 : Nat) (k : Nat → Nat) (li : Nat → S.Rows) (q : S.Rows) (pu : Nat → Bool) (K1 : Nat) (ka : Nat → Nat) (fi : Nat → S.Rows) (ff : Int) (K2 : Nat) (fb : S.Rows) (K3 : Nat) (kb : Nat → Nat) (fl : Nat → S.Rows) (Q : AV → Heap → Prop) :
 ((fun (A1 : AV) => ((fun (A2 : List CV) => ((fun (A0 : Heap) => ((fun (A3 : Tr) => ((BrP ((K1 : Int) != (K0 : Int))
 (Q (vB false) A0)
 (BrP ((K2 : Int) != (K0 : Int))
 (Q (vB false) A0)
 (BrP ((K3 : Int) != (K0 : Int))
 (Q (vB false) A0)
 (BrP (decide (ff < (0 : Int)))
 (Q (vB false) A0)
 (BrP (decide (ff > (100 : Int)))
 (Q (vB false) A0)
 ((LoopGo (ex (cs16 hbs) 994) 0 m_law02_fits_l1 ⟨(.nd (.nd (.nd (.nd A3 (vJ 0) (L6 (L1 (vJ ff)) (vB false))) (vT 0 0) (.nd (L6 (L1 (vB false)) (vJ (K2 : Int))) (.c (.p (.isl 1 K1 (S.rowsV ka fi)))) (L1 (vJ (K3 : Int))))) A1 (.nd (L4 (L6 (L1 (vT 1 1)) (vT 1 2)) (L6 (L1 (vB false)) (vT 1 3))) (vT 1 0) (.nd (L6 (L1 (vB false)) (vJ (K0 : Int))) A1 (L1 (vJ (K0 : Int)))))) (.ag (kP e mo t l nc c ns s ta tm r nf f)) (.nd (L4 (L4 A3 A3) (.nd (L6 (L1 (vB false)) A1) (vJ (K1 : Int)) (L1 A1))) (.ag A2) (.nd (.nd (L6 (L1 (vJ ff)) (.c (.p (.isl 1 K2 (S.val fb))))) (vT 1 0) (L1 (.c (.p (.isl 1 K3 (S.rowsV kb fl)))))) (vB false) (.nd (L6 (L1 (vT 1 1)) (vB false)) (vJ (K0 : Int)) (L1 (vB false)))))), A0⟩ (.br (S.from_ (S.fitA nf (S.legV k li q pu) (S.rowsV ka fi) fb (S.rowsV kb fl)) K0 0) (.e (.exit 0) ⟨.lf, A0⟩) (.e .ret ⟨(L2 (L2 (L1 (vB false)))), A0⟩))) ∧
 (BrP (S.from_ (S.fitA nf (S.legV k li q pu) (S.rowsV ka fi) fb (S.rowsV kb fl)) K0 0)
 (Q (vB true) A0)
 (Q (vB false) A0)))))))))) (L6 (L1 (vB false)) (vB false)))) [(bP e mo t l nc c ns s ta tm r nf f), (some (.box t_law02_Flight A2))])) [(.p (.isl 1 K1 (S.rowsV ka fi))), (cJ ff), (.p (.isl 1 K2 (S.val fb))), (.p (.isl 1 K3 (S.rowsV kb fl)))])) (.c (.p (.isl 7 K0 (S.legV k li q pu))))) = (ex (cs16 hbs) 1000 0 m_law02_fits ⟨ofL 0 [.ag (plC e mo t l nc (S.val c) ns (S.val s) ta tm r nf (S.val f)), .c (.p (.isl 7 K0 (S.legV k li q pu))), .ag [.p (.isl 1 K1 (S.rowsV ka fi)), .p (.int .i64 ff), .p (.isl 1 K2 (S.val fb)), .p (.isl 1 K3 (S.rowsV kb fl))]] .lf, []⟩ (endK F_law02_fits.rs (fun r H => .pr (Q r H)) fun _ _ => .no)).hold2 := by kernel_rfl
end
end Go.Ab.B
namespace Go.Ab.S
theorem fitA_eq (nf : Nat) (k : Nat → Nat) (li : Nat → Rows) (q : Rows) (pu : Nat → Bool) (ka : Nat → Nat) (fi : Nat → Rows) (fb : Rows) (kb : Nat → Nat) (fl : Nat → Rows) (i : Nat) :
    fitA nf (legV k li q pu) (rowsV ka fi) fb (rowsV kb fl) i = (decide ((ka i : Int) = (k i : Int)) && decide ((kb i : Int) = (nf : Int)) && pcA fb i && pcB (ka i) (fi i) && pcB (kb i) (fl i)) := rfl
theorem pcA_lo {a : Rows} {i : Nat} (h : decide (a i 0 < 0) = true) : pcA a i = false := by simp [pcA] at h ⊢; omega
theorem pcA_hi {a : Rows} {i : Nat} (h : decide (a i 0 > 100) = true) : pcA a i = false := by simp [pcA] at h ⊢; omega
theorem pcA_in {a : Rows} {i : Nat} (h1 : decide (a i 0 < 0) = false) (h2 : decide (a i 0 > 100) = false) : pcA a i = true := by simp [pcA] at h1 h2 ⊢; omega
end Go.Ab.S
namespace Go.Ab.B
open Go.Proofs
section
variable {hbs : BsOk Tryd.prog} (hT16 : TabOk (cs16 hbs))
abbrev hpFi (e mo t l : Int) (nc : Nat) (c : S.Rows) (ns : Nat) (s : S.Rows) (ta tm r : Int) (nf : Nat) (f : S.Rows) (K1 : Nat) (ka : Nat → Nat) (fi : Nat → S.Rows) (ff : Int) (K2 : Nat) (fb : S.Rows) (K3 : Nat) (kb : Nat → Nat) (fl : Nat → S.Rows) : Heap := [PB e mo t l nc c ns s ta tm r nf f, some (.box t_law02_Flight [.p (.isl 1 K1 (S.rowsV ka fi)), .p (.int .i64 ff), .p (.isl 1 K2 (S.val fb)), .p (.isl 1 K3 (S.rowsV kb fl))])]
abbrev lvFi (K0 : Nat) (g : Nat → Nat → PV) (i : Nat) : List (Ps × AV) := [(.o .h, .c (.p (.isl 7 K0 g))), (.o (.o .h), .c (.pt 0 0)), (.o (.i .h), .c (.pt 1 0)), (.o (.o (.o .h)), .c (.p (.int .i64 i)))]
abbrev trFi (n : Nat) (b : Bool) (K0 : Nat) (g : Nat → Nat → PV) (i : Nat) (H : Heap) : LTree := .br b (.e (.exit n) ⟨setAll (lvFi K0 g i), H⟩) (.e .ret ⟨setAll [((.i (.i .h)), vB false)], H⟩)
theorem go_law02_fits2 (fu i : Nat) (e mo t l : Int) (nc : Nat) (c : S.Rows) (ns : Nat) (s : S.Rows) (ta tm r : Int) (nf : Nat) (f : S.Rows) (K0 : Nat) (k : Nat → Nat) (li : Nat → S.Rows) (q : S.Rows) (pu : Nat → Bool) (K1 : Nat) (ka : Nat → Nat) (fi : Nat → S.Rows) (ff : Int) (K2 : Nat) (fb : S.Rows) (K3 : Nat) (kb : Nat → Nat) (fl : Nat → S.Rows) (hi : i < K1) (hk : ka i ≤ maxLen) : ∀ (j : Nat) (st : St), j ≤ ka i → (∃ ρ, HasR 0 ρ st (lvFi K0 (S.legV k li q pu) i ++ [((.i (.o (.o .h))), .c (.p (.int .i64 j)))]) (hpFi e mo t l nc c ns s ta tm r nf f K1 ka fi ff K2 fb K3 kb fl)) → LoopGo (ex (cs16 hbs) (fu + 52)) 0 m_law02_fits_l2 st (trFi 2 (S.from_ (S.pcA (fi i)) (ka i) j) K0 (S.legV k li q pu) i (hpFi e mo t l nc c ns s ta tm r nf f K1 ka fi ff K2 fb K3 kb fl)) :=
  loop_kR (σ := Nat) (fun j => lvFi K0 (S.legV k li q pu) i ++ [((.i (.o (.o .h))), .c (.p (.int .i64 j)))]) (fun _ => hpFi e mo t l nc c ns s ta tm r nf f K1 ka fi ff K2 fb K3 kb fl) (fun j => j ≤ ka i) (fun j => ka i - j) (fun j => trFi 2 (S.from_ (S.pcA (fi i)) (ka i) j) K0 (S.legV k li q pu) i (hpFi e mo t l nc c ns s ta tm r nf f K1 ka fi ff K2 fb K3 kb fl)) _ (fun j Q => vs_law02_fits2 (hbs := hbs) fu i j e mo t l nc c ns s ta tm r nf f K0 k li q pu K1 ka fi ff K2 fb K3 kb fl Q) fun j hj' K hL X hX => by
    have heap : WH (hpFi e mo t l nc c ns s ta tm r nf f K1 ka fi ff K2 fb K3 kb fl) [some 0, some 1] [some 0, some 1] (hpFi e mo t l nc c ns s ta tm r nf f K1 ka fi ff K2 fb K3 kb fl) := by
      refine ⟨⟨rfl, ?_⟩, ⟨rfl, ?_⟩, trivial⟩ <;> simp [WL, WC, WP', plC]
    have bad : ∀ {s' : St}, j < ka i → S.pcA (fi i) j = false → s'.h = hpFi e mo t l nc c ns s ta tm r nf f K1 ka fi ff K2 fb K3 kb fl → LiveR [some 0, some 1] s'.t [((.i (.i .h)), vB false)] → ∃ s'', Wk 0 s' s'' ∧ (K .ret s'').holds := fun {s'} hlt eo e1 e2 => by
      have e3 : S.from_ (S.pcA (fi i)) (ka i) j = false := by rw [S.from_step hlt, eo, Bool.false_and]
      simp only [trFi, e3] at hL
      exact HasR.out (l := [((.i (.i .h)), vB false)]) (HasR.mk (ρ := [some 0, some 1]) rfl rfl (by rw [e1]; exact heap) e2) hL
    refine cdP (idx_ok hi) (brP (fun h1 => ?_) fun h1 => ?_)
    · have hlt : j < ka i := by simpa using h1
      refine cdP (idx_ok hi) (cdP (idx_ok hlt) (brP (fun h2 => bad hlt (S.pcA_lo h2) rfl ⟨.inl rfl, trivial⟩) fun h2 => cdP (idx_ok hi) (cdP (idx_ok hlt) (brP (fun h3 => bad hlt (S.pcA_hi h3) rfl ⟨.inl rfl, trivial⟩) fun h3 => cdP (i64_nat hlt hk) ?_))))
      have e3 : S.from_ (S.pcA (fi i)) (ka i) j = S.from_ (S.pcA (fi i)) (ka i) (j + 1) := by rw [S.from_step hlt, S.pcA_in h2 h3, Bool.true_and]
      simp only [trFi, e3] at hL
      exact hX (j + 1) _ (by omega) (by omega) ⟨[some 0, some 1], HasR.mk _ rfl rfl heap (by simp [LiveR, WA, WC, WP', Tr.get])⟩ hL
    · have hlt : ka i ≤ j := by simpa using h1
      have e3 : S.from_ (S.pcA (fi i)) (ka i) j = true := S.from_end hlt
      simp only [trFi, e3] at hL
      exact HasR.out (l := lvFi K0 (S.legV k li q pu) i) (HasR.mk (ρ := [some 0, some 1]) rfl rfl heap (by simp [LiveR, WA, WC, WP', Tr.get])) hL
theorem go_law02_fits3 (fu i : Nat) (e mo t l : Int) (nc : Nat) (c : S.Rows) (ns : Nat) (s : S.Rows) (ta tm r : Int) (nf : Nat) (f : S.Rows) (K0 : Nat) (k : Nat → Nat) (li : Nat → S.Rows) (q : S.Rows) (pu : Nat → Bool) (K1 : Nat) (ka : Nat → Nat) (fi : Nat → S.Rows) (ff : Int) (K2 : Nat) (fb : S.Rows) (K3 : Nat) (kb : Nat → Nat) (fl : Nat → S.Rows) (hi : i < K3) (hk : kb i ≤ maxLen) : ∀ (j : Nat) (st : St), j ≤ kb i → (∃ ρ, HasR 0 ρ st (lvFi K0 (S.legV k li q pu) i ++ [((.o (.i (.o .h))), .c (.p (.int .i64 j)))]) (hpFi e mo t l nc c ns s ta tm r nf f K1 ka fi ff K2 fb K3 kb fl)) → LoopGo (ex (cs16 hbs) (fu + 52)) 0 m_law02_fits_l3 st (trFi 4 (S.from_ (S.pcA (fl i)) (kb i) j) K0 (S.legV k li q pu) i (hpFi e mo t l nc c ns s ta tm r nf f K1 ka fi ff K2 fb K3 kb fl)) :=
  loop_kR (σ := Nat) (fun j => lvFi K0 (S.legV k li q pu) i ++ [((.o (.i (.o .h))), .c (.p (.int .i64 j)))]) (fun _ => hpFi e mo t l nc c ns s ta tm r nf f K1 ka fi ff K2 fb K3 kb fl) (fun j => j ≤ kb i) (fun j => kb i - j) (fun j => trFi 4 (S.from_ (S.pcA (fl i)) (kb i) j) K0 (S.legV k li q pu) i (hpFi e mo t l nc c ns s ta tm r nf f K1 ka fi ff K2 fb K3 kb fl)) _ (fun j Q => vs_law02_fits3 (hbs := hbs) fu i j e mo t l nc c ns s ta tm r nf f K0 k li q pu K1 ka fi ff K2 fb K3 kb fl Q) fun j hj' K hL X hX => by
    have heap : WH (hpFi e mo t l nc c ns s ta tm r nf f K1 ka fi ff K2 fb K3 kb fl) [some 0, some 1] [some 0, some 1] (hpFi e mo t l nc c ns s ta tm r nf f K1 ka fi ff K2 fb K3 kb fl) := by
      refine ⟨⟨rfl, ?_⟩, ⟨rfl, ?_⟩, trivial⟩ <;> simp [WL, WC, WP', plC]
    have bad : ∀ {s' : St}, j < kb i → S.pcA (fl i) j = false → s'.h = hpFi e mo t l nc c ns s ta tm r nf f K1 ka fi ff K2 fb K3 kb fl → LiveR [some 0, some 1] s'.t [((.i (.i .h)), vB false)] → ∃ s'', Wk 0 s' s'' ∧ (K .ret s'').holds := fun {s'} hlt eo e1 e2 => by
      have e3 : S.from_ (S.pcA (fl i)) (kb i) j = false := by rw [S.from_step hlt, eo, Bool.false_and]
      simp only [trFi, e3] at hL
      exact HasR.out (l := [((.i (.i .h)), vB false)]) (HasR.mk (ρ := [some 0, some 1]) rfl rfl (by rw [e1]; exact heap) e2) hL
    refine cdP (idx_ok hi) (brP (fun h1 => ?_) fun h1 => ?_)
    · have hlt : j < kb i := by simpa using h1
      refine cdP (idx_ok hi) (cdP (idx_ok hlt) (brP (fun h2 => bad hlt (S.pcA_lo h2) rfl ⟨.inl rfl, trivial⟩) fun h2 => cdP (idx_ok hi) (cdP (idx_ok hlt) (brP (fun h3 => bad hlt (S.pcA_hi h3) rfl ⟨.inl rfl, trivial⟩) fun h3 => cdP (i64_nat hlt hk) ?_))))
      have e3 : S.from_ (S.pcA (fl i)) (kb i) j = S.from_ (S.pcA (fl i)) (kb i) (j + 1) := by rw [S.from_step hlt, S.pcA_in h2 h3, Bool.true_and]
      simp only [trFi, e3] at hL
      exact hX (j + 1) _ (by omega) (by omega) ⟨[some 0, some 1], HasR.mk _ rfl rfl heap (by simp [LiveR, WA, WC, WP', Tr.get])⟩ hL
    · have hlt : kb i ≤ j := by simpa using h1
      have e3 : S.from_ (S.pcA (fl i)) (kb i) j = true := S.from_end hlt
      simp only [trFi, e3] at hL
      exact HasR.out (l := lvFi K0 (S.legV k li q pu) i) (HasR.mk (ρ := [some 0, some 1]) rfl rfl heap (by simp [LiveR, WA, WC, WP', Tr.get])) hL
include hT16 in
theorem go_law02_fits1 (fu : Nat) (e mo t l : Int) (nc : Nat) (c : S.Rows) (ns : Nat) (s : S.Rows) (ta tm r : Int) (nf : Nat) (f : S.Rows) (K0 : Nat) (k : Nat → Nat) (li : Nat → S.Rows) (q : S.Rows) (pu : Nat → Bool) (K1 : Nat) (ka : Nat → Nat) (fi : Nat → S.Rows) (ff : Int) (K2 : Nat) (fb : S.Rows) (K3 : Nat) (kb : Nat → Nat) (fl : Nat → S.Rows) (h1 : K1 = K0) (h2 : K2 = K0) (h3 : K3 = K0) (hK : K0 ≤ maxLen) (hk : ∀ i, i < K0 → k i ≤ maxLen) (hnf : nf ≤ maxLen) : ∀ (i : Nat) (st : St), i ≤ K0 → (∃ ρ, HasR 0 ρ st (lvFi K0 (S.legV k li q pu) i) (hpFi e mo t l nc c ns s ta tm r nf f K1 ka fi ff K2 fb K3 kb fl)) → LoopGo (ex (cs16 hbs) (fu + 60)) 0 m_law02_fits_l1 st (.br (S.from_ (S.fitA nf (S.legV k li q pu) (S.rowsV ka fi) fb (S.rowsV kb fl)) K0 i) (.e (.exit 0) ⟨.lf, hpFi e mo t l nc c ns s ta tm r nf f K1 ka fi ff K2 fb K3 kb fl⟩) (.e .ret ⟨setAll [((.i (.i .h)), vB false)], hpFi e mo t l nc c ns s ta tm r nf f K1 ka fi ff K2 fb K3 kb fl⟩)) := by
  exact loop_kR (σ := Nat) (lvFi K0 (S.legV k li q pu)) (fun _ => hpFi e mo t l nc c ns s ta tm r nf f K1 ka fi ff K2 fb K3 kb fl) (fun i => i ≤ K0) (fun i => K0 - i) (fun i => .br (S.from_ (S.fitA nf (S.legV k li q pu) (S.rowsV ka fi) fb (S.rowsV kb fl)) K0 i) (.e (.exit 0) ⟨.lf, hpFi e mo t l nc c ns s ta tm r nf f K1 ka fi ff K2 fb K3 kb fl⟩) (.e .ret ⟨setAll [((.i (.i .h)), vB false)], hpFi e mo t l nc c ns s ta tm r nf f K1 ka fi ff K2 fb K3 kb fl⟩)) _ (fun i Q => vs_law02_fits1 (hbs := hbs) fu i e mo t l nc c ns s ta tm r nf f K0 k li q pu K1 ka fi ff K2 fb K3 kb fl Q) fun i hi' K hL X hX => by
    have heap : WH (hpFi e mo t l nc c ns s ta tm r nf f K1 ka fi ff K2 fb K3 kb fl) [some 0, some 1] [some 0, some 1] (hpFi e mo t l nc c ns s ta tm r nf f K1 ka fi ff K2 fb K3 kb fl) := by
      refine ⟨⟨rfl, ?_⟩, ⟨rfl, ?_⟩, trivial⟩ <;> simp [WL, WC, WP', plC]
    have bad : ∀ {s' : St}, i < K0 → S.fitA nf (S.legV k li q pu) (S.rowsV ka fi) fb (S.rowsV kb fl) i = false → s'.h = hpFi e mo t l nc c ns s ta tm r nf f K1 ka fi ff K2 fb K3 kb fl → LiveR [some 0, some 1] s'.t [((.i (.i .h)), vB false)] → ∃ s'', Wk 0 s' s'' ∧ (K .ret s'').holds := fun {s'} hlt eo e1 e2 => by
      have e3 : S.from_ (S.fitA nf (S.legV k li q pu) (S.rowsV ka fi) fb (S.rowsV kb fl)) K0 i = false := by rw [S.from_step hlt, eo, Bool.false_and]
      simp only [e3] at hL
      exact HasR.out (l := [((.i (.i .h)), vB false)]) (HasR.mk (ρ := [some 0, some 1]) rfl rfl (by rw [e1]; exact heap) e2) hL
    refine brP (fun g1 => ?_) fun g1 => ?_
    · have hlt : i < K0 := by simpa using g1
      have l1 : i < K1 := by omega
      have l2 : i < K2 := by omega
      have l3 : i < K3 := by omega
      have hki := hk i hlt
      refine cdP (idx_ok l1) (cdP (idx_ok hlt) (brP (fun g2 => bad hlt (by rw [S.fitA_eq]; simp at g2; simp [show ¬ (ka i : Int) = (k i : Int) by omega]) rfl ⟨.inl rfl, trivial⟩) fun g2 => cdP (idx_ok l3) (brP (fun g3 => bad hlt (by rw [S.fitA_eq]; simp at g3; simp [show ¬ (kb i : Int) = (nf : Int) by omega]) rfl ⟨.inl rfl, trivial⟩) fun g3 => cdP (idx_ok l2) (brP (fun g4 => bad hlt (by rw [S.fitA_eq, S.pcA_lo g4]; simp) rfl ⟨.inl rfl, trivial⟩) fun g4 => cdP (idx_ok l2) (brP (fun g5 => bad hlt (by rw [S.fitA_eq, S.pcA_hi g5]; simp) rfl ⟨.inl rfl, trivial⟩) fun g5 => ?_)))))
      have g2 : ka i = k i := by simp at g2; omega
      have g3 : kb i = nf := by simp at g3; omega
      refine ⟨go_law02_fits2 fu i e mo t l nc c ns s ta tm r nf f K0 k li q pu K1 ka fi ff K2 fb K3 kb fl l1 (by omega) 0 _ (Nat.zero_le _) ⟨[some 0, some 1], HasR.mk _ rfl rfl heap (by simp [LiveR, WA, WC, WP', Tr.get])⟩, brP (fun g6 => ⟨go_law02_fits3 fu i e mo t l nc c ns s ta tm r nf f K0 k li q pu K1 ka fi ff K2 fb K3 kb fl l3 (by omega) 0 _ (Nat.zero_le _) ⟨[some 0, some 1], HasR.mk _ rfl rfl heap (by simp [LiveR, WA, WC, WP', Tr.get])⟩, brP (fun g7 => cdP (i64_nat hlt hK) ?_) fun g7 => bad hlt ?_ rfl ⟨.inl rfl, trivial⟩⟩) fun g6 => bad hlt ?_ rfl ⟨.inl rfl, trivial⟩⟩
      · have g6 : S.pcB (ka i) (fi i) = true := g6
        have g7 : S.pcB (kb i) (fl i) = true := g7
        have eo : S.fitA nf (S.legV k li q pu) (S.rowsV ka fi) fb (S.rowsV kb fl) i = true := by rw [S.fitA_eq, S.pcA_in g4 g5, g6, g7, g2, g3]; simp
        have e3 : S.from_ (S.fitA nf (S.legV k li q pu) (S.rowsV ka fi) fb (S.rowsV kb fl)) K0 i = S.from_ (S.fitA nf (S.legV k li q pu) (S.rowsV ka fi) fb (S.rowsV kb fl)) K0 (i + 1) := by rw [S.from_step hlt, eo, Bool.true_and]
        simp only [e3] at hL
        exact hX (i + 1) _ (by omega) (by omega) ⟨[some 0, some 1], HasR.mk _ rfl rfl heap (by simp [LiveR, WA, WC, WP', Tr.get])⟩ hL
      · have g7 : S.pcB (kb i) (fl i) = false := g7
        rw [S.fitA_eq, g7]; simp
      · have g6 : S.pcB (ka i) (fi i) = false := g6
        rw [S.fitA_eq, g6]; simp
    · have hlt : K0 ≤ i := by simpa using g1
      have e3 : S.from_ (S.fitA nf (S.legV k li q pu) (S.rowsV ka fi) fb (S.rowsV kb fl)) K0 i = true := S.from_end hlt
      simp only [e3] at hL
      exact HasR.out (l := []) (HasR.mk (ρ := [some 0, some 1]) rfl rfl heap trivial) hL
include hT16 in
theorem fc_law02_fits (e mo t l : Int) (nc : Nat) (c : S.Rows) (ns : Nat) (s : S.Rows) (ta tm r : Int) (nf : Nat) (f : S.Rows) (K0 : Nat) (k : Nat → Nat) (li : Nat → S.Rows) (q : S.Rows) (pu : Nat → Bool) (K1 : Nat) (ka : Nat → Nat) (fi : Nat → S.Rows) (ff : Int) (K2 : Nat) (fb : S.Rows) (K3 : Nat) (kb : Nat → Nat) (fl : Nat → S.Rows) (hK : K0 ≤ maxLen) (hk : ∀ i, i < K0 → k i ≤ maxLen) (hnf : nf ≤ maxLen) : FCall (cs16 hbs) f_law02_fits [.ag (plC e mo t l nc (S.val c) ns (S.val s) ta tm r nf (S.val f)), .c (.p (.isl 7 K0 (S.legV k li q pu))), .ag [.p (.isl 1 K1 (S.rowsV ka fi)), .p (.int .i64 ff), .p (.isl 1 K2 (S.val fb)), .p (.isl 1 K3 (S.rowsV kb fl))]] (vB (S.fitB nf K0 (S.legV k li q pu) K1 (S.rowsV ka fi) ff K2 fb K3 (S.rowsV kb fl))) [] := by
  have nb : ∀ {b : Bool} {H : Heap}, b = false → frzA H (.c (.p (.bool false))) = some (vB b) := fun h => by subst h; rfl
  refine fcall_k hT16 (F := F_law02_fits) rfl (vc_law02_fits e mo t l nc c ns s ta tm r nf f K0 k li q pu K1 ka fi ff K2 fb K3 kb fl _) ?_
  refine brP (fun g1 => nb ?_) fun g1 => brP (fun g2 => nb ?_) fun g2 => brP (fun g3 => nb ?_) fun g3 => brP (fun g4 => nb ?_) fun g4 => brP (fun g5 => nb ?_) fun g5 => ?_
  · simp at g1; simp [S.fitB, show ¬ (K1 : Int) = (K0 : Int) by omega]
  · simp at g2; simp [S.fitB, show ¬ (K2 : Int) = (K0 : Int) by omega]
  · simp at g3; simp [S.fitB, show ¬ (K3 : Int) = (K0 : Int) by omega]
  · simp at g4; simp [S.fitB, show ¬ 0 ≤ ff by omega]
  · simp at g5; simp [S.fitB, show ¬ ff ≤ 100 by omega]
  · have g1 : K1 = K0 := by simp at g1; omega
    have g2 : K2 = K0 := by simp at g2; omega
    have g3 : K3 = K0 := by simp at g3; omega
    have g4 : 0 ≤ ff := by simp at g4; omega
    have g5 : ff ≤ 100 := by simp at g5; omega
    refine ⟨go_law02_fits1 hT16 934 e mo t l nc c ns s ta tm r nf f K0 k li q pu K1 ka fi ff K2 fb K3 kb fl g1 g2 g3 hK hk hnf 0 _ (Nat.zero_le _) ⟨[some 0, some 1], HasR.mk _ rfl rfl ?_ ?_⟩, brP (fun g6 => ?_) fun g6 => nb ?_⟩
    · refine ⟨⟨rfl, ?_⟩, ⟨rfl, ?_⟩, trivial⟩ <;> simp [WL, WC, WP', plC]
    · simp [LiveR, WA, WC, WP', Tr.get]
    · refine frz_b ?_
      simp only [S.fitB, g6, g1, g2, g3, g4, g5]; simp
    · simp only [S.fitB, g6]; simp
end
section
variable {hbs : BsOk Tryd.prog}
theorem vs_law02_LoadAlong2 (fu i j : Nat) (e mo t l : Int) (nc : Nat) (c : S.Rows) (ns : Nat) (s : S.Rows) (ta tm r : Int) (nf : Nat) (f : S.Rows) (a b : Int) (K0 : Nat) (k : Nat → Nat) (li : Nat → S.Rows) (q : S.Rows) (pu : Nat → Bool) (K1 : Nat) (ka : Nat → Nat) (fi : Nat → S.Rows) (ff : Int) (K2 : Nat) (fb : S.Rows) (K3 : Nat) (kb : Nat → Nat) (fl : Nat → S.Rows) (fw tk : Int) (w : S.Rows) (bu W M : Int) (Q : AX → St → Prop) :
 ((fun (A0 : Heap) => ((fun (A1 : AV) => ((fun (A2 : Tr) => ((fun (A3 : AV) => ((fun (A4 : Tr) => ((fun (A5 : Tr) => ((fun (A6 : AV) => ((fun (A7 : Tr) => ((fun (A8 : Tr) => ((BrP (decide ((j : Int) < ((k i : Nat) : Int)))
 (CdP (.rng (j : Int) (k i))
 (CdP (.rng (i : Int) K1)
 (CdP (.rng (j : Int) (ka i))
 ((FCall (cs16 hbs) f_law02_part [(.ag [(cJ (li i j 1)), (cJ (li i j 2))]), (vJ (fi i j 0))] A1 []) ∧
 (CdP (.i64 ((100 : Int) * (S.part (li i j 1) (li i j 2) (fi i j 0))))
 (CdP (.i64 (W + ((100 : Int) * (S.part (li i j 1) (li i j 2) (fi i j 0)))))
 (CdP (.i64 ((100 : Int) * (S.part (li i j 1) (li i j 2) (fi i j 0))))
 (CdP (.rng (j : Int) (k i))
 (CdP (.rng (li i j 0) ns)
 (CdP (.i64 (((100 : Int) * (S.part (li i j 1) (li i j 2) (fi i j 0))) * (s (Int.toNat (li i j 0)) 0)))
 (CdP (.i64 (M + (((100 : Int) * (S.part (li i j 1) (li i j 2) (fi i j 0))) * (s (Int.toNat (li i j 0)) 0))))
 (CdP (.i64 ((j : Int) + (1 : Int)))
 (Q .normal ⟨(L4 (L4 (L4 (L4 (.nd (L2 (L3 (L1 (.c (.p (.ipt 2 (fun x39 => (.int .i64 (li i j (1 + x39)))))))))) (vJ tk) (L2 (L3 (L1 A1)))) (.nd (L2 (L3 (L1 (.c (.p (.ipt 1 (S.val (fi i) j))))))) A1 (L4 (L3 (L1 (vJ ((k i : Nat) : Int)))) (L3 (L1 (.c (.p (.ipt 3 (fun x39 => (.int .i64 (li i j (0 + x39)))))))))))) (L4 (.nd (L2 (L3 (L1 (vN i)))) (vJ bu) (L2 A7)) (L4 (L2 (L3 (L1 A1))) (L4 A7 (L3 (L1 (vJ (s (Int.toNat (li i j 0)) 0)))))))) (.nd (L4 (.nd (L2 (L3 (L1 (vT 2 0)))) (vN i) (L2 (L3 (L1 (vT 0 5))))) (L4 (L2 (L3 (L1 A1))) (L4 A5 (L3 (L1 (.c (.p (.ipt 2 (S.val s (Int.toNat (li i j 0))))))))))) (vT 0 0) (L4 (.nd (L2 (L3 (L1 (.c (.p (.isl 1 (ka i) (S.val (fi i)))))))) A3 (L4 A7 A5)) (L4 (L2 (L3 (L1 A6))) (L4 A5 (L3 (L1 A3))))))) (.nd (.nd (.nd (.nd (L2 (L3 (L1 (.ag [(cJ (li i j 1)), (cJ (li i j 2))])))) (.c (.sl 3 0 nf)) A4) (vT 2 0) (L4 (L2 (L3 (L1 (vJ (fi i j 0))))) (L4 (L3 (L1 (vB true))) (L3 (L1 (vJ (li i j 0))))))) (vJ fw) (L4 (.nd (L2 (L3 (L1 (.c (.p (.ipt 1 (S.rowsV ka fi i))))))) A6 (L4 A5 A2)) (L4 A4 (L4 A2 (L3 (L1 (vJ (((100 : Int) * (S.part (li i j 1) (li i j 2) (fi i j 0))) * (s (Int.toNat (li i j 0)) 0))))))))) (.c (.p (.isl 7 K0 (S.legV k li q pu)))) (L4 (L4 (.nd (L2 (L3 (L1 (.c (.p (.isl 1 K1 (S.rowsV ka fi))))))) (vT 4 0) (L2 (L3 (L1 (vS 2 ns s))))) (L4 (L2 (L3 (L1 (vJ W)))) (L4 (L3 (L1 (vJ ((j : Int) + (1 : Int))))) (L3 (L1 (.c (.p (.ipt 2 (fun x39 => (.int .i64 (s (Int.toNat (li i j 0)) (0 + x39)))))))))))) (L4 (.nd (L2 A5) (vJ ((j : Int) + (1 : Int))) (L4 A2 A8)) (L4 (L2 (L3 (L1 (vJ M)))) (L3 A8)))))), A0⟩)))))))))))))
 (Q (.exit 2) ⟨(L4 (L4 (L4 (L4 (L1 (vJ tk)) (L2 (L3 (L3 (L1 (vJ ((k i : Nat) : Int))))))) (L3 (L1 (vJ bu)))) (.nd (L3 (L1 (vN i))) (vT 0 0) (L3 (L5 (vJ M) (L3 A7))))) (.nd (.nd (.nd (L1 (.c (.sl 3 0 nf))) (vT 2 0) (L2 (L3 (L3 (L1 (vB false)))))) (vJ fw) (L3 (L5 (vJ W) (L3 A5)))) (.c (.p (.isl 7 K0 (S.legV k li q pu)))) (L4 A7 (L3 (L5 (vN j) (L3 A2)))))), A0⟩)))) (L3 (L1 (.c (.p (.ipt 3 (S.val (li i) j)))))))) (L3 (L1 (vT 4 0))))) (vJ (W + ((100 : Int) * (S.part (li i j 1) (li i j 2) (fi i j 0))))))) (L3 (L1 (vN j))))) (L2 (L3 (L1 (vJ ((100 : Int) * (S.part (li i j 1) (li i j 2) (fi i j 0))))))))) (vJ (M + (((100 : Int) * (S.part (li i j 1) (li i j 2) (fi i j 0))) * (s (Int.toNat (li i j 0)) 0)))))) (L3 (L1 (.c (.p (.isl 3 (k i) (S.val (li i))))))))) (vJ (S.part (li i j 1) (li i j 2) (fi i j 0))))) [(bP e mo t l nc c ns s ta tm r nf f), (some (.box t_api_Span [(cJ a), (cJ b)])), (some (.box t_law02_Flight [(.p (.isl 1 K1 (S.rowsV ka fi))), (cJ ff), (.p (.isl 1 K2 (S.val fb))), (.p (.isl 1 K3 (S.rowsV kb fl)))])), (some (.arr 1 3 nf (S.val w) [])), (some (.box t_api_LoadLeg [(.p (.isl 3 (k i) (S.val (li i)))), (.p (.bool (pu i))), (cJ (q i 0)), (cJ (q i 1)), (cJ (q i 2)), (cJ (q i 3)), (cJ (q i 4))]))]) = (ex (cs16 hbs) (fu + 49) 0 m_law02_LoadAlong_l2 ⟨setAll [(.o (.o (.o (.o .h))), .c (cJ tk)), (.o (.i .h), .c (.pt 0 0)), (.o (.i (.o (.o .h))), .c (cJ i)), (.i .h, .c (.p (.isl 7 K0 (S.legV k li q pu)))), (.i (.o .h), .c (cJ fw)), (.i (.o (.o .h)), .c (.pt 2 0)), (.i (.o (.o (.o .h))), .c (.sl 3 0 nf)), (.o (.o (.i (.o .h))), .c (cJ bu)), (.i (.o (.i (.o .h))), .c (cJ W)), (.o (.i (.i (.o .h))), .c (cJ M)), (.i (.i (.o (.o .h))), .c (.pt 4 0)), (.i (.i (.i (.o .h))), .c (cJ j))], [PB e mo t l nc c ns s ta tm r nf f, some (.box t_api_Span [.p (.int .i64 a), .p (.int .i64 b)]), some (.box t_law02_Flight [.p (.isl 1 K1 (S.rowsV ka fi)), .p (.int .i64 ff), .p (.isl 1 K2 (S.val fb)), .p (.isl 1 K3 (S.rowsV kb fl))]), some (.arr 1 t_int nf (S.val w) []), some (.box t_api_LoadLeg [.p (.isl 3 (k i) (S.val (li i))), .p (.bool (pu i)), .p (.int .i64 (q i 0)), .p (.int .i64 (q i 1)), .p (.int .i64 (q i 2)), .p (.int .i64 (q i 3)), .p (.int .i64 (q i 4))])]⟩ (fun e s => .pr (Q e s))).hold2 := by kernel_rfl
theorem vs_law02_LoadAlong3 (fu i j : Nat) (e mo t l : Int) (nc : Nat) (c : S.Rows) (ns : Nat) (s : S.Rows) (ta tm r : Int) (nf : Nat) (f : S.Rows) (a b : Int) (K0 : Nat) (k : Nat → Nat) (li : Nat → S.Rows) (q : S.Rows) (pu : Nat → Bool) (K1 : Nat) (ka : Nat → Nat) (fi : Nat → S.Rows) (ff : Int) (K2 : Nat) (fb : S.Rows) (K3 : Nat) (kb : Nat → Nat) (fl : Nat → S.Rows) (fw tk : Int) (w : S.Rows) (bu W M : Int) (Q : AX → St → Prop) :
 ((fun (A2 : Option Blk) => ((fun (A3 : AV) => ((fun (A5 : Option Blk) => ((fun (A9 : AV) => ((fun (A10 : Tr) => ((fun (A11 : AV) => ((fun (A13 : Tr) => ((fun (A14 : Tr) => ((fun (A15 : AV) => ((fun (A16 : AV) => ((fun (A17 : AV) => ((fun (A20 : AV) => ((fun (A23 : Tr) => ((fun (A24 : Tr) => ((fun (A25 : AV) => ((fun (A27 : Tr) => ((fun (A28 : Tr) => ((fun (A29 : Tr) => ((fun (A30 : AV) => ((fun (A31 : Tr) => ((fun (A33 : Tr) => ((fun (A34 : Tr) => ((fun (A35 : Tr) => ((fun (A36 : Tr) => ((fun (A37 : AV) => ((fun (A7 : Tr) => ((fun (A22 : Tr) => ((fun (A38 : Option Blk) => ((fun (A39 : Tr) => ((fun (A40 : Tr) => ((fun (A41 : Tr) => ((fun (A42 : Option Blk) => ((fun (A12 : Heap) => ((fun (A19 : Heap) => ((fun (A43 : Tr) => ((fun (A0 : Tr) => ((fun (A1 : Tr) => ((fun (A44 : Tr) => ((fun (A6 : Tr) => ((fun (A18 : Tr) => ((fun (A45 : Tr) => ((fun (A46 : Tr) => ((fun (A21 : Tr) => ((fun (A26 : Tr) => ((fun (A47 : AV) => ((fun (A32 : Tr) => ((fun (A48 : Tr) => ((fun (A4 : Tr) => ((fun (A8 : Tr) => ((BrP (decide ((j : Int) < (nf : Int)))
 (BrP (pu i)
 (CdP (.rng (j : Int) nf)
 (CdP (.le ((0 + j) + 1) nf)
 (CdP (.rng (j : Int) nf)
 (CdP (.le ((0 + j) + 1) nf)
 (CdP (.i64 ((100 : Int) * (S.upI (0 + j) 0 (0 + j) 0 (0 : Int) (w (0 + j) 0))))
 (CdP (.rng (i : Int) K3)
 (CdP (.rng (j : Int) (kb i))
 ((FCall (cs16 hbs) f_law02_part [A11, (vJ (fl i j 0))] A17 []) ∧
 (CdP (.i64 (fw * (S.part (q i 3) (q i 4) (fl i j 0))))
 (CdP (.i64 (((100 : Int) * (S.upI (0 + j) 0 (0 + j) 0 (0 : Int) (w (0 + j) 0))) + (fw * (S.part (q i 3) (q i 4) (fl i j 0)))))
 (CdP (.i64 (W + (((100 : Int) * (S.upI (0 + j) 0 (0 + j) 0 (0 : Int) (w (0 + j) 0))) + (fw * (S.part (q i 3) (q i 4) (fl i j 0))))))
 (CdP (.rng (j : Int) nf)
 (CdP (.i64 ((((100 : Int) * (S.upI (0 + j) 0 (0 + j) 0 (0 : Int) (w (0 + j) 0))) + (fw * (S.part (q i 3) (q i 4) (fl i j 0)))) * (f j 0)))
 (CdP (.i64 (M + ((((100 : Int) * (S.upI (0 + j) 0 (0 + j) 0 (0 : Int) (w (0 + j) 0))) + (fw * (S.part (q i 3) (q i 4) (fl i j 0)))) * (f j 0))))
 (CdP (.rng (j : Int) nf)
 (CdP (.le ((0 + j) + 1) nf)
 (CdP (.rng (i : Int) K3)
 (CdP (.rng (j : Int) (kb i))
 ((FCall (cs16 hbs) f_law02_part [A11, (vJ (fl i j 0))] A17 []) ∧
 (CdP (.i64 ((S.upI (0 + j) 0 (0 + j) 0 (0 : Int) (w (0 + j) 0)) + (S.part (q i 3) (q i 4) (fl i j 0))))
 (CdP (.rng (j : Int) nf)
 (CdP (.le ((0 + j) + 1) nf)
 (CdP (.rng (j : Int) nf)
 (CdP (.le ((0 + j) + 1) nf)
 (CdP (.rng (j : Int) nf)
 (BrP (decide ((S.upI (0 + j) 0 (0 + j) 0 ((S.upI (0 + j) 0 (0 + j) 0 (0 : Int) (w (0 + j) 0)) + (S.part (q i 3) (q i 4) (fl i j 0))) (S.upI (0 + j) 0 (0 + j) 0 (0 : Int) (w (0 + j) 0))) > (f j 1)))
 (Q .ret ⟨(L4 (L4 (L4 A4 (L4 A40 (L4 A41 (L4 (L2 (L1 A3)) (L2 A10))))) A0) (.nd (.nd (.nd (.nd (L4 A33 (L2 (L1 A3))) A16 A35) (vT 2 0) (.nd (L4 (L2 A10) (L2 (L1 A15))) (vN j) A24)) (vJ fw) A6) A25 (L4 (.nd A39 (vB false) A21) (L4 (L4 (L4 (L4 (L3 (L1 (vB true))) (L1 A16)) A45) (L4 A13 A13)) A18)))), A12⟩)
 (CdP (.i64 ((j : Int) + (1 : Int)))
 (Q .normal ⟨(L4 (L4 (L4 A4 (L4 A32 (L4 A41 (L4 (L2 (L1 A3)) (L2 A10))))) A0) (.nd (.nd (.nd (.nd (L4 A33 (L2 (L1 A3))) A16 A35) (vT 2 0) (.nd (L4 (L2 A10) (L2 (L1 A15))) A47 A24)) (vJ fw) A6) A25 (L4 (L4 A36 A21) (L4 (L4 (L4 (L4 (L3 (L1 (vB false))) (L1 A16)) A45) (L4 A13 A13)) A18)))), A12⟩))))))))))))))))))))))))))))
 (CdP (.rng (j : Int) nf)
 (CdP (.le ((0 + j) + 1) nf)
 (CdP (.i64 ((100 : Int) * (w (0 + j) 0)))
 (CdP (.rng (i : Int) K3)
 (CdP (.rng (j : Int) (kb i))
 ((FCall (cs16 hbs) f_law02_part [A11, (vJ (fl i j 0))] A17 []) ∧
 (CdP (.i64 (fw * (S.part (q i 3) (q i 4) (fl i j 0))))
 (CdP (.i64 (((100 : Int) * (w (0 + j) 0)) + (fw * (S.part (q i 3) (q i 4) (fl i j 0)))))
 (CdP (.i64 (W + (((100 : Int) * (w (0 + j) 0)) + (fw * (S.part (q i 3) (q i 4) (fl i j 0))))))
 (CdP (.rng (j : Int) nf)
 (CdP (.i64 ((((100 : Int) * (w (0 + j) 0)) + (fw * (S.part (q i 3) (q i 4) (fl i j 0)))) * (f j 0)))
 (CdP (.i64 (M + ((((100 : Int) * (w (0 + j) 0)) + (fw * (S.part (q i 3) (q i 4) (fl i j 0)))) * (f j 0))))
 (CdP (.rng (j : Int) nf)
 (CdP (.le ((0 + j) + 1) nf)
 (CdP (.rng (i : Int) K3)
 (CdP (.rng (j : Int) (kb i))
 ((FCall (cs16 hbs) f_law02_part [A11, (vJ (fl i j 0))] A17 []) ∧
 (CdP (.i64 ((w (0 + j) 0) + (S.part (q i 3) (q i 4) (fl i j 0))))
 (CdP (.rng (j : Int) nf)
 (CdP (.le ((0 + j) + 1) nf)
 (CdP (.rng (j : Int) nf)
 (CdP (.le ((0 + j) + 1) nf)
 (CdP (.rng (j : Int) nf)
 (BrP (decide ((S.upI (0 + j) 0 (0 + j) 0 ((w (0 + j) 0) + (S.part (q i 3) (q i 4) (fl i j 0))) (w (0 + j) 0)) > (f j 1)))
 (Q .ret ⟨(L4 (L4 (L4 A8 (L4 A40 (L4 A41 (L4 (L2 (L1 A9)) (L2 A10))))) A1) (.nd (.nd (.nd (.nd (L4 A33 (L2 (L1 A9))) A16 A35) (vT 2 0) (.nd (L2 (L2 (L1 A20))) (vN j) A24)) (vJ fw) A7) A25 (L4 (.nd A39 (vB false) A26) (L4 (L4 (L4 (L3 (L3 (L1 (vB true)))) A45) (L4 A13 A13)) A22)))), A19⟩)
 (CdP (.i64 ((j : Int) + (1 : Int)))
 (Q .normal ⟨(L4 (L4 (L4 A8 (L4 A32 (L4 A41 (L4 (L2 (L1 A9)) (L2 A10))))) A1) (.nd (.nd (.nd (.nd (L4 A33 (L2 (L1 A9))) A16 A35) (vT 2 0) (.nd (L2 (L2 (L1 A20))) A47 A24)) (vJ fw) A7) A25 (L4 (L4 A36 A26) (L4 (L4 (L4 (L3 (L3 (L1 (vB false)))) A45) (L4 A13 A13)) A22)))), A19⟩)))))))))))))))))))))))))))
 (Q (.exit 4) ⟨(L4 (L4 (L4 (L3 (L6 (L3 (L2 (L1 A16))) (vJ tk))) (L3 (L1 (vJ bu)))) (.nd (L3 (L6 (L3 (L2 (L1 (vB false)))) (vN i))) (vT 0 0) (L3 (L1 (vJ M))))) (.nd (.nd (.nd (L6 (L3 (L2 (L1 (vN nf)))) A16) (vT 2 0) (L1 (vN j))) (vJ fw) (L3 (L1 (vJ W)))) A25 (L4 (L3 (L1 (vT 4 0))) (L2 (L2 (L2 (L3 (L1 (vN j))))))))), [A42, A38, A5, (some (.arr 1 3 nf (S.val w) [])), A2]⟩)))) (L4 (.nd (L4 (L4 (L3 (L1 (vJ (S.upI (0 + j) 0 (0 + j) 0 ((w (0 + j) 0) + (S.part (q i 3) (q i 4) (fl i j 0))) (w (0 + j) 0))))) (L1 A16)) (L2 (L1 (vJ M)))) (vJ tk) (L4 A48 A48)) (L4 (L2 (L2 (L1 (vJ ((((100 : Int) * (w (0 + j) 0)) + (fw * (S.part (q i 3) (q i 4) (fl i j 0)))) * (f j 0)))))) (L4 A29 A29))))) (L4 (.nd (L4 (L4 (L3 (L1 (vJ (S.upI (0 + j) 0 (0 + j) 0 ((S.upI (0 + j) 0 (0 + j) 0 (0 : Int) (w (0 + j) 0)) + (S.part (q i 3) (q i 4) (fl i j 0))) (S.upI (0 + j) 0 (0 + j) 0 (0 : Int) (w (0 + j) 0)))))) (L1 A16)) (L2 (L1 (vJ M)))) (vJ tk) (L4 A48 A48)) (L4 (L4 A13 (L2 (L1 (vJ ((((100 : Int) * (S.upI (0 + j) 0 (0 + j) 0 (0 : Int) (w (0 + j) 0))) + (fw * (S.part (q i 3) (q i 4) (fl i j 0)))) * (f j 0)))))) (L4 A29 A29))))) (L2 (L1 (vT 4 5))))) (.nd (L4 (L4 (L3 A23) (L1 A47)) A13) (vJ bu) (L4 (L2 (L1 (vN i))) (L2 (L1 (vN i))))))) (vJ ((j : Int) + (1 : Int))))) (L4 (L4 A13 A13) (L4 A46 (L2 (L1 (vJ ((w (0 + j) 0) + (S.part (q i 3) (q i 4) (fl i j 0)))))))))) (L4 (L4 A13 A13) (L4 A46 (L2 (L1 (vJ ((S.upI (0 + j) 0 (0 + j) 0 (0 : Int) (w (0 + j) 0)) + (S.part (q i 3) (q i 4) (fl i j 0)))))))))) (L2 (L1 (vJ (fw * (S.part (q i 3) (q i 4) (fl i j 0)))))))) (L2 (L1 (vJ (f j 0)))))) (L4 (L4 (L2 (L1 (vJ fw))) A44) (L4 (L2 (L1 A30)) (L4 (L1 (vN j)) A10))))) (L4 (.nd A34 A30 (L4 A28 A28)) (L4 (L4 A44 A13) (L4 (L2 (L1 (vJ W))) (L2 (L1 A16))))))) (L2 (L1 (vJ (S.upI (0 + j) 0 (0 + j) 0 (0 : Int) (w (0 + j) 0))))))) (.nd (L4 A31 (.nd (L4 (L2 (L1 A16)) (L2 (L1 A16))) A9 (L4 (L2 (L1 A17)) (L2 (L1 A17))))) (vT 0 0) (L4 (.nd (L4 (L4 (L3 (L1 (vJ (f j 1)))) (L1 (vB false))) A43) A20 (L4 A27 A27)) (L4 (L4 (L2 (L1 (vJ ((100 : Int) * (w (0 + j) 0))))) (L2 A10)) (L4 (L2 (L1 A9)) A13)))))) (.nd (L4 A31 (.nd (L4 (L2 (L1 A16)) (L2 (L1 A16))) A3 (L4 (L2 (L1 A17)) (L2 (L1 A17))))) (vT 0 0) (L4 (.nd (L4 (L4 (L3 (L1 (vJ (f j 1)))) (L1 (vB true))) A43) A15 (L4 A27 A27)) (L4 (L4 (L2 (L1 (vJ ((100 : Int) * (S.upI (0 + j) 0 (0 + j) 0 (0 : Int) (w (0 + j) 0)))))) (L2 A10)) (L4 (L2 (L1 A3)) A13)))))) (L2 (L1 (.c (.p (.ipt 2 (fun x39 => (.int .i64 (f j (0 + x39))))))))))) [A42, A38, A5, (some (.arr 1 3 nf (fun x39 => (fun x40 => (.int .i64 (S.upI (0 + j) 0 x39 x40 ((w (0 + j) 0) + (S.part (q i 3) (q i 4) (fl i j 0))) (w x39 x40))))) [])), A2])) [A42, A38, A5, (some (.arr 1 3 nf (fun x39 => (fun x40 => (.int .i64 (S.upI (0 + j) 0 x39 x40 ((S.upI (0 + j) 0 (0 + j) 0 (0 : Int) (w (0 + j) 0)) + (S.part (q i 3) (q i 4) (fl i j 0))) (S.upI (0 + j) 0 x39 x40 (0 : Int) (w x39 x40)))))) [])), A2])) (bP e mo t l nc c ns s ta tm r nf f))) (L4 (L2 A10) (L2 (L1 A16))))) (.nd (L4 (L3 (L3 A23)) A13) (vJ bu) (L4 (L2 (L1 (vN i))) (L2 (L1 (vN i))))))) (.nd (L4 (L3 (L3 (L1 (vN j)))) (L2 (L1 (vS 2 nf f)))) (vT 4 0) (L4 A14 A14)))) (some (.box t_api_Span [(cJ a), (cJ b)])))) (L4 (L4 (L2 (L1 (vJ fw))) (L2 (L1 (vJ (w (0 + j) 0))))) (L4 (L2 (L1 A37)) (L4 (L1 (vN j)) A10))))) (L4 (.nd A34 A37 (L4 A28 A28)) (L4 (L4 (L2 (L1 (vJ (w (0 + j) 0)))) A13) (L4 (L2 (L1 (vJ W))) (L2 (L1 A16))))))) (vJ (W + (((100 : Int) * (w (0 + j) 0)) + (fw * (S.part (q i 3) (q i 4) (fl i j 0)))))))) (.nd (L4 (L4 (L3 (L1 (vN j))) (L1 (vN j))) (L2 (L1 (vS 2 nf f)))) (vT 4 0) (L4 A14 A14)))) (L4 (L2 (L1 A11)) (L2 (L1 A11))))) (L4 (L4 (L3 (L1 (.c (.p (.ipt 1 (fun x39 => (.int .i64 (f j (1 + x39))))))))) (L1 (vT 4 1))) (L2 A23)))) (L4 (L3 (L1 (vT 0 9))) (L1 (vN nf))))) (.nd (L4 (L4 (L3 (L1 (vS 2 nf f))) (L1 (vB true))) (L2 (L1 (vT 0 9)))) (vN i) (L4 (L2 (L1 (vT 2 3))) (L2 (L1 (vT 2 3))))))) (vJ (W + (((100 : Int) * (S.upI (0 + j) 0 (0 + j) 0 (0 : Int) (w (0 + j) 0))) + (fw * (S.part (q i 3) (q i 4) (fl i j 0)))))))) (L2 (L1 (.c (.p (.ipt 1 (S.val (fl i) j)))))))) (L2 (L1 (.c (.p (.ipt 1 (S.rowsV kb fl i)))))))) (L2 (L1 (.c (.p (.isl 1 (kb i) (S.val (fl i))))))))) (.c (.p (.isl 7 K0 (S.legV k li q pu)))))) (L4 (L2 (L1 (vJ (fl i j 0)))) (L2 (L1 (vJ (fl i j 0))))))) (L1 (.c (.p (.ipt 2 (S.val f j))))))) (vJ (M + ((((100 : Int) * (w (0 + j) 0)) + (fw * (S.part (q i 3) (q i 4) (fl i j 0)))) * (f j 0)))))) (vJ (S.part (q i 3) (q i 4) (fl i j 0))))) (.c (.sl 3 0 nf)))) (vJ (M + ((((100 : Int) * (S.upI (0 + j) 0 (0 + j) 0 (0 : Int) (w (0 + j) 0))) + (fw * (S.part (q i 3) (q i 4) (fl i j 0)))) * (f j 0)))))) (L2 (L1 (.c (.p (.isl 1 K3 (S.rowsV kb fl)))))))) (L2 (L1 (vN j))))) (.ag [(cJ (q i 3)), (cJ (q i 4))]))) (L1 (.c (.pe 3 (0 + j) 0))))) (vJ (((100 : Int) * (w (0 + j) 0)) + (fw * (S.part (q i 3) (q i 4) (fl i j 0))))))) (some (.box t_law02_Flight [(.p (.isl 1 K1 (S.rowsV ka fi))), (cJ ff), (.p (.isl 1 K2 (S.val fb))), (.p (.isl 1 K3 (S.rowsV kb fl)))])))) (vJ (((100 : Int) * (S.upI (0 + j) 0 (0 + j) 0 (0 : Int) (w (0 + j) 0))) + (fw * (S.part (q i 3) (q i 4) (fl i j 0))))))) (some (.box t_api_LoadLeg [(.p (.isl 3 (k i) (S.val (li i)))), (.p (.bool (pu i))), (cJ (q i 0)), (cJ (q i 1)), (cJ (q i 2)), (cJ (q i 3)), (cJ (q i 4))]))) = (ex (cs16 hbs) (fu + 48) 0 m_law02_LoadAlong_l3 ⟨setAll [(.o (.o (.o (.o .h))), .c (cJ tk)), (.o (.i .h), .c (.pt 0 0)), (.o (.i (.o (.o .h))), .c (cJ i)), (.i .h, .c (.p (.isl 7 K0 (S.legV k li q pu)))), (.i (.o .h), .c (cJ fw)), (.i (.o (.o .h)), .c (.pt 2 0)), (.i (.o (.o (.o .h))), .c (.sl 3 0 nf)), (.o (.o (.i (.o .h))), .c (cJ bu)), (.i (.o (.i (.o .h))), .c (cJ W)), (.o (.i (.i (.o .h))), .c (cJ M)), (.i (.i (.o (.o .h))), .c (.pt 4 0)), (.i (.o (.o (.i .h))), .c (cJ j))], [PB e mo t l nc c ns s ta tm r nf f, some (.box t_api_Span [.p (.int .i64 a), .p (.int .i64 b)]), some (.box t_law02_Flight [.p (.isl 1 K1 (S.rowsV ka fi)), .p (.int .i64 ff), .p (.isl 1 K2 (S.val fb)), .p (.isl 1 K3 (S.rowsV kb fl))]), some (.arr 1 t_int nf (S.val w) []), some (.box t_api_LoadLeg [.p (.isl 3 (k i) (S.val (li i))), .p (.bool (pu i)), .p (.int .i64 (q i 0)), .p (.int .i64 (q i 1)), .p (.int .i64 (q i 2)), .p (.int .i64 (q i 3)), .p (.int .i64 (q i 4))])]⟩ (fun e s => .pr (Q e s))).hold2 := by kernel_rfl
theorem vs_law02_LoadAlong4 (fu i j : Nat) (e mo t l : Int) (nc : Nat) (c : S.Rows) (ns : Nat) (s : S.Rows) (ta tm r : Int) (nf : Nat) (f : S.Rows) (a b : Int) (K0 : Nat) (k : Nat → Nat) (li : Nat → S.Rows) (q : S.Rows) (pu : Nat → Bool) (K1 : Nat) (ka : Nat → Nat) (fi : Nat → S.Rows) (ff : Int) (K2 : Nat) (fb : S.Rows) (K3 : Nat) (kb : Nat → Nat) (fl : Nat → S.Rows) (fw tk : Int) (w : S.Rows) (bu W M : Int) (Q : AX → St → Prop) :
 ((fun (A3 : List CV) => ((fun (A6 : Tr) => ((fun (A7 : Option Blk) => ((fun (A1 : Heap) => ((fun (A8 : Tr) => ((fun (A9 : Tr) => ((fun (A10 : Tr) => ((fun (A11 : Tr) => ((fun (A5 : Tr) => ((fun (A12 : AV) => ((fun (A13 : Tr) => ((fun (A14 : Tr) => ((fun (A15 : Tr) => ((fun (A2 : Tr) => ((fun (A16 : AV) => ((fun (A4 : Tr) => ((fun (A17 : Tr) => ((fun (A18 : Tr) => ((fun (A0 : Tr) => ((BrP (decide ((j : Int) < (nc : Int)))
 (CdP (.rng (j : Int) nc)
 (CdP (.i64 ((j : Int) + (1 : Int)))
 (CdP (.ne (nc : Int))
 (CdP (.rng (Int.tmod ((j : Int) + (1 : Int)) (nc : Int)) nc)
 (CdP (.i64 ((c (Int.toNat (Int.tmod ((j : Int) + (1 : Int)) (nc : Int))) 0) - (c j 0)))
 (CdP (.i64 ((100 : Int) * (c j 1)))
 (CdP (.i64 (M - ((100 : Int) * (c j 1))))
 (CdP (.i64 (((c (Int.toNat (Int.tmod ((j : Int) + (1 : Int)) (nc : Int))) 0) - (c j 0)) * (M - ((100 : Int) * (c j 1)))))
 (CdP (.i64 ((c (Int.toNat (Int.tmod ((j : Int) + (1 : Int)) (nc : Int))) 1) - (c j 1)))
 (CdP (.i64 ((100 : Int) * (c j 0)))
 (CdP (.i64 (W - ((100 : Int) * (c j 0))))
 (CdP (.i64 (((c (Int.toNat (Int.tmod ((j : Int) + (1 : Int)) (nc : Int))) 1) - (c j 1)) * (W - ((100 : Int) * (c j 0)))))
 (CdP (.i64 ((((c (Int.toNat (Int.tmod ((j : Int) + (1 : Int)) (nc : Int))) 0) - (c j 0)) * (M - ((100 : Int) * (c j 1)))) - (((c (Int.toNat (Int.tmod ((j : Int) + (1 : Int)) (nc : Int))) 1) - (c j 1)) * (W - ((100 : Int) * (c j 0))))))
 (BrP (decide (((((c (Int.toNat (Int.tmod ((j : Int) + (1 : Int)) (nc : Int))) 0) - (c j 0)) * (M - ((100 : Int) * (c j 1)))) - (((c (Int.toNat (Int.tmod ((j : Int) + (1 : Int)) (nc : Int))) 1) - (c j 1)) * (W - ((100 : Int) * (c j 0))))) < (0 : Int)))
 (Q .ret ⟨(L4 (L4 A0 (.nd A2 (vT 0 0) (L4 A13 (L4 (L2 (L3 (L3 (L1 (vJ W))))) (L3 (L3 (L3 (L1 (vT 5 0))))))))) (.nd (.nd A5 (vJ fw) (L4 (.nd (L2 A17) (vJ W) (L4 A8 (L3 (L3 (L1 (vB true)))))) (.nd (L2 A9) (vT 5 0) (L3 (L3 (L3 (L1 (.ag A3)))))))) A12 (L4 (.nd A6 (vB false) (.nd (L4 A15 A18) (vN j) A14)) A4))), A1⟩)
 (CdP (.i64 ((j : Int) + (1 : Int)))
 (Q .normal ⟨(L4 (L4 A0 (.nd A2 (vT 0 0) (L4 A13 (L4 (L4 (L3 (L3 (L1 A16))) (L3 (L3 (L1 (vJ W))))) (L3 (L3 (L3 (L1 (vT 5 0))))))))) (.nd (.nd A5 (vJ fw) (L4 (.nd (L2 A17) (vJ W) (L4 A8 (L3 (L3 (L1 (vB false)))))) (.nd (L4 A10 A9) (vT 5 0) (L3 (L3 (L3 (L1 (.ag A3)))))))) A12 (L4 (L4 A6 (.nd (L4 A15 A18) A16 A14)) A4))), A1⟩))))))))))))))))
 (Q (.exit 6) ⟨(L4 (L4 (L4 (L4 (L1 (vJ tk)) (L3 (L3 A10))) (L4 (L1 (vJ bu)) (L3 (L3 (L3 (L3 (L1 (vB false)))))))) (.nd (L4 (L1 (vN i)) (L3 (L3 A8))) (vT 0 0) (L3 (L1 (vJ M))))) (.nd (.nd (.nd (L1 (.c (.sl 3 0 nf))) (vT 2 0) (L3 (L3 A11))) (vJ fw) (L3 (L1 (vJ W)))) A12 (L3 (L2 (L6 (L3 A15) (vN j)))))), [(bP e mo t l nc c ns s ta tm r nf f), (some (.box t_api_Span [(cJ a), (cJ b)])), A7, (some (.arr 1 3 nf (S.val w) []))]⟩)))) (L4 (L4 (.nd (L2 (L3 (L3 (L1 (vT 4 0))))) (vJ tk) (L4 A8 (L3 (L3 (L1 (vJ (c j 0))))))) (L4 (L4 A10 (L3 (L3 (L1 (vJ (((c (Int.toNat (Int.tmod ((j : Int) + (1 : Int)) (nc : Int))) 0) - (c j 0)) * (M - ((100 : Int) * (c j 1))))))))) (L3 A11))) (L4 (.nd (L2 A18) (vJ bu) (L4 A11 (L3 (L3 (L1 (vJ ((((c (Int.toNat (Int.tmod ((j : Int) + (1 : Int)) (nc : Int))) 0) - (c j 0)) * (M - ((100 : Int) * (c j 1)))) - (((c (Int.toNat (Int.tmod ((j : Int) + (1 : Int)) (nc : Int))) 1) - (c j 1)) * (W - ((100 : Int) * (c j 0))))))))))) (.nd (L4 (L3 (L3 (L1 (vB true)))) A17) (vT 4 0) (L3 (L3 (L3 (L1 (.c (.p (.ipt 2 (S.val c (Int.toNat (Int.tmod ((j : Int) + (1 : Int)) (nc : Int)))))))))))))))) (L3 (L3 (L1 (vT 4 1)))))) (L3 (L3 (L1 (vJ (c j 1))))))) (L4 (L4 (L2 (L3 (L3 (L1 (vJ (M - ((100 : Int) * (c j 1)))))))) (L3 (L3 (L3 (L1 A16))))) (L4 (L4 A11 (L3 (L3 (L1 (vT 4 0))))) (L3 (L3 (L3 (L1 (vJ (c (Int.toNat (Int.tmod ((j : Int) + (1 : Int)) (nc : Int))) 0)))))))))) (vJ ((j : Int) + (1 : Int))))) (L4 (.nd (L2 (L3 (L3 (L1 (vJ ((c (Int.toNat (Int.tmod ((j : Int) + (1 : Int)) (nc : Int))) 0) - (c j 0))))))) (vN i) (L4 (L3 (L3 (L1 (.c (.p (.ipt 2 (S.val c j))))))) (L3 (L3 (L1 (vJ (W - ((100 : Int) * (c j 0))))))))) (L4 (L4 A8 (L3 (L3 (L1 (vJ (c (Int.toNat (Int.tmod ((j : Int) + (1 : Int)) (nc : Int))) 1)))))) (L3 A15))))) (L3 (L3 (L1 (vN nc)))))) (L3 (L3 (L3 (L1 (vJ (Int.tmod ((j : Int) + (1 : Int)) (nc : Int))))))))) (.nd (L2 (L3 (L3 (L1 (vJ ((100 : Int) * (c j 1))))))) (vJ M) (L3 A10)))) (.c (.p (.isl 7 K0 (S.legV k li q pu)))))) (.nd (.nd (L2 (L3 (L3 (L1 (vJ (c j 0)))))) (.c (.sl 3 0 nf)) (L4 A10 (L3 (L3 (L1 (vJ ((100 : Int) * (c j 0)))))))) (vT 2 0) (L4 (L4 A11 (L3 (L3 (L1 (vT 5 1))))) (L3 A8))))) (L3 (L3 (L1 (vT 0 4)))))) (L3 (L3 (L1 (vN j)))))) (L3 (L3 (L1 (vJ ((c (Int.toNat (Int.tmod ((j : Int) + (1 : Int)) (nc : Int))) 1) - (c j 1)))))))) (L3 (L3 (L1 (vS 2 nc c)))))) [(bP e mo t l nc c ns s ta tm r nf f), (some (.box t_api_Span [(cJ a), (cJ b)])), A7, (some (.arr 1 3 nf (S.val w) [])), (some (.box t_api_LoadCorner [(cJ (c j 0)), (cJ (c j 1))])), (some (.box t_api_LoadCorner A3))])) (some (.box t_law02_Flight [(.p (.isl 1 K1 (S.rowsV ka fi))), (cJ ff), (.p (.isl 1 K2 (S.val fb))), (.p (.isl 1 K3 (S.rowsV kb fl)))])))) (L4 (L2 (L3 (L3 (L1 (vJ M))))) (L4 (L3 (L3 (L1 (.ag [(cJ (c j 0)), (cJ (c j 1))])))) (L3 (L3 (L1 (vJ (((c (Int.toNat (Int.tmod ((j : Int) + (1 : Int)) (nc : Int))) 1) - (c j 1)) * (W - ((100 : Int) * (c j 0)))))))))))) [(cJ (c (Int.toNat (Int.tmod ((j : Int) + (1 : Int)) (nc : Int))) 0)), (cJ (c (Int.toNat (Int.tmod ((j : Int) + (1 : Int)) (nc : Int))) 1))]) = (ex (cs16 hbs) (fu + 47) 0 m_law02_LoadAlong_l4 ⟨setAll [(.o (.o (.o (.o .h))), .c (cJ tk)), (.o (.i .h), .c (.pt 0 0)), (.o (.i (.o (.o .h))), .c (cJ i)), (.i .h, .c (.p (.isl 7 K0 (S.legV k li q pu)))), (.i (.o .h), .c (cJ fw)), (.i (.o (.o .h)), .c (.pt 2 0)), (.i (.o (.o (.o .h))), .c (.sl 3 0 nf)), (.o (.o (.i (.o .h))), .c (cJ bu)), (.i (.o (.i (.o .h))), .c (cJ W)), (.o (.i (.i (.o .h))), .c (cJ M)), (.i (.i (.o (.i .h))), .c (cJ j))], [PB e mo t l nc c ns s ta tm r nf f, some (.box t_api_Span [.p (.int .i64 a), .p (.int .i64 b)]), some (.box t_law02_Flight [.p (.isl 1 K1 (S.rowsV ka fi)), .p (.int .i64 ff), .p (.isl 1 K2 (S.val fb)), .p (.isl 1 K3 (S.rowsV kb fl))]), some (.arr 1 t_int nf (S.val w) [])]⟩ (fun e s => .pr (Q e s))).hold2 := by kernel_rfl
end
end Go.Ab.B
namespace Go.Ab.S
theorem mulK {x y X : Int} (h1 : 0 ≤ x) (h2 : x ≤ X) (h3 : -1000 ≤ y) (h4 : y ≤ 1000) : -(X * 1000) ≤ x * y ∧ x * y ≤ X * 1000 := by
  have a := Int.mul_le_mul_of_nonneg_left h4 h1
  have b := Int.mul_le_mul_of_nonneg_left h3 h1
  omega
end Go.Ab.S
namespace Go.Ab.B
open Go.Proofs
section
variable {hbs : BsOk Tryd.prog} (hT12 : TabOk (cs12 hbs)) (hT16 : TabOk (cs16 hbs))
abbrev hpA (e mo t l : Int) (nc : Nat) (c : S.Rows) (ns : Nat) (s : S.Rows) (ta tm r : Int) (nf : Nat) (f : S.Rows) (a b : Int) (K1 : Nat) (ka : Nat → Nat) (fi : Nat → S.Rows) (ff : Int) (K2 : Nat) (fb : S.Rows) (K3 : Nat) (kb : Nat → Nat) (fl : Nat → S.Rows) (w : S.Rows) : Heap := [PB e mo t l nc c ns s ta tm r nf f, some (.box t_api_Span [.p (.int .i64 a), .p (.int .i64 b)]), some (.box t_law02_Flight [.p (.isl 1 K1 (S.rowsV ka fi)), .p (.int .i64 ff), .p (.isl 1 K2 (S.val fb)), .p (.isl 1 K3 (S.rowsV kb fl))]), some (.arr 1 t_int nf (S.val w) [])]
abbrev bxL (k : Nat → Nat) (li : Nat → S.Rows) (q : S.Rows) (pu : Nat → Bool) (i : Nat) : Option Blk := some (.box t_api_LoadLeg [.p (.isl 3 (k i) (S.val (li i))), .p (.bool (pu i)), .p (.int .i64 (q i 0)), .p (.int .i64 (q i 1)), .p (.int .i64 (q i 2)), .p (.int .i64 (q i 3)), .p (.int .i64 (q i 4))])
include hT12 in
theorem go_law02_LoadAlong2 (fu i : Nat) (e mo t l : Int) (nc : Nat) (c : S.Rows) (ns : Nat) (s : S.Rows) (ta tm r : Int) (nf : Nat) (f : S.Rows) (a b : Int) (K0 : Nat) (k : Nat → Nat) (li : Nat → S.Rows) (q : S.Rows) (pu : Nat → Bool) (K1 : Nat) (ka : Nat → Nat) (fi : Nat → S.Rows) (ff : Int) (K2 : Nat) (fb : S.Rows) (K3 : Nat) (kb : Nat → Nat) (fl : Nat → S.Rows) (fw tk : Int) (w : S.Rows) (bu W M : Int) (hi : i < K1) (hka : ka i = k i) (hk : k i ≤ 12) (hit : ∀ j, j < k i → (0 ≤ li i j 0 ∧ li i j 0 < ns) ∧ (0 ≤ li i j 1 ∧ li i j 1 ≤ li i j 2 ∧ li i j 2 ≤ 20000)) (hs : ∀ x, x < ns → -1000 ≤ s x 0 ∧ s x 0 ≤ 1000) (hpc : ∀ j, j < k i → 0 ≤ fi i j 0 ∧ fi i j 0 ≤ 100) (hW : -1000000000 ≤ W ∧ W ≤ 1000000000) (hM : -1000000000000 ≤ M ∧ M ≤ 1000000000000) :
    ∀ (j : Nat) (st : St), j ≤ k i → (∃ ρ, HasR 0 ρ st (alO K0 (S.legV k li q pu) fw tk i nf ++ [(.o (.o (.i (.o .h))), vI .i64 bu), (.i (.o (.i (.o .h))), vI .i64 (W + S.sumR (S.alW (li i) (fi i)) j 0)), (.o (.i (.i (.o .h))), vI .i64 (M + S.sumR (S.alM (li i) (fi i) s) j 0)), (.i (.i (.o (.o .h))), .c (.pt 4 0)), (.i (.i (.i (.o .h))), vI .i64 j)]) (hpA e mo t l nc c ns s ta tm r nf f a b K1 ka fi ff K2 fb K3 kb fl w ++ [bxL k li q pu i])) →
      LoopGo (ex (cs16 hbs) (fu + 49)) 0 m_law02_LoadAlong_l2 st (.e (.exit 2) ⟨setAll (alO K0 (S.legV k li q pu) fw tk i nf ++ [(.o (.o (.i (.o .h))), vI .i64 bu), (.i (.o (.i (.o .h))), vI .i64 (W + S.sumR (S.alW (li i) (fi i)) (k i) 0)), (.o (.i (.i (.o .h))), vI .i64 (M + S.sumR (S.alM (li i) (fi i) s) (k i) 0)), (.i (.i (.o (.o .h))), .c (.pt 4 0))]), hpA e mo t l nc c ns s ta tm r nf f a b K1 ka fi ff K2 fb K3 kb fl w ++ [bxL k li q pu i]⟩) :=
  loop_kR (σ := Nat) (fun j => alO K0 (S.legV k li q pu) fw tk i nf ++ [(.o (.o (.i (.o .h))), vI .i64 bu), (.i (.o (.i (.o .h))), vI .i64 (W + S.sumR (S.alW (li i) (fi i)) j 0)), (.o (.i (.i (.o .h))), vI .i64 (M + S.sumR (S.alM (li i) (fi i) s) j 0)), (.i (.i (.o (.o .h))), .c (.pt 4 0)), (.i (.i (.i (.o .h))), vI .i64 j)]) (fun _ => hpA e mo t l nc c ns s ta tm r nf f a b K1 ka fi ff K2 fb K3 kb fl w ++ [bxL k li q pu i]) (fun j => j ≤ k i) (fun j => k i - j) (fun _ => .e (.exit 2) ⟨setAll (alO K0 (S.legV k li q pu) fw tk i nf ++ [(.o (.o (.i (.o .h))), vI .i64 bu), (.i (.o (.i (.o .h))), vI .i64 (W + S.sumR (S.alW (li i) (fi i)) (k i) 0)), (.o (.i (.i (.o .h))), vI .i64 (M + S.sumR (S.alM (li i) (fi i) s) (k i) 0)), (.i (.i (.o (.o .h))), .c (.pt 4 0))]), hpA e mo t l nc c ns s ta tm r nf f a b K1 ka fi ff K2 fb K3 kb fl w ++ [bxL k li q pu i]⟩) _
    (fun j Q => vs_law02_LoadAlong2 (hbs := hbs) fu i j e mo t l nc c ns s ta tm r nf f a b K0 k li q pu K1 ka fi ff K2 fb K3 kb fl fw tk w bu (W + S.sumR (S.alW (li i) (fi i)) j 0) (M + S.sumR (S.alM (li i) (fi i) s) j 0) Q) fun j hj' K hL X hX => by
    have heap : WH (hpA e mo t l nc c ns s ta tm r nf f a b K1 ka fi ff K2 fb K3 kb fl w ++ [bxL k li q pu i]) [some 0, some 1, some 2, some 3, some 4] [some 0, some 1, some 2, some 3, some 4] (hpA e mo t l nc c ns s ta tm r nf f a b K1 ka fi ff K2 fb K3 kb fl w ++ [bxL k li q pu i]) := by
      refine ⟨⟨rfl, ?_⟩, ⟨rfl, ?_⟩, ⟨rfl, ?_⟩, ⟨rfl, rfl, rfl, fun _ _ _ _ => rfl, rfl⟩, ⟨rfl, ?_⟩, trivial⟩ <;> simp [WL, WC, WP', plC]
    have bW : ∀ x, x < k i → 0 ≤ S.alW (li i) (fi i) x ∧ S.alW (li i) (fi i) x ≤ 2000000 := fun x hx => by
      have h := hit x hx
      have h2 := S.part_in h.2.2.1 (hpc x hx).1 (hpc x hx).2
      unfold S.alW; omega
    have bM : ∀ x, x < k i → -2000000000 ≤ S.alM (li i) (fi i) s x ∧ S.alM (li i) (fi i) s x ≤ 2000000000 := fun x hx => by
      have h := hit x hx
      have h2 := bW x hx
      have h3 := hs (li i x 0).toNat (by omega)
      exact S.mulK (X := 2000000) h2.1 h2.2 h3.1 h3.2
    refine brP (fun h1 => ?_) fun h1 => ?_
    · have hlt : j < k i := by simpa using h1
      have h := hit j hlt
      have hp := hpc j hlt
      have cW := bW j hlt
      have cM := bM j hlt
      have sW := S.sumR_in (f := S.alW (li i) (fi i)) (B := 2000000) (k := j) (i := 0) fun x _ hx => by have := bW x (by omega); omega
      have sM := S.sumR_in (f := S.alM (li i) (fi i) s) (B := 2000000000) (k := j) (i := 0) fun x _ hx => bM x (by omega)
      have eW : W + S.sumR (S.alW (li i) (fi i)) j 0 + 100 * S.part (li i j 1) (li i j 2) (fi i j 0) = W + S.sumR (S.alW (li i) (fi i)) (j + 1) 0 := by rw [S.sumR_snoc, Nat.zero_add, ← Int.add_assoc]; rfl
      have eM : M + S.sumR (S.alM (li i) (fi i) s) j 0 + 100 * S.part (li i j 1) (li i j 2) (fi i j 0) * s (li i j 0).toNat 0 = M + S.sumR (S.alM (li i) (fi i) s) (j + 1) 0 := by rw [S.sumR_snoc, Nat.zero_add, ← Int.add_assoc]; rfl
      have uW : 100 * S.part (li i j 1) (li i j 2) (fi i j 0) = S.alW (li i) (fi i) j := rfl
      have uM : 100 * S.part (li i j 1) (li i j 2) (fi i j 0) * s (li i j 0).toNat 0 = S.alM (li i) (fi i) s j := rfl
      refine cdP (idx_ok hlt) (cdP (idx_ok hi) (cdP (idx_ok (by omega)) ⟨FCall.cfg (C := cs12 hbs) (C' := cs16 hbs) rfl rfl (fc_law02_part hT12 _ _ _ h.2.2.1 (by omega) (by omega) hp.1 hp.2), cdP (i64_of (by omega) (by omega)) (cdP (i64_of (by omega) (by omega)) (cdP (i64_of (by omega) (by omega)) (cdP (idx_ok hlt) (cdP (show Cd.holds (.rng _ _) from ⟨h.1.1, h.1.2⟩) (cdP (i64_of (by rw [uM]; omega) (by rw [uM]; omega)) (cdP (i64_of (by rw [uM]; omega) (by rw [uM]; omega)) (cdP (i64_of (by omega) (by omega)) ?_)))))))⟩))
      exact hX (j + 1) _ (by omega) (by omega) ⟨[some 0, some 1, some 2, some 3, some 4], HasR.mk _ rfl rfl heap (by simp [LiveR, WA, WC, WP', Tr.get, eW, eM])⟩ hL
    · have hlt : k i ≤ j := by simpa using h1
      obtain rfl : j = k i := by omega
      exact HasR.out (l := alO K0 (S.legV k li q pu) fw tk i nf ++ ([(.o (.o (.i (.o .h))), vI .i64 bu), (.i (.o (.i (.o .h))), vI .i64 (W + S.sumR (S.alW (li i) (fi i)) (k i) 0)), (.o (.i (.i (.o .h))), vI .i64 (M + S.sumR (S.alM (li i) (fi i) s) (k i) 0)), (.i (.i (.o (.o .h))), .c (.pt 4 0))] : List (Ps × AV))) (HasR.mk (ρ := [some 0, some 1, some 2, some 3, some 4]) rfl rfl heap (by simp [LiveR, WA, WC, WP', Tr.get])) hL
theorem go_law02_LoadAlong4 (fu i : Nat) (e mo t l : Int) (nc : Nat) (c : S.Rows) (ns : Nat) (s : S.Rows) (ta tm r : Int) (nf : Nat) (f : S.Rows) (a b : Int) (K0 : Nat) (k : Nat → Nat) (li : Nat → S.Rows) (q : S.Rows) (pu : Nat → Bool) (K1 : Nat) (ka : Nat → Nat) (fi : Nat → S.Rows) (ff : Int) (K2 : Nat) (fb : S.Rows) (K3 : Nat) (kb : Nat → Nat) (fl : Nat → S.Rows) (fw tk : Int) (w : S.Rows) (bu W M : Int) (hc : S.cor nc c = true) (hnc : nc ≤ 1000) (hW : -1000000000 ≤ W ∧ W ≤ 1000000000) (hM : -1000000000000 ≤ M ∧ M ≤ 1000000000000) (hsd : ∀ j, j < nc → 0 ≤ (c (S.nxt nc j) 0 - c j 0) * (M - 100 * c j 1) - (c (S.nxt nc j) 1 - c j 1) * (W - 100 * c j 0)) :
    ∀ (j : Nat) (st : St), j ≤ nc → (∃ ρ, HasR 0 ρ st (alO K0 (S.legV k li q pu) fw tk i nf ++ [(.o (.o (.i (.o .h))), vI .i64 bu), (.i (.o (.i (.o .h))), vI .i64 W), (.o (.i (.i (.o .h))), vI .i64 M), (.i (.i (.o (.i .h))), vI .i64 j)]) (hpA e mo t l nc c ns s ta tm r nf f a b K1 ka fi ff K2 fb K3 kb fl w)) →
      LoopGo (ex (cs16 hbs) (fu + 47)) 0 m_law02_LoadAlong_l4 st (.e (.exit 6) ⟨setAll (alO K0 (S.legV k li q pu) fw tk i nf ++ [(.o (.o (.i (.o .h))), vI .i64 bu), (.i (.o (.i (.o .h))), vI .i64 W)]), hpA e mo t l nc c ns s ta tm r nf f a b K1 ka fi ff K2 fb K3 kb fl w⟩) :=
  loop_kR (σ := Nat) (fun j => alO K0 (S.legV k li q pu) fw tk i nf ++ [(.o (.o (.i (.o .h))), vI .i64 bu), (.i (.o (.i (.o .h))), vI .i64 W), (.o (.i (.i (.o .h))), vI .i64 M), (.i (.i (.o (.i .h))), vI .i64 j)]) (fun _ => hpA e mo t l nc c ns s ta tm r nf f a b K1 ka fi ff K2 fb K3 kb fl w) (fun j => j ≤ nc) (fun j => nc - j) (fun _ => .e (.exit 6) ⟨setAll (alO K0 (S.legV k li q pu) fw tk i nf ++ [(.o (.o (.i (.o .h))), vI .i64 bu), (.i (.o (.i (.o .h))), vI .i64 W)]), hpA e mo t l nc c ns s ta tm r nf f a b K1 ka fi ff K2 fb K3 kb fl w⟩) _
    (fun j Q => vs_law02_LoadAlong4 (hbs := hbs) fu i j e mo t l nc c ns s ta tm r nf f a b K0 k li q pu K1 ka fi ff K2 fb K3 kb fl fw tk w bu W M Q) fun j hj' K hL X hX => by
    have hnm : nc ≤ maxLen := Nat.le_trans hnc (by decide)
    refine brP (fun h1 => ?_) fun h1 => ?_
    · have hlt : j < nc := by simpa using h1
      have e1 : Int.tmod ((j : Int) + 1) (nc : Int) = (S.nxt nc j : Int) := S.nxt_tmod (by omega)
      have e2 : (Int.tmod ((j : Int) + 1) (nc : Int)).toNat = S.nxt nc j := by rw [e1]; rfl
      have hx : S.nxt nc j < nc := S.nxt_lt (by omega)
      obtain ⟨b1, b2, b3, b4, _, _⟩ := S.sd_in (w := 0) (m := 0) hc hlt (by omega) (by omega) (by omega) (by omega)
      have p1 := mul_in (A := 20000) (B := 1002000000000) (a := c (S.nxt nc j) 0 - c j 0) (b := M - 100 * c j 1) (by omega) (by omega) (by omega) (by omega)
      have p2 := mul_in (A := 40000000) (B := 1002000000) (a := c (S.nxt nc j) 1 - c j 1) (b := W - 100 * c j 0) (by omega) (by omega) (by omega) (by omega)
      have hs := hsd j hlt
      simp only [e2]
      rw [e1]
      refine cdP (idx_ok hlt) (cdP (i64_nat hlt hnm) (cdP (ne_nat (by omega)) (cdP (idx_ok hx) (cdP (i64_of (by omega) (by omega)) (cdP (i64_of (by omega) (by omega)) (cdP (i64_of (by omega) (by omega)) (cdP (i64_of (by omega) (by omega)) (cdP (i64_of (by omega) (by omega)) (cdP (i64_of (by omega) (by omega)) (cdP (i64_of (by omega) (by omega)) (cdP (i64_of (by omega) (by omega)) (cdP (i64_of (by omega) (by omega)) (brP (fun h2 => ?_) fun h2 => cdP (i64_nat hlt hnm) ?_)))))))))))))
      · exact absurd h2 (by simp; omega)
      · refine hX (j + 1) _ (by omega) (by omega) ⟨[some 0, some 1, some 2, some 3], HasR.mk _ rfl rfl ?_ ?_⟩ hL
        · refine ⟨⟨rfl, ?_⟩, ⟨rfl, ?_⟩, ⟨rfl, ?_⟩, ⟨rfl, rfl, rfl, fun _ _ _ _ => rfl, rfl⟩, trivial⟩ <;> simp [WL, WC, WP', plC]
        · simp [LiveR, WA, WC, WP', Tr.get]
    · have hlt : nc ≤ j := by simpa using h1
      refine HasR.out (l := alO K0 (S.legV k li q pu) fw tk i nf ++ ([(.o (.o (.i (.o .h))), vI .i64 bu), (.i (.o (.i (.o .h))), vI .i64 W)] : List (Ps × AV))) (HasR.mk (ρ := [some 0, some 1, some 2, some 3]) rfl rfl ?_ ?_) hL
      · refine ⟨⟨rfl, ?_⟩, ⟨rfl, ?_⟩, ⟨rfl, ?_⟩, ⟨rfl, rfl, rfl, fun _ _ _ _ => rfl, rfl⟩, trivial⟩ <;> simp [WL, WC, WP', plC]
      · simp [LiveR, WA, WC, WP', Tr.get]
end
end Go.Ab.B
namespace Go.Ab.S
theorem upI_self (a b : Nat) (v y : Int) : upI a b a b v y = v := by simp [upI]
def wJ (p : Bool) (w : Rows) (lo hi : Int) (a : Rows) (j : Nat) : Rows := fun x y => bif Nat.blt x j then flA p w lo hi a x y else w x y
theorem wJ_at (p : Bool) (w : Rows) (lo hi : Int) (a : Rows) (j y : Nat) : wJ p w lo hi a j j y = w j y := by
  have : Nat.blt j j = false := by rw [← Bool.not_eq_true, Nat.blt_eq]; omega
  simp only [wJ, this, cond_false]
theorem wJ_step {p : Bool} {w : Rows} {lo hi : Int} {a : Rows} {j x y : Nat} {Y : Int} (hy : y < 1) (hY : x ≠ j → Y = wJ p w lo hi a j x y) : upI j 0 x y (pmp p (w j 0) + part lo hi (a j 0)) Y = wJ p w lo hi a (j + 1) x y := by
  obtain rfl : y = 0 := by omega
  by_cases h : x = j
  · subst h
    have : Nat.blt x (x + 1) = true := by rw [Nat.blt_eq]; omega
    rw [upI_self]
    simp only [wJ, this, cond_true, flA]
  · have e : Nat.beq x j = false := by rw [← Bool.not_eq_true, Nat.beq_eq]; exact h
    have e2 : Nat.blt x (j + 1) = Nat.blt x j := by
      rw [Bool.eq_iff_iff, Nat.blt_eq, Nat.blt_eq]; omega
    rw [show upI j 0 x 0 (pmp p (w j 0) + part lo hi (a j 0)) Y = Y by simp [upI, e], hY h]
    simp only [wJ, e2]
theorem wJ_end {p : Bool} {w : Rows} {lo hi : Int} {a : Rows} {n x y : Nat} (h : x < n) : wJ p w lo hi a n x y = flA p w lo hi a x y := by
  have : Nat.blt x n = true := by rw [Nat.blt_eq]; exact h
  simp only [wJ, this, cond_true]
end Go.Ab.S
namespace Go.Ab.B
open Go.Proofs
section
variable {hbs : BsOk Tryd.prog} (hT12 : TabOk (cs12 hbs)) (hT16 : TabOk (cs16 hbs))
abbrev lv3 (K0 : Nat) (g : Nat → Nat → PV) (fw tk : Int) (i nf : Nat) (bu W M : Int) : List (Ps × AV) := alO K0 g fw tk i nf ++ [(.o (.o (.i (.o .h))), vI .i64 bu), (.i (.o (.i (.o .h))), vI .i64 W), (.o (.i (.i (.o .h))), vI .i64 M)]
abbrev j3 (j : Nat) : List (Ps × AV) := [(.i (.i (.o (.o .h))), .c (.pt 4 0)), (.i (.o (.o (.i .h))), vI .i64 j)]
include hT12 in
theorem go_law02_LoadAlong3 (fu i : Nat) (e mo t l : Int) (nc : Nat) (c : S.Rows) (ns : Nat) (s : S.Rows) (ta tm r : Int) (nf : Nat) (f : S.Rows) (a b : Int) (K0 : Nat) (k : Nat → Nat) (li : Nat → S.Rows) (q : S.Rows) (pu : Nat → Bool) (K1 : Nat) (ka : Nat → Nat) (fi : Nat → S.Rows) (ff : Int) (K2 : Nat) (fb : S.Rows) (K3 : Nat) (kb : Nat → Nat) (fl : Nat → S.Rows) (fw tk : Int) (w : S.Rows) (bu W M : Int) (hi : i < K3) (hkb : kb i = nf) (hnf : nf ≤ 10) (hq : 0 ≤ q i 3 ∧ q i 3 ≤ q i 4 ∧ q i 4 ≤ 20000) (hfw : 0 ≤ fw ∧ fw ≤ 100) (hf : ∀ x, x < nf → -1000 ≤ f x 0 ∧ f x 0 ≤ 1000) (hpc : ∀ x, x < nf → 0 ≤ fl i x 0 ∧ fl i x 0 ≤ 100) (hw : ∀ x, x < nf → 0 ≤ w x 0 ∧ w x 0 ≤ 1000000) (hwet : ∀ x, x < nf → S.pmp (pu i) (w x 0) + S.part (q i 3) (q i 4) (fl i x 0) ≤ f x 1) (hW : -1000000000 ≤ W ∧ W ≤ 1000000000) (hM : -1000000000000 ≤ M ∧ M ≤ 1000000000000) :
    ∀ (j : Nat) (st : St), j ≤ nf → (∃ ρ, HasR 0 ρ st (lv3 K0 (S.legV k li q pu) fw tk i nf bu (W + S.sumR (S.flW (pu i) w (q i 3) (q i 4) fw (fl i)) j 0) (M + S.sumR (S.flM (pu i) w (q i 3) (q i 4) fw (fl i) f) j 0) ++ j3 j) (hpA e mo t l nc c ns s ta tm r nf f a b K1 ka fi ff K2 fb K3 kb fl (S.wJ (pu i) w (q i 3) (q i 4) (fl i) j) ++ [bxL k li q pu i])) →
      LoopGo (ex (cs16 hbs) (fu + 48)) 0 m_law02_LoadAlong_l3 st (.e (.exit 4) ⟨setAll (lv3 K0 (S.legV k li q pu) fw tk i nf bu (W + S.sumR (S.flW (pu i) w (q i 3) (q i 4) fw (fl i)) nf 0) (M + S.sumR (S.flM (pu i) w (q i 3) (q i 4) fw (fl i) f) nf 0)), hpA e mo t l nc c ns s ta tm r nf f a b K1 ka fi ff K2 fb K3 kb fl (S.flA (pu i) w (q i 3) (q i 4) (fl i))⟩) :=
  loop_kR (σ := Nat) (fun j => lv3 K0 (S.legV k li q pu) fw tk i nf bu (W + S.sumR (S.flW (pu i) w (q i 3) (q i 4) fw (fl i)) j 0) (M + S.sumR (S.flM (pu i) w (q i 3) (q i 4) fw (fl i) f) j 0) ++ j3 j) (fun j => hpA e mo t l nc c ns s ta tm r nf f a b K1 ka fi ff K2 fb K3 kb fl (S.wJ (pu i) w (q i 3) (q i 4) (fl i) j) ++ [bxL k li q pu i]) (fun j => j ≤ nf) (fun j => nf - j) (fun _ => .e (.exit 4) ⟨setAll (lv3 K0 (S.legV k li q pu) fw tk i nf bu (W + S.sumR (S.flW (pu i) w (q i 3) (q i 4) fw (fl i)) nf 0) (M + S.sumR (S.flM (pu i) w (q i 3) (q i 4) fw (fl i) f) nf 0)), hpA e mo t l nc c ns s ta tm r nf f a b K1 ka fi ff K2 fb K3 kb fl (S.flA (pu i) w (q i 3) (q i 4) (fl i))⟩) _
    (fun j Q => vs_law02_LoadAlong3 (hbs := hbs) fu i j e mo t l nc c ns s ta tm r nf f a b K0 k li q pu K1 ka fi ff K2 fb K3 kb fl fw tk (S.wJ (pu i) w (q i 3) (q i 4) (fl i) j) bu (W + S.sumR (S.flW (pu i) w (q i 3) (q i 4) fw (fl i)) j 0) (M + S.sumR (S.flM (pu i) w (q i 3) (q i 4) fw (fl i) f) j 0) Q) fun j hj' K hL X hX => by
    have bP : ∀ x, x < nf → 0 ≤ S.part (q i 3) (q i 4) (fl i x 0) ∧ S.part (q i 3) (q i 4) (fl i x 0) ≤ 20000 := fun x hx => by
      have := S.part_in hq.2.1 (hpc x hx).1 (hpc x hx).2
      omega
    have bX : ∀ x, x < nf → 0 ≤ S.pmp (pu i) (w x 0) ∧ S.pmp (pu i) (w x 0) ≤ 1000000 := fun x hx => by
      have := hw x hx
      cases pu i <;> simp only [S.pmp] <;> omega
    have bF : ∀ x, x < nf → (-2000000 ≤ fw * S.part (q i 3) (q i 4) (fl i x 0) ∧ fw * S.part (q i 3) (q i 4) (fl i x 0) ≤ 2000000) ∧ -103000000 ≤ S.flW (pu i) w (q i 3) (q i 4) fw (fl i) x ∧ S.flW (pu i) w (q i 3) (q i 4) fw (fl i) x ≤ 103000000 := fun x hx => by
      have h1 := bP x hx
      have h2 := bX x hx
      have h3 := mul_in (A := 100) (B := 20000) (a := fw) (b := S.part (q i 3) (q i 4) (fl i x 0)) (by omega) (by omega) (by omega) (by omega)
      unfold S.flW; omega
    have bM : ∀ x, x < nf → -103000000000 ≤ S.flM (pu i) w (q i 3) (q i 4) fw (fl i) f x ∧ S.flM (pu i) w (q i 3) (q i 4) fw (fl i) f x ≤ 103000000000 := fun x hx => by
      have h1 := (bF x hx).2
      have h2 := hf x hx
      exact mul_in (A := 103000000) (B := 1000) (a := S.flW (pu i) w (q i 3) (q i 4) fw (fl i) x) (b := f x 0) (by omega) (by omega) (by omega) (by omega)
    refine brP (fun h1 => ?_) fun h1 => ?_
    · have hlt : j < nf := by simpa using h1
      have hp := hpc j hlt
      have cP := bP j hlt
      have cX := bX j hlt
      have cF := bF j hlt
      have cM := bM j hlt
      have cw := hwet j hlt
      have hw0 := hw j hlt
      have sW := S.sumR_in (f := S.flW (pu i) w (q i 3) (q i 4) fw (fl i)) (B := 103000000) (k := j) (i := 0) fun x _ hx => (bF x (by omega)).2
      have sM := S.sumR_in (f := S.flM (pu i) w (q i 3) (q i 4) fw (fl i) f) (B := 103000000000) (k := j) (i := 0) fun x _ hx => bM x (by omega)
      have eW : W + S.sumR (S.flW (pu i) w (q i 3) (q i 4) fw (fl i)) j 0 + (100 * S.pmp (pu i) (w j 0) + fw * S.part (q i 3) (q i 4) (fl i j 0)) = W + S.sumR (S.flW (pu i) w (q i 3) (q i 4) fw (fl i)) (j + 1) 0 := by rw [S.sumR_snoc, Nat.zero_add, Int.add_assoc]; rfl
      have eM : M + S.sumR (S.flM (pu i) w (q i 3) (q i 4) fw (fl i) f) j 0 + (100 * S.pmp (pu i) (w j 0) + fw * S.part (q i 3) (q i 4) (fl i j 0)) * f j 0 = M + S.sumR (S.flM (pu i) w (q i 3) (q i 4) fw (fl i) f) (j + 1) 0 := by rw [S.sumR_snoc, Nat.zero_add, ← Int.add_assoc]; rfl
      have eR : ∀ (x y : Nat) (Y : Int), y < 1 → (x ≠ j → Y = S.wJ (pu i) w (q i 3) (q i 4) (fl i) j x y) → S.upI j 0 x y (S.pmp (pu i) (w j 0) + S.part (q i 3) (q i 4) (fl i j 0)) Y = S.wJ (pu i) w (q i 3) (q i 4) (fl i) (j + 1) x y := fun x y Y hy hY => S.wJ_step hy hY
      have uW : S.flW (pu i) w (q i 3) (q i 4) fw (fl i) j = 100 * S.pmp (pu i) (w j 0) + fw * S.part (q i 3) (q i 4) (fl i j 0) := rfl
      have uM : S.flM (pu i) w (q i 3) (q i 4) fw (fl i) f j = (100 * S.pmp (pu i) (w j 0) + fw * S.part (q i 3) (q i 4) (fl i j 0)) * f j 0 := rfl
      have fP : FCall (cs16 hbs) f_law02_part [.ag [.p (.int .i64 (q i 3)), .p (.int .i64 (q i 4))], .c (.p (.int .i64 (fl i j 0)))] (vI .i64 (S.part (q i 3) (q i 4) (fl i j 0))) [] := FCall.cfg (C := cs12 hbs) (C' := cs16 hbs) rfl rfl (fc_law02_part hT12 _ _ _ hq.2.1 (by omega) (by omega) hp.1 hp.2)
      have hle : Cd.holds (.le (j + 1) nf) := show j + 1 ≤ nf by omega
      have nm : nf ≤ maxLen := Nat.le_trans hnf (by decide)
      rw [uW] at cF
      rw [uM] at cM
      have ix : ∀ {x y : Nat} {Y : Int}, x ≠ j → S.upI j 0 x y 0 Y = Y := fun {x y Y} h => by
        have e : Nat.beq x j = false := by rw [← Bool.not_eq_true, Nat.beq_eq]; exact h
        simp [S.upI, e]
      refine brP (fun hp1 => ?_) fun hp1 => ?_
      · have e0 : S.pmp (pu i) (w j 0) = 0 := by rw [hp1]; rfl
        rw [e0] at cX cF cM cw eW eM
        simp only [e0] at eR
        simp only [Nat.zero_add, S.upI_self, S.wJ_at]
        refine cdP (idx_ok hlt) (cdP hle (cdP (idx_ok hlt) (cdP hle (cdP (i64_of (by omega) (by omega)) (cdP (idx_ok hi) (cdP (idx_ok (by omega)) ⟨fP, cdP (i64_of (by omega) (by omega)) (cdP (i64_of (by omega) (by omega)) (cdP (i64_of (by omega) (by omega)) (cdP (idx_ok hlt) (cdP (i64_of (by omega) (by omega)) (cdP (i64_of (by omega) (by omega)) (cdP (idx_ok hlt) (cdP hle (cdP (idx_ok hi) (cdP (idx_ok (by omega)) ⟨fP, cdP (i64_of (by omega) (by omega)) (cdP (idx_ok hlt) (cdP hle (cdP (idx_ok hlt) (cdP hle (cdP (idx_ok hlt) (brP (fun h2 => absurd h2 (by simp; omega)) fun h2 => cdP (i64_nat hlt nm) ?_))))))⟩)))))))))⟩))))))
        refine hX (j + 1) _ (by omega) (by omega) ⟨[some 0, some 1, some 2, some 3, some 4], HasR.mk _ rfl rfl ?_ ?_⟩ hL
        · refine ⟨⟨rfl, ?_⟩, ⟨rfl, ?_⟩, ⟨rfl, ?_⟩, ⟨rfl, rfl, rfl, fun x y hx hy => congrArg (PV.int .i64) (eR x y _ hy fun h => ix h), rfl⟩, ⟨rfl, ?_⟩, trivial⟩ <;> simp [WL, WC, WP', plC]
        · simp only [e0] at eW eM ⊢; simp [LiveR, WA, WC, WP', Tr.get, ← eW, ← eM]
      · have e0 : S.pmp (pu i) (w j 0) = w j 0 := by rw [hp1]; rfl
        rw [e0] at cX cF cM cw eW eM
        simp only [e0] at eR
        simp only [Nat.zero_add, S.upI_self, S.wJ_at]
        refine cdP (idx_ok hlt) (cdP hle (cdP (i64_of (by omega) (by omega)) (cdP (idx_ok hi) (cdP (idx_ok (by omega)) ⟨fP, cdP (i64_of (by omega) (by omega)) (cdP (i64_of (by omega) (by omega)) (cdP (i64_of (by omega) (by omega)) (cdP (idx_ok hlt) (cdP (i64_of (by omega) (by omega)) (cdP (i64_of (by omega) (by omega)) (cdP (idx_ok hlt) (cdP hle (cdP (idx_ok hi) (cdP (idx_ok (by omega)) ⟨fP, cdP (i64_of (by omega) (by omega)) (cdP (idx_ok hlt) (cdP hle (cdP (idx_ok hlt) (cdP hle (cdP (idx_ok hlt) (brP (fun h2 => absurd h2 (by simp; omega)) fun h2 => cdP (i64_nat hlt nm) ?_))))))⟩)))))))))⟩))))
        refine hX (j + 1) _ (by omega) (by omega) ⟨[some 0, some 1, some 2, some 3, some 4], HasR.mk _ rfl rfl ?_ ?_⟩ hL
        · refine ⟨⟨rfl, ?_⟩, ⟨rfl, ?_⟩, ⟨rfl, ?_⟩, ⟨rfl, rfl, rfl, fun x y hx hy => congrArg (PV.int .i64) (eR x y _ hy fun h => rfl), rfl⟩, ⟨rfl, ?_⟩, trivial⟩ <;> simp [WL, WC, WP', plC]
        · simp only [e0] at eW eM ⊢; simp [LiveR, WA, WC, WP', Tr.get, ← eW, ← eM]
    · have hlt : nf ≤ j := by simpa using h1
      obtain rfl : nf = j := by omega
      refine HasR.out (l := lv3 K0 (S.legV k li q pu) fw tk i nf bu (W + S.sumR (S.flW (pu i) w (q i 3) (q i 4) fw (fl i)) nf 0) (M + S.sumR (S.flM (pu i) w (q i 3) (q i 4) fw (fl i) f) nf 0)) (HasR.mk (ρ := [some 0, some 1, some 2, some 3]) rfl rfl ?_ ?_) hL
      · refine ⟨⟨rfl, ?_⟩, ⟨rfl, ?_⟩, ⟨rfl, ?_⟩, ⟨rfl, rfl, rfl, fun x y hx _ => congrArg (PV.int .i64) (S.wJ_end hx), rfl⟩, trivial⟩ <;> simp [WL, WC, WP', plC]
      · simp [LiveR, WA, WC, WP', Tr.get]
end
end Go.Ab.B
namespace Go.Ab.S
theorem sumR_mul (q : Int) (v : Nat → Int) : ∀ (k i : Nat), sumR (fun j => q * v j) k i = q * sumR v k i
  | 0, i => by simp [sumR]
  | k + 1, i => by simp only [sumR]; rw [sumR_mul q v k (i + 1), Int.mul_add]
theorem sumR_two (u v : Nat → Int) : ∀ (k i : Nat), sumR (fun j => u j + v j) k i = sumR u k i + sumR v k i
  | 0, i => by simp [sumR]
  | k + 1, i => by simp only [sumR]; rw [sumR_two u v k (i + 1)]; omega
theorem sd_mix (nc : Nat) (c : Rows) (i : Nat) (p W M W' M' : Int) :
    (c (nxt nc i) 0 - c i 0) * (((100 - p) * M + p * M') - 100 * c i 1) - (c (nxt nc i) 1 - c i 1) * (((100 - p) * W + p * W') - 100 * c i 0) = (100 - p) * sd nc c i W M + p * sd nc c i W' M' := by
  simp only [sd]
  generalize c (nxt nc i) 0 - c i 0 = A
  generalize c (nxt nc i) 1 - c i 1 = B
  have key : ∀ x y z : Int, ((100 - p) * x + p * y) - 100 * z = (100 - p) * (x - z) + p * (y - z) := fun x y z => by
    rw [Int.mul_sub, Int.mul_sub, Int.sub_mul, Int.sub_mul]
    omega
  rw [key, key]
  generalize M - c i 1 = a
  generalize M' - c i 1 = b
  generalize W - c i 0 = d
  generalize W' - c i 0 = e
  generalize 100 - p = q
  rw [Int.mul_add, Int.mul_add, Int.mul_sub, Int.mul_sub, Int.mul_left_comm A q a, Int.mul_left_comm A p b, Int.mul_left_comm B q d, Int.mul_left_comm B p e]
  omega
section
variable {e mo t l : Int} {nc : Nat} {c : Rows} {ns : Nat} {s : Rows} {ta tm r : Int} {nf : Nat} {f : Rows} {n : Nat} {it : Rows} {lo hi : Int} {m : Nat} {wt : Rows} {ld : Bool} {cc : Rows} {tk : Int} {ww : Rows}
theorem sure_truth (hs : SureOk e mo t l nc c ns s ta tm r nf f n it lo hi m wt ld) (hmf : m = nf) (h1 : ∀ i, i < n → it i 1 ≤ cc i 0 ∧ cc i 0 ≤ it i 2) (h2 : lo ≤ tk ∧ tk ≤ hi) (h3 : ∀ i, i < m → wt i 0 ≤ ww i 0 ∧ ww i 0 ≤ wt i 1) :
    (∀ i, i < nc → 0 ≤ sd nc c i (wgt e tk n cc m ww) (mom mo tk ta n cc it s m ww f)) ∧ wgt e tk n cc m ww ≤ (match ld with | true => l | false => t) ∧ (ld = true → r ≤ tk) ∧ ∀ i, i < m → ww i 0 ≤ f i 1 := by
  obtain ⟨v, hv⟩ : ∃ v : Nat → Int, Parts n cc tk m ww v := ⟨fun i => if i < n then cc i 0 else if i = n then tk else ww (i - n - 1) 0, fun i h => by simp [h], by simp, fun j h => by
    have e1 : ¬ n + 1 + j < n := by omega
    have e2 : ¬ n + 1 + j = n := by omega
    have e3 : n + 1 + j - n - 1 = j := by omega
    simp only [e1, e2, e3, if_false]⟩
  have hb : ∀ j, j < n + 1 + m → parts n it s lo hi ta wt f j 0 ≤ v j ∧ v j ≤ parts n it s lo hi ta wt f j 1 := fun j hj => by
    rcases parts_cases hj with h | h | ⟨q, hq1, h⟩
    · rw [hv.it j h, parts_it h, parts_it h]; exact h1 j h
    · subst h; rw [hv.tk, parts_tk, parts_tk]; exact h2
    · subst h; rw [hv.wt q hq1, parts_wt, parts_wt]; exact h3 q hq1
  have hsum := sums_in hb
  rw [wgt_eq hv, mom_eq (lo := lo) (hi := hi) (wt := wt) hv]
  refine ⟨fun i hi' => ?_, ?_, fun hl => ?_, fun i hi' => ?_⟩
  · have a1 := hs.out i hi'
    have a2 := side_ge (e := e) (mo := mo) (nc := nc) (c := c) hb i
    omega
  · have a1 := hs.heavy
    simp only [heavyX] at a1
    cases ld <;> simp only [] at a1 ⊢ <;> omega
  · have := hs.short hl; omega
  · have := hs.wet i (by omega)
    have := h3 i hi'
    omega
end
def tkA (a b ff : Int) (q fb : Rows) : Nat → Int
  | 0 => part a b ff
  | i + 1 => tkA a b ff q fb i + q i 0 - part (q i 1) (q i 2) (fb i 0)
def wtA (pu : Nat → Bool) (q : Rows) (fl : Nat → Rows) : Nat → Rows
  | 0 => fun _ _ => 0
  | i + 1 => flA (pu i) (wtA pu q fl i) (q i 3) (q i 4) (fl i)
structure AlOk (nf K0 : Nat) (k : Nat → Nat) (K1 : Nat) (ka : Nat → Nat) (fi : Nat → Rows) (ff : Int) (K2 : Nat) (fb : Rows) (K3 : Nat) (kb : Nat → Nat) (fl : Nat → Rows) : Prop where
  hK : K1 = K0 ∧ K2 = K0 ∧ K3 = K0
  hff : 0 ≤ ff ∧ ff ≤ 100
  hfb : ∀ i, i < K0 → 0 ≤ fb i 0 ∧ fb i 0 ≤ 100
  hka : ∀ i, i < K0 → ka i = k i
  hkb : ∀ i, i < K0 → kb i = nf
  hfi : ∀ i, i < K0 → ∀ j, j < k i → 0 ≤ fi i j 0 ∧ fi i j 0 ≤ 100
  hfl : ∀ i, i < K0 → ∀ x, x < nf → 0 ≤ fl i x 0 ∧ fl i x 0 ≤ 100
theorem al_ok {nf K0 : Nat} {k : Nat → Nat} {li : Nat → Rows} {q : Rows} {pu : Nat → Bool} {K1 : Nat} {ka : Nat → Nat} {fi : Nat → Rows} {ff : Int} {K2 : Nat} {fb : Rows} {K3 : Nat} {kb : Nat → Nat} {fl : Nat → Rows} (h : fitB nf K0 (legV k li q pu) K1 (rowsV ka fi) ff K2 fb K3 (rowsV kb fl) = true) : AlOk nf K0 k K1 ka fi ff K2 fb K3 kb fl := by
  simp only [fitB, Bool.and_eq_true, decide_eq_true_eq] at h
  obtain ⟨⟨⟨⟨h1, h2⟩, h3⟩, h4⟩, h5⟩ := h
  have hx : ∀ i, i < K0 → ((ka i : Int) = (k i : Int) ∧ (kb i : Int) = (nf : Int)) ∧ (0 ≤ fb i 0 ∧ fb i 0 ≤ 100) ∧ pcB (ka i) (fi i) = true ∧ pcB (kb i) (fl i) = true := fun i hi => by
    have h6 := from_iff.1 h5 i (Nat.zero_le _) hi
    have h6 : (decide ((ka i : Int) = (k i : Int)) && decide ((kb i : Int) = (nf : Int)) && pcA fb i && pcB (ka i) (fi i) && pcB (kb i) (fl i)) = true := h6
    simp only [pcA, Bool.and_eq_true, decide_eq_true_eq] at h6
    exact ⟨h6.1.1.1, h6.1.1.2, h6.1.2, h6.2⟩
  have hpc : ∀ {n : Nat} {w : Rows}, pcB n w = true → ∀ j, j < n → 0 ≤ w j 0 ∧ w j 0 ≤ 100 := fun h j hj => by
    have := from_iff.1 h j (Nat.zero_le _) hj
    simpa only [pcA, Bool.and_eq_true, decide_eq_true_eq] using this
  refine ⟨by omega, h4, fun i hi => (hx i hi).2.1, fun i hi => by have := (hx i hi).1.1; omega, fun i hi => by have := (hx i hi).1.2; omega, fun i hi j hj => hpc (hx i hi).2.2.1 j (by have := (hx i hi).1.1; omega), fun i hi j hj => hpc (hx i hi).2.2.2 j (by have := (hx i hi).1.2; omega)⟩
section
variable {e mo t l : Int} {nc : Nat} {c : Rows} {ns : Nat} {s : Rows} {ta tm r : Int} {nf : Nat} {f : Rows} {a b : Int} {K0 : Nat} {k : Nat → Nat} {li : Nat → Rows} {q : Rows} {pu : Nat → Bool} {K1 : Nat} {ka : Nat → Nat} {fi : Nat → Rows} {ff : Int} {K2 : Nat} {fb : Rows} {K3 : Nat} {kb : Nat → Nat} {fl : Nat → Rows}
theorem al_in (h : TrOk ns a b K0 k li q) (hA : AlOk nf K0 k K1 ka fi ff K2 fb K3 kb fl) : ∀ (i : Nat), i ≤ K0 →
    (tkL a (legV k li q pu) i ≤ tkA a b ff q fb i ∧ tkA a b ff q fb i ≤ tkH b (legV k li q pu) i) ∧ ∀ x, x < nf → wtL (legV k li q pu) i ≤ wtA pu q fl i x 0 ∧ wtA pu q fl i x 0 ≤ wtH (legV k li q pu) i
  | 0, _ => by
    have h1 := part_in (pc := ff) (show a ≤ b from h.hab.2.1) hA.hff.1 hA.hff.2
    refine ⟨h1, fun x _ => ⟨?_, ?_⟩⟩
    · show (0 : Int) ≤ 0; omega
    · show (0 : Int) ≤ 0; omega
  | i + 1, hi => by
    have ih := al_in h hA i (by omega)
    have hq := h.hq i (by omega)
    have hb := part_in (pc := fb i 0) hq.2.1.2.1 (hA.hfb i (by omega)).1 (hA.hfb i (by omega)).2
    constructor
    · show tkL a (legV k li q pu) i + q i 0 + (0 - q i 2) ≤ tkA a b ff q fb i + q i 0 - part (q i 1) (q i 2) (fb i 0) ∧ tkA a b ff q fb i + q i 0 - part (q i 1) (q i 2) (fb i 0) ≤ tkH b (legV k li q pu) i + q i 0 + (0 - q i 1)
      omega
    · intro x hx
      have h2 := ih.2 x hx
      have h3 := part_in (pc := fl i x 0) hq.2.2.2.1 (hA.hfl i (by omega) x hx).1 (hA.hfl i (by omega) x hx).2
      show pmp (pu i) (wtL (legV k li q pu) i) + q i 3 ≤ pmp (pu i) (wtA pu q fl i x 0) + part (q i 3) (q i 4) (fl i x 0) ∧ pmp (pu i) (wtA pu q fl i x 0) + part (q i 3) (q i 4) (fl i x 0) ≤ pmp (pu i) (wtH (legV k li q pu) i) + q i 4
      cases pu i
      · simp only [pmp]; omega
      · simp only [pmp]; omega
theorem al_pts (hs : from_ (sureH e mo t l nc c ns s ta tm r nf f (ptV a b nf (legV k li q pu))) (2 * K0) 0 = true) {i : Nat} (hi : i < K0) :
    SureOk e mo t l nc c ns s ta tm r nf f (k i) (li i) (tkL a (legV k li q pu) i + q i 0) (tkH b (legV k li q pu) i + q i 0) nf (two (pmp (pu i) (wtL (legV k li q pu) i)) (pmp (pu i) (wtH (legV k li q pu) i))) false ∧
    SureOk e mo t l nc c ns s ta tm r nf f (k i) (li i) (tkL a (legV k li q pu) (i + 1)) (tkH b (legV k li q pu) (i + 1)) nf (two (wtL (legV k li q pu) (i + 1)) (wtH (legV k li q pu) (i + 1))) true := by
  have h : ∀ j, j < 2 * K0 → (broR (ruP e mo t l nc c ns s ta tm r nf f (k (j / 2)) (li (j / 2)) (ptL a (legV k li q pu) j) (ptH b (legV k li q pu) j) nf (two (pwL (legV k li q pu) j) (pwH (legV k li q pu) j)) (lnd j)) == 1) = true := fun j hj => from_iff.1 hs j (Nat.zero_le _) hj
  constructor
  · have h1 := h (2 * i) (by omega)
    have e1 : 2 * i / 2 = i := by omega
    have e2 : lnd (2 * i) = false := by
      have : 2 * i % 2 = 0 := by omega
      unfold lnd; rw [this]; rfl
    simp only [ptL, ptH, pwL, pwH, e1, e2] at h1
    exact sure_ok h1
  · have h1 := h (2 * i + 1) (by omega)
    have e1 : (2 * i + 1) / 2 = i := by omega
    have e2 : lnd (2 * i + 1) = true := by
      have : (2 * i + 1) % 2 = 1 := by omega
      unfold lnd; rw [this]; rfl
    simp only [ptL, ptH, pwL, pwH, e1, e2] at h1
    exact sure_ok h1
def ccA (it a : Rows) : Rows := fun x _ => part (it x 1) (it x 2) (a x 0)
def w0A (p : Bool) (w : Rows) : Rows := fun x _ => pmp p (w x 0)
theorem alW_sum (it a : Rows) (n : Nat) : sumR (alW it a) n 0 = 100 * sumR (itW (ccA it a)) n 0 := sumR_mul 100 (itW (ccA it a)) n 0
theorem alM_sum (it a s : Rows) (n : Nat) : sumR (alM it a s) n 0 = 100 * sumR (itM (ccA it a) it s) n 0 := by
  rw [← sumR_mul]
  refine congrArg (fun g => sumR g n 0) (funext fun x => ?_)
  show 100 * part (it x 1) (it x 2) (a x 0) * s (it x 0).toNat 0 = 100 * (part (it x 1) (it x 2) (a x 0) * s (it x 0).toNat 0)
  rw [Int.mul_assoc]
theorem flW_sum (p : Bool) (w : Rows) (lo hi fw : Int) (a : Rows) (n : Nat) : sumR (flW p w lo hi fw a) n 0 = (100 - fw) * sumR (itW (w0A p w)) n 0 + fw * sumR (itW (flA p w lo hi a)) n 0 := by
  rw [← sumR_mul, ← sumR_mul, ← sumR_two]
  refine congrArg (fun g => sumR g n 0) (funext fun x => ?_)
  show 100 * pmp p (w x 0) + fw * part lo hi (a x 0) = (100 - fw) * pmp p (w x 0) + fw * (pmp p (w x 0) + part lo hi (a x 0))
  rw [Int.sub_mul, Int.mul_add]
  omega
theorem flM_sum (p : Bool) (w : Rows) (lo hi fw : Int) (a f : Rows) (n : Nat) : sumR (flM p w lo hi fw a f) n 0 = (100 - fw) * sumR (wtM (w0A p w) f) n 0 + fw * sumR (wtM (flA p w lo hi a) f) n 0 := by
  rw [← sumR_mul, ← sumR_mul, ← sumR_two]
  refine congrArg (fun g => sumR g n 0) (funext fun x => ?_)
  show (100 * pmp p (w x 0) + fw * part lo hi (a x 0)) * f x 0 = (100 - fw) * (pmp p (w x 0) * f x 0) + fw * ((pmp p (w x 0) + part lo hi (a x 0)) * f x 0)
  rw [Int.add_mul, Int.mul_assoc, Int.mul_assoc, Int.sub_mul, Int.add_mul, Int.mul_add]
  omega
abbrev W2A (e tk fw bn : Int) (it fi : Rows) (n : Nat) : Int := 100 * (e + tk) - fw * bn + sumR (alW it fi) n 0
abbrev M2A (mo tk ta fw bn : Int) (it fi s : Rows) (n : Nat) : Int := 100 * (mo + tk * ta) - fw * bn * ta + sumR (alM it fi s) n 0
theorem mixW (e tk fw bn : Int) (it fi : Rows) (n : Nat) (p : Bool) (w : Rows) (lo hi : Int) (fl : Rows) (nf : Nat) :
    W2A e tk fw bn it fi n + sumR (flW p w lo hi fw fl) nf 0 = (100 - fw) * wgt e tk n (ccA it fi) nf (w0A p w) + fw * wgt e (tk - bn) n (ccA it fi) nf (flA p w lo hi fl) := by
  simp only [W2A, alW_sum, flW_sum, wgt]
  generalize sumR (itW (ccA it fi)) n 0 = C
  generalize sumR (itW (w0A p w)) nf 0 = A
  generalize sumR (itW (flA p w lo hi fl)) nf 0 = B
  simp only [Int.sub_mul, Int.mul_add, Int.mul_sub]
  omega
theorem mixM (mo tk ta fw bn : Int) (it fi s : Rows) (n : Nat) (p : Bool) (w : Rows) (lo hi : Int) (fl f : Rows) (nf : Nat) :
    M2A mo tk ta fw bn it fi s n + sumR (flM p w lo hi fw fl f) nf 0 = (100 - fw) * mom mo tk ta n (ccA it fi) it s nf (w0A p w) f + fw * mom mo (tk - bn) ta n (ccA it fi) it s nf (flA p w lo hi fl) f := by
  simp only [M2A, alM_sum, flM_sum, mom]
  generalize sumR (itM (ccA it fi) it s) n 0 = C
  generalize sumR (wtM (w0A p w) f) nf 0 = A
  generalize sumR (wtM (flA p w lo hi fl) f) nf 0 = B
  simp only [Int.sub_mul, Int.mul_add, Int.mul_sub, Int.mul_assoc]
  omega
theorem al_leg (h : TrOk ns a b K0 k li q) (hA : AlOk nf K0 k K1 ka fi ff K2 fb K3 kb fl) (hs : from_ (sureH e mo t l nc c ns s ta tm r nf f (ptV a b nf (legV k li q pu))) (2 * K0) 0 = true) {fw : Int} (hfw : 0 ≤ fw ∧ fw ≤ 100) {i : Nat} (hi : i < K0) {W M : Int}
    (hW : W = W2A e (tkA a b ff q fb i + q i 0) fw (part (q i 1) (q i 2) (fb i 0)) (li i) (fi i) (k i) + sumR (flW (pu i) (wtA pu q fl i) (q i 3) (q i 4) fw (fl i)) nf 0)
    (hM : M = M2A mo (tkA a b ff q fb i + q i 0) ta fw (part (q i 1) (q i 2) (fb i 0)) (li i) (fi i) s (k i) + sumR (flM (pu i) (wtA pu q fl i) (q i 3) (q i 4) fw (fl i) f) nf 0) :
    (∀ x, x < nf → pmp (pu i) (wtA pu q fl i x 0) + part (q i 3) (q i 4) (fl i x 0) ≤ f x 1) ∧
    (∀ j, j < nc → 0 ≤ (c (nxt nc j) 0 - c j 0) * (M - 100 * c j 1) - (c (nxt nc j) 1 - c j 1) * (W - 100 * c j 0)) ∧ r ≤ tkA a b ff q fb (i + 1) ∧ ∀ T : Int, t ≤ T → l ≤ T → W ≤ 100 * T := by
  have hK := h.hK
  obtain ⟨s1, s2⟩ := al_pts (pu := pu) hs hi
  have i1 := al_in (pu := pu) h hA i (by omega)
  have i2 := al_in (pu := pu) h hA (i + 1) (by omega)
  have hc : ∀ x, x < k i → li i x 1 ≤ ccA (li i) (fi i) x 0 ∧ ccA (li i) (fi i) x 0 ≤ li i x 2 := fun x hx => part_in (h.hit i hi x hx).2.2.1 (hA.hfi i hi x hx).1 (hA.hfi i hi x hx).2
  have t1 := sure_truth (cc := ccA (li i) (fi i)) (tk := tkA a b ff q fb i + q i 0) (ww := w0A (pu i) (wtA pu q fl i)) s1 rfl hc (by omega) fun x hx => by
    have := i1.2 x hx
    show pmp (pu i) (wtL (legV k li q pu) i) ≤ pmp (pu i) (wtA pu q fl i x 0) ∧ pmp (pu i) (wtA pu q fl i x 0) ≤ pmp (pu i) (wtH (legV k li q pu) i)
    cases pu i
    · simp only [pmp]; omega
    · simp only [pmp]; omega
  have t2 := sure_truth (cc := ccA (li i) (fi i)) (tk := tkA a b ff q fb (i + 1)) (ww := wtA pu q fl (i + 1)) s2 rfl hc i2.1 fun x hx => i2.2 x hx
  rw [mixW] at hW
  rw [mixM] at hM
  have ek : tkA a b ff q fb i + q i 0 - part (q i 1) (q i 2) (fb i 0) = tkA a b ff q fb (i + 1) := rfl
  have ew : flA (pu i) (wtA pu q fl i) (q i 3) (q i 4) (fl i) = wtA pu q fl (i + 1) := rfl
  rw [ek, ew] at hW hM
  refine ⟨fun x hx => t2.2.2.2 x hx, fun j hj => ?_, t2.2.2.1 rfl, fun T hT hL => ?_⟩
  · rw [hW, hM, sd_mix]
    have a1 := Int.mul_nonneg (show 0 ≤ 100 - fw by omega) (t1.1 j hj)
    have a2 := Int.mul_nonneg hfw.1 (t2.1 j hj)
    omega
  · have b1 : wgt e (tkA a b ff q fb i + q i 0) (k i) (ccA (li i) (fi i)) nf (w0A (pu i) (wtA pu q fl i)) ≤ t := t1.2.1
    have b2 : wgt e (tkA a b ff q fb (i + 1)) (k i) (ccA (li i) (fi i)) nf (wtA pu q fl (i + 1)) ≤ l := t2.2.1
    have a1 := Int.mul_le_mul_of_nonneg_left (show _ ≤ T from Int.le_trans b1 hT) (show 0 ≤ 100 - fw by omega)
    have a2 := Int.mul_le_mul_of_nonneg_left (show _ ≤ T from Int.le_trans b2 hL) hfw.1
    have a3 : (100 - fw) * T + fw * T = 100 * T := by rw [Int.sub_mul]; omega
    omega
end
end Go.Ab.S
namespace Go.Ab.B
open Go.Proofs
section
variable {hbs : BsOk Tryd.prog}
theorem vs_law02_LoadAlong1 (fu i : Nat) (e mo t l : Int) (nc : Nat) (c : S.Rows) (ns : Nat) (s : S.Rows) (ta tm r : Int) (nf : Nat) (f : S.Rows) (a b : Int) (K0 : Nat) (k : Nat → Nat) (li : Nat → S.Rows) (q : S.Rows) (pu : Nat → Bool) (K1 : Nat) (ka : Nat → Nat) (fi : Nat → S.Rows) (ff : Int) (K2 : Nat) (fb : S.Rows) (K3 : Nat) (kb : Nat → Nat) (fl : Nat → S.Rows) (fw tk : Int) (w : S.Rows) (Q : AX → St → Prop) :
 ((fun (A0 : AV) => ((fun (A3 : AV) => ((fun (A5 : AV) => ((fun (A6 : AV) => ((fun (A8 : Option Blk) => ((fun (A9 : Tr) => ((fun (A11 : Tr) => ((fun (A13 : Tr) => ((fun (A14 : List CV) => ((fun (A15 : AV) => ((fun (A16 : AV) => ((fun (A17 : Tr) => ((fun (A18 : Option Blk) => ((fun (A19 : AV) => ((fun (A12 : Tr) => ((fun (A20 : Tr) => ((fun (A10 : Tr) => ((fun (A21 : Option Blk) => ((fun (A1 : Heap) => ((fun (A2 : Heap) => ((fun (A22 : Tr) => ((fun (A23 : Tr) => ((fun (A24 : Tr) => ((fun (A25 : Tr) => ((fun (A26 : Tr) => ((fun (A27 : Tr) => ((fun (A28 : Tr) => ((fun (A4 : Tr) => ((fun (A7 : Tr) => ((fun (A29 : Tr) => ((BrP (decide ((i : Int) < (K0 : Int)))
 (CdP (.rng (i : Int) K0)
 (CdP (.i64 (tk + (q i 0)))
 (CdP (.rng (i : Int) K2)
 ((FCall (cs16 hbs) f_law02_part [(.ag [(cJ (q i 1)), (cJ (q i 2))]), (vJ (fb i 0))] A3 []) ∧
 (CdP (.i64 (e + (tk + (q i 0))))
 (CdP (.i64 ((100 : Int) * (e + (tk + (q i 0)))))
 (CdP (.i64 (fw * (S.part (q i 1) (q i 2) (fb i 0))))
 (CdP (.i64 (((100 : Int) * (e + (tk + (q i 0)))) - (fw * (S.part (q i 1) (q i 2) (fb i 0)))))
 (CdP (.i64 ((tk + (q i 0)) * ta))
 (CdP (.i64 (mo + ((tk + (q i 0)) * ta)))
 (CdP (.i64 ((100 : Int) * (mo + ((tk + (q i 0)) * ta))))
 (CdP (.i64 (fw * (S.part (q i 1) (q i 2) (fb i 0))))
 (CdP (.i64 ((fw * (S.part (q i 1) (q i 2) (fb i 0))) * ta))
 (CdP (.i64 (((100 : Int) * (mo + ((tk + (q i 0)) * ta))) - ((fw * (S.part (q i 1) (q i 2) (fb i 0))) * ta)))
 ((LoopGo (ex (cs16 hbs) (fu + 49)) 0 m_law02_LoadAlong_l2 ⟨(L4 (L4 (L4 (L4 (.nd (L3 (L3 (L1 (vJ fw)))) (vJ (tk + (q i 0))) (L4 A29 (L1 (vT 4 2)))) (L4 (L4 A29 (L1 (vB true))) (L2 (L1 (.c (.p (.ipt 1 (S.val fb i)))))))) (L4 (.nd (L3 (L3 (L1 (vT 0 1)))) A3 (L4 (L3 (L1 A15)) (L1 (.ag [(cJ (q i 1)), (cJ (q i 2))])))) (L4 (L4 (L3 (L1 (vJ ((100 : Int) * (mo + ((tk + (q i 0)) * ta)))))) (L1 (vN i))) (L2 (L1 (vJ e)))))) (.nd (L4 (.nd (L3 A26) (vN i) (L4 (L3 (L1 (vJ ta))) A11)) (L4 (L3 (L3 (L1 (vJ ((tk + (q i 0)) * ta))))) (L2 (L1 A3)))) (vT 0 0) (L4 (.nd (L4 (L3 A11) (L1 A5)) A15 (L2 (L1 (.c (.p (.isl 1 K2 (S.val fb))))))) (L4 (L4 (L3 (L1 A3)) (L1 (.ag A14))) (L2 (L1 (vJ (e + (tk + (q i 0)))))))))) (.nd (.nd (.nd (.nd (L3 (L3 (L1 A3))) A19 (L4 A29 (L1 (vJ (q i 0))))) (vT 2 0) (L4 (L3 (L3 (L1 (vJ ta)))) (L2 (L1 (vJ (fb i 0)))))) (vJ fw) (L4 (.nd (L4 (L3 (L1 (vJ mo))) (L1 (vN i))) A16 (L2 (L1 (vT 2 2)))) (L4 (L4 (L3 (L1 (vJ fw))) (L1 (.c (.p (.ipt 7 (S.legV k li q pu i)))))) (L2 A11)))) A5 (L4 (L4 (.nd (L3 (L3 (L1 A16))) (vT 4 0) (L4 (L3 (L1 (vJ ((fw * (S.part (q i 1) (q i 2) (fb i 0))) * ta)))) (L1 (vT 4 3)))) (L4 (L4 (L3 (L1 (vJ (mo + ((tk + (q i 0)) * ta))))) (L1 A5)) (L2 (L1 (vT 0 0))))) (L4 (.nd (L4 A29 (L1 (vJ (K0 : Int)))) (vJ 0) (L2 (L1 (vN i)))) (L4 (L4 A26 (L1 (vJ tk))) (L2 (L1 (vJ ((100 : Int) * (e + (tk + (q i 0)))))))))))), A2⟩ (.e (.exit 2) ⟨(L4 A7 (.nd (.nd A12 (vJ fw) A9) A5 (L3 (L3 (L1 (vT 4 0)))))), A2⟩)) ∧
 ((LoopGo (ex (cs16 hbs) (fu + 48)) 0 m_law02_LoadAlong_l3 ⟨(L4 A7 (.nd (.nd (.nd (L1 A19) (vT 2 0) (L1 (vJ 0))) (vJ fw) A9) A5 (L3 (L3 (L1 (vT 4 0)))))), A2⟩ (.e (.exit 4) ⟨(L4 A4 (L6 A25 A5)), A1⟩)) ∧
 ((LoopGo (ex (cs16 hbs) (fu + 47)) 0 m_law02_LoadAlong_l4 ⟨(L4 A4 (.nd A25 A5 (L3 (L2 (L1 (vJ 0)))))), A1⟩ (.e (.exit 6) ⟨(L4 (L4 A28 (L6 (L3 (L1 (vN i))) (vT 0 0))) (L6 A25 A5)), A1⟩)) ∧
 (CdP (.i64 ((tk + (q i 0)) - (S.part (q i 1) (q i 2) (fb i 0))))
 (BrP (decide (((tk + (q i 0)) - (S.part (q i 1) (q i 2) (fb i 0))) < r))
 (Q .ret ⟨(L4 (L4 (L4 (L4 (L6 A13 A6) (L2 A17)) (L4 (L6 A13 A3) (L2 (L2 (L3 A22))))) (.nd (L4 (L6 A13 (vN i)) (L2 A27)) (vT 0 0) (L4 (L4 (L3 (L2 A22)) (L2 (L3 (L3 A11)))) (L2 (L2 (L3 (L3 (L1 (.tp []))))))))) (.nd (.nd (.nd (L6 A13 A19) (vT 2 0) (L2 A17)) (vJ fw) (L4 (L6 A13 A0) (L2 (L2 (L3 A22))))) A5 (L4 (.nd (L3 A13) (vB false) A24) (L4 (L2 (L2 (L3 (L3 (L1 A3))))) (L2 (L2 (L3 (L3 (L1 (.tp [])))))))))), A1⟩)
 (CdP (.i64 ((100 : Int) * (S.mx t l)))
 (BrP (decide ((((((100 : Int) * (e + (tk + (q i 0)))) - (fw * (S.part (q i 1) (q i 2) (fb i 0)))) + (S.sumR (S.alW (S.lR (.isl 3 (k i) (S.val (li i)))) (S.lR (.isl 1 (ka i) (S.val (fi i))))) (S.lN (.isl 3 (k i) (S.val (li i)))) 0)) + (S.sumR (S.flW (S.lB (.bool (pu i))) w (S.lI (.int .i64 (q i 3))) (S.lI (.int .i64 (q i 4))) fw (S.lR (.isl 1 (kb i) (S.val (fl i))))) nf 0)) > ((100 : Int) * (S.mx t l))))
 (Q .ret ⟨(L4 (L4 A10 (.nd (L4 (L6 (L3 (L2 (L3 (L1 (vJ l))))) (vN i)) (L2 A27)) (vT 0 0) (L4 (L4 (L3 (L2 A22)) (L2 (L3 (L3 A11)))) (L2 (L2 (L3 (L3 (L1 A0)))))))) (.nd (.nd (.nd (L6 (L3 (L2 (L3 (L1 (vT 0 3))))) A19) (vT 2 0) (L2 A17)) (vJ fw) (L4 (L6 (L3 (L2 A22)) A0) (L2 (L2 (L3 A20))))) A5 (L4 (.nd (L3 (L3 (L2 (L3 (L1 (vJ (S.mx t l))))))) (vB false) A24) A23))), A1⟩)
 (CdP (.i64 ((i : Int) + (1 : Int)))
 (Q .normal ⟨(L4 (L4 A10 (.nd (L4 (L6 (L3 (L2 (L3 (L1 (vJ l))))) (vJ ((i : Int) + (1 : Int)))) (L4 (L2 (L1 (vJ ((i : Int) + (1 : Int))))) A27)) (vT 0 0) (L4 (L4 (L3 (L2 A20)) (L2 (L3 (L3 A11)))) (L2 (L2 (L3 (L3 (L1 A0)))))))) (.nd (.nd (.nd (L6 (L3 (L2 (L3 (L1 (vT 0 3))))) A19) (vT 2 0) (L4 (L2 (L1 (vN i))) A17)) (vJ fw) (L4 (L6 (L3 (L2 A20)) A0) (L2 (L2 (L3 A20))))) A5 (L4 (L4 (L3 (L3 (L2 (L3 (L1 (vJ (S.mx t l))))))) A24) A23))), A1⟩)))))))))))))))))))))))
 (Q (.exit 0) ⟨(L4 (L4 (L3 (L4 (L1 (vJ tk)) (L3 (L2 (L1 (vB false)))))) (.nd (L3 (L1 (vN i))) (vT 0 0) (L3 (L3 (L2 (L1 A5)))))) (.nd (.nd A12 (vJ fw) (L3 (L3 (L2 (L1 (vN i)))))) A5 (L2 (L3 (L3 (L2 (L1 (vJ (K0 : Int))))))))), [A21, A18, A8, (some (.arr 1 3 nf (S.val w) []))]⟩)))) (L3 (L1 (vT 0 6))))) (L4 A28 (.nd (L3 (L1 (vN i))) (vT 0 0) (L3 (L1 (vJ ((((100 : Int) * (mo + ((tk + (q i 0)) * ta))) - ((fw * (S.part (q i 1) (q i 2) (fb i 0))) * ta)) + (S.sumR (S.alM (S.lR (.isl 3 (k i) (S.val (li i)))) (S.lR (.isl 1 (ka i) (S.val (fi i)))) s) (S.lN (.isl 3 (k i) (S.val (li i)))) 0))))))))) (L4 A28 (.nd (L3 (L1 (vN i))) (vT 0 0) (L3 (L1 (vJ (((((100 : Int) * (mo + ((tk + (q i 0)) * ta))) - ((fw * (S.part (q i 1) (q i 2) (fb i 0))) * ta)) + (S.sumR (S.alM (S.lR (.isl 3 (k i) (S.val (li i)))) (S.lR (.isl 1 (ka i) (S.val (fi i)))) s) (S.lN (.isl 3 (k i) (S.val (li i)))) 0)) + (S.sumR (S.flM (S.lB (.bool (pu i))) w (S.lI (.int .i64 (q i 3))) (S.lI (.int .i64 (q i 4))) fw (S.lR (.isl 1 (kb i) (S.val (fl i)))) f) nf 0))))))))) (L4 (L3 A11) (L3 (L1 A3))))) (L2 (L3 (L3 (L1 (vT 0 8))))))) (L3 (L1 (vJ (fw * (S.part (q i 1) (q i 2) (fb i 0)))))))) (.nd A12 (vJ fw) (L3 (L1 A0))))) (L2 (L2 (L3 (L3 (L1 (vJ r)))))))) (L4 (L2 (L2 (L3 (L3 (L1 A3))))) (L2 (L2 (L3 (L3 (L1 (vT 0 2))))))))) (L3 (L1 (vB true))))) [A21, A18, A8, (some (.arr 1 3 nf (S.val w) [])), (some (.box t_api_LoadLeg A14))])) [A21, A18, A8, (some (.arr 1 3 nf (S.val (S.flA (S.lB (.bool (pu i))) w (S.lI (.int .i64 (q i 3))) (S.lI (.int .i64 (q i 4))) (S.lR (.isl 1 (kb i) (S.val (fl i)))))) []))])) (bP e mo t l nc c ns s ta tm r nf f))) (L4 (L4 (L6 (L3 (L2 (L3 (L1 (vJ t))))) A6) (L2 A17)) (L4 (L6 (L3 (L2 (L3 (L1 (vJ ((100 : Int) * (S.mx t l))))))) A3) (L2 (L2 (L3 A20))))))) (L3 (L1 (vB false))))) (L6 (L1 A19) (vT 2 0)))) (.c (.sl 3 0 nf)))) (some (.box t_api_Span [(cJ a), (cJ b)])))) (L2 (L3 (L3 (L1 A6)))))) (vJ (((100 : Int) * (e + (tk + (q i 0)))) - (fw * (S.part (q i 1) (q i 2) (fb i 0))))))) (vJ (((100 : Int) * (mo + ((tk + (q i 0)) * ta))) - ((fw * (S.part (q i 1) (q i 2) (fb i 0))) * ta))))) [(.p (.isl 3 (k i) (S.val (li i)))), (.p (.bool (pu i))), (cJ (q i 0)), (cJ (q i 1)), (cJ (q i 2)), (cJ (q i 3)), (cJ (q i 4))])) (L3 (L2 (L3 (L1 (.tp []))))))) (L1 (vJ (tk + (q i 0)))))) (L3 (L1 (vJ ((((100 : Int) * (e + (tk + (q i 0)))) - (fw * (S.part (q i 1) (q i 2) (fb i 0)))) + (S.sumR (S.alW (S.lR (.isl 3 (k i) (S.val (li i)))) (S.lR (.isl 1 (ka i) (S.val (fi i))))) (S.lN (.isl 3 (k i) (S.val (li i)))) 0))))))) (some (.box t_law02_Flight [(.p (.isl 1 K1 (S.rowsV ka fi))), (cJ ff), (.p (.isl 1 K2 (S.val fb))), (.p (.isl 1 K3 (S.rowsV kb fl)))])))) (vJ ((tk + (q i 0)) - (S.part (q i 1) (q i 2) (fb i 0)))))) (.c (.p (.isl 7 K0 (S.legV k li q pu)))))) (vJ (S.part (q i 1) (q i 2) (fb i 0))))) (vJ (((((100 : Int) * (e + (tk + (q i 0)))) - (fw * (S.part (q i 1) (q i 2) (fb i 0)))) + (S.sumR (S.alW (S.lR (.isl 3 (k i) (S.val (li i)))) (S.lR (.isl 1 (ka i) (S.val (fi i))))) (S.lN (.isl 3 (k i) (S.val (li i)))) 0)) + (S.sumR (S.flW (S.lB (.bool (pu i))) w (S.lI (.int .i64 (q i 3))) (S.lI (.int .i64 (q i 4))) fw (S.lR (.isl 1 (kb i) (S.val (fl i))))) nf 0)))) = (ex (cs16 hbs) (fu + 60) 0 m_law02_LoadAlong_l1 ⟨setAll [(.o (.o (.o (.o .h))), .c (cJ tk)), (.o (.i .h), .c (.pt 0 0)), (.o (.i (.o (.o .h))), .c (cJ i)), (.i .h, .c (.p (.isl 7 K0 (S.legV k li q pu)))), (.i (.o .h), .c (cJ fw)), (.i (.o (.o .h)), .c (.pt 2 0)), (.i (.o (.o (.o .h))), .c (.sl 3 0 nf))], [PB e mo t l nc c ns s ta tm r nf f, some (.box t_api_Span [.p (.int .i64 a), .p (.int .i64 b)]), some (.box t_law02_Flight [.p (.isl 1 K1 (S.rowsV ka fi)), .p (.int .i64 ff), .p (.isl 1 K2 (S.val fb)), .p (.isl 1 K3 (S.rowsV kb fl))]), some (.arr 1 t_int nf (S.val w) [])]⟩ (fun e s => .pr (Q e s))).hold2 := by kernel_rfl
theorem vc_law02_LoadAlong (e mo t l : Int) (nc : Nat) (c : S.Rows) (ns : Nat) (s : S.Rows) (ta tm r : Int) (nf : Nat) (f : S.Rows) (a b : Int) (K0 : Nat) (k : Nat → Nat) (li : Nat → S.Rows) (q : S.Rows) (pu : Nat → Bool) (K1 : Nat) (ka : Nat → Nat) (fi : Nat → S.Rows) (ff : Int) (K2 : Nat) (fb : S.Rows) (K3 : Nat) (kb : Nat → Nat) (fl : Nat → S.Rows) (fw : Int) (Q : AV → Heap → Prop) :
 ((fun (A2 : AV) => ((fun (A3 : List CV) => ((fun (A0 : Heap) => ((fun (A4 : AV) => ((fun (A5 : AV) => ((fun (A6 : AV) => ((fun (A7 : AV) => ((fun (A8 : AV) => ((fun (A9 : Heap) => ((fun (A10 : Tr) => ((fun (A11 : AV) => ((fun (A1 : Tr) => ((fun (A13 : Tr) => ((fun (A15 : AV) => ((fun (A12 : Tr) => ((fun (A16 : Tr) => ((fun (A17 : Tr) => ((fun (A14 : Tr) => ((BrP (decide ((nc : Int) ≤ (20 : Int)))
 (BrP (decide ((ns : Int) ≤ (20 : Int)))
 (BrP (decide ((nf : Int) ≤ (10 : Int)))
 ((FCall (cs16 hbs) f_law02_few [A6] (.c (.p (.bool (S.fewB K0 (S.legV k li q pu))))) []) ∧
 (BrP (S.fewB K0 (S.legV k li q pu))
 ((FCall (cs16 hbs) f_law02_refused [A5, A11, A6, (vB true)] A4 []) ∧
 (BrP ((S.tE e mo t l nc c ns s ta tm r nf f a b K0 (S.legV k li q pu)) != (0 : Int))
 ((FCall (cs16 hbs) f_law02_known [] (vB true) []) ∧
 (Q (vB true) A0))
 ((FCall (cs16 hbs) f_law02_fits [A5, A6, (.ag A3)] (.c (.p (.bool (S.fitB nf K0 (S.legV k li q pu) K1 (S.rowsV ka fi) ff K2 fb K3 (S.rowsV kb fl))))) []) ∧
 (BrP (S.fitB nf K0 (S.legV k li q pu) K1 (S.rowsV ka fi) ff K2 fb K3 (S.rowsV kb fl))
 (BrP (decide (fw < (0 : Int)))
 ((FCall (cs16 hbs) f_law02_known [] (vB true) []) ∧
 (Q (vB true) A0))
 (BrP (decide (fw > (100 : Int)))
 ((FCall (cs16 hbs) f_law02_known [] (vB true) []) ∧
 (Q (vB true) A0))
 ((FCall (cs16 hbs) f_load_Trip [A5, A11, A6] (.tp [A2, A8, A7, A4]) []) ∧
 (BrP ((S.tE e mo t l nc c ns s ta tm r nf f a b K0 (S.legV k li q pu)) != (0 : Int))
 (Q (vB false) A0)
 (BrP (decide ((S.tA e mo t l nc c ns s ta tm r nf f a b K0 (S.legV k li q pu)) < (0 : Int)))
 (BrP ((S.tR e mo t l nc c ns s ta tm r nf f a b K0 (S.legV k li q pu)) == (1 : Int))
 (BrP (decide ((S.tA e mo t l nc c ns s ta tm r nf f a b K0 (S.legV k li q pu)) < (-(1 : Int))))
 (Q (vB false) A0)
 (CdP (.i64 ((2 : Int) * (K0 : Int)))
 (BrP (decide ((S.tA e mo t l nc c ns s ta tm r nf f a b K0 (S.legV k li q pu)) ≥ ((2 : Int) * (K0 : Int))))
 (Q (vB false) A0)
 (BrP (decide ((S.tA e mo t l nc c ns s ta tm r nf f a b K0 (S.legV k li q pu)) ≥ (0 : Int)))
 ((FCall (cs16 hbs) f_law02_known [] (vB true) []) ∧
 (Q (vB true) A0))
 ((FCall (cs16 hbs) f_law02_part [A11, (vJ ff)] A15 []) ∧
 (CdP (.cut (0 : Int) (nf : Int) (nf : Int))
 (CdP (.le (nf * 8) 140737488355328)
 ((LoopGo (ex (cs16 hbs) 989) 0 m_law02_LoadAlong_l1 ⟨(.nd (.nd (.nd A12 (.ag A3) (.nd A14 A2 (L3 (L6 (L1 (vB true)) (vB false))))) A11 (.nd (L4 A16 (L4 (L6 (L1 (vB true)) A4) A17)) (vT 0 0) A13)) A5 A1), A9⟩ (.e (.exit 0) ⟨.lf, []⟩)) ∧
 ((FCall (cs16 hbs) f_law02_known [] (vB true) []) ∧
 (Q (vB true) []))))))))))
 (Q (vB false) A0))
 (BrP ((S.tR e mo t l nc c ns s ta tm r nf f a b K0 (S.legV k li q pu)) == (1 : Int))
 (Q (vB false) A0)
 (BrP (decide ((S.tA e mo t l nc c ns s ta tm r nf f a b K0 (S.legV k li q pu)) < (-(1 : Int))))
 (Q (vB false) A0)
 (CdP (.i64 ((2 : Int) * (K0 : Int)))
 (BrP (decide ((S.tA e mo t l nc c ns s ta tm r nf f a b K0 (S.legV k li q pu)) ≥ ((2 : Int) * (K0 : Int))))
 (Q (vB false) A0)
 (BrP (decide ((S.tA e mo t l nc c ns s ta tm r nf f a b K0 (S.legV k li q pu)) ≥ (0 : Int)))
 ((FCall (cs16 hbs) f_law02_known [] (vB true) []) ∧
 (Q (vB true) A0))
 ((FCall (cs16 hbs) f_law02_part [A11, (vJ ff)] A15 []) ∧
 (CdP (.cut (0 : Int) (nf : Int) (nf : Int))
 (CdP (.le (nf * 8) 140737488355328)
 ((LoopGo (ex (cs16 hbs) 989) 0 m_law02_LoadAlong_l1 ⟨(.nd (.nd (.nd A12 (.ag A3) (.nd A14 A2 (L3 A10))) A11 (.nd (L4 A16 (L4 (L6 (L1 (vB false)) A4) A17)) (vT 0 0) A13)) A5 A1), A9⟩ (.e (.exit 0) ⟨.lf, []⟩)) ∧
 ((FCall (cs16 hbs) f_law02_known [] (vB true) []) ∧
 (Q (vB true) []))))))))))))))))
 ((FCall (cs16 hbs) f_law02_known [] (vB true) []) ∧
 (Q (vB true) A0))))))
 ((FCall (cs16 hbs) f_law02_known [] (vB true) []) ∧
 (Q (vB true) A0))))
 ((FCall (cs16 hbs) f_law02_known [] (vB true) []) ∧
 (Q (vB true) A0)))
 ((FCall (cs16 hbs) f_law02_known [] (vB true) []) ∧
 (Q (vB true) A0)))
 ((FCall (cs16 hbs) f_law02_known [] (vB true) []) ∧
 (Q (vB true) A0))))) (L4 (.nd (L1 A7) (vB false) (L1 (.c (.sl 3 0 nf)))) A17))) (L6 (L1 A2) (vB false)))) (.nd (.nd (L1 A2) A6 (L1 (vS 2 nf f))) (vJ 0) A10))) (L4 (.nd (.nd (L1 A6) (vB false) (L1 A15)) A15 (L6 (L1 A2) (.ag A3))) (L4 (L6 (L1 (vB false)) A11) A10)))) (vJ (S.part a b ff)))) (.nd (L4 (L6 (L1 A4) (vB false)) (L6 (L1 (vJ (K0 : Int))) (vB false))) A7 (.nd (L6 (L1 (vB false)) A5) A5 (L6 (L1 (vT 2 1)) A5))))) (.nd (.nd (.nd (.nd (.nd (L1 (.tp [A2, A8, A7, A4])) (vB false) (L1 (vT 0 9))) (.c (.sl 3 0 nf)) (L6 (L1 (vB false)) (vB true))) (vT 2 0) (L4 (L6 (L1 A2) A6) (L6 (L1 (vB false)) (vJ fw)))) (vJ fw) (.nd (L4 (L6 (L1 A4) (vB false)) (L6 (L1 A6) (vJ fw))) A8 (L4 A10 (L6 (L1 A11) (.tp [A2, A8, A7, A4]))))) A6 (.nd (.nd (L4 (.nd (L1 A8) (vB true) (L1 (vN nf))) A10) (vB false) (L4 (L6 (L1 A8) (vB false)) A10)) (vT 1 0) (.nd (L4 (L6 (L1 (vB false)) A5) (L6 (L1 (vJ ((2 : Int) * (K0 : Int)))) (vB false))) A4 (.nd (L6 (L1 (vB false)) A6) (vB true) (L6 (L1 (vJ ff)) A11))))))) (.ag [(cJ a), (cJ b)]))) (L6 (L1 (vB false)) (vB false)))) [(bP e mo t l nc c ns s ta tm r nf f), (some (.box t_api_Span [(cJ a), (cJ b)])), (some (.box t_law02_Flight A3)), (some (.arr 1 3 nf (fun x31 => (fun x32 => (List.getD [(.int .i64 (0 : Int))] x32 .npt))) []))])) (vJ (S.tR e mo t l nc c ns s ta tm r nf f a b K0 (S.legV k li q pu))))) (vJ (S.tI e mo t l nc c ns s ta tm r nf f a b K0 (S.legV k li q pu))))) (.c (.p (.isl 7 K0 (S.legV k li q pu)))))) (.ag (kP e mo t l nc c ns s ta tm r nf f)))) (vJ (S.tE e mo t l nc c ns s ta tm r nf f a b K0 (S.legV k li q pu))))) [(bP e mo t l nc c ns s ta tm r nf f), (some (.box t_api_Span [(cJ a), (cJ b)])), (some (.box t_law02_Flight A3))])) [(.p (.isl 1 K1 (S.rowsV ka fi))), (cJ ff), (.p (.isl 1 K2 (S.val fb))), (.p (.isl 1 K3 (S.rowsV kb fl)))])) (vJ (S.tA e mo t l nc c ns s ta tm r nf f a b K0 (S.legV k li q pu)))) = (ex (cs16 hbs) 1000 0 m_law02_LoadAlong ⟨ofL 0 [.ag (plC e mo t l nc (S.val c) ns (S.val s) ta tm r nf (S.val f)), .ag [.p (.int .i64 a), .p (.int .i64 b)], .c (.p (.isl 7 K0 (S.legV k li q pu))), .ag [.p (.isl 1 K1 (S.rowsV ka fi)), .p (.int .i64 ff), .p (.isl 1 K2 (S.val fb)), .p (.isl 1 K3 (S.rowsV kb fl))], .c (cJ fw)] .lf, []⟩ (endK F_law02_LoadAlong.rs (fun r H => .pr (Q r H)) fun _ _ => .no)).hold2 := by kernel_rfl
end
end Go.Ab.B
namespace Go.Ab.S
theorem wJ_zero {p : Bool} {w : Rows} {lo hi : Int} {a : Rows} {x y : Nat} : wJ p w lo hi a 0 x y = w x y := rfl
section
variable {e mo t l : Int} {nc : Nat} {c : Rows} {ns : Nat} {s : Rows} {ta tm r : Int} {nf : Nat} {f : Rows} {a b : Int} {n : Nat} {g : Nat → Nat → PV}
theorem tA_not (h0 : tE e mo t l nc c ns s ta tm r nf f a b n g = 0) (h : from_ (sureH e mo t l nc c ns s ta tm r nf f (ptV a b nf g)) (2 * n) 0 = false) : 0 ≤ tA e mo t l nc c ns s ta tm r nf f a b n g ∧ tA e mo t l nc c ns s ta tm r nf f a b n g < 2 * (n : Int) ∧ (tR e mo t l nc c ns s ta tm r nf f a b n g == 1) = false := by
  have h1 : (tE e mo t l nc c ns s ta tm r nf f a b n g != 0) = false := by rw [h0]; rfl
  obtain ⟨_, h2, h3, _⟩ := fst_spec (i := 0) rfl h
  simp only [tA, tR, h1, h, unX, unA]
  refine ⟨by omega, by omega, h3⟩
end
end Go.Ab.S
namespace Go.Ab.B
open Go.Proofs
section
variable {hbs : BsOk Tryd.prog} (hT : TabOk (cs hbs)) (hT3 : TabOk (cs3 hbs)) (hT4 : TabOk (cs4 hbs)) (hT7 : TabOk (cs7 hbs)) (hT9 : TabOk (cs9 hbs)) (hT10 : TabOk (cs10 hbs)) (hT11 : TabOk (cs11 hbs)) (hT12 : TabOk (cs12 hbs)) (hT16 : TabOk (cs16 hbs)) (h8 : FCall (cs hbs) f_law02_known [] (vB true) [])
include hT12 in
theorem go_law02_LoadAlong1 (fu : Nat) (e mo t l : Int) (nc : Nat) (c : S.Rows) (ns : Nat) (s : S.Rows) (ta tm r : Int) (nf : Nat) (f : S.Rows) (a b : Int) (K0 : Nat) (k : Nat → Nat) (li : Nat → S.Rows) (q : S.Rows) (pu : Nat → Bool) (K1 : Nat) (ka : Nat → Nat) (fi : Nat → S.Rows) (ff : Int) (K2 : Nat) (fb : S.Rows) (K3 : Nat) (kb : Nat → Nat) (fl : Nat → S.Rows) (fw : Int) (hp : S.PlOk e mo t l nc c ns s ta tm r nf f) (h : S.TrOk ns a b K0 k li q) (hA : S.AlOk nf K0 k K1 ka fi ff K2 fb K3 kb fl) (hs : S.from_ (S.sureH e mo t l nc c ns s ta tm r nf f (S.ptV a b nf (S.legV k li q pu))) (2 * K0) 0 = true) (hfw : 0 ≤ fw ∧ fw ≤ 100) :
    ∀ (i : Nat) (st : St), i ≤ K0 → (∃ ρ, HasR 0 ρ st (alO K0 (S.legV k li q pu) fw (S.tkA a b ff q fb i) i nf) (hpA e mo t l nc c ns s ta tm r nf f a b K1 ka fi ff K2 fb K3 kb fl (S.wtA pu q fl i))) →
      LoopGo (ex (cs16 hbs) (fu + 60)) 0 m_law02_LoadAlong_l1 st (.e (.exit 0) ⟨setAll [], []⟩) :=
  loop_kR (σ := Nat) (fun i => alO K0 (S.legV k li q pu) fw (S.tkA a b ff q fb i) i nf) (fun i => hpA e mo t l nc c ns s ta tm r nf f a b K1 ka fi ff K2 fb K3 kb fl (S.wtA pu q fl i)) (fun i => i ≤ K0) (fun i => K0 - i) (fun _ => .e (.exit 0) ⟨setAll [], []⟩) _
    (fun i Q => vs_law02_LoadAlong1 (hbs := hbs) fu i e mo t l nc c ns s ta tm r nf f a b K0 k li q pu K1 ka fi ff K2 fb K3 kb fl fw (S.tkA a b ff q fb i) (S.wtA pu q fl i) Q) fun i hi' K hL X hX => by
    have hK := h.hK
    have hK2 := hA.hK
    refine brP (fun h1 => ?_) fun h1 => ?_
    · have hlt : i < K0 := by simpa using h1
      have nm : K0 ≤ maxLen := Nat.le_trans hK.2 (by decide)
      have hq := h.hq i hlt
      have hb := S.part_in (pc := fb i 0) hq.2.1.2.1 (hA.hfb i hlt).1 (hA.hfb i hlt).2
      have i1 := S.al_in (pu := pu) h hA i hi'
      have t1 := S.tr_in (pu := pu) h i hi'
      have hk := h.hk i hlt
      have hta := hp.hta
      have he := hp.he
      have hmo := hp.hmo
      have hnc := hp.hnc
      have hnf := hp.hnf
      have htl := hp.ht
      have hll := hp.hl
      have m1 := mul_in (A := 100) (B := 20000) (a := fw) (b := S.part (q i 1) (q i 2) (fb i 0)) (by omega) (by omega) (by omega) (by omega)
      have m2 := mul_in (A := 200000) (B := 1000) (a := S.tkA a b ff q fb i + q i 0) (b := ta) (by omega) (by omega) (by omega) (by omega)
      have m3 := mul_in (A := 2000000) (B := 1000) (a := fw * S.part (q i 1) (q i 2) (fb i 0)) (b := ta) (by omega) (by omega) (by omega) (by omega)
      have bW : ∀ x, x < k i → 0 ≤ S.alW (li i) (fi i) x ∧ S.alW (li i) (fi i) x ≤ 2000000 := fun x hx => by
        have h1 := h.hit i hlt x hx
        have h2 := S.part_in (pc := fi i x 0) h1.2.2.1 (hA.hfi i hlt x hx).1 (hA.hfi i hlt x hx).2
        unfold S.alW; omega
      have bM : ∀ x, x < k i → -2000000000 ≤ S.alM (li i) (fi i) s x ∧ S.alM (li i) (fi i) s x ≤ 2000000000 := fun x hx => by
        have h1 := h.hit i hlt x hx
        have h3 := hp.hs (li i x 0).toNat (by omega)
        exact S.mulK (X := 2000000) (bW x hx).1 (bW x hx).2 h3.1.1 h3.1.2
      have sW := S.sumR_in (f := S.alW (li i) (fi i)) (B := 2000000) (k := k i) (i := 0) fun x _ hx => by have := bW x (by omega); omega
      have sM := S.sumR_in (f := S.alM (li i) (fi i) s) (B := 2000000000) (k := k i) (i := 0) fun x _ hx => bM x (by omega)
      have bw : ∀ x, x < nf → 0 ≤ S.wtA pu q fl i x 0 ∧ S.wtA pu q fl i x 0 ≤ 1000000 := fun x hx => by have := i1.2 x hx; omega
      have bF : ∀ x, x < nf → -103000000 ≤ S.flW (pu i) (S.wtA pu q fl i) (q i 3) (q i 4) fw (fl i) x ∧ S.flW (pu i) (S.wtA pu q fl i) (q i 3) (q i 4) fw (fl i) x ≤ 103000000 := fun x hx => by
        have h1 := S.part_in (pc := fl i x 0) hq.2.2.2.1 (hA.hfl i hlt x hx).1 (hA.hfl i hlt x hx).2
        have h2 : 0 ≤ S.pmp (pu i) (S.wtA pu q fl i x 0) ∧ S.pmp (pu i) (S.wtA pu q fl i x 0) ≤ 1000000 := by
          have := bw x hx
          cases pu i <;> simp only [S.pmp] <;> omega
        have h3 := mul_in (A := 100) (B := 20000) (a := fw) (b := S.part (q i 3) (q i 4) (fl i x 0)) (by omega) (by omega) (by omega) (by omega)
        unfold S.flW; omega
      have bG : ∀ x, x < nf → -103000000000 ≤ S.flM (pu i) (S.wtA pu q fl i) (q i 3) (q i 4) fw (fl i) f x ∧ S.flM (pu i) (S.wtA pu q fl i) (q i 3) (q i 4) fw (fl i) f x ≤ 103000000000 := fun x hx => by
        have h1 := bF x hx
        have h2 := (hp.hf x hx).1
        exact mul_in (A := 103000000) (B := 1000) (a := S.flW (pu i) (S.wtA pu q fl i) (q i 3) (q i 4) fw (fl i) x) (b := f x 0) (by omega) (by omega) (by omega) (by omega)
      have sF := S.sumR_in (f := S.flW (pu i) (S.wtA pu q fl i) (q i 3) (q i 4) fw (fl i)) (B := 103000000) (k := nf) (i := 0) fun x _ hx => bF x (by omega)
      have sG := S.sumR_in (f := S.flM (pu i) (S.wtA pu q fl i) (q i 3) (q i 4) fw (fl i) f) (B := 103000000000) (k := nf) (i := 0) fun x _ hx => bG x (by omega)
      have uW : S.W2A e (S.tkA a b ff q fb i + q i 0) fw (S.part (q i 1) (q i 2) (fb i 0)) (li i) (fi i) (k i) = 100 * (e + (S.tkA a b ff q fb i + q i 0)) - fw * S.part (q i 1) (q i 2) (fb i 0) + S.sumR (S.alW (li i) (fi i)) (k i) 0 := rfl
      have uM : S.M2A mo (S.tkA a b ff q fb i + q i 0) ta fw (S.part (q i 1) (q i 2) (fb i 0)) (li i) (fi i) s (k i) = 100 * (mo + (S.tkA a b ff q fb i + q i 0) * ta) - fw * S.part (q i 1) (q i 2) (fb i 0) * ta + S.sumR (S.alM (li i) (fi i) s) (k i) 0 := rfl
      obtain ⟨c1, c2, c3, c4⟩ := S.al_leg (pu := pu) h hA hs hfw hlt rfl rfl
      have c4 := c4 (S.mx t l) (by unfold S.mx; split <;> omega) (by unfold S.mx; split <;> omega)
      have hmx : 0 ≤ S.mx t l ∧ S.mx t l ≤ 20000 := by unfold S.mx; split <;> omega
      have c3 : r ≤ S.tkA a b ff q fb i + q i 0 - S.part (q i 1) (q i 2) (fb i 0) := c3
      have fP : FCall (cs16 hbs) f_law02_part [.ag [.p (.int .i64 (q i 1)), .p (.int .i64 (q i 2))], .c (.p (.int .i64 (fb i 0)))] (vI .i64 (S.part (q i 1) (q i 2) (fb i 0))) [] := FCall.cfg (C := cs12 hbs) (C' := cs16 hbs) rfl rfl (fc_law02_part hT12 _ _ _ hq.2.1.2.1 (by omega) (by omega) (hA.hfb i hlt).1 (hA.hfb i hlt).2)
      have heap5 : WH (hpA e mo t l nc c ns s ta tm r nf f a b K1 ka fi ff K2 fb K3 kb fl (S.wtA pu q fl i) ++ [bxL k li q pu i]) [some 0, some 1, some 2, some 3, some 4] [some 0, some 1, some 2, some 3, some 4] (hpA e mo t l nc c ns s ta tm r nf f a b K1 ka fi ff K2 fb K3 kb fl (S.wtA pu q fl i) ++ [bxL k li q pu i]) := by
        refine ⟨⟨rfl, ?_⟩, ⟨rfl, ?_⟩, ⟨rfl, ?_⟩, ⟨rfl, rfl, rfl, fun _ _ _ _ => rfl, rfl⟩, ⟨rfl, ?_⟩, trivial⟩ <;> simp [WL, WC, WP', plC]
      have heap5' : WH (hpA e mo t l nc c ns s ta tm r nf f a b K1 ka fi ff K2 fb K3 kb fl (S.wtA pu q fl i) ++ [bxL k li q pu i]) [some 0, some 1, some 2, some 3, some 4] [some 0, some 1, some 2, some 3, some 4] (hpA e mo t l nc c ns s ta tm r nf f a b K1 ka fi ff K2 fb K3 kb fl (S.wJ (pu i) (S.wtA pu q fl i) (q i 3) (q i 4) (fl i) 0) ++ [bxL k li q pu i]) := by
        refine ⟨⟨rfl, ?_⟩, ⟨rfl, ?_⟩, ⟨rfl, ?_⟩, ⟨rfl, rfl, rfl, fun x y _ _ => congrArg (PV.int .i64) (S.wJ_zero.symm), rfl⟩, ⟨rfl, ?_⟩, trivial⟩ <;> simp [WL, WC, WP', plC]
      have heap4 : WH (hpA e mo t l nc c ns s ta tm r nf f a b K1 ka fi ff K2 fb K3 kb fl (S.wtA pu q fl (i + 1))) [some 0, some 1, some 2, some 3] [some 0, some 1, some 2, some 3] (hpA e mo t l nc c ns s ta tm r nf f a b K1 ka fi ff K2 fb K3 kb fl (S.wtA pu q fl (i + 1))) := by
        refine ⟨⟨rfl, ?_⟩, ⟨rfl, ?_⟩, ⟨rfl, ?_⟩, ⟨rfl, rfl, rfl, fun _ _ _ _ => rfl, rfl⟩, trivial⟩ <;> simp [WL, WC, WP', plC]
      refine cdP (idx_ok hlt) (cdP (i64_of (by omega) (by omega)) (cdP (idx_ok (by omega)) ⟨fP, cdP (i64_of (by omega) (by omega)) (cdP (i64_of (by omega) (by omega)) (cdP (i64_of (by omega) (by omega)) (cdP (i64_of (by omega) (by omega)) (cdP (i64_of (by omega) (by omega)) (cdP (i64_of (by omega) (by omega)) (cdP (i64_of (by omega) (by omega)) (cdP (i64_of (by omega) (by omega)) (cdP (i64_of (by omega) (by omega)) (cdP (i64_of (by omega) (by omega)) ⟨?_, ?_, ?_, cdP (i64_of (by omega) (by omega)) (brP (fun h2 => absurd h2 (by simp; omega)) fun _ => cdP (i64_of (by omega) (by omega)) (brP (fun h2 => ?_) fun _ => cdP (i64_nat hlt nm) ?_))⟩)))))))))⟩))
      · exact go_law02_LoadAlong2 hT12 fu i e mo t l nc c ns s ta tm r nf f a b K0 k li q pu K1 ka fi ff K2 fb K3 kb fl fw (S.tkA a b ff q fb i + q i 0) (S.wtA pu q fl i) (S.part (q i 1) (q i 2) (fb i 0)) (100 * (e + (S.tkA a b ff q fb i + q i 0)) - fw * S.part (q i 1) (q i 2) (fb i 0)) (100 * (mo + (S.tkA a b ff q fb i + q i 0) * ta) - fw * S.part (q i 1) (q i 2) (fb i 0) * ta) (by omega) (hA.hka i hlt) hk (h.hit i hlt) (fun x hx => (hp.hs x hx).1) (hA.hfi i hlt) (by omega) (by omega) 0 _ (Nat.zero_le _) ⟨[some 0, some 1, some 2, some 3, some 4], HasR.mk _ rfl rfl heap5 (by simp [LiveR, WA, WC, WP', Tr.get, S.sumR])⟩
      · exact go_law02_LoadAlong3 hT12 fu i e mo t l nc c ns s ta tm r nf f a b K0 k li q pu K1 ka fi ff K2 fb K3 kb fl fw (S.tkA a b ff q fb i + q i 0) (S.wtA pu q fl i) (S.part (q i 1) (q i 2) (fb i 0)) (S.W2A e (S.tkA a b ff q fb i + q i 0) fw (S.part (q i 1) (q i 2) (fb i 0)) (li i) (fi i) (k i)) (S.M2A mo (S.tkA a b ff q fb i + q i 0) ta fw (S.part (q i 1) (q i 2) (fb i 0)) (li i) (fi i) s (k i)) (by omega) (hA.hkb i hlt) (by omega) hq.2.2 hfw (fun x hx => (hp.hf x hx).1) (hA.hfl i hlt) bw c1 (by omega) (by omega) 0 _ (Nat.zero_le _) ⟨[some 0, some 1, some 2, some 3, some 4], HasR.mk _ rfl rfl heap5' (by simp [LiveR, WA, WC, WP', Tr.get, S.sumR]; exact ⟨rfl, rfl⟩)⟩
      · exact go_law02_LoadAlong4 fu i e mo t l nc c ns s ta tm r nf f a b K0 k li q pu K1 ka fi ff K2 fb K3 kb fl fw (S.tkA a b ff q fb i + q i 0) (S.wtA pu q fl (i + 1)) (S.part (q i 1) (q i 2) (fb i 0)) (S.W2A e (S.tkA a b ff q fb i + q i 0) fw (S.part (q i 1) (q i 2) (fb i 0)) (li i) (fi i) (k i) + S.sumR (S.flW (pu i) (S.wtA pu q fl i) (q i 3) (q i 4) fw (fl i)) nf 0) (S.M2A mo (S.tkA a b ff q fb i + q i 0) ta fw (S.part (q i 1) (q i 2) (fb i 0)) (li i) (fi i) s (k i) + S.sumR (S.flM (pu i) (S.wtA pu q fl i) (q i 3) (q i 4) fw (fl i) f) nf 0) hp.hcor (by omega) (by omega) (by omega) c2 0 _ (Nat.zero_le _) ⟨[some 0, some 1, some 2, some 3], HasR.mk _ rfl rfl heap4 (by simp [LiveR, WA, WC, WP', Tr.get]; exact ⟨rfl, rfl⟩)⟩
      · have h2 : S.W2A e (S.tkA a b ff q fb i + q i 0) fw (S.part (q i 1) (q i 2) (fb i 0)) (li i) (fi i) (k i) + S.sumR (S.flW (pu i) (S.wtA pu q fl i) (q i 3) (q i 4) fw (fl i)) nf 0 > 100 * S.mx t l := of_decide_eq_true h2
        exact absurd h2 (by omega)
      · exact hX (i + 1) _ (by omega) (by omega) ⟨[some 0, some 1, some 2, some 3], HasR.mk _ rfl rfl heap4 (by simp [LiveR, WA, WC, WP', Tr.get, S.tkA])⟩ hL
    · exact HasR.out (l := ([] : List (Ps × AV))) (HasR.mk (ρ := []) rfl rfl (by simp [WH]) trivial) hL
include hT hT3 hT4 hT7 hT9 hT10 hT11 hT12 hT16 h8 in
theorem fc_law02_LoadAlong (e mo t l : Int) (nc : Nat) (c : S.Rows) (ns : Nat) (s : S.Rows) (ta tm r : Int) (nf : Nat) (f : S.Rows) (a b : Int) (K0 : Nat) (k : Nat → Nat) (li : Nat → S.Rows) (q : S.Rows) (pu : Nat → Bool) (K1 : Nat) (ka : Nat → Nat) (fi : Nat → S.Rows) (ff : Int) (K2 : Nat) (fb : S.Rows) (K3 : Nat) (kb : Nat → Nat) (fl : Nat → S.Rows) (fw : Int) (hnc : nc ≤ maxLen) (hns : ns ≤ maxLen) (hnf : nf ≤ maxLen) (hK : K0 ≤ maxLen) :
    FCall (cs16 hbs) f_law02_LoadAlong [.ag (plC e mo t l nc (S.val c) ns (S.val s) ta tm r nf (S.val f)), .ag [.p (.int .i64 a), .p (.int .i64 b)], .c (.p (.isl 7 K0 (S.legV k li q pu))), .ag [.p (.isl 1 K1 (S.rowsV ka fi)), .p (.int .i64 ff), .p (.isl 1 K2 (S.val fb)), .p (.isl 1 K3 (S.rowsV kb fl))], .c (.p (.int .i64 fw))] (vB true) [] := by
  have k8 : FCall (cs16 hbs) f_law02_known [] (vB true) [] := FCall.cfg (C := cs hbs) (C' := cs16 hbs) rfl rfl h8
  refine fcall_k hT16 (F := F_law02_LoadAlong) rfl (vc_law02_LoadAlong e mo t l nc c ns s ta tm r nf f a b K0 k li q pu K1 ka fi ff K2 fb K3 kb fl fw _) ?_
  refine brP (fun c1 => brP (fun c2 => brP (fun c3 => ⟨FCall.cfg (C := cs12 hbs) (C' := cs16 hbs) rfl rfl (fc_law02_few hT12 K0 k li q pu hK), brP (fun c4 => ?_) fun _ => ⟨k8, rfl⟩⟩) fun _ => ⟨k8, rfl⟩) fun _ => ⟨k8, rfl⟩) fun _ => ⟨k8, rfl⟩
  have c1 : nc ≤ 20 := by simp at c1; omega
  have c2 : ns ≤ 20 := by simp at c2; omega
  have c3 : nf ≤ 10 := by simp at c3; omega
  have c4 : S.fewB K0 (S.legV k li q pu) = true := c4
  simp only [S.fewB, Bool.and_eq_true, decide_eq_true_eq] at c4
  have hk : ∀ i, i < K0 → k i ≤ 20 := fun i hi => by
    have := S.from_iff.1 c4.1 i (Nat.zero_le _) hi
    rw [S.fewAt_eq] at this
    simp at this
    omega
  have hK2 : K0 ≤ 12 := by omega
  refine ⟨FCall.cfg (C := cs12 hbs) (C' := cs16 hbs) rfl rfl (fc_law02_refused hT hT3 hT12 e mo t l nc c ns s ta tm r nf f a b K0 k li q pu hnc (by omega) hns hnf (fun i hi => by have := hk i hi; omega)), brP (fun _ => ⟨k8, rfl⟩) fun hE => ⟨fc_law02_fits hT16 e mo t l nc c ns s ta tm r nf f K0 k li q pu K1 ka fi ff K2 fb K3 kb fl hK (fun i hi => Nat.le_trans (hk i hi) (by decide)) hnf, brP (fun hF => brP (fun _ => ⟨k8, rfl⟩) fun g1 => brP (fun _ => ⟨k8, rfl⟩) fun g2 => ⟨FCall.cfg (C := cs12 hbs) (C' := cs16 hbs) rfl rfl (fc12_Trip hT hT3 hT4 hT7 hT9 hT10 hT11 hT12 e mo t l nc c ns s ta tm r nf f a b K0 k li q pu hnc (by omega) hns hnf (by omega) (fun i hi => by have := hk i hi; omega)), brP (fun hx => by rw [hE] at hx; cases hx) fun _ => ?_⟩) fun _ => ⟨k8, rfl⟩⟩⟩
  have g1 : 0 ≤ fw := by simp at g1; omega
  have g2 : fw ≤ 100 := by simp at g2; omega
  obtain ⟨h1, h2⟩ := S.tE_ok hE
  have h0 := S.tE_0 h1 h2
  have hp := S.plane_ok h1
  have hq := S.tr_ok h2
  have hA := S.al_ok hF
  have b0 : ∀ {x y : Int}, x = y → (x == y) = false → False := fun e h => by rw [e, beq_self_eq_true] at h; cases h
  have dn : ∀ {p : Prop} [Decidable p], decide p = true → ¬ p → False := fun h n => n (of_decide_eq_true h)
  have dp : ∀ {p : Prop} [Decidable p], decide p = false → p → False := fun h n => of_decide_eq_false h n
  cases hb : S.from_ (S.sureH e mo t l nc c ns s ta tm r nf f (S.ptV a b nf (S.legV k li q pu))) (2 * K0) 0 with
  | true =>
    obtain ⟨m6, m7⟩ := S.tA_sure h0 hb
    refine brP (fun _ => brP (fun _ => brP (fun h => (dn h (by omega)).elim) fun _ => cdP (i64_of (by omega) (by omega)) (brP (fun h => (dn h (by omega)).elim) fun _ => brP (fun h => (dn h (by omega)).elim) fun _ => ⟨FCall.cfg (C := cs12 hbs) (C' := cs16 hbs) rfl rfl (fc_law02_part hT12 _ _ _ hq.hab.2.1 (by have := hq.hab; omega) (by have := hq.hab; omega) hA.hff.1 hA.hff.2), cdP ?_ (cdP ?_ ⟨go_law02_LoadAlong1 hT12 929 e mo t l nc c ns s ta tm r nf f a b K0 k li q pu K1 ka fi ff K2 fb K3 kb fl fw hp hq hA hb ⟨g1, g2⟩ 0 _ (Nat.zero_le _) ⟨[some 0, some 1, some 2, some 3], HasR.mk _ rfl rfl ?_ ?_⟩, k8, rfl⟩)⟩)) fun h => (b0 m7 h).elim) fun h => (dp h (by omega)).elim
    · exact ⟨by omega, by omega, by omega⟩
    · show nf * 8 ≤ 140737488355328; omega
    · refine ⟨⟨rfl, ?_⟩, ⟨rfl, ?_⟩, ⟨rfl, ?_⟩, ⟨rfl, rfl, rfl, fun x y _ hy => ?_, rfl⟩, trivial⟩
      · simp [WL, WC, WP', plC]
      · simp [WL, WC, WP', plC]
      · simp [WL, WC, WP', plC]
      · match y, hy with
        | 0, _ => rfl
    · simp [LiveR, WA, WC, WP', Tr.get]; exact rfl
  | false =>
    obtain ⟨m5, m6, m7⟩ := S.tA_not h0 hb
    exact brP (fun h => (dn h (by omega)).elim) fun _ => brP (fun h => by rw [m7] at h; cases h) fun _ => brP (fun h => (dn h (by omega)).elim) fun _ => cdP (i64_of (by omega) (by omega)) (brP (fun h => (dn h (by omega)).elim) fun _ => brP (fun _ => ⟨k8, rfl⟩) fun h => (dp h (by omega)).elim)
end
end Go.Ab.B
