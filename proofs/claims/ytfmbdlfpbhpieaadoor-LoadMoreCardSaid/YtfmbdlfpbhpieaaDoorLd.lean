/- A part of the proof: an evaluator of the program over plain values, proved sound, and what it gives. -/
import Derived.Test.YtfmbdlfpbhpieaaDoorLc
set_option linter.all false
set_option maxRecDepth 100000
namespace Go.Ab.S
def fewAt (g : Nat → Nat → PV) (i : Nat) : Bool := decide ((lN (g i 0) : Int) ≤ 20)
def fewB (n : Nat) (g : Nat → Nat → PV) : Bool := from_ (fewAt g) n 0 && decide ((n : Int) ≤ 12)
def tE (e mo t l : Int) (nc : Nat) (c : Rows) (ns : Nat) (s : Rows) (ta tm r : Int) (nf : Nat) (f : Rows) (a b : Int) (n : Nat) (g : Nat → Nat → PV) : Int := tErr (plane e mo t l nc c ns s ta tm r nf f) ns a b n g
def tA (e mo t l : Int) (nc : Nat) (c : Rows) (ns : Nat) (s : Rows) (ta tm r : Int) (nf : Nat) (f : Rows) (a b : Int) (n : Nat) (g : Nat → Nat → PV) : Int := unX (tE e mo t l nc c ns s ta tm r nf f a b n g != 0) (unA (from_ (sureH e mo t l nc c ns s ta tm r nf f (ptV a b nf g)) (2 * n) 0) (fst (sureH e mo t l nc c ns s ta tm r nf f (ptV a b nf g)) (2 * n) 0)) 0
def tR (e mo t l : Int) (nc : Nat) (c : Rows) (ns : Nat) (s : Rows) (ta tm r : Int) (nf : Nat) (f : Rows) (a b : Int) (n : Nat) (g : Nat → Nat → PV) : Int := unX (tE e mo t l nc c ns s ta tm r nf f a b n g != 0) (unX (from_ (sureH e mo t l nc c ns s ta tm r nf f (ptV a b nf g)) (2 * n) 0) (broR (ruH e mo t l nc c ns s ta tm r nf f (ptV a b nf g) (fst (sureH e mo t l nc c ns s ta tm r nf f (ptV a b nf g)) (2 * n) 0))) 1) 0
def tI (e mo t l : Int) (nc : Nat) (c : Rows) (ns : Nat) (s : Rows) (ta tm r : Int) (nf : Nat) (f : Rows) (a b : Int) (n : Nat) (g : Nat → Nat → PV) : Int := unX (tE e mo t l nc c ns s ta tm r nf f a b n g != 0) (unX (from_ (sureH e mo t l nc c ns s ta tm r nf f (ptV a b nf g)) (2 * n) 0) (broI (ruH e mo t l nc c ns s ta tm r nf f (ptV a b nf g) (fst (sureH e mo t l nc c ns s ta tm r nf f (ptV a b nf g)) (2 * n) 0))) 0) 0
def legsB (st : Int) (n : Nat) (g : Nat → Nat → PV) : Bool := from_ (legAt st g) n 0 && decide ((n : Int) ≥ 1)
def nrR (it : Rows) (x y : Int) : Rows := fun j w => match w with
  | 0 => it j 0
  | 1 => part (it j 1) (it j 2) x
  | _ => part (it j 1) (it j 2) y
def nrQ (g : Nat → Nat → PV) (x y : Int) : Rows := fun i w => match w with
  | 0 => lI (g i 2)
  | 1 => part (lI (g i 3)) (lI (g i 4)) x
  | 2 => part (lI (g i 3)) (lI (g i 4)) y
  | 3 => part (lI (g i 5)) (lI (g i 6)) x
  | _ => part (lI (g i 5)) (lI (g i 6)) y
def nrL (g : Nat → Nat → PV) (x y : Int) : Nat → Nat → PV := legV (fun i => lN (g i 0)) (fun i => nrR (lR (g i 0)) x y) (nrQ g x y) (fun i => lB (g i 1))
end Go.Ab.S
namespace Go.Ab.B
open Go.Proofs
def sp_law02_few : List AV → Option (AV × Heap)
  | [.c (.p (.isl 7 n g))] => some (vB (S.fewB n g), [])
  | _ => none
def sp_ref02_Legs : List AV → Option (AV × Heap)
  | [.c (.p (.isl 7 n g)), .c (.p (.int .i64 st))] => some (vB (S.legsB st n g), [])
  | _ => none
def sp_law02_refused : List AV → Option (AV × Heap)
  | [.ag [.p (.int .i64 e), .p (.int .i64 mo), .p (.int .i64 t), .p (.int .i64 l), .p (.isl 2 nc c), .p (.isl 2 ns s), .p (.int .i64 ta), .p (.int .i64 tm), .p (.int .i64 r), .p (.isl 2 nf f)], .ag [.p (.int .i64 a), .p (.int .i64 b)], .c (.p (.isl 7 n g)), .c (.p (.bool true))] =>
    some (vI .i64 (S.tE e mo t l nc (S.num c) ns (S.num s) ta tm r nf (S.num f) a b n g), [])
  | _ => none
def sp_law02_part : List AV → Option (AV × Heap)
  | [.ag [.p (.int .i64 lo), .p (.int .i64 hi)], .c (.p (.int .i64 pc))] => some (vI .i64 (S.part lo hi pc), [])
  | _ => none
def sp_law02_narrow : List AV → Option (AV × Heap)
  | [.ag [.p (.int .i64 lo), .p (.int .i64 hi)], .c (.p (.int .i64 x)), .c (.p (.int .i64 y))] => some (.ag [.p (.int .i64 (S.part lo hi x)), .p (.int .i64 (S.part lo hi y))], [])
  | _ => none
def sp_load_Trip : List AV → Option (AV × Heap)
  | [.ag [.p (.int .i64 e), .p (.int .i64 mo), .p (.int .i64 t), .p (.int .i64 l), .p (.isl 2 nc c), .p (.isl 2 ns s), .p (.int .i64 ta), .p (.int .i64 tm), .p (.int .i64 r), .p (.isl 2 nf f)], .ag [.p (.int .i64 a), .p (.int .i64 b)], .c (.p (.isl 7 n g))] =>
    some (.tp [vI .i64 (S.tA e mo t l nc (S.num c) ns (S.num s) ta tm r nf (S.num f) a b n g), vI .i64 (S.tR e mo t l nc (S.num c) ns (S.num s) ta tm r nf (S.num f) a b n g), vI .i64 (S.tI e mo t l nc (S.num c) ns (S.num s) ta tm r nf (S.num f) a b n g), vI .i64 (S.tE e mo t l nc (S.num c) ns (S.num s) ta tm r nf (S.num f) a b n g)], [])
  | _ => none
def Sp12 (f : Nat) (l : List AV) : Option (AV × Heap) := bif Nat.beq f f_law02_few then sp_law02_few l else bif Nat.beq f f_ref02_Legs then sp_ref02_Legs l else bif Nat.beq f f_law02_refused then sp_law02_refused l else bif Nat.beq f f_law02_part then sp_law02_part l else bif Nat.beq f f_law02_narrow then sp_law02_narrow l else bif Nat.beq f f_load_Trip then sp_load_Trip l else Sp11 f l
def lp_law02_few (s : St) : Option LTree :=
  match Tr.get .h s.t with
  | .c (.p (.isl 7 n g)) => some (.br (S.from_ (S.fewAt g) n 0) (.e (.exit 0) ⟨setAll [(.h, .c (.p (.isl 7 n g)))], []⟩) (.e .ret ⟨setAll [((.i .h), vB false)], []⟩))
  | _ => none
def lp_ref02_Legs (s : St) : Option LTree :=
  match Tr.get .h s.t, Tr.get (.o .h) s.t with
  | .c (.p (.isl 7 n g)), .c (.p (.int .i64 st)) => some (.br (S.from_ (S.legAt st g) n 0) (.e (.exit 0) ⟨setAll [(.h, .c (.p (.isl 7 n g)))], []⟩) (.e .ret ⟨setAll [((.i (.o .h)), vB false)], []⟩))
  | _, _ => none
def lp_law02_LoadMore (j : Nat) (s : St) : Option LTree :=
  match Tr.get (.i .h) s.t, Tr.get (.o (.o .h)) s.t, Tr.get (.i (.o .h)) s.t, Tr.get (.o (.i (.i (.o .h)))) s.t with
  | .c (.p (.isl 7 n g)), .c (.p (.int .i64 x)), .c (.p (.int .i64 y)), .c (.p (.int .i64 i)) => match j with
    | 1 => match s.h with
      | _ :: b1 :: b2 :: _ => some (.e (.exit 0) ⟨setAll [(.i (.o (.i (.o .h))), .c (.sl 3 0 n)), (.i (.o (.o .h)), .c (.pt 1 0)), (.i (.o .h), vI .i64 y), (.o (.o (.i (.o .h))), .c (.pt 2 0)), (.o (.o .h), vI .i64 x)], [none, b1, b2, some (.arr 7 t_api_LoadLeg n (S.nrL g x y) [])]⟩)
      | _ => none
    | _ => match s.h with
      | b0 :: b1 :: b2 :: b3 :: b4 :: _ => match b4, b3 with
        | some (.box tl [_, c1, c2, c3, c4, c5, c6]), some (.arr _ _ m _ _) => some (.e (.exit 2) ⟨setAll [(.i (.i (.i (.o .h))), .c (.pt 4 0)), (.i (.o (.i (.o .h))), .c (.sl 3 0 m)), (.i (.o (.o .h)), .c (.pt 1 0)), (.i (.o .h), vI .i64 y), (.i .h, .c (.p (.isl 7 n g))), (.o (.i (.i (.o .h))), vI .i64 i), (.o (.o (.i (.o .h))), .c (.pt 2 0)), (.o (.o .h), vI .i64 x)],
          [b0, b1, b2, b3, some (.box tl [.sl 5 0 (S.lN (g i.toNat 0)), c1, c2, c3, c4, c5, c6]), some (.arr 3 t_api_LoadItem (S.lN (g i.toNat 0)) (S.val (S.nrR (S.lR (g i.toNat 0)) x y)) [])]⟩)
        | _, _ => none
      | _ => none
  | _, _, _, _ => none
def Lp12 (n0 : Nat) (a : MC) (s : St) : Option LTree := bif Nat.beq (keyM a 0) key_law02_few_l1 then lp_law02_few s else bif Nat.beq (keyM a 0) key_ref02_Legs_l1 then lp_ref02_Legs s else bif Nat.beq (keyM a 0) key_law02_LoadMore_l1 then lp_law02_LoadMore 1 s else bif Nat.beq (keyM a 0) key_law02_LoadMore_l2 then lp_law02_LoadMore 2 s else Lp11 n0 a s
def cs12 {P : Program} (hbs : BsOk P) : Cfg := { cs11 hbs with Sp := Sp12, Lp := Lp12 }
end Go.Ab.B
set_option linter.all false
set_option maxRecDepth 100000
namespace Go.Ab.B
open Go.Proofs
section
variable {hbs : BsOk Tryd.prog}
theorem vs_law02_few (fu i : Nat) (K0 : Nat) (k : Nat → Nat) (li : Nat → S.Rows) (q : S.Rows) (pu : Nat → Bool) (Q : AX → St → Prop) :
 ((BrP (decide (((i : Nat) : Int) < ((K0 : Nat) : Int)))
 (CdP (.rng ((i : Nat) : Int) K0)
 (BrP (decide ((((k i) : Nat) : Int) > (20 : Int)))
 (Q .ret ⟨(.nd (L4 (.nd (L6 (L1 (vJ (((k i) : Nat) : Int))) (vB true)) (vN i) (L1 (vN i))) (L5 (.c (.p (.isl 7 K0 (S.legV k li q pu)))) (L1 (.c (.p (.ipt 7 (fun x8 => (S.legV k li q pu i (0 + x8))))))))) (.c (.p (.isl 7 K0 (S.legV k li q pu)))) (.nd (.nd (L3 (L1 (vB true))) (vN i) (L1 (.c (.p (.ipt 7 (S.legV k li q pu i)))))) (vB false) (.nd (L1 (.c (.p (.isl 7 K0 (S.legV k li q pu))))) (vJ ((K0 : Nat) : Int)) (L1 (.c (.p (.isl 3 (k i) (S.val (fun x8 => (fun x9 => (li i x8 x9))))))))))), []⟩)
 (CdP (.i64 (((i : Nat) : Int) + (1 : Int)))
 (Q .normal ⟨(.nd (L4 (.nd (L6 (L1 (vJ (((k i) : Nat) : Int))) (vB true)) (vJ (((i : Nat) : Int) + (1 : Int))) (L1 (vN i))) (.nd (L1 (vJ (((i : Nat) : Int) + (1 : Int)))) (.c (.p (.isl 7 K0 (S.legV k li q pu)))) (L1 (.c (.p (.ipt 7 (fun x8 => (S.legV k li q pu i (0 + x8))))))))) (.c (.p (.isl 7 K0 (S.legV k li q pu)))) (L4 (.nd (L6 (L1 (vB false)) (vN i)) (vN i) (L1 (.c (.p (.ipt 7 (S.legV k li q pu i)))))) (.nd (L1 (.c (.p (.isl 7 K0 (S.legV k li q pu))))) (vJ ((K0 : Nat) : Int)) (L1 (.c (.p (.isl 3 (k i) (S.val (fun x8 => (fun x9 => (li i x8 x9))))))))))), []⟩))))
 (Q (.exit 0) ⟨(.nd (L4 (L6 (L1 (vB false)) (vN i)) (L1 (.c (.p (.isl 7 K0 (S.legV k li q pu)))))) (.c (.p (.isl 7 K0 (S.legV k li q pu)))) (L4 (L1 (vN i)) (L1 (vJ ((K0 : Nat) : Int))))), []⟩))) = (ex (cs12 hbs) (fu + 60) 0 m_law02_few_l1 ⟨setAll [(.h, .c (.p (.isl 7 K0 (S.legV k li q pu)))), (.o (.o .h), .c (cJ i))], []⟩ (fun e s => .pr (Q e s))).hold2 := by kernel_rfl
theorem vc_law02_few (K0 : Nat) (k : Nat → Nat) (li : Nat → S.Rows) (q : S.Rows) (pu : Nat → Bool) (Q : AV → Heap → Prop) :
 (((LoopGo (ex (cs12 hbs) 995) 0 m_law02_few_l1 ⟨(.nd (L3 (L1 (vJ 0))) (.c (.p (.isl 7 K0 (S.legV k li q pu)))) (L1 (vB false))), []⟩ (.br (S.from_ (S.fewAt (S.legV k li q pu)) K0 0) (.e (.exit 0) ⟨(L1 (.c (.p (.isl 7 K0 (S.legV k li q pu))))), []⟩) (.e .ret ⟨(L2 (L1 (vB false))), []⟩))) ∧
 (BrP (S.from_ (S.fewAt (S.legV k li q pu)) K0 0)
 (BrP (decide (((K0 : Nat) : Int) ≤ (12 : Int)))
 (Q (vB true) [])
 (Q (vB false) []))
 (Q (vB false) [])))) = (ex (cs12 hbs) 1000 0 m_law02_few ⟨ofL 0 [.c (.p (.isl 7 K0 (S.legV k li q pu)))] .lf, []⟩ (endK F_law02_few.rs (fun r H => .pr (Q r H)) fun _ _ => .no)).hold2 := by kernel_rfl
theorem vs_ref02_Legs (fu i : Nat) (st : Int) (K0 : Nat) (k : Nat → Nat) (li : Nat → S.Rows) (q : S.Rows) (pu : Nat → Bool) (Q : AX → St → Prop) :
 ((BrP (decide (((i : Nat) : Int) < ((K0 : Nat) : Int)))
 (CdP (.rng ((i : Nat) : Int) K0)
 ((FCall (cs12 hbs) f_ref02_items [(.c (.p (.isl 3 (k i) (S.val (fun x9 => (fun x10 => (li i x9 x10))))))), (vJ st)] (.c (.p (.bool (S.itemsOk (k i) (fun x9 => (fun x10 => (li i x9 x10))) st)))) []) ∧
 (BrP (S.itemsOk (k i) (fun x9 => (fun x10 => (li i x9 x10))) st)
 (CdP (.rng ((i : Nat) : Int) K0)
 ((FCall (cs12 hbs) f_ref02_in [(vJ (q i 0)), (vJ 0), (vJ 20000)] (.c (.p (.bool (S.inB (0 : Int) (q i 0) (20000 : Int))))) []) ∧
 (BrP (S.inB (0 : Int) (q i 0) (20000 : Int))
 (CdP (.rng ((i : Nat) : Int) K0)
 ((FCall (cs12 hbs) f_ref02_Span [(.ag [(cJ (q i 1)), (cJ (q i 2))]), (vJ 0), (vJ 20000)] (.c (.p (.bool (S.span (q i 1) (q i 2) (0 : Int) (20000 : Int))))) []) ∧
 (BrP (S.span (q i 1) (q i 2) (0 : Int) (20000 : Int))
 (CdP (.rng ((i : Nat) : Int) K0)
 ((FCall (cs12 hbs) f_ref02_Span [(.ag [(cJ (q i 3)), (cJ (q i 4))]), (vJ 0), (vJ 20000)] (.c (.p (.bool (S.span (q i 3) (q i 4) (0 : Int) (20000 : Int))))) []) ∧
 (BrP (S.span (q i 3) (q i 4) (0 : Int) (20000 : Int))
 (CdP (.i64 (((i : Nat) : Int) + (1 : Int)))
 (Q .normal ⟨(.nd (.nd (L4 (.nd (L6 (L1 (vN i)) (.c (.p (.ipt 7 (fun x9 => (S.legV k li q pu i (0 + x9))))))) (.c (.p (.isl 7 K0 (S.legV k li q pu)))) (L6 (L1 (.c (.p (.isl 7 K0 (S.legV k li q pu))))) (.c (.p (.ipt 7 (S.legV k li q pu i)))))) (.nd (L6 (L1 (vB true)) (vB false)) (vJ (((i : Nat) : Int) + (1 : Int))) (L6 (L1 (.ag [(cJ (q i 3)), (cJ (q i 4))])) (vB false)))) (vJ st) (.nd (.nd (L6 (L1 (.c (.p (.ipt 4 (fun x9 => (S.legV k li q pu i (3 + x9))))))) (vJ st)) (vB true) (L6 (L1 (.c (.p (.ipt 7 (S.legV k li q pu i))))) (vJ (q i 0)))) (vJ (((i : Nat) : Int) + (1 : Int))) (.nd (L6 (L1 (vB false)) (.c (.p (.isl 7 K0 (S.legV k li q pu))))) (vN i) (L6 (L1 (vB false)) (vB false))))) (.c (.p (.isl 7 K0 (S.legV k li q pu)))) (L4 (L4 (.nd (L6 (L1 (.c (.p (.ipt 7 (S.legV k li q pu i))))) (.c (.p (.isl 3 (k i) (S.val (fun x9 => (fun x10 => (li i x9 x10)))))))) (vJ ((K0 : Nat) : Int)) (L6 (L1 (vN i)) (.c (.p (.ipt 5 (fun x9 => (S.legV k li q pu i (2 + x9)))))))) (.nd (L6 (L1 (vB false)) (vB false)) (.c (.p (.isl 7 K0 (S.legV k li q pu)))) (L6 (L1 (vB true)) (vB false)))) (.nd (.nd (L6 (L1 (.ag [(cJ (q i 1)), (cJ (q i 2))])) (vB true)) (vN i) (L6 (L1 (.c (.p (.ipt 2 (fun x9 => (S.legV k li q pu i (5 + x9))))))) (vB true))) (vN i) (.nd (L6 (L1 (vB false)) (vN i)) (.c (.p (.ipt 7 (S.legV k li q pu i)))) (L6 (L1 (vB false)) (.c (.p (.isl 7 K0 (S.legV k li q pu))))))))), []⟩))
 (Q .ret ⟨(.nd (.nd (L4 (.nd (L6 (L1 (vN i)) (.c (.p (.ipt 7 (fun x9 => (S.legV k li q pu i (0 + x9))))))) (.c (.p (.isl 7 K0 (S.legV k li q pu)))) (L6 (L1 (.c (.p (.isl 7 K0 (S.legV k li q pu))))) (.c (.p (.ipt 7 (S.legV k li q pu i)))))) (L4 (L6 (L1 (vB true)) (vB false)) (L6 (L1 (.ag [(cJ (q i 3)), (cJ (q i 4))])) (vB false)))) (vJ st) (.nd (.nd (L6 (L1 (.c (.p (.ipt 4 (fun x9 => (S.legV k li q pu i (3 + x9))))))) (vJ st)) (vB true) (L6 (L1 (.c (.p (.ipt 7 (S.legV k li q pu i))))) (vJ (q i 0)))) (vN i) (.nd (L6 (L1 (vB false)) (.c (.p (.isl 7 K0 (S.legV k li q pu))))) (vN i) (L6 (L1 (vB true)) (vB false))))) (.c (.p (.isl 7 K0 (S.legV k li q pu)))) (L4 (.nd (.nd (L6 (L1 (.c (.p (.ipt 7 (S.legV k li q pu i))))) (.c (.p (.isl 3 (k i) (S.val (fun x9 => (fun x10 => (li i x9 x10)))))))) (vJ ((K0 : Nat) : Int)) (L6 (L1 (vN i)) (.c (.p (.ipt 5 (fun x9 => (S.legV k li q pu i (2 + x9)))))))) (vB false) (.nd (L6 (L1 (vB false)) (vB false)) (.c (.p (.isl 7 K0 (S.legV k li q pu)))) (L6 (L1 (vB false)) (vB false)))) (.nd (L4 (L6 (L1 (.ag [(cJ (q i 1)), (cJ (q i 2))])) (vB true)) (L6 (L1 (.c (.p (.ipt 2 (fun x9 => (S.legV k li q pu i (5 + x9))))))) (vB true))) (vN i) (.nd (L6 (L1 (vB false)) (vN i)) (.c (.p (.ipt 7 (S.legV k li q pu i)))) (L6 (L1 (vB true)) (.c (.p (.isl 7 K0 (S.legV k li q pu))))))))), []⟩))))
 (Q .ret ⟨(.nd (.nd (L4 (.nd (L6 (L1 (vN i)) (.c (.p (.ipt 7 (fun x9 => (S.legV k li q pu i (0 + x9))))))) (.c (.p (.isl 7 K0 (S.legV k li q pu)))) (L6 (L1 (.tp [])) (.c (.p (.ipt 7 (S.legV k li q pu i)))))) (L4 (L6 (L1 (vB false)) (vB false)) (L6 (L1 (.tp [])) (vB false)))) (vJ st) (.nd (.nd (L6 (L1 (.c (.p (.ipt 4 (fun x9 => (S.legV k li q pu i (3 + x9))))))) (vJ st)) (vB true) (L6 (L1 (.tp [])) (vJ (q i 0)))) (vN i) (.nd (L6 (L1 (vB true)) (.c (.p (.isl 7 K0 (S.legV k li q pu))))) (vN i) (L6 (L1 (.tp [])) (vB false))))) (.c (.p (.isl 7 K0 (S.legV k li q pu)))) (L4 (.nd (.nd (L6 (L1 (.c (.p (.ipt 7 (S.legV k li q pu i))))) (.c (.p (.isl 3 (k i) (S.val (fun x9 => (fun x10 => (li i x9 x10)))))))) (vJ ((K0 : Nat) : Int)) (L6 (L1 (.tp [])) (.c (.p (.ipt 5 (fun x9 => (S.legV k li q pu i (2 + x9)))))))) (vB false) (.nd (L6 (L1 (vB true)) (vB false)) (.c (.p (.isl 7 K0 (S.legV k li q pu)))) (L6 (L1 (.tp [])) (vB false)))) (.nd (L4 (L6 (L1 (.ag [(cJ (q i 1)), (cJ (q i 2))])) (vB true)) (L6 (L1 (.tp [])) (vB true))) (vN i) (.nd (L6 (L1 (vB true)) (vN i)) (.c (.p (.ipt 7 (S.legV k li q pu i)))) (L6 (L1 (vB true)) (.c (.p (.isl 7 K0 (S.legV k li q pu))))))))), []⟩))))
 (Q .ret ⟨(.nd (.nd (L4 (.nd (L6 (L1 (.tp [])) (.c (.p (.ipt 7 (fun x9 => (S.legV k li q pu i (0 + x9))))))) (.c (.p (.isl 7 K0 (S.legV k li q pu)))) (L6 (L1 (.tp [])) (.c (.p (.ipt 7 (S.legV k li q pu i)))))) (L4 (L6 (L1 (.tp [])) (vB false)) (L6 (L1 (.tp [])) (vB true)))) (vJ st) (.nd (.nd (L6 (L1 (.tp [])) (vJ st)) (vB true) (L6 (L1 (.tp [])) (vJ (q i 0)))) (vN i) (.nd (L6 (L1 (vB true)) (.c (.p (.isl 7 K0 (S.legV k li q pu))))) (vN i) (L6 (L1 (.tp [])) (vB true))))) (.c (.p (.isl 7 K0 (S.legV k li q pu)))) (L4 (.nd (.nd (L6 (L1 (.tp [])) (.c (.p (.isl 3 (k i) (S.val (fun x9 => (fun x10 => (li i x9 x10)))))))) (vJ ((K0 : Nat) : Int)) (L6 (L1 (.tp [])) (.c (.p (.ipt 5 (fun x9 => (S.legV k li q pu i (2 + x9)))))))) (vB false) (.nd (L6 (L1 (.tp [])) (vB false)) (.c (.p (.isl 7 K0 (S.legV k li q pu)))) (L6 (L1 (.tp [])) (vB true)))) (.nd (L4 (L6 (L1 (.tp [])) (vB true)) (L6 (L1 (.tp [])) (vB false))) (vN i) (.nd (L6 (L1 (vB true)) (vN i)) (.c (.p (.ipt 7 (S.legV k li q pu i)))) (L6 (L1 (vB true)) (.tp [])))))), []⟩))))
 (Q .ret ⟨(.nd (.nd (L4 (.nd (L6 (L1 (.tp [])) (.c (.p (.ipt 7 (fun x9 => (S.legV k li q pu i (0 + x9))))))) (.c (.p (.isl 7 K0 (S.legV k li q pu)))) (L6 (L1 (.tp [])) (.tp []))) (L4 (L6 (L1 (.tp [])) (vB true)) (L6 (L1 (.tp [])) (.tp [])))) (vJ st) (.nd (.nd (L6 (L1 (.tp [])) (vJ st)) (vB true) (L6 (L1 (.tp [])) (.tp []))) (vN i) (.nd (L6 (L1 (vB true)) (.tp [])) (vN i) (L6 (L1 (.tp [])) (vB true))))) (.c (.p (.isl 7 K0 (S.legV k li q pu)))) (L4 (.nd (.nd (L6 (L1 (.tp [])) (.c (.p (.isl 3 (k i) (S.val (fun x9 => (fun x10 => (li i x9 x10)))))))) (vJ ((K0 : Nat) : Int)) (L6 (L1 (.tp [])) (.tp []))) (vB false) (.nd (L6 (L1 (.tp [])) (vB true)) (.c (.p (.isl 7 K0 (S.legV k li q pu)))) (L6 (L1 (.tp [])) (vB true)))) (.nd (L4 (L6 (L1 (.tp [])) (vB false)) (L6 (L1 (.tp [])) (.tp []))) (vN i) (.nd (L6 (L1 (vB true)) (.tp [])) (.c (.p (.ipt 7 (S.legV k li q pu i)))) (L6 (L1 (vB true)) (.tp [])))))), []⟩))))
 (Q (.exit 0) ⟨(.nd (.nd (L3 (L1 (.c (.p (.isl 7 K0 (S.legV k li q pu)))))) (vJ st) (L6 (L1 (vB false)) (vN i))) (.c (.p (.isl 7 K0 (S.legV k li q pu)))) (L4 (L3 (L1 (vJ ((K0 : Nat) : Int)))) (L1 (vN i)))), []⟩))) = (ex (cs12 hbs) (fu + 60) 0 m_ref02_Legs_l1 ⟨setAll [(.h, .c (.p (.isl 7 K0 (S.legV k li q pu)))), (.o .h, .c (cJ st)), (.o (.i .h), .c (cJ i))], []⟩ (fun e s => .pr (Q e s))).hold2 := by kernel_rfl
theorem vc_ref02_Legs (st : Int) (K0 : Nat) (k : Nat → Nat) (li : Nat → S.Rows) (q : S.Rows) (pu : Nat → Bool) (Q : AV → Heap → Prop) :
 (((LoopGo (ex (cs12 hbs) 995) 0 m_ref02_Legs_l1 ⟨(.nd (L5 (vJ st) (L1 (vJ 0))) (.c (.p (.isl 7 K0 (S.legV k li q pu)))) (L3 (L1 (vB false)))), []⟩ (.br (S.from_ (S.legAt st (S.legV k li q pu)) K0 0) (.e (.exit 0) ⟨(L1 (.c (.p (.isl 7 K0 (S.legV k li q pu))))), []⟩) (.e .ret ⟨(L2 (L3 (L1 (vB false)))), []⟩))) ∧
 (BrP (S.from_ (S.legAt st (S.legV k li q pu)) K0 0)
 (BrP (decide (((K0 : Nat) : Int) ≥ (1 : Int)))
 (Q (vB true) [])
 (Q (vB false) []))
 (Q (vB false) [])))) = (ex (cs12 hbs) 1000 0 m_ref02_Legs ⟨ofL 0 [.c (.p (.isl 7 K0 (S.legV k li q pu))), .c (cJ st)] .lf, []⟩ (endK F_ref02_Legs.rs (fun r H => .pr (Q r H)) fun _ _ => .no)).hold2 := by kernel_rfl
theorem vc_law02_refused (e mo t l : Int) (nc : Nat) (c : S.Rows) (ns : Nat) (s : S.Rows) (ta tm r : Int) (nf : Nat) (f : S.Rows) (a b : Int) (K0 : Nat) (k : Nat → Nat) (li : Nat → S.Rows) (q : S.Rows) (pu : Nat → Bool) (Q : AV → Heap → Prop) :
 ((BrP (decide (((K0 : Nat) : Int) > (6 : Int)))
 (Q (vJ 3) [(bP e mo t l nc c ns s ta tm r nf f), (some (.box t_api_Span [(cJ a), (cJ b)]))])
 ((FCall (cs12 hbs) f_ref02_Plane [(.ag (kP e mo t l nc c ns s ta tm r nf f))] (.c (.p (.bool (S.plane e mo t l nc c ns s ta tm r nf f)))) []) ∧
 (BrP (S.plane e mo t l nc c ns s ta tm r nf f)
 ((FCall (cs12 hbs) f_ref02_Span [(.ag [(cJ a), (cJ b)]), (vJ 0), (vJ 20000)] (.c (.p (.bool (S.span a b (0 : Int) (20000 : Int))))) []) ∧
 (BrP (S.span a b (0 : Int) (20000 : Int))
 ((FCall (cs12 hbs) f_ref02_Legs [(.c (.p (.isl 7 K0 (S.legV k li q pu)))), (vN ns)] (.c (.p (.bool (S.legsB ((ns : Nat) : Int) K0 (S.legV k li q pu))))) []) ∧
 (BrP (S.legsB ((ns : Nat) : Int) K0 (S.legV k li q pu))
 (Q (vJ 0) [(bP e mo t l nc c ns s ta tm r nf f), (some (.box t_api_Span [(cJ a), (cJ b)]))])
 (Q (vJ 2) [(bP e mo t l nc c ns s ta tm r nf f), (some (.box t_api_Span [(cJ a), (cJ b)]))])))
 (Q (vJ 2) [(bP e mo t l nc c ns s ta tm r nf f), (some (.box t_api_Span [(cJ a), (cJ b)]))])))
 (Q (vJ 2) [(bP e mo t l nc c ns s ta tm r nf f), (some (.box t_api_Span [(cJ a), (cJ b)]))]))))) = (ex (cs12 hbs) 1000 0 m_law02_refused ⟨ofL 0 [.ag (plC e mo t l nc (S.val c) ns (S.val s) ta tm r nf (S.val f)), .ag [.p (.int .i64 a), .p (.int .i64 b)], .c (.p (.isl 7 K0 (S.legV k li q pu))), .c (.p (.bool true))] .lf, []⟩ (endK F_law02_refused.rs (fun r H => .pr (Q r H)) fun _ _ => .no)).hold2 := by kernel_rfl
theorem vc_law02_part (lo hi pc : Int) (Q : AV → Heap → Prop) :
 ((CdP (.i64 (hi - lo))
 (CdP (.i64 ((hi - lo) * pc))
 (CdP (.i64 (Int.tdiv ((hi - lo) * pc) (100 : Int)))
 (CdP (.i64 (lo + (Int.tdiv ((hi - lo) * pc) (100 : Int))))
 (Q (vJ (lo + (Int.tdiv ((hi - lo) * pc) (100 : Int)))) [(some (.box t_api_Span [(cJ lo), (cJ hi)]))])))))) = (ex (cs12 hbs) 1000 0 m_law02_part ⟨ofL 0 [.ag [.p (.int .i64 lo), .p (.int .i64 hi)], .c (cJ pc)] .lf, []⟩ (endK F_law02_part.rs (fun r H => .pr (Q r H)) fun _ _ => .no)).hold2 := by kernel_rfl
theorem vc_law02_narrow (lo hi x y : Int) (Q : AV → Heap → Prop) :
 (((FCall (cs12 hbs) f_law02_part [(.ag [(cJ lo), (cJ hi)]), (vJ x)] (vJ (S.part lo hi x)) []) ∧
 ((FCall (cs12 hbs) f_law02_part [(.ag [(cJ lo), (cJ hi)]), (vJ y)] (vJ (S.part lo hi y)) []) ∧
 (Q (.ag [(cJ (S.part lo hi x)), (cJ (S.part lo hi y))]) [(some (.box t_api_Span [(cJ lo), (cJ hi)])), (some (.box t_api_Span [(cJ (S.part lo hi x)), (cJ (S.part lo hi y))]))])))) = (ex (cs12 hbs) 1000 0 m_law02_narrow ⟨ofL 0 [.ag [.p (.int .i64 lo), .p (.int .i64 hi)], .c (cJ x), .c (cJ y)] .lf, []⟩ (endK F_law02_narrow.rs (fun r H => .pr (Q r H)) fun _ _ => .no)).hold2 := by kernel_rfl
end
end Go.Ab.B
set_option linter.all false
set_option maxRecDepth 100000
namespace Go.Ab.S
theorem fewAt_eq (k : Nat → Nat) (li : Nat → Rows) (q : Rows) (pu : Nat → Bool) (i : Nat) : fewAt (legV k li q pu) i = decide ((k i : Int) ≤ 20) := rfl
theorem legs_tErr {pl : Bool} {ns : Nat} {a b : Int} {n : Nat} {g : Nat → Nat → PV} (h1 : (n : Int) ≤ 6) : tErr pl ns a b n g = (match pl && (span a b 0 20000 && legsB ns n g) with | true => 0 | false => 2) := by
  have e : decide ((n : Int) > 6) = false := by simpa using h1
  have e2 : inB 1 (n : Int) 6 = decide ((n : Int) ≥ 1) := by
    unfold inB
    have : decide ((n : Int) ≤ 6) = true := by simpa using h1
    rw [this, Bool.and_true]
  simp only [tErr, e, tripB, legsB, e2]
  rw [Bool.and_comm (decide ((n : Int) ≥ 1))]
  rfl
end Go.Ab.S
namespace Go.Ab.B
open Go.Proofs
section
variable {hbs : BsOk Tryd.prog} (hT : TabOk (cs hbs)) (hT3 : TabOk (cs3 hbs)) (hT12 : TabOk (cs12 hbs))
abbrev lvFw (K0 : Nat) (g : Nat → Nat → PV) (i : Nat) : List (Ps × AV) := [(.h, .c (.p (.isl 7 K0 g))), (.o (.o .h), .c (.p (.int .i64 i)))]
abbrev trFw (K0 : Nat) (g : Nat → Nat → PV) (i : Nat) : LTree := .br (S.from_ (S.fewAt g) K0 i) (.e (.exit 0) ⟨setAll [(.h, .c (.p (.isl 7 K0 g)))], []⟩) (.e .ret ⟨setAll [((.i .h), vB false)], []⟩)
theorem go_law02_few (fu K0 : Nat) (k : Nat → Nat) (li : Nat → S.Rows) (q : S.Rows) (pu : Nat → Bool) (hK : K0 ≤ maxLen) : ∀ (i : Nat) (s : St), i ≤ K0 → (∃ ρ, HasR 0 ρ s (lvFw K0 (S.legV k li q pu) i) []) → LoopGo (ex (cs12 hbs) (fu + 60)) 0 m_law02_few_l1 s (trFw K0 (S.legV k li q pu) i) :=
  loop_kR (σ := Nat) (lvFw K0 (S.legV k li q pu)) (fun _ => []) (fun i => i ≤ K0) (fun i => K0 - i) (trFw K0 (S.legV k li q pu)) _ (fun i Q => vs_law02_few (hbs := hbs) fu i K0 k li q pu Q) fun i hi' K hL X hX => by
      refine brP (fun h1 => ?_) fun h1 => ?_
      · have hlt : i < K0 := by simpa using h1
        refine cdP (idx_ok hlt) (brP (fun h2 => ?_) fun h2 => cdP (i64_nat hlt hK) ?_)
        · have eo : S.fewAt (S.legV k li q pu) i = false := by rw [S.fewAt_eq]; simp at h2 ⊢; omega
          have e2 : S.from_ (S.fewAt (S.legV k li q pu)) K0 i = false := by rw [S.from_step hlt, eo, Bool.false_and]
          simp only [trFw, e2] at hL
          exact HasR.out (l := [((.i .h), vB false)]) (HasR.mk (ρ := []) rfl rfl (by simp [WH]) ⟨.inl rfl, trivial⟩) hL
        · have eo : S.fewAt (S.legV k li q pu) i = true := by rw [S.fewAt_eq]; simp at h2 ⊢; omega
          have e2 : S.from_ (S.fewAt (S.legV k li q pu)) K0 i = S.from_ (S.fewAt (S.legV k li q pu)) K0 (i + 1) := by rw [S.from_step hlt, eo, Bool.true_and]
          simp only [trFw, e2] at hL
          exact hX (i + 1) _ (by omega) (by omega) ⟨[], HasR.mk _ rfl rfl (by simp [WH]) ⟨.inl rfl, .inl rfl, trivial⟩⟩ hL
      · have hlt : K0 ≤ i := by simpa using h1
        have e2 : S.from_ (S.fewAt (S.legV k li q pu)) K0 i = true := S.from_end hlt
        simp only [trFw, e2] at hL
        exact HasR.out (l := [(.h, .c (.p (.isl 7 K0 (S.legV k li q pu))))]) (HasR.mk (ρ := []) rfl rfl (by simp [WH]) ⟨.inl rfl, trivial⟩) hL
include hT12 in
theorem fc_law02_few (K0 : Nat) (k : Nat → Nat) (li : Nat → S.Rows) (q : S.Rows) (pu : Nat → Bool) (hK : K0 ≤ maxLen) : FCall (cs12 hbs) f_law02_few [.c (.p (.isl 7 K0 (S.legV k li q pu)))] (vB (S.fewB K0 (S.legV k li q pu))) [] :=
  fcall_k hT12 (F := F_law02_few) rfl (vc_law02_few K0 k li q pu _) ⟨go_law02_few 935 K0 k li q pu hK 0 _ (Nat.zero_le _) ⟨[], HasR.mk _ rfl rfl (by simp [WH]) ⟨.inl rfl, .inl rfl, trivial⟩⟩, brP (fun h1 => brP (fun h2 => frz_b (by simp only [S.fewB, h1, h2]; rfl)) fun h2 => frz_b (by simp only [S.fewB, h1, h2]; rfl)) fun h1 => frz_b (by simp only [S.fewB, h1]; rfl)⟩
abbrev lvLg (st : Int) (K0 : Nat) (g : Nat → Nat → PV) (i : Nat) : List (Ps × AV) := [(.h, .c (.p (.isl 7 K0 g))), (.o .h, .c (.p (.int .i64 st))), (.o (.i .h), .c (.p (.int .i64 i)))]
abbrev trLg (st : Int) (K0 : Nat) (g : Nat → Nat → PV) (i : Nat) : LTree := .br (S.from_ (S.legAt st g) K0 i) (.e (.exit 0) ⟨setAll [(.h, .c (.p (.isl 7 K0 g)))], []⟩) (.e .ret ⟨setAll [((.i (.o .h)), vB false)], []⟩)
include hT hT3 in
theorem go_ref02_Legs (fu : Nat) (st : Int) (K0 : Nat) (k : Nat → Nat) (li : Nat → S.Rows) (q : S.Rows) (pu : Nat → Bool) (hst : 0 ≤ st ∧ st ≤ 1000000) (hK : K0 ≤ 1000) (hk : ∀ i, i < K0 → k i ≤ 1000000) : ∀ (i : Nat) (s : St), i ≤ K0 → (∃ ρ, HasR 0 ρ s (lvLg st K0 (S.legV k li q pu) i) []) → LoopGo (ex (cs12 hbs) (fu + 60)) 0 m_ref02_Legs_l1 s (trLg st K0 (S.legV k li q pu) i) :=
  loop_kR (σ := Nat) (lvLg st K0 (S.legV k li q pu)) (fun _ => []) (fun i => i ≤ K0) (fun i => K0 - i) (trLg st K0 (S.legV k li q pu)) _ (fun i Q => vs_ref02_Legs (hbs := hbs) fu i st K0 k li q pu Q) fun i hi' K hL X hX => by
      have bad : ∀ (s' : St), i < K0 → S.legAt st (S.legV k li q pu) i = false → (∃ ρ, HasR 0 ρ s' [((.i (.o .h)), vB false)] []) → ∃ s'', Wk 0 s' s'' ∧ (K .ret s'').holds := fun s' hlt eo h => by
        have e2 : S.from_ (S.legAt st (S.legV k li q pu)) K0 i = false := by rw [S.from_step hlt, eo, Bool.false_and]
        simp only [trLg, e2] at hL
        obtain ⟨ρ, h⟩ := h
        exact HasR.out h hL
      refine brP (fun h1 => ?_) fun h1 => ?_
      · have hlt : i < K0 := by simpa using h1
        have hs0 : ∀ (x y : Int), FCall (cs12 hbs) f_ref02_Span [.ag [.p (.int .i64 x), .p (.int .i64 y)], .c (.p (.int .i64 0)), .c (.p (.int .i64 20000))] (vB (S.span x y 0 20000)) [] := fun x y => FCall.cfg (C := cs3 hbs) (C' := cs12 hbs) rfl rfl (fc_ref02_Span hT hT3 _ _ _ _)
        refine cdP (idx_ok hlt) ⟨FCall.cfg (C := cs3 hbs) (C' := cs12 hbs) rfl rfl (fc_ref02_items hT hT3 (k i) (li i) st (hk i hlt) hst), brP (fun a1 => cdP (idx_ok hlt) ⟨FCall.cfg (C := cs3 hbs) (C' := cs12 hbs) rfl rfl (fc3_ref02_in hT hT3 _ _ _), brP (fun a2 => cdP (idx_ok hlt) ⟨hs0 _ _, brP (fun a3 => cdP (idx_ok hlt) ⟨hs0 _ _, brP (fun a4 => cdP (by simp [Cd.holds]; omega) ?_) fun a4 => bad _ hlt ?_ ⟨[], HasR.mk _ rfl rfl (by simp [WH]) ⟨.inl rfl, trivial⟩⟩⟩) fun a3 => bad _ hlt ?_ ⟨[], HasR.mk _ rfl rfl (by simp [WH]) ⟨.inl rfl, trivial⟩⟩⟩) fun a2 => bad _ hlt ?_ ⟨[], HasR.mk _ rfl rfl (by simp [WH]) ⟨.inl rfl, trivial⟩⟩⟩) fun a1 => bad _ hlt ?_ ⟨[], HasR.mk _ rfl rfl (by simp [WH]) ⟨.inl rfl, trivial⟩⟩⟩
        · have a1 : S.itemsOk (k i) (li i) st = true := a1
          have eo : S.legAt st (S.legV k li q pu) i = true := by rw [S.legAt_eq, a1, a2, a3, a4]; rfl
          have e2 : S.from_ (S.legAt st (S.legV k li q pu)) K0 i = S.from_ (S.legAt st (S.legV k li q pu)) K0 (i + 1) := by rw [S.from_step hlt, eo, Bool.true_and]
          simp only [trLg, e2] at hL
          exact hX (i + 1) _ (by omega) (by omega) ⟨[], HasR.mk _ rfl rfl (by simp [WH]) ⟨.inl rfl, .inl rfl, .inl rfl, trivial⟩⟩ hL
        · rw [S.legAt_eq, a4]; simp
        · rw [S.legAt_eq, a3]; simp
        · rw [S.legAt_eq, a2]; simp
        · have a1 : S.itemsOk (k i) (li i) st = false := a1
          rw [S.legAt_eq, a1]; rfl
      · have hlt : K0 ≤ i := by simpa using h1
        have e2 : S.from_ (S.legAt st (S.legV k li q pu)) K0 i = true := S.from_end hlt
        simp only [trLg, e2] at hL
        exact HasR.out (l := [(.h, .c (.p (.isl 7 K0 (S.legV k li q pu))))]) (HasR.mk (ρ := []) rfl rfl (by simp [WH]) ⟨.inl rfl, trivial⟩) hL
include hT hT3 hT12 in
theorem fc_ref02_Legs (st : Int) (K0 : Nat) (k : Nat → Nat) (li : Nat → S.Rows) (q : S.Rows) (pu : Nat → Bool) (hst : 0 ≤ st ∧ st ≤ 1000000) (hK : K0 ≤ 1000) (hk : ∀ i, i < K0 → k i ≤ 1000000) : FCall (cs12 hbs) f_ref02_Legs [.c (.p (.isl 7 K0 (S.legV k li q pu))), .c (.p (.int .i64 st))] (vB (S.legsB st K0 (S.legV k li q pu))) [] :=
  fcall_k hT12 (F := F_ref02_Legs) rfl (vc_ref02_Legs st K0 k li q pu _) ⟨go_ref02_Legs hT hT3 935 st K0 k li q pu hst hK hk 0 _ (Nat.zero_le _) ⟨[], HasR.mk _ rfl rfl (by simp [WH]) ⟨.inl rfl, .inl rfl, .inl rfl, trivial⟩⟩, brP (fun h1 => brP (fun h2 => frz_b (by simp only [S.legsB, h1, h2]; rfl)) fun h2 => frz_b (by simp only [S.legsB, h1, h2]; rfl)) fun h1 => frz_b (by simp only [S.legsB, h1]; rfl)⟩
include hT hT3 hT12 in
theorem fc_law02_refused (e mo t l : Int) (nc : Nat) (c : S.Rows) (ns : Nat) (s : S.Rows) (ta tm r : Int) (nf : Nat) (f : S.Rows) (a b : Int) (K0 : Nat) (k : Nat → Nat) (li : Nat → S.Rows) (q : S.Rows) (pu : Nat → Bool) (hnc : nc ≤ maxLen) (hns : ns ≤ 1000000) (hns' : ns ≤ maxLen) (hnf : nf ≤ maxLen) (hk : ∀ i, i < K0 → k i ≤ 1000000) : FCall (cs12 hbs) f_law02_refused [.ag (plC e mo t l nc (S.val c) ns (S.val s) ta tm r nf (S.val f)), .ag [.p (.int .i64 a), .p (.int .i64 b)], .c (.p (.isl 7 K0 (S.legV k li q pu))), .c (.p (.bool true))] (vI .i64 (S.tE e mo t l nc c ns s ta tm r nf f a b K0 (S.legV k li q pu))) [] :=
  fcall_k hT12 (F := F_law02_refused) rfl (vc_law02_refused e mo t l nc c ns s ta tm r nf f a b K0 k li q pu _) (brP (fun h1 => by simp only [S.tE, S.tErr, h1]; rfl) fun h1 => by
    have h6 : (K0 : Int) ≤ 6 := by simpa using h1
    have he : S.tE e mo t l nc c ns s ta tm r nf f a b K0 (S.legV k li q pu) = _ := S.legs_tErr h6
    rw [he]
    exact ⟨FCall.cfg (C := cs hbs) (C' := cs12 hbs) rfl rfl (fc_ref02_Plane hT hnc hns' hnf), brP (fun g1 => ⟨FCall.cfg (C := cs3 hbs) (C' := cs12 hbs) rfl rfl (fc_ref02_Span hT hT3 _ _ _ _), brP (fun g2 => ⟨fc_ref02_Legs hT hT3 hT12 ns K0 k li q pu (by omega) (by omega) hk, brP (fun g3 => by simp only [g1, g2, g3]; rfl) fun g3 => by simp only [g1, g2, g3]; rfl⟩) fun g2 => by simp only [g1, g2]; rfl⟩) fun g1 => by simp only [g1]; rfl⟩)
include hT12 in
theorem fc_law02_part (lo hi pc : Int) (h : lo ≤ hi) (h0 : -1000000 ≤ lo) (h9 : hi ≤ 1000000) (h1 : 0 ≤ pc) (h2 : pc ≤ 100) : FCall (cs12 hbs) f_law02_part [.ag [.p (.int .i64 lo), .p (.int .i64 hi)], .c (.p (.int .i64 pc))] (vI .i64 (S.part lo hi pc)) [] := by
  obtain ⟨q1, q2, q3, q4⟩ := S.part_raw h h1 h2
  refine fcall_k hT12 (F := F_law02_part) rfl (vc_law02_part lo hi pc _) (cdP (i64_of (by omega) (by omega)) (cdP (i64_of (by omega) (by omega)) (cdP (i64_of (by omega) (by omega)) (cdP (i64_of (by omega) (by omega)) rfl))))
include hT12 in
theorem fc_law02_narrow (lo hi x y : Int) (h : lo ≤ hi) (h0 : -1000000 ≤ lo) (h9 : hi ≤ 1000000) (h1 : 0 ≤ x) (h2 : x ≤ 100) (h3 : 0 ≤ y) (h4 : y ≤ 100) : FCall (cs12 hbs) f_law02_narrow [.ag [.p (.int .i64 lo), .p (.int .i64 hi)], .c (.p (.int .i64 x)), .c (.p (.int .i64 y))] (.ag [.p (.int .i64 (S.part lo hi x)), .p (.int .i64 (S.part lo hi y))]) [] :=
  fcall_k hT12 (F := F_law02_narrow) rfl (vc_law02_narrow lo hi x y _) ⟨fc_law02_part hT12 lo hi x h h0 h9 h1 h2, fc_law02_part hT12 lo hi y h h0 h9 h3 h4, rfl⟩
end
end Go.Ab.B
set_option linter.all false
set_option maxRecDepth 100000
namespace Go.Ab.B
open Go.Proofs
section
variable {hbs : BsOk Tryd.prog}
theorem vs_law02_LoadMore2 (fu i j : Nat) (e mo t l : Int) (nc : Nat) (c : S.Rows) (ns : Nat) (s : S.Rows) (ta tm r : Int) (nf : Nat) (f : S.Rows) (a b : Int) (K0 : Nat) (k : Nat → Nat) (li : Nat → S.Rows) (q : S.Rows) (pu : Nat → Bool) (x y : Int) (G : Nat → Nat → PV) (R : S.Rows) (z : Int) (Q : AX → St → Prop) :
 ((CdP (.rng ((i : Nat) : Int) K0)
 (BrP (decide (((j : Nat) : Int) < (((k i) : Nat) : Int)))
 (CdP (.rng ((i : Nat) : Int) K0)
 (CdP (.rng ((j : Nat) : Int) (k i))
 ((FCall (cs12 hbs) f_law02_narrow [(.ag [(cJ (li i j 1)), (cJ (li i j 2))]), (vJ x), (vJ y)] (.ag [(cJ (S.part (li i j 1) (li i j 2) x)), (cJ (S.part (li i j 1) (li i j 2) y))]) []) ∧
 (CdP (.le j j)
 (CdP (.le j j)
 (CdP (.le ((j + 1) * 24) 140737488355328)
 (CdP (.i64 (((j : Nat) : Int) + (1 : Int)))
 (Q .normal ⟨(L4 (L4 (.nd (L4 (L4 (L2 (L3 (L1 (.c (.sl 8 0 (j + 1)))))) (L3 (L3 (L1 (.c (.p (.ipt 7 (fun x29 => (S.legV k li q pu i (0 + x29)))))))))) (.nd (L3 (L3 (L1 (.c (.p (.isl 3 (k i) (S.val (fun x29 => (fun x30 => (li i x29 x30)))))))))) (vJ (((j : Nat) : Int) + (1 : Int))) (L3 (L3 (L1 (vJ (li i j 0))))))) (vJ x) (L4 (.nd (L3 (L3 (L1 (.c (.p (.isl 7 K0 (S.legV k li q pu))))))) (vT 2 0) (L3 (L3 (L1 (.ag [(cJ (li i j 0)), (cJ (li i j 1)), (cJ (li i j 2))]))))) (L4 (L3 (L3 (L1 (vJ (((j : Nat) : Int) + (1 : Int)))))) (L3 (L3 (L1 (vJ y))))))) (L4 (L4 (L2 (L3 (L3 (L1 (vN j))))) (L4 (L3 (L3 (L1 (vB true)))) (L3 (L3 (L1 (.ag [(cJ (li i j 1)), (cJ (li i j 2))])))))) (L4 (.nd (L3 (L3 (L1 (.c (.p (.ipt 7 (S.legV k li q pu i))))))) (vN i) (L3 (L3 (L1 (.c (.sl 5 0 j)))))) (L4 (L3 (L3 (L1 (vN i)))) (L3 (L3 (L1 (.ag [(cJ (li i j 0)), (cJ (S.part (li i j 1) (li i j 2) x)), (cJ (S.part (li i j 1) (li i j 2) y))])))))))) (.nd (.nd (.nd (L4 (L2 (L3 (L1 (vT 4 0)))) (L3 (L3 (L1 (.c (.p (.isl 3 (k i) (S.val (fun x29 => (fun x30 => (li i x29 x30))))))))))) (vT 1 0) (.nd (L3 (L3 (L1 (vJ (((k i) : Nat) : Int))))) (vT 6 0) (L3 (L3 (L1 (vT 6 1)))))) (vJ y) (L4 (.nd (L3 (L3 (L1 (vN i)))) (.c (.sl 3 0 i)) (L3 (L3 (L1 (vT 4 0))))) (L4 (L3 (L3 (L1 (.c (.p (.isl 7 K0 (S.legV k li q pu))))))) (L3 (L3 (L1 (.ag [(cJ (S.part (li i j 1) (li i j 2) x)), (cJ (S.part (li i j 1) (li i j 2) y))]))))))) (.c (.p (.isl 7 K0 (S.legV k li q pu)))) (L4 (L4 (L4 (L3 (L3 (L1 (vN j)))) (L3 (L3 (L1 (.c (.p (.ipt 3 (S.val (fun x29 => (fun x30 => (li i x29 x30))) j)))))))) (L4 (L3 (L3 (L1 (vN j)))) (L3 (L3 (L1 (vJ x)))))) (L4 (.nd (L3 (L3 (L1 (.c (.p (.ipt 7 (fun x29 => (S.legV k li q pu i (0 + x29))))))))) (vT 4 0) (L3 (L3 (L1 (vT 6 0))))) (L4 (L3 (L3 (L1 (.c (.p (.ipt 7 (S.legV k li q pu i))))))) (L3 (L3 (L1 (.c (.sl 7 0 1)))))))))), [none, (some (.box t_api_Span [(cJ a), (cJ b)])), (bP e mo t l nc c ns s ta tm r nf f), (some (.arr 7 44 i G [])), (some (.box t_api_LoadLeg [(.sl 8 0 (j + 1)), (.p (.bool (pu i))), (cJ (q i 0)), (cJ (S.part (q i 1) (q i 2) x)), (cJ (S.part (q i 1) (q i 2) y)), (cJ (S.part (q i 3) (q i 4) x)), (cJ (S.part (q i 3) (q i 4) y))])), (some (.arr 3 47 j (S.val R) [])), (some (.box t_api_LoadItem [(cJ (li i j 0)), (cJ (li i j 1)), (cJ (li i j 2))])), (some (.arr 3 47 1 (fun x29 => (fun x30 => (List.getD [(.int .i64 (li i j 0)), (.int .i64 (S.part (li i j 1) (li i j 2) x)), (.int .i64 (S.part (li i j 1) (li i j 2) y))] ((x29 * 3) + x30) .npt))) [])), (some (.arr 3 47 (j + 1) (fun x29 => (fun x30 => (if (x29 < j) then (.int .i64 (R x29 x30)) else (List.getD [(.int .i64 (li i j 0)), (.int .i64 (S.part (li i j 1) (li i j 2) x)), (.int .i64 (S.part (li i j 1) (li i j 2) y))] (((0 + (x29 - j)) * 3) + x30) .npt)))) [5]))]⟩))))))))
 (Q (.exit 2) ⟨(L4 (L4 (.nd (L2 (L6 (L3 (L3 (L1 (.c (.p (.isl 3 (k i) (S.val (fun x29 => (fun x30 => (li i x29 x30)))))))))) (vN j))) (vJ x) (L3 (L6 (L3 (L3 (L1 (.c (.p (.isl 7 K0 (S.legV k li q pu))))))) (vT 2 0)))) (L4 (L2 (L3 (L3 (L3 (L1 (vB false)))))) (L3 (L6 (L3 (L3 (L1 (.c (.p (.ipt 7 (S.legV k li q pu i))))))) (vN i))))) (.nd (.nd (L5 (vT 1 0) (L3 (L3 (L3 (L1 (vJ (((k i) : Nat) : Int))))))) (vJ y) (L3 (L6 (L3 (L3 (L1 (vN i)))) (.c (.sl 3 0 i))))) (.c (.p (.isl 7 K0 (S.legV k li q pu)))) (L4 (L3 (L3 (L3 (L3 (L1 (vN j)))))) (L3 (L6 (L3 (L3 (L1 (.c (.p (.ipt 7 (fun x29 => (S.legV k li q pu i (0 + x29))))))))) (vT 4 0)))))), [none, (some (.box t_api_Span [(cJ a), (cJ b)])), (bP e mo t l nc c ns s ta tm r nf f), (some (.arr 7 44 i G [])), (some (.box t_api_LoadLeg [(.sl 5 0 j), (.p (.bool (pu i))), (cJ (q i 0)), (cJ (S.part (q i 1) (q i 2) x)), (cJ (S.part (q i 1) (q i 2) y)), (cJ (S.part (q i 3) (q i 4) x)), (cJ (S.part (q i 3) (q i 4) y))])), (some (.arr 3 47 j (S.val R) []))]⟩)))) = (ex (cs12 hbs) (fu + 50) 0 m_law02_LoadMore_l2 ⟨setAll [(.o (.o .h), .c (cJ x)), (.o (.o (.i (.o .h))), .c (.pt 2 0)), (.o (.i (.i (.o .h))), .c (cJ i)), (.i .h, .c (.p (.isl 7 K0 (S.legV k li q pu)))), (.i (.o .h), .c (cJ y)), (.i (.o (.o .h)), .c (.pt 1 0)), (.i (.o (.i (.o .h))), .c (.sl 3 0 i)), (.i (.i (.i (.o .h))), .c (.pt 4 0)), (.o (.o (.o (.i .h))), .c (cJ j))], [none, some (.box t_api_Span [.p (.int .i64 a), .p (.int .i64 b)]), PB e mo t l nc c ns s ta tm r nf f, some (.arr 7 t_api_LoadLeg i G []), some (.box t_api_LoadLeg [.sl 5 0 j, .p (.bool (pu i)), .p (.int .i64 (q i 0)), .p (.int .i64 (S.part (q i 1) (q i 2) x)), .p (.int .i64 (S.part (q i 1) (q i 2) y)), .p (.int .i64 (S.part (q i 3) (q i 4) x)), .p (.int .i64 (S.part (q i 3) (q i 4) y))]), some (.arr 3 t_api_LoadItem j (S.val R) [])]⟩ (fun e s => .pr (Q e s))).hold2 := by kernel_rfl
theorem vs_law02_LoadMore1 (fu i : Nat) (e mo t l : Int) (nc : Nat) (c : S.Rows) (ns : Nat) (s : S.Rows) (ta tm r : Int) (nf : Nat) (f : S.Rows) (a b : Int) (K0 : Nat) (k : Nat → Nat) (li : Nat → S.Rows) (q : S.Rows) (pu : Nat → Bool) (x y : Int) (G : Nat → Nat → PV) (Q : AX → St → Prop) :
 ((BrP (decide (((i : Nat) : Int) < ((K0 : Nat) : Int)))
 (CdP (.rng ((i : Nat) : Int) K0)
 ((FCall (cs12 hbs) f_law02_narrow [(.ag [(cJ (q i 1)), (cJ (q i 2))]), (vJ x), (vJ y)] (.ag [(cJ (S.part (q i 1) (q i 2) x)), (cJ (S.part (q i 1) (q i 2) y))]) []) ∧
 ((FCall (cs12 hbs) f_law02_narrow [(.ag [(cJ (q i 3)), (cJ (q i 4))]), (vJ x), (vJ y)] (.ag [(cJ (S.part (q i 3) (q i 4) x)), (cJ (S.part (q i 3) (q i 4) y))]) []) ∧
 ((LoopGo (ex (cs12 hbs) (fu + 50)) 0 m_law02_LoadMore_l2 ⟨(L4 (L4 (.nd (L4 (L3 (L3 (L3 (L1 (vT 4 3))))) (L5 (vJ 0) (L2 (L1 (vJ x))))) (vJ x) (L4 (L5 (vT 2 0) (L2 (L1 (.c (.p (.ipt 7 (S.legV k li q pu i))))))) (L4 (L2 (L1 (vN i))) (L2 (L1 (.ag [(cJ (q i 3)), (cJ (q i 4))])))))) (L4 (L4 (L4 (L3 (L3 (L1 (vT 4 0)))) (L2 (L1 (.c (.p (.isl 7 K0 (S.legV k li q pu))))))) (L2 (L2 (L1 (.ag [(cJ (S.part (q i 1) (q i 2) x)), (cJ (S.part (q i 1) (q i 2) y))]))))) (L4 (L5 (vN i) (L2 (L1 (vT 4 3)))) (L4 (L2 (L1 (vJ ((K0 : Nat) : Int)))) (L2 (L1 (vJ y))))))) (.nd (.nd (.nd (L3 (L3 (L3 (L1 (vT 4 5))))) (vT 1 0) (L2 (L2 (L1 (vJ y))))) (vJ y) (L4 (L5 (.c (.sl 3 0 i)) (L2 (L1 (.ag [(.p (.isl 3 (k i) (S.val (fun x26 => (fun x27 => (li i x26 x27)))))), (.p (.bool (pu i))), (cJ (q i 0)), (cJ (q i 1)), (cJ (q i 2)), (cJ (q i 3)), (cJ (q i 4))])))) (L4 (L2 (L1 (.c (.p (.isl 7 K0 (S.legV k li q pu)))))) (L2 (L1 (vJ x)))))) (.c (.p (.isl 7 K0 (S.legV k li q pu)))) (L4 (L4 (L2 (L2 (L1 (vN i)))) (L2 (L2 (L1 (vT 4 5))))) (L4 (L5 (vT 4 0) (L2 (L1 (.ag [(cJ (q i 1)), (cJ (q i 2))])))) (L4 (L2 (L1 (vB true))) (L2 (L1 (.ag [(cJ (S.part (q i 3) (q i 4) x)), (cJ (S.part (q i 3) (q i 4) y))])))))))), [none, (some (.box t_api_Span [(cJ a), (cJ b)])), (bP e mo t l nc c ns s ta tm r nf f), (some (.arr 7 44 i G [])), (some (.box t_api_LoadLeg [(.p .nsl), (.p (.bool (pu i))), (cJ (q i 0)), (cJ (S.part (q i 1) (q i 2) x)), (cJ (S.part (q i 1) (q i 2) y)), (cJ (S.part (q i 3) (q i 4) x)), (cJ (S.part (q i 3) (q i 4) y))]))]⟩ (.e (.exit 2) ⟨(L4 (L4 (L5 (vJ x) (L3 (L1 (vT 2 0)))) (L2 (L3 (L1 (vN i))))) (.nd (.nd (L1 (vT 1 0)) (vJ y) (L3 (L1 (.c (.sl 3 0 i))))) (.c (.p (.isl 7 K0 (S.legV k li q pu)))) (L2 (L3 (L1 (vT 4 0)))))), [none, (some (.box t_api_Span [(cJ a), (cJ b)])), (bP e mo t l nc c ns s ta tm r nf f), (some (.arr 7 44 i G [])), (some (.box t_api_LoadLeg [(.sl 5 0 (S.lN (.isl 3 (k i) (S.val (fun x26 => (fun x27 => (li i x26 x27))))))), (.p (.bool (pu i))), (cJ (q i 0)), (cJ (S.part (q i 1) (q i 2) x)), (cJ (S.part (q i 1) (q i 2) y)), (cJ (S.part (q i 3) (q i 4) x)), (cJ (S.part (q i 3) (q i 4) y))])), (some (.arr 3 47 (S.lN (.isl 3 (k i) (S.val (fun x26 => (fun x27 => (li i x26 x27)))))) (S.val (S.nrR (S.lR (.isl 3 (k i) (S.val (fun x26 => (fun x27 => (li i x26 x27)))))) x y)) []))]⟩)) ∧
 (CdP (.le i i)
 (CdP (.le i i)
 (CdP (.le ((i + 1) * 72) 140737488355328)
 (CdP (.i64 (((i : Nat) : Int) + (1 : Int)))
 (Q .normal ⟨(L4 (L4 (.nd (L3 (L2 (L2 (L1 (vN i))))) (vJ x) (L3 (L6 (L2 (L3 (L1 (.c (.sl 6 0 1))))) (vT 2 0)))) (L4 (L3 (L3 (L2 (L3 (L1 (.c (.sl 3 0 i))))))) (L3 (L1 (vJ (((i : Nat) : Int) + (1 : Int))))))) (.nd (.nd (L6 (L2 (L2 (L1 (vJ (((i : Nat) : Int) + (1 : Int)))))) (vT 1 0)) (vJ y) (L3 (L6 (L2 (L3 (L1 (.c (.sl 7 0 (i + 1)))))) (.c (.sl 7 0 (i + 1)))))) (.c (.p (.isl 7 K0 (S.legV k li q pu)))) (L4 (L3 (L3 (L2 (L3 (L1 (.ag [(.sl 5 0 (S.lN (.isl 3 (k i) (S.val (fun x26 => (fun x27 => (li i x26 x27))))))), (.p (.bool (pu i))), (cJ (q i 0)), (cJ (S.part (q i 1) (q i 2) x)), (cJ (S.part (q i 1) (q i 2) y)), (cJ (S.part (q i 3) (q i 4) x)), (cJ (S.part (q i 3) (q i 4) y))])))))) (L3 (L1 (vT 4 0)))))), [none, (some (.box t_api_Span [(cJ a), (cJ b)])), (bP e mo t l nc c ns s ta tm r nf f), (some (.arr 7 44 i G [])), (some (.box t_api_LoadLeg [(.sl 5 0 (S.lN (.isl 3 (k i) (S.val (fun x26 => (fun x27 => (li i x26 x27))))))), (.p (.bool (pu i))), (cJ (q i 0)), (cJ (S.part (q i 1) (q i 2) x)), (cJ (S.part (q i 1) (q i 2) y)), (cJ (S.part (q i 3) (q i 4) x)), (cJ (S.part (q i 3) (q i 4) y))])), none, (some (.arr 7 44 1 (fun x26 => (fun x27 => (List.getD [(.isl 3 (S.lN (.isl 3 (k i) (S.val (fun x28 => (fun x29 => (li i x28 x29)))))) (fun x28 => (fun x29 => (.int .i64 (S.nrR (S.lR (.isl 3 (k i) (S.val (fun x30 => (fun x31 => (li i x30 x31)))))) x y (0 + x28) x29))))), (.bool (pu i)), (.int .i64 (q i 0)), (.int .i64 (S.part (q i 1) (q i 2) x)), (.int .i64 (S.part (q i 1) (q i 2) y)), (.int .i64 (S.part (q i 3) (q i 4) x)), (.int .i64 (S.part (q i 3) (q i 4) y))] ((x26 * 7) + x27) .npt))) [])), (some (.arr 7 44 (i + 1) (fun x26 => (fun x27 => (if (x26 < i) then (G x26 x27) else (List.getD [(.isl 3 (S.lN (.isl 3 (k i) (S.val (fun x28 => (fun x29 => (li i x28 x29)))))) (fun x28 => (fun x29 => (.int .i64 (S.nrR (S.lR (.isl 3 (k i) (S.val (fun x30 => (fun x31 => (li i x30 x31)))))) x y (0 + x28) x29))))), (.bool (pu i)), (.int .i64 (q i 0)), (.int .i64 (S.part (q i 1) (q i 2) x)), (.int .i64 (S.part (q i 1) (q i 2) y)), (.int .i64 (S.part (q i 3) (q i 4) x)), (.int .i64 (S.part (q i 3) (q i 4) y))] (((0 + (x26 - i)) * 7) + x27) .npt)))) [3]))]⟩)))))))))
 (Q (.exit 0) ⟨(L4 (L4 (L5 (vJ x) (L4 (L1 (vT 2 0)) (L3 (L2 (L1 (vN i)))))) (L2 (L4 (L1 (vN i)) (L3 (L2 (L1 (vJ ((K0 : Nat) : Int)))))))) (.nd (.nd (L1 (vT 1 0)) (vJ y) (L4 (L1 (.c (.sl 3 0 i))) (L3 (L2 (L1 (.c (.p (.isl 7 K0 (S.legV k li q pu))))))))) (.c (.p (.isl 7 K0 (S.legV k li q pu)))) (L2 (L2 (L3 (L2 (L1 (vB false)))))))), [none, (some (.box t_api_Span [(cJ a), (cJ b)])), (bP e mo t l nc c ns s ta tm r nf f), (some (.arr 7 44 i G []))]⟩))) = (ex (cs12 hbs) (fu + 60) 0 m_law02_LoadMore_l1 ⟨setAll [(.o (.o .h), .c (cJ x)), (.o (.o (.i (.o .h))), .c (.pt 2 0)), (.o (.i (.i (.o .h))), .c (cJ i)), (.i .h, .c (.p (.isl 7 K0 (S.legV k li q pu)))), (.i (.o .h), .c (cJ y)), (.i (.o (.o .h)), .c (.pt 1 0)), (.i (.o (.i (.o .h))), .c (.sl 3 0 i))], [none, some (.box t_api_Span [.p (.int .i64 a), .p (.int .i64 b)]), PB e mo t l nc c ns s ta tm r nf f, some (.arr 7 t_api_LoadLeg i G [])]⟩ (fun e s => .pr (Q e s))).hold2 := by kernel_rfl
theorem vc_law02_LoadMore (e mo t l : Int) (nc : Nat) (c : S.Rows) (ns : Nat) (s : S.Rows) (ta tm r : Int) (nf : Nat) (f : S.Rows) (a b : Int) (K0 : Nat) (k : Nat → Nat) (li : Nat → S.Rows) (q : S.Rows) (pu : Nat → Bool) (x y u v : Int) (Q : AV → Heap → Prop) :
 ((BrP (decide (((nc : Nat) : Int) ≤ (20 : Int)))
 (BrP (decide (((ns : Nat) : Int) ≤ (20 : Int)))
 (BrP (decide (((nf : Nat) : Int) ≤ (10 : Int)))
 ((FCall (cs12 hbs) f_law02_few [(.c (.p (.isl 7 K0 (S.legV k li q pu))))] (.c (.p (.bool (S.fewB K0 (S.legV k li q pu))))) []) ∧
 (BrP (S.fewB K0 (S.legV k li q pu))
 ((FCall (cs12 hbs) f_law02_refused [(.ag (kP e mo t l nc c ns s ta tm r nf f)), (.ag [(cJ a), (cJ b)]), (.c (.p (.isl 7 K0 (S.legV k li q pu)))), (vB true)] (vJ (S.tE e mo t l nc c ns s ta tm r nf f a b K0 (S.legV k li q pu))) []) ∧
 (BrP ((S.tE e mo t l nc c ns s ta tm r nf f a b K0 (S.legV k li q pu)) != (0 : Int))
 ((FCall (cs12 hbs) f_law02_known [] (vB true) []) ∧
 (Q (vB true) [(bP e mo t l nc c ns s ta tm r nf f), (some (.box t_api_Span [(cJ a), (cJ b)]))]))
 (BrP (decide (x < (0 : Int)))
 ((FCall (cs12 hbs) f_law02_known [] (vB true) []) ∧
 (Q (vB true) [(bP e mo t l nc c ns s ta tm r nf f), (some (.box t_api_Span [(cJ a), (cJ b)]))]))
 (BrP (decide (x > y))
 ((FCall (cs12 hbs) f_law02_known [] (vB true) []) ∧
 (Q (vB true) [(bP e mo t l nc c ns s ta tm r nf f), (some (.box t_api_Span [(cJ a), (cJ b)]))]))
 (BrP (decide (y > (100 : Int)))
 ((FCall (cs12 hbs) f_law02_known [] (vB true) []) ∧
 (Q (vB true) [(bP e mo t l nc c ns s ta tm r nf f), (some (.box t_api_Span [(cJ a), (cJ b)]))]))
 (BrP (decide (u < (0 : Int)))
 ((FCall (cs12 hbs) f_law02_known [] (vB true) []) ∧
 (Q (vB true) [(bP e mo t l nc c ns s ta tm r nf f), (some (.box t_api_Span [(cJ a), (cJ b)]))]))
 (BrP (decide (v < (0 : Int)))
 ((FCall (cs12 hbs) f_law02_known [] (vB true) []) ∧
 (Q (vB true) [(bP e mo t l nc c ns s ta tm r nf f), (some (.box t_api_Span [(cJ a), (cJ b)]))]))
 ((FCall (cs12 hbs) f_load_Trip [(.ag (kP e mo t l nc c ns s ta tm r nf f)), (.ag [(cJ a), (cJ b)]), (.c (.p (.isl 7 K0 (S.legV k li q pu))))] (.tp [(vJ (S.tA e mo t l nc c ns s ta tm r nf f a b K0 (S.legV k li q pu))), (vJ (S.tR e mo t l nc c ns s ta tm r nf f a b K0 (S.legV k li q pu))), (vJ (S.tI e mo t l nc c ns s ta tm r nf f a b K0 (S.legV k li q pu))), (vJ (S.tE e mo t l nc c ns s ta tm r nf f a b K0 (S.legV k li q pu)))]) []) ∧
 (BrP ((S.tE e mo t l nc c ns s ta tm r nf f a b K0 (S.legV k li q pu)) != (0 : Int))
 (Q (vB false) [(bP e mo t l nc c ns s ta tm r nf f), (some (.box t_api_Span [(cJ a), (cJ b)]))])
 (BrP (decide ((S.tA e mo t l nc c ns s ta tm r nf f a b K0 (S.legV k li q pu)) ≥ (0 : Int)))
 ((FCall (cs12 hbs) f_law02_known [] (vB true) []) ∧
 (Q (vB true) [(bP e mo t l nc c ns s ta tm r nf f), (some (.box t_api_Span [(cJ a), (cJ b)]))]))
 (CdP (.i64 ((20000 : Int) - t))
 (CdP (.i64 (t + (S.mn u ((20000 : Int) - t))))
 (CdP (.i64 ((20000 : Int) - l))
 (CdP (.i64 (l + (S.mn u ((20000 : Int) - l))))
 (CdP (.i64 (r - (S.mn v r)))
 ((LoopGo (ex (cs12 hbs) 988) 0 m_law02_LoadMore_l1 ⟨(.nd (.nd (.nd (.nd (.nd (.nd (L1 (vB false)) (vB false) (L1 (vJ (S.mn u ((20000 : Int) - l))))) (vJ (S.tA e mo t l nc c ns s ta tm r nf f a b K0 (S.legV k li q pu))) (L1 (vB false))) (vT 0 0) (L4 (.nd (L1 (vJ (S.tA e mo t l nc c ns s ta tm r nf f a b K0 (S.legV k li q pu)))) (.ag [(cJ a), (cJ b)]) (L1 (vJ (r - (S.mn v r))))) (L6 (L1 (vJ (S.mn u ((20000 : Int) - t)))) (vB false)))) (vJ x) (L4 (.nd (.nd (L1 (.ag (kP e mo t l nc c ns s ta tm r nf f))) (vB false) (L1 (vJ v))) (vT 2 0) (L6 (L1 (vJ u)) (vB false))) (L4 (L6 (L1 (vJ (S.tE e mo t l nc c ns s ta tm r nf f a b K0 (S.legV k li q pu)))) (vB false)) (L6 (L1 (vJ u)) (vB false))))) (.ag [(cJ a), (cJ b)]) (.nd (L4 (.nd (L5 (.c (.p (.isl 7 K0 (S.legV k li q pu)))) (L1 (vT 0 8))) (vJ (S.tI e mo t l nc c ns s ta tm r nf f a b K0 (S.legV k li q pu))) (L6 (L1 (vT 0 2)) (vJ x))) (L4 (.nd (L1 (vJ (S.tI e mo t l nc c ns s ta tm r nf f a b K0 (S.legV k li q pu)))) (vJ (S.tE e mo t l nc c ns s ta tm r nf f a b K0 (S.legV k li q pu))) (L1 (vT 2 3))) (L6 (L1 (vT 0 3)) (vB false)))) (vJ u) (L4 (.nd (.nd (L1 (.c (.p (.isl 7 K0 (S.legV k li q pu))))) (vB false) (L1 (vJ r))) (vJ 0) (L6 (L1 (vJ t)) (vB false))) (.nd (L6 (L1 (vJ (S.tA e mo t l nc c ns s ta tm r nf f a b K0 (S.legV k li q pu)))) (vJ x)) (.ag (kP e mo t l nc c ns s ta tm r nf f)) (L6 (L1 (vJ l)) (vB false)))))) (.ag (kP e mo t l nc c ns s ta tm r nf f)) (.nd (.nd (.nd (.nd (.nd (L1 (vB false)) (vB false) (L1 (vJ (l + (S.mn u ((20000 : Int) - l)))))) (vJ (S.tR e mo t l nc c ns s ta tm r nf f a b K0 (S.legV k li q pu))) (L6 (L1 (.ag (kP e mo t l nc c ns s ta tm r nf f))) (vB false))) (vT 1 0) (L4 (.nd (L1 (vJ (S.tR e mo t l nc c ns s ta tm r nf f a b K0 (S.legV k li q pu)))) (.c (.p (.isl 7 K0 (S.legV k li q pu)))) (L1 (vT 2 2))) (L6 (L1 (vJ (t + (S.mn u ((20000 : Int) - t))))) (vB false)))) (vJ y) (L4 (.nd (.nd (L1 (.ag [(cJ a), (cJ b)])) (vB false) (L1 (vT 0 8))) (.c (.p .nsl)) (L6 (L1 (vT 0 2)) (vB false))) (L4 (L6 (L1 (vB false)) (vB false)) (L6 (L1 (vT 0 3)) (vB false))))) (.c (.p (.isl 7 K0 (S.legV k li q pu)))) (.nd (L4 (.nd (.nd (L1 (.tp [(vJ (S.tA e mo t l nc c ns s ta tm r nf f a b K0 (S.legV k li q pu))), (vJ (S.tR e mo t l nc c ns s ta tm r nf f a b K0 (S.legV k li q pu))), (vJ (S.tI e mo t l nc c ns s ta tm r nf f a b K0 (S.legV k li q pu))), (vJ (S.tE e mo t l nc c ns s ta tm r nf f a b K0 (S.legV k li q pu)))])) (vB true) (L1 (vJ r))) (vJ (S.tE e mo t l nc c ns s ta tm r nf f a b K0 (S.legV k li q pu))) (L6 (L1 (vJ t)) (vJ y))) (L4 (.nd (L1 (vJ (S.tE e mo t l nc c ns s ta tm r nf f a b K0 (S.legV k li q pu)))) (vB false) (L1 (vT 2 8))) (L6 (L1 (vJ l)) (vJ u)))) (vJ v) (.nd (L4 (.nd (L1 (.tp [(vJ (S.tA e mo t l nc c ns s ta tm r nf f a b K0 (S.legV k li q pu))), (vJ (S.tR e mo t l nc c ns s ta tm r nf f a b K0 (S.legV k li q pu))), (vJ (S.tI e mo t l nc c ns s ta tm r nf f a b K0 (S.legV k li q pu))), (vJ (S.tE e mo t l nc c ns s ta tm r nf f a b K0 (S.legV k li q pu)))])) (.ag (kP e mo t l nc c ns s ta tm r nf f)) (L1 (vJ (S.mn v r)))) (L6 (L1 (vJ ((20000 : Int) - t))) (vJ y))) (vB false) (.nd (L6 (L1 (vB false)) (vB false)) (vB true) (L6 (L1 (vJ ((20000 : Int) - l))) (vJ v))))))), [(bP e mo t l nc c ns s ta tm r nf f), (some (.box t_api_Span [(cJ a), (cJ b)])), (some (.box t_api_Plane [(cJ e), (cJ mo), (cJ (t + (S.mn u ((20000 : Int) - t)))), (cJ (l + (S.mn u ((20000 : Int) - l)))), (cS 2 nc c), (cS 2 ns s), (cJ ta), (cJ tm), (cJ (r - (S.mn v r))), (cS 2 nf f)]))]⟩ (.e (.exit 0) ⟨(L4 (L3 (L5 (vJ x) (L3 (L1 (vT 2 0))))) (L3 (.nd (L1 (vT 1 0)) (vJ y) (L3 (L1 (.c (.sl 3 0 K0))))))), [none, (some (.box t_api_Span [(cJ a), (cJ b)])), (some (.box t_api_Plane [(cJ e), (cJ mo), (cJ (t + (S.mn u ((20000 : Int) - t)))), (cJ (l + (S.mn u ((20000 : Int) - l)))), (cS 2 nc c), (cS 2 ns s), (cJ ta), (cJ tm), (cJ (r - (S.mn v r))), (cS 2 nf f)])), (some (.arr 7 44 K0 (S.nrL (S.legV k li q pu) x y) []))]⟩)) ∧
 ((FCall (cs12 hbs) f_law02_narrow [(.ag [(cJ a), (cJ b)]), (vJ x), (vJ y)] (.ag [(cJ (S.part a b x)), (cJ (S.part a b y))]) []) ∧
 ((FCall (cs12 hbs) f_load_Trip [(.ag [(cJ e), (cJ mo), (cJ (t + (S.mn u ((20000 : Int) - t)))), (cJ (l + (S.mn u ((20000 : Int) - l)))), (cS 2 nc c), (cS 2 ns s), (cJ ta), (cJ tm), (cJ (r - (S.mn v r))), (cS 2 nf f)]), (.ag [(cJ (S.part a b x)), (cJ (S.part a b y))]), (.c (.p (.isl 7 K0 (fun x25 => (fun x26 => (S.nrL (S.legV k li q pu) x y (0 + x25) x26))))))] (.tp [(vJ (S.tA e mo (t + (S.mn u ((20000 : Int) - t))) (l + (S.mn u ((20000 : Int) - l))) nc c ns s ta tm (r - (S.mn v r)) nf f (S.part a b x) (S.part a b y) K0 (fun x25 => (fun x26 => (S.nrL (S.legV k li q pu) x y (0 + x25) x26))))), (vJ (S.tR e mo (t + (S.mn u ((20000 : Int) - t))) (l + (S.mn u ((20000 : Int) - l))) nc c ns s ta tm (r - (S.mn v r)) nf f (S.part a b x) (S.part a b y) K0 (fun x25 => (fun x26 => (S.nrL (S.legV k li q pu) x y (0 + x25) x26))))), (vJ (S.tI e mo (t + (S.mn u ((20000 : Int) - t))) (l + (S.mn u ((20000 : Int) - l))) nc c ns s ta tm (r - (S.mn v r)) nf f (S.part a b x) (S.part a b y) K0 (fun x25 => (fun x26 => (S.nrL (S.legV k li q pu) x y (0 + x25) x26))))), (vJ (S.tE e mo (t + (S.mn u ((20000 : Int) - t))) (l + (S.mn u ((20000 : Int) - l))) nc c ns s ta tm (r - (S.mn v r)) nf f (S.part a b x) (S.part a b y) K0 (fun x25 => (fun x26 => (S.nrL (S.legV k li q pu) x y (0 + x25) x26)))))]) []) ∧
 (BrP ((S.tE e mo (t + (S.mn u ((20000 : Int) - t))) (l + (S.mn u ((20000 : Int) - l))) nc c ns s ta tm (r - (S.mn v r)) nf f (S.part a b x) (S.part a b y) K0 (fun x25 => (fun x26 => (S.nrL (S.legV k li q pu) x y (0 + x25) x26)))) == (0 : Int))
 (BrP ((S.tA e mo (t + (S.mn u ((20000 : Int) - t))) (l + (S.mn u ((20000 : Int) - l))) nc c ns s ta tm (r - (S.mn v r)) nf f (S.part a b x) (S.part a b y) K0 (fun x25 => (fun x26 => (S.nrL (S.legV k li q pu) x y (0 + x25) x26)))) == (-(1 : Int)))
 (BrP ((S.tR e mo (t + (S.mn u ((20000 : Int) - t))) (l + (S.mn u ((20000 : Int) - l))) nc c ns s ta tm (r - (S.mn v r)) nf f (S.part a b x) (S.part a b y) K0 (fun x25 => (fun x26 => (S.nrL (S.legV k li q pu) x y (0 + x25) x26)))) == (1 : Int))
 ((FCall (cs12 hbs) f_law02_known [] (vB true) []) ∧
 (Q (vB true) [none, (some (.box t_api_Span [(cJ a), (cJ b)])), (some (.box t_api_Plane [(cJ e), (cJ mo), (cJ (t + (S.mn u ((20000 : Int) - t)))), (cJ (l + (S.mn u ((20000 : Int) - l)))), (cS 2 nc c), (cS 2 ns s), (cJ ta), (cJ tm), (cJ (r - (S.mn v r))), (cS 2 nf f)])), (some (.arr 7 44 K0 (S.nrL (S.legV k li q pu) x y) []))]))
 (Q (vB false) [none, (some (.box t_api_Span [(cJ a), (cJ b)])), (some (.box t_api_Plane [(cJ e), (cJ mo), (cJ (t + (S.mn u ((20000 : Int) - t)))), (cJ (l + (S.mn u ((20000 : Int) - l)))), (cS 2 nc c), (cS 2 ns s), (cJ ta), (cJ tm), (cJ (r - (S.mn v r))), (cS 2 nf f)])), (some (.arr 7 44 K0 (S.nrL (S.legV k li q pu) x y) []))]))
 (Q (vB false) [none, (some (.box t_api_Span [(cJ a), (cJ b)])), (some (.box t_api_Plane [(cJ e), (cJ mo), (cJ (t + (S.mn u ((20000 : Int) - t)))), (cJ (l + (S.mn u ((20000 : Int) - l)))), (cS 2 nc c), (cS 2 ns s), (cJ ta), (cJ tm), (cJ (r - (S.mn v r))), (cS 2 nf f)])), (some (.arr 7 44 K0 (S.nrL (S.legV k li q pu) x y) []))]))
 (Q (vB false) [none, (some (.box t_api_Span [(cJ a), (cJ b)])), (some (.box t_api_Plane [(cJ e), (cJ mo), (cJ (t + (S.mn u ((20000 : Int) - t)))), (cJ (l + (S.mn u ((20000 : Int) - l)))), (cS 2 nc c), (cS 2 ns s), (cJ ta), (cJ tm), (cJ (r - (S.mn v r))), (cS 2 nf f)])), (some (.arr 7 44 K0 (S.nrL (S.legV k li q pu) x y) []))]))))))))))))))))))))
 ((FCall (cs12 hbs) f_law02_known [] (vB true) []) ∧
 (Q (vB true) [(bP e mo t l nc c ns s ta tm r nf f), (some (.box t_api_Span [(cJ a), (cJ b)]))]))))
 ((FCall (cs12 hbs) f_law02_known [] (vB true) []) ∧
 (Q (vB true) [(bP e mo t l nc c ns s ta tm r nf f), (some (.box t_api_Span [(cJ a), (cJ b)]))])))
 ((FCall (cs12 hbs) f_law02_known [] (vB true) []) ∧
 (Q (vB true) [(bP e mo t l nc c ns s ta tm r nf f), (some (.box t_api_Span [(cJ a), (cJ b)]))])))
 ((FCall (cs12 hbs) f_law02_known [] (vB true) []) ∧
 (Q (vB true) [(bP e mo t l nc c ns s ta tm r nf f), (some (.box t_api_Span [(cJ a), (cJ b)]))])))) = (ex (cs12 hbs) 1000 0 m_law02_LoadMore ⟨ofL 0 [.ag (plC e mo t l nc (S.val c) ns (S.val s) ta tm r nf (S.val f)), .ag [.p (.int .i64 a), .p (.int .i64 b)], .c (.p (.isl 7 K0 (S.legV k li q pu))), .c (cJ x), .c (cJ y), .c (cJ u), .c (cJ v)] .lf, []⟩ (endK F_law02_LoadMore.rs (fun r H => .pr (Q r H)) fun _ _ => .no)).hold2 := by kernel_rfl
end
end Go.Ab.B
set_option linter.all false
set_option maxRecDepth 100000
namespace Go.Ab.S
theorem nr_val {it : Rows} {x y : Int} {j w z : Nat} (hw : w < j + 1) (hz : z < 3) : (if w < j then PV.int .i64 (nrR it x y w z) else List.getD [.int .i64 (it j 0), .int .i64 (part (it j 1) (it j 2) x), .int .i64 (part (it j 1) (it j 2) y)] ((0 + (w - j)) * 3 + z) .npt) = val (nrR it x y) w z := by
  split
  · rfl
  · obtain rfl : w = j := by omega
    rw [Nat.sub_self]
    match z, hz with
    | 0, _ => rfl
    | 1, _ => rfl
    | 2, _ => rfl
theorem nl_val {k : Nat → Nat} {li : Nat → Rows} {q : Rows} {pu : Nat → Bool} {x y : Int} {i w z : Nat} (hw : w < i + 1) (hz : z < 7) : (if w < i then nrL (legV k li q pu) x y w z else List.getD [.isl 3 (k i) (fun a b => .int .i64 (nrR (li i) x y (0 + a) b)), .bool (pu i), .int .i64 (q i 0), .int .i64 (part (q i 1) (q i 2) x), .int .i64 (part (q i 1) (q i 2) y), .int .i64 (part (q i 3) (q i 4) x), .int .i64 (part (q i 3) (q i 4) y)] ((0 + (w - i)) * 7 + z) .npt) = nrL (legV k li q pu) x y w z := by
  split
  · rfl
  · obtain rfl : w = i := by omega
    rw [Nat.sub_self]
    match z, hz with
    | 0, _ => simp only [Nat.zero_add]; rfl
    | 1, _ => rfl
    | 2, _ => rfl
    | 3, _ => rfl
    | 4, _ => rfl
    | 5, _ => rfl
    | 6, _ => rfl
theorem mn_le0 {u z : Int} (h1 : 0 ≤ u) (h2 : 0 ≤ z) : 0 ≤ mn u z ∧ mn u z ≤ z := by unfold mn; split <;> omega
theorem plane_more {e mo t l : Int} {nc : Nat} {c : Rows} {ns : Nat} {s : Rows} {ta tm r : Int} {nf : Nat} {f : Rows} {t' l' r' : Int} (h : plane e mo t l nc c ns s ta tm r nf f = true) (ht : 0 ≤ t' ∧ t' ≤ 20000) (hl : 0 ≤ l' ∧ l' ≤ 20000) (hr : 0 ≤ r' ∧ r' ≤ 20000) : plane e mo t' l' nc c ns s ta tm r' nf f = true := by
  simp only [plane, corners, stOk, Bool.and_eq_true, inB_iff, decide_eq_true_eq] at h ⊢
  obtain ⟨⟨⟨⟨⟨⟨⟨⟨h1, h2⟩, ⟨h3, h4⟩, h5⟩, ⟨⟨h6, h7⟩, h8⟩⟩, h9⟩, h10⟩, h11, h12⟩, h13⟩, h14⟩ := h
  exact ⟨⟨⟨⟨⟨⟨⟨⟨h1, h2⟩, ⟨ht, hl⟩, hr⟩, ⟨⟨h6, h7⟩, h8⟩⟩, h9⟩, h10⟩, h11, h12⟩, h13⟩, h14⟩
theorem trip_more {ns : Nat} {a b : Int} {K0 : Nat} {k : Nat → Nat} {li : Nat → Rows} {q : Rows} {pu : Nat → Bool} {x y : Int} (h : TrOk ns a b K0 k li q) (hx : 0 ≤ x) (hxy : x ≤ y) (hy : y ≤ 100) :
    tripB ns (part a b x) (part a b y) K0 (nrL (legV k li q pu) x y) = true ∧ Nar K0 k li (fun i => nrR (li i) x y) q (nrQ (legV k li q pu) x y) a b (part a b x) (part a b y) := by
  have P : ∀ {lo hi : Int}, lo ≤ hi → lo ≤ part lo hi x ∧ part lo hi x ≤ part lo hi y ∧ part lo hi y ≤ hi := fun h => ⟨(part_in h hx (by omega)).1, part_mono h hx hxy hy, (part_in h (by omega) hy).2⟩
  have hab := P (show a ≤ b from by have := h.hab; omega)
  have hK := h.hK
  have h0 := h.hab
  refine ⟨?_, ⟨hab, fun i hi j hj => ?_, fun i hi => ?_⟩⟩
  · simp only [tripB, span, Bool.and_eq_true, inB_iff, decide_eq_true_eq]
    refine ⟨⟨⟨by omega, by omega⟩, by omega⟩, ⟨by omega, by omega⟩, from_iff.2 fun i _ hi => ?_⟩
    have hq := h.hq i hi
    have p1 := P (show q i 1 ≤ q i 2 from by omega)
    have p2 := P (show q i 3 ≤ q i 4 from by omega)
    have hk := h.hk i hi
    show (itemsOk (k i) (nrR (li i) x y) ns && (inB 0 (q i 0) 20000 && (span (part (q i 1) (q i 2) x) (part (q i 1) (q i 2) y) 0 20000 && span (part (q i 3) (q i 4) x) (part (q i 3) (q i 4) y) 0 20000))) = true
    simp only [itemsOk, span, Bool.and_eq_true, inB_iff, decide_eq_true_eq]
    refine ⟨⟨from_iff.2 fun j _ hj => ?_, by omega⟩, by omega, ⟨by omega, by omega⟩, by omega, by omega⟩
    have hit := h.hit i hi j hj
    have p3 := P (show li i j 1 ≤ li i j 2 from by omega)
    show (inB 0 (li i j 0) ((ns : Int) - 1) && span (part (li i j 1) (li i j 2) x) (part (li i j 1) (li i j 2) y) 0 20000) = true
    simp only [span, Bool.and_eq_true, inB_iff, decide_eq_true_eq]
    exact ⟨by omega, by omega, by omega⟩
  · have hit := h.hit i hi j hj
    have p3 := P (show li i j 1 ≤ li i j 2 from by omega)
    exact ⟨rfl, p3⟩
  · have hq := h.hq i hi
    exact ⟨rfl, P (show q i 1 ≤ q i 2 from by omega), P (show q i 3 ≤ q i 4 from by omega)⟩
section
variable {e mo t l : Int} {nc : Nat} {c : Rows} {ns : Nat} {s : Rows} {ta tm r : Int} {nf : Nat} {f : Rows} {a b : Int} {n : Nat} {g : Nat → Nat → PV}
theorem tE_0 (hp : plane e mo t l nc c ns s ta tm r nf f = true) (ht : tripB ns a b n g = true) : tE e mo t l nc c ns s ta tm r nf f a b n g = 0 := by
  have h6 : decide ((n : Int) > 6) = false := by
    simp only [tripB, Bool.and_eq_true, inB_iff] at ht
    have := ht.2.1
    simp only [decide_eq_false_iff_not]
    omega
  simp only [tE, tErr, h6, hp, ht, Bool.and_true]
theorem tE_ok (h : (tE e mo t l nc c ns s ta tm r nf f a b n g != 0) = false) : plane e mo t l nc c ns s ta tm r nf f = true ∧ tripB ns a b n g = true := tErr_0 h
theorem tA_neg (h0 : tE e mo t l nc c ns s ta tm r nf f a b n g = 0) (h : decide (tA e mo t l nc c ns s ta tm r nf f a b n g ≥ 0) = false) : from_ (sureH e mo t l nc c ns s ta tm r nf f (ptV a b nf g)) (2 * n) 0 = true := by
  have h1 : (tE e mo t l nc c ns s ta tm r nf f a b n g != 0) = false := by rw [h0]; rfl
  simp only [tA, h1, unX] at h
  cases hb : from_ (sureH e mo t l nc c ns s ta tm r nf f (ptV a b nf g)) (2 * n) 0 with
  | true => rfl
  | false =>
    rw [hb] at h
    simp [unA] at h
theorem tA_sure (h0 : tE e mo t l nc c ns s ta tm r nf f a b n g = 0) (h : from_ (sureH e mo t l nc c ns s ta tm r nf f (ptV a b nf g)) (2 * n) 0 = true) : tA e mo t l nc c ns s ta tm r nf f a b n g = -1 ∧ tR e mo t l nc c ns s ta tm r nf f a b n g = 1 := by
  have h1 : (tE e mo t l nc c ns s ta tm r nf f a b n g != 0) = false := by rw [h0]; rfl
  simp only [tA, tR, h1, h, unX, unA]
  exact ⟨trivial, trivial⟩
end
end Go.Ab.S
namespace Go.Ab.B
open Go.Proofs
section
variable {hbs : BsOk Tryd.prog} (hT : TabOk (cs hbs)) (hT3 : TabOk (cs3 hbs)) (hT4 : TabOk (cs4 hbs)) (hT7 : TabOk (cs7 hbs)) (hT9 : TabOk (cs9 hbs)) (hT10 : TabOk (cs10 hbs)) (hT11 : TabOk (cs11 hbs)) (hT12 : TabOk (cs12 hbs))
abbrev lvM (K0 : Nat) (k : Nat → Nat) (li : Nat → S.Rows) (q : S.Rows) (pu : Nat → Bool) (x y : Int) (i : Nat) : List (Ps × AV) := [(.o (.o .h), .c (.p (.int .i64 x))), (.o (.o (.i (.o .h))), .c (.pt 2 0)), (.o (.i (.i (.o .h))), .c (.p (.int .i64 i))), (.i .h, .c (.p (.isl 7 K0 (S.legV k li q pu)))), (.i (.o .h), .c (.p (.int .i64 y))), (.i (.o (.o .h)), .c (.pt 1 0)), (.i (.o (.i (.o .h))), .c (.sl 3 0 i))]
abbrev lvM2 (K0 : Nat) (k : Nat → Nat) (li : Nat → S.Rows) (q : S.Rows) (pu : Nat → Bool) (x y : Int) (i j : Nat) : List (Ps × AV) := [(.o (.o .h), .c (.p (.int .i64 x))), (.o (.o (.i (.o .h))), .c (.pt 2 0)), (.o (.i (.i (.o .h))), .c (.p (.int .i64 i))), (.i .h, .c (.p (.isl 7 K0 (S.legV k li q pu)))), (.i (.o .h), .c (.p (.int .i64 y))), (.i (.o (.o .h)), .c (.pt 1 0)), (.i (.o (.i (.o .h))), .c (.sl 3 0 i)), (.i (.i (.i (.o .h))), .c (.pt 4 0)), (.o (.o (.o (.i .h))), .c (.p (.int .i64 j)))]
abbrev hpM (e mo t l : Int) (nc : Nat) (c : S.Rows) (ns : Nat) (s : S.Rows) (ta tm r : Int) (nf : Nat) (f : S.Rows) (a b : Int) (G : Nat → Nat → PV) (i : Nat) : Heap := [none, some (.box t_api_Span [.p (.int .i64 a), .p (.int .i64 b)]), PB e mo t l nc c ns s ta tm r nf f, some (.arr 7 t_api_LoadLeg i G [])]
abbrev hpM2 (e mo t l : Int) (nc : Nat) (c : S.Rows) (ns : Nat) (s : S.Rows) (ta tm r : Int) (nf : Nat) (f : S.Rows) (a b : Int) (k : Nat → Nat) (li : Nat → S.Rows) (q : S.Rows) (pu : Nat → Bool) (x y : Int) (G : Nat → Nat → PV) (i j : Nat) : Heap := [none, some (.box t_api_Span [.p (.int .i64 a), .p (.int .i64 b)]), PB e mo t l nc c ns s ta tm r nf f, some (.arr 7 t_api_LoadLeg i G []), some (.box t_api_LoadLeg [.sl 5 0 j, .p (.bool (pu i)), .p (.int .i64 (q i 0)), .p (.int .i64 (S.part (q i 1) (q i 2) x)), .p (.int .i64 (S.part (q i 1) (q i 2) y)), .p (.int .i64 (S.part (q i 3) (q i 4) x)), .p (.int .i64 (S.part (q i 3) (q i 4) y))]), some (.arr 3 t_api_LoadItem j (S.val (S.nrR (li i) x y)) [])]
abbrev trM2 (e mo t l : Int) (nc : Nat) (c : S.Rows) (ns : Nat) (s : S.Rows) (ta tm r : Int) (nf : Nat) (f : S.Rows) (a b : Int) (K0 : Nat) (k : Nat → Nat) (li : Nat → S.Rows) (q : S.Rows) (pu : Nat → Bool) (x y : Int) (G : Nat → Nat → PV) (i : Nat) : LTree := .e (.exit 2) ⟨setAll [(.i (.i (.i (.o .h))), .c (.pt 4 0)), (.i (.o (.i (.o .h))), .c (.sl 3 0 i)), (.i (.o (.o .h)), .c (.pt 1 0)), (.i (.o .h), vI .i64 y), (.i .h, .c (.p (.isl 7 K0 (S.legV k li q pu)))), (.o (.i (.i (.o .h))), vI .i64 i), (.o (.o (.i (.o .h))), .c (.pt 2 0)), (.o (.o .h), vI .i64 x)], hpM2 e mo t l nc c ns s ta tm r nf f a b k li q pu x y G i (k i)⟩
abbrev trM (e mo t l : Int) (nc : Nat) (c : S.Rows) (ns : Nat) (s : S.Rows) (ta tm r : Int) (nf : Nat) (f : S.Rows) (a b : Int) (K0 : Nat) (k : Nat → Nat) (li : Nat → S.Rows) (q : S.Rows) (pu : Nat → Bool) (x y : Int) : LTree := .e (.exit 0) ⟨setAll [(.i (.o (.i (.o .h))), .c (.sl 3 0 K0)), (.i (.o (.o .h)), .c (.pt 1 0)), (.i (.o .h), vI .i64 y), (.o (.o (.i (.o .h))), .c (.pt 2 0)), (.o (.o .h), vI .i64 x)], hpM e mo t l nc c ns s ta tm r nf f a b (S.nrL (S.legV k li q pu) x y) K0⟩
include hT12 in
theorem go_law02_LoadMore2 (fu i : Nat) (e mo t l : Int) (nc : Nat) (c : S.Rows) (ns : Nat) (s : S.Rows) (ta tm r : Int) (nf : Nat) (f : S.Rows) (a b : Int) (K0 : Nat) (k : Nat → Nat) (li : Nat → S.Rows) (q : S.Rows) (pu : Nat → Bool) (x y : Int) (G : Nat → Nat → PV) (hi : i < K0) (hk : k i ≤ 1000000) (hit : ∀ j, j < k i → 0 ≤ li i j 1 ∧ li i j 1 ≤ li i j 2 ∧ li i j 2 ≤ 20000) (hx : 0 ≤ x ∧ x ≤ 100) (hy : 0 ≤ y ∧ y ≤ 100) :
    ∀ (j : Nat) (st : St), j ≤ k i → (∃ ρ, HasR 0 ρ st (lvM2 K0 k li q pu x y i j) (hpM2 e mo t l nc c ns s ta tm r nf f a b k li q pu x y G i j)) → LoopGo (ex (cs12 hbs) (fu + 50)) 0 m_law02_LoadMore_l2 st (trM2 e mo t l nc c ns s ta tm r nf f a b K0 k li q pu x y G i) :=
  loop_kR (σ := Nat) (lvM2 K0 k li q pu x y i) (hpM2 e mo t l nc c ns s ta tm r nf f a b k li q pu x y G i) (fun j => j ≤ k i) (fun j => k i - j) (fun _ => trM2 e mo t l nc c ns s ta tm r nf f a b K0 k li q pu x y G i) _ (fun j Q => vs_law02_LoadMore2 (hbs := hbs) fu i j e mo t l nc c ns s ta tm r nf f a b K0 k li q pu x y G (S.nrR (li i) x y) 0 Q) fun j hj' K hL X hX => by
      refine cdP (idx_ok hi) (brP (fun h1 => ?_) fun h1 => ?_)
      · have hlt : j < k i := by simpa using h1
        have h := hit j hlt
        refine cdP (idx_ok hi) (cdP (idx_ok hlt) ⟨fc_law02_narrow hT12 _ _ _ _ h.2.1 (by omega) (by omega) hx.1 hx.2 hy.1 hy.2, cdP (Nat.le_refl _) (cdP (Nat.le_refl _) (cdP (by simp [Cd.holds]; omega) (cdP (by simp [Cd.holds]; omega) ?_)))⟩)
        refine hX (j + 1) _ (by omega) (by omega) ⟨[none, some 1, some 2, some 3, some 4, some 8], HasR.mk _ rfl rfl ?_ ?_⟩ hL
        · refine ⟨trivial, ⟨rfl, .inl rfl, .inl rfl, trivial⟩, ⟨rfl, ?_⟩, ⟨rfl, rfl, rfl, fun _ _ _ _ => rfl, rfl⟩, ⟨rfl, ⟨rfl, rfl, rfl⟩, .inl rfl, .inl rfl, .inl rfl, .inl rfl, .inl rfl, .inl rfl, trivial⟩, ⟨rfl, rfl, rfl, fun w z hw hz => S.nr_val hw hz, rfl⟩, trivial⟩
          simp [WL, WC, WP', plC]
        · simp [LiveR, WA, WC, WP', Tr.get]
      · have hlt : k i ≤ j := by simpa using h1
        have hjj : j = k i := by omega
        subst hjj
        refine HasR.out (l := [(.i (.i (.i (.o .h))), .c (.pt 4 0)), (.i (.o (.i (.o .h))), .c (.sl 3 0 i)), (.i (.o (.o .h)), .c (.pt 1 0)), (.i (.o .h), vI .i64 y), (.i .h, .c (.p (.isl 7 K0 (S.legV k li q pu)))), (.o (.i (.i (.o .h))), vI .i64 i), (.o (.o (.i (.o .h))), .c (.pt 2 0)), (.o (.o .h), vI .i64 x)]) (HasR.mk (ρ := [none, some 1, some 2, some 3, some 4, some 5]) rfl rfl ?_ ?_) hL
        · refine ⟨trivial, ⟨rfl, .inl rfl, .inl rfl, trivial⟩, ⟨rfl, ?_⟩, ⟨rfl, rfl, rfl, fun _ _ _ _ => rfl, rfl⟩, ⟨rfl, ⟨rfl, rfl, rfl⟩, .inl rfl, .inl rfl, .inl rfl, .inl rfl, .inl rfl, .inl rfl, trivial⟩, ⟨rfl, rfl, rfl, fun _ _ _ _ => rfl, rfl⟩, trivial⟩
          simp [WL, WC, WP', plC]
        · simp [LiveR, WA, WC, WP', Tr.get]
include hT12 in
theorem go_law02_LoadMore1 (fu : Nat) (e mo t l : Int) (nc : Nat) (c : S.Rows) (ns : Nat) (s : S.Rows) (ta tm r : Int) (nf : Nat) (f : S.Rows) (a b : Int) (K0 : Nat) (k : Nat → Nat) (li : Nat → S.Rows) (q : S.Rows) (pu : Nat → Bool) (x y : Int) (h : S.TrOk ns a b K0 k li q) (hx : 0 ≤ x ∧ x ≤ 100) (hy : 0 ≤ y ∧ y ≤ 100) :
    ∀ (i : Nat) (st : St), i ≤ K0 → (∃ ρ, HasR 0 ρ st (lvM K0 k li q pu x y i) (hpM e mo t l nc c ns s ta tm r nf f a b (S.nrL (S.legV k li q pu) x y) i)) → LoopGo (ex (cs12 hbs) (fu + 60)) 0 m_law02_LoadMore_l1 st (trM e mo t l nc c ns s ta tm r nf f a b K0 k li q pu x y) :=
  loop_kR (σ := Nat) (lvM K0 k li q pu x y) (hpM e mo t l nc c ns s ta tm r nf f a b (S.nrL (S.legV k li q pu) x y)) (fun i => i ≤ K0) (fun i => K0 - i) (fun _ => trM e mo t l nc c ns s ta tm r nf f a b K0 k li q pu x y) _ (fun i Q => vs_law02_LoadMore1 (hbs := hbs) fu i e mo t l nc c ns s ta tm r nf f a b K0 k li q pu x y (S.nrL (S.legV k li q pu) x y) Q) fun i hi' K hL X hX => by
      refine brP (fun h1 => ?_) fun h1 => ?_
      · have hlt : i < K0 := by simpa using h1
        have hq := h.hq i hlt
        have hK := h.hK
        have hk := h.hk i hlt
        refine cdP (idx_ok hlt) ⟨fc_law02_narrow hT12 _ _ _ _ hq.2.1.2.1 (by omega) (by omega) hx.1 hx.2 hy.1 hy.2, fc_law02_narrow hT12 _ _ _ _ hq.2.2.2.1 (by omega) (by omega) hx.1 hx.2 hy.1 hy.2, go_law02_LoadMore2 hT12 fu i e mo t l nc c ns s ta tm r nf f a b K0 k li q pu x y (S.nrL (S.legV k li q pu) x y) hlt (by omega) (fun j hj => (h.hit i hlt j hj).2) hx hy 0 _ (Nat.zero_le _) ⟨[none, some 1, some 2, some 3, some 4, none], HasR.mk _ rfl rfl ?_ ?_⟩, cdP (Nat.le_refl _) (cdP (Nat.le_refl _) (cdP (by simp [Cd.holds]; omega) (cdP (by simp [Cd.holds]; omega) ?_)))⟩
        · refine ⟨trivial, ⟨rfl, .inl rfl, .inl rfl, trivial⟩, ⟨rfl, ?_⟩, ⟨rfl, rfl, rfl, fun _ _ _ _ => rfl, rfl⟩, ⟨rfl, ⟨rfl, rfl, rfl⟩, .inl rfl, .inl rfl, .inl rfl, .inl rfl, .inl rfl, .inl rfl, trivial⟩, rfl, trivial⟩
          simp [WL, WC, WP', plC]
        · simp [LiveR, WA, WC, WP', Tr.get]
        · refine hX (i + 1) _ (by omega) (by omega) ⟨[none, some 1, some 2, some 7], HasR.mk _ rfl rfl ?_ ?_⟩ hL
          · refine ⟨trivial, ⟨rfl, .inl rfl, .inl rfl, trivial⟩, ⟨rfl, ?_⟩, ⟨rfl, rfl, rfl, fun w z hw hz => S.nl_val hw hz, rfl⟩, trivial⟩
            simp [WL, WC, WP', plC]
          · simp [LiveR, WA, WC, WP', Tr.get]
      · have hlt : K0 ≤ i := by simpa using h1
        obtain rfl : i = K0 := by omega
        refine HasR.out (l := [(.i (.o (.i (.o .h))), .c (.sl 3 0 i)), (.i (.o (.o .h)), .c (.pt 1 0)), (.i (.o .h), vI .i64 y), (.o (.o (.i (.o .h))), .c (.pt 2 0)), (.o (.o .h), vI .i64 x)]) (HasR.mk (ρ := [none, some 1, some 2, some 3]) rfl rfl ?_ ?_) hL
        · refine ⟨trivial, ⟨rfl, .inl rfl, .inl rfl, trivial⟩, ⟨rfl, ?_⟩, ⟨rfl, rfl, rfl, fun _ _ _ _ => rfl, rfl⟩, trivial⟩
          simp [WL, WC, WP', plC]
        · simp [LiveR, WA, WC, WP', Tr.get]
include hT hT3 hT4 hT7 hT9 hT10 hT11 hT12 in
theorem fc12_Trip (e mo t l : Int) (nc : Nat) (c : S.Rows) (ns : Nat) (s : S.Rows) (ta tm r : Int) (nf : Nat) (f : S.Rows) (a b : Int) (K0 : Nat) (k : Nat → Nat) (li : Nat → S.Rows) (q : S.Rows) (pu : Nat → Bool) (hnc : nc ≤ maxLen) (hns : ns ≤ 1000000) (hns' : ns ≤ maxLen) (hnf : nf ≤ maxLen) (hK : K0 ≤ 1000) (hk : ∀ i, i < K0 → k i ≤ 1000000) : FCall (cs12 hbs) f_load_Trip [.ag (plC e mo t l nc (S.val c) ns (S.val s) ta tm r nf (S.val f)), .ag [.p (.int .i64 a), .p (.int .i64 b)], .c (.p (.isl 7 K0 (S.legV k li q pu)))]
    (.tp [vI .i64 (S.tA e mo t l nc c ns s ta tm r nf f a b K0 (S.legV k li q pu)), vI .i64 (S.tR e mo t l nc c ns s ta tm r nf f a b K0 (S.legV k li q pu)), vI .i64 (S.tI e mo t l nc c ns s ta tm r nf f a b K0 (S.legV k li q pu)), vI .i64 (S.tE e mo t l nc c ns s ta tm r nf f a b K0 (S.legV k li q pu))]) [] :=
  FCall.cfg (C := cs11 hbs) (C' := cs12 hbs) rfl rfl (fc_load_Trip hT hT3 hT4 hT7 hT9 hT10 hT11 e mo t l nc c ns s ta tm r nf f a b K0 k li q pu hnc hns hns' hnf hK hk)
end
end Go.Ab.B
set_option linter.all false
set_option maxRecDepth 100000
namespace Go.Ab.B
open Go.Proofs
section
variable {hbs : BsOk Tryd.prog} (hT : TabOk (cs hbs)) (hT3 : TabOk (cs3 hbs)) (hT4 : TabOk (cs4 hbs)) (hT7 : TabOk (cs7 hbs)) (hT9 : TabOk (cs9 hbs)) (hT10 : TabOk (cs10 hbs)) (hT11 : TabOk (cs11 hbs)) (hT12 : TabOk (cs12 hbs)) (h8 : FCall (cs hbs) f_law02_known [] (vB true) [])
include hT hT3 hT4 hT7 hT9 hT10 hT11 hT12 h8
theorem fc_law02_LoadMore (e mo t l : Int) (nc : Nat) (c : S.Rows) (ns : Nat) (s : S.Rows) (ta tm r : Int) (nf : Nat) (f : S.Rows) (a b : Int) (K0 : Nat) (k : Nat → Nat) (li : Nat → S.Rows) (q : S.Rows) (pu : Nat → Bool) (x y u v : Int) (hnc : nc ≤ maxLen) (hns : ns ≤ maxLen) (hnf : nf ≤ maxLen) (hK : K0 ≤ maxLen) :
    FCall (cs12 hbs) f_law02_LoadMore [.ag (plC e mo t l nc (S.val c) ns (S.val s) ta tm r nf (S.val f)), .ag [.p (.int .i64 a), .p (.int .i64 b)], .c (.p (.isl 7 K0 (S.legV k li q pu))), .c (.p (.int .i64 x)), .c (.p (.int .i64 y)), .c (.p (.int .i64 u)), .c (.p (.int .i64 v))] (vB true) [] := by
  have k8 : FCall (cs12 hbs) f_law02_known [] (vB true) [] := FCall.cfg (C := cs hbs) (C' := cs12 hbs) rfl rfl h8
  refine fcall_k hT12 (F := F_law02_LoadMore) rfl (vc_law02_LoadMore e mo t l nc c ns s ta tm r nf f a b K0 k li q pu x y u v _) ?_
  refine brP (fun c1 => brP (fun c2 => brP (fun c3 => ⟨fc_law02_few hT12 K0 k li q pu hK, brP (fun c4 => ?_) fun _ => ⟨k8, rfl⟩⟩) fun _ => ⟨k8, rfl⟩) fun _ => ⟨k8, rfl⟩) fun _ => ⟨k8, rfl⟩
  have c1 : nc ≤ 20 := by simp at c1; omega
  have c2 : ns ≤ 20 := by simp at c2; omega
  have c3 : nf ≤ 10 := by simp at c3; omega
  have c4 : S.fewB K0 (S.legV k li q pu) = true := c4
  simp only [S.fewB, Bool.and_eq_true, decide_eq_true_eq] at c4
  have hk : ∀ i, i < K0 → k i ≤ 20 := fun i hi => by
    have := S.from_iff.1 c4.1 i (Nat.zero_le _) hi
    rw [S.fewAt_eq] at this
    simp at this
    omega
  have hK2 : K0 ≤ 12 := by omega
  refine ⟨fc_law02_refused hT hT3 hT12 e mo t l nc c ns s ta tm r nf f a b K0 k li q pu hnc (by omega) hns hnf (fun i hi => by have := hk i hi; omega), brP (fun _ => ⟨k8, rfl⟩) fun hE => ?_⟩
  refine brP (fun _ => ⟨k8, rfl⟩) fun g1 => brP (fun _ => ⟨k8, rfl⟩) fun g2 => brP (fun _ => ⟨k8, rfl⟩) fun g3 => brP (fun _ => ⟨k8, rfl⟩) fun g4 => brP (fun _ => ⟨k8, rfl⟩) fun g5 => ?_
  have g1 : 0 ≤ x := by simp at g1; omega
  have g2 : x ≤ y := by simp at g2; omega
  have g3 : y ≤ 100 := by simp at g3; omega
  have g4 : 0 ≤ u := by simp at g4; omega
  have g5 : 0 ≤ v := by simp at g5; omega
  obtain ⟨h1, h2⟩ := S.tE_ok hE
  have h0 := S.tE_0 h1 h2
  have hp := S.plane_ok h1
  have hq := S.tr_ok h2
  have q1 := S.mn_le0 g4 (show 0 ≤ 20000 - t from by have := hp.ht; omega)
  have q2 := S.mn_le0 g4 (show 0 ≤ 20000 - l from by have := hp.hl; omega)
  have q3 := S.mn_le0 g5 (show 0 ≤ r from by have := hp.hr; omega)
  have p1 := hp.ht
  have p2 := hp.hl
  have p3 := hp.hr
  have p4 := hq.hab
  refine ⟨fc12_Trip hT hT3 hT4 hT7 hT9 hT10 hT11 hT12 e mo t l nc c ns s ta tm r nf f a b K0 k li q pu hnc (by omega) hns hnf (by omega) (fun i hi => by have := hk i hi; omega), brP (fun hx => by rw [hE] at hx; cases hx) fun _ => brP (fun _ => ⟨k8, rfl⟩) fun hA => ?_⟩
  have hs := S.tA_neg h0 hA
  refine cdP (i64_of (by omega) (by omega)) (cdP (i64_of (by omega) (by omega)) (cdP (i64_of (by omega) (by omega)) (cdP (i64_of (by omega) (by omega)) (cdP (i64_of (by omega) (by omega)) ⟨go_law02_LoadMore1 hT12 928 e mo (t + S.mn u (20000 - t)) (l + S.mn u (20000 - l)) nc c ns s ta tm (r - S.mn v r) nf f a b K0 k li q pu x y hq ⟨g1, by omega⟩ ⟨by omega, g3⟩ 0 _ (Nat.zero_le _) ⟨[none, some 1, some 2, none], HasR.mk _ rfl rfl ?_ ?_⟩, fc_law02_narrow hT12 a b x y (by omega) (by omega) (by omega) g1 (by omega) (by omega) g3, ?_⟩))))
  · refine ⟨trivial, ⟨rfl, .inl rfl, .inl rfl, trivial⟩, ⟨rfl, ?_⟩, rfl, trivial⟩
    simp [WL, WC, WP', plC]
  · simp [LiveR, WA, WC, WP', Tr.get]
  have hG : (fun i j => S.nrL (S.legV k li q pu) x y (0 + i) j) = S.nrL (S.legV k li q pu) x y := by funext i j; rw [Nat.zero_add]
  rw [hG]
  generalize S.mn u (20000 - t) = z1 at *
  generalize S.mn u (20000 - l) = z2 at *
  generalize S.mn v r = z3 at *
  obtain ⟨m1, m2⟩ := S.trip_more (pu := pu) hq g1 g2 g3
  have m3 := S.plane_more (t' := t + z1) (l' := l + z2) (r' := r - z3) h1 (by omega) (by omega) (by omega)
  have m4 := S.tE_0 m3 m1
  have m5 := S.trip_mono (pu := pu) m2 (t' := t + z1) (l' := l + z2) (r' := r - z3) (by omega) (by omega) (by omega) hs
  obtain ⟨m6, m7⟩ := S.tA_sure m4 m5
  refine ⟨fc12_Trip hT hT3 hT4 hT7 hT9 hT10 hT11 hT12 e mo (t + z1) (l + z2) nc c ns s ta tm (r - z3) nf f (S.part a b x) (S.part a b y) K0 k (fun i => S.nrR (li i) x y) (S.nrQ (S.legV k li q pu) x y) pu hnc (by omega) hns hnf (by omega) (fun i hi => by have := hk i hi; omega), ?_⟩
  have b0 : ∀ {x y : Int}, x = y → (x == y) = false → False := fun e h => by rw [e, beq_self_eq_true] at h; cases h
  exact brP (fun _ => brP (fun _ => brP (fun _ => ⟨k8, rfl⟩) fun h => (b0 m7 h).elim) fun h => (b0 m6 h).elim) fun h => (b0 m4 h).elim
end
end Go.Ab.B
