/- A part of the proof. -/
import Derived.Test.YtfmbdlfpbhpieaaGreatDoorLd
set_option linter.all false
set_option maxRecDepth 100000
namespace Go.Ab.S
def fewAt (g : Nat → Nat → PV) (i : Nat) : Bool := decide ((lN (g i 0) : Int) ≤ 20)
def fewB (n : Nat) (g : Nat → Nat → PV) : Bool := from_ (fewAt g) n 0 && decide ((n : Int) ≤ 12)
def tE (e mo t l : Int) (nc : Nat) (c : Rows) (ns : Nat) (s : Rows) (ta tm r : Int) (nf : Nat) (f : Rows) (a b : Int) (n : Nat) (g : Nat → Nat → PV) : Int := tErr (plane e mo t l nc c ns s ta tm r nf f) ns a b n g
def tA (e mo t l : Int) (nc : Nat) (c : Rows) (ns : Nat) (s : Rows) (ta tm r : Int) (nf : Nat) (f : Rows) (a b : Int) (n : Nat) (g : Nat → Nat → PV) : Int := unX (tE e mo t l nc c ns s ta tm r nf f a b n g != 0) (unA (from_ (sureH e mo t l nc c ns s ta tm r nf f (ptV a b nf g)) (2 * n) 0) (fst (sureH e mo t l nc c ns s ta tm r nf f (ptV a b nf g)) (2 * n) 0)) 0
def tR (e mo t l : Int) (nc : Nat) (c : Rows) (ns : Nat) (s : Rows) (ta tm r : Int) (nf : Nat) (f : Rows) (a b : Int) (n : Nat) (g : Nat → Nat → PV) : Int := unX (tE e mo t l nc c ns s ta tm r nf f a b n g != 0) (unX (from_ (sureH e mo t l nc c ns s ta tm r nf f (ptV a b nf g)) (2 * n) 0) (broR (ruH e mo t l nc c ns s ta tm r nf f (ptV a b nf g) (fst (sureH e mo t l nc c ns s ta tm r nf f (ptV a b nf g)) (2 * n) 0))) 1) 0
def tI (e mo t l : Int) (nc : Nat) (c : Rows) (ns : Nat) (s : Rows) (ta tm r : Int) (nf : Nat) (f : Rows) (a b : Int) (n : Nat) (g : Nat → Nat → PV) : Int := unX (tE e mo t l nc c ns s ta tm r nf f a b n g != 0) (unX (from_ (sureH e mo t l nc c ns s ta tm r nf f (ptV a b nf g)) (2 * n) 0) (broI (ruH e mo t l nc c ns s ta tm r nf f (ptV a b nf g) (fst (sureH e mo t l nc c ns s ta tm r nf f (ptV a b nf g)) (2 * n) 0))) 0) 0
def legsB (st : Int) (n : Nat) (g : Nat → Nat → PV) : Bool := from_ (legAt st g) n 0 && decide ((n : Int) ≥ 1)
def nrR (it : Rows) (x y : Int) : Rows := fun j w => match w with
  | 0 => it j 0
  | 1 => part (it j 1) (it j 2) x
  | _ => part (it j 1) (it j 2) y
def nrQ (g : Nat → Nat → PV) (x y : Int) : Rows := fun i w => match w with
  | 0 => lI (g i 2)
  | 1 => part (lI (g i 3)) (lI (g i 4)) x
  | 2 => part (lI (g i 3)) (lI (g i 4)) y
  | 3 => part (lI (g i 5)) (lI (g i 6)) x
  | _ => part (lI (g i 5)) (lI (g i 6)) y
def nrL (g : Nat → Nat → PV) (x y : Int) : Nat → Nat → PV := legV (fun i => lN (g i 0)) (fun i => nrR (lR (g i 0)) x y) (nrQ g x y) (fun i => lB (g i 1))
end Go.Ab.S
namespace Go.Ab.B
open Go.Proofs
def zri : List AV → Option (AV × Heap)
  | [.c (.p (.isl 7 n g))] => some (vB (S.fewB n g), [])
  | _ => none
def zpp : List AV → Option (AV × Heap)
  | [.c (.p (.isl 7 n g)), .c (.p (.int .i64 st))] => some (vB (S.legsB st n g), [])
  | _ => none
def zjp : List AV → Option (AV × Heap)
  | [.ag [.p (.int .i64 e), .p (.int .i64 mo), .p (.int .i64 t), .p (.int .i64 l), .p (.isl 2 nc c), .p (.isl 2 ns s), .p (.int .i64 ta), .p (.int .i64 tm), .p (.int .i64 r), .p (.isl 2 nf f)], .ag [.p (.int .i64 a), .p (.int .i64 b)], .c (.p (.isl 7 n g)), .c (.p (.bool true))] =>
    some (vI .i64 (S.tE e mo t l nc (S.num c) ns (S.num s) ta tm r nf (S.num f) a b n g), [])
  | _ => none
def zpq : List AV → Option (AV × Heap)
  | [.ag [.p (.int .i64 lo), .p (.int .i64 hi)], .c (.p (.int .i64 pc))] => some (vI .i64 (S.part lo hi pc), [])
  | _ => none
def zlg : List AV → Option (AV × Heap)
  | [.ag [.p (.int .i64 lo), .p (.int .i64 hi)], .c (.p (.int .i64 x)), .c (.p (.int .i64 y))] => some (.ag [.p (.int .i64 (S.part lo hi x)), .p (.int .i64 (S.part lo hi y))], [])
  | _ => none
def zrj : List AV → Option (AV × Heap)
  | [.ag [.p (.int .i64 e), .p (.int .i64 mo), .p (.int .i64 t), .p (.int .i64 l), .p (.isl 2 nc c), .p (.isl 2 ns s), .p (.int .i64 ta), .p (.int .i64 tm), .p (.int .i64 r), .p (.isl 2 nf f)], .ag [.p (.int .i64 a), .p (.int .i64 b)], .c (.p (.isl 7 n g))] =>
    some (.tp [vI .i64 (S.tA e mo t l nc (S.num c) ns (S.num s) ta tm r nf (S.num f) a b n g), vI .i64 (S.tR e mo t l nc (S.num c) ns (S.num s) ta tm r nf (S.num f) a b n g), vI .i64 (S.tI e mo t l nc (S.num c) ns (S.num s) ta tm r nf (S.num f) a b n g), vI .i64 (S.tE e mo t l nc (S.num c) ns (S.num s) ta tm r nf (S.num f) a b n g)], [])
  | _ => none
def Sp12 (f : Nat) (l : List AV) : Option (AV × Heap) := bif Nat.beq f zb2 then zri l else bif Nat.beq f z9q then zpp l else bif Nat.beq f z5b then zjp l else bif Nat.beq f zr6 then zpq l else bif Nat.beq f zmz then zlg l else bif Nat.beq f z85 then zrj l else Sp11 f l
def zrk (s : St) : Option LTree :=
  match Tr.get .h s.t with
  | .c (.p (.isl 7 n g)) => some (.br (S.from_ (S.fewAt g) n 0) (.e (.exit 0) ⟨setAll [(.h, .c (.p (.isl 7 n g)))], []⟩) (.e .ret ⟨setAll [((.i .h), vB false)], []⟩))
  | _ => none
def zpr (s : St) : Option LTree :=
  match Tr.get .h s.t, Tr.get (.o .h) s.t with
  | .c (.p (.isl 7 n g)), .c (.p (.int .i64 st)) => some (.br (S.from_ (S.legAt st g) n 0) (.e (.exit 0) ⟨setAll [(.h, .c (.p (.isl 7 n g)))], []⟩) (.e .ret ⟨setAll [((.i (.o .h)), vB false)], []⟩))
  | _, _ => none
def z94 (j : Nat) (s : St) : Option LTree :=
  match Tr.get (.i .h) s.t, Tr.get (.o (.o .h)) s.t, Tr.get (.i (.o .h)) s.t, Tr.get (.o (.i (.i (.o .h)))) s.t with
  | .c (.p (.isl 7 n g)), .c (.p (.int .i64 x)), .c (.p (.int .i64 y)), .c (.p (.int .i64 i)) => match j with
    | 1 => match s.h with
      | _ :: b1 :: b2 :: _ => some (.e (.exit 0) ⟨setAll [(.i (.o (.i (.o .h))), .c (.sl 3 0 n)), (.i (.o (.o .h)), .c (.pt 1 0)), (.i (.o .h), vI .i64 y), (.o (.o (.i (.o .h))), .c (.pt 2 0)), (.o (.o .h), vI .i64 x)], [none, b1, b2, some (.arr 7 z6p n (S.nrL g x y) [])]⟩)
      | _ => none
    | _ => match s.h with
      | b0 :: b1 :: b2 :: b3 :: b4 :: _ => match b4, b3 with
        | some (.box tl [_, c1, c2, c3, c4, c5, c6]), some (.arr _ _ m _ _) => some (.e (.exit 2) ⟨setAll [(.i (.i (.i (.o .h))), .c (.pt 4 0)), (.i (.o (.i (.o .h))), .c (.sl 3 0 m)), (.i (.o (.o .h)), .c (.pt 1 0)), (.i (.o .h), vI .i64 y), (.i .h, .c (.p (.isl 7 n g))), (.o (.i (.i (.o .h))), vI .i64 i), (.o (.o (.i (.o .h))), .c (.pt 2 0)), (.o (.o .h), vI .i64 x)],
          [b0, b1, b2, b3, some (.box tl [.sl 5 0 (S.lN (g i.toNat 0)), c1, c2, c3, c4, c5, c6]), some (.arr 3 z5z (S.lN (g i.toNat 0)) (S.val (S.nrR (S.lR (g i.toNat 0)) x y)) [])]⟩)
        | _, _ => none
      | _ => none
  | _, _, _, _ => none
def Lp12 (n0 : Nat) (a : MC) (s : St) : Option LTree := bif Nat.beq (keyM a 0) zj7 then zrk s else bif Nat.beq (keyM a 0) zhi then zpr s else bif Nat.beq (keyM a 0) zbm then z94 1 s else bif Nat.beq (keyM a 0) zbn then z94 2 s else Lp11 n0 a s
def cs12 {P : Program} (hbs : BsOk P) : Cfg := { cs11 hbs with Sp := Sp12, Lp := Lp12 }
section
variable {hbs : BsOk Tryz.prog}
theorem vs_law02_few (fu i : Nat) (K0 : Nat) (k : Nat → Nat) (li : Nat → S.Rows) (q : S.Rows) (pu : Nat → Bool) (Q : AX → St → Prop) :
 ((fun (A0 : AV) => ((BrP (decide ((i : Int) < (K0 : Int)))
 (CdP (.rng (i : Int) K0)
 (BrP (decide (((k i : Nat) : Int) > (20 : Int)))
 (Q .ret ⟨(.nd (L3 (L1 (vN i))) A0 (L1 (vB false))), []⟩)
 (CdP (.i64 ((i : Int) + (1 : Int)))
 (Q .normal ⟨(.nd (L3 (L1 (vJ ((i : Int) + (1 : Int))))) A0 (L1 .any)), []⟩))))
 (Q (.exit 0) ⟨(.nd (L3 (L1 (vN i))) A0 (L1 .any)), []⟩)))) (.c (.p (.isl 7 K0 (S.legV k li q pu))))) = (ex (cs12 hbs) (fu + 60) 0 z60 ⟨setAll [(.h, .c (.p (.isl 7 K0 (S.legV k li q pu)))), (.o (.o .h), .c (cJ i))], []⟩ (fun e s => .pr (Q e (z19 [.h, .i .h, .o (.o .h)] s)))).hold2 := by kernel_rfl
theorem zr5 (K0 : Nat) (k : Nat → Nat) (li : Nat → S.Rows) (q : S.Rows) (pu : Nat → Bool) (Q : AV → Heap → Prop) :
 (((za (ex (cs12 hbs) 995) 0 z60 ⟨(.nd (L3 (L1 (vJ 0))) (.c (.p (.isl 7 K0 (S.legV k li q pu)))) (L1 (vB false))), []⟩ (.br (S.from_ (S.fewAt (S.legV k li q pu)) K0 0) (.e (.exit 0) ⟨(L1 (.c (.p (.isl 7 K0 (S.legV k li q pu))))), []⟩) (.e .ret ⟨(L2 (L1 (vB false))), []⟩))) ∧
 (BrP (S.from_ (S.fewAt (S.legV k li q pu)) K0 0)
 (BrP (decide ((K0 : Int) ≤ (12 : Int)))
 (Q (vB true) [])
 (Q (vB false) []))
 (Q (vB false) [])))) = (ex (cs12 hbs) 1000 0 zi1 ⟨ofL 0 [.c (.p (.isl 7 K0 (S.legV k li q pu)))] .lf, []⟩ (endK z6f.rs (fun r H => .pr (Q r H)) fun _ _ => .no)).hold2 := by kernel_rfl
theorem vs_ref02_Legs (fu i : Nat) (st : Int) (K0 : Nat) (k : Nat → Nat) (li : Nat → S.Rows) (q : S.Rows) (pu : Nat → Bool) (Q : AX → St → Prop) :
 ((fun (A1 : AV) => ((fun (A0 : Tr) => ((BrP (decide ((i : Int) < (K0 : Int)))
 (CdP (.rng (i : Int) K0)
 ((FCall (cs12 hbs) z8t [(.c (.p (.isl 3 (k i) (S.val (li i))))), (vJ st)] (.c (.p (.bool (S.itemsOk (k i) (li i) st)))) []) ∧
 (BrP (S.itemsOk (k i) (li i) st)
 (CdP (.rng (i : Int) K0)
 ((FCall (cs12 hbs) zo [(vJ (q i 0)), (vJ 0), (vJ 20000)] (.c (.p (.bool (S.inB (0 : Int) (q i 0) (20000 : Int))))) []) ∧
 (BrP (S.inB (0 : Int) (q i 0) (20000 : Int))
 (CdP (.rng (i : Int) K0)
 ((FCall (cs12 hbs) z2y [(.ag [(cJ (q i 1)), (cJ (q i 2))]), (vJ 0), (vJ 20000)] (.c (.p (.bool (S.span (q i 1) (q i 2) (0 : Int) (20000 : Int))))) []) ∧
 (BrP (S.span (q i 1) (q i 2) (0 : Int) (20000 : Int))
 (CdP (.rng (i : Int) K0)
 ((FCall (cs12 hbs) z2y [(.ag [(cJ (q i 3)), (cJ (q i 4))]), (vJ 0), (vJ 20000)] (.c (.p (.bool (S.span (q i 3) (q i 4) (0 : Int) (20000 : Int))))) []) ∧
 (BrP (S.span (q i 3) (q i 4) (0 : Int) (20000 : Int))
 (CdP (.i64 ((i : Int) + (1 : Int)))
 (Q .normal ⟨(.nd (L5 (vJ st) (L1 (vJ ((i : Int) + (1 : Int))))) A1 (L3 (L1 .any))), []⟩))
 (Q .ret ⟨A0, []⟩))))
 (Q .ret ⟨A0, []⟩))))
 (Q .ret ⟨A0, []⟩))))
 (Q .ret ⟨A0, []⟩))))
 (Q (.exit 0) ⟨(.nd (L5 (vJ st) (L1 (vN i))) A1 (L3 (L1 .any))), []⟩)))) (.nd (L5 (vJ st) (L1 (vN i))) A1 (L3 (L1 (vB false)))))) (.c (.p (.isl 7 K0 (S.legV k li q pu))))) = (ex (cs12 hbs) (fu + 60) 0 z5a ⟨setAll [(.h, .c (.p (.isl 7 K0 (S.legV k li q pu)))), (.o .h, .c (cJ st)), (.o (.i .h), .c (cJ i))], []⟩ (fun e s => .pr (Q e (z19 [.h, .o .h, .i (.o .h), .o (.i .h)] s)))).hold2 := by kernel_rfl
theorem zp7 (st : Int) (K0 : Nat) (k : Nat → Nat) (li : Nat → S.Rows) (q : S.Rows) (pu : Nat → Bool) (Q : AV → Heap → Prop) :
 (((za (ex (cs12 hbs) 995) 0 z5a ⟨(.nd (L5 (vJ st) (L1 (vJ 0))) (.c (.p (.isl 7 K0 (S.legV k li q pu)))) (L3 (L1 (vB false)))), []⟩ (.br (S.from_ (S.legAt st (S.legV k li q pu)) K0 0) (.e (.exit 0) ⟨(L1 (.c (.p (.isl 7 K0 (S.legV k li q pu))))), []⟩) (.e .ret ⟨(L2 (L3 (L1 (vB false)))), []⟩))) ∧
 (BrP (S.from_ (S.legAt st (S.legV k li q pu)) K0 0)
 (BrP (decide ((K0 : Int) ≥ (1 : Int)))
 (Q (vB true) [])
 (Q (vB false) []))
 (Q (vB false) [])))) = (ex (cs12 hbs) 1000 0 zep ⟨ofL 0 [.c (.p (.isl 7 K0 (S.legV k li q pu))), .c (cJ st)] .lf, []⟩ (endK z5k.rs (fun r H => .pr (Q r H)) fun _ _ => .no)).hold2 := by kernel_rfl
theorem zj4 (e mo t l : Int) (nc : Nat) (c : S.Rows) (ns : Nat) (s : S.Rows) (ta tm r : Int) (nf : Nat) (f : S.Rows) (a b : Int) (K0 : Nat) (k : Nat → Nat) (li : Nat → S.Rows) (q : S.Rows) (pu : Nat → Bool) (Q : AV → Heap → Prop) :
 ((fun (A0 : Heap) => ((BrP (decide ((K0 : Int) > (6 : Int)))
 (Q (vJ 3) A0)
 ((FCall (cs12 hbs) z6r [(.ag (kP e mo t l nc c ns s ta tm r nf f))] (.c (.p (.bool (S.plane e mo t l nc c ns s ta tm r nf f)))) []) ∧
 (BrP (S.plane e mo t l nc c ns s ta tm r nf f)
 ((FCall (cs12 hbs) z2y [(.ag [(cJ a), (cJ b)]), (vJ 0), (vJ 20000)] (.c (.p (.bool (S.span a b (0 : Int) (20000 : Int))))) []) ∧
 (BrP (S.span a b (0 : Int) (20000 : Int))
 ((FCall (cs12 hbs) z9q [(.c (.p (.isl 7 K0 (S.legV k li q pu)))), (vN ns)] (.c (.p (.bool (S.legsB (ns : Int) K0 (S.legV k li q pu))))) []) ∧
 (BrP (S.legsB (ns : Int) K0 (S.legV k li q pu))
 (Q (vJ 0) A0)
 (Q (vJ 2) A0)))
 (Q (vJ 2) A0)))
 (Q (vJ 2) A0)))))) [(bP e mo t l nc c ns s ta tm r nf f), (some (.box z6 [(cJ a), (cJ b)]))]) = (ex (cs12 hbs) 1000 0 zai ⟨ofL 0 [.ag (plC e mo t l nc (S.val c) ns (S.val s) ta tm r nf (S.val f)), .ag [.p (.int .i64 a), .p (.int .i64 b)], .c (.p (.isl 7 K0 (S.legV k li q pu))), .c (.p (.bool true))] .lf, []⟩ (endK z3n.rs (fun r H => .pr (Q r H)) fun _ _ => .no)).hold2 := by kernel_rfl
end
end Go.Ab.B
namespace Go.Ab.S
theorem fewAt_eq (k : Nat → Nat) (li : Nat → Rows) (q : Rows) (pu : Nat → Bool) (i : Nat) : fewAt (legV k li q pu) i = decide ((k i : Int) ≤ 20) := rfl
theorem legs_tErr {pl : Bool} {ns : Nat} {a b : Int} {n : Nat} {g : Nat → Nat → PV} (h1 : (n : Int) ≤ 6) : tErr pl ns a b n g = (match pl && (span a b 0 20000 && legsB ns n g) with | true => 0 | false => 2) := by
  have e : decide ((n : Int) > 6) = false := by simpa using h1
  have e2 : inB 1 (n : Int) 6 = decide ((n : Int) ≥ 1) := by
    unfold inB
    have : decide ((n : Int) ≤ 6) = true := by simpa using h1
    rw [this, Bool.and_true]
  simp only [tErr, e, tripB, legsB, e2]
  rw [Bool.and_comm (decide ((n : Int) ≥ 1))]
  rfl
end Go.Ab.S
namespace Go.Ab.B
open Go.Proofs
section
variable {hbs : BsOk Tryz.prog} (hT : TabOk (cs hbs)) (hT3 : TabOk (cs3 hbs)) (hT12 : TabOk (cs12 hbs))
abbrev lvFw (K0 : Nat) (g : Nat → Nat → PV) (i : Nat) : List (Ps × AV) := [(.h, .c (.p (.isl 7 K0 g))), (.o (.o .h), .c (.p (.int .i64 i)))]
abbrev trFw (K0 : Nat) (g : Nat → Nat → PV) (i : Nat) : LTree := .br (S.from_ (S.fewAt g) K0 i) (.e (.exit 0) ⟨setAll [(.h, .c (.p (.isl 7 K0 g)))], []⟩) (.e .ret ⟨setAll [((.i .h), vB false)], []⟩)
theorem zr4 (fu K0 : Nat) (k : Nat → Nat) (li : Nat → S.Rows) (q : S.Rows) (pu : Nat → Bool) (hK : K0 ≤ maxLen) : ∀ (i : Nat) (s : St), i ≤ K0 → (∃ ρ, HasR 0 ρ s (lvFw K0 (S.legV k li q pu) i) []) → za (ex (cs12 hbs) (fu + 60)) 0 z60 s (trFw K0 (S.legV k li q pu) i) :=
  loop_kT (σ := Nat) (lvFw K0 (S.legV k li q pu)) (fun _ => []) (fun i => i ≤ K0) (fun i => K0 - i) (trFw K0 (S.legV k li q pu)) _ (fun i Q => vs_law02_few (hbs := hbs) fu i K0 k li q pu Q) fun i hi' K hL X hX => by
      refine brP (fun h1 => ?_) fun h1 => ?_
      · have hlt : i < K0 := by simpa using h1
        refine cdP (ze hlt) (brP (fun h2 => ?_) fun h2 => cdP (z14 hlt hK) ?_)
        · have eo : S.fewAt (S.legV k li q pu) i = false := by rw [S.fewAt_eq]; simp at h2 ⊢; omega
          have e2 : S.from_ (S.fewAt (S.legV k li q pu)) K0 i = false := by rw [S.from_step hlt, eo, Bool.false_and]
          simp only [trFw, e2] at hL
          exact HasR.out (l := [((.i .h), vB false)]) (HasR.mk (ρ := []) rfl rfl (by simp [WH]) ⟨.inl rfl, trivial⟩) hL
        · have eo : S.fewAt (S.legV k li q pu) i = true := by rw [S.fewAt_eq]; simp at h2 ⊢; omega
          have e2 : S.from_ (S.fewAt (S.legV k li q pu)) K0 i = S.from_ (S.fewAt (S.legV k li q pu)) K0 (i + 1) := by rw [S.from_step hlt, eo, Bool.true_and]
          simp only [trFw, e2] at hL
          exact hX (i + 1) _ (by omega) (by omega) ⟨[], HasR.mk _ rfl rfl (by simp [WH]) ⟨.inl rfl, .inl rfl, trivial⟩⟩ hL
      · have hlt : K0 ≤ i := by simpa using h1
        have e2 : S.from_ (S.fewAt (S.legV k li q pu)) K0 i = true := S.from_end hlt
        simp only [trFw, e2] at hL
        exact HasR.out (l := [(.h, .c (.p (.isl 7 K0 (S.legV k li q pu))))]) (HasR.mk (ρ := []) rfl rfl (by simp [WH]) ⟨.inl rfl, trivial⟩) hL
include hT12 in
theorem zr2 (K0 : Nat) (k : Nat → Nat) (li : Nat → S.Rows) (q : S.Rows) (pu : Nat → Bool) (hK : K0 ≤ maxLen) : FCall (cs12 hbs) zb2 [.c (.p (.isl 7 K0 (S.legV k li q pu)))] (vB (S.fewB K0 (S.legV k li q pu))) [] :=
  fcall_k hT12 (F := z6f) rfl (zr5 K0 k li q pu _) ⟨zr4 935 K0 k li q pu hK 0 _ (Nat.zero_le _) ⟨[], HasR.mk _ rfl rfl (by simp [WH]) ⟨.inl rfl, .inl rfl, trivial⟩⟩, brP (fun h1 => brP (fun h2 => zg (by simp only [S.fewB, h1, h2]; rfl)) fun h2 => zg (by simp only [S.fewB, h1, h2]; rfl)) fun h1 => zg (by simp only [S.fewB, h1]; rfl)⟩
abbrev lvLg (st : Int) (K0 : Nat) (g : Nat → Nat → PV) (i : Nat) : List (Ps × AV) := [(.h, .c (.p (.isl 7 K0 g))), (.o .h, .c (.p (.int .i64 st))), (.o (.i .h), .c (.p (.int .i64 i)))]
abbrev trLg (st : Int) (K0 : Nat) (g : Nat → Nat → PV) (i : Nat) : LTree := .br (S.from_ (S.legAt st g) K0 i) (.e (.exit 0) ⟨setAll [(.h, .c (.p (.isl 7 K0 g)))], []⟩) (.e .ret ⟨setAll [((.i (.o .h)), vB false)], []⟩)
include hT hT3 in
theorem zp5 (fu : Nat) (st : Int) (K0 : Nat) (k : Nat → Nat) (li : Nat → S.Rows) (q : S.Rows) (pu : Nat → Bool) (hst : 0 ≤ st ∧ st ≤ 1000000) (hK : K0 ≤ 1000) (hk : ∀ i, i < K0 → k i ≤ 1000000) : ∀ (i : Nat) (s : St), i ≤ K0 → (∃ ρ, HasR 0 ρ s (lvLg st K0 (S.legV k li q pu) i) []) → za (ex (cs12 hbs) (fu + 60)) 0 z5a s (trLg st K0 (S.legV k li q pu) i) :=
  loop_kT (σ := Nat) (lvLg st K0 (S.legV k li q pu)) (fun _ => []) (fun i => i ≤ K0) (fun i => K0 - i) (trLg st K0 (S.legV k li q pu)) _ (fun i Q => vs_ref02_Legs (hbs := hbs) fu i st K0 k li q pu Q) fun i hi' K hL X hX => by
      have bad : ∀ (s' : St), i < K0 → S.legAt st (S.legV k li q pu) i = false → (∃ ρ, HasR 0 ρ s' [((.i (.o .h)), vB false)] []) → ∃ s'', Wk 0 s' s'' ∧ (K .ret s'').holds := fun s' hlt eo h => by
        have e2 : S.from_ (S.legAt st (S.legV k li q pu)) K0 i = false := by rw [S.from_step hlt, eo, Bool.false_and]
        simp only [trLg, e2] at hL
        obtain ⟨ρ, h⟩ := h
        exact HasR.out h hL
      refine brP (fun h1 => ?_) fun h1 => ?_
      · have hlt : i < K0 := by simpa using h1
        have hs0 : ∀ (x y : Int), FCall (cs12 hbs) z2y [.ag [.p (.int .i64 x), .p (.int .i64 y)], .c (.p (.int .i64 0)), .c (.p (.int .i64 20000))] (vB (S.span x y 0 20000)) [] := fun x y => FCall.cfg (C := cs3 hbs) (C' := cs12 hbs) rfl rfl (z8s hT hT3 _ _ _ _)
        refine cdP (ze hlt) ⟨FCall.cfg (C := cs3 hbs) (C' := cs12 hbs) rfl rfl (zmy hT hT3 (k i) (li i) st (hk i hlt) hst), brP (fun a1 => cdP (ze hlt) ⟨FCall.cfg (C := cs3 hbs) (C' := cs12 hbs) rfl rfl (z4c hT hT3 _ _ _), brP (fun a2 => cdP (ze hlt) ⟨hs0 _ _, brP (fun a3 => cdP (ze hlt) ⟨hs0 _ _, brP (fun a4 => cdP (by simp [Cd.holds]; omega) ?_) fun a4 => bad _ hlt ?_ ⟨[], HasR.mk _ rfl rfl (by simp [WH]) ⟨.inl rfl, trivial⟩⟩⟩) fun a3 => bad _ hlt ?_ ⟨[], HasR.mk _ rfl rfl (by simp [WH]) ⟨.inl rfl, trivial⟩⟩⟩) fun a2 => bad _ hlt ?_ ⟨[], HasR.mk _ rfl rfl (by simp [WH]) ⟨.inl rfl, trivial⟩⟩⟩) fun a1 => bad _ hlt ?_ ⟨[], HasR.mk _ rfl rfl (by simp [WH]) ⟨.inl rfl, trivial⟩⟩⟩
        · have a1 : S.itemsOk (k i) (li i) st = true := a1
          have eo : S.legAt st (S.legV k li q pu) i = true := by rw [S.legAt_eq, a1, a2, a3, a4]; rfl
          have e2 : S.from_ (S.legAt st (S.legV k li q pu)) K0 i = S.from_ (S.legAt st (S.legV k li q pu)) K0 (i + 1) := by rw [S.from_step hlt, eo, Bool.true_and]
          simp only [trLg, e2] at hL
          exact hX (i + 1) _ (by omega) (by omega) ⟨[], HasR.mk _ rfl rfl (by simp [WH]) ⟨.inl rfl, .inl rfl, .inl rfl, trivial⟩⟩ hL
        · rw [S.legAt_eq, a4]; simp
        · rw [S.legAt_eq, a3]; simp
        · rw [S.legAt_eq, a2]; simp
        · have a1 : S.itemsOk (k i) (li i) st = false := a1
          rw [S.legAt_eq, a1]; rfl
      · have hlt : K0 ≤ i := by simpa using h1
        have e2 : S.from_ (S.legAt st (S.legV k li q pu)) K0 i = true := S.from_end hlt
        simp only [trLg, e2] at hL
        exact HasR.out (l := [(.h, .c (.p (.isl 7 K0 (S.legV k li q pu))))]) (HasR.mk (ρ := []) rfl rfl (by simp [WH]) ⟨.inl rfl, trivial⟩) hL
include hT hT3 hT12 in
theorem zp6 (st : Int) (K0 : Nat) (k : Nat → Nat) (li : Nat → S.Rows) (q : S.Rows) (pu : Nat → Bool) (hst : 0 ≤ st ∧ st ≤ 1000000) (hK : K0 ≤ 1000) (hk : ∀ i, i < K0 → k i ≤ 1000000) : FCall (cs12 hbs) z9q [.c (.p (.isl 7 K0 (S.legV k li q pu))), .c (.p (.int .i64 st))] (vB (S.legsB st K0 (S.legV k li q pu))) [] :=
  fcall_k hT12 (F := z5k) rfl (zp7 st K0 k li q pu _) ⟨zp5 hT hT3 935 st K0 k li q pu hst hK hk 0 _ (Nat.zero_le _) ⟨[], HasR.mk _ rfl rfl (by simp [WH]) ⟨.inl rfl, .inl rfl, .inl rfl, trivial⟩⟩, brP (fun h1 => brP (fun h2 => zg (by simp only [S.legsB, h1, h2]; rfl)) fun h2 => zg (by simp only [S.legsB, h1, h2]; rfl)) fun h1 => zg (by simp only [S.legsB, h1]; rfl)⟩
include hT hT3 hT12 in
theorem zj3 (e mo t l : Int) (nc : Nat) (c : S.Rows) (ns : Nat) (s : S.Rows) (ta tm r : Int) (nf : Nat) (f : S.Rows) (a b : Int) (K0 : Nat) (k : Nat → Nat) (li : Nat → S.Rows) (q : S.Rows) (pu : Nat → Bool) (hnc : nc ≤ maxLen) (hns : ns ≤ 1000000) (hns' : ns ≤ maxLen) (hnf : nf ≤ maxLen) (hk : ∀ i, i < K0 → k i ≤ 1000000) : FCall (cs12 hbs) z5b [.ag (plC e mo t l nc (S.val c) ns (S.val s) ta tm r nf (S.val f)), .ag [.p (.int .i64 a), .p (.int .i64 b)], .c (.p (.isl 7 K0 (S.legV k li q pu))), .c (.p (.bool true))] (vI .i64 (S.tE e mo t l nc c ns s ta tm r nf f a b K0 (S.legV k li q pu))) [] :=
  fcall_k hT12 (F := z3n) rfl (zj4 e mo t l nc c ns s ta tm r nf f a b K0 k li q pu _) (brP (fun h1 => by simp only [S.tE, S.tErr, h1]; rfl) fun h1 => by
    have h6 : (K0 : Int) ≤ 6 := by simpa using h1
    have he : S.tE e mo t l nc c ns s ta tm r nf f a b K0 (S.legV k li q pu) = _ := S.legs_tErr h6
    rw [he]
    exact ⟨FCall.cfg (C := cs hbs) (C' := cs12 hbs) rfl rfl (zbj hT hnc hns' hnf), brP (fun g1 => ⟨FCall.cfg (C := cs3 hbs) (C' := cs12 hbs) rfl rfl (z8s hT hT3 _ _ _ _), brP (fun g2 => ⟨zp6 hT hT3 hT12 ns K0 k li q pu (by omega) (by omega) hk, brP (fun g3 => by simp only [g1, g2, g3]; rfl) fun g3 => by simp only [g1, g2, g3]; rfl⟩) fun g2 => by simp only [g1, g2]; rfl⟩) fun g1 => by simp only [g1]; rfl⟩)
include hT12 in
end
end Go.Ab.B
namespace Go.Ab.S
section
variable {e mo t l : Int} {nc : Nat} {c : Rows} {ns : Nat} {s : Rows} {ta tm r : Int} {nf : Nat} {f : Rows} {a b : Int} {n : Nat} {g : Nat → Nat → PV}
theorem tE_ok (h : (tE e mo t l nc c ns s ta tm r nf f a b n g != 0) = false) : plane e mo t l nc c ns s ta tm r nf f = true ∧ tripB ns a b n g = true := zwt h
end
end Go.Ab.S
namespace Go.Ab.B
open Go.Proofs
section
variable {hbs : BsOk Tryz.prog} (hT : TabOk (cs hbs)) (hT3 : TabOk (cs3 hbs)) (hT4 : TabOk (cs4 hbs)) (hT7 : TabOk (cs7 hbs)) (hT9 : TabOk (cs9 hbs)) (hT10 : TabOk (cs10 hbs)) (hT11 : TabOk (cs11 hbs)) (hT12 : TabOk (cs12 hbs))
end
end Go.Ab.B
namespace Go.Ab.S
def eq3 (c d : Rows) (i : Nat) : Bool := (c i 0 == d i 0) && ((c i 1 == d i 1) && ((c i 2 == d i 2) && true))
def eq2 (c d : Rows) (i : Nat) : Bool := (c i 0 == d i 0) && ((c i 1 == d i 1) && true)
def smI (n : Nat) (c : Rows) (m : Nat) (d : Rows) : Bool := ((n : Int) == (m : Int)) && from_ (eq3 c d) n 0
def smS (n : Nat) (c : Rows) (m : Nat) (d : Rows) : Bool := ((n : Int) == (m : Int)) && from_ (eq2 c d) n 0
def smPt (f g : Nat → Nat → PV) (i : Nat) : Bool := smI (lN (f i 0)) (lR (f i 0)) (lN (g i 0)) (lR (g i 0)) && (((lI (f i 1) == lI (g i 1)) && ((lI (f i 2) == lI (g i 2)) && true)) && (smS (lN (f i 3)) (lR (f i 3)) (lN (g i 3)) (lR (g i 3)) && (lB (f i 4) == lB (g i 4))))
def smP (n : Nat) (f : Nat → Nat → PV) (m : Nat) (g : Nat → Nat → PV) : Bool := ((n : Int) == (m : Int)) && from_ (smPt f g) n 0
def tN (e mo t l : Int) (nc : Nat) (c : Rows) (ns : Nat) (s : Rows) (ta tm r : Int) (nf : Nat) (f : Rows) (a b : Int) (n : Nat) (g : Nat → Nat → PV) : Nat := match tE e mo t l nc c ns s ta tm r nf f a b n g != 0 with
  | true => 0
  | false => 2 * n
def rA (e mo t l : Int) (nc : Nat) (c : Rows) (ns : Nat) (s : Rows) (ta tm r : Int) (nf : Nat) (f : Rows) (a b : Int) (n : Nat) (g : Nat → Nat → PV) : Int := unA (from_ (sureH e mo t l nc c ns s ta tm r nf f (ptV a b nf g)) (2 * n) 0) (fst (sureH e mo t l nc c ns s ta tm r nf f (ptV a b nf g)) (2 * n) 0)
def rR (e mo t l : Int) (nc : Nat) (c : Rows) (ns : Nat) (s : Rows) (ta tm r : Int) (nf : Nat) (f : Rows) (a b : Int) (n : Nat) (g : Nat → Nat → PV) : Int := unX (from_ (sureH e mo t l nc c ns s ta tm r nf f (ptV a b nf g)) (2 * n) 0) (broR (ruH e mo t l nc c ns s ta tm r nf f (ptV a b nf g) (fst (sureH e mo t l nc c ns s ta tm r nf f (ptV a b nf g)) (2 * n) 0))) 1
def rI (e mo t l : Int) (nc : Nat) (c : Rows) (ns : Nat) (s : Rows) (ta tm r : Int) (nf : Nat) (f : Rows) (a b : Int) (n : Nat) (g : Nat → Nat → PV) : Int := unX (from_ (sureH e mo t l nc c ns s ta tm r nf f (ptV a b nf g)) (2 * n) 0) (broI (ruH e mo t l nc c ns s ta tm r nf f (ptV a b nf g) (fst (sureH e mo t l nc c ns s ta tm r nf f (ptV a b nf g)) (2 * n) 0))) 0
end Go.Ab.S
namespace Go.Ab.B
open Go.Proofs
def ze4 : List AV → Option (AV × Heap)
  | [.c (.p (.isl 3 n c)), .c (.p (.isl 3 m d))] => some (vB (S.smI n (S.num c) m (S.num d)), [])
  | _ => none
def ze5 : List AV → Option (AV × Heap)
  | [.c (.p (.isl 2 n c)), .c (.p (.isl 2 m d))] => some (vB (S.smS n (S.num c) m (S.num d)), [])
  | _ => none
def zd7 : List AV → Option (AV × Heap)
  | [.c (.p (.isl 5 n f)), .c (.p (.isl 5 m g))] => some (vB (S.smP n f m g), [])
  | _ => none
def zk4 : List AV → Option (AV × Heap)
  | [.ag [_, _, _, _, _, _, _, _, _, .p (.isl 2 nf _)], .ag [.p (.int .i64 a), .p (.int .i64 b)]] => some (.c (.p (.isl 2 nf (S.val (S.two a b)))), [])
  | _ => none
def zm9 : List AV → Option (AV × Heap)
  | [.ag [.p (.int .i64 e), .p (.int .i64 mo), .p (.int .i64 t), .p (.int .i64 l), .p (.isl 2 nc c), .p (.isl 2 ns s), .p (.int .i64 ta), .p (.int .i64 tm), .p (.int .i64 r), .p (.isl 2 nf f)], .ag [.p (.int .i64 a), .p (.int .i64 b)], .c (.p (.isl 7 n g))] =>
    some (.tp [.c (.p (.isl 5 (S.tN e mo t l nc (S.num c) ns (S.num s) ta tm r nf (S.num f) a b n g) (S.ptV a b nf g))), vI .i64 (S.tE e mo t l nc (S.num c) ns (S.num s) ta tm r nf (S.num f) a b n g)], [])
  | _ => none
def zog : List AV → Option (AV × Heap)
  | [.ag [.p (.int .i64 e), .p (.int .i64 mo), .p (.int .i64 t), .p (.int .i64 l), .p (.isl 2 nc c), .p (.isl 2 ns s), .p (.int .i64 ta), .p (.int .i64 tm), .p (.int .i64 r), .p (.isl 2 nf f)], .ag [.p (.int .i64 a), .p (.int .i64 b)], .c (.p (.isl 7 n g))] =>
    some (.tp [vI .i64 (S.rA e mo t l nc (S.num c) ns (S.num s) ta tm r nf (S.num f) a b n g), vI .i64 (S.rR e mo t l nc (S.num c) ns (S.num s) ta tm r nf (S.num f) a b n g), vI .i64 (S.rI e mo t l nc (S.num c) ns (S.num s) ta tm r nf (S.num f) a b n g)], [])
  | _ => none
def Sp13 (f : Nat) (l : List AV) : Option (AV × Heap) := bif Nat.beq f zgq then ze4 l else bif Nat.beq f zgr then ze5 l else bif Nat.beq f ze6 then zd7 l else bif Nat.beq f z1k then zk4 l else bif Nat.beq f z5y then z9g l else bif Nat.beq f zoh then zm9 l else bif Nat.beq f f_ref02_Trip then zog l else Sp12 f l
def zma (B : Bool) : Option LTree := some (.br B (.e (.exit 0) ⟨.lf, []⟩) (.e .ret ⟨setAll [((.i (.o .h)), vB false)], []⟩))
def z7e (s : St) : Option LTree :=
  match Tr.get .h s.t, Tr.get (.o .h) s.t with
  | .c (.p (.isl 2 n c)), .c (.p (.isl 2 _ d)) => zma (S.from_ (S.eq2 (S.num c) (S.num d)) n 0)
  | .c (.p (.isl 3 n c)), .c (.p (.isl 3 _ d)) => zma (S.from_ (S.eq3 (S.num c) (S.num d)) n 0)
  | .c (.p (.isl 5 n f)), .c (.p (.isl 5 _ g)) => zma (S.from_ (S.smPt f g) n 0)
  | _, _ => none
def zk5 (s : St) : Option LTree :=
  match s.h with
  | b0 :: b1 :: _ => match b0, b1 with
    | some (.box _ [_, _, _, _, _, _, _, _, _, .p (.isl 2 nf _)]), some (.box _ [.p (.int .i64 a), .p (.int .i64 b)]) => some (.e (.exit 0) ⟨setAll [(.o (.i .h), .c (.sl 2 0 nf))], [none, none, some (.arr 2 z6 nf (S.val (S.two a b)) [])]⟩)
    | _, _ => none
  | _ => none
def zk6 (s : St) : Option LTree :=
  match s.h, Tr.get (.i .h) s.t with
  | b0 :: _ :: b2 :: _, .c (.p (.isl 7 n g)) => match b0, b2 with
    | some (.box _ [_, _, _, _, _, _, _, _, _, .p (.isl 2 nf _)]), some (.box _ [.p (.int .i64 a), .p (.int .i64 b)]) => some (.e (.exit 0) ⟨setAll [(.o (.o (.o .h)), .c (.sl 4 0 (2 * n)))], [none, none, none, none, some (.arr 5 t_api_LoadPoint (2 * n) (S.ptV a b nf g) [])]⟩)
    | _, _ => none
  | _, _ => none
def zoi (s : St) : Option LTree :=
  match s.h, Tr.get (.o (.i (.o .h))) s.t with
  | b0 :: _, .c (.p (.isl 5 N h)) => match b0 with
    | some (.box _ [.p (.int .i64 e), .p (.int .i64 mo), .p (.int .i64 t), .p (.int .i64 l), .p (.isl 2 nc c), .p (.isl 2 ns st), .p (.int .i64 ta), .p (.int .i64 tm), .p (.int .i64 r), .p (.isl 2 nf f)]) =>
      some (.br (S.from_ (S.sureH e mo t l nc (S.num c) ns (S.num st) ta tm r nf (S.num f) h) N 0) (.e (.exit 0) ⟨.lf, []⟩)
        (.e .ret ⟨setAll [(.i (.i .h), vI .i64 (S.fst (S.sureH e mo t l nc (S.num c) ns (S.num st) ta tm r nf (S.num f) h) N 0)), (.o (.o (.o .h)), vI .i64 (S.broR (S.ruH e mo t l nc (S.num c) ns (S.num st) ta tm r nf (S.num f) h (S.fst (S.sureH e mo t l nc (S.num c) ns (S.num st) ta tm r nf (S.num f) h) N 0)))), (.i (.o (.o .h)), vI .i64 (S.broI (S.ruH e mo t l nc (S.num c) ns (S.num st) ta tm r nf (S.num f) h (S.fst (S.sureH e mo t l nc (S.num c) ns (S.num st) ta tm r nf (S.num f) h) N 0))))], []⟩))
    | _ => none
  | _, _ => none
def Lp13 (n0 : Nat) (a : MC) (s : St) : Option LTree := bif Nat.beq (keyM a 0) zaw then z7e s else bif Nat.beq (keyM a 0) zax then z7e s else bif Nat.beq (keyM a 0) za7 then z7e s else bif Nat.beq (keyM a 0) zd8 then zk5 s else bif Nat.beq (keyM a 0) zd9 then zk6 s else bif Nat.beq (keyM a 0) zgs then zoi s else Lp12 n0 a s
def cs13 {P : Program} (hbs : BsOk P) : Cfg := { cs12 hbs with Sp := Sp13, Lp := Lp13 }
section
variable {hbs : BsOk Tryz.prog}
theorem zli (fu i : Nat) (e mo t l : Int) (nc : Nat) (c : S.Rows) (ns : Nat) (s : S.Rows) (ta tm r : Int) (nf : Nat) (f : S.Rows) (a b : Int) (g : S.Rows) (Q : AX → St → Prop) :
 ((BrP (decide ((i : Int) < (nf : Int)))
 (CdP (.le i i)
 (CdP (.le i i)
 (CdP (.le ((i + 1) * 16) 140737488355328)
 (CdP (.i64 ((i : Int) + (1 : Int)))
 (Q .normal ⟨(L4 (L4 (L1 (vT 1 0)) (L1 (.c (.sl 3 0 (i + 1))))) (.nd (L1 .any) (vT 0 0) (L1 (vJ ((i : Int) + (1 : Int)))))), [(bP e mo t l nc c ns s ta tm r nf f), (some (.box z6 [(cJ a), (cJ b)])), (some (.arr 2 29 i (S.val g) [])), (some (.arr 2 29 (i + 1) (fun x19 => (fun x20 => (if (x19 < i) then (.int .i64 (g x19 x20)) else (List.getD [(.int .i64 a), (.int .i64 b)] (((x19 - i) * 2) + x20) .npt)))) [2]))]⟩)))))
 (Q (.exit 0) ⟨(L4 (L4 (L1 (vT 1 0)) (L1 (.c (.sl 2 0 i)))) (.nd (L1 .any) (vT 0 0) (L1 (vN i)))), [(bP e mo t l nc c ns s ta tm r nf f), (some (.box z6 [(cJ a), (cJ b)])), (some (.arr 2 29 i (S.val g) []))]⟩))) = (ex (cs13 hbs) (fu + 60) 0 z40 ⟨setAll [(.o (.o .h), .c (.pt 1 0)), (.o (.i .h), .c (.sl 2 0 i)), (.i .h, .c (.pt 0 0)), (.i (.i .h), .c (cJ i))], [PB e mo t l nc c ns s ta tm r nf f, some (.box z6 [.p (.int .i64 a), .p (.int .i64 b)]), some (.arr 2 z6 i (S.val g) [])]⟩ (fun e s => .pr (Q e (z19 [.i .h, .i (.i .h), .i (.o .h), .o (.i .h), .o (.o .h)] s)))).hold2 := by kernel_rfl
theorem zlj (e mo t l : Int) (nc : Nat) (c : S.Rows) (ns : Nat) (s : S.Rows) (ta tm r : Int) (nf : Nat) (f : S.Rows) (a b : Int) (Q : AV → Heap → Prop) :
 (((za (ex (cs13 hbs) 994) 0 z40 ⟨(.nd (.nd (L1 (vT 1 0)) (.ag [(cJ a), (cJ b)]) (L1 (.c (.p .nsl)))) (.ag (kP e mo t l nc c ns s ta tm r nf f)) (.nd (L1 (.c (.p .nsl))) (vT 0 0) (L1 (vJ 0)))), [(bP e mo t l nc c ns s ta tm r nf f), (some (.box z6 [(cJ a), (cJ b)]))]⟩ (.e (.exit 0) ⟨(L3 (L2 (L1 (.c (.sl 2 0 nf))))), [none, none, (some (.arr 2 29 nf (S.val (S.two a b)) []))]⟩)) ∧
 (Q (.c (.sl 2 0 nf)) [none, none, (some (.arr 2 29 nf (S.val (S.two a b)) []))]))) = (ex (cs13 hbs) 1000 0 zbg ⟨ofL 0 [.ag (plC e mo t l nc (S.val c) ns (S.val s) ta tm r nf (S.val f)), .ag [.p (.int .i64 a), .p (.int .i64 b)]] .lf, []⟩ (endK z4b.rs (fun r H => .pr (Q r H)) fun _ _ => .no)).hold2 := by kernel_rfl
theorem vs_ref02_Points (fu i I : Nat) (e mo t l : Int) (nc : Nat) (c : S.Rows) (ns : Nat) (s : S.Rows) (ta tm r : Int) (nf : Nat) (f : S.Rows) (x y u v : Int) (K0 : Nat) (k : Nat → Nat) (li : Nat → S.Rows) (q : S.Rows) (pu : Nat → Bool) (G : Nat → Nat → PV) (Q : AX → St → Prop) :
 ((fun (A0 : Tr) => ((fun (A1 : Option Blk) => ((fun (A2 : AV) => ((fun (A3 : Option Blk) => ((fun (A4 : Option Blk) => ((fun (A5 : List CV) => ((fun (A6 : Option Blk) => ((BrP (decide ((i : Int) < (K0 : Int)))
 (CdP (.rng (i : Int) K0)
 (BrP (pu i)
 (CdP (.i64 (x + (q i 0)))
 (CdP (.i64 (y + (q i 0)))
 ((FCall (cs13 hbs) z1k [A2, (.ag [(cJ 0), (cJ 0)])] (.c (.p (.isl 2 nf (S.val (S.two (0 : Int) (0 : Int)))))) []) ∧
 (CdP (.le I I)
 (CdP (.le I I)
 (CdP (.le ((I + 1) * 72) 140737488355328)
 (CdP (.i64 ((x + (q i 0)) - (q i 2)))
 (CdP (.i64 ((y + (q i 0)) - (q i 1)))
 (CdP (.i64 ((0 : Int) + (q i 3)))
 (CdP (.i64 ((0 : Int) + (q i 4)))
 ((FCall (cs13 hbs) z1k [A2, (.ag A5)] (.c (.p (.isl 2 nf (S.val (S.two ((0 : Int) + (q i 3)) ((0 : Int) + (q i 4))))))) []) ∧
 (CdP (.le (I + 1) (I + 1))
 (CdP (.le (I + 1) (I + 1))
 (CdP (.le (((I + 1) + 1) * 72) 140737488355328)
 (CdP (.i64 ((i : Int) + (1 : Int)))
 (Q .normal ⟨A0, [A4, none, A3, (some (.box z6 A5)), A6, A1, (some (.arr 5 64 (I + 1) (fun x27 => (fun x28 => (if (x27 < I) then (G x27 x28) else (List.getD [(.isl 3 (k i) (S.val (li i))), (.int .i64 (x + (q i 0))), (.int .i64 (y + (q i 0))), (.isl 2 nf (S.val (S.two (0 : Int) (0 : Int)))), (.bool false)] (((x27 - I) * 5) + x28) .npt)))) [4])), (some (.arr 5 64 ((I + 1) + 1) (fun x27 => (fun x28 => (if (x27 < (I + 1)) then (if (x27 < I) then (G x27 x28) else (List.getD [(.isl 3 (k i) (S.val (li i))), (.int .i64 (x + (q i 0))), (.int .i64 (y + (q i 0))), (.isl 2 nf (S.val (S.two (0 : Int) (0 : Int)))), (.bool false)] (((x27 - I) * 5) + x28) .npt)) else (List.getD [(.isl 3 (k i) (S.val (li i))), (.int .i64 ((x + (q i 0)) - (q i 2))), (.int .i64 ((y + (q i 0)) - (q i 1))), (.isl 2 nf (S.val (S.two ((0 : Int) + (q i 3)) ((0 : Int) + (q i 4))))), (.bool true)] (((x27 - (I + 1)) * 5) + x28) .npt)))) [6, 4]))]⟩))))))))))))))))
 (CdP (.i64 (x + (q i 0)))
 (CdP (.i64 (y + (q i 0)))
 ((FCall (cs13 hbs) z1k [A2, (.ag [(cJ u), (cJ v)])] (.c (.p (.isl 2 nf (S.val (S.two u v))))) []) ∧
 (CdP (.le I I)
 (CdP (.le I I)
 (CdP (.le ((I + 1) * 72) 140737488355328)
 (CdP (.i64 ((x + (q i 0)) - (q i 2)))
 (CdP (.i64 ((y + (q i 0)) - (q i 1)))
 (CdP (.i64 (u + (q i 3)))
 (CdP (.i64 (v + (q i 4)))
 ((FCall (cs13 hbs) z1k [A2, (.ag [(cJ (u + (q i 3))), (cJ (v + (q i 4)))])] (.c (.p (.isl 2 nf (S.val (S.two (u + (q i 3)) (v + (q i 4))))))) []) ∧
 (CdP (.le (I + 1) (I + 1))
 (CdP (.le (I + 1) (I + 1))
 (CdP (.le (((I + 1) + 1) * 72) 140737488355328)
 (CdP (.i64 ((i : Int) + (1 : Int)))
 (Q .normal ⟨A0, [A4, none, A3, (some (.box z6 [(cJ (u + (q i 3))), (cJ (v + (q i 4)))])), A6, A1, (some (.arr 5 64 (I + 1) (fun x27 => (fun x28 => (if (x27 < I) then (G x27 x28) else (List.getD [(.isl 3 (k i) (S.val (li i))), (.int .i64 (x + (q i 0))), (.int .i64 (y + (q i 0))), (.isl 2 nf (S.val (S.two u v))), (.bool false)] (((x27 - I) * 5) + x28) .npt)))) [4])), (some (.arr 5 64 ((I + 1) + 1) (fun x27 => (fun x28 => (if (x27 < (I + 1)) then (if (x27 < I) then (G x27 x28) else (List.getD [(.isl 3 (k i) (S.val (li i))), (.int .i64 (x + (q i 0))), (.int .i64 (y + (q i 0))), (.isl 2 nf (S.val (S.two u v))), (.bool false)] (((x27 - I) * 5) + x28) .npt)) else (List.getD [(.isl 3 (k i) (S.val (li i))), (.int .i64 ((x + (q i 0)) - (q i 2))), (.int .i64 ((y + (q i 0)) - (q i 1))), (.isl 2 nf (S.val (S.two (u + (q i 3)) (v + (q i 4))))), (.bool true)] (((x27 - (I + 1)) * 5) + x28) .npt)))) [6, 4]))]⟩))))))))))))))))))
 (Q (.exit 0) ⟨(L4 (L4 (L6 (L1 (.c (.sl 4 0 I))) (vT 0 0)) (L3 (L1 (vT 3 0)))) (.nd (L3 (L1 (vT 2 0))) (.c (.p (.isl 7 K0 (S.legV k li q pu)))) (L3 (L1 (vN i))))), [A4, none, (some (.box z6 [(cJ x), (cJ y)])), (some (.box z6 [(cJ u), (cJ v)])), A6]⟩)))) (some (.arr 5 64 I G [])))) [(cJ ((0 : Int) + (q i 3))), (cJ ((0 : Int) + (q i 4)))])) (bP e mo t l nc c ns s ta tm r nf f))) (some (.box z6 [(cJ ((x + (q i 0)) - (q i 2))), (cJ ((y + (q i 0)) - (q i 1)))])))) (.ag (kP e mo t l nc c ns s ta tm r nf f)))) (some (.box z6p [(.p (.isl 3 (k i) (S.val (li i)))), (.p (.bool (pu i))), (cJ (q i 0)), (cJ (q i 1)), (cJ (q i 2)), (cJ (q i 3)), (cJ (q i 4))])))) (L4 (L4 (L6 (L1 (.c (.sl 7 0 ((I + 1) + 1)))) (vT 0 0)) (L3 (L1 (vT 3 0)))) (.nd (L3 (L1 (vT 2 0))) (.c (.p (.isl 7 K0 (S.legV k li q pu)))) (L3 (L1 (vJ ((i : Int) + (1 : Int)))))))) = (ex (cs13 hbs) (fu + 60) 0 z3z ⟨setAll [(.o (.o .h), .c (.pt 0 0)), (.o (.o (.o .h)), .c (.sl 4 0 I)), (.o (.i (.o .h)), .c (.pt 3 0)), (.i .h, .c (.p (.isl 7 K0 (S.legV k li q pu)))), (.i (.o (.o .h)), .c (.pt 2 0)), (.i (.i (.o .h)), .c (cJ i))], [PB e mo t l nc c ns s ta tm r nf f, none, some (.box z6 [.p (.int .i64 x), .p (.int .i64 y)]), some (.box z6 [.p (.int .i64 u), .p (.int .i64 v)]), some (.arr 5 t_api_LoadPoint I G [])]⟩ (fun e s => .pr (Q e (z19 [.i .h, .i (.i .h), .o (.o .h), .i (.i (.o .h)), .i (.o (.o .h)), .o (.i (.o .h)), .o (.o (.o .h))] s)))).hold2 := by kernel_rfl
theorem zlk (e mo t l : Int) (nc : Nat) (c : S.Rows) (ns : Nat) (s : S.Rows) (ta tm r : Int) (nf : Nat) (f : S.Rows) (a b : Int) (K0 : Nat) (k : Nat → Nat) (li : Nat → S.Rows) (q : S.Rows) (pu : Nat → Bool) (Q : AV → Heap → Prop) :
 ((fun (A0 : Heap) => (((za (ex (cs13 hbs) 993) 0 z3z ⟨(.nd (.nd (L6 (L1 (.c (.p .nsl))) (vT 0 0)) (.ag [(cJ a), (cJ b)]) (L4 (L1 (vT 3 0)) (L1 (.ag [(cJ 0), (cJ 0)])))) (.ag (kP e mo t l nc c ns s ta tm r nf f)) (.nd (.nd (L1 (vT 2 0)) (vT 1 0) (L1 (.ag [(cJ a), (cJ b)]))) (.c (.p (.isl 7 K0 (S.legV k li q pu)))) (L6 (L1 (vJ 0)) (.c (.p .nsl))))), [(bP e mo t l nc c ns s ta tm r nf f), (some (.box z6 [(cJ a), (cJ b)])), (some (.box z6 [(cJ a), (cJ b)])), (some (.box z6 [(cJ 0), (cJ 0)]))]⟩ (.e (.exit 0) ⟨(L3 (L3 (L3 (L1 (.c (.sl 4 0 (2 * K0))))))), A0⟩)) ∧
 (Q (.c (.sl 4 0 (2 * K0))) A0)))) [none, none, none, none, (some (.arr 5 64 (2 * K0) (S.ptV a b nf (S.legV k li q pu)) []))]) = (ex (cs13 hbs) 1000 0 zbf ⟨ofL 0 [.ag (plC e mo t l nc (S.val c) ns (S.val s) ta tm r nf (S.val f)), .ag [.p (.int .i64 a), .p (.int .i64 b)], .c (.p (.isl 7 K0 (S.legV k li q pu)))] .lf, []⟩ (endK z4a.rs (fun r H => .pr (Q r H)) fun _ _ => .no)).hold2 := by kernel_rfl
theorem vs_ref02_Trip (fu i : Nat) (e mo t l : Int) (nc : Nat) (c : S.Rows) (ns : Nat) (s : S.Rows) (ta tm r : Int) (nf : Nat) (f : S.Rows) (N : Nat) (kn : Nat → Nat) (ki : Nat → S.Rows) (pl ph : Nat → Int) (m : Nat) (kw : Nat → S.Rows) (kl : Nat → Bool) (Q : AX → St → Prop) :
 ((fun (A0 : List CV) => ((fun (A1 : Tr) => ((fun (A2 : AV) => ((fun (A3 : AV) => ((fun (A4 : Heap) => ((BrP (decide ((i : Int) < (N : Int)))
 (CdP (.rng (i : Int) N)
 ((FCall (cs13 hbs) z43 [(.ag (kP e mo t l nc c ns s ta tm r nf f)), (.ag [(.p (.isl 3 (kn i) (S.val (ki i)))), (cJ (pl i)), (cJ (ph i)), (.p (.isl 2 m (S.val (kw i)))), (.p (.bool (kl i)))])] (.tp [A2, A3, (.ag A0)]) []) ∧
 (BrP ((S.srR e mo t l nc c ns s ta tm r nf f (kn i) (ki i) (pl i) (ph i) m (kw i) (kl i)) != (1 : Int))
 (Q .ret ⟨(L4 (L4 (L6 (L1 A2) (vT 0 0)) A1) (L4 (L3 (L1 A3)) (L6 (L1 (vN i)) (vN i)))), A4⟩)
 (CdP (.i64 ((i : Int) + (1 : Int)))
 (Q .normal ⟨(L4 (L4 (L6 (L1 .any) (vT 0 0)) A1) (L4 (L3 (L1 .any)) (L3 (L1 (vJ ((i : Int) + (1 : Int))))))), A4⟩)))))
 (Q (.exit 0) ⟨(L4 (L4 (L6 (L1 .any) (vT 0 0)) A1) (L4 (L3 (L1 .any)) (L3 (L1 (vN i))))), [(bP e mo t l nc c ns s ta tm r nf f)]⟩)))) [(bP e mo t l nc c ns s ta tm r nf f), (some (.box t_api_LoadCase A0))])) (vJ (S.p2 e mo t l nc c ns s ta tm r nf f (kn i) (ki i) (pl i) (ph i) m (kw i) (kl i))))) (vJ (S.srR e mo t l nc c ns s ta tm r nf f (kn i) (ki i) (pl i) (ph i) m (kw i) (kl i))))) (L3 (L1 (.c (.p (.isl 5 N (S.ptG kn ki pl ph m kw kl)))))))) [(.p (.isl 1 (S.p3 e mo t l nc c ns s ta tm r nf f (kn i) (ki i) (pl i) (ph i) m (kw i) (kl i)) (S.val (S.p4 e mo t l nc c ns s ta tm r nf f (kn i) (ki i) (pl i) (ph i) m (kw i) (kl i))))), (cJ (S.p5 e mo t l nc c ns s ta tm r nf f (kn i) (ki i) (pl i) (ph i) m (kw i) (kl i))), (.p (.isl 1 (S.p6 e mo t l nc c ns s ta tm r nf f (kn i) (ki i) (pl i) (ph i) m (kw i) (kl i)) (S.val (S.p7 e mo t l nc c ns s ta tm r nf f (kn i) (ki i) (pl i) (ph i) m (kw i) (kl i)))))]) = (ex (cs13 hbs) (fu + 60) 0 z58 ⟨setAll [(.o (.o .h), .c (.pt 0 0)), (.o (.i (.o .h)), .c (.p (.isl 5 N (S.ptG kn ki pl ph m kw kl)))), (.i (.i (.o .h)), .c (cJ i))], [PB e mo t l nc c ns s ta tm r nf f]⟩ (fun e s => .pr (Q e (z19 [.i (.i .h), .o (.o .h), .i (.i (.o .h)), .i (.o (.o .h)), .o (.i (.o .h)), .o (.o (.o .h))] s)))).hold2 := by kernel_rfl
theorem zol (e mo t l : Int) (nc : Nat) (c : S.Rows) (ns : Nat) (s : S.Rows) (ta tm r : Int) (nf : Nat) (f : S.Rows) (a b : Int) (K0 : Nat) (k : Nat → Nat) (li : Nat → S.Rows) (q : S.Rows) (pu : Nat → Bool) (Q : AV → Heap → Prop) :
 ((fun (A0 : AV) => ((fun (A1 : AV) => ((fun (A2 : AV) => ((fun (A3 : AV) => ((fun (A4 : AV) => ((fun (A5 : AV) => (((FCall (cs13 hbs) z5y [A4, (.ag [(cJ a), (cJ b)]), A5] A2 []) ∧
 ((za (ex (cs13 hbs) 994) 0 z58 ⟨(.nd (.nd (L6 (L6 (L1 (.ag [(cJ a), (cJ b)])) (vJ 0)) (vT 0 0)) (.ag [(cJ a), (cJ b)]) (L3 (L6 (L1 A2) A2))) A4 (.nd (L6 (L6 (L1 A5) (vJ 0)) (vT 1 0)) A5 (.nd (L1 (vJ 0)) (vJ 0) (L1 A4)))), [(bP e mo t l nc c ns s ta tm r nf f), (some (.box z6 [(cJ a), (cJ b)]))]⟩ (.br (S.from_ (S.sureH e mo t l nc c ns s ta tm r nf f (S.ptV a b nf (S.legV k li q pu))) (2 * K0) 0) (.e (.exit 0) ⟨.lf, []⟩) (.e .ret ⟨(L4 (L3 (L3 (L1 A0))) (L4 (L3 (L1 A1)) (L1 A3))), []⟩))) ∧
 (BrP (S.from_ (S.sureH e mo t l nc c ns s ta tm r nf f (S.ptV a b nf (S.legV k li q pu))) (2 * K0) 0)
 (Q (.tp [(vJ (-(1 : Int))), (vJ 1), (vJ 0)]) [])
 (Q (.tp [A3, A0, A1]) [])))))) (.c (.p (.isl 7 K0 (S.legV k li q pu)))))) (.ag (kP e mo t l nc c ns s ta tm r nf f)))) (vJ (((S.fst (S.sureH e mo t l nc c ns s ta tm r nf f (S.ptV a b nf (S.legV k li q pu))) (2 * K0) 0) : Nat) : Int)))) (.c (.p (.isl 5 (2 * K0) (S.ptV a b nf (S.legV k li q pu))))))) (vJ (S.broI (S.ruH e mo t l nc c ns s ta tm r nf f (S.ptV a b nf (S.legV k li q pu)) (S.fst (S.sureH e mo t l nc c ns s ta tm r nf f (S.ptV a b nf (S.legV k li q pu))) (2 * K0) 0)))))) (vJ (S.broR (S.ruH e mo t l nc c ns s ta tm r nf f (S.ptV a b nf (S.legV k li q pu)) (S.fst (S.sureH e mo t l nc c ns s ta tm r nf f (S.ptV a b nf (S.legV k li q pu))) (2 * K0) 0))))) = (ex (cs13 hbs) 1000 0 zem ⟨ofL 0 [.ag (plC e mo t l nc (S.val c) ns (S.val s) ta tm r nf (S.val f)), .ag [.p (.int .i64 a), .p (.int .i64 b)], .c (.p (.isl 7 K0 (S.legV k li q pu)))] .lf, []⟩ (endK z5f.rs (fun r H => .pr (Q r H)) fun _ _ => .no)).hold2 := by kernel_rfl
end
end Go.Ab.B
namespace Go.Ab.S
theorem two_val {g : Rows} {a b : Int} {j w z : Nat} (hw : w < j + 1) (hz : z < 2) : (if w < j then PV.int .i64 (two a b w z) else List.getD [.int .i64 a, .int .i64 b] ((w - j) * 2 + z) .npt) = val (two a b) w z := by
  split
  · rfl
  · obtain rfl : w = j := by omega
    rw [Nat.sub_self]
    match z, hz with
    | 0, _ => rfl
    | 1, _ => rfl
theorem es (a b : Int) : a - b = a + (0 - b) := by omega
end Go.Ab.S
namespace Go.Ab.B
open Go.Proofs
section
variable {hbs : BsOk Tryz.prog} (hT : TabOk (cs hbs)) (hT3 : TabOk (cs3 hbs)) (hT4 : TabOk (cs4 hbs)) (hT6 : TabOk (cs6 hbs)) (hT7 : TabOk (cs7 hbs)) (hT9 : TabOk (cs9 hbs)) (hT10 : TabOk (cs10 hbs)) (hT11 : TabOk (cs11 hbs)) (hT12 : TabOk (cs12 hbs)) (hT13 : TabOk (cs13 hbs))
abbrev hpWa (e mo t l : Int) (nc : Nat) (c : S.Rows) (ns : Nat) (s : S.Rows) (ta tm r : Int) (nf : Nat) (f : S.Rows) (a b : Int) (i : Nat) : Heap := [PB e mo t l nc c ns s ta tm r nf f, some (.box z6 [.p (.int .i64 a), .p (.int .i64 b)]), some (.arr 2 z6 i (S.val (S.two a b)) [])]
abbrev lvWa (i : Nat) : List (Ps × AV) := [(.o (.o .h), .c (.pt 1 0)), (.o (.i .h), .c (.sl 2 0 i)), (.i .h, .c (.pt 0 0)), (.i (.i .h), .c (.p (.int .i64 i)))]
theorem zln (fu : Nat) (e mo t l : Int) (nc : Nat) (c : S.Rows) (ns : Nat) (s : S.Rows) (ta tm r : Int) (nf : Nat) (f : S.Rows) (a b : Int) (hnf : nf ≤ 1000) : ∀ (i : Nat) (st : St), i ≤ nf → (∃ ρ, HasR 0 ρ st (lvWa i) (hpWa e mo t l nc c ns s ta tm r nf f a b i)) → za (ex (cs13 hbs) (fu + 60)) 0 z40 st (.e (.exit 0) ⟨setAll [(.o (.i .h), .c (.sl 2 0 nf))], [none, none, some (.arr 2 z6 nf (S.val (S.two a b)) [])]⟩) :=
  loop_kT (σ := Nat) lvWa (hpWa e mo t l nc c ns s ta tm r nf f a b) (fun i => i ≤ nf) (fun i => nf - i) (fun _ => .e (.exit 0) ⟨setAll [(.o (.i .h), .c (.sl 2 0 nf))], [none, none, some (.arr 2 z6 nf (S.val (S.two a b)) [])]⟩) _ (fun i Q => zli (hbs := hbs) fu i e mo t l nc c ns s ta tm r nf f a b (S.two a b) Q) fun i hi' K hL X hX => by
    refine brP (fun h1 => ?_) fun h1 => ?_
    · have hlt : i < nf := by simpa using h1
      refine cdP (Nat.le_refl _) (cdP (Nat.le_refl _) (cdP (by simp [Cd.holds]; omega) (cdP (by simp [Cd.holds]; omega) ?_)))
      refine hX (i + 1) _ (by omega) (by omega) ⟨[some 0, some 1, some 3], HasR.mk _ rfl rfl ?_ ?_⟩ hL
      · refine ⟨⟨rfl, ?_⟩, ⟨rfl, .inl rfl, .inl rfl, trivial⟩, ⟨rfl, rfl, rfl, fun w z hw hz => S.two_val (g := S.two a b) hw hz, rfl⟩, trivial⟩
        simp [WL, WC, WP', plC]
      · simp [zc, WA, WC, WP', Tr.get]
    · have hlt : nf ≤ i := by simpa using h1
      obtain rfl : i = nf := by omega
      refine HasR.out (l := [(.o (.i .h), .c (.sl 2 0 i))]) (HasR.mk (ρ := [none, none, some 2]) rfl rfl ?_ ?_) hL
      · exact ⟨trivial, trivial, ⟨rfl, rfl, rfl, fun _ _ _ _ => rfl, rfl⟩, trivial⟩
      · simp [zc, WA, WC, WP', Tr.get]
include hT13 in
theorem zlo (e mo t l : Int) (nc : Nat) (c : S.Rows) (ns : Nat) (s : S.Rows) (ta tm r : Int) (nf : Nat) (f : S.Rows) (a b : Int) (hnf : nf ≤ 1000) : FCall (cs13 hbs) z1k [.ag (plC e mo t l nc (S.val c) ns (S.val s) ta tm r nf (S.val f)), .ag [.p (.int .i64 a), .p (.int .i64 b)]] (.c (.p (.isl 2 nf (S.val (S.two a b))))) [] := by
  have F : FCall (cs13 hbs) z1k [.ag (plC e mo t l nc (S.val c) ns (S.val s) ta tm r nf (S.val f)), .ag [.p (.int .i64 a), .p (.int .i64 b)]] (.c (.p (.isl 2 nf fun i j => S.val (S.two a b) (0 + i) j))) [] :=
    fcall_k hT13 (F := z4b) rfl (zlj e mo t l nc c ns s ta tm r nf f a b _) ⟨zln 934 e mo t l nc c ns s ta tm r nf f a b hnf 0 _ (Nat.zero_le _) ⟨[some 0, some 1, none], HasR.mk _ rfl rfl ?_ ?_⟩, rfl⟩
  · refine FCall.mono_r F fun w Z φ u hr => ?_
    simp only [RepA, RepC] at hr ⊢
    exact z5g (fun i j _ _ => by rw [Nat.zero_add]) hr
  · refine ⟨⟨rfl, ?_⟩, ⟨rfl, .inl rfl, .inl rfl, trivial⟩, rfl, trivial⟩
    simp [WL, WC, WP', plC]
  · simp [zc, WA, WC, WP', Tr.get]
abbrev lvPt (K0 : Nat) (k : Nat → Nat) (li : Nat → S.Rows) (q : S.Rows) (pu : Nat → Bool) (i : Nat) : List (Ps × AV) := [(.o (.o .h), .c (.pt 0 0)), (.o (.o (.o .h)), .c (.sl 4 0 (2 * i))), (.o (.i (.o .h)), .c (.pt 3 0)), (.i .h, .c (.p (.isl 7 K0 (S.legV k li q pu)))), (.i (.o (.o .h)), .c (.pt 2 0)), (.i (.i (.o .h)), .c (.p (.int .i64 i)))]
abbrev hpPt (e mo t l : Int) (nc : Nat) (c : S.Rows) (ns : Nat) (s : S.Rows) (ta tm r : Int) (nf : Nat) (f : S.Rows) (a b : Int) (g : Nat → Nat → PV) (i : Nat) : Heap := [PB e mo t l nc c ns s ta tm r nf f, none, some (.box z6 [.p (.int .i64 (S.tkL a g i)), .p (.int .i64 (S.tkH b g i))]), some (.box z6 [.p (.int .i64 (S.wtL g i)), .p (.int .i64 (S.wtH g i))]), some (.arr 5 t_api_LoadPoint (2 * i) (S.ptV a b nf g) [])]
abbrev trPt (a b : Int) (nf K0 : Nat) (g : Nat → Nat → PV) : LTree := .e (.exit 0) ⟨setAll [(.o (.o (.o .h)), .c (.sl 4 0 (2 * K0)))], [none, none, none, none, some (.arr 5 t_api_LoadPoint (2 * K0) (S.ptV a b nf g) [])]⟩
include hT13 in
theorem go_ref02_Points (fu : Nat) (e mo t l : Int) (nc : Nat) (c : S.Rows) (ns : Nat) (s : S.Rows) (ta tm r : Int) (nf : Nat) (f : S.Rows) (a b : Int) (K0 : Nat) (k : Nat → Nat) (li : Nat → S.Rows) (q : S.Rows) (pu : Nat → Bool) (hnf : nf ≤ 2) (hK : K0 ≤ 1000) (ha : -1000000 ≤ a ∧ a ≤ 1000000) (hb : -1000000 ≤ b ∧ b ≤ 1000000) (hq : ∀ i j, i < K0 → -1000000 ≤ S.lI ((S.legV k li q pu) i j) ∧ S.lI ((S.legV k li q pu) i j) ≤ 1000000) :
    ∀ (i : Nat) (st : St), i ≤ K0 → (∃ ρ, HasR 0 ρ st (lvPt K0 k li q pu i) (hpPt e mo t l nc c ns s ta tm r nf f a b (S.legV k li q pu) i)) → za (ex (cs13 hbs) (fu + 60)) 0 z3z st (trPt a b nf K0 (S.legV k li q pu)) :=
  loop_kT (σ := Nat) (lvPt K0 k li q pu) (hpPt e mo t l nc c ns s ta tm r nf f a b (S.legV k li q pu)) (fun i => i ≤ K0) (fun i => K0 - i) (fun _ => trPt a b nf K0 (S.legV k li q pu)) _ (fun i Q => vs_ref02_Points (hbs := hbs) fu i (2 * i) e mo t l nc c ns s ta tm r nf f (S.tkL a (S.legV k li q pu) i) (S.tkH b (S.legV k li q pu) i) (S.wtL (S.legV k li q pu) i) (S.wtH (S.legV k li q pu) i) K0 k li q pu (S.ptV a b nf (S.legV k li q pu)) Q) fun i hi' K hL X hX => by
      refine brP (fun h1 => ?_) fun h1 => ?_
      · have hlt : i < K0 := by simpa using h1
        have ht := S.tk_in ha hb hq i hi'
        have q0 : -1000000 ≤ q i 0 ∧ q i 0 ≤ 1000000 := hq i 2 hlt
        have q1 : -1000000 ≤ q i 1 ∧ q i 1 ≤ 1000000 := hq i 3 hlt
        have q2 : -1000000 ≤ q i 2 ∧ q i 2 ≤ 1000000 := hq i 4 hlt
        have q3 : -1000000 ≤ q i 3 ∧ q i 3 ≤ 1000000 := hq i 5 hlt
        have q4 : -1000000 ≤ q i 4 ∧ q i 4 ≤ 1000000 := hq i 6 hlt
        have wa : ∀ (x y : Int), FCall (cs13 hbs) z1k [.ag (plC e mo t l nc (S.val c) ns (S.val s) ta tm r nf (S.val f)), .ag [.p (.int .i64 x), .p (.int .i64 y)]] (.c (.p (.isl 2 nf (S.val (S.two x y))))) [] := fun x y => zlo hT13 e mo t l nc c ns s ta tm r nf f x y (by omega)
        have e5 : S.tkL a (S.legV k li q pu) (i + 1) = S.tkL a (S.legV k li q pu) i + q i 0 - q i 2 := (S.es _ _).symm
        have e6 : S.tkH b (S.legV k li q pu) (i + 1) = S.tkH b (S.legV k li q pu) i + q i 0 - q i 1 := (S.es _ _).symm
        refine cdP (ze hlt) (brP (fun hp => ?_) fun hp => ?_)
        · refine cdP (zk (by omega) (by omega)) (cdP (zk (by omega) (by omega)) ⟨wa _ _, cdP (Nat.le_refl _) (cdP (Nat.le_refl _) (cdP (by simp [Cd.holds]; omega) (cdP (zk (by omega) (by omega)) (cdP (zk (by omega) (by omega)) (cdP (zk (by omega) (by omega)) (cdP (zk (by omega) (by omega)) ⟨wa _ _, cdP (Nat.le_refl _) (cdP (Nat.le_refl _) (cdP (by simp [Cd.holds]; omega) (cdP (by simp [Cd.holds]; omega) ?_)))⟩))))))⟩)
          refine hX (i + 1) _ (by omega) (by omega) ⟨[some 0, none, some 2, some 3, some 7], HasR.mk _ rfl rfl ?_ ?_⟩ hL
          · have hst := S.pts_step (a := a) (b := b) (nf := nf) (k := k) (li := li) (q := q) (pu := pu) (i := i) (w0 := 0) (w1 := 0) (by rw [hp]; rfl) (by rw [hp]; rfl)
            have e1 : S.wtL (S.legV k li q pu) (i + 1) = 0 + q i 3 := by show S.pmp (pu i) _ + q i 3 = _; rw [hp]; rfl
            have e2 : S.wtH (S.legV k li q pu) (i + 1) = 0 + q i 4 := by show S.pmp (pu i) _ + q i 4 = _; rw [hp]; rfl
            refine ⟨⟨rfl, ?_⟩, trivial, ⟨rfl, ?_⟩, ⟨rfl, ?_⟩, ⟨rfl, rfl, rfl, fun j x hj _ => ?_, rfl⟩, trivial⟩
            · simp [WL, WC, WP', plC]
            · rw [e5, e6]; exact ⟨.inl rfl, .inl rfl, trivial⟩
            · rw [e1, e2]; exact ⟨.inl rfl, .inl rfl, trivial⟩
            · rw [S.es (S.tkL a (S.legV k li q pu) i + q i 0) (q i 2), S.es (S.tkH b (S.legV k li q pu) i + q i 0) (q i 1)]; exact hst j x hj
          · simp [zc, WA, WC, WP', Tr.get]; omega
        · refine cdP (zk (by omega) (by omega)) (cdP (zk (by omega) (by omega)) ⟨wa _ _, cdP (Nat.le_refl _) (cdP (Nat.le_refl _) (cdP (by simp [Cd.holds]; omega) (cdP (zk (by omega) (by omega)) (cdP (zk (by omega) (by omega)) (cdP (zk (by omega) (by omega)) (cdP (zk (by omega) (by omega)) ⟨wa _ _, cdP (Nat.le_refl _) (cdP (Nat.le_refl _) (cdP (by simp [Cd.holds]; omega) (cdP (by simp [Cd.holds]; omega) ?_)))⟩))))))⟩)
          refine hX (i + 1) _ (by omega) (by omega) ⟨[some 0, none, some 2, some 3, some 7], HasR.mk _ rfl rfl ?_ ?_⟩ hL
          · have hst := S.pts_step (a := a) (b := b) (nf := nf) (k := k) (li := li) (q := q) (pu := pu) (i := i) (w0 := S.wtL (S.legV k li q pu) i) (w1 := S.wtH (S.legV k li q pu) i) (by rw [hp]; rfl) (by rw [hp]; rfl)
            have e1 : S.wtL (S.legV k li q pu) (i + 1) = S.wtL (S.legV k li q pu) i + q i 3 := by show S.pmp (pu i) _ + q i 3 = _; rw [hp]; rfl
            have e2 : S.wtH (S.legV k li q pu) (i + 1) = S.wtH (S.legV k li q pu) i + q i 4 := by show S.pmp (pu i) _ + q i 4 = _; rw [hp]; rfl
            refine ⟨⟨rfl, ?_⟩, trivial, ⟨rfl, ?_⟩, ⟨rfl, ?_⟩, ⟨rfl, rfl, rfl, fun j x hj _ => ?_, rfl⟩, trivial⟩
            · simp [WL, WC, WP', plC]
            · rw [e5, e6]; exact ⟨.inl rfl, .inl rfl, trivial⟩
            · rw [e1, e2]; exact ⟨.inl rfl, .inl rfl, trivial⟩
            · rw [S.es (S.tkL a (S.legV k li q pu) i + q i 0) (q i 2), S.es (S.tkH b (S.legV k li q pu) i + q i 0) (q i 1)]; exact hst j x hj
          · simp [zc, WA, WC, WP', Tr.get]; omega
      · have hlt : K0 ≤ i := by simpa using h1
        obtain rfl : i = K0 := by omega
        refine HasR.out (l := [(.o (.o (.o .h)), .c (.sl 4 0 (2 * i)))]) (HasR.mk (ρ := [none, none, none, none, some 4]) rfl rfl ?_ ?_) hL
        · exact ⟨trivial, trivial, trivial, trivial, ⟨rfl, rfl, rfl, fun _ _ _ _ => rfl, rfl⟩, trivial⟩
        · simp [zc, WA, WC, WP', Tr.get]
include hT13 in
theorem fc_ref02_Points (e mo t l : Int) (nc : Nat) (c : S.Rows) (ns : Nat) (s : S.Rows) (ta tm r : Int) (nf : Nat) (f : S.Rows) (a b : Int) (K0 : Nat) (k : Nat → Nat) (li : Nat → S.Rows) (q : S.Rows) (pu : Nat → Bool) (hnf : nf ≤ 2) (hK : K0 ≤ 1000) (ha : -1000000 ≤ a ∧ a ≤ 1000000) (hb : -1000000 ≤ b ∧ b ≤ 1000000) (hq : ∀ i j, i < K0 → -1000000 ≤ S.lI ((S.legV k li q pu) i j) ∧ S.lI ((S.legV k li q pu) i j) ≤ 1000000) :
    FCall (cs13 hbs) z5y [.ag (plC e mo t l nc (S.val c) ns (S.val s) ta tm r nf (S.val f)), .ag [.p (.int .i64 a), .p (.int .i64 b)], .c (.p (.isl 7 K0 (S.legV k li q pu)))] (.c (.p (.isl 5 (2 * K0) (S.ptV a b nf (S.legV k li q pu))))) [] := by
  have F : FCall (cs13 hbs) z5y [.ag (plC e mo t l nc (S.val c) ns (S.val s) ta tm r nf (S.val f)), .ag [.p (.int .i64 a), .p (.int .i64 b)], .c (.p (.isl 7 K0 (S.legV k li q pu)))] (.c (.p (.isl 5 (2 * K0) fun i j => S.ptV a b nf (S.legV k li q pu) (0 + i) j))) [] :=
    fcall_k hT13 (F := z4a) rfl (zlk e mo t l nc c ns s ta tm r nf f a b K0 k li q pu _) ⟨go_ref02_Points hT13 933 e mo t l nc c ns s ta tm r nf f a b K0 k li q pu hnf hK ha hb hq 0 _ (Nat.zero_le _) ⟨[some 0, none, some 2, some 3, none], HasR.mk _ rfl rfl ?_ ?_⟩, rfl⟩
  · refine FCall.mono_r F fun w Z φ u hr => ?_
    simp only [RepA, RepC] at hr ⊢
    exact z5g (fun i j _ _ => by rw [Nat.zero_add]) hr
  · refine ⟨⟨rfl, ?_⟩, trivial, ⟨rfl, .inl rfl, .inl rfl, trivial⟩, ⟨rfl, .inl rfl, .inl rfl, trivial⟩, rfl, trivial⟩
    simp [WL, WC, WP', plC]
  · simp [zc, WA, WC, WP', Tr.get]
end
end Go.Ab.B
namespace Go.Ab.S
theorem tr_lI {ns : Nat} {a b : Int} {K0 : Nat} {k : Nat → Nat} {li : Nat → Rows} {q : Rows} {pu : Nat → Bool} (h : TrOk ns a b K0 k li q) (i j : Nat) (hi : i < K0) : -1000000 ≤ lI (legV k li q pu i j) ∧ lI (legV k li q pu i j) ≤ 1000000 := by
  have hq := h.hq i hi
  match j with
  | 0 => show (-1000000 : Int) ≤ 0 ∧ (0 : Int) ≤ 1000000; omega
  | 1 => show (-1000000 : Int) ≤ 0 ∧ (0 : Int) ≤ 1000000; omega
  | 2 => show -1000000 ≤ q i 0 ∧ q i 0 ≤ 1000000; omega
  | 3 => show -1000000 ≤ q i 1 ∧ q i 1 ≤ 1000000; omega
  | 4 => show -1000000 ≤ q i 2 ∧ q i 2 ≤ 1000000; omega
  | 5 => show -1000000 ≤ q i 3 ∧ q i 3 ≤ 1000000; omega
  | 6 => show -1000000 ≤ q i 4 ∧ q i 4 ≤ 1000000; omega
  | j + 7 =>
    have e7 : (legV k li q pu) i (j + 7) = .npt := by show List.getD _ (0 + (j + 7)) _ = _; rw [Nat.zero_add]; rfl
    rw [e7]; show (-1000000 : Int) ≤ 0 ∧ (0 : Int) ≤ 1000000; omega
end Go.Ab.S
namespace Go.Ab.B
open Go.Proofs
section
variable {hbs : BsOk Tryz.prog} (hT : TabOk (cs hbs)) (hT3 : TabOk (cs3 hbs)) (hT4 : TabOk (cs4 hbs)) (hT6 : TabOk (cs6 hbs)) (hT7 : TabOk (cs7 hbs)) (hT9 : TabOk (cs9 hbs)) (hT10 : TabOk (cs10 hbs)) (hT11 : TabOk (cs11 hbs)) (hT12 : TabOk (cs12 hbs)) (hT13 : TabOk (cs13 hbs))
abbrev lvRT (N : Nat) (h : Nat → Nat → PV) (i : Nat) : List (Ps × AV) := [(.o (.o .h), .c (.pt 0 0)), (.o (.i (.o .h)), .c (.p (.isl 5 N h))), (.i (.i (.o .h)), .c (.p (.int .i64 i)))]
include hT hT3 hT6 in
theorem go_ref02_Trip (fu : Nat) (e mo t l : Int) (nc : Nat) (c : S.Rows) (ns : Nat) (s : S.Rows) (ta tm r : Int) (nf : Nat) (f : S.Rows) (N : Nat) (kn : Nat → Nat) (ki : Nat → S.Rows) (pl ph : Nat → Int) (m : Nat) (kw : Nat → S.Rows) (kl : Nat → Bool) (hp : S.PlOk e mo t l nc c ns s ta tm r nf f) (hN : N ≤ 1000) (hq : ∀ j, j < N → S.PtOk ns nf (kn j) (ki j) (pl j) (ph j) m (kw j)) : ∀ (i : Nat) (st : St), i ≤ N → (∃ ρ, HasR 0 ρ st (lvRT N (S.ptG kn ki pl ph m kw kl) i) [PB e mo t l nc c ns s ta tm r nf f]) →
    za (ex (cs13 hbs) (fu + 60)) 0 z58 st (trU e mo t l nc c ns s ta tm r nf f N (S.ptG kn ki pl ph m kw kl) i) :=
  loop_kT (σ := Nat) (lvRT N (S.ptG kn ki pl ph m kw kl)) (fun _ => [PB e mo t l nc c ns s ta tm r nf f]) (fun i => i ≤ N) (fun i => N - i) (trU e mo t l nc c ns s ta tm r nf f N (S.ptG kn ki pl ph m kw kl)) _ (fun i Q => vs_ref02_Trip (hbs := hbs) fu i e mo t l nc c ns s ta tm r nf f N kn ki pl ph m kw kl Q) fun i hi' K hL X hX => by
      refine brP (fun h1 => ?_) fun h1 => ?_
      · have hlt : i < N := by simpa using h1
        have hqi := hq i hlt
        have hle := fun j h => (S.parts_in hp hqi j h).2.2.2
        have hbr := S.bro_sr (e := e) (mo := mo) (t := t) (l := l) (nc := nc) (c := c) (ns := ns) (s := s) (ta := ta) (tm := tm) (r := r) (nf := nf) (f := f) (n := kn i) (it := ki i) (lo := pl i) (hi := ph i) (m := m) (wt := kw i) (ld := kl i) hqi.hm hle
        have hb1 : S.broR (S.ruH e mo t l nc c ns s ta tm r nf f (S.ptG kn ki pl ph m kw kl) i) = S.srR e mo t l nc c ns s ta tm r nf f (kn i) (ki i) (pl i) (ph i) m (kw i) (kl i) := hbr.1
        have hb2 : S.broI (S.ruH e mo t l nc c ns s ta tm r nf f (S.ptG kn ki pl ph m kw kl) i) = S.p2 e mo t l nc c ns s ta tm r nf f (kn i) (ki i) (pl i) (ph i) m (kw i) (kl i) := hbr.2
        have hsr : S.sureH e mo t l nc c ns s ta tm r nf f (S.ptG kn ki pl ph m kw kl) i = (S.srR e mo t l nc c ns s ta tm r nf f (kn i) (ki i) (pl i) (ph i) m (kw i) (kl i) == 1) := by show (S.broR (S.ruH e mo t l nc c ns s ta tm r nf f (S.ptG kn ki pl ph m kw kl) i) == 1) = _; rw [hb1]
        refine cdP (ze hlt) ⟨FCall.cfg (C := cs7 hbs) (C' := cs13 hbs) rfl rfl (zmf hT hT3 hT6 e mo t l nc c ns s ta tm r nf f (kn i) (ki i) (pl i) (ph i) m (kw i) (kl i) hp hqi), brP (fun h2 => ?_) fun h2 => cdP (by simp [Cd.holds]; omega) ?_⟩
        · have h2 : (S.srR e mo t l nc c ns s ta tm r nf f (kn i) (ki i) (pl i) (ph i) m (kw i) (kl i) != 1) = true := h2
          have eo : S.sureH e mo t l nc c ns s ta tm r nf f (S.ptG kn ki pl ph m kw kl) i = false := by rw [hsr]; simpa using h2
          have e2 : S.from_ (S.sureH e mo t l nc c ns s ta tm r nf f (S.ptG kn ki pl ph m kw kl)) N i = false := by rw [S.from_step hlt, eo, Bool.false_and]
          have e3 : S.fst (S.sureH e mo t l nc c ns s ta tm r nf f (S.ptG kn ki pl ph m kw kl)) N i = i := S.fst_at hlt eo
          simp only [trU, e2, e3] at hL
          rw [hb1, hb2] at hL
          refine HasR.out (l := [(.i (.i .h), vI .i64 i), (.o (.o (.o .h)), vI .i64 (S.srR e mo t l nc c ns s ta tm r nf f (kn i) (ki i) (pl i) (ph i) m (kw i) (kl i))), (.i (.o (.o .h)), vI .i64 (S.p2 e mo t l nc c ns s ta tm r nf f (kn i) (ki i) (pl i) (ph i) m (kw i) (kl i)))]) (HasR.mk (ρ := []) rfl rfl ?_ ?_) hL
          · simp [WH]
          · exact ⟨.inl rfl, .inl rfl, .inl rfl, trivial⟩
        · have h2 : (S.srR e mo t l nc c ns s ta tm r nf f (kn i) (ki i) (pl i) (ph i) m (kw i) (kl i) != 1) = false := h2
          have eo : S.sureH e mo t l nc c ns s ta tm r nf f (S.ptG kn ki pl ph m kw kl) i = true := by rw [hsr]; simpa using h2
          have e2 : S.from_ (S.sureH e mo t l nc c ns s ta tm r nf f (S.ptG kn ki pl ph m kw kl)) N i = S.from_ (S.sureH e mo t l nc c ns s ta tm r nf f (S.ptG kn ki pl ph m kw kl)) N (i + 1) := by rw [S.from_step hlt, eo, Bool.true_and]
          have e3 : S.fst (S.sureH e mo t l nc c ns s ta tm r nf f (S.ptG kn ki pl ph m kw kl)) N i = S.fst (S.sureH e mo t l nc c ns s ta tm r nf f (S.ptG kn ki pl ph m kw kl)) N (i + 1) := S.fst_step hlt eo
          simp only [trU, e2, e3] at hL
          refine hX (i + 1) _ (by omega) (by omega) ⟨[some 0], HasR.mk _ rfl rfl ?_ ?_⟩ hL
          · simp [WH, WB, WL, WC, WP', upsB, memB, ptC, plC]
          · simp [zc, WA, WC, WP', Tr.get]
      · have hlt : N ≤ i := by simpa using h1
        have e2 : S.from_ (S.sureH e mo t l nc c ns s ta tm r nf f (S.ptG kn ki pl ph m kw kl)) N i = true := S.from_end hlt
        simp only [trU, e2] at hL
        refine HasR.out (l := []) (HasR.mk (ρ := []) rfl rfl ?_ ?_) hL
        · simp [WH]
        · trivial
include hT hT3 hT6 hT13 in
theorem fc_ref02_Trip (e mo t l : Int) (nc : Nat) (c : S.Rows) (ns : Nat) (s : S.Rows) (ta tm r : Int) (nf : Nat) (f : S.Rows) (a b : Int) (K0 : Nat) (k : Nat → Nat) (li : Nat → S.Rows) (q : S.Rows) (pu : Nat → Bool) (hp : S.PlOk e mo t l nc c ns s ta tm r nf f) (h : S.TrOk ns a b K0 k li q) : FCall (cs13 hbs) f_ref02_Trip [.ag (plC e mo t l nc (S.val c) ns (S.val s) ta tm r nf (S.val f)), .ag [.p (.int .i64 a), .p (.int .i64 b)], .c (.p (.isl 7 K0 (S.legV k li q pu)))]
    (.tp [vI .i64 (S.rA e mo t l nc c ns s ta tm r nf f a b K0 (S.legV k li q pu)), vI .i64 (S.rR e mo t l nc c ns s ta tm r nf f a b K0 (S.legV k li q pu)), vI .i64 (S.rI e mo t l nc c ns s ta tm r nf f a b K0 (S.legV k li q pu))]) [] := by
  have hK := h.hK
  have hab := h.hab
  refine fcall_k hT13 (F := z5f) rfl (zol e mo t l nc c ns s ta tm r nf f a b K0 k li q pu _) ⟨fc_ref02_Points hT13 e mo t l nc c ns s ta tm r nf f a b K0 k li q pu hp.hnf (by omega) (by omega) (by omega) (fun i j hi => S.tr_lI h i j hi), go_ref02_Trip hT hT3 hT6 934 e mo t l nc c ns s ta tm r nf f (2 * K0) (fun j => k (j / 2)) (fun j => li (j / 2)) (S.ptL a (S.legV k li q pu)) (S.ptH b (S.legV k li q pu)) nf (fun j => S.two (S.pwL (S.legV k li q pu) j) (S.pwH (S.legV k li q pu) j)) S.lnd hp (by omega) (fun j hj => S.pt_ok h j hj) 0 _ (Nat.zero_le _) ⟨[some 0], HasR.mk _ rfl rfl ?_ ?_⟩, brP (fun h1 => ?_) fun h1 => ?_⟩
  · simp [WH, WB, WL, WC, WP', upsB, memB, ptC, plC]
  · exact ⟨⟨rfl, rfl⟩, .inl rfl, .inl rfl, trivial⟩
  · simp only [S.rA, S.rR, S.rI, h1, S.unA, S.unX]; rfl
  · simp only [S.rA, S.rR, S.rI, h1, S.unA, S.unX]; rfl
end
end Go.Ab.B
