/- A part of the proof. -/
import Derived.Test.YtfmbdlfpbhpieaaGreatDoorLd
set_option linter.all false
set_option maxRecDepth 100000
namespace Go.Ab.S
def fewAt (g : Nat → Nat → PV) (i : Nat) : Bool := decide ((lN (g i 0) : Int) ≤ 20)
def fewB (n : Nat) (g : Nat → Nat → PV) : Bool := from_ (fewAt g) n 0 && decide ((n : Int) ≤ 12)
def tE (e mo t l : Int) (nc : Nat) (c : Rows) (ns : Nat) (s : Rows) (ta tm r : Int) (nf : Nat) (f : Rows) (a b : Int) (n : Nat) (g : Nat → Nat → PV) : Int := tErr (plane e mo t l nc c ns s ta tm r nf f) ns a b n g
def tA (e mo t l : Int) (nc : Nat) (c : Rows) (ns : Nat) (s : Rows) (ta tm r : Int) (nf : Nat) (f : Rows) (a b : Int) (n : Nat) (g : Nat → Nat → PV) : Int := unX (tE e mo t l nc c ns s ta tm r nf f a b n g != 0) (unA (from_ (sureH e mo t l nc c ns s ta tm r nf f (ptV a b nf g)) (2 * n) 0) (fst (sureH e mo t l nc c ns s ta tm r nf f (ptV a b nf g)) (2 * n) 0)) 0
def tR (e mo t l : Int) (nc : Nat) (c : Rows) (ns : Nat) (s : Rows) (ta tm r : Int) (nf : Nat) (f : Rows) (a b : Int) (n : Nat) (g : Nat → Nat → PV) : Int := unX (tE e mo t l nc c ns s ta tm r nf f a b n g != 0) (unX (from_ (sureH e mo t l nc c ns s ta tm r nf f (ptV a b nf g)) (2 * n) 0) (broR (ruH e mo t l nc c ns s ta tm r nf f (ptV a b nf g) (fst (sureH e mo t l nc c ns s ta tm r nf f (ptV a b nf g)) (2 * n) 0))) 1) 0
def tI (e mo t l : Int) (nc : Nat) (c : Rows) (ns : Nat) (s : Rows) (ta tm r : Int) (nf : Nat) (f : Rows) (a b : Int) (n : Nat) (g : Nat → Nat → PV) : Int := unX (tE e mo t l nc c ns s ta tm r nf f a b n g != 0) (unX (from_ (sureH e mo t l nc c ns s ta tm r nf f (ptV a b nf g)) (2 * n) 0) (broI (ruH e mo t l nc c ns s ta tm r nf f (ptV a b nf g) (fst (sureH e mo t l nc c ns s ta tm r nf f (ptV a b nf g)) (2 * n) 0))) 0) 0
def legsB (st : Int) (n : Nat) (g : Nat → Nat → PV) : Bool := from_ (legAt st g) n 0 && decide ((n : Int) ≥ 1)
def nrR (it : Rows) (x y : Int) : Rows := fun j w => match w with
  | 0 => it j 0
  | 1 => part (it j 1) (it j 2) x
  | _ => part (it j 1) (it j 2) y
def nrQ (g : Nat → Nat → PV) (x y : Int) : Rows := fun i w => match w with
  | 0 => lI (g i 2)
  | 1 => part (lI (g i 3)) (lI (g i 4)) x
  | 2 => part (lI (g i 3)) (lI (g i 4)) y
  | 3 => part (lI (g i 5)) (lI (g i 6)) x
  | _ => part (lI (g i 5)) (lI (g i 6)) y
def nrL (g : Nat → Nat → PV) (x y : Int) : Nat → Nat → PV := legV (fun i => lN (g i 0)) (fun i => nrR (lR (g i 0)) x y) (nrQ g x y) (fun i => lB (g i 1))
end Go.Ab.S
namespace Go.Ab.B
open Go.Proofs
def sp_law02_few : List AV → Option (AV × Heap)
  | [.c (.p (.isl 7 n g))] => some (vB (S.fewB n g), [])
  | _ => none
def sp_ref02_Legs : List AV → Option (AV × Heap)
  | [.c (.p (.isl 7 n g)), .c (.p (.int .i64 st))] => some (vB (S.legsB st n g), [])
  | _ => none
def sp_law02_refused : List AV → Option (AV × Heap)
  | [.ag [.p (.int .i64 e), .p (.int .i64 mo), .p (.int .i64 t), .p (.int .i64 l), .p (.isl 2 nc c), .p (.isl 2 ns s), .p (.int .i64 ta), .p (.int .i64 tm), .p (.int .i64 r), .p (.isl 2 nf f)], .ag [.p (.int .i64 a), .p (.int .i64 b)], .c (.p (.isl 7 n g)), .c (.p (.bool true))] =>
    some (vI .i64 (S.tE e mo t l nc (S.num c) ns (S.num s) ta tm r nf (S.num f) a b n g), [])
  | _ => none
def sp_law02_part : List AV → Option (AV × Heap)
  | [.ag [.p (.int .i64 lo), .p (.int .i64 hi)], .c (.p (.int .i64 pc))] => some (vI .i64 (S.part lo hi pc), [])
  | _ => none
def sp_law02_narrow : List AV → Option (AV × Heap)
  | [.ag [.p (.int .i64 lo), .p (.int .i64 hi)], .c (.p (.int .i64 x)), .c (.p (.int .i64 y))] => some (.ag [.p (.int .i64 (S.part lo hi x)), .p (.int .i64 (S.part lo hi y))], [])
  | _ => none
def sp_load_Trip : List AV → Option (AV × Heap)
  | [.ag [.p (.int .i64 e), .p (.int .i64 mo), .p (.int .i64 t), .p (.int .i64 l), .p (.isl 2 nc c), .p (.isl 2 ns s), .p (.int .i64 ta), .p (.int .i64 tm), .p (.int .i64 r), .p (.isl 2 nf f)], .ag [.p (.int .i64 a), .p (.int .i64 b)], .c (.p (.isl 7 n g))] =>
    some (.tp [vI .i64 (S.tA e mo t l nc (S.num c) ns (S.num s) ta tm r nf (S.num f) a b n g), vI .i64 (S.tR e mo t l nc (S.num c) ns (S.num s) ta tm r nf (S.num f) a b n g), vI .i64 (S.tI e mo t l nc (S.num c) ns (S.num s) ta tm r nf (S.num f) a b n g), vI .i64 (S.tE e mo t l nc (S.num c) ns (S.num s) ta tm r nf (S.num f) a b n g)], [])
  | _ => none
def Sp12 (f : Nat) (l : List AV) : Option (AV × Heap) := bif Nat.beq f f_law02_few then sp_law02_few l else bif Nat.beq f f_ref02_Legs then sp_ref02_Legs l else bif Nat.beq f f_law02_refused then sp_law02_refused l else bif Nat.beq f f_law02_part then sp_law02_part l else bif Nat.beq f f_law02_narrow then sp_law02_narrow l else bif Nat.beq f f_load_Trip then sp_load_Trip l else Sp11 f l
def lp_law02_few (s : St) : Option LTree :=
  match Tr.get .h s.t with
  | .c (.p (.isl 7 n g)) => some (.br (S.from_ (S.fewAt g) n 0) (.e (.exit 0) ⟨setAll [(.h, .c (.p (.isl 7 n g)))], []⟩) (.e .ret ⟨setAll [((.i .h), vB false)], []⟩))
  | _ => none
def lp_ref02_Legs (s : St) : Option LTree :=
  match Tr.get .h s.t, Tr.get (.o .h) s.t with
  | .c (.p (.isl 7 n g)), .c (.p (.int .i64 st)) => some (.br (S.from_ (S.legAt st g) n 0) (.e (.exit 0) ⟨setAll [(.h, .c (.p (.isl 7 n g)))], []⟩) (.e .ret ⟨setAll [((.i (.o .h)), vB false)], []⟩))
  | _, _ => none
def lp_law02_LoadMore (j : Nat) (s : St) : Option LTree :=
  match Tr.get (.i .h) s.t, Tr.get (.o (.o .h)) s.t, Tr.get (.i (.o .h)) s.t, Tr.get (.o (.i (.i (.o .h)))) s.t with
  | .c (.p (.isl 7 n g)), .c (.p (.int .i64 x)), .c (.p (.int .i64 y)), .c (.p (.int .i64 i)) => match j with
    | 1 => match s.h with
      | _ :: b1 :: b2 :: _ => some (.e (.exit 0) ⟨setAll [(.i (.o (.i (.o .h))), .c (.sl 3 0 n)), (.i (.o (.o .h)), .c (.pt 1 0)), (.i (.o .h), vI .i64 y), (.o (.o (.i (.o .h))), .c (.pt 2 0)), (.o (.o .h), vI .i64 x)], [none, b1, b2, some (.arr 7 t_api_LoadLeg n (S.nrL g x y) [])]⟩)
      | _ => none
    | _ => match s.h with
      | b0 :: b1 :: b2 :: b3 :: b4 :: _ => match b4, b3 with
        | some (.box tl [_, c1, c2, c3, c4, c5, c6]), some (.arr _ _ m _ _) => some (.e (.exit 2) ⟨setAll [(.i (.i (.i (.o .h))), .c (.pt 4 0)), (.i (.o (.i (.o .h))), .c (.sl 3 0 m)), (.i (.o (.o .h)), .c (.pt 1 0)), (.i (.o .h), vI .i64 y), (.i .h, .c (.p (.isl 7 n g))), (.o (.i (.i (.o .h))), vI .i64 i), (.o (.o (.i (.o .h))), .c (.pt 2 0)), (.o (.o .h), vI .i64 x)],
          [b0, b1, b2, b3, some (.box tl [.sl 5 0 (S.lN (g i.toNat 0)), c1, c2, c3, c4, c5, c6]), some (.arr 3 t_api_LoadItem (S.lN (g i.toNat 0)) (S.val (S.nrR (S.lR (g i.toNat 0)) x y)) [])]⟩)
        | _, _ => none
      | _ => none
  | _, _, _, _ => none
def Lp12 (n0 : Nat) (a : MC) (s : St) : Option LTree := bif Nat.beq (keyM a 0) key_law02_few_l1 then lp_law02_few s else bif Nat.beq (keyM a 0) key_ref02_Legs_l1 then lp_ref02_Legs s else bif Nat.beq (keyM a 0) key_law02_LoadMore_l1 then lp_law02_LoadMore 1 s else bif Nat.beq (keyM a 0) key_law02_LoadMore_l2 then lp_law02_LoadMore 2 s else Lp11 n0 a s
def cs12 {P : Program} (hbs : BsOk P) : Cfg := { cs11 hbs with Sp := Sp12, Lp := Lp12 }
section
variable {hbs : BsOk Tryz.prog}
theorem vs_law02_few (fu i : Nat) (K0 : Nat) (k : Nat → Nat) (li : Nat → S.Rows) (q : S.Rows) (pu : Nat → Bool) (Q : AX → St → Prop) :
 ((fun (A0 : AV) => ((BrP (decide ((i : Int) < (K0 : Int)))
 (CdP (.rng (i : Int) K0)
 (BrP (decide (((k i : Nat) : Int) > (20 : Int)))
 (Q .ret ⟨(.nd (L3 (L1 (vN i))) A0 (L1 (vB false))), []⟩)
 (CdP (.i64 ((i : Int) + (1 : Int)))
 (Q .normal ⟨(.nd (L3 (L1 (vJ ((i : Int) + (1 : Int))))) A0 (L1 .any)), []⟩))))
 (Q (.exit 0) ⟨(.nd (L3 (L1 (vN i))) A0 (L1 .any)), []⟩)))) (.c (.p (.isl 7 K0 (S.legV k li q pu))))) = (ex (cs12 hbs) (fu + 60) 0 m_law02_few_l1 ⟨setAll [(.h, .c (.p (.isl 7 K0 (S.legV k li q pu)))), (.o (.o .h), .c (cJ i))], []⟩ (fun e s => .pr (Q e (trimS [.h, .i .h, .o (.o .h)] s)))).hold2 := by kernel_rfl
theorem vc_law02_few (K0 : Nat) (k : Nat → Nat) (li : Nat → S.Rows) (q : S.Rows) (pu : Nat → Bool) (Q : AV → Heap → Prop) :
 (((LoopGo (ex (cs12 hbs) 995) 0 m_law02_few_l1 ⟨(.nd (L3 (L1 (vJ 0))) (.c (.p (.isl 7 K0 (S.legV k li q pu)))) (L1 (vB false))), []⟩ (.br (S.from_ (S.fewAt (S.legV k li q pu)) K0 0) (.e (.exit 0) ⟨(L1 (.c (.p (.isl 7 K0 (S.legV k li q pu))))), []⟩) (.e .ret ⟨(L2 (L1 (vB false))), []⟩))) ∧
 (BrP (S.from_ (S.fewAt (S.legV k li q pu)) K0 0)
 (BrP (decide ((K0 : Int) ≤ (12 : Int)))
 (Q (vB true) [])
 (Q (vB false) []))
 (Q (vB false) [])))) = (ex (cs12 hbs) 1000 0 m_law02_few ⟨ofL 0 [.c (.p (.isl 7 K0 (S.legV k li q pu)))] .lf, []⟩ (endK F_law02_few.rs (fun r H => .pr (Q r H)) fun _ _ => .no)).hold2 := by kernel_rfl
theorem vs_ref02_Legs (fu i : Nat) (st : Int) (K0 : Nat) (k : Nat → Nat) (li : Nat → S.Rows) (q : S.Rows) (pu : Nat → Bool) (Q : AX → St → Prop) :
 ((fun (A1 : AV) => ((fun (A0 : Tr) => ((BrP (decide ((i : Int) < (K0 : Int)))
 (CdP (.rng (i : Int) K0)
 ((FCall (cs12 hbs) f_ref02_items [(.c (.p (.isl 3 (k i) (S.val (li i))))), (vJ st)] (.c (.p (.bool (S.itemsOk (k i) (li i) st)))) []) ∧
 (BrP (S.itemsOk (k i) (li i) st)
 (CdP (.rng (i : Int) K0)
 ((FCall (cs12 hbs) f_ref02_in [(vJ (q i 0)), (vJ 0), (vJ 20000)] (.c (.p (.bool (S.inB (0 : Int) (q i 0) (20000 : Int))))) []) ∧
 (BrP (S.inB (0 : Int) (q i 0) (20000 : Int))
 (CdP (.rng (i : Int) K0)
 ((FCall (cs12 hbs) f_ref02_Span [(.ag [(cJ (q i 1)), (cJ (q i 2))]), (vJ 0), (vJ 20000)] (.c (.p (.bool (S.span (q i 1) (q i 2) (0 : Int) (20000 : Int))))) []) ∧
 (BrP (S.span (q i 1) (q i 2) (0 : Int) (20000 : Int))
 (CdP (.rng (i : Int) K0)
 ((FCall (cs12 hbs) f_ref02_Span [(.ag [(cJ (q i 3)), (cJ (q i 4))]), (vJ 0), (vJ 20000)] (.c (.p (.bool (S.span (q i 3) (q i 4) (0 : Int) (20000 : Int))))) []) ∧
 (BrP (S.span (q i 3) (q i 4) (0 : Int) (20000 : Int))
 (CdP (.i64 ((i : Int) + (1 : Int)))
 (Q .normal ⟨(.nd (L5 (vJ st) (L1 (vJ ((i : Int) + (1 : Int))))) A1 (L3 (L1 .any))), []⟩))
 (Q .ret ⟨A0, []⟩))))
 (Q .ret ⟨A0, []⟩))))
 (Q .ret ⟨A0, []⟩))))
 (Q .ret ⟨A0, []⟩))))
 (Q (.exit 0) ⟨(.nd (L5 (vJ st) (L1 (vN i))) A1 (L3 (L1 .any))), []⟩)))) (.nd (L5 (vJ st) (L1 (vN i))) A1 (L3 (L1 (vB false)))))) (.c (.p (.isl 7 K0 (S.legV k li q pu))))) = (ex (cs12 hbs) (fu + 60) 0 m_ref02_Legs_l1 ⟨setAll [(.h, .c (.p (.isl 7 K0 (S.legV k li q pu)))), (.o .h, .c (cJ st)), (.o (.i .h), .c (cJ i))], []⟩ (fun e s => .pr (Q e (trimS [.h, .o .h, .i (.o .h), .o (.i .h)] s)))).hold2 := by kernel_rfl
theorem vc_ref02_Legs (st : Int) (K0 : Nat) (k : Nat → Nat) (li : Nat → S.Rows) (q : S.Rows) (pu : Nat → Bool) (Q : AV → Heap → Prop) :
 (((LoopGo (ex (cs12 hbs) 995) 0 m_ref02_Legs_l1 ⟨(.nd (L5 (vJ st) (L1 (vJ 0))) (.c (.p (.isl 7 K0 (S.legV k li q pu)))) (L3 (L1 (vB false)))), []⟩ (.br (S.from_ (S.legAt st (S.legV k li q pu)) K0 0) (.e (.exit 0) ⟨(L1 (.c (.p (.isl 7 K0 (S.legV k li q pu))))), []⟩) (.e .ret ⟨(L2 (L3 (L1 (vB false)))), []⟩))) ∧
 (BrP (S.from_ (S.legAt st (S.legV k li q pu)) K0 0)
 (BrP (decide ((K0 : Int) ≥ (1 : Int)))
 (Q (vB true) [])
 (Q (vB false) []))
 (Q (vB false) [])))) = (ex (cs12 hbs) 1000 0 m_ref02_Legs ⟨ofL 0 [.c (.p (.isl 7 K0 (S.legV k li q pu))), .c (cJ st)] .lf, []⟩ (endK F_ref02_Legs.rs (fun r H => .pr (Q r H)) fun _ _ => .no)).hold2 := by kernel_rfl
theorem vc_law02_refused (e mo t l : Int) (nc : Nat) (c : S.Rows) (ns : Nat) (s : S.Rows) (ta tm r : Int) (nf : Nat) (f : S.Rows) (a b : Int) (K0 : Nat) (k : Nat → Nat) (li : Nat → S.Rows) (q : S.Rows) (pu : Nat → Bool) (Q : AV → Heap → Prop) :
 ((fun (A0 : Heap) => ((BrP (decide ((K0 : Int) > (6 : Int)))
 (Q (vJ 3) A0)
 ((FCall (cs12 hbs) f_ref02_Plane [(.ag (kP e mo t l nc c ns s ta tm r nf f))] (.c (.p (.bool (S.plane e mo t l nc c ns s ta tm r nf f)))) []) ∧
 (BrP (S.plane e mo t l nc c ns s ta tm r nf f)
 ((FCall (cs12 hbs) f_ref02_Span [(.ag [(cJ a), (cJ b)]), (vJ 0), (vJ 20000)] (.c (.p (.bool (S.span a b (0 : Int) (20000 : Int))))) []) ∧
 (BrP (S.span a b (0 : Int) (20000 : Int))
 ((FCall (cs12 hbs) f_ref02_Legs [(.c (.p (.isl 7 K0 (S.legV k li q pu)))), (vN ns)] (.c (.p (.bool (S.legsB (ns : Int) K0 (S.legV k li q pu))))) []) ∧
 (BrP (S.legsB (ns : Int) K0 (S.legV k li q pu))
 (Q (vJ 0) A0)
 (Q (vJ 2) A0)))
 (Q (vJ 2) A0)))
 (Q (vJ 2) A0)))))) [(bP e mo t l nc c ns s ta tm r nf f), (some (.box t_api_Span [(cJ a), (cJ b)]))]) = (ex (cs12 hbs) 1000 0 m_law02_refused ⟨ofL 0 [.ag (plC e mo t l nc (S.val c) ns (S.val s) ta tm r nf (S.val f)), .ag [.p (.int .i64 a), .p (.int .i64 b)], .c (.p (.isl 7 K0 (S.legV k li q pu))), .c (.p (.bool true))] .lf, []⟩ (endK F_law02_refused.rs (fun r H => .pr (Q r H)) fun _ _ => .no)).hold2 := by kernel_rfl
end
end Go.Ab.B
namespace Go.Ab.S
theorem fewAt_eq (k : Nat → Nat) (li : Nat → Rows) (q : Rows) (pu : Nat → Bool) (i : Nat) : fewAt (legV k li q pu) i = decide ((k i : Int) ≤ 20) := rfl
theorem legs_tErr {pl : Bool} {ns : Nat} {a b : Int} {n : Nat} {g : Nat → Nat → PV} (h1 : (n : Int) ≤ 6) : tErr pl ns a b n g = (match pl && (span a b 0 20000 && legsB ns n g) with | true => 0 | false => 2) := by
  have e : decide ((n : Int) > 6) = false := by simpa using h1
  have e2 : inB 1 (n : Int) 6 = decide ((n : Int) ≥ 1) := by
    unfold inB
    have : decide ((n : Int) ≤ 6) = true := by simpa using h1
    rw [this, Bool.and_true]
  simp only [tErr, e, tripB, legsB, e2]
  rw [Bool.and_comm (decide ((n : Int) ≥ 1))]
  rfl
end Go.Ab.S
namespace Go.Ab.B
open Go.Proofs
section
variable {hbs : BsOk Tryz.prog} (hT : TabOk (cs hbs)) (hT3 : TabOk (cs3 hbs)) (hT12 : TabOk (cs12 hbs))
abbrev lvFw (K0 : Nat) (g : Nat → Nat → PV) (i : Nat) : List (Ps × AV) := [(.h, .c (.p (.isl 7 K0 g))), (.o (.o .h), .c (.p (.int .i64 i)))]
abbrev trFw (K0 : Nat) (g : Nat → Nat → PV) (i : Nat) : LTree := .br (S.from_ (S.fewAt g) K0 i) (.e (.exit 0) ⟨setAll [(.h, .c (.p (.isl 7 K0 g)))], []⟩) (.e .ret ⟨setAll [((.i .h), vB false)], []⟩)
theorem go_law02_few (fu K0 : Nat) (k : Nat → Nat) (li : Nat → S.Rows) (q : S.Rows) (pu : Nat → Bool) (hK : K0 ≤ maxLen) : ∀ (i : Nat) (s : St), i ≤ K0 → (∃ ρ, HasR 0 ρ s (lvFw K0 (S.legV k li q pu) i) []) → LoopGo (ex (cs12 hbs) (fu + 60)) 0 m_law02_few_l1 s (trFw K0 (S.legV k li q pu) i) :=
  loop_kT (σ := Nat) (lvFw K0 (S.legV k li q pu)) (fun _ => []) (fun i => i ≤ K0) (fun i => K0 - i) (trFw K0 (S.legV k li q pu)) _ (fun i Q => vs_law02_few (hbs := hbs) fu i K0 k li q pu Q) fun i hi' K hL X hX => by
      refine brP (fun h1 => ?_) fun h1 => ?_
      · have hlt : i < K0 := by simpa using h1
        refine cdP (idx_ok hlt) (brP (fun h2 => ?_) fun h2 => cdP (i64_nat hlt hK) ?_)
        · have eo : S.fewAt (S.legV k li q pu) i = false := by rw [S.fewAt_eq]; simp at h2 ⊢; omega
          have e2 : S.from_ (S.fewAt (S.legV k li q pu)) K0 i = false := by rw [S.from_step hlt, eo, Bool.false_and]
          simp only [trFw, e2] at hL
          exact HasR.out (l := [((.i .h), vB false)]) (HasR.mk (ρ := []) rfl rfl (by simp [WH]) ⟨.inl rfl, trivial⟩) hL
        · have eo : S.fewAt (S.legV k li q pu) i = true := by rw [S.fewAt_eq]; simp at h2 ⊢; omega
          have e2 : S.from_ (S.fewAt (S.legV k li q pu)) K0 i = S.from_ (S.fewAt (S.legV k li q pu)) K0 (i + 1) := by rw [S.from_step hlt, eo, Bool.true_and]
          simp only [trFw, e2] at hL
          exact hX (i + 1) _ (by omega) (by omega) ⟨[], HasR.mk _ rfl rfl (by simp [WH]) ⟨.inl rfl, .inl rfl, trivial⟩⟩ hL
      · have hlt : K0 ≤ i := by simpa using h1
        have e2 : S.from_ (S.fewAt (S.legV k li q pu)) K0 i = true := S.from_end hlt
        simp only [trFw, e2] at hL
        exact HasR.out (l := [(.h, .c (.p (.isl 7 K0 (S.legV k li q pu))))]) (HasR.mk (ρ := []) rfl rfl (by simp [WH]) ⟨.inl rfl, trivial⟩) hL
include hT12 in
theorem fc_law02_few (K0 : Nat) (k : Nat → Nat) (li : Nat → S.Rows) (q : S.Rows) (pu : Nat → Bool) (hK : K0 ≤ maxLen) : FCall (cs12 hbs) f_law02_few [.c (.p (.isl 7 K0 (S.legV k li q pu)))] (vB (S.fewB K0 (S.legV k li q pu))) [] :=
  fcall_k hT12 (F := F_law02_few) rfl (vc_law02_few K0 k li q pu _) ⟨go_law02_few 935 K0 k li q pu hK 0 _ (Nat.zero_le _) ⟨[], HasR.mk _ rfl rfl (by simp [WH]) ⟨.inl rfl, .inl rfl, trivial⟩⟩, brP (fun h1 => brP (fun h2 => frz_b (by simp only [S.fewB, h1, h2]; rfl)) fun h2 => frz_b (by simp only [S.fewB, h1, h2]; rfl)) fun h1 => frz_b (by simp only [S.fewB, h1]; rfl)⟩
abbrev lvLg (st : Int) (K0 : Nat) (g : Nat → Nat → PV) (i : Nat) : List (Ps × AV) := [(.h, .c (.p (.isl 7 K0 g))), (.o .h, .c (.p (.int .i64 st))), (.o (.i .h), .c (.p (.int .i64 i)))]
abbrev trLg (st : Int) (K0 : Nat) (g : Nat → Nat → PV) (i : Nat) : LTree := .br (S.from_ (S.legAt st g) K0 i) (.e (.exit 0) ⟨setAll [(.h, .c (.p (.isl 7 K0 g)))], []⟩) (.e .ret ⟨setAll [((.i (.o .h)), vB false)], []⟩)
include hT hT3 in
theorem go_ref02_Legs (fu : Nat) (st : Int) (K0 : Nat) (k : Nat → Nat) (li : Nat → S.Rows) (q : S.Rows) (pu : Nat → Bool) (hst : 0 ≤ st ∧ st ≤ 1000000) (hK : K0 ≤ 1000) (hk : ∀ i, i < K0 → k i ≤ 1000000) : ∀ (i : Nat) (s : St), i ≤ K0 → (∃ ρ, HasR 0 ρ s (lvLg st K0 (S.legV k li q pu) i) []) → LoopGo (ex (cs12 hbs) (fu + 60)) 0 m_ref02_Legs_l1 s (trLg st K0 (S.legV k li q pu) i) :=
  loop_kT (σ := Nat) (lvLg st K0 (S.legV k li q pu)) (fun _ => []) (fun i => i ≤ K0) (fun i => K0 - i) (trLg st K0 (S.legV k li q pu)) _ (fun i Q => vs_ref02_Legs (hbs := hbs) fu i st K0 k li q pu Q) fun i hi' K hL X hX => by
      have bad : ∀ (s' : St), i < K0 → S.legAt st (S.legV k li q pu) i = false → (∃ ρ, HasR 0 ρ s' [((.i (.o .h)), vB false)] []) → ∃ s'', Wk 0 s' s'' ∧ (K .ret s'').holds := fun s' hlt eo h => by
        have e2 : S.from_ (S.legAt st (S.legV k li q pu)) K0 i = false := by rw [S.from_step hlt, eo, Bool.false_and]
        simp only [trLg, e2] at hL
        obtain ⟨ρ, h⟩ := h
        exact HasR.out h hL
      refine brP (fun h1 => ?_) fun h1 => ?_
      · have hlt : i < K0 := by simpa using h1
        have hs0 : ∀ (x y : Int), FCall (cs12 hbs) f_ref02_Span [.ag [.p (.int .i64 x), .p (.int .i64 y)], .c (.p (.int .i64 0)), .c (.p (.int .i64 20000))] (vB (S.span x y 0 20000)) [] := fun x y => FCall.cfg (C := cs3 hbs) (C' := cs12 hbs) rfl rfl (fc_ref02_Span hT hT3 _ _ _ _)
        refine cdP (idx_ok hlt) ⟨FCall.cfg (C := cs3 hbs) (C' := cs12 hbs) rfl rfl (fc_ref02_items hT hT3 (k i) (li i) st (hk i hlt) hst), brP (fun a1 => cdP (idx_ok hlt) ⟨FCall.cfg (C := cs3 hbs) (C' := cs12 hbs) rfl rfl (fc3_ref02_in hT hT3 _ _ _), brP (fun a2 => cdP (idx_ok hlt) ⟨hs0 _ _, brP (fun a3 => cdP (idx_ok hlt) ⟨hs0 _ _, brP (fun a4 => cdP (by simp [Cd.holds]; omega) ?_) fun a4 => bad _ hlt ?_ ⟨[], HasR.mk _ rfl rfl (by simp [WH]) ⟨.inl rfl, trivial⟩⟩⟩) fun a3 => bad _ hlt ?_ ⟨[], HasR.mk _ rfl rfl (by simp [WH]) ⟨.inl rfl, trivial⟩⟩⟩) fun a2 => bad _ hlt ?_ ⟨[], HasR.mk _ rfl rfl (by simp [WH]) ⟨.inl rfl, trivial⟩⟩⟩) fun a1 => bad _ hlt ?_ ⟨[], HasR.mk _ rfl rfl (by simp [WH]) ⟨.inl rfl, trivial⟩⟩⟩
        · have a1 : S.itemsOk (k i) (li i) st = true := a1
          have eo : S.legAt st (S.legV k li q pu) i = true := by rw [S.legAt_eq, a1, a2, a3, a4]; rfl
          have e2 : S.from_ (S.legAt st (S.legV k li q pu)) K0 i = S.from_ (S.legAt st (S.legV k li q pu)) K0 (i + 1) := by rw [S.from_step hlt, eo, Bool.true_and]
          simp only [trLg, e2] at hL
          exact hX (i + 1) _ (by omega) (by omega) ⟨[], HasR.mk _ rfl rfl (by simp [WH]) ⟨.inl rfl, .inl rfl, .inl rfl, trivial⟩⟩ hL
        · rw [S.legAt_eq, a4]; simp
        · rw [S.legAt_eq, a3]; simp
        · rw [S.legAt_eq, a2]; simp
        · have a1 : S.itemsOk (k i) (li i) st = false := a1
          rw [S.legAt_eq, a1]; rfl
      · have hlt : K0 ≤ i := by simpa using h1
        have e2 : S.from_ (S.legAt st (S.legV k li q pu)) K0 i = true := S.from_end hlt
        simp only [trLg, e2] at hL
        exact HasR.out (l := [(.h, .c (.p (.isl 7 K0 (S.legV k li q pu))))]) (HasR.mk (ρ := []) rfl rfl (by simp [WH]) ⟨.inl rfl, trivial⟩) hL
include hT hT3 hT12 in
theorem fc_ref02_Legs (st : Int) (K0 : Nat) (k : Nat → Nat) (li : Nat → S.Rows) (q : S.Rows) (pu : Nat → Bool) (hst : 0 ≤ st ∧ st ≤ 1000000) (hK : K0 ≤ 1000) (hk : ∀ i, i < K0 → k i ≤ 1000000) : FCall (cs12 hbs) f_ref02_Legs [.c (.p (.isl 7 K0 (S.legV k li q pu))), .c (.p (.int .i64 st))] (vB (S.legsB st K0 (S.legV k li q pu))) [] :=
  fcall_k hT12 (F := F_ref02_Legs) rfl (vc_ref02_Legs st K0 k li q pu _) ⟨go_ref02_Legs hT hT3 935 st K0 k li q pu hst hK hk 0 _ (Nat.zero_le _) ⟨[], HasR.mk _ rfl rfl (by simp [WH]) ⟨.inl rfl, .inl rfl, .inl rfl, trivial⟩⟩, brP (fun h1 => brP (fun h2 => frz_b (by simp only [S.legsB, h1, h2]; rfl)) fun h2 => frz_b (by simp only [S.legsB, h1, h2]; rfl)) fun h1 => frz_b (by simp only [S.legsB, h1]; rfl)⟩
include hT hT3 hT12 in
theorem fc_law02_refused (e mo t l : Int) (nc : Nat) (c : S.Rows) (ns : Nat) (s : S.Rows) (ta tm r : Int) (nf : Nat) (f : S.Rows) (a b : Int) (K0 : Nat) (k : Nat → Nat) (li : Nat → S.Rows) (q : S.Rows) (pu : Nat → Bool) (hnc : nc ≤ maxLen) (hns : ns ≤ 1000000) (hns' : ns ≤ maxLen) (hnf : nf ≤ maxLen) (hk : ∀ i, i < K0 → k i ≤ 1000000) : FCall (cs12 hbs) f_law02_refused [.ag (plC e mo t l nc (S.val c) ns (S.val s) ta tm r nf (S.val f)), .ag [.p (.int .i64 a), .p (.int .i64 b)], .c (.p (.isl 7 K0 (S.legV k li q pu))), .c (.p (.bool true))] (vI .i64 (S.tE e mo t l nc c ns s ta tm r nf f a b K0 (S.legV k li q pu))) [] :=
  fcall_k hT12 (F := F_law02_refused) rfl (vc_law02_refused e mo t l nc c ns s ta tm r nf f a b K0 k li q pu _) (brP (fun h1 => by simp only [S.tE, S.tErr, h1]; rfl) fun h1 => by
    have h6 : (K0 : Int) ≤ 6 := by simpa using h1
    have he : S.tE e mo t l nc c ns s ta tm r nf f a b K0 (S.legV k li q pu) = _ := S.legs_tErr h6
    rw [he]
    exact ⟨FCall.cfg (C := cs hbs) (C' := cs12 hbs) rfl rfl (fc_ref02_Plane hT hnc hns' hnf), brP (fun g1 => ⟨FCall.cfg (C := cs3 hbs) (C' := cs12 hbs) rfl rfl (fc_ref02_Span hT hT3 _ _ _ _), brP (fun g2 => ⟨fc_ref02_Legs hT hT3 hT12 ns K0 k li q pu (by omega) (by omega) hk, brP (fun g3 => by simp only [g1, g2, g3]; rfl) fun g3 => by simp only [g1, g2, g3]; rfl⟩) fun g2 => by simp only [g1, g2]; rfl⟩) fun g1 => by simp only [g1]; rfl⟩)
include hT12 in
end
end Go.Ab.B
namespace Go.Ab.S
section
variable {e mo t l : Int} {nc : Nat} {c : Rows} {ns : Nat} {s : Rows} {ta tm r : Int} {nf : Nat} {f : Rows} {a b : Int} {n : Nat} {g : Nat → Nat → PV}
theorem tE_0 (hp : plane e mo t l nc c ns s ta tm r nf f = true) (ht : tripB ns a b n g = true) : tE e mo t l nc c ns s ta tm r nf f a b n g = 0 := by
  have h6 : decide ((n : Int) > 6) = false := by
    simp only [tripB, Bool.and_eq_true, inB_iff] at ht
    have := ht.2.1
    simp only [decide_eq_false_iff_not]
    omega
  simp only [tE, tErr, h6, hp, ht, Bool.and_true]
theorem tE_ok (h : (tE e mo t l nc c ns s ta tm r nf f a b n g != 0) = false) : plane e mo t l nc c ns s ta tm r nf f = true ∧ tripB ns a b n g = true := tErr_0 h
end
end Go.Ab.S
namespace Go.Ab.B
open Go.Proofs
section
variable {hbs : BsOk Tryz.prog} (hT : TabOk (cs hbs)) (hT3 : TabOk (cs3 hbs)) (hT4 : TabOk (cs4 hbs)) (hT7 : TabOk (cs7 hbs)) (hT9 : TabOk (cs9 hbs)) (hT10 : TabOk (cs10 hbs)) (hT11 : TabOk (cs11 hbs)) (hT12 : TabOk (cs12 hbs))
include hT hT3 hT4 hT7 hT9 hT10 hT11 hT12 in
theorem fc12_Trip (e mo t l : Int) (nc : Nat) (c : S.Rows) (ns : Nat) (s : S.Rows) (ta tm r : Int) (nf : Nat) (f : S.Rows) (a b : Int) (K0 : Nat) (k : Nat → Nat) (li : Nat → S.Rows) (q : S.Rows) (pu : Nat → Bool) (hnc : nc ≤ maxLen) (hns : ns ≤ 1000000) (hns' : ns ≤ maxLen) (hnf : nf ≤ maxLen) (hK : K0 ≤ 1000) (hk : ∀ i, i < K0 → k i ≤ 1000000) : FCall (cs12 hbs) f_load_Trip [.ag (plC e mo t l nc (S.val c) ns (S.val s) ta tm r nf (S.val f)), .ag [.p (.int .i64 a), .p (.int .i64 b)], .c (.p (.isl 7 K0 (S.legV k li q pu)))]
    (.tp [vI .i64 (S.tA e mo t l nc c ns s ta tm r nf f a b K0 (S.legV k li q pu)), vI .i64 (S.tR e mo t l nc c ns s ta tm r nf f a b K0 (S.legV k li q pu)), vI .i64 (S.tI e mo t l nc c ns s ta tm r nf f a b K0 (S.legV k li q pu)), vI .i64 (S.tE e mo t l nc c ns s ta tm r nf f a b K0 (S.legV k li q pu))]) [] :=
  FCall.cfg (C := cs11 hbs) (C' := cs12 hbs) rfl rfl (fc_load_Trip hT hT3 hT4 hT7 hT9 hT10 hT11 e mo t l nc c ns s ta tm r nf f a b K0 k li q pu hnc hns hns' hnf hK hk)
end
end Go.Ab.B
namespace Go.Ab.S
def eq3 (c d : Rows) (i : Nat) : Bool := (c i 0 == d i 0) && ((c i 1 == d i 1) && ((c i 2 == d i 2) && true))
def eq2 (c d : Rows) (i : Nat) : Bool := (c i 0 == d i 0) && ((c i 1 == d i 1) && true)
def smI (n : Nat) (c : Rows) (m : Nat) (d : Rows) : Bool := ((n : Int) == (m : Int)) && from_ (eq3 c d) n 0
def smS (n : Nat) (c : Rows) (m : Nat) (d : Rows) : Bool := ((n : Int) == (m : Int)) && from_ (eq2 c d) n 0
def smPt (f g : Nat → Nat → PV) (i : Nat) : Bool := smI (lN (f i 0)) (lR (f i 0)) (lN (g i 0)) (lR (g i 0)) && (((lI (f i 1) == lI (g i 1)) && ((lI (f i 2) == lI (g i 2)) && true)) && (smS (lN (f i 3)) (lR (f i 3)) (lN (g i 3)) (lR (g i 3)) && (lB (f i 4) == lB (g i 4))))
def smP (n : Nat) (f : Nat → Nat → PV) (m : Nat) (g : Nat → Nat → PV) : Bool := ((n : Int) == (m : Int)) && from_ (smPt f g) n 0
def tN (e mo t l : Int) (nc : Nat) (c : Rows) (ns : Nat) (s : Rows) (ta tm r : Int) (nf : Nat) (f : Rows) (a b : Int) (n : Nat) (g : Nat → Nat → PV) : Nat := match tE e mo t l nc c ns s ta tm r nf f a b n g != 0 with
  | true => 0
  | false => 2 * n
def rA (e mo t l : Int) (nc : Nat) (c : Rows) (ns : Nat) (s : Rows) (ta tm r : Int) (nf : Nat) (f : Rows) (a b : Int) (n : Nat) (g : Nat → Nat → PV) : Int := unA (from_ (sureH e mo t l nc c ns s ta tm r nf f (ptV a b nf g)) (2 * n) 0) (fst (sureH e mo t l nc c ns s ta tm r nf f (ptV a b nf g)) (2 * n) 0)
def rR (e mo t l : Int) (nc : Nat) (c : Rows) (ns : Nat) (s : Rows) (ta tm r : Int) (nf : Nat) (f : Rows) (a b : Int) (n : Nat) (g : Nat → Nat → PV) : Int := unX (from_ (sureH e mo t l nc c ns s ta tm r nf f (ptV a b nf g)) (2 * n) 0) (broR (ruH e mo t l nc c ns s ta tm r nf f (ptV a b nf g) (fst (sureH e mo t l nc c ns s ta tm r nf f (ptV a b nf g)) (2 * n) 0))) 1
def rI (e mo t l : Int) (nc : Nat) (c : Rows) (ns : Nat) (s : Rows) (ta tm r : Int) (nf : Nat) (f : Rows) (a b : Int) (n : Nat) (g : Nat → Nat → PV) : Int := unX (from_ (sureH e mo t l nc c ns s ta tm r nf f (ptV a b nf g)) (2 * n) 0) (broI (ruH e mo t l nc c ns s ta tm r nf f (ptV a b nf g) (fst (sureH e mo t l nc c ns s ta tm r nf f (ptV a b nf g)) (2 * n) 0))) 0
end Go.Ab.S
namespace Go.Ab.B
open Go.Proofs
def sp_ref02_SameItems : List AV → Option (AV × Heap)
  | [.c (.p (.isl 3 n c)), .c (.p (.isl 3 m d))] => some (vB (S.smI n (S.num c) m (S.num d)), [])
  | _ => none
def sp_ref02_SameSpans : List AV → Option (AV × Heap)
  | [.c (.p (.isl 2 n c)), .c (.p (.isl 2 m d))] => some (vB (S.smS n (S.num c) m (S.num d)), [])
  | _ => none
def sp_ref02_SamePoints : List AV → Option (AV × Heap)
  | [.c (.p (.isl 5 n f)), .c (.p (.isl 5 m g))] => some (vB (S.smP n f m g), [])
  | _ => none
def sp_ref02_waters : List AV → Option (AV × Heap)
  | [.ag [_, _, _, _, _, _, _, _, _, .p (.isl 2 nf _)], .ag [.p (.int .i64 a), .p (.int .i64 b)]] => some (.c (.p (.isl 2 nf (S.val (S.two a b)))), [])
  | _ => none
def sp_load_Points : List AV → Option (AV × Heap)
  | [.ag [.p (.int .i64 e), .p (.int .i64 mo), .p (.int .i64 t), .p (.int .i64 l), .p (.isl 2 nc c), .p (.isl 2 ns s), .p (.int .i64 ta), .p (.int .i64 tm), .p (.int .i64 r), .p (.isl 2 nf f)], .ag [.p (.int .i64 a), .p (.int .i64 b)], .c (.p (.isl 7 n g))] =>
    some (.tp [.c (.p (.isl 5 (S.tN e mo t l nc (S.num c) ns (S.num s) ta tm r nf (S.num f) a b n g) (S.ptV a b nf g))), vI .i64 (S.tE e mo t l nc (S.num c) ns (S.num s) ta tm r nf (S.num f) a b n g)], [])
  | _ => none
def sp_ref02_Trip : List AV → Option (AV × Heap)
  | [.ag [.p (.int .i64 e), .p (.int .i64 mo), .p (.int .i64 t), .p (.int .i64 l), .p (.isl 2 nc c), .p (.isl 2 ns s), .p (.int .i64 ta), .p (.int .i64 tm), .p (.int .i64 r), .p (.isl 2 nf f)], .ag [.p (.int .i64 a), .p (.int .i64 b)], .c (.p (.isl 7 n g))] =>
    some (.tp [vI .i64 (S.rA e mo t l nc (S.num c) ns (S.num s) ta tm r nf (S.num f) a b n g), vI .i64 (S.rR e mo t l nc (S.num c) ns (S.num s) ta tm r nf (S.num f) a b n g), vI .i64 (S.rI e mo t l nc (S.num c) ns (S.num s) ta tm r nf (S.num f) a b n g)], [])
  | _ => none
def Sp13 (f : Nat) (l : List AV) : Option (AV × Heap) := bif Nat.beq f f_ref02_SameItems then sp_ref02_SameItems l else bif Nat.beq f f_ref02_SameSpans then sp_ref02_SameSpans l else bif Nat.beq f f_ref02_SamePoints then sp_ref02_SamePoints l else bif Nat.beq f f_ref02_waters then sp_ref02_waters l else bif Nat.beq f f_ref02_Points then sp_load_pointsOf l else bif Nat.beq f f_load_Points then sp_load_Points l else bif Nat.beq f f_ref02_Trip then sp_ref02_Trip l else Sp12 f l
def lp_same (B : Bool) : Option LTree := some (.br B (.e (.exit 0) ⟨.lf, []⟩) (.e .ret ⟨setAll [((.i (.o .h)), vB false)], []⟩))
def lp_ref02_Same13 (s : St) : Option LTree :=
  match Tr.get .h s.t, Tr.get (.o .h) s.t with
  | .c (.p (.isl 2 n c)), .c (.p (.isl 2 _ d)) => lp_same (S.from_ (S.eq2 (S.num c) (S.num d)) n 0)
  | .c (.p (.isl 3 n c)), .c (.p (.isl 3 _ d)) => lp_same (S.from_ (S.eq3 (S.num c) (S.num d)) n 0)
  | .c (.p (.isl 5 n f)), .c (.p (.isl 5 _ g)) => lp_same (S.from_ (S.smPt f g) n 0)
  | _, _ => none
def lp_ref02_waters (s : St) : Option LTree :=
  match s.h with
  | b0 :: b1 :: _ => match b0, b1 with
    | some (.box _ [_, _, _, _, _, _, _, _, _, .p (.isl 2 nf _)]), some (.box _ [.p (.int .i64 a), .p (.int .i64 b)]) => some (.e (.exit 0) ⟨setAll [(.o (.i .h), .c (.sl 2 0 nf))], [none, none, some (.arr 2 t_api_Span nf (S.val (S.two a b)) [])]⟩)
    | _, _ => none
  | _ => none
def lp_ref02_Points (s : St) : Option LTree :=
  match s.h, Tr.get (.i .h) s.t with
  | b0 :: _ :: b2 :: _, .c (.p (.isl 7 n g)) => match b0, b2 with
    | some (.box _ [_, _, _, _, _, _, _, _, _, .p (.isl 2 nf _)]), some (.box _ [.p (.int .i64 a), .p (.int .i64 b)]) => some (.e (.exit 0) ⟨setAll [(.o (.o (.o .h)), .c (.sl 4 0 (2 * n)))], [none, none, none, none, some (.arr 5 t_api_LoadPoint (2 * n) (S.ptV a b nf g) [])]⟩)
    | _, _ => none
  | _, _ => none
def lp_ref02_Trip (s : St) : Option LTree :=
  match s.h, Tr.get (.o (.i (.o .h))) s.t with
  | b0 :: _, .c (.p (.isl 5 N h)) => match b0 with
    | some (.box _ [.p (.int .i64 e), .p (.int .i64 mo), .p (.int .i64 t), .p (.int .i64 l), .p (.isl 2 nc c), .p (.isl 2 ns st), .p (.int .i64 ta), .p (.int .i64 tm), .p (.int .i64 r), .p (.isl 2 nf f)]) =>
      some (.br (S.from_ (S.sureH e mo t l nc (S.num c) ns (S.num st) ta tm r nf (S.num f) h) N 0) (.e (.exit 0) ⟨.lf, []⟩)
        (.e .ret ⟨setAll [(.i (.i .h), vI .i64 (S.fst (S.sureH e mo t l nc (S.num c) ns (S.num st) ta tm r nf (S.num f) h) N 0)), (.o (.o (.o .h)), vI .i64 (S.broR (S.ruH e mo t l nc (S.num c) ns (S.num st) ta tm r nf (S.num f) h (S.fst (S.sureH e mo t l nc (S.num c) ns (S.num st) ta tm r nf (S.num f) h) N 0)))), (.i (.o (.o .h)), vI .i64 (S.broI (S.ruH e mo t l nc (S.num c) ns (S.num st) ta tm r nf (S.num f) h (S.fst (S.sureH e mo t l nc (S.num c) ns (S.num st) ta tm r nf (S.num f) h) N 0))))], []⟩))
    | _ => none
  | _, _ => none
def Lp13 (n0 : Nat) (a : MC) (s : St) : Option LTree := bif Nat.beq (keyM a 0) key_ref02_SameItems_l1 then lp_ref02_Same13 s else bif Nat.beq (keyM a 0) key_ref02_SameSpans_l1 then lp_ref02_Same13 s else bif Nat.beq (keyM a 0) key_ref02_SamePoints_l1 then lp_ref02_Same13 s else bif Nat.beq (keyM a 0) key_ref02_waters_l1 then lp_ref02_waters s else bif Nat.beq (keyM a 0) key_ref02_Points_l1 then lp_ref02_Points s else bif Nat.beq (keyM a 0) key_ref02_Trip_l1 then lp_ref02_Trip s else Lp12 n0 a s
def cs13 {P : Program} (hbs : BsOk P) : Cfg := { cs12 hbs with Sp := Sp13, Lp := Lp13 }
section
variable {hbs : BsOk Tryz.prog}
theorem vs_ref02_SameItems (fu i n : Nat) (c : S.Rows) (Q : AX → St → Prop) :
 ((BrP (decide ((i : Int) < (n : Int)))
 (CdP (.rng (i : Int) n)
 (CdP (.rng (i : Int) n)
 (BrP (!(((c i 0) == (c i 0)) && (((c i 1) == (c i 1)) && (((c i 2) == (c i 2)) && true))))
 (Q .ret ⟨(.nd (L5 (vS 3 n c) (L1 (vN i))) (vS 3 n c) (L3 (L1 (vB false)))), []⟩)
 (CdP (.i64 ((i : Int) + (1 : Int)))
 (Q .normal ⟨(.nd (L5 (vS 3 n c) (L1 (vJ ((i : Int) + (1 : Int))))) (vS 3 n c) (L3 (L1 .any))), []⟩)))))
 (Q (.exit 0) ⟨(.nd (L5 (vS 3 n c) (L1 (vN i))) (vS 3 n c) (L3 (L1 .any))), []⟩))) = (ex (cs13 hbs) (fu + 60) 0 m_ref02_SameItems_l1 ⟨setAll [(.h, .c (cS 3 n c)), (.o .h, .c (cS 3 n c)), (.o (.i .h), .c (cJ i))], []⟩ (fun e s => .pr (Q e (trimS [.h, .o .h, .i (.o .h), .o (.i .h)] s)))).hold2 := by kernel_rfl
theorem vc_ref02_SameItems (n : Nat) (c : S.Rows) (Q : AV → Heap → Prop) :
 ((BrP ((n : Int) != (n : Int))
 (Q (vB false) [])
 ((LoopGo (ex (cs13 hbs) 994) 0 m_ref02_SameItems_l1 ⟨(.nd (.nd (L3 (L1 (vN n))) (vS 3 n c) (L6 (L1 (vN n)) (vJ 0))) (vS 3 n c) (L4 (L6 (L1 (vS 3 n c)) (vB false)) (L6 (L1 (vB false)) (vS 3 n c)))), []⟩ (.br (S.from_ (S.eq3 c c) n 0) (.e (.exit 0) ⟨.lf, []⟩) (.e .ret ⟨(L2 (L3 (L1 (vB false)))), []⟩))) ∧
 (BrP (S.from_ (S.eq3 c c) n 0)
 (Q (vB true) [])
 (Q (vB false) []))))) = (ex (cs13 hbs) 1000 0 m_ref02_SameItems ⟨ofL 0 [.c (cS 3 n c), .c (cS 3 n c)] .lf, []⟩ (endK F_ref02_SameItems.rs (fun r H => .pr (Q r H)) fun _ _ => .no)).hold2 := by kernel_rfl
theorem vs_ref02_SameSpans (fu i n : Nat) (c : S.Rows) (Q : AX → St → Prop) :
 ((BrP (decide ((i : Int) < (n : Int)))
 (CdP (.rng (i : Int) n)
 (CdP (.rng (i : Int) n)
 (BrP (!(((c i 0) == (c i 0)) && (((c i 1) == (c i 1)) && true)))
 (Q .ret ⟨(.nd (L5 (vS 2 n c) (L1 (vN i))) (vS 2 n c) (L3 (L1 (vB false)))), []⟩)
 (CdP (.i64 ((i : Int) + (1 : Int)))
 (Q .normal ⟨(.nd (L5 (vS 2 n c) (L1 (vJ ((i : Int) + (1 : Int))))) (vS 2 n c) (L3 (L1 .any))), []⟩)))))
 (Q (.exit 0) ⟨(.nd (L5 (vS 2 n c) (L1 (vN i))) (vS 2 n c) (L3 (L1 .any))), []⟩))) = (ex (cs13 hbs) (fu + 60) 0 m_ref02_SameSpans_l1 ⟨setAll [(.h, .c (cS 2 n c)), (.o .h, .c (cS 2 n c)), (.o (.i .h), .c (cJ i))], []⟩ (fun e s => .pr (Q e (trimS [.h, .o .h, .i (.o .h), .o (.i .h)] s)))).hold2 := by kernel_rfl
theorem vc_ref02_SameSpans (n : Nat) (c : S.Rows) (Q : AV → Heap → Prop) :
 ((BrP ((n : Int) != (n : Int))
 (Q (vB false) [])
 ((LoopGo (ex (cs13 hbs) 994) 0 m_ref02_SameSpans_l1 ⟨(.nd (.nd (L3 (L1 (vN n))) (vS 2 n c) (L6 (L1 (vN n)) (vJ 0))) (vS 2 n c) (L4 (L6 (L1 (vS 2 n c)) (vB false)) (L6 (L1 (vB false)) (vS 2 n c)))), []⟩ (.br (S.from_ (S.eq2 c c) n 0) (.e (.exit 0) ⟨.lf, []⟩) (.e .ret ⟨(L2 (L3 (L1 (vB false)))), []⟩))) ∧
 (BrP (S.from_ (S.eq2 c c) n 0)
 (Q (vB true) [])
 (Q (vB false) []))))) = (ex (cs13 hbs) 1000 0 m_ref02_SameSpans ⟨ofL 0 [.c (cS 2 n c), .c (cS 2 n c)] .lf, []⟩ (endK F_ref02_SameSpans.rs (fun r H => .pr (Q r H)) fun _ _ => .no)).hold2 := by kernel_rfl
theorem vs_ref02_SamePoints (fu i : Nat) (N : Nat) (kn : Nat → Nat) (ki : Nat → S.Rows) (pl ph : Nat → Int) (m : Nat) (kw : Nat → S.Rows) (kl : Nat → Bool) (Q : AX → St → Prop) :
 ((fun (A0 : AV) => ((fun (A1 : Tr) => ((fun (A2 : Tr) => ((BrP (decide ((i : Int) < (N : Int)))
 (CdP (.rng (i : Int) N)
 (CdP (.rng (i : Int) N)
 ((FCall (cs13 hbs) f_ref02_SameItems [(.c (.p (.isl 3 (kn i) (S.val (ki i))))), (.c (.p (.isl 3 (kn i) (S.val (ki i)))))] (.c (.p (.bool (S.smI (kn i) (ki i) (kn i) (ki i))))) []) ∧
 (BrP (S.smI (kn i) (ki i) (kn i) (ki i))
 (CdP (.rng (i : Int) N)
 (CdP (.rng (i : Int) N)
 (BrP (!(((pl i) == (pl i)) && (((ph i) == (ph i)) && true)))
 (Q .ret ⟨A1, []⟩)
 (CdP (.rng (i : Int) N)
 (CdP (.rng (i : Int) N)
 ((FCall (cs13 hbs) f_ref02_SameSpans [(.c (.p (.isl 2 m (S.val (kw i))))), (.c (.p (.isl 2 m (S.val (kw i)))))] (.c (.p (.bool (S.smS m (kw i) m (kw i))))) []) ∧
 (BrP (S.smS m (kw i) m (kw i))
 (CdP (.rng (i : Int) N)
 (BrP (kl i)
 (CdP (.rng (i : Int) N)
 (BrP (kl i)
 (CdP (.i64 ((i : Int) + (1 : Int)))
 (Q .normal ⟨A2, []⟩))
 (Q .ret ⟨A1, []⟩)))
 (CdP (.rng (i : Int) N)
 (BrP (kl i)
 (Q .ret ⟨A1, []⟩)
 (CdP (.i64 ((i : Int) + (1 : Int)))
 (Q .normal ⟨A2, []⟩))))))
 (Q .ret ⟨A1, []⟩))))))))
 (Q .ret ⟨A1, []⟩)))))
 (Q (.exit 0) ⟨(.nd (L5 A0 (L1 (vN i))) A0 (L3 (L1 .any))), []⟩)))) (.nd (L5 A0 (L1 (vJ ((i : Int) + (1 : Int))))) A0 (L3 (L1 .any))))) (.nd (L5 A0 (L1 (vN i))) A0 (L3 (L1 (vB false)))))) (.c (.p (.isl 5 N (S.ptG kn ki pl ph m kw kl))))) = (ex (cs13 hbs) (fu + 60) 0 m_ref02_SamePoints_l1 ⟨setAll [(.h, .c (.p (.isl 5 N (S.ptG kn ki pl ph m kw kl)))), (.o .h, .c (.p (.isl 5 N (S.ptG kn ki pl ph m kw kl)))), (.o (.i .h), .c (cJ i))], []⟩ (fun e s => .pr (Q e (trimS [.h, .o .h, .i (.o .h), .o (.i .h)] s)))).hold2 := by kernel_rfl
theorem vc_ref02_SamePoints (N : Nat) (kn : Nat → Nat) (ki : Nat → S.Rows) (pl ph : Nat → Int) (m : Nat) (kw : Nat → S.Rows) (kl : Nat → Bool) (Q : AV → Heap → Prop) :
 ((fun (A0 : AV) => ((BrP ((N : Int) != (N : Int))
 (Q (vB false) [])
 ((LoopGo (ex (cs13 hbs) 994) 0 m_ref02_SamePoints_l1 ⟨(.nd (.nd (L3 (L1 (vJ (N : Int)))) A0 (L6 (L1 (vJ (N : Int))) (vJ 0))) A0 (L4 (L6 (L1 A0) (vB false)) (L6 (L1 (vB false)) A0))), []⟩ (.br (S.from_ (S.smPt (S.ptG kn ki pl ph m kw kl) (S.ptG kn ki pl ph m kw kl)) N 0) (.e (.exit 0) ⟨.lf, []⟩) (.e .ret ⟨(L2 (L3 (L1 (vB false)))), []⟩))) ∧
 (BrP (S.from_ (S.smPt (S.ptG kn ki pl ph m kw kl) (S.ptG kn ki pl ph m kw kl)) N 0)
 (Q (vB true) [])
 (Q (vB false) [])))))) (.c (.p (.isl 5 N (S.ptG kn ki pl ph m kw kl))))) = (ex (cs13 hbs) 1000 0 m_ref02_SamePoints ⟨ofL 0 [.c (.p (.isl 5 N (S.ptG kn ki pl ph m kw kl))), .c (.p (.isl 5 N (S.ptG kn ki pl ph m kw kl)))] .lf, []⟩ (endK F_ref02_SamePoints.rs (fun r H => .pr (Q r H)) fun _ _ => .no)).hold2 := by kernel_rfl
theorem vs_ref02_waters (fu i : Nat) (e mo t l : Int) (nc : Nat) (c : S.Rows) (ns : Nat) (s : S.Rows) (ta tm r : Int) (nf : Nat) (f : S.Rows) (a b : Int) (g : S.Rows) (Q : AX → St → Prop) :
 ((BrP (decide ((i : Int) < (nf : Int)))
 (CdP (.le i i)
 (CdP (.le i i)
 (CdP (.le ((i + 1) * 16) 140737488355328)
 (CdP (.i64 ((i : Int) + (1 : Int)))
 (Q .normal ⟨(L4 (L4 (L1 (vT 1 0)) (L1 (.c (.sl 3 0 (i + 1))))) (.nd (L1 .any) (vT 0 0) (L1 (vJ ((i : Int) + (1 : Int)))))), [(bP e mo t l nc c ns s ta tm r nf f), (some (.box t_api_Span [(cJ a), (cJ b)])), (some (.arr 2 29 i (S.val g) [])), (some (.arr 2 29 (i + 1) (fun x19 => (fun x20 => (if (x19 < i) then (.int .i64 (g x19 x20)) else (List.getD [(.int .i64 a), (.int .i64 b)] (((x19 - i) * 2) + x20) .npt)))) [2]))]⟩)))))
 (Q (.exit 0) ⟨(L4 (L4 (L1 (vT 1 0)) (L1 (.c (.sl 2 0 i)))) (.nd (L1 .any) (vT 0 0) (L1 (vN i)))), [(bP e mo t l nc c ns s ta tm r nf f), (some (.box t_api_Span [(cJ a), (cJ b)])), (some (.arr 2 29 i (S.val g) []))]⟩))) = (ex (cs13 hbs) (fu + 60) 0 m_ref02_waters_l1 ⟨setAll [(.o (.o .h), .c (.pt 1 0)), (.o (.i .h), .c (.sl 2 0 i)), (.i .h, .c (.pt 0 0)), (.i (.i .h), .c (cJ i))], [PB e mo t l nc c ns s ta tm r nf f, some (.box t_api_Span [.p (.int .i64 a), .p (.int .i64 b)]), some (.arr 2 t_api_Span i (S.val g) [])]⟩ (fun e s => .pr (Q e (trimS [.i .h, .i (.i .h), .i (.o .h), .o (.i .h), .o (.o .h)] s)))).hold2 := by kernel_rfl
theorem vc_ref02_waters (e mo t l : Int) (nc : Nat) (c : S.Rows) (ns : Nat) (s : S.Rows) (ta tm r : Int) (nf : Nat) (f : S.Rows) (a b : Int) (Q : AV → Heap → Prop) :
 (((LoopGo (ex (cs13 hbs) 994) 0 m_ref02_waters_l1 ⟨(.nd (.nd (L1 (vT 1 0)) (.ag [(cJ a), (cJ b)]) (L1 (.c (.p .nsl)))) (.ag (kP e mo t l nc c ns s ta tm r nf f)) (.nd (L1 (.c (.p .nsl))) (vT 0 0) (L1 (vJ 0)))), [(bP e mo t l nc c ns s ta tm r nf f), (some (.box t_api_Span [(cJ a), (cJ b)]))]⟩ (.e (.exit 0) ⟨(L3 (L2 (L1 (.c (.sl 2 0 nf))))), [none, none, (some (.arr 2 29 nf (S.val (S.two a b)) []))]⟩)) ∧
 (Q (.c (.sl 2 0 nf)) [none, none, (some (.arr 2 29 nf (S.val (S.two a b)) []))]))) = (ex (cs13 hbs) 1000 0 m_ref02_waters ⟨ofL 0 [.ag (plC e mo t l nc (S.val c) ns (S.val s) ta tm r nf (S.val f)), .ag [.p (.int .i64 a), .p (.int .i64 b)]] .lf, []⟩ (endK F_ref02_waters.rs (fun r H => .pr (Q r H)) fun _ _ => .no)).hold2 := by kernel_rfl
theorem vs_ref02_Points (fu i I : Nat) (e mo t l : Int) (nc : Nat) (c : S.Rows) (ns : Nat) (s : S.Rows) (ta tm r : Int) (nf : Nat) (f : S.Rows) (x y u v : Int) (K0 : Nat) (k : Nat → Nat) (li : Nat → S.Rows) (q : S.Rows) (pu : Nat → Bool) (G : Nat → Nat → PV) (Q : AX → St → Prop) :
 ((fun (A0 : Tr) => ((fun (A1 : Option Blk) => ((fun (A2 : AV) => ((fun (A3 : Option Blk) => ((fun (A4 : Option Blk) => ((fun (A5 : List CV) => ((fun (A6 : Option Blk) => ((BrP (decide ((i : Int) < (K0 : Int)))
 (CdP (.rng (i : Int) K0)
 (BrP (pu i)
 (CdP (.i64 (x + (q i 0)))
 (CdP (.i64 (y + (q i 0)))
 ((FCall (cs13 hbs) f_ref02_waters [A2, (.ag [(cJ 0), (cJ 0)])] (.c (.p (.isl 2 nf (S.val (S.two (0 : Int) (0 : Int)))))) []) ∧
 (CdP (.le I I)
 (CdP (.le I I)
 (CdP (.le ((I + 1) * 72) 140737488355328)
 (CdP (.i64 ((x + (q i 0)) - (q i 2)))
 (CdP (.i64 ((y + (q i 0)) - (q i 1)))
 (CdP (.i64 ((0 : Int) + (q i 3)))
 (CdP (.i64 ((0 : Int) + (q i 4)))
 ((FCall (cs13 hbs) f_ref02_waters [A2, (.ag A5)] (.c (.p (.isl 2 nf (S.val (S.two ((0 : Int) + (q i 3)) ((0 : Int) + (q i 4))))))) []) ∧
 (CdP (.le (I + 1) (I + 1))
 (CdP (.le (I + 1) (I + 1))
 (CdP (.le (((I + 1) + 1) * 72) 140737488355328)
 (CdP (.i64 ((i : Int) + (1 : Int)))
 (Q .normal ⟨A0, [A4, none, A3, (some (.box t_api_Span A5)), A6, A1, (some (.arr 5 64 (I + 1) (fun x27 => (fun x28 => (if (x27 < I) then (G x27 x28) else (List.getD [(.isl 3 (k i) (S.val (li i))), (.int .i64 (x + (q i 0))), (.int .i64 (y + (q i 0))), (.isl 2 nf (S.val (S.two (0 : Int) (0 : Int)))), (.bool false)] (((x27 - I) * 5) + x28) .npt)))) [4])), (some (.arr 5 64 ((I + 1) + 1) (fun x27 => (fun x28 => (if (x27 < (I + 1)) then (if (x27 < I) then (G x27 x28) else (List.getD [(.isl 3 (k i) (S.val (li i))), (.int .i64 (x + (q i 0))), (.int .i64 (y + (q i 0))), (.isl 2 nf (S.val (S.two (0 : Int) (0 : Int)))), (.bool false)] (((x27 - I) * 5) + x28) .npt)) else (List.getD [(.isl 3 (k i) (S.val (li i))), (.int .i64 ((x + (q i 0)) - (q i 2))), (.int .i64 ((y + (q i 0)) - (q i 1))), (.isl 2 nf (S.val (S.two ((0 : Int) + (q i 3)) ((0 : Int) + (q i 4))))), (.bool true)] (((x27 - (I + 1)) * 5) + x28) .npt)))) [6, 4]))]⟩))))))))))))))))
 (CdP (.i64 (x + (q i 0)))
 (CdP (.i64 (y + (q i 0)))
 ((FCall (cs13 hbs) f_ref02_waters [A2, (.ag [(cJ u), (cJ v)])] (.c (.p (.isl 2 nf (S.val (S.two u v))))) []) ∧
 (CdP (.le I I)
 (CdP (.le I I)
 (CdP (.le ((I + 1) * 72) 140737488355328)
 (CdP (.i64 ((x + (q i 0)) - (q i 2)))
 (CdP (.i64 ((y + (q i 0)) - (q i 1)))
 (CdP (.i64 (u + (q i 3)))
 (CdP (.i64 (v + (q i 4)))
 ((FCall (cs13 hbs) f_ref02_waters [A2, (.ag [(cJ (u + (q i 3))), (cJ (v + (q i 4)))])] (.c (.p (.isl 2 nf (S.val (S.two (u + (q i 3)) (v + (q i 4))))))) []) ∧
 (CdP (.le (I + 1) (I + 1))
 (CdP (.le (I + 1) (I + 1))
 (CdP (.le (((I + 1) + 1) * 72) 140737488355328)
 (CdP (.i64 ((i : Int) + (1 : Int)))
 (Q .normal ⟨A0, [A4, none, A3, (some (.box t_api_Span [(cJ (u + (q i 3))), (cJ (v + (q i 4)))])), A6, A1, (some (.arr 5 64 (I + 1) (fun x27 => (fun x28 => (if (x27 < I) then (G x27 x28) else (List.getD [(.isl 3 (k i) (S.val (li i))), (.int .i64 (x + (q i 0))), (.int .i64 (y + (q i 0))), (.isl 2 nf (S.val (S.two u v))), (.bool false)] (((x27 - I) * 5) + x28) .npt)))) [4])), (some (.arr 5 64 ((I + 1) + 1) (fun x27 => (fun x28 => (if (x27 < (I + 1)) then (if (x27 < I) then (G x27 x28) else (List.getD [(.isl 3 (k i) (S.val (li i))), (.int .i64 (x + (q i 0))), (.int .i64 (y + (q i 0))), (.isl 2 nf (S.val (S.two u v))), (.bool false)] (((x27 - I) * 5) + x28) .npt)) else (List.getD [(.isl 3 (k i) (S.val (li i))), (.int .i64 ((x + (q i 0)) - (q i 2))), (.int .i64 ((y + (q i 0)) - (q i 1))), (.isl 2 nf (S.val (S.two (u + (q i 3)) (v + (q i 4))))), (.bool true)] (((x27 - (I + 1)) * 5) + x28) .npt)))) [6, 4]))]⟩))))))))))))))))))
 (Q (.exit 0) ⟨(L4 (L4 (L6 (L1 (.c (.sl 4 0 I))) (vT 0 0)) (L3 (L1 (vT 3 0)))) (.nd (L3 (L1 (vT 2 0))) (.c (.p (.isl 7 K0 (S.legV k li q pu)))) (L3 (L1 (vN i))))), [A4, none, (some (.box t_api_Span [(cJ x), (cJ y)])), (some (.box t_api_Span [(cJ u), (cJ v)])), A6]⟩)))) (some (.arr 5 64 I G [])))) [(cJ ((0 : Int) + (q i 3))), (cJ ((0 : Int) + (q i 4)))])) (bP e mo t l nc c ns s ta tm r nf f))) (some (.box t_api_Span [(cJ ((x + (q i 0)) - (q i 2))), (cJ ((y + (q i 0)) - (q i 1)))])))) (.ag (kP e mo t l nc c ns s ta tm r nf f)))) (some (.box t_api_LoadLeg [(.p (.isl 3 (k i) (S.val (li i)))), (.p (.bool (pu i))), (cJ (q i 0)), (cJ (q i 1)), (cJ (q i 2)), (cJ (q i 3)), (cJ (q i 4))])))) (L4 (L4 (L6 (L1 (.c (.sl 7 0 ((I + 1) + 1)))) (vT 0 0)) (L3 (L1 (vT 3 0)))) (.nd (L3 (L1 (vT 2 0))) (.c (.p (.isl 7 K0 (S.legV k li q pu)))) (L3 (L1 (vJ ((i : Int) + (1 : Int)))))))) = (ex (cs13 hbs) (fu + 60) 0 m_ref02_Points_l1 ⟨setAll [(.o (.o .h), .c (.pt 0 0)), (.o (.o (.o .h)), .c (.sl 4 0 I)), (.o (.i (.o .h)), .c (.pt 3 0)), (.i .h, .c (.p (.isl 7 K0 (S.legV k li q pu)))), (.i (.o (.o .h)), .c (.pt 2 0)), (.i (.i (.o .h)), .c (cJ i))], [PB e mo t l nc c ns s ta tm r nf f, none, some (.box t_api_Span [.p (.int .i64 x), .p (.int .i64 y)]), some (.box t_api_Span [.p (.int .i64 u), .p (.int .i64 v)]), some (.arr 5 t_api_LoadPoint I G [])]⟩ (fun e s => .pr (Q e (trimS [.i .h, .i (.i .h), .o (.o .h), .i (.i (.o .h)), .i (.o (.o .h)), .o (.i (.o .h)), .o (.o (.o .h))] s)))).hold2 := by kernel_rfl
theorem vc_ref02_Points (e mo t l : Int) (nc : Nat) (c : S.Rows) (ns : Nat) (s : S.Rows) (ta tm r : Int) (nf : Nat) (f : S.Rows) (a b : Int) (K0 : Nat) (k : Nat → Nat) (li : Nat → S.Rows) (q : S.Rows) (pu : Nat → Bool) (Q : AV → Heap → Prop) :
 ((fun (A0 : Heap) => (((LoopGo (ex (cs13 hbs) 993) 0 m_ref02_Points_l1 ⟨(.nd (.nd (L6 (L1 (.c (.p .nsl))) (vT 0 0)) (.ag [(cJ a), (cJ b)]) (L4 (L1 (vT 3 0)) (L1 (.ag [(cJ 0), (cJ 0)])))) (.ag (kP e mo t l nc c ns s ta tm r nf f)) (.nd (.nd (L1 (vT 2 0)) (vT 1 0) (L1 (.ag [(cJ a), (cJ b)]))) (.c (.p (.isl 7 K0 (S.legV k li q pu)))) (L6 (L1 (vJ 0)) (.c (.p .nsl))))), [(bP e mo t l nc c ns s ta tm r nf f), (some (.box t_api_Span [(cJ a), (cJ b)])), (some (.box t_api_Span [(cJ a), (cJ b)])), (some (.box t_api_Span [(cJ 0), (cJ 0)]))]⟩ (.e (.exit 0) ⟨(L3 (L3 (L3 (L1 (.c (.sl 4 0 (2 * K0))))))), A0⟩)) ∧
 (Q (.c (.sl 4 0 (2 * K0))) A0)))) [none, none, none, none, (some (.arr 5 64 (2 * K0) (S.ptV a b nf (S.legV k li q pu)) []))]) = (ex (cs13 hbs) 1000 0 m_ref02_Points ⟨ofL 0 [.ag (plC e mo t l nc (S.val c) ns (S.val s) ta tm r nf (S.val f)), .ag [.p (.int .i64 a), .p (.int .i64 b)], .c (.p (.isl 7 K0 (S.legV k li q pu)))] .lf, []⟩ (endK F_ref02_Points.rs (fun r H => .pr (Q r H)) fun _ _ => .no)).hold2 := by kernel_rfl
theorem vc_load_Points (e mo t l : Int) (nc : Nat) (c : S.Rows) (ns : Nat) (s : S.Rows) (ta tm r : Int) (nf : Nat) (f : S.Rows) (a b : Int) (K0 : Nat) (k : Nat → Nat) (li : Nat → S.Rows) (q : S.Rows) (pu : Nat → Bool) (Q : AV → Heap → Prop) :
 ((fun (A0 : AV) => ((fun (A1 : Heap) => ((fun (A2 : AV) => (((FCall (cs13 hbs) f_load_tripError [(.ag (kP e mo t l nc c ns s ta tm r nf f)), (.ag [(cJ a), (cJ b)]), (.c (.p (.isl 7 K0 (S.legV k li q pu))))] A0 []) ∧
 (BrP ((S.tErr (S.plane e mo t l nc c ns s ta tm r nf f) (ns : Int) a b K0 (S.legV k li q pu)) != (0 : Int))
 (Q (.tp [(.c (.p .nsl)), A0]) A1)
 ((FCall (cs13 hbs) f_load_pointsOf [(.ag (kP e mo t l nc c ns s ta tm r nf f)), (.ag [(cJ a), (cJ b)]), (.c (.p (.isl 7 K0 (S.legV k li q pu))))] A2 []) ∧
 (Q (.tp [A2, (vJ 0)]) A1)))))) (.c (.p (.isl 5 (2 * K0) (S.ptV a b nf (S.legV k li q pu))))))) [(bP e mo t l nc c ns s ta tm r nf f), (some (.box t_api_Span [(cJ a), (cJ b)]))])) (vJ (S.tErr (S.plane e mo t l nc c ns s ta tm r nf f) (ns : Int) a b K0 (S.legV k li q pu)))) = (ex (cs13 hbs) 1000 0 m_load_Points ⟨ofL 0 [.ag (plC e mo t l nc (S.val c) ns (S.val s) ta tm r nf (S.val f)), .ag [.p (.int .i64 a), .p (.int .i64 b)], .c (.p (.isl 7 K0 (S.legV k li q pu)))] .lf, []⟩ (endK F_load_Points.rs (fun r H => .pr (Q r H)) fun _ _ => .no)).hold2 := by kernel_rfl
theorem vs_ref02_Trip (fu i : Nat) (e mo t l : Int) (nc : Nat) (c : S.Rows) (ns : Nat) (s : S.Rows) (ta tm r : Int) (nf : Nat) (f : S.Rows) (N : Nat) (kn : Nat → Nat) (ki : Nat → S.Rows) (pl ph : Nat → Int) (m : Nat) (kw : Nat → S.Rows) (kl : Nat → Bool) (Q : AX → St → Prop) :
 ((fun (A0 : List CV) => ((fun (A1 : Tr) => ((fun (A2 : AV) => ((fun (A3 : AV) => ((fun (A4 : Heap) => ((BrP (decide ((i : Int) < (N : Int)))
 (CdP (.rng (i : Int) N)
 ((FCall (cs13 hbs) f_ref02_Sure [(.ag (kP e mo t l nc c ns s ta tm r nf f)), (.ag [(.p (.isl 3 (kn i) (S.val (ki i)))), (cJ (pl i)), (cJ (ph i)), (.p (.isl 2 m (S.val (kw i)))), (.p (.bool (kl i)))])] (.tp [A2, A3, (.ag A0)]) []) ∧
 (BrP ((S.srR e mo t l nc c ns s ta tm r nf f (kn i) (ki i) (pl i) (ph i) m (kw i) (kl i)) != (1 : Int))
 (Q .ret ⟨(L4 (L4 (L6 (L1 A2) (vT 0 0)) A1) (L4 (L3 (L1 A3)) (L6 (L1 (vN i)) (vN i)))), A4⟩)
 (CdP (.i64 ((i : Int) + (1 : Int)))
 (Q .normal ⟨(L4 (L4 (L6 (L1 .any) (vT 0 0)) A1) (L4 (L3 (L1 .any)) (L3 (L1 (vJ ((i : Int) + (1 : Int))))))), A4⟩)))))
 (Q (.exit 0) ⟨(L4 (L4 (L6 (L1 .any) (vT 0 0)) A1) (L4 (L3 (L1 .any)) (L3 (L1 (vN i))))), [(bP e mo t l nc c ns s ta tm r nf f)]⟩)))) [(bP e mo t l nc c ns s ta tm r nf f), (some (.box t_api_LoadCase A0))])) (vJ (S.p2 e mo t l nc c ns s ta tm r nf f (kn i) (ki i) (pl i) (ph i) m (kw i) (kl i))))) (vJ (S.srR e mo t l nc c ns s ta tm r nf f (kn i) (ki i) (pl i) (ph i) m (kw i) (kl i))))) (L3 (L1 (.c (.p (.isl 5 N (S.ptG kn ki pl ph m kw kl)))))))) [(.p (.isl 1 (S.p3 e mo t l nc c ns s ta tm r nf f (kn i) (ki i) (pl i) (ph i) m (kw i) (kl i)) (S.val (S.p4 e mo t l nc c ns s ta tm r nf f (kn i) (ki i) (pl i) (ph i) m (kw i) (kl i))))), (cJ (S.p5 e mo t l nc c ns s ta tm r nf f (kn i) (ki i) (pl i) (ph i) m (kw i) (kl i))), (.p (.isl 1 (S.p6 e mo t l nc c ns s ta tm r nf f (kn i) (ki i) (pl i) (ph i) m (kw i) (kl i)) (S.val (S.p7 e mo t l nc c ns s ta tm r nf f (kn i) (ki i) (pl i) (ph i) m (kw i) (kl i)))))]) = (ex (cs13 hbs) (fu + 60) 0 m_ref02_Trip_l1 ⟨setAll [(.o (.o .h), .c (.pt 0 0)), (.o (.i (.o .h)), .c (.p (.isl 5 N (S.ptG kn ki pl ph m kw kl)))), (.i (.i (.o .h)), .c (cJ i))], [PB e mo t l nc c ns s ta tm r nf f]⟩ (fun e s => .pr (Q e (trimS [.i (.i .h), .o (.o .h), .i (.i (.o .h)), .i (.o (.o .h)), .o (.i (.o .h)), .o (.o (.o .h))] s)))).hold2 := by kernel_rfl
theorem vc_ref02_Trip (e mo t l : Int) (nc : Nat) (c : S.Rows) (ns : Nat) (s : S.Rows) (ta tm r : Int) (nf : Nat) (f : S.Rows) (a b : Int) (K0 : Nat) (k : Nat → Nat) (li : Nat → S.Rows) (q : S.Rows) (pu : Nat → Bool) (Q : AV → Heap → Prop) :
 ((fun (A0 : AV) => ((fun (A1 : AV) => ((fun (A2 : AV) => ((fun (A3 : AV) => ((fun (A4 : AV) => ((fun (A5 : AV) => (((FCall (cs13 hbs) f_ref02_Points [A4, (.ag [(cJ a), (cJ b)]), A5] A2 []) ∧
 ((LoopGo (ex (cs13 hbs) 994) 0 m_ref02_Trip_l1 ⟨(.nd (.nd (L6 (L6 (L1 (.ag [(cJ a), (cJ b)])) (vJ 0)) (vT 0 0)) (.ag [(cJ a), (cJ b)]) (L3 (L6 (L1 A2) A2))) A4 (.nd (L6 (L6 (L1 A5) (vJ 0)) (vT 1 0)) A5 (.nd (L1 (vJ 0)) (vJ 0) (L1 A4)))), [(bP e mo t l nc c ns s ta tm r nf f), (some (.box t_api_Span [(cJ a), (cJ b)]))]⟩ (.br (S.from_ (S.sureH e mo t l nc c ns s ta tm r nf f (S.ptV a b nf (S.legV k li q pu))) (2 * K0) 0) (.e (.exit 0) ⟨.lf, []⟩) (.e .ret ⟨(L4 (L3 (L3 (L1 A0))) (L4 (L3 (L1 A1)) (L1 A3))), []⟩))) ∧
 (BrP (S.from_ (S.sureH e mo t l nc c ns s ta tm r nf f (S.ptV a b nf (S.legV k li q pu))) (2 * K0) 0)
 (Q (.tp [(vJ (-(1 : Int))), (vJ 1), (vJ 0)]) [])
 (Q (.tp [A3, A0, A1]) [])))))) (.c (.p (.isl 7 K0 (S.legV k li q pu)))))) (.ag (kP e mo t l nc c ns s ta tm r nf f)))) (vJ (((S.fst (S.sureH e mo t l nc c ns s ta tm r nf f (S.ptV a b nf (S.legV k li q pu))) (2 * K0) 0) : Nat) : Int)))) (.c (.p (.isl 5 (2 * K0) (S.ptV a b nf (S.legV k li q pu))))))) (vJ (S.broI (S.ruH e mo t l nc c ns s ta tm r nf f (S.ptV a b nf (S.legV k li q pu)) (S.fst (S.sureH e mo t l nc c ns s ta tm r nf f (S.ptV a b nf (S.legV k li q pu))) (2 * K0) 0)))))) (vJ (S.broR (S.ruH e mo t l nc c ns s ta tm r nf f (S.ptV a b nf (S.legV k li q pu)) (S.fst (S.sureH e mo t l nc c ns s ta tm r nf f (S.ptV a b nf (S.legV k li q pu))) (2 * K0) 0))))) = (ex (cs13 hbs) 1000 0 m_ref02_Trip ⟨ofL 0 [.ag (plC e mo t l nc (S.val c) ns (S.val s) ta tm r nf (S.val f)), .ag [.p (.int .i64 a), .p (.int .i64 b)], .c (.p (.isl 7 K0 (S.legV k li q pu)))] .lf, []⟩ (endK F_ref02_Trip.rs (fun r H => .pr (Q r H)) fun _ _ => .no)).hold2 := by kernel_rfl
theorem vc_law02_LoadTrips (e mo t l : Int) (nc : Nat) (c : S.Rows) (ns : Nat) (s : S.Rows) (ta tm r : Int) (nf : Nat) (f : S.Rows) (a b : Int) (K0 : Nat) (k : Nat → Nat) (li : Nat → S.Rows) (q : S.Rows) (pu : Nat → Bool) (Q : AV → Heap → Prop) :
 ((fun (A0 : Heap) => ((fun (A1 : AV) => ((fun (A2 : AV) => ((fun (A3 : AV) => ((fun (A4 : AV) => ((fun (A5 : AV) => ((fun (A6 : AV) => ((BrP (decide ((nc : Int) ≤ (20 : Int)))
 (BrP (decide ((ns : Int) ≤ (20 : Int)))
 (BrP (decide ((nf : Int) ≤ (10 : Int)))
 ((FCall (cs13 hbs) f_law02_few [A1] (.c (.p (.bool (S.fewB K0 (S.legV k li q pu))))) []) ∧
 (BrP (S.fewB K0 (S.legV k li q pu))
 ((FCall (cs13 hbs) f_load_Points [A2, A5, A1] (.tp [A4, A3]) []) ∧
 ((FCall (cs13 hbs) f_load_Trip [A2, A5, A1] (.tp [(vJ (S.tA e mo t l nc c ns s ta tm r nf f a b K0 (S.legV k li q pu))), (vJ (S.tR e mo t l nc c ns s ta tm r nf f a b K0 (S.legV k li q pu))), (vJ (S.tI e mo t l nc c ns s ta tm r nf f a b K0 (S.legV k li q pu))), A3]) []) ∧
 ((FCall (cs13 hbs) f_law02_refused [A2, A5, A1, (vB true)] A3 []) ∧
 (BrP ((S.tE e mo t l nc c ns s ta tm r nf f a b K0 (S.legV k li q pu)) != (0 : Int))
 (BrP ((S.tE e mo t l nc c ns s ta tm r nf f a b K0 (S.legV k li q pu)) == (S.tE e mo t l nc c ns s ta tm r nf f a b K0 (S.legV k li q pu)))
 (BrP ((S.tE e mo t l nc c ns s ta tm r nf f a b K0 (S.legV k li q pu)) == (S.tE e mo t l nc c ns s ta tm r nf f a b K0 (S.legV k li q pu)))
 (BrP ((((S.tN e mo t l nc c ns s ta tm r nf f a b K0 (S.legV k li q pu)) : Nat) : Int) == (0 : Int))
 (BrP ((S.tA e mo t l nc c ns s ta tm r nf f a b K0 (S.legV k li q pu)) == (0 : Int))
 (BrP ((S.tR e mo t l nc c ns s ta tm r nf f a b K0 (S.legV k li q pu)) == (0 : Int))
 (BrP ((S.tI e mo t l nc c ns s ta tm r nf f a b K0 (S.legV k li q pu)) == (0 : Int))
 ((FCall (cs13 hbs) f_law02_known [] (vB true) []) ∧
 (Q (vB true) A0))
 (Q (vB false) A0))
 (Q (vB false) A0))
 (Q (vB false) A0))
 (Q (vB false) A0))
 (Q (vB false) A0))
 (Q (vB false) A0))
 ((FCall (cs13 hbs) f_ref02_Trip [A2, A5, A1] (.tp [(vJ (S.rA e mo t l nc c ns s ta tm r nf f a b K0 (S.legV k li q pu))), (vJ (S.rR e mo t l nc c ns s ta tm r nf f a b K0 (S.legV k li q pu))), (vJ (S.rI e mo t l nc c ns s ta tm r nf f a b K0 (S.legV k li q pu)))]) []) ∧
 (BrP ((S.tE e mo t l nc c ns s ta tm r nf f a b K0 (S.legV k li q pu)) == (0 : Int))
 (BrP ((S.tE e mo t l nc c ns s ta tm r nf f a b K0 (S.legV k li q pu)) == (0 : Int))
 ((FCall (cs13 hbs) f_ref02_Points [A2, A5, A1] A6 []) ∧
 ((FCall (cs13 hbs) f_ref02_SamePoints [A4, A6] (.c (.p (.bool (S.smP (S.tN e mo t l nc c ns s ta tm r nf f a b K0 (S.legV k li q pu)) (S.ptV a b nf (S.legV k li q pu)) (2 * K0) (S.ptV a b nf (S.legV k li q pu)))))) []) ∧
 (BrP (S.smP (S.tN e mo t l nc c ns s ta tm r nf f a b K0 (S.legV k li q pu)) (S.ptV a b nf (S.legV k li q pu)) (2 * K0) (S.ptV a b nf (S.legV k li q pu)))
 (BrP ((S.tA e mo t l nc c ns s ta tm r nf f a b K0 (S.legV k li q pu)) == (S.rA e mo t l nc c ns s ta tm r nf f a b K0 (S.legV k li q pu)))
 (BrP ((S.tR e mo t l nc c ns s ta tm r nf f a b K0 (S.legV k li q pu)) == (S.rR e mo t l nc c ns s ta tm r nf f a b K0 (S.legV k li q pu)))
 (BrP ((S.tI e mo t l nc c ns s ta tm r nf f a b K0 (S.legV k li q pu)) == (S.rI e mo t l nc c ns s ta tm r nf f a b K0 (S.legV k li q pu)))
 ((FCall (cs13 hbs) f_law02_known [] (vB true) []) ∧
 (Q (vB true) A0))
 (Q (vB false) A0))
 (Q (vB false) A0))
 (Q (vB false) A0))
 (Q (vB false) A0))))
 (Q (vB false) A0))
 (Q (vB false) A0)))))))
 ((FCall (cs13 hbs) f_law02_known [] (vB true) []) ∧
 (Q (vB true) A0))))
 ((FCall (cs13 hbs) f_law02_known [] (vB true) []) ∧
 (Q (vB true) A0)))
 ((FCall (cs13 hbs) f_law02_known [] (vB true) []) ∧
 (Q (vB true) A0)))
 ((FCall (cs13 hbs) f_law02_known [] (vB true) []) ∧
 (Q (vB true) A0))))) (.c (.p (.isl 5 (2 * K0) (S.ptV a b nf (S.legV k li q pu))))))) (.ag [(cJ a), (cJ b)]))) (.c (.p (.isl 5 (S.tN e mo t l nc c ns s ta tm r nf f a b K0 (S.legV k li q pu)) (S.ptV a b nf (S.legV k li q pu))))))) (vJ (S.tE e mo t l nc c ns s ta tm r nf f a b K0 (S.legV k li q pu))))) (.ag (kP e mo t l nc c ns s ta tm r nf f)))) (.c (.p (.isl 7 K0 (S.legV k li q pu)))))) [(bP e mo t l nc c ns s ta tm r nf f), (some (.box t_api_Span [(cJ a), (cJ b)]))]) = (ex (cs13 hbs) 1000 0 m_law02_LoadTrips ⟨ofL 0 [.ag (plC e mo t l nc (S.val c) ns (S.val s) ta tm r nf (S.val f)), .ag [.p (.int .i64 a), .p (.int .i64 b)], .c (.p (.isl 7 K0 (S.legV k li q pu)))] .lf, []⟩ (endK F_law02_LoadTrips.rs (fun r H => .pr (Q r H)) fun _ _ => .no)).hold2 := by kernel_rfl
end
end Go.Ab.B
namespace Go.Ab.S
theorem all_refl {p : Nat → Bool} {n : Nat} (h : ∀ j, j < n → p j = true) : from_ p n 0 = true := from_iff.2 fun j _ hj => h j hj
theorem SameItems_r (c : Rows) (j : Nat) : eq3 c c j = true := by simp [eq3]
theorem SameSpans_r (c : Rows) (j : Nat) : eq2 c c j = true := by simp [eq2]
theorem smI_r (n : Nat) (c : Rows) : smI n c n c = true := by simp [smI, all_refl fun j _ => SameItems_r c j]
theorem smS_r (n : Nat) (c : Rows) : smS n c n c = true := by simp [smS, all_refl fun j _ => SameSpans_r c j]
theorem SamePoints_r (f : Nat → Nat → PV) (j : Nat) : smPt f f j = true := by simp [smPt, smI_r, smS_r]
theorem smP_r (n : Nat) (f : Nat → Nat → PV) : smP n f n f = true := by simp [smP, all_refl fun j _ => SamePoints_r f j]
theorem two_val {g : Rows} {a b : Int} {j w z : Nat} (hw : w < j + 1) (hz : z < 2) : (if w < j then PV.int .i64 (two a b w z) else List.getD [.int .i64 a, .int .i64 b] ((w - j) * 2 + z) .npt) = val (two a b) w z := by
  split
  · rfl
  · obtain rfl : w = j := by omega
    rw [Nat.sub_self]
    match z, hz with
    | 0, _ => rfl
    | 1, _ => rfl
theorem es (a b : Int) : a - b = a + (0 - b) := by omega
end Go.Ab.S
namespace Go.Ab.B
open Go.Proofs
section
variable {hbs : BsOk Tryz.prog} (hT : TabOk (cs hbs)) (hT3 : TabOk (cs3 hbs)) (hT4 : TabOk (cs4 hbs)) (hT6 : TabOk (cs6 hbs)) (hT7 : TabOk (cs7 hbs)) (hT9 : TabOk (cs9 hbs)) (hT10 : TabOk (cs10 hbs)) (hT11 : TabOk (cs11 hbs)) (hT12 : TabOk (cs12 hbs)) (hT13 : TabOk (cs13 hbs))
abbrev lvSm (L : AV) (i : Nat) : List (Ps × AV) := [(.h, L), (.o .h, L), (.o (.i .h), .c (.p (.int .i64 i)))]
abbrev trSm (B : Bool) : LTree := .br B (.e (.exit 0) ⟨.lf, []⟩) (.e .ret ⟨setAll [((.i (.o .h)), vB false)], []⟩)
theorem go_ref02_SameItems (fu : Nat) (n : Nat) (c : S.Rows) (hn : n ≤ maxLen) : ∀ (i : Nat) (st : St), i ≤ n → (∃ ρ, HasR 0 ρ st (lvSm (.c (.p (.isl 3 n (S.val c)))) i) []) → LoopGo (ex (cs13 hbs) (fu + 60)) 0 m_ref02_SameItems_l1 st (trSm (S.from_ (S.eq3 c c) n 0)) :=
  loop_kT (σ := Nat) (lvSm (.c (.p (.isl 3 n (S.val c))))) (fun _ => []) (fun i => i ≤ n) (fun i => n - i) (fun _ => trSm (S.from_ (S.eq3 c c) n 0)) _ (fun i Q => vs_ref02_SameItems (hbs := hbs) fu i n c Q) fun i hi' K hL X hX => by
    have hE : S.from_ (S.eq3 c c) n 0 = true := S.all_refl fun j _ => S.SameItems_r _ j
    have hL2 := hL
    simp only [trSm, hE] at hL2
    refine brP (fun h1 => ?_) fun h1 => HasR.out (l := []) (HasR.mk (ρ := []) rfl rfl (by simp [WH]) trivial) hL2
    have hlt : i < n := by simpa using h1
    refine cdP (idx_ok hlt) (cdP (idx_ok hlt) (brP (fun h2 => by simp at h2) fun h2 => cdP (i64_nat hlt hn) ?_))
    exact hX (i + 1) _ (by omega) (by omega) ⟨[], HasR.mk _ rfl rfl (by simp [WH]) ⟨.inl rfl, .inl rfl, .inl rfl, trivial⟩⟩ hL
include hT13 in
theorem fc_ref02_SameItems (n : Nat) (c : S.Rows) (hn : n ≤ maxLen) : FCall (cs13 hbs) f_ref02_SameItems [.c (.p (.isl 3 n (S.val c))), .c (.p (.isl 3 n (S.val c)))] (vB (S.smI n c n c)) [] :=
  fcall_k hT13 (F := F_ref02_SameItems) rfl (vc_ref02_SameItems n c _) (brP (fun h => by simp at h) fun _ => ⟨go_ref02_SameItems 934 n c hn 0 _ (Nat.zero_le _) ⟨[], HasR.mk _ rfl rfl (by simp [WH]) ⟨.inl rfl, .inl rfl, .inl rfl, trivial⟩⟩, brP (fun _ => frz_b (S.smI_r n c)) fun h => by rw [S.all_refl fun j _ => S.SameItems_r c j] at h; cases h⟩)
theorem go_ref02_SameSpans (fu : Nat) (n : Nat) (c : S.Rows) (hn : n ≤ maxLen) : ∀ (i : Nat) (st : St), i ≤ n → (∃ ρ, HasR 0 ρ st (lvSm (.c (.p (.isl 2 n (S.val c)))) i) []) → LoopGo (ex (cs13 hbs) (fu + 60)) 0 m_ref02_SameSpans_l1 st (trSm (S.from_ (S.eq2 c c) n 0)) :=
  loop_kT (σ := Nat) (lvSm (.c (.p (.isl 2 n (S.val c))))) (fun _ => []) (fun i => i ≤ n) (fun i => n - i) (fun _ => trSm (S.from_ (S.eq2 c c) n 0)) _ (fun i Q => vs_ref02_SameSpans (hbs := hbs) fu i n c Q) fun i hi' K hL X hX => by
    have hE : S.from_ (S.eq2 c c) n 0 = true := S.all_refl fun j _ => S.SameSpans_r _ j
    have hL2 := hL
    simp only [trSm, hE] at hL2
    refine brP (fun h1 => ?_) fun h1 => HasR.out (l := []) (HasR.mk (ρ := []) rfl rfl (by simp [WH]) trivial) hL2
    have hlt : i < n := by simpa using h1
    refine cdP (idx_ok hlt) (cdP (idx_ok hlt) (brP (fun h2 => by simp at h2) fun h2 => cdP (i64_nat hlt hn) ?_))
    exact hX (i + 1) _ (by omega) (by omega) ⟨[], HasR.mk _ rfl rfl (by simp [WH]) ⟨.inl rfl, .inl rfl, .inl rfl, trivial⟩⟩ hL
include hT13 in
theorem fc_ref02_SameSpans (n : Nat) (c : S.Rows) (hn : n ≤ maxLen) : FCall (cs13 hbs) f_ref02_SameSpans [.c (.p (.isl 2 n (S.val c))), .c (.p (.isl 2 n (S.val c)))] (vB (S.smS n c n c)) [] :=
  fcall_k hT13 (F := F_ref02_SameSpans) rfl (vc_ref02_SameSpans n c _) (brP (fun h => by simp at h) fun _ => ⟨go_ref02_SameSpans 934 n c hn 0 _ (Nat.zero_le _) ⟨[], HasR.mk _ rfl rfl (by simp [WH]) ⟨.inl rfl, .inl rfl, .inl rfl, trivial⟩⟩, brP (fun _ => frz_b (S.smS_r n c)) fun h => by rw [S.all_refl fun j _ => S.SameSpans_r c j] at h; cases h⟩)
include hT13 in
theorem go_ref02_SamePoints (fu : Nat) (N : Nat) (kn : Nat → Nat) (ki : Nat → S.Rows) (pl ph : Nat → Int) (m : Nat) (kw : Nat → S.Rows) (kl : Nat → Bool) (hn : N ≤ maxLen) (hk : ∀ i, i < N → kn i ≤ maxLen) (hm : m ≤ maxLen) : ∀ (i : Nat) (st : St), i ≤ N → (∃ ρ, HasR 0 ρ st (lvSm (.c (.p (.isl 5 N (S.ptG kn ki pl ph m kw kl)))) i) []) → LoopGo (ex (cs13 hbs) (fu + 60)) 0 m_ref02_SamePoints_l1 st (trSm (S.from_ (S.smPt (S.ptG kn ki pl ph m kw kl) (S.ptG kn ki pl ph m kw kl)) N 0)) :=
  loop_kT (σ := Nat) (lvSm (.c (.p (.isl 5 N (S.ptG kn ki pl ph m kw kl))))) (fun _ => []) (fun i => i ≤ N) (fun i => N - i) (fun _ => trSm (S.from_ (S.smPt (S.ptG kn ki pl ph m kw kl) (S.ptG kn ki pl ph m kw kl)) N 0)) _ (fun i Q => vs_ref02_SamePoints (hbs := hbs) fu i N kn ki pl ph m kw kl Q) fun i hi' K hL X hX => by
    have hE : S.from_ (S.smPt (S.ptG kn ki pl ph m kw kl) (S.ptG kn ki pl ph m kw kl)) N 0 = true := S.all_refl fun j _ => S.SamePoints_r _ j
    have hL2 := hL
    simp only [trSm, hE] at hL2
    refine brP (fun h1 => ?_) fun h1 => HasR.out (l := []) (HasR.mk (ρ := []) rfl rfl (by simp [WH]) trivial) hL2
    have hlt : i < N := by simpa using h1
    have go : ∀ s', (∃ ρ, HasR 0 ρ s' (lvSm (.c (.p (.isl 5 N (S.ptG kn ki pl ph m kw kl)))) (i + 1)) []) → X s' := fun s' h => hX (i + 1) s' (by omega) (by omega) h hL
    refine cdP (idx_ok hlt) (cdP (idx_ok hlt) ⟨fc_ref02_SameItems hT13 (kn i) (ki i) (hk i hlt), brP (fun _ => ?_) fun h => ?_⟩)
    · refine cdP (idx_ok hlt) (cdP (idx_ok hlt) (brP (fun h => by simp at h) fun _ => ?_))
      refine cdP (idx_ok hlt) (cdP (idx_ok hlt) ⟨fc_ref02_SameSpans hT13 m (kw i) hm, brP (fun _ => ?_) fun h => ?_⟩)
      · refine cdP (idx_ok hlt) (brP (fun h3 => cdP (idx_ok hlt) (brP (fun _ => cdP (i64_nat hlt hn) (go _ ⟨[], HasR.mk _ rfl rfl (by simp [WH]) ⟨.inl rfl, .inl rfl, .inl rfl, trivial⟩⟩)) fun h4 => by rw [h3] at h4; cases h4)) fun h3 => cdP (idx_ok hlt) (brP (fun h4 => by rw [h3] at h4; cases h4) fun _ => cdP (i64_nat hlt hn) (go _ ⟨[], HasR.mk _ rfl rfl (by simp [WH]) ⟨.inl rfl, .inl rfl, .inl rfl, trivial⟩⟩)))
      · have h : S.smS m (kw i) m (kw i) = false := h
        rw [S.smS_r] at h; cases h
    · have h : S.smI (kn i) (ki i) (kn i) (ki i) = false := h
      rw [S.smI_r] at h; cases h
include hT13 in
theorem fc_ref02_SamePoints (N : Nat) (kn : Nat → Nat) (ki : Nat → S.Rows) (pl ph : Nat → Int) (m : Nat) (kw : Nat → S.Rows) (kl : Nat → Bool) (hn : N ≤ maxLen) (hk : ∀ i, i < N → kn i ≤ maxLen) (hm : m ≤ maxLen) : FCall (cs13 hbs) f_ref02_SamePoints [.c (.p (.isl 5 N (S.ptG kn ki pl ph m kw kl))), .c (.p (.isl 5 N (S.ptG kn ki pl ph m kw kl)))] (vB (S.smP N (S.ptG kn ki pl ph m kw kl) N (S.ptG kn ki pl ph m kw kl))) [] :=
  fcall_k hT13 (F := F_ref02_SamePoints) rfl (vc_ref02_SamePoints N kn ki pl ph m kw kl _) (brP (fun h => by simp at h) fun _ => ⟨go_ref02_SamePoints hT13 934 N kn ki pl ph m kw kl hn hk hm 0 _ (Nat.zero_le _) ⟨[], HasR.mk _ rfl rfl (by simp [WH]) ⟨.inl rfl, .inl rfl, .inl rfl, trivial⟩⟩, brP (fun _ => frz_b (S.smP_r N _)) fun h => by rw [S.all_refl fun j _ => S.SamePoints_r _ j] at h; cases h⟩)
abbrev hpWa (e mo t l : Int) (nc : Nat) (c : S.Rows) (ns : Nat) (s : S.Rows) (ta tm r : Int) (nf : Nat) (f : S.Rows) (a b : Int) (i : Nat) : Heap := [PB e mo t l nc c ns s ta tm r nf f, some (.box t_api_Span [.p (.int .i64 a), .p (.int .i64 b)]), some (.arr 2 t_api_Span i (S.val (S.two a b)) [])]
abbrev lvWa (i : Nat) : List (Ps × AV) := [(.o (.o .h), .c (.pt 1 0)), (.o (.i .h), .c (.sl 2 0 i)), (.i .h, .c (.pt 0 0)), (.i (.i .h), .c (.p (.int .i64 i)))]
theorem go_ref02_waters (fu : Nat) (e mo t l : Int) (nc : Nat) (c : S.Rows) (ns : Nat) (s : S.Rows) (ta tm r : Int) (nf : Nat) (f : S.Rows) (a b : Int) (hnf : nf ≤ 1000) : ∀ (i : Nat) (st : St), i ≤ nf → (∃ ρ, HasR 0 ρ st (lvWa i) (hpWa e mo t l nc c ns s ta tm r nf f a b i)) → LoopGo (ex (cs13 hbs) (fu + 60)) 0 m_ref02_waters_l1 st (.e (.exit 0) ⟨setAll [(.o (.i .h), .c (.sl 2 0 nf))], [none, none, some (.arr 2 t_api_Span nf (S.val (S.two a b)) [])]⟩) :=
  loop_kT (σ := Nat) lvWa (hpWa e mo t l nc c ns s ta tm r nf f a b) (fun i => i ≤ nf) (fun i => nf - i) (fun _ => .e (.exit 0) ⟨setAll [(.o (.i .h), .c (.sl 2 0 nf))], [none, none, some (.arr 2 t_api_Span nf (S.val (S.two a b)) [])]⟩) _ (fun i Q => vs_ref02_waters (hbs := hbs) fu i e mo t l nc c ns s ta tm r nf f a b (S.two a b) Q) fun i hi' K hL X hX => by
    refine brP (fun h1 => ?_) fun h1 => ?_
    · have hlt : i < nf := by simpa using h1
      refine cdP (Nat.le_refl _) (cdP (Nat.le_refl _) (cdP (by simp [Cd.holds]; omega) (cdP (by simp [Cd.holds]; omega) ?_)))
      refine hX (i + 1) _ (by omega) (by omega) ⟨[some 0, some 1, some 3], HasR.mk _ rfl rfl ?_ ?_⟩ hL
      · refine ⟨⟨rfl, ?_⟩, ⟨rfl, .inl rfl, .inl rfl, trivial⟩, ⟨rfl, rfl, rfl, fun w z hw hz => S.two_val (g := S.two a b) hw hz, rfl⟩, trivial⟩
        simp [WL, WC, WP', plC]
      · simp [LiveR, WA, WC, WP', Tr.get]
    · have hlt : nf ≤ i := by simpa using h1
      obtain rfl : i = nf := by omega
      refine HasR.out (l := [(.o (.i .h), .c (.sl 2 0 i))]) (HasR.mk (ρ := [none, none, some 2]) rfl rfl ?_ ?_) hL
      · exact ⟨trivial, trivial, ⟨rfl, rfl, rfl, fun _ _ _ _ => rfl, rfl⟩, trivial⟩
      · simp [LiveR, WA, WC, WP', Tr.get]
include hT13 in
theorem fc_ref02_waters (e mo t l : Int) (nc : Nat) (c : S.Rows) (ns : Nat) (s : S.Rows) (ta tm r : Int) (nf : Nat) (f : S.Rows) (a b : Int) (hnf : nf ≤ 1000) : FCall (cs13 hbs) f_ref02_waters [.ag (plC e mo t l nc (S.val c) ns (S.val s) ta tm r nf (S.val f)), .ag [.p (.int .i64 a), .p (.int .i64 b)]] (.c (.p (.isl 2 nf (S.val (S.two a b))))) [] := by
  have F : FCall (cs13 hbs) f_ref02_waters [.ag (plC e mo t l nc (S.val c) ns (S.val s) ta tm r nf (S.val f)), .ag [.p (.int .i64 a), .p (.int .i64 b)]] (.c (.p (.isl 2 nf fun i j => S.val (S.two a b) (0 + i) j))) [] :=
    fcall_k hT13 (F := F_ref02_waters) rfl (vc_ref02_waters e mo t l nc c ns s ta tm r nf f a b _) ⟨go_ref02_waters 934 e mo t l nc c ns s ta tm r nf f a b hnf 0 _ (Nat.zero_le _) ⟨[some 0, some 1, none], HasR.mk _ rfl rfl ?_ ?_⟩, rfl⟩
  · refine FCall.mono_r F fun w Z φ u hr => ?_
    simp only [RepA, RepC] at hr ⊢
    exact isl_congr (fun i j _ _ => by rw [Nat.zero_add]) hr
  · refine ⟨⟨rfl, ?_⟩, ⟨rfl, .inl rfl, .inl rfl, trivial⟩, rfl, trivial⟩
    simp [WL, WC, WP', plC]
  · simp [LiveR, WA, WC, WP', Tr.get]
abbrev lvPt (K0 : Nat) (k : Nat → Nat) (li : Nat → S.Rows) (q : S.Rows) (pu : Nat → Bool) (i : Nat) : List (Ps × AV) := [(.o (.o .h), .c (.pt 0 0)), (.o (.o (.o .h)), .c (.sl 4 0 (2 * i))), (.o (.i (.o .h)), .c (.pt 3 0)), (.i .h, .c (.p (.isl 7 K0 (S.legV k li q pu)))), (.i (.o (.o .h)), .c (.pt 2 0)), (.i (.i (.o .h)), .c (.p (.int .i64 i)))]
abbrev hpPt (e mo t l : Int) (nc : Nat) (c : S.Rows) (ns : Nat) (s : S.Rows) (ta tm r : Int) (nf : Nat) (f : S.Rows) (a b : Int) (g : Nat → Nat → PV) (i : Nat) : Heap := [PB e mo t l nc c ns s ta tm r nf f, none, some (.box t_api_Span [.p (.int .i64 (S.tkL a g i)), .p (.int .i64 (S.tkH b g i))]), some (.box t_api_Span [.p (.int .i64 (S.wtL g i)), .p (.int .i64 (S.wtH g i))]), some (.arr 5 t_api_LoadPoint (2 * i) (S.ptV a b nf g) [])]
abbrev trPt (a b : Int) (nf K0 : Nat) (g : Nat → Nat → PV) : LTree := .e (.exit 0) ⟨setAll [(.o (.o (.o .h)), .c (.sl 4 0 (2 * K0)))], [none, none, none, none, some (.arr 5 t_api_LoadPoint (2 * K0) (S.ptV a b nf g) [])]⟩
include hT13 in
theorem go_ref02_Points (fu : Nat) (e mo t l : Int) (nc : Nat) (c : S.Rows) (ns : Nat) (s : S.Rows) (ta tm r : Int) (nf : Nat) (f : S.Rows) (a b : Int) (K0 : Nat) (k : Nat → Nat) (li : Nat → S.Rows) (q : S.Rows) (pu : Nat → Bool) (hnf : nf ≤ 2) (hK : K0 ≤ 1000) (ha : -1000000 ≤ a ∧ a ≤ 1000000) (hb : -1000000 ≤ b ∧ b ≤ 1000000) (hq : ∀ i j, i < K0 → -1000000 ≤ S.lI ((S.legV k li q pu) i j) ∧ S.lI ((S.legV k li q pu) i j) ≤ 1000000) :
    ∀ (i : Nat) (st : St), i ≤ K0 → (∃ ρ, HasR 0 ρ st (lvPt K0 k li q pu i) (hpPt e mo t l nc c ns s ta tm r nf f a b (S.legV k li q pu) i)) → LoopGo (ex (cs13 hbs) (fu + 60)) 0 m_ref02_Points_l1 st (trPt a b nf K0 (S.legV k li q pu)) :=
  loop_kT (σ := Nat) (lvPt K0 k li q pu) (hpPt e mo t l nc c ns s ta tm r nf f a b (S.legV k li q pu)) (fun i => i ≤ K0) (fun i => K0 - i) (fun _ => trPt a b nf K0 (S.legV k li q pu)) _ (fun i Q => vs_ref02_Points (hbs := hbs) fu i (2 * i) e mo t l nc c ns s ta tm r nf f (S.tkL a (S.legV k li q pu) i) (S.tkH b (S.legV k li q pu) i) (S.wtL (S.legV k li q pu) i) (S.wtH (S.legV k li q pu) i) K0 k li q pu (S.ptV a b nf (S.legV k li q pu)) Q) fun i hi' K hL X hX => by
      refine brP (fun h1 => ?_) fun h1 => ?_
      · have hlt : i < K0 := by simpa using h1
        have ht := S.tk_in ha hb hq i hi'
        have q0 : -1000000 ≤ q i 0 ∧ q i 0 ≤ 1000000 := hq i 2 hlt
        have q1 : -1000000 ≤ q i 1 ∧ q i 1 ≤ 1000000 := hq i 3 hlt
        have q2 : -1000000 ≤ q i 2 ∧ q i 2 ≤ 1000000 := hq i 4 hlt
        have q3 : -1000000 ≤ q i 3 ∧ q i 3 ≤ 1000000 := hq i 5 hlt
        have q4 : -1000000 ≤ q i 4 ∧ q i 4 ≤ 1000000 := hq i 6 hlt
        have wa : ∀ (x y : Int), FCall (cs13 hbs) f_ref02_waters [.ag (plC e mo t l nc (S.val c) ns (S.val s) ta tm r nf (S.val f)), .ag [.p (.int .i64 x), .p (.int .i64 y)]] (.c (.p (.isl 2 nf (S.val (S.two x y))))) [] := fun x y => fc_ref02_waters hT13 e mo t l nc c ns s ta tm r nf f x y (by omega)
        have e5 : S.tkL a (S.legV k li q pu) (i + 1) = S.tkL a (S.legV k li q pu) i + q i 0 - q i 2 := (S.es _ _).symm
        have e6 : S.tkH b (S.legV k li q pu) (i + 1) = S.tkH b (S.legV k li q pu) i + q i 0 - q i 1 := (S.es _ _).symm
        refine cdP (idx_ok hlt) (brP (fun hp => ?_) fun hp => ?_)
        · refine cdP (i64_of (by omega) (by omega)) (cdP (i64_of (by omega) (by omega)) ⟨wa _ _, cdP (Nat.le_refl _) (cdP (Nat.le_refl _) (cdP (by simp [Cd.holds]; omega) (cdP (i64_of (by omega) (by omega)) (cdP (i64_of (by omega) (by omega)) (cdP (i64_of (by omega) (by omega)) (cdP (i64_of (by omega) (by omega)) ⟨wa _ _, cdP (Nat.le_refl _) (cdP (Nat.le_refl _) (cdP (by simp [Cd.holds]; omega) (cdP (by simp [Cd.holds]; omega) ?_)))⟩))))))⟩)
          refine hX (i + 1) _ (by omega) (by omega) ⟨[some 0, none, some 2, some 3, some 7], HasR.mk _ rfl rfl ?_ ?_⟩ hL
          · have hst := S.pts_step (a := a) (b := b) (nf := nf) (k := k) (li := li) (q := q) (pu := pu) (i := i) (w0 := 0) (w1 := 0) (by rw [hp]; rfl) (by rw [hp]; rfl)
            have e1 : S.wtL (S.legV k li q pu) (i + 1) = 0 + q i 3 := by show S.pmp (pu i) _ + q i 3 = _; rw [hp]; rfl
            have e2 : S.wtH (S.legV k li q pu) (i + 1) = 0 + q i 4 := by show S.pmp (pu i) _ + q i 4 = _; rw [hp]; rfl
            refine ⟨⟨rfl, ?_⟩, trivial, ⟨rfl, ?_⟩, ⟨rfl, ?_⟩, ⟨rfl, rfl, rfl, fun j x hj _ => ?_, rfl⟩, trivial⟩
            · simp [WL, WC, WP', plC]
            · rw [e5, e6]; exact ⟨.inl rfl, .inl rfl, trivial⟩
            · rw [e1, e2]; exact ⟨.inl rfl, .inl rfl, trivial⟩
            · rw [S.es (S.tkL a (S.legV k li q pu) i + q i 0) (q i 2), S.es (S.tkH b (S.legV k li q pu) i + q i 0) (q i 1)]; exact hst j x hj
          · simp [LiveR, WA, WC, WP', Tr.get]; omega
        · refine cdP (i64_of (by omega) (by omega)) (cdP (i64_of (by omega) (by omega)) ⟨wa _ _, cdP (Nat.le_refl _) (cdP (Nat.le_refl _) (cdP (by simp [Cd.holds]; omega) (cdP (i64_of (by omega) (by omega)) (cdP (i64_of (by omega) (by omega)) (cdP (i64_of (by omega) (by omega)) (cdP (i64_of (by omega) (by omega)) ⟨wa _ _, cdP (Nat.le_refl _) (cdP (Nat.le_refl _) (cdP (by simp [Cd.holds]; omega) (cdP (by simp [Cd.holds]; omega) ?_)))⟩))))))⟩)
          refine hX (i + 1) _ (by omega) (by omega) ⟨[some 0, none, some 2, some 3, some 7], HasR.mk _ rfl rfl ?_ ?_⟩ hL
          · have hst := S.pts_step (a := a) (b := b) (nf := nf) (k := k) (li := li) (q := q) (pu := pu) (i := i) (w0 := S.wtL (S.legV k li q pu) i) (w1 := S.wtH (S.legV k li q pu) i) (by rw [hp]; rfl) (by rw [hp]; rfl)
            have e1 : S.wtL (S.legV k li q pu) (i + 1) = S.wtL (S.legV k li q pu) i + q i 3 := by show S.pmp (pu i) _ + q i 3 = _; rw [hp]; rfl
            have e2 : S.wtH (S.legV k li q pu) (i + 1) = S.wtH (S.legV k li q pu) i + q i 4 := by show S.pmp (pu i) _ + q i 4 = _; rw [hp]; rfl
            refine ⟨⟨rfl, ?_⟩, trivial, ⟨rfl, ?_⟩, ⟨rfl, ?_⟩, ⟨rfl, rfl, rfl, fun j x hj _ => ?_, rfl⟩, trivial⟩
            · simp [WL, WC, WP', plC]
            · rw [e5, e6]; exact ⟨.inl rfl, .inl rfl, trivial⟩
            · rw [e1, e2]; exact ⟨.inl rfl, .inl rfl, trivial⟩
            · rw [S.es (S.tkL a (S.legV k li q pu) i + q i 0) (q i 2), S.es (S.tkH b (S.legV k li q pu) i + q i 0) (q i 1)]; exact hst j x hj
          · simp [LiveR, WA, WC, WP', Tr.get]; omega
      · have hlt : K0 ≤ i := by simpa using h1
        obtain rfl : i = K0 := by omega
        refine HasR.out (l := [(.o (.o (.o .h)), .c (.sl 4 0 (2 * i)))]) (HasR.mk (ρ := [none, none, none, none, some 4]) rfl rfl ?_ ?_) hL
        · exact ⟨trivial, trivial, trivial, trivial, ⟨rfl, rfl, rfl, fun _ _ _ _ => rfl, rfl⟩, trivial⟩
        · simp [LiveR, WA, WC, WP', Tr.get]
include hT13 in
theorem fc_ref02_Points (e mo t l : Int) (nc : Nat) (c : S.Rows) (ns : Nat) (s : S.Rows) (ta tm r : Int) (nf : Nat) (f : S.Rows) (a b : Int) (K0 : Nat) (k : Nat → Nat) (li : Nat → S.Rows) (q : S.Rows) (pu : Nat → Bool) (hnf : nf ≤ 2) (hK : K0 ≤ 1000) (ha : -1000000 ≤ a ∧ a ≤ 1000000) (hb : -1000000 ≤ b ∧ b ≤ 1000000) (hq : ∀ i j, i < K0 → -1000000 ≤ S.lI ((S.legV k li q pu) i j) ∧ S.lI ((S.legV k li q pu) i j) ≤ 1000000) :
    FCall (cs13 hbs) f_ref02_Points [.ag (plC e mo t l nc (S.val c) ns (S.val s) ta tm r nf (S.val f)), .ag [.p (.int .i64 a), .p (.int .i64 b)], .c (.p (.isl 7 K0 (S.legV k li q pu)))] (.c (.p (.isl 5 (2 * K0) (S.ptV a b nf (S.legV k li q pu))))) [] := by
  have F : FCall (cs13 hbs) f_ref02_Points [.ag (plC e mo t l nc (S.val c) ns (S.val s) ta tm r nf (S.val f)), .ag [.p (.int .i64 a), .p (.int .i64 b)], .c (.p (.isl 7 K0 (S.legV k li q pu)))] (.c (.p (.isl 5 (2 * K0) fun i j => S.ptV a b nf (S.legV k li q pu) (0 + i) j))) [] :=
    fcall_k hT13 (F := F_ref02_Points) rfl (vc_ref02_Points e mo t l nc c ns s ta tm r nf f a b K0 k li q pu _) ⟨go_ref02_Points hT13 933 e mo t l nc c ns s ta tm r nf f a b K0 k li q pu hnf hK ha hb hq 0 _ (Nat.zero_le _) ⟨[some 0, none, some 2, some 3, none], HasR.mk _ rfl rfl ?_ ?_⟩, rfl⟩
  · refine FCall.mono_r F fun w Z φ u hr => ?_
    simp only [RepA, RepC] at hr ⊢
    exact isl_congr (fun i j _ _ => by rw [Nat.zero_add]) hr
  · refine ⟨⟨rfl, ?_⟩, trivial, ⟨rfl, .inl rfl, .inl rfl, trivial⟩, ⟨rfl, .inl rfl, .inl rfl, trivial⟩, rfl, trivial⟩
    simp [WL, WC, WP', plC]
  · simp [LiveR, WA, WC, WP', Tr.get]
end
end Go.Ab.B
namespace Go.Ab.S
theorem tr_lI {ns : Nat} {a b : Int} {K0 : Nat} {k : Nat → Nat} {li : Nat → Rows} {q : Rows} {pu : Nat → Bool} (h : TrOk ns a b K0 k li q) (i j : Nat) (hi : i < K0) : -1000000 ≤ lI (legV k li q pu i j) ∧ lI (legV k li q pu i j) ≤ 1000000 := by
  have hq := h.hq i hi
  match j with
  | 0 => show (-1000000 : Int) ≤ 0 ∧ (0 : Int) ≤ 1000000; omega
  | 1 => show (-1000000 : Int) ≤ 0 ∧ (0 : Int) ≤ 1000000; omega
  | 2 => show -1000000 ≤ q i 0 ∧ q i 0 ≤ 1000000; omega
  | 3 => show -1000000 ≤ q i 1 ∧ q i 1 ≤ 1000000; omega
  | 4 => show -1000000 ≤ q i 2 ∧ q i 2 ≤ 1000000; omega
  | 5 => show -1000000 ≤ q i 3 ∧ q i 3 ≤ 1000000; omega
  | 6 => show -1000000 ≤ q i 4 ∧ q i 4 ≤ 1000000; omega
  | j + 7 =>
    have e7 : (legV k li q pu) i (j + 7) = .npt := by show List.getD _ (0 + (j + 7)) _ = _; rw [Nat.zero_add]; rfl
    rw [e7]; show (-1000000 : Int) ≤ 0 ∧ (0 : Int) ≤ 1000000; omega
end Go.Ab.S
namespace Go.Ab.B
open Go.Proofs
section
variable {hbs : BsOk Tryz.prog} (hT : TabOk (cs hbs)) (hT3 : TabOk (cs3 hbs)) (hT4 : TabOk (cs4 hbs)) (hT6 : TabOk (cs6 hbs)) (hT7 : TabOk (cs7 hbs)) (hT9 : TabOk (cs9 hbs)) (hT10 : TabOk (cs10 hbs)) (hT11 : TabOk (cs11 hbs)) (hT12 : TabOk (cs12 hbs)) (hT13 : TabOk (cs13 hbs))
include hT hT3 hT4 hT7 hT9 hT11 hT13 in
theorem fc_load_Points (e mo t l : Int) (nc : Nat) (c : S.Rows) (ns : Nat) (s : S.Rows) (ta tm r : Int) (nf : Nat) (f : S.Rows) (a b : Int) (K0 : Nat) (k : Nat → Nat) (li : Nat → S.Rows) (q : S.Rows) (pu : Nat → Bool) (hnc : nc ≤ maxLen) (hns : ns ≤ 1000000) (hns' : ns ≤ maxLen) (hnf : nf ≤ maxLen) (hK : K0 ≤ 1000) (hk : ∀ i, i < K0 → k i ≤ 1000000) : FCall (cs13 hbs) f_load_Points [.ag (plC e mo t l nc (S.val c) ns (S.val s) ta tm r nf (S.val f)), .ag [.p (.int .i64 a), .p (.int .i64 b)], .c (.p (.isl 7 K0 (S.legV k li q pu)))]
    (.tp [.c (.p (.isl 5 (S.tN e mo t l nc c ns s ta tm r nf f a b K0 (S.legV k li q pu)) (S.ptV a b nf (S.legV k li q pu)))), vI .i64 (S.tE e mo t l nc c ns s ta tm r nf f a b K0 (S.legV k li q pu))]) [] := by
  have te := FCall.cfg (C := cs11 hbs) (C' := cs13 hbs) rfl rfl (fc_load_tripError hT hT3 hT11 e mo t l nc c ns s ta tm r nf f a b K0 k li q pu hnc hns hns' hnf hK hk)
  cases hE : (S.tE e mo t l nc c ns s ta tm r nf f a b K0 (S.legV k li q pu) != 0) with
  | true =>
    have hN : S.tN e mo t l nc c ns s ta tm r nf f a b K0 (S.legV k li q pu) = 0 := by simp only [S.tN, hE]
    rw [hN]
    have F : FCall (cs13 hbs) f_load_Points [.ag (plC e mo t l nc (S.val c) ns (S.val s) ta tm r nf (S.val f)), .ag [.p (.int .i64 a), .p (.int .i64 b)], .c (.p (.isl 7 K0 (S.legV k li q pu)))] (.tp [.c (.p .nsl), vI .i64 (S.tE e mo t l nc c ns s ta tm r nf f a b K0 (S.legV k li q pu))]) [] :=
      fcall_k hT13 (F := F_load_Points) rfl (vc_load_Points e mo t l nc c ns s ta tm r nf f a b K0 k li q pu _) ⟨te, brP (fun _ => rfl) fun h => by
        have h : (S.tE e mo t l nc c ns s ta tm r nf f a b K0 (S.legV k li q pu) != 0) = false := h
        rw [hE] at h; cases h⟩
    refine FCall.mono_r F fun w Z φ u hr => ?_
    simp only [RepA, RepAs, RepC] at hr ⊢
    obtain ⟨us, rfl, u1, us1, rfl, g1, g2⟩ := hr
    cases g1
    exact ⟨_, rfl, _, us1, rfl, .isl0 _ _ _ _, g2⟩
  | false =>
    have hN : S.tN e mo t l nc c ns s ta tm r nf f a b K0 (S.legV k li q pu) = 2 * K0 := by simp only [S.tN, hE]
    obtain ⟨h1, h2⟩ := S.tE_ok hE
    have hq := S.tr_ok h2
    have hp := S.plane_ok h1
    have hab := hq.hab
    have h0 := S.tE_0 h1 h2
    rw [hN]
    refine fcall_k hT13 (F := F_load_Points) rfl (vc_load_Points e mo t l nc c ns s ta tm r nf f a b K0 k li q pu _) ⟨te, brP (fun h => by
        have h : (S.tE e mo t l nc c ns s ta tm r nf f a b K0 (S.legV k li q pu) != 0) = true := h
        rw [hE] at h; cases h) fun _ => ⟨FCall.cfg (C := cs9 hbs) (C' := cs13 hbs) rfl rfl (fc_load_pointsOf hT4 hT7 hT9 e mo t l nc c ns s ta tm r nf f a b K0 k li q pu hp.hnf hK hk (by omega) (by omega) (fun i j hi => S.tr_lI hq i j hi)), ?_⟩⟩
    rw [h0]
    rfl
abbrev lvRT (N : Nat) (h : Nat → Nat → PV) (i : Nat) : List (Ps × AV) := [(.o (.o .h), .c (.pt 0 0)), (.o (.i (.o .h)), .c (.p (.isl 5 N h))), (.i (.i (.o .h)), .c (.p (.int .i64 i)))]
include hT hT3 hT6 in
theorem go_ref02_Trip (fu : Nat) (e mo t l : Int) (nc : Nat) (c : S.Rows) (ns : Nat) (s : S.Rows) (ta tm r : Int) (nf : Nat) (f : S.Rows) (N : Nat) (kn : Nat → Nat) (ki : Nat → S.Rows) (pl ph : Nat → Int) (m : Nat) (kw : Nat → S.Rows) (kl : Nat → Bool) (hp : S.PlOk e mo t l nc c ns s ta tm r nf f) (hN : N ≤ 1000) (hq : ∀ j, j < N → S.PtOk ns nf (kn j) (ki j) (pl j) (ph j) m (kw j)) : ∀ (i : Nat) (st : St), i ≤ N → (∃ ρ, HasR 0 ρ st (lvRT N (S.ptG kn ki pl ph m kw kl) i) [PB e mo t l nc c ns s ta tm r nf f]) →
    LoopGo (ex (cs13 hbs) (fu + 60)) 0 m_ref02_Trip_l1 st (trU e mo t l nc c ns s ta tm r nf f N (S.ptG kn ki pl ph m kw kl) i) :=
  loop_kT (σ := Nat) (lvRT N (S.ptG kn ki pl ph m kw kl)) (fun _ => [PB e mo t l nc c ns s ta tm r nf f]) (fun i => i ≤ N) (fun i => N - i) (trU e mo t l nc c ns s ta tm r nf f N (S.ptG kn ki pl ph m kw kl)) _ (fun i Q => vs_ref02_Trip (hbs := hbs) fu i e mo t l nc c ns s ta tm r nf f N kn ki pl ph m kw kl Q) fun i hi' K hL X hX => by
      refine brP (fun h1 => ?_) fun h1 => ?_
      · have hlt : i < N := by simpa using h1
        have hqi := hq i hlt
        have hle := fun j h => (S.parts_in hp hqi j h).2.2.2
        have hbr := S.bro_sr (e := e) (mo := mo) (t := t) (l := l) (nc := nc) (c := c) (ns := ns) (s := s) (ta := ta) (tm := tm) (r := r) (nf := nf) (f := f) (n := kn i) (it := ki i) (lo := pl i) (hi := ph i) (m := m) (wt := kw i) (ld := kl i) hqi.hm hle
        have hb1 : S.broR (S.ruH e mo t l nc c ns s ta tm r nf f (S.ptG kn ki pl ph m kw kl) i) = S.srR e mo t l nc c ns s ta tm r nf f (kn i) (ki i) (pl i) (ph i) m (kw i) (kl i) := hbr.1
        have hb2 : S.broI (S.ruH e mo t l nc c ns s ta tm r nf f (S.ptG kn ki pl ph m kw kl) i) = S.p2 e mo t l nc c ns s ta tm r nf f (kn i) (ki i) (pl i) (ph i) m (kw i) (kl i) := hbr.2
        have hsr : S.sureH e mo t l nc c ns s ta tm r nf f (S.ptG kn ki pl ph m kw kl) i = (S.srR e mo t l nc c ns s ta tm r nf f (kn i) (ki i) (pl i) (ph i) m (kw i) (kl i) == 1) := by show (S.broR (S.ruH e mo t l nc c ns s ta tm r nf f (S.ptG kn ki pl ph m kw kl) i) == 1) = _; rw [hb1]
        refine cdP (idx_ok hlt) ⟨FCall.cfg (C := cs7 hbs) (C' := cs13 hbs) rfl rfl (fc7_ref02_Sure hT hT3 hT6 e mo t l nc c ns s ta tm r nf f (kn i) (ki i) (pl i) (ph i) m (kw i) (kl i) hp hqi), brP (fun h2 => ?_) fun h2 => cdP (by simp [Cd.holds]; omega) ?_⟩
        · have h2 : (S.srR e mo t l nc c ns s ta tm r nf f (kn i) (ki i) (pl i) (ph i) m (kw i) (kl i) != 1) = true := h2
          have eo : S.sureH e mo t l nc c ns s ta tm r nf f (S.ptG kn ki pl ph m kw kl) i = false := by rw [hsr]; simpa using h2
          have e2 : S.from_ (S.sureH e mo t l nc c ns s ta tm r nf f (S.ptG kn ki pl ph m kw kl)) N i = false := by rw [S.from_step hlt, eo, Bool.false_and]
          have e3 : S.fst (S.sureH e mo t l nc c ns s ta tm r nf f (S.ptG kn ki pl ph m kw kl)) N i = i := S.fst_at hlt eo
          simp only [trU, e2, e3] at hL
          rw [hb1, hb2] at hL
          refine HasR.out (l := [(.i (.i .h), vI .i64 i), (.o (.o (.o .h)), vI .i64 (S.srR e mo t l nc c ns s ta tm r nf f (kn i) (ki i) (pl i) (ph i) m (kw i) (kl i))), (.i (.o (.o .h)), vI .i64 (S.p2 e mo t l nc c ns s ta tm r nf f (kn i) (ki i) (pl i) (ph i) m (kw i) (kl i)))]) (HasR.mk (ρ := []) rfl rfl ?_ ?_) hL
          · simp [WH]
          · exact ⟨.inl rfl, .inl rfl, .inl rfl, trivial⟩
        · have h2 : (S.srR e mo t l nc c ns s ta tm r nf f (kn i) (ki i) (pl i) (ph i) m (kw i) (kl i) != 1) = false := h2
          have eo : S.sureH e mo t l nc c ns s ta tm r nf f (S.ptG kn ki pl ph m kw kl) i = true := by rw [hsr]; simpa using h2
          have e2 : S.from_ (S.sureH e mo t l nc c ns s ta tm r nf f (S.ptG kn ki pl ph m kw kl)) N i = S.from_ (S.sureH e mo t l nc c ns s ta tm r nf f (S.ptG kn ki pl ph m kw kl)) N (i + 1) := by rw [S.from_step hlt, eo, Bool.true_and]
          have e3 : S.fst (S.sureH e mo t l nc c ns s ta tm r nf f (S.ptG kn ki pl ph m kw kl)) N i = S.fst (S.sureH e mo t l nc c ns s ta tm r nf f (S.ptG kn ki pl ph m kw kl)) N (i + 1) := S.fst_step hlt eo
          simp only [trU, e2, e3] at hL
          refine hX (i + 1) _ (by omega) (by omega) ⟨[some 0], HasR.mk _ rfl rfl ?_ ?_⟩ hL
          · simp [WH, WB, WL, WC, WP', upsB, memB, ptC, plC]
          · simp [LiveR, WA, WC, WP', Tr.get]
      · have hlt : N ≤ i := by simpa using h1
        have e2 : S.from_ (S.sureH e mo t l nc c ns s ta tm r nf f (S.ptG kn ki pl ph m kw kl)) N i = true := S.from_end hlt
        simp only [trU, e2] at hL
        refine HasR.out (l := []) (HasR.mk (ρ := []) rfl rfl ?_ ?_) hL
        · simp [WH]
        · trivial
include hT hT3 hT6 hT13 in
theorem fc_ref02_Trip (e mo t l : Int) (nc : Nat) (c : S.Rows) (ns : Nat) (s : S.Rows) (ta tm r : Int) (nf : Nat) (f : S.Rows) (a b : Int) (K0 : Nat) (k : Nat → Nat) (li : Nat → S.Rows) (q : S.Rows) (pu : Nat → Bool) (hp : S.PlOk e mo t l nc c ns s ta tm r nf f) (h : S.TrOk ns a b K0 k li q) : FCall (cs13 hbs) f_ref02_Trip [.ag (plC e mo t l nc (S.val c) ns (S.val s) ta tm r nf (S.val f)), .ag [.p (.int .i64 a), .p (.int .i64 b)], .c (.p (.isl 7 K0 (S.legV k li q pu)))]
    (.tp [vI .i64 (S.rA e mo t l nc c ns s ta tm r nf f a b K0 (S.legV k li q pu)), vI .i64 (S.rR e mo t l nc c ns s ta tm r nf f a b K0 (S.legV k li q pu)), vI .i64 (S.rI e mo t l nc c ns s ta tm r nf f a b K0 (S.legV k li q pu))]) [] := by
  have hK := h.hK
  have hab := h.hab
  refine fcall_k hT13 (F := F_ref02_Trip) rfl (vc_ref02_Trip e mo t l nc c ns s ta tm r nf f a b K0 k li q pu _) ⟨fc_ref02_Points hT13 e mo t l nc c ns s ta tm r nf f a b K0 k li q pu hp.hnf (by omega) (by omega) (by omega) (fun i j hi => S.tr_lI h i j hi), go_ref02_Trip hT hT3 hT6 934 e mo t l nc c ns s ta tm r nf f (2 * K0) (fun j => k (j / 2)) (fun j => li (j / 2)) (S.ptL a (S.legV k li q pu)) (S.ptH b (S.legV k li q pu)) nf (fun j => S.two (S.pwL (S.legV k li q pu) j) (S.pwH (S.legV k li q pu) j)) S.lnd hp (by omega) (fun j hj => S.pt_ok h j hj) 0 _ (Nat.zero_le _) ⟨[some 0], HasR.mk _ rfl rfl ?_ ?_⟩, brP (fun h1 => ?_) fun h1 => ?_⟩
  · simp [WH, WB, WL, WC, WP', upsB, memB, ptC, plC]
  · exact ⟨⟨rfl, rfl⟩, .inl rfl, .inl rfl, trivial⟩
  · simp only [S.rA, S.rR, S.rI, h1, S.unA, S.unX]; rfl
  · simp only [S.rA, S.rR, S.rI, h1, S.unA, S.unX]; rfl
include hT hT3 hT4 hT6 hT7 hT9 hT10 hT11 hT12 hT13 in
theorem fc_law02_LoadTrips (h8 : FCall (cs hbs) f_law02_known [] (vB true) []) (e mo t l : Int) (nc : Nat) (c : S.Rows) (ns : Nat) (s : S.Rows) (ta tm r : Int) (nf : Nat) (f : S.Rows) (a b : Int) (K0 : Nat) (k : Nat → Nat) (li : Nat → S.Rows) (q : S.Rows) (pu : Nat → Bool) (hnc : nc ≤ maxLen) (hns : ns ≤ maxLen) (hnf : nf ≤ maxLen) (hK : K0 ≤ maxLen) :
    FCall (cs13 hbs) f_law02_LoadTrips [.ag (plC e mo t l nc (S.val c) ns (S.val s) ta tm r nf (S.val f)), .ag [.p (.int .i64 a), .p (.int .i64 b)], .c (.p (.isl 7 K0 (S.legV k li q pu)))] (vB true) [] := by
  have k8 : FCall (cs13 hbs) f_law02_known [] (vB true) [] := FCall.cfg (C := cs hbs) (C' := cs13 hbs) rfl rfl h8
  refine fcall_k hT13 (F := F_law02_LoadTrips) rfl (vc_law02_LoadTrips e mo t l nc c ns s ta tm r nf f a b K0 k li q pu _) ?_
  refine brP (fun c1 => brP (fun c2 => brP (fun c3 => ⟨FCall.cfg (C := cs12 hbs) (C' := cs13 hbs) rfl rfl (fc_law02_few hT12 K0 k li q pu hK), brP (fun c4 => ?_) fun _ => ⟨k8, rfl⟩⟩) fun _ => ⟨k8, rfl⟩) fun _ => ⟨k8, rfl⟩) fun _ => ⟨k8, rfl⟩
  have c1 : nc ≤ 20 := by simp at c1; omega
  have c2 : ns ≤ 20 := by simp at c2; omega
  have c3 : nf ≤ 10 := by simp at c3; omega
  have c4 : S.fewB K0 (S.legV k li q pu) = true := c4
  simp only [S.fewB, Bool.and_eq_true, decide_eq_true_eq] at c4
  have hk : ∀ i, i < K0 → k i ≤ 20 := fun i hi => by
    have := S.from_iff.1 c4.1 i (Nat.zero_le _) hi
    rw [S.fewAt_eq] at this
    simp at this
    omega
  have hk' : ∀ i, i < K0 → k i ≤ 1000000 := fun i hi => by have := hk i hi; omega
  have hK2 : K0 ≤ 12 := by omega
  have b0 : ∀ {x y : Int}, x = y → (x == y) = false → False := fun e h => by rw [e, beq_self_eq_true] at h; cases h
  refine ⟨fc_load_Points hT hT3 hT4 hT7 hT9 hT11 hT13 e mo t l nc c ns s ta tm r nf f a b K0 k li q pu hnc (by omega) hns hnf (by omega) hk', FCall.cfg (C := cs12 hbs) (C' := cs13 hbs) rfl rfl (fc12_Trip hT hT3 hT4 hT7 hT9 hT10 hT11 hT12 e mo t l nc c ns s ta tm r nf f a b K0 k li q pu hnc (by omega) hns hnf (by omega) hk'), FCall.cfg (C := cs12 hbs) (C' := cs13 hbs) rfl rfl (fc_law02_refused hT hT3 hT12 e mo t l nc c ns s ta tm r nf f a b K0 k li q pu hnc (by omega) hns hnf hk'), brP (fun hE => ?_) fun hE => ?_⟩
  · have n1 : ((S.tN e mo t l nc c ns s ta tm r nf f a b K0 (S.legV k li q pu) : Nat) : Int) = 0 := by simp only [S.tN, hE]; rfl
    have n2 : S.tA e mo t l nc c ns s ta tm r nf f a b K0 (S.legV k li q pu) = 0 := by simp only [S.tA, hE, S.unX]
    have n3 : S.tR e mo t l nc c ns s ta tm r nf f a b K0 (S.legV k li q pu) = 0 := by simp only [S.tR, hE, S.unX]
    have n4 : S.tI e mo t l nc c ns s ta tm r nf f a b K0 (S.legV k li q pu) = 0 := by simp only [S.tI, hE, S.unX]
    exact brP (fun _ => brP (fun _ => brP (fun _ => brP (fun _ => brP (fun _ => brP (fun _ => ⟨k8, rfl⟩) fun h => (b0 n4 h).elim) fun h => (b0 n3 h).elim) fun h => (b0 n2 h).elim) fun h => (b0 n1 h).elim) fun h => (b0 rfl h).elim) fun h => (b0 rfl h).elim
  · obtain ⟨h1, h2⟩ := S.tE_ok hE
    have h0 := S.tE_0 h1 h2
    have hp := S.plane_ok h1
    have hq := S.tr_ok h2
    have hKK := hq.hK
    have hab := hq.hab
    have n1 : S.tN e mo t l nc c ns s ta tm r nf f a b K0 (S.legV k li q pu) = 2 * K0 := by simp only [S.tN, hE]
    have n2 : S.tA e mo t l nc c ns s ta tm r nf f a b K0 (S.legV k li q pu) = S.rA e mo t l nc c ns s ta tm r nf f a b K0 (S.legV k li q pu) := by simp only [S.tA, hE, S.unX, S.rA]
    have n3 : S.tR e mo t l nc c ns s ta tm r nf f a b K0 (S.legV k li q pu) = S.rR e mo t l nc c ns s ta tm r nf f a b K0 (S.legV k li q pu) := by simp only [S.tR, hE, S.unX, S.rR]
    have n4 : S.tI e mo t l nc c ns s ta tm r nf f a b K0 (S.legV k li q pu) = S.rI e mo t l nc c ns s ta tm r nf f a b K0 (S.legV k li q pu) := by simp only [S.tI, hE, S.unX, S.rI]
    have hml : (1000000 : Nat) ≤ maxLen := by decide
    rw [n1]
    have hsp := fc_ref02_SamePoints hT13 (2 * K0) (fun j => k (j / 2)) (fun j => li (j / 2)) (S.ptL a (S.legV k li q pu)) (S.ptH b (S.legV k li q pu)) nf (fun j => S.two (S.pwL (S.legV k li q pu) j) (S.pwH (S.legV k li q pu) j)) S.lnd (by omega) (fun i hi => by have := hk (i / 2) (by omega); omega) hnf
    exact ⟨fc_ref02_Trip hT hT3 hT6 hT13 e mo t l nc c ns s ta tm r nf f a b K0 k li q pu hp hq, brP (fun _ => brP (fun _ => ⟨fc_ref02_Points hT13 e mo t l nc c ns s ta tm r nf f a b K0 k li q pu hp.hnf (by omega) (by omega) (by omega) (fun i j hi => S.tr_lI hq i j hi), hsp, brP (fun _ => brP (fun _ => brP (fun _ => brP (fun _ => ⟨k8, rfl⟩) fun h => (b0 n4 h).elim) fun h => (b0 n3 h).elim) fun h => (b0 n2 h).elim) fun h => by rw [S.smP_r] at h; cases h⟩) fun h => (b0 h0 h).elim) fun h => (b0 h0 h).elim⟩
end
end Go.Ab.B
