/- A part of the proof: an evaluator of the program over plain values, proved sound, and what it gives. -/
import Derived.Test.YtobdcdphgcadlaaGreatDoorLb
import Derived.Test.YtobdcdphgcadlaaGreatDoorLa
set_option linter.all false
set_option maxRecDepth 100000
namespace Go.Ab.S
def part (lo hi pc : Int) : Int := lo + Int.tdiv ((hi - lo) * pc) 100
def pcAt (a : Rows) (i : Nat) : Bool := decide (0 ≤ a i 0) && decide (a i 0 ≤ 100)
def pcI (it a : Rows) : Rows := fun i _ => part (it i 1) (it i 2) (a i 0)
def pcW (wt b : Rows) : Rows := fun i _ => part (wt i 0) (wt i 1) (b i 0)
def atOk (n : Nat) (it cc s : Rows) (i : Nat) : Bool := decide (sumR (atR it cc i) n 0 ≤ s i 1)
def wwOk (f ww : Rows) (i : Nat) : Bool := decide (ww i 0 ≤ f i 1)
def restOk (t l tm r : Int) (ld : Bool) (tk W : Int) : Bool := decide (tk ≤ tm) && (match ld with | true => decide (r ≤ tk) && decide (W ≤ l) | false => decide (W ≤ t))
def holdsB (e mo t l : Int) (nc : Nat) (c : Rows) (ns : Nat) (s : Rows) (ta tm r : Int) (nf : Nat) (f it : Rows) (ld : Bool) (n : Nat) (cc : Rows) (tk : Int) (m : Nat) (ww : Rows) : Bool :=
  from_ (atOk n it cc s) ns 0 && (from_ (wwOk f ww) m 0 && (restOk t l tm r ld tk (wgt e tk n cc m ww) && ins nc c (wgt e tk n cc m ww) (mom mo tk ta n cc it s m ww f)))
def inIt (it cc : Rows) (i : Nat) : Bool := decide (it i 1 ≤ cc i 0) && decide (cc i 0 ≤ it i 2)
def inWt (wt ww : Rows) (i : Nat) : Bool := decide (wt i 0 ≤ ww i 0) && decide (ww i 0 ≤ wt i 1)
def withinB (n : Nat) (it : Rows) (lo hi : Int) (m : Nat) (wt : Rows) (n2 : Nat) (cc : Rows) (tk : Int) (m2 : Nat) (ww : Rows) : Bool :=
  decide (n2 = n) && (decide (m2 = m) && (decide (lo ≤ tk) && (decide (tk ≤ hi) && (from_ (inIt it cc) n2 0 && from_ (inWt wt ww) m2 0))))
end Go.Ab.S
namespace Go.Ab.B
open Go.Proofs
def sp5_load_Inside : List AV → Option (AV × Heap)
  | [.ag [_, _, _, _, .p (.isl 2 n f), _, _, _, _, _], .c (.p (.int .i64 w)), .c (.p (.int .i64 m))] => some (.tp [vB (S.ins n (S.num f) w m), vI .i64 0], [])
  | _ => none
def sp_law02_part : List AV → Option (AV × Heap)
  | [.ag [.p (.int .i64 lo), .p (.int .i64 hi)], .c (.p (.int .i64 pc))] => some (vI .i64 (S.part lo hi pc), [])
  | _ => none
def sp_law02_holds : List AV → Option (AV × Heap)
  | [.ag [.p (.int .i64 e), .p (.int .i64 mo), .p (.int .i64 t), .p (.int .i64 l), .p (.isl 2 nc c), .p (.isl 2 ns s), .p (.int .i64 ta), .p (.int .i64 tm), .p (.int .i64 r), .p (.isl 2 nf f)], .ag [.p (.isl 3 _ it), _, _, _, .p (.bool ld)], .ag [.p (.isl 1 n cc), .p (.int .i64 tk), .p (.isl 1 m ww)]] =>
    some (vB (S.holdsB e mo t l nc (S.num c) ns (S.num s) ta tm r nf (S.num f) (S.num it) ld n (S.num cc) tk m (S.num ww)), [])
  | _ => none
def sp_law02_within : List AV → Option (AV × Heap)
  | [.ag [.p (.isl 3 n it), .p (.int .i64 lo), .p (.int .i64 hi), .p (.isl 2 m wt), _], .ag [.p (.isl 1 n2 cc), .p (.int .i64 tk), .p (.isl 1 m2 ww)]] => some (vB (S.withinB n (S.num it) lo hi m (S.num wt) n2 (S.num cc) tk m2 (S.num ww)), [])
  | _ => none
def Sp5 (f : Nat) (l : List AV) : Option (AV × Heap) := bif Nat.beq f f_load_Inside then sp5_load_Inside l else bif Nat.beq f f_law02_holds then sp_law02_holds l else bif Nat.beq f f_law02_within then sp_law02_within l else bif Nat.beq f f_law02_part then sp_law02_part l else Sp4 f l
def lp_law02_truth (j : Nat) (s : St) : Option LTree :=
  match s.h with
  | b0 :: b1 :: b2 :: rest => match b0, b2 with
    | some (.box _ [.p (.isl 3 n it), _, _, .p (.isl 2 m wt), _]), some (.box _ [x, tk, _]) => match j with
      | 1 => match Tr.get (.o .h) s.t, Tr.get (.o (.o .h)) s.t with
        | .c (.p (.isl 1 na a)), w => some (.br (S.from_ (S.pcAt (S.num a)) na 0)
          (.e (.exit 0) ⟨setAll [(.o (.o .h), w), (.i (.o .h), .c (.pt 0 0)), (.i (.o (.o .h)), .c (.pt 1 0)), (.i (.i (.o .h)), .c (.pt 2 0))], [b0, b1, some (.box t_api_LoadCase [.sl 3 0 na, tk, .p .nsl]), some (.arr 1 t_int na (S.val (S.pcI (S.num it) (S.num a))) [])]⟩)
          (.e .ret ⟨setAll [(.i (.o (.o .h)), .c (.pt 1 0)), (.o (.i (.o .h)), vB false)], [b0, some (.box t_api_LoadCase [.sl 3 0 (S.fst (S.pcAt (S.num a)) na 0), tk, .p .nsl]), none, some (.arr 1 t_int (S.fst (S.pcAt (S.num a)) na 0) (S.val (S.pcI (S.num it) (S.num a))) [])]⟩))
        | _, _ => none
      | _ => match Tr.get (.o (.o .h)) s.t, rest with
        | .c (.p (.isl 1 nb b)), b3 :: _ => some (.br (S.from_ (S.pcAt (S.num b)) nb 0)
          (.e (.exit 2) ⟨setAll [(.i (.o (.o .h)), .c (.pt 1 0)), (.i (.i (.o .h)), .c (.pt 2 0))], [b0, b1, some (.box t_api_LoadCase [x, tk, .sl 4 0 nb]), b3, some (.arr 1 t_int nb (S.val (S.pcW (S.num wt) (S.num b))) [])]⟩)
          (.e .ret ⟨setAll [(.i (.o (.o .h)), .c (.pt 1 0)), (.o (.i (.o .h)), vB false)], [b0, some (.box t_api_LoadCase [x, tk, .sl 4 0 (S.fst (S.pcAt (S.num b)) nb 0)]), none, b3, some (.arr 1 t_int (S.fst (S.pcAt (S.num b)) nb 0) (S.val (S.pcW (S.num wt) (S.num b))) [])]⟩))
        | _, _ => none
    | _, _ => none
  | _ => none
def lp_law02_holds (j : Nat) (s : St) : Option LTree :=
  match s.h with
  | [some (.box _ [_, _, _, _, _, .p (.isl 2 ns st), _, _, _, .p (.isl 2 _ f)]), some (.box _ [.p (.isl 3 _ it), _, _, _, _]), some (.box _ [.p (.isl 1 n cc), _, .p (.isl 1 m ww)])] => match j with
    | 1 => some (.br (S.from_ (S.atOk n (S.num it) (S.num cc) (S.num st)) ns 0) (.e (.exit 0) ⟨setAll [(.o (.o .h), .c (.pt 0 0)), (.i (.o .h), .c (.pt 1 0)), (.o (.i .h), .c (.pt 2 0)), (.o (.o (.o .h)), Tr.get (.o (.o (.o .h))) s.t), (.i (.o (.o .h)), Tr.get (.i (.o (.o .h))) s.t)], s.h⟩) (.e .ret ⟨setAll [(.i (.i .h), vB false)], []⟩))
    | _ => some (.br (S.from_ (S.wwOk (S.num f) (S.num ww)) m 0) (.e (.exit 2) ⟨setAll [(.o (.o .h), .c (.pt 0 0)), (.i (.o .h), .c (.pt 1 0)), (.o (.i .h), .c (.pt 2 0)), (.o (.o (.o .h)), Tr.get (.o (.o (.o .h))) s.t), (.i (.o (.o .h)), Tr.get (.i (.o (.o .h))) s.t)], s.h⟩) (.e .ret ⟨setAll [(.i (.i .h), vB false)], []⟩))
  | _ => none
def lp_law02_within (j : Nat) (s : St) : Option LTree :=
  match s.h with
  | [some (.box _ [.p (.isl 3 _ it), _, _, .p (.isl 2 _ wt), _]), some (.box _ [.p (.isl 1 n cc), _, .p (.isl 1 m ww)])] => match j with
    | 1 => some (.br (S.from_ (S.inIt (S.num it) (S.num cc)) n 0) (.e (.exit 0) ⟨setAll [(.i .h, .c (.pt 0 0)), (.o (.o .h), .c (.pt 1 0))], s.h⟩) (.e .ret ⟨setAll [(.i (.o .h), vB false)], []⟩))
    | _ => some (.br (S.from_ (S.inWt (S.num wt) (S.num ww)) m 0) (.e (.exit 2) ⟨.lf, []⟩) (.e .ret ⟨setAll [(.i (.o .h), vB false)], []⟩))
  | _ => none
def Lp5 (n0 : Nat) (a : MC) (s : St) : Option LTree := bif Nat.beq (keyM a 0) key_law02_truth_l1 then lp_law02_truth 1 s else bif Nat.beq (keyM a 0) key_law02_truth_l2 then lp_law02_truth 2 s else bif Nat.beq (keyM a 0) key_law02_holds_l1 then lp_law02_holds 1 s else bif Nat.beq (keyM a 0) key_law02_holds_l2 then lp_law02_holds 2 s else bif Nat.beq (keyM a 0) key_law02_within_l1 then lp_law02_within 1 s else bif Nat.beq (keyM a 0) key_law02_within_l2 then lp_law02_within 2 s else Lp4 n0 a s
def cs5 {P : Program} (hbs : BsOk P) : Cfg := { cs4 hbs with Sp := Sp5, Lp := Lp5 }
end Go.Ab.B
set_option linter.all false
set_option maxRecDepth 100000
namespace Go.Ab.B
open Go.Proofs
section
variable {hbs : BsOk Tryz.prog}
theorem vc_law02_part (lo hi pc : Int) (Q : AV → Heap → Prop) :
 ((CdP (.i64 (hi - lo))
 (CdP (.i64 ((hi - lo) * pc))
 (CdP (.i64 (Int.tdiv ((hi - lo) * pc) (100 : Int)))
 (CdP (.i64 (lo + (Int.tdiv ((hi - lo) * pc) (100 : Int))))
 (Q (vJ (lo + (Int.tdiv ((hi - lo) * pc) (100 : Int)))) [(some (.box t_api_Span [(cJ lo), (cJ hi)]))])))))) = (ex (cs5 hbs) 1000 0 m_law02_part ⟨ofL 0 [.ag [.p (.int .i64 lo), .p (.int .i64 hi)], .c (cJ pc)] .lf, []⟩ (endK F_law02_part.rs (fun r H => .pr (Q r H)) fun _ _ => .no)).hold2 := by kernel_rfl
theorem vs_law02_truth1 (fu i : Nat) (n : Nat) (it : S.Rows) (lo hi : Int) (m : Nat) (wt : S.Rows) (ld : Bool) (na : Nat) (a : S.Rows) (tk : Int) (nb : Nat) (b : S.Rows) (T : Int) (Q : AX → St → Prop) :
 ((BrP (decide (((i : Nat) : Int) < ((na : Nat) : Int)))
 (CdP (.rng ((i : Nat) : Int) na)
 (BrP (decide ((a i 0) < (0 : Int)))
 (Q .ret ⟨(L4 (.nd (.nd (L4 (L2 (L1 (vS 1 na a))) (L2 (L1 (.tp [])))) (vS 1 nb b) (.nd (L2 (L1 (vB true))) (vN i) (L4 (L1 (vN na)) (L1 (.ag [(.sl 3 0 i), (cJ T), (.p .nsl)]))))) (vS 1 na a) (L4 (.nd (L2 (L1 (.c (.p (.ipt 1 (S.val a i)))))) (vB false) (L4 (L1 (vN i)) (L1 (.tp [])))) (L3 (L2 (L1 (.tp [])))))) (L4 (.nd (.nd (L2 (L1 (vN i))) (vT 1 0) (L2 (L1 (.tp [])))) (vT 0 0) (L4 (L2 (L1 (vB true))) (L3 (L1 (vB true))))) (L4 (.nd (L2 (L1 (vJ (a i 0)))) (vT 2 0) (L4 (L1 (vS 1 na a)) (L1 (vB true)))) (L3 (L2 (L1 (.tp []))))))), [(bX n it lo hi m wt ld), (some (.box t_api_LoadCase [(.sl 3 0 i), (cJ T), (.p .nsl)])), (some (.box t_api_LoadCase [(.sl 3 0 i), (cJ T), (.p .nsl)])), (some (.arr 1 3 i (S.val (S.pcI it a)) []))]⟩)
 (CdP (.rng ((i : Nat) : Int) na)
 (BrP (decide ((a i 0) > (100 : Int)))
 (Q .ret ⟨(L4 (.nd (.nd (L4 (L2 (L1 (vS 1 na a))) (L2 (L1 (.c (.p (.ipt 1 (S.val a i))))))) (vS 1 nb b) (.nd (L2 (L1 (vB false))) (vN i) (L4 (L1 (vN na)) (L1 (.ag [(.sl 3 0 i), (cJ T), (.p .nsl)]))))) (vS 1 na a) (L4 (.nd (L2 (L1 (.c (.p (.ipt 1 (S.val a i)))))) (vB false) (L4 (L1 (vN i)) (L1 (vB true)))) (L3 (L2 (L1 (vS 1 na a)))))) (L4 (.nd (.nd (L2 (L1 (vN i))) (vT 1 0) (L2 (L1 (vJ (a i 0))))) (vT 0 0) (L4 (L2 (L1 (vB false))) (L3 (L1 (vB true))))) (L4 (.nd (L2 (L1 (vJ (a i 0)))) (vT 2 0) (L4 (L1 (vS 1 na a)) (L1 (vB true)))) (L3 (L2 (L1 (vN i))))))), [(bX n it lo hi m wt ld), (some (.box t_api_LoadCase [(.sl 3 0 i), (cJ T), (.p .nsl)])), (some (.box t_api_LoadCase [(.sl 3 0 i), (cJ T), (.p .nsl)])), (some (.arr 1 3 i (S.val (S.pcI it a)) []))]⟩)
 (CdP (.rng ((i : Nat) : Int) n)
 (CdP (.rng ((i : Nat) : Int) na)
 ((FCall (cs5 hbs) f_law02_part [(.ag [(cJ (it i 1)), (cJ (it i 2))]), (vJ (a i 0))] (vJ (S.part (it i 1) (it i 2) (a i 0))) []) ∧
 (CdP (.le i i)
 (CdP (.le i i)
 (CdP (.le ((i + 1) * 8) 140737488355328)
 (CdP (.i64 (((i : Nat) : Int) + (1 : Int)))
 (Q .normal ⟨(L4 (.nd (.nd (L4 (L4 (L3 (L1 (vS 3 n it))) (L1 (vS 1 na a))) (L4 (L3 (L1 (vJ (a i 0)))) (L1 (.c (.p (.ipt 1 (S.val a i))))))) (vS 1 nb b) (.nd (L4 (L3 (L1 (.ag [(cJ (it i 1)), (cJ (it i 2))]))) (L1 (vB false))) (vJ (((i : Nat) : Int) + (1 : Int))) (L3 (L6 (L1 (vT 2 0)) (vN na))))) (vS 1 na a) (L4 (L4 (L4 (L3 (L1 (.c (.p (.ipt 3 (S.val it i)))))) (L1 (.c (.p (.ipt 1 (S.val a i)))))) (L4 (L6 (L1 (.c (.p (.isl 1 1 (fun x16 => (fun x17 => (List.getD [(.int .i64 (S.part (it i 1) (it i 2) (a i 0)))] ((x16 * 1) + x17) .npt))))))) (vN i)) (L1 (vB false)))) (L4 (L4 (L3 (L1 (vN i))) (L1 (vS 1 na a))) (L4 (L1 (vN i)) (L1 (.c (.sl 3 0 i))))))) (L4 (.nd (.nd (L4 (L3 (L1 (vN i))) (L1 (vN i))) (vT 1 0) (L4 (L3 (L1 (vJ (S.part (it i 1) (it i 2) (a i 0))))) (L1 (vJ (a i 0))))) (vT 0 0) (L4 (L4 (L3 (L1 (vS 1 na a))) (L1 (vB false))) (L4 (L1 (vB true)) (L1 (vT 2 0))))) (L4 (.nd (L4 (L3 (L1 (.c (.p (.ipt 2 (fun x16 => (.int .i64 (it i (1 + x16))))))))) (L1 (vJ (a i 0)))) (vT 2 0) (L4 (L6 (L1 (.c (.sl 4 0 (i + 1)))) (vS 1 na a)) (L1 (vB false)))) (L4 (L4 (L3 (L1 (.c (.p (.ipt 1 (S.val a i)))))) (L1 (vN i))) (L4 (L1 (vJ (((i : Nat) : Int) + (1 : Int)))) (L1 (vT 0 0))))))), [(bX n it lo hi m wt ld), (some (.box t_api_LoadCase [(.p .nsl), (cJ 0), (.p .nsl)])), (some (.box t_api_LoadCase [(.sl 4 0 (i + 1)), (cJ T), (.p .nsl)])), (some (.arr 1 3 i (S.val (S.pcI it a)) [])), (some (.arr 1 3 (i + 1) (fun x16 => (fun x17 => (if (x16 < i) then (.int .i64 (S.pcI it a x16 x17)) else (List.getD [(.int .i64 (S.part (it i 1) (it i 2) (a i 0)))] (((x16 - i) * 1) + x17) .npt)))) [3]))]⟩))))))))))))
 (Q (.exit 0) ⟨(L4 (.nd (L5 (vS 1 nb b) (L5 (vN i) (L3 (L1 (vN na))))) (vS 1 na a) (L3 (L2 (L3 (L1 (vN i)))))) (L4 (.nd (L1 (vT 1 0)) (vT 0 0) (L2 (L3 (L1 (vB false))))) (L3 (L5 (vT 2 0) (L3 (L1 (vS 1 na a))))))), [(bX n it lo hi m wt ld), (some (.box t_api_LoadCase [(.p .nsl), (cJ 0), (.p .nsl)])), (some (.box t_api_LoadCase [(.sl 3 0 i), (cJ T), (.p .nsl)])), (some (.arr 1 3 i (S.val (S.pcI it a)) []))]⟩))) = (ex (cs5 hbs) (fu + 60) 0 m_law02_truth_l1 ⟨setAll [(.o .h, .c (cS 1 na a)), (.o (.o .h), .c (cS 1 nb b)), (.o (.o (.i .h)), .c (cJ i)), (.i (.o .h), .c (.pt 0 0)), (.i (.o (.o .h)), .c (.pt 1 0)), (.i (.i (.o .h)), .c (.pt 2 0))], [some (.box t_api_LoadPoint (ptC n (S.val it) lo hi m (S.val wt) ld)), some (.box t_api_LoadCase [.p .nsl, .p (.int .i64 0), .p .nsl]), some (.box t_api_LoadCase [.sl 3 0 i, .p (.int .i64 T), .p .nsl]), some (.arr 1 t_int i (S.val (S.pcI it a)) [])]⟩ (fun e s => .pr (Q e s))).hold2 := by kernel_rfl
theorem vs_law02_truth2 (fu i : Nat) (n : Nat) (it : S.Rows) (lo hi : Int) (m : Nat) (wt : S.Rows) (ld : Bool) (na : Nat) (a : S.Rows) (tk : Int) (nb : Nat) (b : S.Rows) (T : Int) (Q : AX → St → Prop) :
 ((BrP (decide (((i : Nat) : Int) < ((nb : Nat) : Int)))
 (CdP (.rng ((i : Nat) : Int) nb)
 (BrP (decide ((b i 0) < (0 : Int)))
 (Q .ret ⟨(L4 (L4 (.nd (L4 (L2 (L3 (L1 (vB true)))) (L2 (L3 (L1 (vB true))))) (vS 1 nb b) (L4 (L2 (L3 (L1 (vN i)))) (L2 (L3 (L1 (.tp [])))))) (L4 (L5 (vB false) (L2 (L3 (L1 (.tp []))))) (L4 (L2 (L3 (L1 (vJ (b i 0))))) (L4 (L3 (L1 (vS 1 nb b))) (L3 (L1 (vB true))))))) (L4 (.nd (L5 (vT 1 0) (L2 (L3 (L1 (.tp []))))) (vT 0 0) (.nd (L2 (L3 (L1 (.c (.p (.ipt 1 (S.val b i))))))) (vN i) (L4 (L3 (L1 (vN i))) (L3 (L1 (.tp [])))))) (L4 (.nd (L2 (L3 (L1 (vS 1 nb b)))) (vT 2 0) (L2 (L3 (L1 (.tp []))))) (L4 (L2 (L3 (L1 (vB true)))) (L4 (L3 (L1 (vN nb))) (L3 (L1 (.ag [(.sl 3 0 na), (cJ T), (.sl 4 0 i)])))))))), [(bX n it lo hi m wt ld), (some (.box t_api_LoadCase [(.sl 3 0 na), (cJ T), (.sl 4 0 i)])), (some (.box t_api_LoadCase [(.sl 3 0 na), (cJ T), (.sl 4 0 i)])), (some (.arr 1 3 na (S.val (S.pcI it a)) [])), (some (.arr 1 3 i (S.val (S.pcW wt b)) []))]⟩)
 (CdP (.rng ((i : Nat) : Int) nb)
 (BrP (decide ((b i 0) > (100 : Int)))
 (Q .ret ⟨(L4 (L4 (.nd (L4 (L2 (L3 (L1 (vB true)))) (L2 (L3 (L1 (vB false))))) (vS 1 nb b) (L4 (L2 (L3 (L1 (vN i)))) (L2 (L3 (L1 (vJ (b i 0))))))) (L4 (L5 (vB false) (L2 (L3 (L1 (vN i))))) (L4 (L2 (L3 (L1 (vJ (b i 0))))) (L4 (L3 (L1 (vS 1 nb b))) (L3 (L1 (vB true))))))) (L4 (.nd (L5 (vT 1 0) (L2 (L3 (L1 (vS 1 nb b))))) (vT 0 0) (.nd (L2 (L3 (L1 (.c (.p (.ipt 1 (S.val b i))))))) (vN i) (L4 (L3 (L1 (vN i))) (L3 (L1 (vB true)))))) (L4 (.nd (L2 (L3 (L1 (vS 1 nb b)))) (vT 2 0) (L2 (L3 (L1 (.c (.p (.ipt 1 (S.val b i)))))))) (L4 (L2 (L3 (L1 (vB false)))) (L4 (L3 (L1 (vN nb))) (L3 (L1 (.ag [(.sl 3 0 na), (cJ T), (.sl 4 0 i)])))))))), [(bX n it lo hi m wt ld), (some (.box t_api_LoadCase [(.sl 3 0 na), (cJ T), (.sl 4 0 i)])), (some (.box t_api_LoadCase [(.sl 3 0 na), (cJ T), (.sl 4 0 i)])), (some (.arr 1 3 na (S.val (S.pcI it a)) [])), (some (.arr 1 3 i (S.val (S.pcW wt b)) []))]⟩)
 (CdP (.rng ((i : Nat) : Int) m)
 (CdP (.rng ((i : Nat) : Int) nb)
 ((FCall (cs5 hbs) f_law02_part [(.ag [(cJ (wt i 0)), (cJ (wt i 1))]), (vJ (b i 0))] (vJ (S.part (wt i 0) (wt i 1) (b i 0))) []) ∧
 (CdP (.le i i)
 (CdP (.le i i)
 (CdP (.le ((i + 1) * 8) 140737488355328)
 (CdP (.i64 (((i : Nat) : Int) + (1 : Int)))
 (Q .normal ⟨(L4 (L4 (.nd (L4 (L4 (L2 (L1 (vT 2 2))) (L3 (L1 (vB true)))) (L4 (L2 (L1 (vN i))) (L3 (L1 (vB false))))) (vS 1 nb b) (L4 (L4 (L2 (L1 (vN i))) (L3 (L1 (vN i)))) (L4 (L2 (L1 (.c (.p (.isl 1 1 (fun x16 => (fun x17 => (List.getD [(.int .i64 (S.part (wt i 0) (wt i 1) (b i 0)))] ((x16 * 1) + x17) .npt)))))))) (L3 (L1 (vJ (b i 0))))))) (L4 (L4 (L4 (L2 (L1 (vT 0 3))) (L3 (L1 (vJ (((i : Nat) : Int) + (1 : Int)))))) (L4 (L2 (L1 (vJ (b i 0)))) (L3 (L1 (vN i))))) (L4 (L4 (L2 (L1 (.ag [(cJ (wt i 0)), (cJ (wt i 1))]))) (L3 (L1 (vJ (b i 0))))) (L4 (L4 (L1 (vS 1 nb b)) (L1 (vT 2 2))) (L3 (L1 (vB false))))))) (L4 (.nd (.nd (L4 (L2 (L1 (.c (.sl 4 0 i)))) (L3 (L1 (vN i)))) (vT 1 0) (L4 (L2 (L1 (.c (.p (.ipt 1 (S.val b i)))))) (L3 (L1 (vS 1 nb b))))) (vT 0 0) (.nd (L4 (L2 (L1 (.c (.p (.ipt 2 (S.val wt i)))))) (L3 (L1 (.c (.p (.ipt 1 (S.val b i))))))) (vJ (((i : Nat) : Int) + (1 : Int))) (L4 (L4 (L1 (vN i)) (L1 (.c (.sl 5 0 (i + 1))))) (L3 (L1 (vB false)))))) (L4 (.nd (L4 (L2 (L1 (vS 2 m wt))) (L3 (L1 (vS 1 nb b)))) (vT 2 0) (L4 (L2 (L1 (vJ (S.part (wt i 0) (wt i 1) (b i 0))))) (L3 (L1 (.c (.p (.ipt 1 (S.val b i)))))))) (L4 (L4 (L2 (L1 (vS 1 nb b))) (L3 (L1 (vB false)))) (L3 (L3 (L1 (vN nb)))))))), [(bX n it lo hi m wt ld), (some (.box t_api_LoadCase [(.p .nsl), (cJ 0), (.p .nsl)])), (some (.box t_api_LoadCase [(.sl 3 0 na), (cJ T), (.sl 5 0 (i + 1))])), (some (.arr 1 3 na (S.val (S.pcI it a)) [])), (some (.arr 1 3 i (S.val (S.pcW wt b)) [])), (some (.arr 1 3 (i + 1) (fun x16 => (fun x17 => (if (x16 < i) then (.int .i64 (S.pcW wt b x16 x17)) else (List.getD [(.int .i64 (S.part (wt i 0) (wt i 1) (b i 0)))] (((x16 - i) * 1) + x17) .npt)))) [4]))]⟩))))))))))))
 (Q (.exit 2) ⟨(L4 (L4 (L6 (L3 (L2 (L3 (L1 (vB false))))) (vS 1 nb b)) (L2 (L2 (L3 (L3 (L1 (vS 1 nb b))))))) (L4 (.nd (L1 (vT 1 0)) (vT 0 0) (L5 (vN i) (L3 (L3 (L1 (vN i)))))) (L4 (L1 (vT 2 0)) (L2 (L3 (L3 (L1 (vN nb)))))))), [(bX n it lo hi m wt ld), (some (.box t_api_LoadCase [(.p .nsl), (cJ 0), (.p .nsl)])), (some (.box t_api_LoadCase [(.sl 3 0 na), (cJ T), (.sl 4 0 i)])), (some (.arr 1 3 na (S.val (S.pcI it a)) [])), (some (.arr 1 3 i (S.val (S.pcW wt b)) []))]⟩))) = (ex (cs5 hbs) (fu + 60) 0 m_law02_truth_l2 ⟨setAll [(.o (.o .h), .c (cS 1 nb b)), (.i (.o .h), .c (.pt 0 0)), (.i (.o (.o .h)), .c (.pt 1 0)), (.i (.o (.i .h)), .c (cJ i)), (.i (.i (.o .h)), .c (.pt 2 0))], [some (.box t_api_LoadPoint (ptC n (S.val it) lo hi m (S.val wt) ld)), some (.box t_api_LoadCase [.p .nsl, .p (.int .i64 0), .p .nsl]), some (.box t_api_LoadCase [.sl 3 0 na, .p (.int .i64 T), .sl 4 0 i]), some (.arr 1 t_int na (S.val (S.pcI it a)) []), some (.arr 1 t_int i (S.val (S.pcW wt b)) [])]⟩ (fun e s => .pr (Q e s))).hold2 := by kernel_rfl
theorem vs_law02_holds1 (fu i : Nat) (e mo t l : Int) (nc : Nat) (c : S.Rows) (ns : Nat) (s : S.Rows) (ta tm r : Int) (nf : Nat) (f : S.Rows) (n : Nat) (it : S.Rows) (lo hi : Int) (m : Nat) (wt : S.Rows) (ld : Bool) (n2 : Nat) (cc : S.Rows) (tk : Int) (m2 : Nat) (ww : S.Rows) (W M : Int) (Q : AX → St → Prop) :
 ((BrP (decide (((i : Nat) : Int) < ((ns : Nat) : Int)))
 ((FCall (cs5 hbs) f_ref02_At [(.ag (kX n it lo hi m wt ld)), (.ag (kC n2 cc tk m2 ww)), (vN i)] (vJ (S.sumR (S.atR it cc ((i : Nat) : Int)) n2 0)) []) ∧
 (CdP (.rng ((i : Nat) : Int) ns)
 (BrP (decide ((S.sumR (S.atR it cc ((i : Nat) : Int)) n2 0) > (s i 1)))
 (Q .ret ⟨(L4 (L4 (.nd (.nd (L3 (L1 (vT 0 5))) (vJ W) (L1 (vN ns))) (vT 0 0) (L4 (L3 (L1 (.c (.p (.ipt 1 (fun x30 => (.int .i64 (s i (1 + x30))))))))) (L1 (.ag (kX n it lo hi m wt ld))))) (.nd (L6 (L3 (L1 (vN i))) (vN i)) (vT 2 0) (L4 (L6 (L1 (vB true)) (vT 0 5)) (L1 (vN i))))) (L4 (.nd (.nd (L3 (L1 (vS 2 ns s))) (vJ M) (L1 (vB true))) (vT 1 0) (L4 (L6 (L1 (vJ (s i 1))) (vN i)) (L1 (.ag (kC n2 cc tk m2 ww))))) (.nd (L3 (L3 (L1 (.c (.p (.ipt 2 (S.val s i))))))) (vB false) (L4 (L1 (vS 2 ns s)) (L1 (vJ (S.sumR (S.atR it cc ((i : Nat) : Int)) n2 0))))))), [(bP e mo t l nc c ns s ta tm r nf f), (bX n it lo hi m wt ld), (bC n2 cc tk m2 ww)]⟩)
 (CdP (.i64 (((i : Nat) : Int) + (1 : Int)))
 (Q .normal ⟨(L4 (L4 (.nd (.nd (L3 (L1 (vT 0 5))) (vJ W) (L1 (vN ns))) (vT 0 0) (L4 (L3 (L1 (.c (.p (.ipt 1 (fun x30 => (.int .i64 (s i (1 + x30))))))))) (L1 (.ag (kX n it lo hi m wt ld))))) (.nd (.nd (L3 (L1 (vN i))) (vJ (((i : Nat) : Int) + (1 : Int))) (L1 (vN i))) (vT 2 0) (L4 (L6 (L1 (vB false)) (vT 0 5)) (L1 (vN i))))) (L4 (.nd (.nd (L3 (L1 (vS 2 ns s))) (vJ M) (L1 (vB true))) (vT 1 0) (L4 (L6 (L1 (vJ (s i 1))) (vN i)) (L1 (.ag (kC n2 cc tk m2 ww))))) (L4 (L4 (L3 (L1 (.c (.p (.ipt 2 (S.val s i)))))) (L1 (vJ (((i : Nat) : Int) + (1 : Int))))) (L4 (L1 (vS 2 ns s)) (L1 (vJ (S.sumR (S.atR it cc ((i : Nat) : Int)) n2 0))))))), [(bP e mo t l nc c ns s ta tm r nf f), (bX n it lo hi m wt ld), (bC n2 cc tk m2 ww)]⟩)))))
 (Q (.exit 0) ⟨(L4 (L4 (L6 (L5 (vJ W) (L1 (vN ns))) (vT 0 0)) (.nd (L1 (vN i)) (vT 2 0) (L3 (L1 (vT 0 5))))) (L4 (.nd (L5 (vJ M) (L1 (vB false))) (vT 1 0) (L3 (L1 (vN i)))) (L2 (L3 (L1 (vS 2 ns s)))))), [(bP e mo t l nc c ns s ta tm r nf f), (bX n it lo hi m wt ld), (bC n2 cc tk m2 ww)]⟩))) = (ex (cs5 hbs) (fu + 60) 0 m_law02_holds_l1 ⟨setAll [(.o (.o .h), .c (.pt 0 0)), (.i (.o .h), .c (.pt 1 0)), (.o (.i .h), .c (.pt 2 0)), (.o (.o (.o .h)), .c (cJ W)), (.i (.o (.o .h)), .c (cJ M)), (.o (.i (.o .h)), .c (cJ i))], [some (.box t_api_Plane (plC e mo t l nc (S.val c) ns (S.val s) ta tm r nf (S.val f))), some (.box t_api_LoadPoint (ptC n (S.val it) lo hi m (S.val wt) ld)), some (.box t_api_LoadCase [.p (.isl 1 n2 (S.val cc)), .p (.int .i64 tk), .p (.isl 1 m2 (S.val ww))])]⟩ (fun e s => .pr (Q e s))).hold2 := by kernel_rfl
theorem vs_law02_holds2 (fu i : Nat) (e mo t l : Int) (nc : Nat) (c : S.Rows) (ns : Nat) (s : S.Rows) (ta tm r : Int) (nf : Nat) (f : S.Rows) (n : Nat) (it : S.Rows) (lo hi : Int) (m : Nat) (wt : S.Rows) (ld : Bool) (n2 : Nat) (cc : S.Rows) (tk : Int) (m2 : Nat) (ww : S.Rows) (W M : Int) (Q : AX → St → Prop) :
 ((BrP (decide (((i : Nat) : Int) < ((m2 : Nat) : Int)))
 (CdP (.rng ((i : Nat) : Int) m2)
 (CdP (.rng ((i : Nat) : Int) nf)
 (BrP (decide ((ww i 0) > (f i 1)))
 (Q .ret ⟨(L4 (L4 (.nd (.nd (L2 (L1 (vN i))) (vJ W) (L4 (L1 (vT 2 2)) (L1 (vJ (f i 1))))) (vT 0 0) (L3 (L2 (L1 (vS 2 nf f))))) (.nd (L4 (L2 (L1 (vJ (ww i 0)))) (L3 (L1 (vN m2)))) (vT 2 0) (L4 (L2 (L1 (.c (.p (.ipt 2 (S.val f i)))))) (L3 (L1 (vT 2 2)))))) (L4 (.nd (.nd (L2 (L1 (.c (.p (.ipt 1 (S.val ww i)))))) (vJ M) (L4 (L1 (vS 1 m2 ww)) (L1 (vB true)))) (vT 1 0) (L3 (L2 (L1 (vN i))))) (.nd (.nd (L2 (L1 (vT 0 9))) (vN i) (L3 (L1 (vB true)))) (vB false) (L4 (L4 (L1 (vN i)) (L1 (.c (.p (.ipt 1 (fun x30 => (.int .i64 (f i (1 + x30))))))))) (L3 (L1 (vS 1 m2 ww))))))), [(bP e mo t l nc c ns s ta tm r nf f), (bX n it lo hi m wt ld), (bC n2 cc tk m2 ww)]⟩)
 (CdP (.i64 (((i : Nat) : Int) + (1 : Int)))
 (Q .normal ⟨(L4 (L4 (.nd (.nd (L2 (L1 (vN i))) (vJ W) (L4 (L1 (vT 2 2)) (L1 (vJ (f i 1))))) (vT 0 0) (L4 (L2 (L1 (vS 2 nf f))) (L3 (L1 (vN i))))) (.nd (L4 (L2 (L1 (vJ (ww i 0)))) (L3 (L1 (vN m2)))) (vT 2 0) (L4 (L2 (L1 (.c (.p (.ipt 2 (S.val f i)))))) (L3 (L1 (vT 2 2)))))) (L4 (.nd (.nd (L2 (L1 (.c (.p (.ipt 1 (S.val ww i)))))) (vJ M) (L4 (L1 (vS 1 m2 ww)) (L1 (vB false)))) (vT 1 0) (L4 (L2 (L1 (vN i))) (L3 (L1 (vJ (((i : Nat) : Int) + (1 : Int))))))) (L4 (.nd (L2 (L1 (vT 0 9))) (vJ (((i : Nat) : Int) + (1 : Int))) (L3 (L1 (vB true)))) (L4 (L4 (L1 (vN i)) (L1 (.c (.p (.ipt 1 (fun x30 => (.int .i64 (f i (1 + x30))))))))) (L3 (L1 (vS 1 m2 ww))))))), [(bP e mo t l nc c ns s ta tm r nf f), (bX n it lo hi m wt ld), (bC n2 cc tk m2 ww)]⟩)))))
 (Q (.exit 2) ⟨(L4 (L4 (L6 (L5 (vJ W) (L3 (L1 (vT 2 2)))) (vT 0 0)) (L6 (L2 (L3 (L1 (vN m2)))) (vT 2 0))) (L4 (L6 (L5 (vJ M) (L3 (L1 (vS 1 m2 ww)))) (vT 1 0)) (L4 (L5 (vN i) (L3 (L1 (vB false)))) (L3 (L3 (L1 (vN i))))))), [(bP e mo t l nc c ns s ta tm r nf f), (bX n it lo hi m wt ld), (bC n2 cc tk m2 ww)]⟩))) = (ex (cs5 hbs) (fu + 60) 0 m_law02_holds_l2 ⟨setAll [(.o (.o .h), .c (.pt 0 0)), (.i (.o .h), .c (.pt 1 0)), (.o (.i .h), .c (.pt 2 0)), (.o (.o (.o .h)), .c (cJ W)), (.i (.o (.o .h)), .c (cJ M)), (.i (.i (.o .h)), .c (cJ i))], [some (.box t_api_Plane (plC e mo t l nc (S.val c) ns (S.val s) ta tm r nf (S.val f))), some (.box t_api_LoadPoint (ptC n (S.val it) lo hi m (S.val wt) ld)), some (.box t_api_LoadCase [.p (.isl 1 n2 (S.val cc)), .p (.int .i64 tk), .p (.isl 1 m2 (S.val ww))])]⟩ (fun e s => .pr (Q e s))).hold2 := by kernel_rfl
theorem vc_law02_holds (e mo t l : Int) (nc : Nat) (c : S.Rows) (ns : Nat) (s : S.Rows) (ta tm r : Int) (nf : Nat) (f : S.Rows) (n : Nat) (it : S.Rows) (lo hi : Int) (m : Nat) (wt : S.Rows) (ld : Bool) (n2 : Nat) (cc : S.Rows) (tk : Int) (m2 : Nat) (ww : S.Rows) (Q : AV → Heap → Prop) :
 (((FCall (cs5 hbs) f_ref02_Weight [(.ag (kP e mo t l nc c ns s ta tm r nf f)), (.ag (kX n it lo hi m wt ld)), (.ag (kC n2 cc tk m2 ww))] (.tp [(vJ (S.wgt e tk n2 cc m2 ww)), (vJ (S.mom mo tk ta n2 cc it s m2 ww f))]) []) ∧
 ((LoopGo (ex (cs5 hbs) 994) 0 m_law02_holds_l1 ⟨(.nd (.nd (.nd (L6 (L1 (.ag (kX n it lo hi m wt ld))) (vJ (S.wgt e tk n2 cc m2 ww))) (vT 0 0) (L3 (L1 (vJ (S.mom mo tk ta n2 cc it s m2 ww f))))) (.ag (kX n it lo hi m wt ld)) (.nd (L6 (L1 (.tp [(vJ (S.wgt e tk n2 cc m2 ww)), (vJ (S.mom mo tk ta n2 cc it s m2 ww f))])) (vJ 0)) (vT 2 0) (L1 (.tp [(vJ (S.wgt e tk n2 cc m2 ww)), (vJ (S.mom mo tk ta n2 cc it s m2 ww f))])))) (.ag (kP e mo t l nc c ns s ta tm r nf f)) (.nd (L6 (L6 (L1 (.ag (kC n2 cc tk m2 ww))) (vJ (S.mom mo tk ta n2 cc it s m2 ww f))) (vT 1 0)) (.ag (kC n2 cc tk m2 ww)) (.nd (L3 (L1 (vJ (S.wgt e tk n2 cc m2 ww)))) (vB false) (L1 (.ag (kP e mo t l nc c ns s ta tm r nf f)))))), [(bP e mo t l nc c ns s ta tm r nf f), (bX n it lo hi m wt ld), (bC n2 cc tk m2 ww)]⟩ (.br (S.from_ (S.atOk n2 it cc s) ns 0) (.e (.exit 0) ⟨(L4 (L4 (L6 (L1 (vJ (S.wgt e tk n2 cc m2 ww))) (vT 0 0)) (L1 (vT 2 0))) (L3 (L6 (L1 (vJ (S.mom mo tk ta n2 cc it s m2 ww f))) (vT 1 0)))), [(bP e mo t l nc c ns s ta tm r nf f), (bX n it lo hi m wt ld), (bC n2 cc tk m2 ww)]⟩) (.e .ret ⟨(L2 (L2 (L1 (vB false)))), []⟩))) ∧
 (BrP (S.from_ (S.atOk n2 it cc s) ns 0)
 ((LoopGo (ex (cs5 hbs) 993) 0 m_law02_holds_l2 ⟨(L4 (L4 (L6 (L1 (vJ (S.wgt e tk n2 cc m2 ww))) (vT 0 0)) (L1 (vT 2 0))) (L4 (L6 (L1 (vJ (S.mom mo tk ta n2 cc it s m2 ww f))) (vT 1 0)) (L3 (L1 (vJ 0))))), [(bP e mo t l nc c ns s ta tm r nf f), (bX n it lo hi m wt ld), (bC n2 cc tk m2 ww)]⟩ (.br (S.from_ (S.wwOk f ww) m2 0) (.e (.exit 2) ⟨(L4 (L4 (L6 (L1 (vJ (S.wgt e tk n2 cc m2 ww))) (vT 0 0)) (L1 (vT 2 0))) (L3 (L6 (L1 (vJ (S.mom mo tk ta n2 cc it s m2 ww f))) (vT 1 0)))), [(bP e mo t l nc c ns s ta tm r nf f), (bX n it lo hi m wt ld), (bC n2 cc tk m2 ww)]⟩) (.e .ret ⟨(L2 (L2 (L1 (vB false)))), []⟩))) ∧
 (BrP (S.from_ (S.wwOk f ww) m2 0)
 (BrP (decide (tk > tm))
 (Q (vB false) [(bP e mo t l nc c ns s ta tm r nf f), (bX n it lo hi m wt ld), (bC n2 cc tk m2 ww)])
 (BrP ld
 (BrP (decide (tk < r))
 (Q (vB false) [(bP e mo t l nc c ns s ta tm r nf f), (bX n it lo hi m wt ld), (bC n2 cc tk m2 ww)])
 (BrP (decide ((S.wgt e tk n2 cc m2 ww) > l))
 (Q (vB false) [(bP e mo t l nc c ns s ta tm r nf f), (bX n it lo hi m wt ld), (bC n2 cc tk m2 ww)])
 (BrP ld
 ((FCall (cs5 hbs) f_load_Inside [(.ag (kP e mo t l nc c ns s ta tm r nf f)), (vJ (S.wgt e tk n2 cc m2 ww)), (vJ (S.mom mo tk ta n2 cc it s m2 ww f))] (.tp [(.c (.p (.bool (S.ins nc c (S.wgt e tk n2 cc m2 ww) (S.mom mo tk ta n2 cc it s m2 ww f))))), (vJ 0)]) []) ∧
 (BrP (S.ins nc c (S.wgt e tk n2 cc m2 ww) (S.mom mo tk ta n2 cc it s m2 ww f))
 (Q (vB true) [(bP e mo t l nc c ns s ta tm r nf f), (bX n it lo hi m wt ld), (bC n2 cc tk m2 ww)])
 (Q (vB false) [(bP e mo t l nc c ns s ta tm r nf f), (bX n it lo hi m wt ld), (bC n2 cc tk m2 ww)])))
 (BrP (decide ((S.wgt e tk n2 cc m2 ww) > t))
 (Q (vB false) [(bP e mo t l nc c ns s ta tm r nf f), (bX n it lo hi m wt ld), (bC n2 cc tk m2 ww)])
 ((FCall (cs5 hbs) f_load_Inside [(.ag (kP e mo t l nc c ns s ta tm r nf f)), (vJ (S.wgt e tk n2 cc m2 ww)), (vJ (S.mom mo tk ta n2 cc it s m2 ww f))] (.tp [(.c (.p (.bool (S.ins nc c (S.wgt e tk n2 cc m2 ww) (S.mom mo tk ta n2 cc it s m2 ww f))))), (vJ 0)]) []) ∧
 (BrP (S.ins nc c (S.wgt e tk n2 cc m2 ww) (S.mom mo tk ta n2 cc it s m2 ww f))
 (Q (vB true) [(bP e mo t l nc c ns s ta tm r nf f), (bX n it lo hi m wt ld), (bC n2 cc tk m2 ww)])
 (Q (vB false) [(bP e mo t l nc c ns s ta tm r nf f), (bX n it lo hi m wt ld), (bC n2 cc tk m2 ww)])))))))
 (BrP ld
 ((FCall (cs5 hbs) f_load_Inside [(.ag (kP e mo t l nc c ns s ta tm r nf f)), (vJ (S.wgt e tk n2 cc m2 ww)), (vJ (S.mom mo tk ta n2 cc it s m2 ww f))] (.tp [(.c (.p (.bool (S.ins nc c (S.wgt e tk n2 cc m2 ww) (S.mom mo tk ta n2 cc it s m2 ww f))))), (vJ 0)]) []) ∧
 (BrP (S.ins nc c (S.wgt e tk n2 cc m2 ww) (S.mom mo tk ta n2 cc it s m2 ww f))
 (Q (vB true) [(bP e mo t l nc c ns s ta tm r nf f), (bX n it lo hi m wt ld), (bC n2 cc tk m2 ww)])
 (Q (vB false) [(bP e mo t l nc c ns s ta tm r nf f), (bX n it lo hi m wt ld), (bC n2 cc tk m2 ww)])))
 (BrP (decide ((S.wgt e tk n2 cc m2 ww) > t))
 (Q (vB false) [(bP e mo t l nc c ns s ta tm r nf f), (bX n it lo hi m wt ld), (bC n2 cc tk m2 ww)])
 ((FCall (cs5 hbs) f_load_Inside [(.ag (kP e mo t l nc c ns s ta tm r nf f)), (vJ (S.wgt e tk n2 cc m2 ww)), (vJ (S.mom mo tk ta n2 cc it s m2 ww f))] (.tp [(.c (.p (.bool (S.ins nc c (S.wgt e tk n2 cc m2 ww) (S.mom mo tk ta n2 cc it s m2 ww f))))), (vJ 0)]) []) ∧
 (BrP (S.ins nc c (S.wgt e tk n2 cc m2 ww) (S.mom mo tk ta n2 cc it s m2 ww f))
 (Q (vB true) [(bP e mo t l nc c ns s ta tm r nf f), (bX n it lo hi m wt ld), (bC n2 cc tk m2 ww)])
 (Q (vB false) [(bP e mo t l nc c ns s ta tm r nf f), (bX n it lo hi m wt ld), (bC n2 cc tk m2 ww)])))))))
 (Q (vB false) [])))
 (Q (vB false) []))))) = (ex (cs5 hbs) 1000 0 m_law02_holds ⟨ofL 0 [.ag (plC e mo t l nc (S.val c) ns (S.val s) ta tm r nf (S.val f)), .ag (ptC n (S.val it) lo hi m (S.val wt) ld), .ag [.p (.isl 1 n2 (S.val cc)), .p (.int .i64 tk), .p (.isl 1 m2 (S.val ww))]] .lf, []⟩ (endK F_law02_holds.rs (fun r H => .pr (Q r H)) fun _ _ => .no)).hold2 := by kernel_rfl
theorem vs_law02_within1 (fu i : Nat) (n : Nat) (it : S.Rows) (lo hi : Int) (m : Nat) (wt : S.Rows) (ld : Bool) (n2 : Nat) (cc : S.Rows) (tk : Int) (m2 : Nat) (ww : S.Rows) (Q : AX → St → Prop) :
 ((BrP (decide (((i : Nat) : Int) < ((n2 : Nat) : Int)))
 (CdP (.rng ((i : Nat) : Int) n)
 (CdP (.rng ((i : Nat) : Int) n2)
 (BrP (decide ((cc i 0) < (it i 1)))
 (Q .ret ⟨(L4 (L4 (.nd (L4 (L3 (L3 (L1 (.tp [])))) (L4 (L3 (L1 (vB true))) (L1 (vS 1 n2 cc)))) (vT 1 0) (L4 (L4 (L3 (L1 (.tp []))) (L1 (.c (.p (.ipt 3 (S.val it i)))))) (L4 (L1 (vS 1 n2 cc)) (L1 (vT 2 0))))) (.nd (L4 (L4 (L3 (L1 (.tp []))) (L1 (vS 3 n it))) (L4 (L1 (vN i)) (L1 (.c (.p (.ipt 1 (S.val cc i))))))) (vN i) (L4 (L4 (L3 (L1 (.tp []))) (L1 (.ag [(cJ (it i 1)), (cJ (it i 2))]))) (L4 (L1 (vB true)) (L1 (vB true)))))) (.nd (.nd (L4 (L4 (L3 (L1 (.tp []))) (L1 (vT 0 0))) (L2 (L1 (vN i)))) (vB false) (L4 (L4 (L3 (L1 (.tp []))) (L1 (.c (.p (.ipt 2 (fun x15 => (.int .i64 (it i (1 + x15))))))))) (L4 (L1 (vN n2)) (L1 (vJ (it i 1)))))) (vT 0 0) (.nd (L4 (L4 (L3 (L1 (.tp []))) (L1 (vN i))) (L4 (L1 (vT 1 0)) (L1 (vJ (cc i 0))))) (vT 2 0) (L4 (L4 (L3 (L1 (.tp []))) (L1 (vT 1 0))) (L2 (L1 (vB true))))))), [(bX n it lo hi m wt ld), (bC n2 cc tk m2 ww), (some (.box t_api_Span [(cJ (it i 1)), (cJ (it i 2))]))]⟩)
 (CdP (.rng ((i : Nat) : Int) n2)
 (BrP (decide ((cc i 0) > (it i 2)))
 (Q .ret ⟨(L4 (L4 (.nd (L4 (L3 (L3 (L1 (vT 1 0)))) (L4 (L3 (L1 (vB true))) (L1 (vS 1 n2 cc)))) (vT 1 0) (L4 (L4 (L3 (L1 (vJ (cc i 0)))) (L1 (.c (.p (.ipt 3 (S.val it i)))))) (L4 (L1 (vS 1 n2 cc)) (L1 (vT 2 0))))) (.nd (L4 (L4 (L3 (L1 (vN i))) (L1 (vS 3 n it))) (L4 (L1 (vN i)) (L1 (.c (.p (.ipt 1 (S.val cc i))))))) (vN i) (L4 (L4 (L3 (L1 (vJ (it i 2)))) (L1 (.ag [(cJ (it i 1)), (cJ (it i 2))]))) (L4 (L1 (vB true)) (L1 (vB false)))))) (.nd (.nd (L4 (L4 (L3 (L1 (vS 1 n2 cc))) (L1 (vT 0 0))) (L2 (L1 (vN i)))) (vB false) (L4 (L4 (L3 (L1 (vT 2 1))) (L1 (.c (.p (.ipt 2 (fun x15 => (.int .i64 (it i (1 + x15))))))))) (L4 (L1 (vN n2)) (L1 (vJ (it i 1)))))) (vT 0 0) (.nd (L4 (L4 (L3 (L1 (.c (.p (.ipt 1 (S.val cc i)))))) (L1 (vN i))) (L4 (L1 (vT 1 0)) (L1 (vJ (cc i 0))))) (vT 2 0) (L4 (L4 (L3 (L1 (vB true))) (L1 (vT 1 0))) (L2 (L1 (vB false))))))), [(bX n it lo hi m wt ld), (bC n2 cc tk m2 ww), (some (.box t_api_Span [(cJ (it i 1)), (cJ (it i 2))]))]⟩)
 (CdP (.i64 (((i : Nat) : Int) + (1 : Int)))
 (Q .normal ⟨(L4 (L4 (.nd (L4 (L4 (L3 (L1 (vT 1 0))) (L1 (vJ (((i : Nat) : Int) + (1 : Int))))) (L4 (L3 (L1 (vB false))) (L1 (vS 1 n2 cc)))) (vT 1 0) (L4 (L4 (L3 (L1 (vJ (cc i 0)))) (L1 (.c (.p (.ipt 3 (S.val it i)))))) (L4 (L1 (vS 1 n2 cc)) (L1 (vT 2 0))))) (.nd (L4 (L4 (L3 (L1 (vN i))) (L1 (vS 3 n it))) (L4 (L1 (vN i)) (L1 (.c (.p (.ipt 1 (S.val cc i))))))) (vJ (((i : Nat) : Int) + (1 : Int))) (L4 (L4 (L3 (L1 (vJ (it i 2)))) (L1 (.ag [(cJ (it i 1)), (cJ (it i 2))]))) (L4 (L1 (vB true)) (L1 (vB false)))))) (.nd (L4 (L4 (L4 (L3 (L1 (vS 1 n2 cc))) (L1 (vT 0 0))) (L2 (L1 (vN i)))) (L4 (L4 (L3 (L1 (vT 2 1))) (L1 (.c (.p (.ipt 2 (fun x15 => (.int .i64 (it i (1 + x15))))))))) (L4 (L1 (vN n2)) (L1 (vJ (it i 1)))))) (vT 0 0) (.nd (L4 (L4 (L3 (L1 (.c (.p (.ipt 1 (S.val cc i)))))) (L1 (vN i))) (L4 (L1 (vT 1 0)) (L1 (vJ (cc i 0))))) (vT 2 0) (L4 (L4 (L3 (L1 (vB false))) (L1 (vT 1 0))) (L4 (L1 (vN i)) (L1 (vB false))))))), [(bX n it lo hi m wt ld), (bC n2 cc tk m2 ww), (some (.box t_api_Span [(cJ (it i 1)), (cJ (it i 2))]))]⟩)))))))
 (Q (.exit 0) ⟨(L4 (L4 (L5 (vT 1 0) (L2 (L3 (L1 (vS 1 n2 cc))))) (.nd (L2 (L3 (L1 (vN i)))) (vN i) (L2 (L3 (L1 (vB false)))))) (.nd (L2 (L2 (L3 (L1 (vN n2))))) (vT 0 0) (L3 (L2 (L3 (L1 (vT 1 0))))))), [(bX n it lo hi m wt ld), (bC n2 cc tk m2 ww)]⟩))) = (ex (cs5 hbs) (fu + 60) 0 m_law02_within_l1 ⟨setAll [(.i .h, .c (.pt 0 0)), (.o (.o .h), .c (.pt 1 0)), (.o (.i .h), .c (cJ i))], [some (.box t_api_LoadPoint (ptC n (S.val it) lo hi m (S.val wt) ld)), some (.box t_api_LoadCase [.p (.isl 1 n2 (S.val cc)), .p (.int .i64 tk), .p (.isl 1 m2 (S.val ww))])]⟩ (fun e s => .pr (Q e s))).hold2 := by kernel_rfl
theorem vs_law02_within2 (fu i : Nat) (n : Nat) (it : S.Rows) (lo hi : Int) (m : Nat) (wt : S.Rows) (ld : Bool) (n2 : Nat) (cc : S.Rows) (tk : Int) (m2 : Nat) (ww : S.Rows) (Q : AX → St → Prop) :
 ((BrP (decide (((i : Nat) : Int) < ((m2 : Nat) : Int)))
 (CdP (.rng ((i : Nat) : Int) m)
 (CdP (.rng ((i : Nat) : Int) m2)
 (BrP (decide ((ww i 0) < (wt i 0)))
 (Q .ret ⟨(L4 (L4 (.nd (.nd (L4 (L2 (L1 (.tp []))) (L3 (L1 (vT 0 3)))) (vN i) (L2 (L3 (L1 (.c (.p (.ipt 1 (S.val ww i)))))))) (vT 1 0) (L4 (L4 (L2 (L1 (.tp []))) (L3 (L1 (.ag [(cJ (wt i 0)), (cJ (wt i 1))])))) (L4 (L3 (L1 (vN m2))) (L3 (L1 (vB true)))))) (L4 (L4 (L4 (L2 (L1 (.tp []))) (L3 (L1 (vN i)))) (L4 (L3 (L1 (vT 1 2))) (L3 (L1 (vT 2 0))))) (L4 (L4 (L2 (L1 (vB true))) (L3 (L1 (vS 1 m2 ww)))) (L2 (L3 (L1 (.tp []))))))) (.nd (.nd (.nd (L4 (L2 (L1 (.tp []))) (L3 (L1 (vS 2 m wt)))) (vT 2 0) (L4 (L3 (L1 (vN i))) (L3 (L1 (vJ (ww i 0)))))) (vB false) (L4 (L4 (L2 (L1 (.tp []))) (L3 (L1 (vT 1 2)))) (L4 (L3 (L1 (vB true))) (L3 (L1 (vB true)))))) (vT 0 0) (L4 (L4 (L4 (L2 (L1 (.tp []))) (L3 (L1 (.c (.p (.ipt 2 (S.val wt i))))))) (L4 (L3 (L1 (vS 1 m2 ww))) (L3 (L1 (vJ (wt i 0)))))) (L4 (L2 (L3 (L1 (vN i)))) (L2 (L3 (L1 (.tp [])))))))), [(bX n it lo hi m wt ld), (bC n2 cc tk m2 ww), (some (.box t_api_Span [(cJ (wt i 0)), (cJ (wt i 1))]))]⟩)
 (CdP (.rng ((i : Nat) : Int) m2)
 (BrP (decide ((ww i 0) > (wt i 1)))
 (Q .ret ⟨(L4 (L4 (.nd (.nd (L4 (L2 (L1 (vN i))) (L3 (L1 (vT 0 3)))) (vN i) (L2 (L3 (L1 (.c (.p (.ipt 1 (S.val ww i)))))))) (vT 1 0) (L4 (L4 (L2 (L1 (vJ (wt i 1)))) (L3 (L1 (.ag [(cJ (wt i 0)), (cJ (wt i 1))])))) (L4 (L3 (L1 (vN m2))) (L3 (L1 (vB false)))))) (L4 (L4 (L4 (L2 (L1 (vJ (ww i 0)))) (L3 (L1 (vN i)))) (L4 (L3 (L1 (vT 1 2))) (L3 (L1 (vT 2 0))))) (L4 (L4 (L2 (L1 (vB true))) (L3 (L1 (vS 1 m2 ww)))) (L2 (L3 (L1 (vT 1 2))))))) (.nd (.nd (.nd (L4 (L2 (L1 (.c (.p (.ipt 1 (S.val ww i)))))) (L3 (L1 (vS 2 m wt)))) (vT 2 0) (L4 (L3 (L1 (vN i))) (L3 (L1 (vJ (ww i 0)))))) (vB false) (L4 (L4 (L2 (L1 (vB true))) (L3 (L1 (vT 1 2)))) (L4 (L3 (L1 (vB true))) (L3 (L1 (vB false)))))) (vT 0 0) (L4 (L4 (L4 (L2 (L1 (vT 2 1))) (L3 (L1 (.c (.p (.ipt 2 (S.val wt i))))))) (L4 (L3 (L1 (vS 1 m2 ww))) (L3 (L1 (vJ (wt i 0)))))) (L4 (L2 (L3 (L1 (vN i)))) (L2 (L3 (L1 (vS 1 m2 ww)))))))), [(bX n it lo hi m wt ld), (bC n2 cc tk m2 ww), (some (.box t_api_Span [(cJ (wt i 0)), (cJ (wt i 1))]))]⟩)
 (CdP (.i64 (((i : Nat) : Int) + (1 : Int)))
 (Q .normal ⟨(L4 (L4 (.nd (.nd (L4 (L2 (L1 (vN i))) (L3 (L1 (vT 0 3)))) (vJ (((i : Nat) : Int) + (1 : Int))) (L2 (L3 (L1 (.c (.p (.ipt 1 (S.val ww i)))))))) (vT 1 0) (L4 (L4 (L2 (L1 (vJ (wt i 1)))) (L3 (L1 (.ag [(cJ (wt i 0)), (cJ (wt i 1))])))) (L4 (L3 (L1 (vN m2))) (L3 (L1 (vB false)))))) (L4 (L4 (L4 (L2 (L1 (vJ (ww i 0)))) (L3 (L1 (vN i)))) (L4 (L3 (L1 (vT 1 2))) (L3 (L1 (vT 2 0))))) (L4 (L4 (L2 (L1 (vB false))) (L3 (L1 (vS 1 m2 ww)))) (L4 (L3 (L1 (vN i))) (L3 (L1 (vT 1 2))))))) (.nd (L4 (.nd (L4 (L2 (L1 (.c (.p (.ipt 1 (S.val ww i)))))) (L3 (L1 (vS 2 m wt)))) (vT 2 0) (L4 (L3 (L1 (vN i))) (L3 (L1 (vJ (ww i 0)))))) (L4 (L4 (L2 (L1 (vB false))) (L3 (L1 (vT 1 2)))) (L4 (L3 (L1 (vB true))) (L3 (L1 (vB false)))))) (vT 0 0) (L4 (L4 (L4 (L2 (L1 (vT 2 1))) (L3 (L1 (.c (.p (.ipt 2 (S.val wt i))))))) (L4 (L3 (L1 (vS 1 m2 ww))) (L3 (L1 (vJ (wt i 0)))))) (L4 (L2 (L3 (L1 (vN i)))) (L4 (L3 (L1 (vJ (((i : Nat) : Int) + (1 : Int))))) (L3 (L1 (vS 1 m2 ww)))))))), [(bX n it lo hi m wt ld), (bC n2 cc tk m2 ww), (some (.box t_api_Span [(cJ (wt i 0)), (cJ (wt i 1))]))]⟩)))))))
 (Q (.exit 2) ⟨(L4 (L4 (.nd (L1 (vN i)) (vT 1 0) (L2 (L3 (L3 (L1 (vN m2)))))) (L3 (L2 (L3 (L3 (L1 (vT 1 2))))))) (.nd (L4 (L2 (L3 (L3 (L1 (vN i))))) (L2 (L3 (L3 (L1 (vB false)))))) (vT 0 0) (L3 (L2 (L3 (L3 (L1 (vS 1 m2 ww)))))))), [(bX n it lo hi m wt ld), (bC n2 cc tk m2 ww)]⟩))) = (ex (cs5 hbs) (fu + 60) 0 m_law02_within_l2 ⟨setAll [(.i .h, .c (.pt 0 0)), (.o (.o .h), .c (.pt 1 0)), (.o (.o (.o .h)), .c (cJ i))], [some (.box t_api_LoadPoint (ptC n (S.val it) lo hi m (S.val wt) ld)), some (.box t_api_LoadCase [.p (.isl 1 n2 (S.val cc)), .p (.int .i64 tk), .p (.isl 1 m2 (S.val ww))])]⟩ (fun e s => .pr (Q e s))).hold2 := by kernel_rfl
theorem vc_law02_within (n : Nat) (it : S.Rows) (lo hi : Int) (m : Nat) (wt : S.Rows) (ld : Bool) (n2 : Nat) (cc : S.Rows) (tk : Int) (m2 : Nat) (ww : S.Rows) (Q : AV → Heap → Prop) :
 ((BrP (((n2 : Nat) : Int) != ((n : Nat) : Int))
 (Q (vB false) [(bX n it lo hi m wt ld), (bC n2 cc tk m2 ww)])
 (BrP (((m2 : Nat) : Int) != ((m : Nat) : Int))
 (Q (vB false) [(bX n it lo hi m wt ld), (bC n2 cc tk m2 ww)])
 (BrP (decide (tk < lo))
 (Q (vB false) [(bX n it lo hi m wt ld), (bC n2 cc tk m2 ww)])
 (BrP (decide (tk > hi))
 (Q (vB false) [(bX n it lo hi m wt ld), (bC n2 cc tk m2 ww)])
 ((LoopGo (ex (cs5 hbs) 994) 0 m_law02_within_l1 ⟨(.nd (.nd (.nd (L4 (L6 (L1 (vB false)) (vB false)) (L6 (L1 (vB false)) (vB false))) (vT 1 0) (.nd (L6 (L1 (vJ tk)) (vN m2)) (vN n2) (L1 (vJ tk)))) (.ag (kC n2 cc tk m2 ww)) (.nd (.nd (L6 (L1 (vB false)) (vT 1 2)) (vT 1 0) (L1 (vB false))) (vJ 0) (.nd (L6 (L1 (vT 0 2)) (vS 2 m wt)) (vS 3 n it) (L1 (vT 0 1))))) (.ag (kX n it lo hi m wt ld)) (.nd (.nd (L4 (L6 (L1 (vB false)) (vB false)) (L6 (L1 (vB false)) (vB false))) (vB false) (.nd (L6 (L1 (vT 0 1)) (vT 0 3)) (vT 0 0) (L1 (vT 0 1)))) (vT 0 0) (L4 (.nd (L6 (L1 (vT 1 1)) (vS 1 m2 ww)) (vS 1 n2 cc) (L1 (vT 1 1))) (.nd (L6 (L1 (vJ hi)) (vN m)) (vN n) (L1 (vJ lo)))))), [(bX n it lo hi m wt ld), (bC n2 cc tk m2 ww)]⟩ (.br (S.from_ (S.inIt it cc) n2 0) (.e (.exit 0) ⟨(L4 (L3 (L1 (vT 1 0))) (L1 (vT 0 0))), [(bX n it lo hi m wt ld), (bC n2 cc tk m2 ww)]⟩) (.e .ret ⟨(L2 (L3 (L1 (vB false)))), []⟩))) ∧
 (BrP (S.from_ (S.inIt it cc) n2 0)
 ((LoopGo (ex (cs5 hbs) 993) 0 m_law02_within_l2 ⟨(L4 (L3 (L6 (L1 (vJ 0)) (vT 1 0))) (L1 (vT 0 0))), [(bX n it lo hi m wt ld), (bC n2 cc tk m2 ww)]⟩ (.br (S.from_ (S.inWt wt ww) m2 0) (.e (.exit 2) ⟨.lf, []⟩) (.e .ret ⟨(L2 (L3 (L1 (vB false)))), []⟩))) ∧
 (BrP (S.from_ (S.inWt wt ww) m2 0)
 (Q (vB true) [])
 (Q (vB false) [])))
 (Q (vB false) [])))))))) = (ex (cs5 hbs) 1000 0 m_law02_within ⟨ofL 0 [.ag (ptC n (S.val it) lo hi m (S.val wt) ld), .ag [.p (.isl 1 n2 (S.val cc)), .p (.int .i64 tk), .p (.isl 1 m2 (S.val ww))]] .lf, []⟩ (endK F_law02_within.rs (fun r H => .pr (Q r H)) fun _ _ => .no)).hold2 := by kernel_rfl
end
end Go.Ab.B
set_option linter.all false
set_option maxRecDepth 100000
namespace Go.Ab.S
theorem part_raw {lo hi pc : Int} (h : lo ≤ hi) (h1 : 0 ≤ pc) (h2 : pc ≤ 100) : 0 ≤ (hi - lo) * pc ∧ (hi - lo) * pc ≤ (hi - lo) * 100 ∧ 0 ≤ Int.tdiv ((hi - lo) * pc) 100 ∧ Int.tdiv ((hi - lo) * pc) 100 ≤ hi - lo := by
  have q1 : 0 ≤ (hi - lo) * pc := Int.mul_nonneg (by omega) h1
  have q2 : (hi - lo) * pc ≤ (hi - lo) * 100 := Int.mul_le_mul_of_nonneg_left h2 (by omega)
  refine ⟨q1, q2, ?_⟩
  rw [Int.tdiv_eq_ediv_of_nonneg q1]
  generalize (hi - lo) * pc = x at *
  omega
theorem part_in {lo hi pc : Int} (h : lo ≤ hi) (h1 : 0 ≤ pc) (h2 : pc ≤ 100) : lo ≤ part lo hi pc ∧ part lo hi pc ≤ hi := by
  have := part_raw h h1 h2
  unfold part
  omega
end Go.Ab.S
namespace Go.Ab.B
open Go.Proofs
section
variable {hbs : BsOk Tryz.prog} (hT : TabOk (cs hbs)) (hT3 : TabOk (cs3 hbs)) (hT4 : TabOk (cs4 hbs)) (hT5 : TabOk (cs5 hbs))
include hT5
theorem fc_law02_part (lo hi pc : Int) (h : lo ≤ hi) (h0 : -1000000 ≤ lo) (h9 : hi ≤ 1000000) (h1 : 0 ≤ pc) (h2 : pc ≤ 100) : FCall (cs5 hbs) f_law02_part [.ag [.p (.int .i64 lo), .p (.int .i64 hi)], .c (.p (.int .i64 pc))] (vI .i64 (S.part lo hi pc)) [] := by
  obtain ⟨q1, q2, q3, q4⟩ := S.part_raw h h1 h2
  refine fcall_k hT5 (F := F_law02_part) rfl (vc_law02_part lo hi pc _) (cdP (i64_of (by omega) (by omega)) (cdP (i64_of (by omega) (by omega)) (cdP (i64_of (by omega) (by omega)) (cdP (i64_of (by omega) (by omega)) rfl))))
abbrev lvT1 (na : Nat) (a : S.Rows) (nb : Nat) (b : S.Rows) (i : Nat) : List (Ps × AV) := [(.o .h, .c (.p (.isl 1 na (S.val a)))), (.o (.o .h), .c (.p (.isl 1 nb (S.val b)))), (.o (.o (.i .h)), .c (.p (.int .i64 i))), (.i (.o .h), .c (.pt 0 0)), (.i (.o (.o .h)), .c (.pt 1 0)), (.i (.i (.o .h)), .c (.pt 2 0))]
abbrev hpT1 (n : Nat) (it : S.Rows) (lo hi : Int) (m : Nat) (wt : S.Rows) (ld : Bool) (a : S.Rows) (T : Int) (i : Nat) : Heap := [some (.box t_api_LoadPoint (ptC n (S.val it) lo hi m (S.val wt) ld)), some (.box t_api_LoadCase [.p .nsl, .p (.int .i64 0), .p .nsl]), some (.box t_api_LoadCase [.sl 3 0 i, .p (.int .i64 T), .p .nsl]), some (.arr 1 t_int i (S.val (S.pcI it a)) [])]
abbrev trT1 (n : Nat) (it : S.Rows) (lo hi : Int) (m : Nat) (wt : S.Rows) (ld : Bool) (na : Nat) (a : S.Rows) (nb : Nat) (b : S.Rows) (T : Int) (i : Nat) : LTree := .br (S.from_ (S.pcAt a) na i)
  (.e (.exit 0) ⟨setAll [(.o (.o .h), .c (.p (.isl 1 nb (S.val b)))), (.i (.o .h), .c (.pt 0 0)), (.i (.o (.o .h)), .c (.pt 1 0)), (.i (.i (.o .h)), .c (.pt 2 0))], hpT1 n it lo hi m wt ld a T na⟩)
  (.e .ret ⟨setAll [(.i (.o (.o .h)), .c (.pt 1 0)), (.o (.i (.o .h)), vB false)], [some (.box t_api_LoadPoint (ptC n (S.val it) lo hi m (S.val wt) ld)), some (.box t_api_LoadCase [.sl 3 0 (S.fst (S.pcAt a) na i), .p (.int .i64 T), .p .nsl]), none, some (.arr 1 t_int (S.fst (S.pcAt a) na i) (S.val (S.pcI it a)) [])]⟩)
theorem go_law02_truth1 (fu : Nat) (n : Nat) (it : S.Rows) (lo hi : Int) (m : Nat) (wt : S.Rows) (ld : Bool) (na : Nat) (a : S.Rows) (tk : Int) (nb : Nat) (b : S.Rows) (T : Int) (hna : na = n) (hn : n ≤ 1000) (hit : ∀ i, i < n → 0 ≤ it i 1 ∧ it i 1 ≤ it i 2 ∧ it i 2 ≤ 20000) :
    ∀ (i : Nat) (st : St), i ≤ na → (∃ ρ, HasR 0 ρ st (lvT1 na a nb b i) (hpT1 n it lo hi m wt ld a T i)) → LoopGo (ex (cs5 hbs) (fu + 60)) 0 m_law02_truth_l1 st (trT1 n it lo hi m wt ld na a nb b T i) :=
  loop_kR (σ := Nat) (lvT1 na a nb b) (hpT1 n it lo hi m wt ld a T) (fun i => i ≤ na) (fun i => na - i) (trT1 n it lo hi m wt ld na a nb b T) _ (fun i Q => vs_law02_truth1 (hbs := hbs) fu i n it lo hi m wt ld na a tk nb b T Q) fun i hi' K hL X hX => by
      have bad : ∀ (s' : St), i < na → S.pcAt a i = false → (∃ ρ, HasR 0 ρ s' [(.i (.o (.o .h)), .c (.pt 1 0)), (.o (.i (.o .h)), vB false)] [some (.box t_api_LoadPoint (ptC n (S.val it) lo hi m (S.val wt) ld)), some (.box t_api_LoadCase [.sl 3 0 i, .p (.int .i64 T), .p .nsl]), none, some (.arr 1 t_int i (S.val (S.pcI it a)) [])]) → ∃ s'', Wk 0 s' s'' ∧ (K .ret s'').holds := fun s' hlt e h => by
        have e2 : S.from_ (S.pcAt a) na i = false := by rw [S.from_step hlt, e, Bool.false_and]
        have e3 : S.fst (S.pcAt a) na i = i := S.fst_at hlt e
        simp only [trT1, e2, e3] at hL
        obtain ⟨ρ, h⟩ := h
        exact HasR.out h hL
      refine brP (fun h1 => ?_) fun h1 => ?_
      · have hlt : i < na := by simpa using h1
        have q := hit i (by omega)
        refine cdP (idx_ok hlt) (brP (fun h2 => ?_) fun h2 => cdP (idx_ok hlt) (brP (fun h3 => ?_) fun h3 => ?_))
        · refine bad _ hlt (by simp only [decide_eq_true_eq] at h2; simp [S.pcAt]; omega) ⟨[some 0, some 1, some 2, some 3], HasR.mk _ rfl rfl ?_ ?_⟩
          · simp [WH, WB, WL, WC, WP', upsB, memB, ptC]
          · simp [LiveR, WA, WC, WP', Tr.get]
        · refine bad _ hlt (by simp only [decide_eq_true_eq] at h3; simp [S.pcAt]; omega) ⟨[some 0, some 1, some 2, some 3], HasR.mk _ rfl rfl ?_ ?_⟩
          · simp [WH, WB, WL, WC, WP', upsB, memB, ptC]
          · simp [LiveR, WA, WC, WP', Tr.get]
        · simp only [decide_eq_false_iff_not] at h2 h3
          refine cdP (idx_ok (by omega)) (cdP (idx_ok hlt) ⟨fc_law02_part hT5 _ _ _ q.2.1 (by omega) (by omega) (by omega) (by omega), cdP (Nat.le_refl _) (cdP (Nat.le_refl _) (cdP (by simp [Cd.holds]; omega) (cdP (by simp [Cd.holds]; omega) ?_)))⟩)
          have e : S.pcAt a i = true := by simp [S.pcAt]; omega
          have e2 : S.from_ (S.pcAt a) na i = S.from_ (S.pcAt a) na (i + 1) := by rw [S.from_step hlt, e, Bool.true_and]
          have e3 : S.fst (S.pcAt a) na i = S.fst (S.pcAt a) na (i + 1) := S.fst_step hlt e
          simp only [trT1, e2, e3] at hL
          refine hX (i + 1) _ (by omega) (by omega) ⟨[some 0, some 1, some 2, some 4], HasR.mk _ rfl rfl ?_ ?_⟩ hL
          · simp [WH, WB, WL, WC, WP', upsB, memB, ptC]
            exact fun k hk => app_val hk rfl
          · simp [LiveR, WA, WC, WP', Tr.get]
      · have hlt : na ≤ i := by simpa using h1
        have hii : i = na := by omega
        have e2 : S.from_ (S.pcAt a) na i = true := S.from_end hlt
        simp only [trT1, e2] at hL
        refine HasR.out (l := [(.o (.o .h), .c (.p (.isl 1 nb (S.val b)))), (.i (.o .h), .c (.pt 0 0)), (.i (.o (.o .h)), .c (.pt 1 0)), (.i (.i (.o .h)), .c (.pt 2 0))]) (HasR.mk (ρ := [some 0, some 1, some 2, some 3]) rfl rfl ?_ ?_) hL
        · simp [hii, WH, WB, WL, WC, WP', upsB, memB, ptC]
        · simp [LiveR, WA, WC, WP', Tr.get]
abbrev lvT2 (nb : Nat) (b : S.Rows) (i : Nat) : List (Ps × AV) := [(.o (.o .h), .c (.p (.isl 1 nb (S.val b)))), (.i (.o .h), .c (.pt 0 0)), (.i (.o (.o .h)), .c (.pt 1 0)), (.i (.o (.i .h)), .c (.p (.int .i64 i))), (.i (.i (.o .h)), .c (.pt 2 0))]
abbrev hpT2 (n : Nat) (it : S.Rows) (lo hi : Int) (m : Nat) (wt : S.Rows) (ld : Bool) (na : Nat) (a b : S.Rows) (T : Int) (i : Nat) : Heap := [some (.box t_api_LoadPoint (ptC n (S.val it) lo hi m (S.val wt) ld)), some (.box t_api_LoadCase [.p .nsl, .p (.int .i64 0), .p .nsl]), some (.box t_api_LoadCase [.sl 3 0 na, .p (.int .i64 T), .sl 4 0 i]), some (.arr 1 t_int na (S.val (S.pcI it a)) []), some (.arr 1 t_int i (S.val (S.pcW wt b)) [])]
abbrev trT2 (n : Nat) (it : S.Rows) (lo hi : Int) (m : Nat) (wt : S.Rows) (ld : Bool) (na : Nat) (a : S.Rows) (nb : Nat) (b : S.Rows) (T : Int) (i : Nat) : LTree := .br (S.from_ (S.pcAt b) nb i)
  (.e (.exit 2) ⟨setAll [(.i (.o (.o .h)), .c (.pt 1 0)), (.i (.i (.o .h)), .c (.pt 2 0))], hpT2 n it lo hi m wt ld na a b T nb⟩)
  (.e .ret ⟨setAll [(.i (.o (.o .h)), .c (.pt 1 0)), (.o (.i (.o .h)), vB false)], [some (.box t_api_LoadPoint (ptC n (S.val it) lo hi m (S.val wt) ld)), some (.box t_api_LoadCase [.sl 3 0 na, .p (.int .i64 T), .sl 4 0 (S.fst (S.pcAt b) nb i)]), none, some (.arr 1 t_int na (S.val (S.pcI it a)) []), some (.arr 1 t_int (S.fst (S.pcAt b) nb i) (S.val (S.pcW wt b)) [])]⟩)
theorem go_law02_truth2 (fu : Nat) (n : Nat) (it : S.Rows) (lo hi : Int) (m : Nat) (wt : S.Rows) (ld : Bool) (na : Nat) (a : S.Rows) (tk : Int) (nb : Nat) (b : S.Rows) (T : Int) (hnb : nb = m) (hm : m ≤ 1000) (hwt : ∀ i, i < m → 0 ≤ wt i 0 ∧ wt i 0 ≤ wt i 1 ∧ wt i 1 ≤ 120000) :
    ∀ (i : Nat) (st : St), i ≤ nb → (∃ ρ, HasR 0 ρ st (lvT2 nb b i) (hpT2 n it lo hi m wt ld na a b T i)) → LoopGo (ex (cs5 hbs) (fu + 60)) 0 m_law02_truth_l2 st (trT2 n it lo hi m wt ld na a nb b T i) :=
  loop_kR (σ := Nat) (lvT2 nb b) (hpT2 n it lo hi m wt ld na a b T) (fun i => i ≤ nb) (fun i => nb - i) (trT2 n it lo hi m wt ld na a nb b T) _ (fun i Q => vs_law02_truth2 (hbs := hbs) fu i n it lo hi m wt ld na a tk nb b T Q) fun i hi' K hL X hX => by
      have bad : ∀ (s' : St), i < nb → S.pcAt b i = false → (∃ ρ, HasR 0 ρ s' [(.i (.o (.o .h)), .c (.pt 1 0)), (.o (.i (.o .h)), vB false)] [some (.box t_api_LoadPoint (ptC n (S.val it) lo hi m (S.val wt) ld)), some (.box t_api_LoadCase [.sl 3 0 na, .p (.int .i64 T), .sl 4 0 i]), none, some (.arr 1 t_int na (S.val (S.pcI it a)) []), some (.arr 1 t_int i (S.val (S.pcW wt b)) [])]) → ∃ s'', Wk 0 s' s'' ∧ (K .ret s'').holds := fun s' hlt e h => by
        have e2 : S.from_ (S.pcAt b) nb i = false := by rw [S.from_step hlt, e, Bool.false_and]
        have e3 : S.fst (S.pcAt b) nb i = i := S.fst_at hlt e
        simp only [trT2, e2, e3] at hL
        obtain ⟨ρ, h⟩ := h
        exact HasR.out h hL
      refine brP (fun h1 => ?_) fun h1 => ?_
      · have hlt : i < nb := by simpa using h1
        have q := hwt i (by omega)
        refine cdP (idx_ok hlt) (brP (fun h2 => ?_) fun h2 => cdP (idx_ok hlt) (brP (fun h3 => ?_) fun h3 => ?_))
        · refine bad _ hlt (by simp only [decide_eq_true_eq] at h2; simp [S.pcAt]; omega) ⟨[some 0, some 1, some 2, some 3, some 4], HasR.mk _ rfl rfl ?_ ?_⟩
          · simp [WH, WB, WL, WC, WP', upsB, memB, ptC]
          · simp [LiveR, WA, WC, WP', Tr.get]
        · refine bad _ hlt (by simp only [decide_eq_true_eq] at h3; simp [S.pcAt]; omega) ⟨[some 0, some 1, some 2, some 3, some 4], HasR.mk _ rfl rfl ?_ ?_⟩
          · simp [WH, WB, WL, WC, WP', upsB, memB, ptC]
          · simp [LiveR, WA, WC, WP', Tr.get]
        · simp only [decide_eq_false_iff_not] at h2 h3
          refine cdP (idx_ok (by omega)) (cdP (idx_ok hlt) ⟨fc_law02_part hT5 _ _ _ q.2.1 (by omega) (by omega) (by omega) (by omega), cdP (Nat.le_refl _) (cdP (Nat.le_refl _) (cdP (by simp [Cd.holds]; omega) (cdP (by simp [Cd.holds]; omega) ?_)))⟩)
          have e : S.pcAt b i = true := by simp [S.pcAt]; omega
          have e2 : S.from_ (S.pcAt b) nb i = S.from_ (S.pcAt b) nb (i + 1) := by rw [S.from_step hlt, e, Bool.true_and]
          have e3 : S.fst (S.pcAt b) nb i = S.fst (S.pcAt b) nb (i + 1) := S.fst_step hlt e
          simp only [trT2, e2, e3] at hL
          refine hX (i + 1) _ (by omega) (by omega) ⟨[some 0, some 1, some 2, some 3, some 5], HasR.mk _ rfl rfl ?_ ?_⟩ hL
          · simp [WH, WB, WL, WC, WP', upsB, memB, ptC]
            exact fun k hk => app_val hk rfl
          · simp [LiveR, WA, WC, WP', Tr.get]
      · have hlt : nb ≤ i := by simpa using h1
        have hii : i = nb := by omega
        have e2 : S.from_ (S.pcAt b) nb i = true := S.from_end hlt
        simp only [trT2, e2] at hL
        refine HasR.out (l := [(.i (.o (.o .h)), .c (.pt 1 0)), (.i (.i (.o .h)), .c (.pt 2 0))]) (HasR.mk (ρ := [some 0, some 1, some 2, some 3, some 4]) rfl rfl ?_ ?_) hL
        · simp [hii, WH, WB, WL, WC, WP', upsB, memB, ptC]
        · simp [LiveR, WA, WC, WP', Tr.get]
structure CsOk (ns nf n : Nat) (it : S.Rows) (n2 : Nat) (cc : S.Rows) (tk : Int) (m2 : Nat) (ww : S.Rows) : Prop where
  hn : n2 = n
  hn12 : n ≤ 12
  hm : m2 = nf
  hit : ∀ i, i < n → 0 ≤ it i 0 ∧ it i 0 < ns
  hcc : ∀ i, i < n2 → 0 ≤ cc i 0 ∧ cc i 0 ≤ 20000
  hww : ∀ i, i < m2 → 0 ≤ ww i 0 ∧ ww i 0 ≤ 120000
  htk : -120000 ≤ tk ∧ tk ≤ 140000
omit hT5 in
theorem wm_in (e mo t l : Int) (nc : Nat) (c : S.Rows) (ns : Nat) (s : S.Rows) (ta tm r : Int) (nf : Nat) (f : S.Rows) {n : Nat} {it : S.Rows} {n2 : Nat} {cc : S.Rows} {tk : Int} {m2 : Nat} {ww : S.Rows} (hp : S.PlOk e mo t l nc c ns s ta tm r nf f) (hc : CsOk ns nf n it n2 cc tk m2 ww) :
    (-800000 ≤ S.wgt e tk n2 cc m2 ww ∧ S.wgt e tk n2 cc m2 ww ≤ 800000) ∧ (-800000000 ≤ S.mom mo tk ta n2 cc it s m2 ww f ∧ S.mom mo tk ta n2 cc it s m2 ww f ≤ 800000000) := by
  have a1 := hc.hn
  have a2 := hc.hn12
  have a3 := hc.hm
  have a4 := hp.hnf
  have a5 := hc.htk
  have a6 := hp.hta
  have a7 := hp.he
  have a8 := hp.hmo
  have w1 := S.sumR_in (f := S.itW cc) (B := 20000) (k := n2) (i := 0) fun j _ h => by have := hc.hcc j (by omega); simp only [S.itW]; omega
  have w2 := S.sumR_in (f := S.itM cc it s) (B := 20000000) (k := n2) (i := 0) fun j _ h => by
    have q1 := hc.hcc j (by omega)
    have q2 := hc.hit j (by omega)
    have q5 := (hp.hs (it j 0).toNat (by omega)).1
    exact mul_in (A := 20000) (B := 1000) (by omega) q1.2 q5.1 q5.2
  have w3 := S.sumR_in (f := S.itW ww) (B := 120000) (k := m2) (i := 0) fun j _ h => by have := hc.hww j (by omega); simp only [S.itW]; omega
  have w4 := S.sumR_in (f := S.wtM ww f) (B := 120000000) (k := m2) (i := 0) fun j _ h => by
    have q1 := hc.hww j (by omega)
    have q5 := (hp.hf j (by omega)).1
    exact mul_in (A := 120000) (B := 1000) (by omega) q1.2 q5.1 q5.2
  have w5 := mul_in (a := tk) (b := ta) (A := 140000) (B := 1000) (by omega) a5.2 a6.1 a6.2
  refine ⟨by simp only [S.wgt]; omega, ?_⟩
  simp only [S.mom]
  generalize tk * ta = q at *
  omega
abbrev lvH1 (W M : Int) (i : Nat) : List (Ps × AV) := [(.o (.o .h), .c (.pt 0 0)), (.i (.o .h), .c (.pt 1 0)), (.o (.i .h), .c (.pt 2 0)), (.o (.o (.o .h)), .c (.p (.int .i64 W))), (.i (.o (.o .h)), .c (.p (.int .i64 M))), (.o (.i (.o .h)), .c (.p (.int .i64 i)))]
abbrev lvH2 (W M : Int) (i : Nat) : List (Ps × AV) := [(.o (.o .h), .c (.pt 0 0)), (.i (.o .h), .c (.pt 1 0)), (.o (.i .h), .c (.pt 2 0)), (.o (.o (.o .h)), .c (.p (.int .i64 W))), (.i (.o (.o .h)), .c (.p (.int .i64 M))), (.i (.i (.o .h)), .c (.p (.int .i64 i)))]
abbrev lvH (W M : Int) : List (Ps × AV) := [(.o (.o .h), .c (.pt 0 0)), (.i (.o .h), .c (.pt 1 0)), (.o (.i .h), .c (.pt 2 0)), (.o (.o (.o .h)), .c (.p (.int .i64 W))), (.i (.o (.o .h)), .c (.p (.int .i64 M)))]
abbrev hpH (e mo t l : Int) (nc : Nat) (c : S.Rows) (ns : Nat) (s : S.Rows) (ta tm r : Int) (nf : Nat) (f : S.Rows) (n : Nat) (it : S.Rows) (lo hi : Int) (m : Nat) (wt : S.Rows) (ld : Bool) (n2 : Nat) (cc : S.Rows) (tk : Int) (m2 : Nat) (ww : S.Rows) : Heap := [some (.box t_api_Plane (plC e mo t l nc (S.val c) ns (S.val s) ta tm r nf (S.val f))), some (.box t_api_LoadPoint (ptC n (S.val it) lo hi m (S.val wt) ld)), some (.box t_api_LoadCase [.p (.isl 1 n2 (S.val cc)), .p (.int .i64 tk), .p (.isl 1 m2 (S.val ww))])]
abbrev trH (p : Nat → Bool) (k j : Nat) (W M : Int) (H : Heap) (i : Nat) : LTree := .br (S.from_ p k i) (.e (.exit j) ⟨setAll (lvH W M), H⟩) (.e .ret ⟨setAll [(.i (.i .h), vB false)], []⟩)
include hT hT3
theorem go_law02_holds1 (fu : Nat) (e mo t l : Int) (nc : Nat) (c : S.Rows) (ns : Nat) (s : S.Rows) (ta tm r : Int) (nf : Nat) (f : S.Rows) (n : Nat) (it : S.Rows) (lo hi : Int) (m : Nat) (wt : S.Rows) (ld : Bool) (n2 : Nat) (cc : S.Rows) (tk : Int) (m2 : Nat) (ww : S.Rows) (W M : Int) (hns : ns ≤ 1000) (hc : CsOk ns nf n it n2 cc tk m2 ww) :
    ∀ (i : Nat) (st : St), i ≤ ns → Has st (lvH1 W M i) (hpH e mo t l nc c ns s ta tm r nf f n it lo hi m wt ld n2 cc tk m2 ww) → LoopGo (ex (cs5 hbs) (fu + 60)) 0 m_law02_holds_l1 st (trH (S.atOk n2 it cc s) ns 0 W M (hpH e mo t l nc c ns s ta tm r nf f n it lo hi m wt ld n2 cc tk m2 ww) i) :=
  loop_k (σ := Nat) (lvH1 W M) (fun _ => hpH e mo t l nc c ns s ta tm r nf f n it lo hi m wt ld n2 cc tk m2 ww) (fun i => i ≤ ns) (fun i => ns - i) (trH (S.atOk n2 it cc s) ns 0 W M (hpH e mo t l nc c ns s ta tm r nf f n it lo hi m wt ld n2 cc tk m2 ww)) (fun _ => Nat.zero_le _) _ (fun i Q => vs_law02_holds1 (hbs := hbs) fu i e mo t l nc c ns s ta tm r nf f n it lo hi m wt ld n2 cc tk m2 ww W M Q) fun i hi' K hL X hX => by
      have a1 := hc.hn
      refine brP (fun h1 => ?_) fun h1 => ?_
      · have hlt : i < ns := by simpa using h1
        refine ⟨FCall.cfg (C := cs3 hbs) (C' := cs5 hbs) rfl rfl (fc_ref02_At hT hT3 n it lo hi m wt ld n2 cc tk m2 ww i (by have := hc.hn12; omega) (by omega) (fun j h => by have := hc.hcc j h; omega)), cdP (idx_ok hlt) (brP (fun h2 => ?_) fun h2 => cdP (by simp [Cd.holds]; omega) ?_)⟩
        · have e : S.atOk n2 it cc s i = false := by simp only [decide_eq_true_eq] at h2; simp [S.atOk]; omega
          simp only [trH, S.from_step hlt, e, Bool.false_and] at hL
          exact Has.out (l := [(.i (.i .h), vB false)]) (.cons (by kernel_rfl) rfl (.nil (ex := _) rfl rfl)) (Nat.zero_le _) hL
        · have e : S.atOk n2 it cc s i = true := by simp only [decide_eq_false_iff_not] at h2; simp [S.atOk]; omega
          simp only [trH, S.from_step hlt, e, Bool.true_and] at hL
          exact hX (i + 1) _ (by omega) (by omega) (.cons (by kernel_rfl) rfl (.cons (by kernel_rfl) rfl (.cons (by kernel_rfl) rfl (.cons (by kernel_rfl) rfl (.cons (by kernel_rfl) rfl (.cons (by kernel_rfl) rfl (.nil (ex := _) rfl (by kernel_rfl)))))))) hL
      · have hlt : ns ≤ i := by simpa using h1
        simp only [trH, S.from_end hlt] at hL
        exact Has.out (l := lvH W M) (.cons (by kernel_rfl) rfl (.cons (by kernel_rfl) rfl (.cons (by kernel_rfl) rfl (.cons (by kernel_rfl) rfl (.cons (by kernel_rfl) rfl (.nil (ex := _) rfl (by kernel_rfl))))))) (Nat.zero_le _) hL
omit hT hT3 hT5 in
theorem go_law02_holds2 (fu : Nat) (e mo t l : Int) (nc : Nat) (c : S.Rows) (ns : Nat) (s : S.Rows) (ta tm r : Int) (nf : Nat) (f : S.Rows) (n : Nat) (it : S.Rows) (lo hi : Int) (m : Nat) (wt : S.Rows) (ld : Bool) (n2 : Nat) (cc : S.Rows) (tk : Int) (m2 : Nat) (ww : S.Rows) (W M : Int) (hnf : nf ≤ 1000) (hc : CsOk ns nf n it n2 cc tk m2 ww) :
    ∀ (i : Nat) (st : St), i ≤ m2 → Has st (lvH2 W M i) (hpH e mo t l nc c ns s ta tm r nf f n it lo hi m wt ld n2 cc tk m2 ww) → LoopGo (ex (cs5 hbs) (fu + 60)) 0 m_law02_holds_l2 st (trH (S.wwOk f ww) m2 2 W M (hpH e mo t l nc c ns s ta tm r nf f n it lo hi m wt ld n2 cc tk m2 ww) i) :=
  loop_k (σ := Nat) (lvH2 W M) (fun _ => hpH e mo t l nc c ns s ta tm r nf f n it lo hi m wt ld n2 cc tk m2 ww) (fun i => i ≤ m2) (fun i => m2 - i) (trH (S.wwOk f ww) m2 2 W M (hpH e mo t l nc c ns s ta tm r nf f n it lo hi m wt ld n2 cc tk m2 ww)) (fun _ => Nat.zero_le _) _ (fun i Q => vs_law02_holds2 (hbs := hbs) fu i e mo t l nc c ns s ta tm r nf f n it lo hi m wt ld n2 cc tk m2 ww W M Q) fun i hi' K hL X hX => by
      have a1 := hc.hm
      refine brP (fun h1 => ?_) fun h1 => ?_
      · have hlt : i < m2 := by simpa using h1
        refine cdP (idx_ok hlt) (cdP (idx_ok (by omega)) (brP (fun h2 => ?_) fun h2 => cdP (by simp [Cd.holds]; omega) ?_))
        · have e : S.wwOk f ww i = false := by simp only [decide_eq_true_eq] at h2; simp [S.wwOk]; omega
          simp only [trH, S.from_step hlt, e, Bool.false_and] at hL
          exact Has.out (l := [(.i (.i .h), vB false)]) (.cons (by kernel_rfl) rfl (.nil (ex := _) rfl rfl)) (Nat.zero_le _) hL
        · have e : S.wwOk f ww i = true := by simp only [decide_eq_false_iff_not] at h2; simp [S.wwOk]; omega
          simp only [trH, S.from_step hlt, e, Bool.true_and] at hL
          exact hX (i + 1) _ (by omega) (by omega) (.cons (by kernel_rfl) rfl (.cons (by kernel_rfl) rfl (.cons (by kernel_rfl) rfl (.cons (by kernel_rfl) rfl (.cons (by kernel_rfl) rfl (.cons (by kernel_rfl) rfl (.nil (ex := _) rfl (by kernel_rfl)))))))) hL
      · have hlt : m2 ≤ i := by simpa using h1
        simp only [trH, S.from_end hlt] at hL
        exact Has.out (l := lvH W M) (.cons (by kernel_rfl) rfl (.cons (by kernel_rfl) rfl (.cons (by kernel_rfl) rfl (.cons (by kernel_rfl) rfl (.cons (by kernel_rfl) rfl (.nil (ex := _) rfl (by kernel_rfl))))))) (Nat.zero_le _) hL
theorem fc_law02_holds (e mo t l : Int) (nc : Nat) (c : S.Rows) (ns : Nat) (s : S.Rows) (ta tm r : Int) (nf : Nat) (f : S.Rows) (n : Nat) (it : S.Rows) (lo hi : Int) (m : Nat) (wt : S.Rows) (ld : Bool) (n2 : Nat) (cc : S.Rows) (tk : Int) (m2 : Nat) (ww : S.Rows) (h1 : S.plane e mo t l nc c ns s ta tm r nf f = true) (hc : CsOk ns nf n it n2 cc tk m2 ww) :
    FCall (cs5 hbs) f_law02_holds [.ag (plC e mo t l nc (S.val c) ns (S.val s) ta tm r nf (S.val f)), .ag (ptC n (S.val it) lo hi m (S.val wt) ld), .ag [.p (.isl 1 n2 (S.val cc)), .p (.int .i64 tk), .p (.isl 1 m2 (S.val ww))]] (vB (S.holdsB e mo t l nc c ns s ta tm r nf f it ld n2 cc tk m2 ww)) [] := by
  have hp := S.plane_ok h1
  have b1 := hp.hnc
  have b2 := hp.hns
  have b3 := hp.hnf
  have a1 := hc.hn
  have a2 := hc.hn12
  have a3 := hc.hm
  have a5 := hc.htk
  have hml : (1000 : Nat) ≤ maxLen := by decide
  obtain ⟨c1, c2⟩ := wm_in e mo t l nc c ns s ta tm r nf f hp hc
  have wg : FCall (cs5 hbs) _ _ _ _ := FCall.cfg (C := cs3 hbs) (C' := cs5 hbs) rfl rfl (fc_ref02_Weight hT hT3 e mo t l nc c ns s ta tm r nf f n it lo hi m wt ld n2 cc tk m2 ww (by omega) (by omega) (by omega) (by omega) (fun i h => by have := hc.hcc i h; have := hc.hit i (by omega); omega) (fun j h => (hp.hs j h).1) (fun i h => by have := hc.hww i h; omega) (fun j h => (hp.hf j h).1) (by have := hp.he; omega) hp.hmo (by omega) hp.hta)
  have ins : FCall (cs5 hbs) _ _ _ _ := FCall.cfg (C := cs hbs) (C' := cs5 hbs) rfl rfl (fci_load_Inside hT (by omega) (by omega) (by omega) h1 c1.1 c1.2 c2.1 c2.2)
  refine fcall_k hT5 (F := F_law02_holds) rfl (vc_law02_holds e mo t l nc c ns s ta tm r nf f n it lo hi m wt ld n2 cc tk m2 ww _) ⟨wg, go_law02_holds1 hT hT3 hT5 934 e mo t l nc c ns s ta tm r nf f n it lo hi m wt ld n2 cc tk m2 ww _ _ (by omega) hc 0 _ (Nat.zero_le _) (.cons (by kernel_rfl) rfl (.cons (by kernel_rfl) rfl (.cons (by kernel_rfl) rfl (.cons (by kernel_rfl) rfl (.cons (by kernel_rfl) rfl (.cons (by kernel_rfl) rfl (.nil (ex := _) rfl (by kernel_rfl)))))))), brP (fun g1 => ⟨go_law02_holds2 933 e mo t l nc c ns s ta tm r nf f n it lo hi m wt ld n2 cc tk m2 ww _ _ (by omega) hc 0 _ (Nat.zero_le _) (.cons (by kernel_rfl) rfl (.cons (by kernel_rfl) rfl (.cons (by kernel_rfl) rfl (.cons (by kernel_rfl) rfl (.cons (by kernel_rfl) rfl (.cons (by kernel_rfl) rfl (.nil (ex := _) rfl (by kernel_rfl)))))))), brP (fun g2 => ?_) fun g2 => ?_⟩) fun g1 => ?_⟩
  · have hh : S.holdsB e mo t l nc c ns s ta tm r nf f it ld n2 cc tk m2 ww = (S.restOk t l tm r ld tk (S.wgt e tk n2 cc m2 ww) && S.ins nc c (S.wgt e tk n2 cc m2 ww) (S.mom mo tk ta n2 cc it s m2 ww f)) := by simp only [S.holdsB, g1, g2, Bool.true_and]
    generalize S.wgt e tk n2 cc m2 ww = W at *
    generalize S.mom mo tk ta n2 cc it s m2 ww f = M at *
    rw [hh]
    repeat' first
      | refine ⟨ins, ?_⟩
      | refine brP (fun _ => ?_) (fun _ => ?_)
    all_goals refine frz_b ?_
    all_goals clear wg ins hc hp h1 hh
    all_goals cases ld <;> simp_all [S.restOk]
    all_goals omega
  · exact frz_b (by simp [S.holdsB, g1, g2])
  · exact frz_b (by simp [S.holdsB, g1])
abbrev hpN (n : Nat) (it : S.Rows) (lo hi : Int) (m : Nat) (wt : S.Rows) (ld : Bool) (n2 : Nat) (cc : S.Rows) (tk : Int) (m2 : Nat) (ww : S.Rows) : Heap := [some (.box t_api_LoadPoint (ptC n (S.val it) lo hi m (S.val wt) ld)), some (.box t_api_LoadCase [.p (.isl 1 n2 (S.val cc)), .p (.int .i64 tk), .p (.isl 1 m2 (S.val ww))])]
abbrev lvN1 (i : Nat) : List (Ps × AV) := [(.i .h, .c (.pt 0 0)), (.o (.o .h), .c (.pt 1 0)), (.o (.i .h), .c (.p (.int .i64 i)))]
abbrev lvN2 (i : Nat) : List (Ps × AV) := [(.i .h, .c (.pt 0 0)), (.o (.o .h), .c (.pt 1 0)), (.o (.o (.o .h)), .c (.p (.int .i64 i)))]
abbrev trN1 (p : Nat → Bool) (k : Nat) (H : Heap) (i : Nat) : LTree := .br (S.from_ p k i) (.e (.exit 0) ⟨setAll [(.i .h, .c (.pt 0 0)), (.o (.o .h), .c (.pt 1 0))], H⟩) (.e .ret ⟨setAll [(.i (.o .h), vB false)], []⟩)
abbrev trN2 (p : Nat → Bool) (k : Nat) (i : Nat) : LTree := .br (S.from_ p k i) (.e (.exit 2) ⟨.lf, []⟩) (.e .ret ⟨setAll [(.i (.o .h), vB false)], []⟩)
omit hT hT3 hT5 in
theorem go_law02_within1 (fu : Nat) (n : Nat) (it : S.Rows) (lo hi : Int) (m : Nat) (wt : S.Rows) (ld : Bool) (n2 : Nat) (cc : S.Rows) (tk : Int) (m2 : Nat) (ww : S.Rows) (hn : n2 ≤ n) (hn1 : n2 ≤ 1000) :
    ∀ (i : Nat) (st : St), i ≤ n2 → Has st (lvN1 i) (hpN n it lo hi m wt ld n2 cc tk m2 ww) → LoopGo (ex (cs5 hbs) (fu + 60)) 0 m_law02_within_l1 st (trN1 (S.inIt it cc) n2 (hpN n it lo hi m wt ld n2 cc tk m2 ww) i) :=
  loop_k (σ := Nat) lvN1 (fun _ => hpN n it lo hi m wt ld n2 cc tk m2 ww) (fun i => i ≤ n2) (fun i => n2 - i) (trN1 (S.inIt it cc) n2 (hpN n it lo hi m wt ld n2 cc tk m2 ww)) (fun _ => Nat.zero_le _) _ (fun i Q => vs_law02_within1 (hbs := hbs) fu i n it lo hi m wt ld n2 cc tk m2 ww Q) fun i hi' K hL X hX => by
      refine brP (fun h1 => ?_) fun h1 => ?_
      · have hlt : i < n2 := by simpa using h1
        refine cdP (idx_ok (by omega)) (cdP (idx_ok hlt) (brP (fun h2 => ?_) fun h2 => cdP (idx_ok hlt) (brP (fun h3 => ?_) fun h3 => cdP (by simp [Cd.holds]; omega) ?_)))
        · have e : S.inIt it cc i = false := by simp only [decide_eq_true_eq] at h2; simp [S.inIt]; omega
          simp only [trN1, S.from_step hlt, e, Bool.false_and] at hL
          exact Has.out (l := [(.i (.o .h), vB false)]) (.cons (by kernel_rfl) rfl (.nil (ex := _) rfl rfl)) (Nat.zero_le _) hL
        · have e : S.inIt it cc i = false := by simp only [decide_eq_true_eq] at h3; simp [S.inIt]; omega
          simp only [trN1, S.from_step hlt, e, Bool.false_and] at hL
          exact Has.out (l := [(.i (.o .h), vB false)]) (.cons (by kernel_rfl) rfl (.nil (ex := _) rfl rfl)) (Nat.zero_le _) hL
        · have e : S.inIt it cc i = true := by simp only [decide_eq_false_iff_not] at h2 h3; simp [S.inIt]; omega
          simp only [trN1, S.from_step hlt, e, Bool.true_and] at hL
          exact hX (i + 1) _ (by omega) (by omega) (.cons (by kernel_rfl) rfl (.cons (by kernel_rfl) rfl (.cons (by kernel_rfl) rfl (.nil (ex := _) rfl (by kernel_rfl))))) hL
      · have hlt : n2 ≤ i := by simpa using h1
        simp only [trN1, S.from_end hlt] at hL
        exact Has.out (l := [(.i .h, .c (.pt 0 0)), (.o (.o .h), .c (.pt 1 0))]) (.cons (by kernel_rfl) rfl (.cons (by kernel_rfl) rfl (.nil (ex := _) rfl (by kernel_rfl)))) (Nat.zero_le _) hL
omit hT hT3 hT5 in
theorem go_law02_within2 (fu : Nat) (n : Nat) (it : S.Rows) (lo hi : Int) (m : Nat) (wt : S.Rows) (ld : Bool) (n2 : Nat) (cc : S.Rows) (tk : Int) (m2 : Nat) (ww : S.Rows) (hn : m2 ≤ m) (hn1 : m2 ≤ 1000) :
    ∀ (i : Nat) (st : St), i ≤ m2 → Has st (lvN2 i) (hpN n it lo hi m wt ld n2 cc tk m2 ww) → LoopGo (ex (cs5 hbs) (fu + 60)) 0 m_law02_within_l2 st (trN2 (S.inWt wt ww) m2 i) :=
  loop_k (σ := Nat) lvN2 (fun _ => hpN n it lo hi m wt ld n2 cc tk m2 ww) (fun i => i ≤ m2) (fun i => m2 - i) (trN2 (S.inWt wt ww) m2) (fun _ => Nat.zero_le _) _ (fun i Q => vs_law02_within2 (hbs := hbs) fu i n it lo hi m wt ld n2 cc tk m2 ww Q) fun i hi' K hL X hX => by
      refine brP (fun h1 => ?_) fun h1 => ?_
      · have hlt : i < m2 := by simpa using h1
        refine cdP (idx_ok (by omega)) (cdP (idx_ok hlt) (brP (fun h2 => ?_) fun h2 => cdP (idx_ok hlt) (brP (fun h3 => ?_) fun h3 => cdP (by simp [Cd.holds]; omega) ?_)))
        · have e : S.inWt wt ww i = false := by simp only [decide_eq_true_eq] at h2; simp [S.inWt]; omega
          simp only [trN2, S.from_step hlt, e, Bool.false_and] at hL
          exact Has.out (l := [(.i (.o .h), vB false)]) (.cons (by kernel_rfl) rfl (.nil (ex := _) rfl rfl)) (Nat.zero_le _) hL
        · have e : S.inWt wt ww i = false := by simp only [decide_eq_true_eq] at h3; simp [S.inWt]; omega
          simp only [trN2, S.from_step hlt, e, Bool.false_and] at hL
          exact Has.out (l := [(.i (.o .h), vB false)]) (.cons (by kernel_rfl) rfl (.nil (ex := _) rfl rfl)) (Nat.zero_le _) hL
        · have e : S.inWt wt ww i = true := by simp only [decide_eq_false_iff_not] at h2 h3; simp [S.inWt]; omega
          simp only [trN2, S.from_step hlt, e, Bool.true_and] at hL
          exact hX (i + 1) _ (by omega) (by omega) (.cons (by kernel_rfl) rfl (.cons (by kernel_rfl) rfl (.cons (by kernel_rfl) rfl (.nil (ex := _) rfl (by kernel_rfl))))) hL
      · have hlt : m2 ≤ i := by simpa using h1
        simp only [trN2, S.from_end hlt] at hL
        exact Has.out (l := []) (.nil (ex := _) rfl rfl) (Nat.zero_le _) hL
omit hT hT3 in
theorem fc_law02_within (n : Nat) (it : S.Rows) (lo hi : Int) (m : Nat) (wt : S.Rows) (ld : Bool) (n2 : Nat) (cc : S.Rows) (tk : Int) (m2 : Nat) (ww : S.Rows) (hn1 : n2 ≤ 1000) (hm1 : m2 ≤ 1000) :
    FCall (cs5 hbs) f_law02_within [.ag (ptC n (S.val it) lo hi m (S.val wt) ld), .ag [.p (.isl 1 n2 (S.val cc)), .p (.int .i64 tk), .p (.isl 1 m2 (S.val ww))]] (vB (S.withinB n it lo hi m wt n2 cc tk m2 ww)) [] := by
  refine fcall_k hT5 (F := F_law02_within) rfl (vc_law02_within n it lo hi m wt ld n2 cc tk m2 ww _) (brP (fun g1 => frz_b ?_) fun g1 => brP (fun g2 => frz_b ?_) fun g2 => brP (fun g3 => frz_b ?_) fun g3 => brP (fun g4 => frz_b ?_) fun g4 =>
    ⟨go_law02_within1 934 n it lo hi m wt ld n2 cc tk m2 ww (by simp at g1; omega) hn1 0 _ (Nat.zero_le _) (.cons (by kernel_rfl) rfl (.cons (by kernel_rfl) rfl (.cons (by kernel_rfl) rfl (.nil (ex := _) rfl (by kernel_rfl))))), brP (fun g5 => ⟨go_law02_within2 933 n it lo hi m wt ld n2 cc tk m2 ww (by simp at g2; omega) hm1 0 _ (Nat.zero_le _) (.cons (by kernel_rfl) rfl (.cons (by kernel_rfl) rfl (.cons (by kernel_rfl) rfl (.nil (ex := _) rfl (by kernel_rfl))))), brP (fun g6 => frz_b ?_) fun g6 => frz_b ?_⟩) fun g5 => frz_b ?_⟩)
  all_goals simp only [S.withinB]
  all_goals simp_all
  all_goals (intros; omega)
end
end Go.Ab.B
set_option linter.all false
set_option maxRecDepth 100000
namespace Go.Ab.B
open Go.Proofs
section
variable {hbs : BsOk Tryz.prog}
theorem vc_law02_LoadTrue (e mo t l : Int) (nc : Nat) (c : S.Rows) (ns : Nat) (s : S.Rows) (ta tm r : Int) (nf : Nat) (f : S.Rows) (n : Nat) (it : S.Rows) (lo hi : Int) (m : Nat) (wt : S.Rows) (ld : Bool) (na : Nat) (a : S.Rows) (tk : Int) (nb : Nat) (b : S.Rows) (Q : AV → Heap → Prop) :
 ((BrP (decide (((nc : Nat) : Int) ≤ (20 : Int)))
 (BrP (decide (((ns : Nat) : Int) ≤ (20 : Int)))
 (BrP (decide (((nf : Nat) : Int) ≤ (10 : Int)))
 (BrP (decide (((n : Nat) : Int) ≤ (20 : Int)))
 (BrP (decide (((m : Nat) : Int) ≤ (10 : Int)))
 ((FCall (cs5 hbs) f_ref02_Plane [(.ag (kP e mo t l nc c ns s ta tm r nf f))] (.c (.p (.bool (S.plane e mo t l nc c ns s ta tm r nf f)))) []) ∧
 (BrP (S.plane e mo t l nc c ns s ta tm r nf f)
 ((FCall (cs5 hbs) f_ref02_Point [(.ag (kP e mo t l nc c ns s ta tm r nf f)), (.ag (kX n it lo hi m wt ld))] (.c (.p (.bool (S.point ns nf n it lo hi m wt)))) []) ∧
 (BrP (S.point ns nf n it lo hi m wt)
 (BrP (((na : Nat) : Int) != ((n : Nat) : Int))
 ((FCall (cs5 hbs) f_law02_known [] (vB true) []) ∧
 (Q (vB true) [(bP e mo t l nc c ns s ta tm r nf f), (bX n it lo hi m wt ld), (some (.box t_api_LoadCase [(.p .nsl), (cJ 0), (.p .nsl)]))]))
 (BrP (((nb : Nat) : Int) != ((m : Nat) : Int))
 ((FCall (cs5 hbs) f_law02_known [] (vB true) []) ∧
 (Q (vB true) [(bP e mo t l nc c ns s ta tm r nf f), (bX n it lo hi m wt ld), (some (.box t_api_LoadCase [(.p .nsl), (cJ 0), (.p .nsl)]))]))
 (BrP (decide (tk < (0 : Int)))
 ((FCall (cs5 hbs) f_law02_known [] (vB true) []) ∧
 (Q (vB true) [(bP e mo t l nc c ns s ta tm r nf f), (bX n it lo hi m wt ld), (some (.box t_api_LoadCase [(.p .nsl), (cJ 0), (.p .nsl)]))]))
 (BrP (decide (tk > (100 : Int)))
 ((FCall (cs5 hbs) f_law02_known [] (vB true) []) ∧
 (Q (vB true) [(bP e mo t l nc c ns s ta tm r nf f), (bX n it lo hi m wt ld), (some (.box t_api_LoadCase [(.p .nsl), (cJ 0), (.p .nsl)]))]))
 ((FCall (cs5 hbs) f_law02_part [(.ag [(cJ lo), (cJ hi)]), (vJ tk)] (vJ (S.part lo hi tk)) []) ∧
 ((LoopGo (ex (cs5 hbs) 988) 0 m_law02_truth_l1 ⟨(.nd (.nd (.nd (L4 (L6 (L1 (vB false)) (vT 0 0)) (L6 (L1 (vJ (S.part lo hi tk))) (vS 2 m wt))) (vS 1 nb b) (.nd (L1 (vB false)) (vJ 0) (L1 (vB false)))) (vS 1 na a) (L4 (.nd (L6 (L1 (vB false)) (vN n)) (vB false) (L1 (vB false))) (.nd (L6 (L1 (.ag [(cJ lo), (cJ hi)])) (vN nb)) (vS 1 na a) (L1 (vB false))))) (.ag (kX n it lo hi m wt ld)) (.nd (.nd (.nd (L6 (L1 (vJ tk)) (vS 3 n it)) (vT 1 0) (L6 (L1 (vT 2 1)) (vN m))) (vT 0 0) (L4 (L6 (L1 (vT 0 1)) (vS 1 nb b)) (L1 (vJ tk)))) (vJ tk) (L4 (.nd (L6 (L1 (vB false)) (vB false)) (vT 2 0) (L1 (vB false))) (.nd (L6 (L1 (vJ tk)) (vT 0 3)) (vN na) (L1 (vB false)))))), [(bX n it lo hi m wt ld), (some (.box t_api_LoadCase [(.p .nsl), (cJ 0), (.p .nsl)])), (some (.box t_api_LoadCase [(.p .nsl), (cJ (S.part lo hi tk)), (.p .nsl)]))]⟩ (.br (S.from_ (S.pcAt a) na 0) (.e (.exit 0) ⟨(L4 (L3 (L1 (vS 1 nb b))) (L4 (L6 (L1 (vT 1 0)) (vT 0 0)) (L3 (L1 (vT 2 0))))), [(bX n it lo hi m wt ld), (some (.box t_api_LoadCase [(.p .nsl), (cJ 0), (.p .nsl)])), (some (.box t_api_LoadCase [(.sl 3 0 na), (cJ (S.part lo hi tk)), (.p .nsl)])), (some (.arr 1 3 na (S.val (S.pcI it a)) []))]⟩) (.e .ret ⟨(L4 (L2 (L3 (L1 (vB false)))) (L3 (L3 (L1 (vT 1 0))))), [(bX n it lo hi m wt ld), (some (.box t_api_LoadCase [(.sl 3 0 (S.fst (S.pcAt a) na 0)), (cJ (S.part lo hi tk)), (.p .nsl)])), none, (some (.arr 1 3 (S.fst (S.pcAt a) na 0) (S.val (S.pcI it a)) []))]⟩))) ∧
 (BrP (S.from_ (S.pcAt a) na 0)
 ((LoopGo (ex (cs5 hbs) 987) 0 m_law02_truth_l2 ⟨(L4 (L3 (L1 (vS 1 nb b))) (L4 (.nd (L1 (vT 1 0)) (vT 0 0) (L1 (vJ 0))) (L3 (L1 (vT 2 0))))), [(bX n it lo hi m wt ld), (some (.box t_api_LoadCase [(.p .nsl), (cJ 0), (.p .nsl)])), (some (.box t_api_LoadCase [(.sl 3 0 na), (cJ (S.part lo hi tk)), (.p .nsl)])), (some (.arr 1 3 na (S.val (S.pcI it a)) []))]⟩ (.br (S.from_ (S.pcAt b) nb 0) (.e (.exit 2) ⟨(L2 (L4 (L3 (L1 (vT 1 0))) (L3 (L1 (vT 2 0))))), [(bX n it lo hi m wt ld), (some (.box t_api_LoadCase [(.p .nsl), (cJ 0), (.p .nsl)])), (some (.box t_api_LoadCase [(.sl 3 0 na), (cJ (S.part lo hi tk)), (.sl 4 0 nb)])), (some (.arr 1 3 na (S.val (S.pcI it a)) [])), (some (.arr 1 3 nb (S.val (S.pcW wt b)) []))]⟩) (.e .ret ⟨(L4 (L2 (L3 (L1 (vB false)))) (L3 (L3 (L1 (vT 1 0))))), [(bX n it lo hi m wt ld), (some (.box t_api_LoadCase [(.sl 3 0 na), (cJ (S.part lo hi tk)), (.sl 4 0 (S.fst (S.pcAt b) nb 0))])), none, (some (.arr 1 3 na (S.val (S.pcI it a)) [])), (some (.arr 1 3 (S.fst (S.pcAt b) nb 0) (S.val (S.pcW wt b)) []))]⟩))) ∧
 (BrP (S.from_ (S.pcAt b) nb 0)
 ((FCall (cs5 hbs) f_load_Bounds [(.ag (kP e mo t l nc c ns s ta tm r nf f)), (.ag (kX n it lo hi m wt ld))] (.tp [(.ag [(cJ (e + (S.sumR (S.pL (S.parts n it s lo hi ta wt f)) ((n + 1) + m) 0))), (cJ (e + (S.sumR (S.pH (S.parts n it s lo hi ta wt f)) ((n + 1) + m) 0))), (cJ (mo + (S.sumR (S.mL (S.parts n it s lo hi ta wt f)) ((n + 1) + m) 0))), (cJ (mo + (S.sumR (S.mH (S.parts n it s lo hi ta wt f)) ((n + 1) + m) 0)))]), (vJ 0)]) []) ∧
 ((FCall (cs5 hbs) f_load_Sure [(.ag (kP e mo t l nc c ns s ta tm r nf f)), (.ag (kX n it lo hi m wt ld))] (.tp [(vJ (S.broR (S.ruP e mo t l nc c ns s ta tm r nf f n it lo hi m wt ld))), (vJ (S.broI (S.ruP e mo t l nc c ns s ta tm r nf f n it lo hi m wt ld))), (.ag [(.p (.isl 1 (S.cnt (S.broR (S.ruP e mo t l nc c ns s ta tm r nf f n it lo hi m wt ld)) n) (S.val (S.wcR nc c (S.broR (S.ruP e mo t l nc c ns s ta tm r nf f n it lo hi m wt ld)) (S.broI (S.ruP e mo t l nc c ns s ta tm r nf f n it lo hi m wt ld)) (S.parts n it s lo hi ta wt f) 0)))), (cJ (S.only (S.broR (S.ruP e mo t l nc c ns s ta tm r nf f n it lo hi m wt ld)) (S.wc nc c (S.broR (S.ruP e mo t l nc c ns s ta tm r nf f n it lo hi m wt ld)) (S.broI (S.ruP e mo t l nc c ns s ta tm r nf f n it lo hi m wt ld)) (S.parts n it s lo hi ta wt f) n))), (.p (.isl 1 (S.cnt (S.broR (S.ruP e mo t l nc c ns s ta tm r nf f n it lo hi m wt ld)) m) (S.val (S.wcR nc c (S.broR (S.ruP e mo t l nc c ns s ta tm r nf f n it lo hi m wt ld)) (S.broI (S.ruP e mo t l nc c ns s ta tm r nf f n it lo hi m wt ld)) (S.parts n it s lo hi ta wt f) (n + 1)))))]), (vJ 0)]) []) ∧
 ((FCall (cs5 hbs) f_ref02_Weight [(.ag (kP e mo t l nc c ns s ta tm r nf f)), (.ag (kX n it lo hi m wt ld)), (.ag [(.p (.isl 1 na (wV (S.pcI it a)))), (cJ (S.part lo hi tk)), (.p (.isl 1 nb (wV (S.pcW wt b))))])] (.tp [(vJ (S.wgt e (S.part lo hi tk) na (S.num (wV (S.pcI it a))) nb (S.num (wV (S.pcW wt b))))), (vJ (S.mom mo (S.part lo hi tk) ta na (S.num (wV (S.pcI it a))) it s nb (S.num (wV (S.pcW wt b))) f))]) []) ∧
 (BrP (decide ((S.wgt e (S.part lo hi tk) na (S.num (wV (S.pcI it a))) nb (S.num (wV (S.pcW wt b)))) < (e + (S.sumR (S.pL (S.parts n it s lo hi ta wt f)) ((n + 1) + m) 0))))
 (Q (vB false) [(bP e mo t l nc c ns s ta tm r nf f), (bX n it lo hi m wt ld), (some (.box t_api_LoadCase [(.p (.isl 1 na (wV (S.pcI it a)))), (cJ (S.part lo hi tk)), (.p (.isl 1 nb (wV (S.pcW wt b))))])), (some (.box t_api_LoadBounds [(cJ (e + (S.sumR (S.pL (S.parts n it s lo hi ta wt f)) ((n + 1) + m) 0))), (cJ (e + (S.sumR (S.pH (S.parts n it s lo hi ta wt f)) ((n + 1) + m) 0))), (cJ (mo + (S.sumR (S.mL (S.parts n it s lo hi ta wt f)) ((n + 1) + m) 0))), (cJ (mo + (S.sumR (S.mH (S.parts n it s lo hi ta wt f)) ((n + 1) + m) 0)))])), (some (.box t_api_LoadCase [(.p (.isl 1 (S.cnt (S.broR (S.ruP e mo t l nc c ns s ta tm r nf f n it lo hi m wt ld)) n) (S.val (S.wcR nc c (S.broR (S.ruP e mo t l nc c ns s ta tm r nf f n it lo hi m wt ld)) (S.broI (S.ruP e mo t l nc c ns s ta tm r nf f n it lo hi m wt ld)) (S.parts n it s lo hi ta wt f) 0)))), (cJ (S.only (S.broR (S.ruP e mo t l nc c ns s ta tm r nf f n it lo hi m wt ld)) (S.wc nc c (S.broR (S.ruP e mo t l nc c ns s ta tm r nf f n it lo hi m wt ld)) (S.broI (S.ruP e mo t l nc c ns s ta tm r nf f n it lo hi m wt ld)) (S.parts n it s lo hi ta wt f) n))), (.p (.isl 1 (S.cnt (S.broR (S.ruP e mo t l nc c ns s ta tm r nf f n it lo hi m wt ld)) m) (S.val (S.wcR nc c (S.broR (S.ruP e mo t l nc c ns s ta tm r nf f n it lo hi m wt ld)) (S.broI (S.ruP e mo t l nc c ns s ta tm r nf f n it lo hi m wt ld)) (S.parts n it s lo hi ta wt f) (n + 1)))))]))])
 (BrP (decide ((S.wgt e (S.part lo hi tk) na (S.num (wV (S.pcI it a))) nb (S.num (wV (S.pcW wt b)))) > (e + (S.sumR (S.pH (S.parts n it s lo hi ta wt f)) ((n + 1) + m) 0))))
 (Q (vB false) [(bP e mo t l nc c ns s ta tm r nf f), (bX n it lo hi m wt ld), (some (.box t_api_LoadCase [(.p (.isl 1 na (wV (S.pcI it a)))), (cJ (S.part lo hi tk)), (.p (.isl 1 nb (wV (S.pcW wt b))))])), (some (.box t_api_LoadBounds [(cJ (e + (S.sumR (S.pL (S.parts n it s lo hi ta wt f)) ((n + 1) + m) 0))), (cJ (e + (S.sumR (S.pH (S.parts n it s lo hi ta wt f)) ((n + 1) + m) 0))), (cJ (mo + (S.sumR (S.mL (S.parts n it s lo hi ta wt f)) ((n + 1) + m) 0))), (cJ (mo + (S.sumR (S.mH (S.parts n it s lo hi ta wt f)) ((n + 1) + m) 0)))])), (some (.box t_api_LoadCase [(.p (.isl 1 (S.cnt (S.broR (S.ruP e mo t l nc c ns s ta tm r nf f n it lo hi m wt ld)) n) (S.val (S.wcR nc c (S.broR (S.ruP e mo t l nc c ns s ta tm r nf f n it lo hi m wt ld)) (S.broI (S.ruP e mo t l nc c ns s ta tm r nf f n it lo hi m wt ld)) (S.parts n it s lo hi ta wt f) 0)))), (cJ (S.only (S.broR (S.ruP e mo t l nc c ns s ta tm r nf f n it lo hi m wt ld)) (S.wc nc c (S.broR (S.ruP e mo t l nc c ns s ta tm r nf f n it lo hi m wt ld)) (S.broI (S.ruP e mo t l nc c ns s ta tm r nf f n it lo hi m wt ld)) (S.parts n it s lo hi ta wt f) n))), (.p (.isl 1 (S.cnt (S.broR (S.ruP e mo t l nc c ns s ta tm r nf f n it lo hi m wt ld)) m) (S.val (S.wcR nc c (S.broR (S.ruP e mo t l nc c ns s ta tm r nf f n it lo hi m wt ld)) (S.broI (S.ruP e mo t l nc c ns s ta tm r nf f n it lo hi m wt ld)) (S.parts n it s lo hi ta wt f) (n + 1)))))]))])
 (BrP (decide ((S.mom mo (S.part lo hi tk) ta na (S.num (wV (S.pcI it a))) it s nb (S.num (wV (S.pcW wt b))) f) < (mo + (S.sumR (S.mL (S.parts n it s lo hi ta wt f)) ((n + 1) + m) 0))))
 (Q (vB false) [(bP e mo t l nc c ns s ta tm r nf f), (bX n it lo hi m wt ld), (some (.box t_api_LoadCase [(.p (.isl 1 na (wV (S.pcI it a)))), (cJ (S.part lo hi tk)), (.p (.isl 1 nb (wV (S.pcW wt b))))])), (some (.box t_api_LoadBounds [(cJ (e + (S.sumR (S.pL (S.parts n it s lo hi ta wt f)) ((n + 1) + m) 0))), (cJ (e + (S.sumR (S.pH (S.parts n it s lo hi ta wt f)) ((n + 1) + m) 0))), (cJ (mo + (S.sumR (S.mL (S.parts n it s lo hi ta wt f)) ((n + 1) + m) 0))), (cJ (mo + (S.sumR (S.mH (S.parts n it s lo hi ta wt f)) ((n + 1) + m) 0)))])), (some (.box t_api_LoadCase [(.p (.isl 1 (S.cnt (S.broR (S.ruP e mo t l nc c ns s ta tm r nf f n it lo hi m wt ld)) n) (S.val (S.wcR nc c (S.broR (S.ruP e mo t l nc c ns s ta tm r nf f n it lo hi m wt ld)) (S.broI (S.ruP e mo t l nc c ns s ta tm r nf f n it lo hi m wt ld)) (S.parts n it s lo hi ta wt f) 0)))), (cJ (S.only (S.broR (S.ruP e mo t l nc c ns s ta tm r nf f n it lo hi m wt ld)) (S.wc nc c (S.broR (S.ruP e mo t l nc c ns s ta tm r nf f n it lo hi m wt ld)) (S.broI (S.ruP e mo t l nc c ns s ta tm r nf f n it lo hi m wt ld)) (S.parts n it s lo hi ta wt f) n))), (.p (.isl 1 (S.cnt (S.broR (S.ruP e mo t l nc c ns s ta tm r nf f n it lo hi m wt ld)) m) (S.val (S.wcR nc c (S.broR (S.ruP e mo t l nc c ns s ta tm r nf f n it lo hi m wt ld)) (S.broI (S.ruP e mo t l nc c ns s ta tm r nf f n it lo hi m wt ld)) (S.parts n it s lo hi ta wt f) (n + 1)))))]))])
 (BrP (decide ((S.mom mo (S.part lo hi tk) ta na (S.num (wV (S.pcI it a))) it s nb (S.num (wV (S.pcW wt b))) f) > (mo + (S.sumR (S.mH (S.parts n it s lo hi ta wt f)) ((n + 1) + m) 0))))
 (Q (vB false) [(bP e mo t l nc c ns s ta tm r nf f), (bX n it lo hi m wt ld), (some (.box t_api_LoadCase [(.p (.isl 1 na (wV (S.pcI it a)))), (cJ (S.part lo hi tk)), (.p (.isl 1 nb (wV (S.pcW wt b))))])), (some (.box t_api_LoadBounds [(cJ (e + (S.sumR (S.pL (S.parts n it s lo hi ta wt f)) ((n + 1) + m) 0))), (cJ (e + (S.sumR (S.pH (S.parts n it s lo hi ta wt f)) ((n + 1) + m) 0))), (cJ (mo + (S.sumR (S.mL (S.parts n it s lo hi ta wt f)) ((n + 1) + m) 0))), (cJ (mo + (S.sumR (S.mH (S.parts n it s lo hi ta wt f)) ((n + 1) + m) 0)))])), (some (.box t_api_LoadCase [(.p (.isl 1 (S.cnt (S.broR (S.ruP e mo t l nc c ns s ta tm r nf f n it lo hi m wt ld)) n) (S.val (S.wcR nc c (S.broR (S.ruP e mo t l nc c ns s ta tm r nf f n it lo hi m wt ld)) (S.broI (S.ruP e mo t l nc c ns s ta tm r nf f n it lo hi m wt ld)) (S.parts n it s lo hi ta wt f) 0)))), (cJ (S.only (S.broR (S.ruP e mo t l nc c ns s ta tm r nf f n it lo hi m wt ld)) (S.wc nc c (S.broR (S.ruP e mo t l nc c ns s ta tm r nf f n it lo hi m wt ld)) (S.broI (S.ruP e mo t l nc c ns s ta tm r nf f n it lo hi m wt ld)) (S.parts n it s lo hi ta wt f) n))), (.p (.isl 1 (S.cnt (S.broR (S.ruP e mo t l nc c ns s ta tm r nf f n it lo hi m wt ld)) m) (S.val (S.wcR nc c (S.broR (S.ruP e mo t l nc c ns s ta tm r nf f n it lo hi m wt ld)) (S.broI (S.ruP e mo t l nc c ns s ta tm r nf f n it lo hi m wt ld)) (S.parts n it s lo hi ta wt f) (n + 1)))))]))])
 (BrP ((S.broR (S.ruP e mo t l nc c ns s ta tm r nf f n it lo hi m wt ld)) == (1 : Int))
 ((FCall (cs5 hbs) f_law02_holds [(.ag (kP e mo t l nc c ns s ta tm r nf f)), (.ag (kX n it lo hi m wt ld)), (.ag [(.p (.isl 1 na (wV (S.pcI it a)))), (cJ (S.part lo hi tk)), (.p (.isl 1 nb (wV (S.pcW wt b))))])] (.c (.p (.bool (S.holdsB e mo t l nc c ns s ta tm r nf f it ld na (S.num (wV (S.pcI it a))) (S.part lo hi tk) nb (S.num (wV (S.pcW wt b))))))) []) ∧
 (BrP (S.holdsB e mo t l nc c ns s ta tm r nf f it ld na (S.num (wV (S.pcI it a))) (S.part lo hi tk) nb (S.num (wV (S.pcW wt b))))
 ((FCall (cs5 hbs) f_law02_known [] (vB true) []) ∧
 (Q (vB true) [(bP e mo t l nc c ns s ta tm r nf f), (bX n it lo hi m wt ld), (some (.box t_api_LoadCase [(.p (.isl 1 na (wV (S.pcI it a)))), (cJ (S.part lo hi tk)), (.p (.isl 1 nb (wV (S.pcW wt b))))])), (some (.box t_api_LoadBounds [(cJ (e + (S.sumR (S.pL (S.parts n it s lo hi ta wt f)) ((n + 1) + m) 0))), (cJ (e + (S.sumR (S.pH (S.parts n it s lo hi ta wt f)) ((n + 1) + m) 0))), (cJ (mo + (S.sumR (S.mL (S.parts n it s lo hi ta wt f)) ((n + 1) + m) 0))), (cJ (mo + (S.sumR (S.mH (S.parts n it s lo hi ta wt f)) ((n + 1) + m) 0)))])), (some (.box t_api_LoadCase [(.p (.isl 1 (S.cnt (S.broR (S.ruP e mo t l nc c ns s ta tm r nf f n it lo hi m wt ld)) n) (S.val (S.wcR nc c (S.broR (S.ruP e mo t l nc c ns s ta tm r nf f n it lo hi m wt ld)) (S.broI (S.ruP e mo t l nc c ns s ta tm r nf f n it lo hi m wt ld)) (S.parts n it s lo hi ta wt f) 0)))), (cJ (S.only (S.broR (S.ruP e mo t l nc c ns s ta tm r nf f n it lo hi m wt ld)) (S.wc nc c (S.broR (S.ruP e mo t l nc c ns s ta tm r nf f n it lo hi m wt ld)) (S.broI (S.ruP e mo t l nc c ns s ta tm r nf f n it lo hi m wt ld)) (S.parts n it s lo hi ta wt f) n))), (.p (.isl 1 (S.cnt (S.broR (S.ruP e mo t l nc c ns s ta tm r nf f n it lo hi m wt ld)) m) (S.val (S.wcR nc c (S.broR (S.ruP e mo t l nc c ns s ta tm r nf f n it lo hi m wt ld)) (S.broI (S.ruP e mo t l nc c ns s ta tm r nf f n it lo hi m wt ld)) (S.parts n it s lo hi ta wt f) (n + 1)))))]))]))
 (Q (vB false) [(bP e mo t l nc c ns s ta tm r nf f), (bX n it lo hi m wt ld), (some (.box t_api_LoadCase [(.p (.isl 1 na (wV (S.pcI it a)))), (cJ (S.part lo hi tk)), (.p (.isl 1 nb (wV (S.pcW wt b))))])), (some (.box t_api_LoadBounds [(cJ (e + (S.sumR (S.pL (S.parts n it s lo hi ta wt f)) ((n + 1) + m) 0))), (cJ (e + (S.sumR (S.pH (S.parts n it s lo hi ta wt f)) ((n + 1) + m) 0))), (cJ (mo + (S.sumR (S.mL (S.parts n it s lo hi ta wt f)) ((n + 1) + m) 0))), (cJ (mo + (S.sumR (S.mH (S.parts n it s lo hi ta wt f)) ((n + 1) + m) 0)))])), (some (.box t_api_LoadCase [(.p (.isl 1 (S.cnt (S.broR (S.ruP e mo t l nc c ns s ta tm r nf f n it lo hi m wt ld)) n) (S.val (S.wcR nc c (S.broR (S.ruP e mo t l nc c ns s ta tm r nf f n it lo hi m wt ld)) (S.broI (S.ruP e mo t l nc c ns s ta tm r nf f n it lo hi m wt ld)) (S.parts n it s lo hi ta wt f) 0)))), (cJ (S.only (S.broR (S.ruP e mo t l nc c ns s ta tm r nf f n it lo hi m wt ld)) (S.wc nc c (S.broR (S.ruP e mo t l nc c ns s ta tm r nf f n it lo hi m wt ld)) (S.broI (S.ruP e mo t l nc c ns s ta tm r nf f n it lo hi m wt ld)) (S.parts n it s lo hi ta wt f) n))), (.p (.isl 1 (S.cnt (S.broR (S.ruP e mo t l nc c ns s ta tm r nf f n it lo hi m wt ld)) m) (S.val (S.wcR nc c (S.broR (S.ruP e mo t l nc c ns s ta tm r nf f n it lo hi m wt ld)) (S.broI (S.ruP e mo t l nc c ns s ta tm r nf f n it lo hi m wt ld)) (S.parts n it s lo hi ta wt f) (n + 1)))))]))])))
 ((FCall (cs5 hbs) f_law02_within [(.ag (kX n it lo hi m wt ld)), (.ag [(.p (.isl 1 (S.cnt (S.broR (S.ruP e mo t l nc c ns s ta tm r nf f n it lo hi m wt ld)) n) (S.val (S.wcR nc c (S.broR (S.ruP e mo t l nc c ns s ta tm r nf f n it lo hi m wt ld)) (S.broI (S.ruP e mo t l nc c ns s ta tm r nf f n it lo hi m wt ld)) (S.parts n it s lo hi ta wt f) 0)))), (cJ (S.only (S.broR (S.ruP e mo t l nc c ns s ta tm r nf f n it lo hi m wt ld)) (S.wc nc c (S.broR (S.ruP e mo t l nc c ns s ta tm r nf f n it lo hi m wt ld)) (S.broI (S.ruP e mo t l nc c ns s ta tm r nf f n it lo hi m wt ld)) (S.parts n it s lo hi ta wt f) n))), (.p (.isl 1 (S.cnt (S.broR (S.ruP e mo t l nc c ns s ta tm r nf f n it lo hi m wt ld)) m) (S.val (S.wcR nc c (S.broR (S.ruP e mo t l nc c ns s ta tm r nf f n it lo hi m wt ld)) (S.broI (S.ruP e mo t l nc c ns s ta tm r nf f n it lo hi m wt ld)) (S.parts n it s lo hi ta wt f) (n + 1)))))])] (.c (.p (.bool (S.withinB n it lo hi m wt (S.cnt (S.broR (S.ruP e mo t l nc c ns s ta tm r nf f n it lo hi m wt ld)) n) (S.wcR nc c (S.broR (S.ruP e mo t l nc c ns s ta tm r nf f n it lo hi m wt ld)) (S.broI (S.ruP e mo t l nc c ns s ta tm r nf f n it lo hi m wt ld)) (S.parts n it s lo hi ta wt f) 0) (S.only (S.broR (S.ruP e mo t l nc c ns s ta tm r nf f n it lo hi m wt ld)) (S.wc nc c (S.broR (S.ruP e mo t l nc c ns s ta tm r nf f n it lo hi m wt ld)) (S.broI (S.ruP e mo t l nc c ns s ta tm r nf f n it lo hi m wt ld)) (S.parts n it s lo hi ta wt f) n)) (S.cnt (S.broR (S.ruP e mo t l nc c ns s ta tm r nf f n it lo hi m wt ld)) m) (S.wcR nc c (S.broR (S.ruP e mo t l nc c ns s ta tm r nf f n it lo hi m wt ld)) (S.broI (S.ruP e mo t l nc c ns s ta tm r nf f n it lo hi m wt ld)) (S.parts n it s lo hi ta wt f) (n + 1)))))) []) ∧
 (BrP (S.withinB n it lo hi m wt (S.cnt (S.broR (S.ruP e mo t l nc c ns s ta tm r nf f n it lo hi m wt ld)) n) (S.wcR nc c (S.broR (S.ruP e mo t l nc c ns s ta tm r nf f n it lo hi m wt ld)) (S.broI (S.ruP e mo t l nc c ns s ta tm r nf f n it lo hi m wt ld)) (S.parts n it s lo hi ta wt f) 0) (S.only (S.broR (S.ruP e mo t l nc c ns s ta tm r nf f n it lo hi m wt ld)) (S.wc nc c (S.broR (S.ruP e mo t l nc c ns s ta tm r nf f n it lo hi m wt ld)) (S.broI (S.ruP e mo t l nc c ns s ta tm r nf f n it lo hi m wt ld)) (S.parts n it s lo hi ta wt f) n)) (S.cnt (S.broR (S.ruP e mo t l nc c ns s ta tm r nf f n it lo hi m wt ld)) m) (S.wcR nc c (S.broR (S.ruP e mo t l nc c ns s ta tm r nf f n it lo hi m wt ld)) (S.broI (S.ruP e mo t l nc c ns s ta tm r nf f n it lo hi m wt ld)) (S.parts n it s lo hi ta wt f) (n + 1)))
 ((FCall (cs5 hbs) f_ref02_Breaks [(.ag (kP e mo t l nc c ns s ta tm r nf f)), (.ag (kX n it lo hi m wt ld)), (.ag [(.p (.isl 1 (S.cnt (S.broR (S.ruP e mo t l nc c ns s ta tm r nf f n it lo hi m wt ld)) n) (S.val (S.wcR nc c (S.broR (S.ruP e mo t l nc c ns s ta tm r nf f n it lo hi m wt ld)) (S.broI (S.ruP e mo t l nc c ns s ta tm r nf f n it lo hi m wt ld)) (S.parts n it s lo hi ta wt f) 0)))), (cJ (S.only (S.broR (S.ruP e mo t l nc c ns s ta tm r nf f n it lo hi m wt ld)) (S.wc nc c (S.broR (S.ruP e mo t l nc c ns s ta tm r nf f n it lo hi m wt ld)) (S.broI (S.ruP e mo t l nc c ns s ta tm r nf f n it lo hi m wt ld)) (S.parts n it s lo hi ta wt f) n))), (.p (.isl 1 (S.cnt (S.broR (S.ruP e mo t l nc c ns s ta tm r nf f n it lo hi m wt ld)) m) (S.val (S.wcR nc c (S.broR (S.ruP e mo t l nc c ns s ta tm r nf f n it lo hi m wt ld)) (S.broI (S.ruP e mo t l nc c ns s ta tm r nf f n it lo hi m wt ld)) (S.parts n it s lo hi ta wt f) (n + 1)))))]), (vJ (S.broR (S.ruP e mo t l nc c ns s ta tm r nf f n it lo hi m wt ld))), (vJ (S.broI (S.ruP e mo t l nc c ns s ta tm r nf f n it lo hi m wt ld)))] (.c (.p (.bool (S.brk e mo t l nc c ns s ta tm r nf f it ld (S.cnt (S.broR (S.ruP e mo t l nc c ns s ta tm r nf f n it lo hi m wt ld)) n) (S.wcR nc c (S.broR (S.ruP e mo t l nc c ns s ta tm r nf f n it lo hi m wt ld)) (S.broI (S.ruP e mo t l nc c ns s ta tm r nf f n it lo hi m wt ld)) (S.parts n it s lo hi ta wt f) 0) (S.only (S.broR (S.ruP e mo t l nc c ns s ta tm r nf f n it lo hi m wt ld)) (S.wc nc c (S.broR (S.ruP e mo t l nc c ns s ta tm r nf f n it lo hi m wt ld)) (S.broI (S.ruP e mo t l nc c ns s ta tm r nf f n it lo hi m wt ld)) (S.parts n it s lo hi ta wt f) n)) (S.cnt (S.broR (S.ruP e mo t l nc c ns s ta tm r nf f n it lo hi m wt ld)) m) (S.wcR nc c (S.broR (S.ruP e mo t l nc c ns s ta tm r nf f n it lo hi m wt ld)) (S.broI (S.ruP e mo t l nc c ns s ta tm r nf f n it lo hi m wt ld)) (S.parts n it s lo hi ta wt f) (n + 1)) (S.broR (S.ruP e mo t l nc c ns s ta tm r nf f n it lo hi m wt ld)) (S.broI (S.ruP e mo t l nc c ns s ta tm r nf f n it lo hi m wt ld)))))) []) ∧
 (BrP (S.brk e mo t l nc c ns s ta tm r nf f it ld (S.cnt (S.broR (S.ruP e mo t l nc c ns s ta tm r nf f n it lo hi m wt ld)) n) (S.wcR nc c (S.broR (S.ruP e mo t l nc c ns s ta tm r nf f n it lo hi m wt ld)) (S.broI (S.ruP e mo t l nc c ns s ta tm r nf f n it lo hi m wt ld)) (S.parts n it s lo hi ta wt f) 0) (S.only (S.broR (S.ruP e mo t l nc c ns s ta tm r nf f n it lo hi m wt ld)) (S.wc nc c (S.broR (S.ruP e mo t l nc c ns s ta tm r nf f n it lo hi m wt ld)) (S.broI (S.ruP e mo t l nc c ns s ta tm r nf f n it lo hi m wt ld)) (S.parts n it s lo hi ta wt f) n)) (S.cnt (S.broR (S.ruP e mo t l nc c ns s ta tm r nf f n it lo hi m wt ld)) m) (S.wcR nc c (S.broR (S.ruP e mo t l nc c ns s ta tm r nf f n it lo hi m wt ld)) (S.broI (S.ruP e mo t l nc c ns s ta tm r nf f n it lo hi m wt ld)) (S.parts n it s lo hi ta wt f) (n + 1)) (S.broR (S.ruP e mo t l nc c ns s ta tm r nf f n it lo hi m wt ld)) (S.broI (S.ruP e mo t l nc c ns s ta tm r nf f n it lo hi m wt ld)))
 ((FCall (cs5 hbs) f_law02_holds [(.ag (kP e mo t l nc c ns s ta tm r nf f)), (.ag (kX n it lo hi m wt ld)), (.ag [(.p (.isl 1 (S.cnt (S.broR (S.ruP e mo t l nc c ns s ta tm r nf f n it lo hi m wt ld)) n) (S.val (S.wcR nc c (S.broR (S.ruP e mo t l nc c ns s ta tm r nf f n it lo hi m wt ld)) (S.broI (S.ruP e mo t l nc c ns s ta tm r nf f n it lo hi m wt ld)) (S.parts n it s lo hi ta wt f) 0)))), (cJ (S.only (S.broR (S.ruP e mo t l nc c ns s ta tm r nf f n it lo hi m wt ld)) (S.wc nc c (S.broR (S.ruP e mo t l nc c ns s ta tm r nf f n it lo hi m wt ld)) (S.broI (S.ruP e mo t l nc c ns s ta tm r nf f n it lo hi m wt ld)) (S.parts n it s lo hi ta wt f) n))), (.p (.isl 1 (S.cnt (S.broR (S.ruP e mo t l nc c ns s ta tm r nf f n it lo hi m wt ld)) m) (S.val (S.wcR nc c (S.broR (S.ruP e mo t l nc c ns s ta tm r nf f n it lo hi m wt ld)) (S.broI (S.ruP e mo t l nc c ns s ta tm r nf f n it lo hi m wt ld)) (S.parts n it s lo hi ta wt f) (n + 1)))))])] (.c (.p (.bool (S.holdsB e mo t l nc c ns s ta tm r nf f it ld (S.cnt (S.broR (S.ruP e mo t l nc c ns s ta tm r nf f n it lo hi m wt ld)) n) (S.wcR nc c (S.broR (S.ruP e mo t l nc c ns s ta tm r nf f n it lo hi m wt ld)) (S.broI (S.ruP e mo t l nc c ns s ta tm r nf f n it lo hi m wt ld)) (S.parts n it s lo hi ta wt f) 0) (S.only (S.broR (S.ruP e mo t l nc c ns s ta tm r nf f n it lo hi m wt ld)) (S.wc nc c (S.broR (S.ruP e mo t l nc c ns s ta tm r nf f n it lo hi m wt ld)) (S.broI (S.ruP e mo t l nc c ns s ta tm r nf f n it lo hi m wt ld)) (S.parts n it s lo hi ta wt f) n)) (S.cnt (S.broR (S.ruP e mo t l nc c ns s ta tm r nf f n it lo hi m wt ld)) m) (S.wcR nc c (S.broR (S.ruP e mo t l nc c ns s ta tm r nf f n it lo hi m wt ld)) (S.broI (S.ruP e mo t l nc c ns s ta tm r nf f n it lo hi m wt ld)) (S.parts n it s lo hi ta wt f) (n + 1)))))) []) ∧
 (BrP (S.holdsB e mo t l nc c ns s ta tm r nf f it ld (S.cnt (S.broR (S.ruP e mo t l nc c ns s ta tm r nf f n it lo hi m wt ld)) n) (S.wcR nc c (S.broR (S.ruP e mo t l nc c ns s ta tm r nf f n it lo hi m wt ld)) (S.broI (S.ruP e mo t l nc c ns s ta tm r nf f n it lo hi m wt ld)) (S.parts n it s lo hi ta wt f) 0) (S.only (S.broR (S.ruP e mo t l nc c ns s ta tm r nf f n it lo hi m wt ld)) (S.wc nc c (S.broR (S.ruP e mo t l nc c ns s ta tm r nf f n it lo hi m wt ld)) (S.broI (S.ruP e mo t l nc c ns s ta tm r nf f n it lo hi m wt ld)) (S.parts n it s lo hi ta wt f) n)) (S.cnt (S.broR (S.ruP e mo t l nc c ns s ta tm r nf f n it lo hi m wt ld)) m) (S.wcR nc c (S.broR (S.ruP e mo t l nc c ns s ta tm r nf f n it lo hi m wt ld)) (S.broI (S.ruP e mo t l nc c ns s ta tm r nf f n it lo hi m wt ld)) (S.parts n it s lo hi ta wt f) (n + 1)))
 (Q (vB false) [(bP e mo t l nc c ns s ta tm r nf f), (bX n it lo hi m wt ld), (some (.box t_api_LoadCase [(.p (.isl 1 na (wV (S.pcI it a)))), (cJ (S.part lo hi tk)), (.p (.isl 1 nb (wV (S.pcW wt b))))])), (some (.box t_api_LoadBounds [(cJ (e + (S.sumR (S.pL (S.parts n it s lo hi ta wt f)) ((n + 1) + m) 0))), (cJ (e + (S.sumR (S.pH (S.parts n it s lo hi ta wt f)) ((n + 1) + m) 0))), (cJ (mo + (S.sumR (S.mL (S.parts n it s lo hi ta wt f)) ((n + 1) + m) 0))), (cJ (mo + (S.sumR (S.mH (S.parts n it s lo hi ta wt f)) ((n + 1) + m) 0)))])), (some (.box t_api_LoadCase [(.p (.isl 1 (S.cnt (S.broR (S.ruP e mo t l nc c ns s ta tm r nf f n it lo hi m wt ld)) n) (S.val (S.wcR nc c (S.broR (S.ruP e mo t l nc c ns s ta tm r nf f n it lo hi m wt ld)) (S.broI (S.ruP e mo t l nc c ns s ta tm r nf f n it lo hi m wt ld)) (S.parts n it s lo hi ta wt f) 0)))), (cJ (S.only (S.broR (S.ruP e mo t l nc c ns s ta tm r nf f n it lo hi m wt ld)) (S.wc nc c (S.broR (S.ruP e mo t l nc c ns s ta tm r nf f n it lo hi m wt ld)) (S.broI (S.ruP e mo t l nc c ns s ta tm r nf f n it lo hi m wt ld)) (S.parts n it s lo hi ta wt f) n))), (.p (.isl 1 (S.cnt (S.broR (S.ruP e mo t l nc c ns s ta tm r nf f n it lo hi m wt ld)) m) (S.val (S.wcR nc c (S.broR (S.ruP e mo t l nc c ns s ta tm r nf f n it lo hi m wt ld)) (S.broI (S.ruP e mo t l nc c ns s ta tm r nf f n it lo hi m wt ld)) (S.parts n it s lo hi ta wt f) (n + 1)))))]))])
 ((FCall (cs5 hbs) f_law02_known [] (vB true) []) ∧
 (Q (vB true) [(bP e mo t l nc c ns s ta tm r nf f), (bX n it lo hi m wt ld), (some (.box t_api_LoadCase [(.p (.isl 1 na (wV (S.pcI it a)))), (cJ (S.part lo hi tk)), (.p (.isl 1 nb (wV (S.pcW wt b))))])), (some (.box t_api_LoadBounds [(cJ (e + (S.sumR (S.pL (S.parts n it s lo hi ta wt f)) ((n + 1) + m) 0))), (cJ (e + (S.sumR (S.pH (S.parts n it s lo hi ta wt f)) ((n + 1) + m) 0))), (cJ (mo + (S.sumR (S.mL (S.parts n it s lo hi ta wt f)) ((n + 1) + m) 0))), (cJ (mo + (S.sumR (S.mH (S.parts n it s lo hi ta wt f)) ((n + 1) + m) 0)))])), (some (.box t_api_LoadCase [(.p (.isl 1 (S.cnt (S.broR (S.ruP e mo t l nc c ns s ta tm r nf f n it lo hi m wt ld)) n) (S.val (S.wcR nc c (S.broR (S.ruP e mo t l nc c ns s ta tm r nf f n it lo hi m wt ld)) (S.broI (S.ruP e mo t l nc c ns s ta tm r nf f n it lo hi m wt ld)) (S.parts n it s lo hi ta wt f) 0)))), (cJ (S.only (S.broR (S.ruP e mo t l nc c ns s ta tm r nf f n it lo hi m wt ld)) (S.wc nc c (S.broR (S.ruP e mo t l nc c ns s ta tm r nf f n it lo hi m wt ld)) (S.broI (S.ruP e mo t l nc c ns s ta tm r nf f n it lo hi m wt ld)) (S.parts n it s lo hi ta wt f) n))), (.p (.isl 1 (S.cnt (S.broR (S.ruP e mo t l nc c ns s ta tm r nf f n it lo hi m wt ld)) m) (S.val (S.wcR nc c (S.broR (S.ruP e mo t l nc c ns s ta tm r nf f n it lo hi m wt ld)) (S.broI (S.ruP e mo t l nc c ns s ta tm r nf f n it lo hi m wt ld)) (S.parts n it s lo hi ta wt f) (n + 1)))))]))]))))
 (Q (vB false) [(bP e mo t l nc c ns s ta tm r nf f), (bX n it lo hi m wt ld), (some (.box t_api_LoadCase [(.p (.isl 1 na (wV (S.pcI it a)))), (cJ (S.part lo hi tk)), (.p (.isl 1 nb (wV (S.pcW wt b))))])), (some (.box t_api_LoadBounds [(cJ (e + (S.sumR (S.pL (S.parts n it s lo hi ta wt f)) ((n + 1) + m) 0))), (cJ (e + (S.sumR (S.pH (S.parts n it s lo hi ta wt f)) ((n + 1) + m) 0))), (cJ (mo + (S.sumR (S.mL (S.parts n it s lo hi ta wt f)) ((n + 1) + m) 0))), (cJ (mo + (S.sumR (S.mH (S.parts n it s lo hi ta wt f)) ((n + 1) + m) 0)))])), (some (.box t_api_LoadCase [(.p (.isl 1 (S.cnt (S.broR (S.ruP e mo t l nc c ns s ta tm r nf f n it lo hi m wt ld)) n) (S.val (S.wcR nc c (S.broR (S.ruP e mo t l nc c ns s ta tm r nf f n it lo hi m wt ld)) (S.broI (S.ruP e mo t l nc c ns s ta tm r nf f n it lo hi m wt ld)) (S.parts n it s lo hi ta wt f) 0)))), (cJ (S.only (S.broR (S.ruP e mo t l nc c ns s ta tm r nf f n it lo hi m wt ld)) (S.wc nc c (S.broR (S.ruP e mo t l nc c ns s ta tm r nf f n it lo hi m wt ld)) (S.broI (S.ruP e mo t l nc c ns s ta tm r nf f n it lo hi m wt ld)) (S.parts n it s lo hi ta wt f) n))), (.p (.isl 1 (S.cnt (S.broR (S.ruP e mo t l nc c ns s ta tm r nf f n it lo hi m wt ld)) m) (S.val (S.wcR nc c (S.broR (S.ruP e mo t l nc c ns s ta tm r nf f n it lo hi m wt ld)) (S.broI (S.ruP e mo t l nc c ns s ta tm r nf f n it lo hi m wt ld)) (S.parts n it s lo hi ta wt f) (n + 1)))))]))])))
 (Q (vB false) [(bP e mo t l nc c ns s ta tm r nf f), (bX n it lo hi m wt ld), (some (.box t_api_LoadCase [(.p (.isl 1 na (wV (S.pcI it a)))), (cJ (S.part lo hi tk)), (.p (.isl 1 nb (wV (S.pcW wt b))))])), (some (.box t_api_LoadBounds [(cJ (e + (S.sumR (S.pL (S.parts n it s lo hi ta wt f)) ((n + 1) + m) 0))), (cJ (e + (S.sumR (S.pH (S.parts n it s lo hi ta wt f)) ((n + 1) + m) 0))), (cJ (mo + (S.sumR (S.mL (S.parts n it s lo hi ta wt f)) ((n + 1) + m) 0))), (cJ (mo + (S.sumR (S.mH (S.parts n it s lo hi ta wt f)) ((n + 1) + m) 0)))])), (some (.box t_api_LoadCase [(.p (.isl 1 (S.cnt (S.broR (S.ruP e mo t l nc c ns s ta tm r nf f n it lo hi m wt ld)) n) (S.val (S.wcR nc c (S.broR (S.ruP e mo t l nc c ns s ta tm r nf f n it lo hi m wt ld)) (S.broI (S.ruP e mo t l nc c ns s ta tm r nf f n it lo hi m wt ld)) (S.parts n it s lo hi ta wt f) 0)))), (cJ (S.only (S.broR (S.ruP e mo t l nc c ns s ta tm r nf f n it lo hi m wt ld)) (S.wc nc c (S.broR (S.ruP e mo t l nc c ns s ta tm r nf f n it lo hi m wt ld)) (S.broI (S.ruP e mo t l nc c ns s ta tm r nf f n it lo hi m wt ld)) (S.parts n it s lo hi ta wt f) n))), (.p (.isl 1 (S.cnt (S.broR (S.ruP e mo t l nc c ns s ta tm r nf f n it lo hi m wt ld)) m) (S.val (S.wcR nc c (S.broR (S.ruP e mo t l nc c ns s ta tm r nf f n it lo hi m wt ld)) (S.broI (S.ruP e mo t l nc c ns s ta tm r nf f n it lo hi m wt ld)) (S.parts n it s lo hi ta wt f) (n + 1)))))]))])))))))))))
 ((FCall (cs5 hbs) f_law02_known [] (vB true) []) ∧
 (Q (vB true) [(bP e mo t l nc c ns s ta tm r nf f), (bX n it lo hi m wt ld), (some (.box t_api_LoadCase [(.p (.isl 1 na (wV (S.pcI it a)))), (cJ (S.part lo hi tk)), (.p (.isl 1 (S.fst (S.pcAt b) nb 0) (wV (S.pcW wt b))))]))]))))
 ((FCall (cs5 hbs) f_law02_known [] (vB true) []) ∧
 (Q (vB true) [(bP e mo t l nc c ns s ta tm r nf f), (bX n it lo hi m wt ld), (some (.box t_api_LoadCase [(.p (.isl 1 (S.fst (S.pcAt a) na 0) (wV (S.pcI it a)))), (cJ (S.part lo hi tk)), (.p .nsl)]))])))))))))
 ((FCall (cs5 hbs) f_law02_known [] (vB true) []) ∧
 (Q (vB true) [(bP e mo t l nc c ns s ta tm r nf f), (bX n it lo hi m wt ld)]))))
 ((FCall (cs5 hbs) f_law02_known [] (vB true) []) ∧
 (Q (vB true) [(bP e mo t l nc c ns s ta tm r nf f), (bX n it lo hi m wt ld)]))))
 ((FCall (cs5 hbs) f_law02_known [] (vB true) []) ∧
 (Q (vB true) [(bP e mo t l nc c ns s ta tm r nf f), (bX n it lo hi m wt ld)])))
 ((FCall (cs5 hbs) f_law02_known [] (vB true) []) ∧
 (Q (vB true) [(bP e mo t l nc c ns s ta tm r nf f), (bX n it lo hi m wt ld)])))
 ((FCall (cs5 hbs) f_law02_known [] (vB true) []) ∧
 (Q (vB true) [(bP e mo t l nc c ns s ta tm r nf f), (bX n it lo hi m wt ld)])))
 ((FCall (cs5 hbs) f_law02_known [] (vB true) []) ∧
 (Q (vB true) [(bP e mo t l nc c ns s ta tm r nf f), (bX n it lo hi m wt ld)])))
 ((FCall (cs5 hbs) f_law02_known [] (vB true) []) ∧
 (Q (vB true) [(bP e mo t l nc c ns s ta tm r nf f), (bX n it lo hi m wt ld)])))) = (ex (cs5 hbs) 1000 0 m_law02_LoadTrue ⟨ofL 0 [.ag (plC e mo t l nc (S.val c) ns (S.val s) ta tm r nf (S.val f)), .ag (ptC n (S.val it) lo hi m (S.val wt) ld), .c (cS 1 na a), .c (cJ tk), .c (cS 1 nb b)] .lf, []⟩ (endK F_law02_LoadTrue.rs (fun r H => .pr (Q r H)) fun _ _ => .no)).hold2 := by kernel_rfl
end
end Go.Ab.B
set_option linter.all false
set_option maxRecDepth 100000
namespace Go.Ab.S
theorem sumR_congr {f g : Nat → Int} : ∀ {k i : Nat}, (∀ j, i ≤ j → j < i + k → f j = g j) → sumR f k i = sumR g k i
  | 0, i, _ => rfl
  | k + 1, i, h => by simp only [sumR]; rw [h i (by omega) (by omega), sumR_congr (k := k) (i := i + 1) fun j h1 h2 => h j (by omega) (by omega)]
theorem sumR_add (f : Nat → Int) : ∀ (a b i : Nat), sumR f (a + b) i = sumR f a i + sumR f b (i + a)
  | 0, b, i => by simp [sumR]
  | a + 1, b, i => by
    rw [show a + 1 + b = (a + b) + 1 by omega]
    simp only [sumR]
    rw [sumR_add f a b (i + 1), show i + 1 + a = i + (a + 1) by omega]
    omega
theorem sumR_shift (f : Nat → Int) (d : Nat) : ∀ (k i : Nat), sumR f k (d + i) = sumR (fun j => f (d + j)) k i
  | 0, i => rfl
  | k + 1, i => by simp only [sumR]; rw [show d + i + 1 = d + (i + 1) by omega, sumR_shift f d k (i + 1)]
theorem sumR_le {f g : Nat → Int} : ∀ {k i : Nat}, (∀ j, i ≤ j → j < i + k → f j ≤ g j) → sumR f k i ≤ sumR g k i
  | 0, i, _ => Int.le_refl _
  | k + 1, i, h => by
    have h1 := h i (by omega) (by omega)
    have h2 := sumR_le (f := f) (g := g) (k := k) (i := i + 1) fun j h1 h2 => h j (by omega) (by omega)
    simp only [sumR]
    omega
theorem sumR_parts (f : Nat → Int) (n m : Nat) : sumR f (n + 1 + m) 0 = sumR f n 0 + f n + sumR (fun j => f (n + 1 + j)) m 0 := by
  rw [sumR_add f (n + 1) m 0, sumR_snoc f n 0, Nat.zero_add, Nat.zero_add]
  have := sumR_shift f (n + 1) m 0
  rw [Nat.add_zero] at this
  rw [this]
theorem sumR_lin (A B : Int) (q v : Nat → Int) : ∀ (k i : Nat), sumR (fun j => (A * q j - B) * v j) k i = A * sumR (fun j => v j * q j) k i - B * sumR v k i
  | 0, i => by simp [sumR]
  | k + 1, i => by
    simp only [sumR]
    rw [sumR_lin A B q v k (i + 1), Int.mul_add, Int.mul_add, Int.sub_mul, Int.mul_assoc, Int.mul_comm (q i) (v i)]
    omega
structure Parts (n : Nat) (cc : Rows) (tk : Int) (m : Nat) (ww : Rows) (v : Nat → Int) : Prop where
  it : ∀ i, i < n → v i = cc i 0
  tk : v n = tk
  wt : ∀ j, j < m → v (n + 1 + j) = ww j 0
section
variable {e mo t l : Int} {nc : Nat} {c : Rows} {ns : Nat} {s : Rows} {ta tm r : Int} {nf : Nat} {f : Rows} {n : Nat} {it : Rows} {lo hi : Int} {m : Nat} {wt : Rows} {ld : Bool} {cc : Rows} {tk : Int} {ww : Rows} {v : Nat → Int}
theorem wgt_eq (h : Parts n cc tk m ww v) : wgt e tk n cc m ww = e + sumR v (n + 1 + m) 0 := by
  rw [sumR_parts v n m, h.tk]
  have h1 : sumR v n 0 = sumR (itW cc) n 0 := sumR_congr fun j _ hj => h.it j (by omega)
  have h2 : sumR (fun j => v (n + 1 + j)) m 0 = sumR (itW ww) m 0 := sumR_congr fun j _ hj => h.wt j (by omega)
  rw [h1, h2]
  simp only [wgt]
  omega
theorem mom_eq (h : Parts n cc tk m ww v) : mom mo tk ta n cc it s m ww f = mo + sumR (fun i => v i * parts n it s lo hi ta wt f i 2) (n + 1 + m) 0 := by
  rw [sumR_parts _ n m]
  have h0 : v n * parts n it s lo hi ta wt f n 2 = tk * ta := by rw [h.tk, parts_tk]; rfl
  have h1 : sumR (fun i => v i * parts n it s lo hi ta wt f i 2) n 0 = sumR (itM cc it s) n 0 := sumR_congr fun j _ hj => by
    simp only [itM]
    rw [h.it j (by omega), parts_it (show j < n by omega)]
    rfl
  have h2 : sumR (fun j => v (n + 1 + j) * parts n it s lo hi ta wt f (n + 1 + j) 2) m 0 = sumR (wtM ww f) m 0 := sumR_congr fun j _ hj => by
    simp only [wtM]
    rw [h.wt j (by omega), parts_wt]
    rfl
  rw [h0, h1, h2]
  simp only [mom]
  omega
theorem sd_eq (i k : Nat) (p : Rows) (v : Nat → Int) : sd nc c i (e + sumR v k 0) (mo + sumR (fun j => v j * p j 2) k 0) = sd nc c i e mo + sumR (fun j => lean nc c i (p j 2) * v j) k 0 := by
  have h := sumR_lin (c (nxt nc i) 0 - c i 0) (c (nxt nc i) 1 - c i 1) (fun j => p j 2) v k 0
  have h' : sumR (fun j => lean nc c i (p j 2) * v j) k 0 = _ := h
  rw [h']
  simp only [sd]
  generalize sumR v k 0 = W
  generalize sumR (fun j => v j * p j 2) k 0 = M
  generalize c (nxt nc i) 0 - c i 0 = A
  generalize c (nxt nc i) 1 - c i 1 = B
  rw [show mo + M - c i 1 = (mo - c i 1) + M by omega, show e + W - c i 0 = (e - c i 0) + W by omega, Int.mul_add, Int.mul_add]
  omega
theorem mn_le {x a b : Int} (h : a ≤ x ∨ b ≤ x) : mn a b ≤ x := by unfold mn; split <;> omega
theorem le_mx {x a b : Int} (h : x ≤ a ∨ x ≤ b) : x ≤ mx a b := by unfold mx; split <;> omega
theorem between_l {x lo hi q : Int} (h1 : lo ≤ x) (h2 : x ≤ hi) : mn (q * lo) (q * hi) ≤ q * x := by
  rcases Int.le_total 0 q with h | h
  · exact mn_le (.inl (Int.mul_le_mul_of_nonneg_left h1 h))
  · exact mn_le (.inr (Int.mul_le_mul_of_nonpos_left h h2))
theorem between_h {x lo hi q : Int} (h1 : lo ≤ x) (h2 : x ≤ hi) : q * x ≤ mx (q * lo) (q * hi) := by
  rcases Int.le_total 0 q with h | h
  · exact le_mx (.inr (Int.mul_le_mul_of_nonneg_left h2 h))
  · exact le_mx (.inl (Int.mul_le_mul_of_nonpos_left h h1))
theorem sums_in {k : Nat} {p : Rows} {v : Nat → Int} (hv : ∀ j, j < k → p j 0 ≤ v j ∧ v j ≤ p j 1) :
    sumR (pL p) k 0 ≤ sumR v k 0 ∧ sumR v k 0 ≤ sumR (pH p) k 0 ∧ sumR (mL p) k 0 ≤ sumR (fun j => v j * p j 2) k 0 ∧ sumR (fun j => v j * p j 2) k 0 ≤ sumR (mH p) k 0 := by
  refine ⟨sumR_le fun j _ h => (hv j (by omega)).1, sumR_le fun j _ h => (hv j (by omega)).2, sumR_le fun j _ h => ?_, sumR_le fun j _ h => ?_⟩
  · have := between_l (q := p j 2) (hv j (by omega)).1 (hv j (by omega)).2
    simp only [mL]
    rw [Int.mul_comm (p j 0), Int.mul_comm (p j 1), Int.mul_comm (v j)]
    exact this
  · have := between_h (q := p j 2) (hv j (by omega)).1 (hv j (by omega)).2
    simp only [mH]
    rw [Int.mul_comm (p j 0), Int.mul_comm (p j 1), Int.mul_comm (v j)]
    exact this
theorem side_ge {k : Nat} {p : Rows} {v : Nat → Int} (hv : ∀ j, j < k → p j 0 ≤ v j ∧ v j ≤ p j 1) (i : Nat) : outR e mo nc c k p i 0 ≤ sd nc c i (e + sumR v k 0) (mo + sumR (fun j => v j * p j 2) k 0) := by
  rw [sd_eq i k p v]
  have : sumR (leanW nc c p i) k 0 ≤ sumR (fun j => lean nc c i (p j 2) * v j) k 0 := sumR_le fun j _ h => between_l (hv j (by omega)).1 (hv j (by omega)).2
  simp only [outR]
  omega
theorem side_eq {k : Nat} {p : Rows} {v : Nat → Int} (hp : ∀ j, j < k → p j 0 ≤ p j 1) (i : Nat) (hv : ∀ j, j < k → v j = endOf (decide (lean nc c i (p j 2) < 0)) (p j 0) (p j 1)) : sd nc c i (e + sumR v k 0) (mo + sumR (fun j => v j * p j 2) k 0) = outR e mo nc c k p i 0 := by
  rw [sd_eq i k p v]
  have : sumR (fun j => lean nc c i (p j 2) * v j) k 0 = sumR (leanW nc c p i) k 0 := sumR_congr fun j _ h => by
    have h1 := hp j (by omega)
    show lean nc c i (p j 2) * v j = mn (lean nc c i (p j 2) * p j 0) (lean nc c i (p j 2) * p j 1)
    rw [hv j (by omega)]
    generalize lean nc c i (p j 2) = q
    by_cases hq : q < 0
    · have h2 : q * p j 1 ≤ q * p j 0 := Int.mul_le_mul_of_nonpos_left (by omega) h1
      simp only [hq, decide_true, endOf]
      unfold mn; split <;> omega
    · have h2 : q * p j 0 ≤ q * p j 1 := Int.mul_le_mul_of_nonneg_left h1 (by omega)
      simp only [hq, decide_false, endOf]
      unfold mn; split <;> omega
  rw [this]
  rfl
theorem atR_le {cc : Rows} {st : Int} (h : ∀ i, i < n → cc i 0 ≤ it i 2) : sumR (atR it cc st) n 0 ≤ stS n it st := sumR_le fun j _ hj => by
  have := h j (by omega)
  simp only [atR, ends, endOf]
  split <;> omega
theorem wc_in {ru ix : Int} {p : Rows} {i : Nat} (h : p i 0 ≤ p i 1) : p i 0 ≤ wc nc c ru ix p i ∧ wc nc c ru ix p i ≤ p i 1 := by
  simp only [wc, endOf]
  split <;> omega
theorem wc_parts (ru ix : Int) (p : Rows) : Parts n (wcR nc c ru ix p 0) (wc nc c ru ix p n) m (wcR nc c ru ix p (n + 1)) (wc nc c ru ix p) :=
  ⟨fun i _ => by simp [wcR], rfl, fun j _ => rfl⟩
end
end Go.Ab.S
set_option linter.all false
set_option maxRecDepth 100000
namespace Go.Ab.S
section
variable {e mo t l : Int} {nc : Nat} {c : Rows} {ns : Nat} {s : Rows} {ta tm r : Int} {nf : Nat} {f : Rows} {n : Nat} {it : Rows} {lo hi : Int} {m : Nat} {wt : Rows} {ld : Bool} {cc : Rows} {tk : Int} {ww : Rows} {v : Nat → Int}
theorem rule_mem {R : Int} {N : Nat} {g : Rows} (h : (R, N, g) ∈ ruP e mo t l nc c ns s ta tm r nf f n it lo hi m wt ld) :
    (R = 2 ∧ N = ns ∧ g = subR s (stS n it)) ∨ (R = 3 ∧ N = 1 ∧ g = num (oneV (tm - hi))) ∨ (R = 4 ∧ N = nf ∧ g = wetR f wt) ∨ (R = 5 ∧ N = 1 ∧ g = num (oneV (heavyX e t l ld (n + 1 + m) (parts n it s lo hi ta wt f)))) ∨
    (R = 6 ∧ N = nc ∧ g = outR e mo nc c (n + 1 + m) (parts n it s lo hi ta wt f)) ∨ (R = 7 ∧ N = b01 ld ∧ g = num (oneV (lo - r))) := by
  simpa [ruP, rules] using h
structure SureOk (e mo t l : Int) (nc : Nat) (c : Rows) (ns : Nat) (s : Rows) (ta tm r : Int) (nf : Nat) (f : Rows) (n : Nat) (it : Rows) (lo hi : Int) (m : Nat) (wt : Rows) (ld : Bool) : Prop where
  over : ∀ i : Nat, i < ns → stS n it i ≤ s i 1
  full : hi ≤ tm
  wet : ∀ i, i < nf → wt i 1 ≤ f i 1
  heavy : 0 ≤ heavyX e t l ld (n + 1 + m) (parts n it s lo hi ta wt f)
  out : ∀ i, i < nc → 0 ≤ outR e mo nc c (n + 1 + m) (parts n it s lo hi ta wt f) i 0
  short : ld = true → r ≤ lo
theorem sure_ok (h : (broR (ruP e mo t l nc c ns s ta tm r nf f n it lo hi m wt ld) == 1) = true) : SureOk e mo t l nc c ns s ta tm r nf f n it lo hi m wt ld := by
  rcases bro_spec (ruP e mo t l nc c ns s ta tm r nf f n it lo hi m wt ld) with ⟨_, hall⟩ | ⟨R, N, g, i, h1, h2, _, _⟩
  · refine ⟨fun i hj => ?_, ?_, fun i hj => ?_, ?_, fun i hj => ?_, fun hl => ?_⟩
    · have := hall 2 ns (subR s (stS n it)) (by simp [ruP, rules]) i hj
      simp only [subR] at this
      omega
    · have : 0 ≤ tm - hi := hall 3 1 (num (oneV (tm - hi))) (by simp [ruP, rules]) 0 (by omega)
      omega
    · have := hall 4 nf (wetR f wt) (by simp [ruP, rules]) i hj
      simp only [wetR] at this
      omega
    · exact hall 5 1 (num (oneV (heavyX e t l ld (n + 1 + m) (parts n it s lo hi ta wt f)))) (by simp [ruP, rules]) 0 (by omega)
    · exact hall 6 nc (outR e mo nc c (n + 1 + m) (parts n it s lo hi ta wt f)) (by simp [ruP, rules]) i hj
    · have : 0 ≤ lo - r := hall 7 (b01 ld) (num (oneV (lo - r))) (by simp [ruP, rules]) 0 (by rw [hl]; simp [b01])
      omega
  · simp only [broR, h2] at h
    have h : R = 1 := by simpa using h
    rcases rule_mem h1 with h' | h' | h' | h' | h' | h' <;> omega
theorem sure_holds (hs : SureOk e mo t l nc c ns s ta tm r nf f n it lo hi m wt ld) (hmf : m = nf) (hv : Parts n cc tk m ww v) (hb : ∀ j, j < n + 1 + m → parts n it s lo hi ta wt f j 0 ≤ v j ∧ v j ≤ parts n it s lo hi ta wt f j 1) :
    holdsB e mo t l nc c ns s ta tm r nf f it ld n cc tk m ww = true := by
  have hsum := sums_in hb
  have htk : lo ≤ tk ∧ tk ≤ hi := by
    have := hb n (by omega)
    rw [hv.tk, parts_tk, parts_tk] at this
    exact this
  simp only [holdsB, Bool.and_eq_true]
  rw [wgt_eq hv, mom_eq (lo := lo) (hi := hi) (wt := wt) hv]
  refine ⟨from_iff.2 fun i _ hi' => ?_, from_iff.2 fun i _ hi' => ?_, ?_, from_iff.2 fun i _ hi' => ?_⟩
  · have h1 := atR_le (n := n) (it := it) (cc := cc) (st := (i : Int)) fun j hj => by
      have := (hb j (by omega)).2
      rw [hv.it j hj, parts_it hj] at this
      exact this
    have h2 := hs.over i hi'
    simp only [atOk, decide_eq_true_eq]
    omega
  · have h1 := (hb (n + 1 + i) (by omega)).2
    rw [hv.wt i hi', parts_wt] at h1
    have h1 : ww i 0 ≤ wt i 1 := h1
    have h2 := hs.wet i (by omega)
    simp only [wwOk, decide_eq_true_eq]
    omega
  · have h1 := hs.heavy
    have h2 := hs.full
    have h3 := hs.short
    simp only [heavyX] at h1
    cases ld with
    | true =>
      have h3 := h3 rfl
      simp only [restOk, Bool.and_eq_true, decide_eq_true_eq]
      simp only at h1
      omega
    | false =>
      simp only [restOk, Bool.and_eq_true, decide_eq_true_eq]
      simp only at h1
      omega
  · have h1 := hs.out i hi'
    have h2 := side_ge (e := e) (mo := mo) (nc := nc) (c := c) hb i
    simp only [insAt, decide_eq_true_eq]
    omega
theorem brk_not {ru ix : Int} (hmf : m = nf) (h : brk e mo t l nc c ns s ta tm r nf f it ld n cc tk m ww ru ix = true) : holdsB e mo t l nc c ns s ta tm r nf f it ld n cc tk m ww = false := by
  cases hh : holdsB e mo t l nc c ns s ta tm r nf f it ld n cc tk m ww with
  | false => rfl
  | true =>
    exfalso
    simp only [holdsB, Bool.and_eq_true] at hh
    obtain ⟨h1, h2, h3, h4⟩ := hh
    simp only [brk] at h
    split at h
    · simp only [Bool.and_eq_true, inB_iff, decide_eq_true_eq] at h
      have := from_iff.1 h1 ix.toNat (Nat.zero_le _) (by omega)
      simp only [atOk, decide_eq_true_eq] at this
      rw [show ((ix.toNat : Nat) : Int) = ix by omega] at this
      omega
    · split at h
      · simp only [Bool.and_eq_true, decide_eq_true_eq] at h
        simp only [restOk, Bool.and_eq_true, decide_eq_true_eq] at h3
        omega
      · split at h
        · simp only [Bool.and_eq_true, inB_iff, decide_eq_true_eq] at h
          have := from_iff.1 h2 ix.toNat (Nat.zero_le _) (by omega)
          simp only [wwOk, decide_eq_true_eq] at this
          omega
        · split at h
          · cases ld <;> simp only [restOk, Bool.and_eq_true, decide_eq_true_eq] at h h3 <;> omega
          · split at h
            · simp only [Bool.and_eq_true, inB_iff, decide_eq_true_eq] at h
              have := from_iff.1 h4 ix.toNat (Nat.zero_le _) (by omega)
              simp only [insAt, decide_eq_true_eq] at this
              omega
            · split at h
              · cases ld <;> simp only [restOk, Bool.and_eq_true, decide_eq_true_eq, Bool.false_and, Bool.and_false, Bool.true_and] at h h3 <;> first | omega | (simp at h)
              · cases h
theorem broken_spec (hp : PlOk e mo t l nc c ns s ta tm r nf f) (hq : PtOk ns nf n it lo hi m wt) (h : (broR (ruP e mo t l nc c ns s ta tm r nf f n it lo hi m wt ld) == 1) = false) {R I : Int} (hR : broR (ruP e mo t l nc c ns s ta tm r nf f n it lo hi m wt ld) = R) (hI : broI (ruP e mo t l nc c ns s ta tm r nf f n it lo hi m wt ld) = I) :
    withinB n it lo hi m wt n (wcR nc c R I (parts n it s lo hi ta wt f) 0) (wc nc c R I (parts n it s lo hi ta wt f) n) m (wcR nc c R I (parts n it s lo hi ta wt f) (n + 1)) = true ∧
    brk e mo t l nc c ns s ta tm r nf f it ld n (wcR nc c R I (parts n it s lo hi ta wt f) 0) (wc nc c R I (parts n it s lo hi ta wt f) n) m (wcR nc c R I (parts n it s lo hi ta wt f) (n + 1)) R I = true := by
  have hle := fun j h => (parts_in hp hq j h).2.2.2
  have hin := fun j h => wc_in (nc := nc) (c := c) (ru := R) (ix := I) (hle j h)
  have hv := wc_parts (n := n) (m := m) (nc := nc) (c := c) R I (parts n it s lo hi ta wt f)
  have hmf := hq.hm
  constructor
  · simp only [withinB, Bool.and_eq_true, decide_true, true_and, decide_eq_true_eq]
    have h1 := hin n (by omega)
    rw [parts_tk, parts_tk] at h1
    refine ⟨h1.1, h1.2, from_iff.2 fun i _ hi' => ?_, from_iff.2 fun i _ hi' => ?_⟩
    · have h1 := hin i (by omega)
      rw [parts_it hi', parts_it hi'] at h1
      simp only [inIt, wcR, Bool.and_eq_true, decide_eq_true_eq, Nat.zero_add]
      exact h1
    · have h1 := hin (n + 1 + i) (by omega)
      rw [parts_wt, parts_wt] at h1
      simp only [inWt, Bool.and_eq_true, decide_eq_true_eq]
      exact h1
  · rcases bro_spec (ruP e mo t l nc c ns s ta tm r nf f n it lo hi m wt ld) with ⟨h1, _⟩ | ⟨R', N, g, i, h1, h2, h3, h4⟩
    · simp only [broR, h1] at h; cases h
    · simp only [broR, broI, h2] at hR hI
      subst hR hI
      rcases rule_mem h1 with ⟨rfl, hN, rfl⟩ | ⟨rfl, hN, rfl⟩ | ⟨rfl, hN, rfl⟩ | ⟨rfl, hN, rfl⟩ | ⟨rfl, hN, rfl⟩ | ⟨rfl, hN, rfl⟩ <;> rw [hN] at h3
      · have hsum : sumR (atR it (wcR nc c 2 i (parts n it s lo hi ta wt f) 0) i) n 0 = stS n it i := sumR_congr fun j _ hj => by
          simp only [atR]
          split
          · rename_i hst
            simp only [wcR, wc, Nat.zero_add, parts_it (show j < n by omega), pick5, asH, ends]
            have e1 : ((2 : Int) == 5) = false := rfl
            have e2 : ((2 : Int) == 7) = false := rfl
            have e3 : ((2 : Int) == 6) = false := rfl
            have e4 : ((2 : Int) == 2) = true := rfl
            simp only [e1, e2, e3, e4, hst, Bool.true_and, endOf]
          · rfl
        simp only [subR] at h4
        have e4 : ((2 : Int) == 2) = true := rfl
        simp only [brk, e4, hsum, Bool.and_eq_true, inB_iff, decide_eq_true_eq, Int.toNat_natCast]
        omega
      · obtain rfl : i = 0 := by omega
        have h4 : tm - hi < 0 := h4
        have hw : wc nc c 3 ((0 : Nat) : Int) (parts n it s lo hi ta wt f) n = hi := by
          simp only [wc, parts_tk, pick5, asH]
          rfl
        rw [hw]
        show ((((0 : Nat) : Int) == 0) && decide (tm < hi)) = true
        simp
        omega
      · have hw : wcR nc c 4 (i : Int) (parts n it s lo hi ta wt f) (n + 1) i 0 = wt i 1 := by
          simp only [wcR, wc, parts_wt, pick5, asH]
          have e1 : ((4 : Int) == 5) = false := rfl
          have e2 : ((4 : Int) == 7) = false := rfl
          have e3 : ((4 : Int) == 6) = false := rfl
          have e4 : ((4 : Int) == 4) = true := rfl
          simp only [e1, e2, e3, e4, beq_self_eq_true, Bool.true_and, endOf]
        simp only [wetR] at h4
        have e4 : ((4 : Int) == 2) = false := rfl
        have e5 : ((4 : Int) == 3) = false := rfl
        have e6 : ((4 : Int) == 4) = true := rfl
        simp only [brk, e4, e5, e6, Bool.and_eq_true, inB_iff, decide_eq_true_eq, Int.toNat_natCast, hw]
        omega
      · obtain rfl : i = 0 := by omega
        have h4 : heavyX e t l ld (n + 1 + m) (parts n it s lo hi ta wt f) < 0 := h4
        have hsum : sumR (wc nc c 5 ((0 : Nat) : Int) (parts n it s lo hi ta wt f)) (n + 1 + m) 0 = sumR (pH (parts n it s lo hi ta wt f)) (n + 1 + m) 0 := sumR_congr fun j _ _ => rfl
        have e4 : ((5 : Int) == 2) = false := rfl
        have e5 : ((5 : Int) == 3) = false := rfl
        have e6 : ((5 : Int) == 4) = false := rfl
        have e7 : ((5 : Int) == 5) = true := rfl
        simp only [brk, e4, e5, e6, e7]
        rw [wgt_eq hv, hsum]
        simp only [heavyX] at h4
        cases ld <;> simp only [Bool.and_eq_true, decide_eq_true_eq] at h4 ⊢ <;> exact ⟨rfl, by omega⟩
      · have hside := side_eq (e := e) (mo := mo) (nc := nc) (c := c) (k := n + 1 + m) (p := parts n it s lo hi ta wt f) (v := wc nc c 6 (i : Int) (parts n it s lo hi ta wt f)) hle i fun j _ => by
          simp only [wc, asH, Int.toNat_natCast]
          rfl
        have e4 : ((6 : Int) == 2) = false := rfl
        have e5 : ((6 : Int) == 3) = false := rfl
        have e6 : ((6 : Int) == 4) = false := rfl
        have e7 : ((6 : Int) == 5) = false := rfl
        have e8 : ((6 : Int) == 6) = true := rfl
        simp only [brk, e4, e5, e6, e7, e8]
        rw [wgt_eq hv, mom_eq (lo := lo) (hi := hi) (wt := wt) hv, Int.toNat_natCast, hside]
        simp only [Bool.and_eq_true, inB_iff, decide_eq_true_eq]
        omega
      · have hld : ld = true := by cases ld with | true => rfl | false => simp [b01] at h3
        subst hld
        obtain rfl : i = 0 := by simp [b01] at h3; omega
        have h4 : lo - r < 0 := h4
        have hw : wc nc c 7 ((0 : Nat) : Int) (parts n it s lo hi ta wt f) n = lo := by
          simp only [wc, parts_tk, pick5, asH]
          rfl
        rw [hw]
        show ((((0 : Nat) : Int) == 0) && (true && decide (lo < r))) = true
        simp
        omega
end
end Go.Ab.S
set_option linter.all false
set_option maxRecDepth 100000
namespace Go.Ab.S
theorem num_val (x : Rows) : num (val x) = x := rfl
theorem shift_val (x : Rows) : (fun i j => PV.int .i64 (x (0 + i) j)) = val x := by funext i j; rw [Nat.zero_add]; rfl
theorem from_pc {a : Rows} {n : Nat} (h : from_ (pcAt a) n 0 = true) (i : Nat) (hi : i < n) : 0 ≤ a i 0 ∧ a i 0 ≤ 100 := by
  have := from_iff.1 h i (Nat.zero_le _) hi
  simpa [pcAt] using this
theorem cnt_no {R : Int} (n : Nat) (h : (R == 1) = false) : cnt R n = n := by simp only [cnt, h]
theorem only_no {R : Int} (x : Int) (h : (R == 1) = false) : only R x = x := by simp only [only, h]
end Go.Ab.S
namespace Go.Ab.B
open Go.Proofs
section
variable {hbs : BsOk Tryz.prog} (hT : TabOk (cs hbs)) (hT3 : TabOk (cs3 hbs)) (hT4 : TabOk (cs4 hbs)) (hT5 : TabOk (cs5 hbs)) (h8 : FCall (cs hbs) f_law02_known [] (vB true) [])
include hT hT3 hT4 hT5 h8
theorem fc_law02_LoadTrue (e mo t l : Int) (nc : Nat) (c : S.Rows) (ns : Nat) (s : S.Rows) (ta tm r : Int) (nf : Nat) (f : S.Rows) (n : Nat) (it : S.Rows) (lo hi : Int) (m : Nat) (wt : S.Rows) (ld : Bool) (na : Nat) (a : S.Rows) (tk : Int) (nb : Nat) (b : S.Rows) (hnc : nc ≤ maxLen) (hns : ns ≤ maxLen) (hnf : nf ≤ maxLen) :
    FCall (cs5 hbs) f_law02_LoadTrue [.ag (plC e mo t l nc (S.val c) ns (S.val s) ta tm r nf (S.val f)), .ag (ptC n (S.val it) lo hi m (S.val wt) ld), .c (.p (.isl 1 na (S.val a))), .c (.p (.int .i64 tk)), .c (.p (.isl 1 nb (S.val b)))] (vB true) [] := by
  have k8 : FCall (cs5 hbs) f_law02_known [] (vB true) [] := FCall.cfg (C := cs hbs) (C' := cs5 hbs) rfl rfl h8
  refine fcall_k hT5 (F := F_law02_LoadTrue) rfl (vc_law02_LoadTrue e mo t l nc c ns s ta tm r nf f n it lo hi m wt ld na a tk nb b _) ?_
  refine brP (fun c1 => brP (fun c2 => brP (fun c3 => brP (fun c4 => brP (fun c5 => ?_) fun _ => ⟨k8, rfl⟩) fun _ => ⟨k8, rfl⟩) fun _ => ⟨k8, rfl⟩) fun _ => ⟨k8, rfl⟩) fun _ => ⟨k8, rfl⟩
  have c1 : nc ≤ 20 := by simp at c1; omega
  have c2 : ns ≤ 20 := by simp at c2; omega
  have c3 : nf ≤ 10 := by simp at c3; omega
  have c4 : n ≤ 20 := by simp at c4; omega
  have c5 : m ≤ 10 := by simp at c5; omega
  refine ⟨FCall.cfg (C := cs hbs) (C' := cs5 hbs) rfl rfl (fc_ref02_Plane hT hnc hns hnf), brP (fun h1 => ⟨FCall.cfg (C := cs3 hbs) (C' := cs5 hbs) rfl rfl (fc_ref02_Point hT hT3 e mo t l nc c ns s ta tm r nf f n it lo hi m wt ld (by omega) (by omega) (by omega)), brP (fun h2 => ?_) fun _ => ⟨k8, rfl⟩⟩) fun _ => ⟨k8, rfl⟩⟩
  have hp := S.plane_ok h1
  have hq := S.point_ok h2
  have b4 := hq.hn
  have b5 := hq.hm
  have b6 := hq.htk
  have b7 := hp.hnf
  refine brP (fun _ => ⟨k8, rfl⟩) fun g1 => brP (fun _ => ⟨k8, rfl⟩) fun g2 => brP (fun _ => ⟨k8, rfl⟩) fun g3 => brP (fun _ => ⟨k8, rfl⟩) fun g4 => ?_
  have g1 : na = n := by simp at g1; omega
  have g2 : nb = m := by simp at g2; omega
  have g3 : 0 ≤ tk := by simp at g3; omega
  have g4 : tk ≤ 100 := by simp at g4; omega
  refine ⟨fc_law02_part hT5 lo hi tk (by omega) (by omega) (by omega) g3 g4, go_law02_truth1 hT5 928 n it lo hi m wt ld na a tk nb b _ g1 (by omega) (fun i h => (hq.hit i h).2) 0 _ (Nat.zero_le _) ⟨[some 0, some 1, some 2, none], HasR.mk _ rfl rfl ?_ ?_⟩, brP (fun p1 => ⟨go_law02_truth2 hT5 927 n it lo hi m wt ld na a tk nb b _ g2 (by omega) (fun i h => hq.hwt i h) 0 _ (Nat.zero_le _) ⟨[some 0, some 1, some 2, some 3, none], HasR.mk _ rfl rfl ?_ ?_⟩, brP (fun p2 => ?_) fun _ => ⟨k8, rfl⟩⟩) fun _ => ⟨k8, rfl⟩⟩
  · simp [WH, WB, WL, WC, WP', upsB, memB, ptC]
  · simp [LiveR, WA, WC, WP', Tr.get]
  · simp [WH, WB, WL, WC, WP', upsB, memB, ptC]
  · simp [LiveR, WA, WC, WP', Tr.get]
  subst g1 g2
  have hwV : ∀ x, wV x = S.val x := S.shift_val
  simp only [hwV, S.num_val]
  have hT0 := S.part_in (lo := lo) (hi := hi) (by omega) g3 g4
  have hpa : ∀ i, i < na → it i 1 ≤ S.pcI it a i 0 ∧ S.pcI it a i 0 ≤ it i 2 := fun i h => by
    have h3 := S.from_pc p1 i h
    have h4 := (hq.hit i h).2
    exact S.part_in (by omega) h3.1 h3.2
  have hpb : ∀ i, i < nb → wt i 0 ≤ S.pcW wt b i 0 ∧ S.pcW wt b i 0 ≤ wt i 1 := fun i h => by
    have h3 := S.from_pc p2 i h
    have h4 := hq.hwt i h
    exact S.part_in (by omega) h3.1 h3.2
  generalize S.pcI it a = cc at *
  generalize S.pcW wt b = ww at *
  generalize S.part lo hi tk = T at *
  obtain ⟨v, hv⟩ : ∃ v : Nat → Int, S.Parts na cc T nb ww v := ⟨fun i => if i < na then cc i 0 else if i = na then T else ww (i - na - 1) 0, fun i h => by simp [h], by simp, fun j h => by
    have e1 : ¬ na + 1 + j < na := by omega
    have e2 : ¬ na + 1 + j = na := by omega
    have e3 : na + 1 + j - na - 1 = j := by omega
    simp only [e1, e2, e3, if_false]⟩
  have hb : ∀ j, j < na + 1 + nb → S.parts na it s lo hi ta wt f j 0 ≤ v j ∧ v j ≤ S.parts na it s lo hi ta wt f j 1 := fun j hj => by
    rcases S.parts_cases hj with h | h | ⟨q, hq1, h⟩
    · rw [hv.it j h, S.parts_it h, S.parts_it h]; exact hpa j h
    · subst h; rw [hv.tk, S.parts_tk, S.parts_tk]; exact hT0
    · subst h; rw [hv.wt q hq1, S.parts_wt, S.parts_wt]; exact hpb q hq1
  have hcs : CsOk ns nf na it na cc T nb ww := ⟨rfl, by omega, b5, fun i h => (hq.hit i h).1, fun i h => by have := hpa i h; have := hq.hit i h; omega, fun i h => by have := hpb i h; have := hq.hwt i h; omega, by omega⟩
  have hsum := S.sums_in hb
  refine ⟨FCall.cfg (C := cs4 hbs) (C' := cs5 hbs) rfl rfl (fc_load_Bounds hT hT3 hT4 e mo t l nc c ns s ta tm r nf f na it lo hi nb wt ld h1 h2), FCall.cfg (C := cs4 hbs) (C' := cs5 hbs) rfl rfl (fc_load_Sure hT hT3 hT4 e mo t l nc c ns s ta tm r nf f na it lo hi nb wt ld h1 h2),
    FCall.cfg (C := cs3 hbs) (C' := cs5 hbs) rfl rfl (fc_ref02_Weight hT hT3 e mo t l nc c ns s ta tm r nf f na it lo hi nb wt ld na cc T nb ww (by omega) (by omega) (by omega) (by omega) (fun i h => by have := hcs.hcc i h; have := hcs.hit i (by omega); omega) (fun j h => (hp.hs j h).1) (fun i h => by have := hcs.hww i h; omega) (fun j h => (hp.hf j h).1) (by have := hp.he; omega) hp.hmo (by omega) hp.hta), ?_⟩
  rw [S.wgt_eq hv, S.mom_eq (lo := lo) (hi := hi) (wt := wt) hv]
  refine brP (fun d => by simp at d; omega) fun _ => brP (fun d => by simp at d; omega) fun _ => brP (fun d => by simp at d; omega) fun _ => brP (fun d => by simp at d; omega) fun _ => ?_
  refine brP (fun s1 => ?_) fun s1 => ?_
  · have hh := S.sure_holds (S.sure_ok s1) b5 hv hb
    refine ⟨fc_law02_holds hT hT3 hT5 e mo t l nc c ns s ta tm r nf f na it lo hi nb wt ld na cc T nb ww h1 hcs, brP (fun _ => ⟨k8, rfl⟩) fun d => by rw [hh] at d; cases d⟩
  · simp only [S.cnt_no _ s1, S.only_no _ s1]
    obtain ⟨w1, w2⟩ := S.broken_spec hp hq s1 rfl rfl
    generalize S.broR (S.ruP e mo t l nc c ns s ta tm r nf f na it lo hi nb wt ld) = R at *
    generalize S.broI (S.ruP e mo t l nc c ns s ta tm r nf f na it lo hi nb wt ld) = I at *
    have hle := fun j h => (S.parts_in hp hq j h).2.2.2
    have hin := fun j h => S.wc_in (nc := nc) (c := c) (ru := R) (ix := I) (hle j h)
    have hw := S.wc_parts (n := na) (m := nb) (nc := nc) (c := c) R I (S.parts na it s lo hi ta wt f)
    have hcw : CsOk ns nf na it na (S.wcR nc c R I (S.parts na it s lo hi ta wt f) 0) (S.wc nc c R I (S.parts na it s lo hi ta wt f) na) nb (S.wcR nc c R I (S.parts na it s lo hi ta wt f) (na + 1)) := by
      refine ⟨rfl, by omega, b5, fun i h => (hq.hit i h).1, fun i h => ?_, fun i h => ?_, ?_⟩
      · have q1 := hin i (by omega)
        rw [S.parts_it h, S.parts_it h, hw.it i h] at q1
        have q1 : it i 1 ≤ _ ∧ _ ≤ it i 2 := q1
        have q2 := hq.hit i h
        omega
      · have q1 := hin (na + 1 + i) (by omega)
        rw [S.parts_wt, S.parts_wt, hw.wt i h] at q1
        have q1 : wt i 0 ≤ _ ∧ _ ≤ wt i 1 := q1
        have q2 := hq.hwt i h
        omega
      · have q1 := hin na (by omega)
        rw [S.parts_tk, S.parts_tk] at q1
        have q1 : lo ≤ _ ∧ _ ≤ hi := q1
        omega
    refine ⟨fc_law02_within hT5 na it lo hi nb wt ld na _ _ nb _ (by omega) (by omega), brP (fun _ => ⟨FCall.cfg (C := cs3 hbs) (C' := cs5 hbs) rfl rfl (fc_ref02_Breaks hT hT3 e mo t l nc c ns s ta tm r nf f na it lo hi nb wt ld na _ _ nb _ R I (by omega) (by omega) b5 (by have := hp.hnf; omega) (by have := hp.hns; omega) hnc (by have := hp.hnc; omega) (fun i h => by have := hcw.hcc i h; have := hcw.hit i (by omega); omega) (fun j h => (hp.hs j h).1) (fun i h => hcw.hww i h) (fun j h => (hp.hf j h).1) (by have := hp.he; omega) hp.hmo (by have := hcw.htk; omega) hp.hta hp.hcor), brP (fun _ => ⟨fc_law02_holds hT hT3 hT5 e mo t l nc c ns s ta tm r nf f na it lo hi nb wt ld na _ _ nb _ h1 hcw, brP (fun d => by rw [S.brk_not b5 w2] at d; cases d) fun _ => ⟨k8, rfl⟩⟩) fun d => by rw [w2] at d; cases d⟩) fun d => by rw [w1] at d; cases d⟩
end
end Go.Ab.B
