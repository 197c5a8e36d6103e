/- A part of the proof. -/
import Derived.Test.YtmchhfpjdgfacaaDoorTb
import Derived.Test.YtmchhfpjdgfacaaDoorVd
set_option linter.all false
set_option maxRecDepth 100000
namespace Go.Ab.B
open Go.Proofs
def sp_load_holds : List AV → Option (AV × Heap)
  | [.ag [.p (.int .i64 lo), .p (.int .i64 hi)], .c (.p (.int .i64 x))] => some (vB (S.inB lo x hi), [])
  | _ => none
def sp_ref02_in : List AV → Option (AV × Heap)
  | [.c (.p (.int .i64 x)), .c (.p (.int .i64 lo)), .c (.p (.int .i64 hi))] => some (vB (S.inB lo x hi), [])
  | _ => none
def sp_ref02_station : List AV → Option (AV × Heap)
  | [.ag [.p (.int .i64 a), .p (.int .i64 m)]] => some (vB (S.stOk a m), [])
  | _ => none
def sp_load_stationsFine : List AV → Option (AV × Heap)
  | [.c (.p (.isl 2 n f))] => some (vB (S.stn n (S.num f)), [])
  | _ => none
def sp_load_cornersFine : List AV → Option (AV × Heap)
  | [.c (.p (.isl 2 n f))] => some (vB (S.corners n (S.num f)), [])
  | _ => none
def sp_load_convex : List AV → Option (AV × Heap)
  | [.c (.p (.isl 2 n f))] => some (vB (S.cvx n (S.num f)), [])
  | _ => none
def sp_load_inside : List AV → Option (AV × Heap)
  | [.c (.p (.isl 2 n f)), .c (.p (.int .i64 w)), .c (.p (.int .i64 m))] => some (vB (S.ins n (S.num f) w m), [])
  | _ => none
def spPlane : List AV → Option (AV × Heap)
  | [.ag [.p (.int .i64 e), .p (.int .i64 m), .p (.int .i64 t), .p (.int .i64 l), .p (.isl 2 nc c), .p (.isl 2 ns s), .p (.int .i64 ta), .p (.int .i64 tm), .p (.int .i64 r), .p (.isl 2 nf f)]] =>
    some (vB (S.plane e m t l nc (S.num c) ns (S.num s) ta tm r nf (S.num f)), [])
  | _ => none
def sp_ref02_Inside : List AV → Option (AV × Heap)
  | [.ag [_, _, _, _, .p (.isl 2 n f), _, _, _, _, _], .c (.p (.int .i64 w)), .c (.p (.int .i64 m))] => some (vB (S.ins n (S.num f) w m), [])
  | _ => none
def sp_ref02_Side : List AV → Option (AV × Heap)
  | [.ag [_, _, _, _, .p (.isl 2 n f), _, _, _, _, _], .c (.p (.int .i64 e)), .c (.p (.int .i64 w)), .c (.p (.int .i64 m))] => some (vI .i64 (S.sd n (S.num f) e.toNat w m), [])
  | _ => none
def sp_law02_known : List AV → Option (AV × Heap)
  | [] => some (vB true, [])
  | _ => none
def Sp (f : Nat) (l : List AV) : Option (AV × Heap) :=
  bif Nat.beq f f_load_holds then sp_load_holds l else bif Nat.beq f f_ref02_Inside then sp_ref02_Inside l else bif Nat.beq f f_law02_known then sp_law02_known l else bif Nat.beq f f_ref02_Plane then spPlane l else bif Nat.beq f f_load_planeFine then spPlane l else bif Nat.beq f f_load_inside then sp_load_inside l else bif Nat.beq f f_ref02_in then sp_ref02_in l else bif Nat.beq f f_ref02_station then sp_ref02_station l else bif Nat.beq f f_ref02_Side then sp_ref02_Side l else bif Nat.beq f f_load_cornersFine then sp_load_cornersFine l else bif Nat.beq f f_load_stationsFine then sp_load_stationsFine l else bif Nat.beq f f_load_convex then sp_load_convex l else none
def lp_load_stationsFine (s : St) : Option LTree :=
  match Tr.get (.o (.i .h)) s.t, Tr.get (.o (.o (.o .h))) s.t with
  | .c (.p (.isl 2 n f)), .c (.p (.int .i64 i)) => some (.br (S.from_ (S.stnAt (S.num f)) n i.toNat) (.e (.exit 0) ⟨.lf, []⟩) (.e .ret ⟨setAll [(.i .h, vB false)], []⟩))
  | _, _ => none
def lp_load_cornersFine (s : St) : Option LTree :=
  match Tr.get (.i (.i (.o .h))) s.t, Tr.get (.i (.o (.i .h))) s.t with
  | .c (.p (.isl 2 n f)), .c (.p (.int .i64 i)) => some (.br (S.from_ (S.corAt (S.num f)) n i.toNat) (.e (.exit 0) ⟨setAll [(.h, .c (.p (.isl 2 n f)))], []⟩) (.e .ret ⟨setAll [(.i .h, vB false)], []⟩))
  | _, _ => none
def lp_load_edges_1 (s : St) : Option LTree :=
  match Tr.get (.o (.o (.o .h))) s.t with
  | .c (.p (.int .i64 i)) => match s.h with
    | [b0, b1, b2, b3, b4, some (.lp nt t ps a b .ready)] => match b0, b1, b3 with
      | some (.box _ [.p (.int .i64 w)]), some (.box _ [.p (.int .i64 m)]), some (.box _ [.p (.isl 2 n f)]) =>
        some (.br (S.from_ (S.insAt n (S.num f) w m) n i.toNat) (.e (.exit 0) ⟨.lf, [b0, b1, b2, b3, b4, some (.lp nt t ps a b .ready)]⟩) (.e .ret ⟨.lf, [b0, b1, b2, b3, b4, some (.lp nt t ps a b (.done .ret))]⟩))
      | _, _, _ => none
    | [b0, b1, b2, b3, some (.lp nt t ps a b .ready)] => match b2 with
      | some (.box _ [.p (.isl 2 n f)]) =>
        some (.br (S.from_ (S.cvxRow n (S.num f)) n i.toNat) (.e (.exit 0) ⟨.lf, [b0, b1, b2, b3, some (.lp nt t ps a b .ready)]⟩) (.e .ret ⟨.lf, [b0, b1, b2, b3, some (.lp nt t ps a b (.done .ret))]⟩))
      | _ => none
    | _ => none
  | _ => none
def lp_load_convex (s : St) : Option LTree :=
  match Tr.get (.i (.o (.i .h))) s.t, Tr.get (.o (.o .h)) s.t, Tr.get (.i (.i (.i .h))) s.t with
  | .c (.p (.isl 2 n f)), .c (.p (.int .i64 e)), .c (.p (.int .i64 k)) => some (.br (S.from_ (S.cvxAt n (S.num f) e.toNat) n k.toNat) (.e (.exit 2) ⟨.lf, s.h⟩) (.e .ret ⟨.lf, s.h⟩))
  | _, _, _ => none
def lp_ref02_Plane (j : Nat) (s : St) : Option LTree :=
  match s.h with
  | [some (.box _ [_, _, _, _, .p (.isl 2 nc c), .p (.isl 2 ns st), _, _, _, .p (.isl 2 nf f)])] => match j with
    | 1 => match Tr.get (.o (.o .h)) s.t with
      | .c (.p (.int .i64 i)) => some (.br (S.from_ (S.stnAt (S.num st)) ns i.toNat) (.e (.exit 0) ⟨setAll [(.o .h, .c (.pt 0 0))], s.h⟩) (.e .ret ⟨setAll [(.i .h, vB false)], s.h⟩))
      | _ => none
    | 2 => match Tr.get (.i (.o .h)) s.t with
      | .c (.p (.int .i64 i)) => some (.br (S.from_ (S.stnAt (S.num f)) nf i.toNat) (.e (.exit 2) ⟨setAll [(.o .h, .c (.pt 0 0))], s.h⟩) (.e .ret ⟨setAll [(.i .h, vB false)], s.h⟩))
      | _ => none
    | 3 => match Tr.get (.o (.i .h)) s.t with
      | .c (.p (.int .i64 i)) => some (.br (S.from_ (S.corAt (S.num c)) nc i.toNat) (.e (.exit 4) ⟨setAll [(.o .h, .c (.pt 0 0))], s.h⟩) (.e .ret ⟨setAll [(.i .h, vB false)], s.h⟩))
      | _ => none
    | 4 => match Tr.get (.i (.i .h)) s.t with
      | .c (.p (.int .i64 i)) => some (.br (S.from_ (S.cvxRow nc (S.num c)) nc i.toNat) (.e (.exit 6) ⟨setAll [(.o .h, .c (.pt 0 0))], s.h⟩) (.e .ret ⟨setAll [(.i .h, vB false)], s.h⟩))
      | _ => none
    | _ => match Tr.get (.i (.i .h)) s.t, Tr.get (.o (.o (.o .h))) s.t with
      | .c (.p (.int .i64 e)), .c (.p (.int .i64 i)) => some (.br (S.from_ (S.cvxAt nc (S.num c) e.toNat) nc i.toNat) (.e (.exit 8) ⟨setAll [(.o .h, .c (.pt 0 0)), (.i (.i .h), .c (.p (.int .i64 e)))], s.h⟩) (.e .ret ⟨setAll [(.i .h, vB false)], s.h⟩))
      | _, _ => none
  | _ => none
def lp_ref02_Inside (s : St) : Option LTree :=
  match s.h with
  | [some (.box _ [_, _, _, _, .p (.isl 2 nc c), _, _, _, _, _])] => match Tr.get (.o .h) s.t, Tr.get (.i .h) s.t, Tr.get (.o (.o (.o .h))) s.t with
    | .c (.p (.int .i64 w)), .c (.p (.int .i64 m)), .c (.p (.int .i64 i)) => some (.br (S.from_ (S.insAt nc (S.num c) w m) nc i.toNat) (.e (.exit 0) ⟨.lf, s.h⟩) (.e .ret ⟨setAll [(.i (.i .h), vB false)], s.h⟩))
    | _, _, _ => none
  | _ => none
def Lp (n0 : Nat) (a : MC) (s : St) : Option LTree :=
  bif Nat.beq (keyM a 0) key_ref02_Inside_l1 then lp_ref02_Inside s else bif Nat.beq (keyM a 0) key_ref02_Plane_l1 then lp_ref02_Plane 1 s else bif Nat.beq (keyM a 0) key_ref02_Plane_l2 then lp_ref02_Plane 2 s else bif Nat.beq (keyM a 0) key_ref02_Plane_l3 then lp_ref02_Plane 3 s else bif Nat.beq (keyM a 0) key_ref02_Plane_l4 then lp_ref02_Plane 4 s else bif Nat.beq (keyM a 0) key_ref02_Plane_l5 then lp_ref02_Plane 5 s else
  bif Nat.beq (keyM a 0) key_load_stationsFine_l1 then lp_load_stationsFine s else bif Nat.beq (keyM a 0) key_load_cornersFine_l1 then lp_load_cornersFine s else bif Nat.beq (keyM a 0) key_load_edges_1_l1 then lp_load_edges_1 s else bif Nat.beq (keyM a 0) key_load_convex_l1 then lp_load_convex s else none
def plC (e m t l : Int) (nc : Nat) (c : Nat → Nat → PV) (ns : Nat) (s : Nat → Nat → PV) (ta tm r : Int) (nf : Nat) (f : Nat → Nat → PV) : List CV :=
  [.p (.int .i64 e), .p (.int .i64 m), .p (.int .i64 t), .p (.int .i64 l), .p (.isl 2 nc c), .p (.isl 2 ns s), .p (.int .i64 ta), .p (.int .i64 tm), .p (.int .i64 r), .p (.isl 2 nf f)]
def t71 (n : Nat) (f : Nat → Nat → PV) : Tr := (.nd (.nd .lf (.c (.pt 0 0)) (.nd (.nd .lf (.c (.ref 3)) .lf) .any .lf)) (.c (.p (.isl 2 n f))) (.nd (.nd (.nd .lf (.c (.p (.isl 2 n f))) .lf) .any .lf) (.c (.pt 1 0)) .lf))
def H71 (n : Nat) (f : Nat → Nat → PV) (st : LS) : Heap := [(some (.box t_sl_api_LoadCorner [(.p (.isl 2 n f))])), (some (.box t_bool [(.p (.bool false))])), (some (.box t_sl_api_LoadCorner [(.p (.isl 2 n f))])), (some (.clo f_load_edges_1 [] [(.c (.pt 2 0))])), (some (.lp 43 (t71 n f) [(.i (.i (.o .h))), (.o (.o (.i .h)))] m_load_convex_a1 m_load_convex_b1 st))]
def cs {P : Program} (hbs : BsOk P) : Cfg := { c0 hbs with ur := false, B := fun _ => none, Sp := Sp, Lp := Lp }
abbrev vJ (n : Int) : AV := .c (.p (.int .i64 n))
abbrev cJ (n : Int) : CV := .p (.int .i64 n)
abbrev vN (n : Nat) : AV := .c (.p (.int .i64 (n : Int)))
abbrev vS (e n : Nat) (c : S.Rows) : AV := .c (.p (.isl e n (S.val c)))
abbrev cS (e n : Nat) (c : S.Rows) : CV := .p (.isl e n (S.val c))
abbrev vT (k o : Nat) : AV := .c (.pt k o)
abbrev L1 (v : AV) : Tr := .nd .lf v .lf
abbrev L2 (b : Tr) : Tr := .nd .lf .any b
abbrev L3 (a : Tr) : Tr := .nd a .any .lf
abbrev L4 (a b : Tr) : Tr := .nd a .any b
abbrev L5 (v : AV) (b : Tr) : Tr := .nd .lf v b
abbrev L6 (a : Tr) (v : AV) : Tr := .nd a v .lf
abbrev kP (e m t l : Int) (nc : Nat) (c : S.Rows) (ns : Nat) (s : S.Rows) (ta tm r : Int) (nf : Nat) (f : S.Rows) : List CV := [cJ e, cJ m, cJ t, cJ l, cS 2 nc c, cS 2 ns s, cJ ta, cJ tm, cJ r, cS 2 nf f]
abbrev kX (n : Nat) (it : S.Rows) (lo hi : Int) (m : Nat) (wt : S.Rows) (ld : Bool) : List CV := [cS 3 n it, cJ lo, cJ hi, cS 2 m wt, .p (.bool ld)]
abbrev kC (n : Nat) (c : S.Rows) (tk : Int) (m : Nat) (w : S.Rows) : List CV := [cS 1 n c, cJ tk, cS 1 m w]
abbrev bP (e m t l : Int) (nc : Nat) (c : S.Rows) (ns : Nat) (s : S.Rows) (ta tm r : Int) (nf : Nat) (f : S.Rows) : Option Blk := some (.box t_api_Plane (kP e m t l nc c ns s ta tm r nf f))
abbrev bX (n : Nat) (it : S.Rows) (lo hi : Int) (m : Nat) (wt : S.Rows) (ld : Bool) : Option Blk := some (.box t_api_LoadPoint (kX n it lo hi m wt ld))
abbrev bC (n : Nat) (c : S.Rows) (tk : Int) (m : Nat) (w : S.Rows) : Option Blk := some (.box t_api_LoadCase (kC n c tk m w))
section
variable {hbs : BsOk Tryd.prog}
theorem vc_load_holds (lo hi x : Int) (Q : AV → Heap → Prop) :
 ((fun (A0 : Heap) => ((BrP (decide (lo ≤ x))
 (BrP (decide (x ≤ hi))
 (Q (vB true) A0)
 (Q (vB false) A0))
 (Q (vB false) A0)))) [(some (.box t_api_Span [(cJ lo), (cJ hi)]))]) = (ex (cs hbs) 1000 0 m_load_holds ⟨ofL 0 [.ag [.p (.int .i64 lo), .p (.int .i64 hi)], .c (cJ x)] .lf, []⟩ (endK F_load_holds.rs (fun r H => .pr (Q r H)) fun _ _ => .no)).hold2 := by kernel_rfl
theorem vc_ref02_in (lo hi x : Int) (Q : AV → Heap → Prop) :
 ((BrP (decide (x ≥ lo))
 (BrP (decide (x ≤ hi))
 (Q (vB true) [])
 (Q (vB false) []))
 (Q (vB false) []))) = (ex (cs hbs) 1000 0 m_ref02_in ⟨ofL 0 [.c (cJ x), .c (cJ lo), .c (cJ hi)] .lf, []⟩ (endK F_ref02_in.rs (fun r H => .pr (Q r H)) fun _ _ => .no)).hold2 := by kernel_rfl
theorem vc_ref02_station (a m : Int) (Q : AV → Heap → Prop) :
 ((fun (A0 : Heap) => (((FCall (cs hbs) f_ref02_in [(vJ a), (vJ (-(1000 : Int))), (vJ 1000)] (.c (.p (.bool (S.inB (-(1000 : Int)) a (1000 : Int))))) []) ∧
 (BrP (S.inB (-(1000 : Int)) a (1000 : Int))
 ((FCall (cs hbs) f_ref02_in [(vJ m), (vJ 0), (vJ 20000)] (.c (.p (.bool (S.inB (0 : Int) m (20000 : Int))))) []) ∧
 (BrP (S.inB (0 : Int) m (20000 : Int))
 (Q (vB true) A0)
 (Q (vB false) A0)))
 (Q (vB false) A0))))) [(some (.box t_api_LoadStation [(cJ a), (cJ m)]))]) = (ex (cs hbs) 1000 0 m_ref02_station ⟨ofL 0 [.ag [.p (.int .i64 a), .p (.int .i64 m)]] .lf, []⟩ (endK F_ref02_station.rs (fun r H => .pr (Q r H)) fun _ _ => .no)).hold2 := by kernel_rfl
theorem vc_load_stationsFine (n : Nat) (s : S.Rows) (Q : AV → Heap → Prop) :
 (((LoopGo (ex (cs hbs) 995) 0 m_load_stationsFine_l1 ⟨(.nd (L4 (L3 (L1 (vJ 0))) (L1 (vS 2 n s))) (vS 2 n s) (L5 (vB false) (L1 (vN n)))), []⟩ (.br (S.from_ (S.stnAt s) n 0) (.e (.exit 0) ⟨.lf, []⟩) (.e .ret ⟨(L2 (L1 (vB false))), []⟩))) ∧
 (BrP (S.from_ (S.stnAt s) n 0)
 (Q (vB true) [])
 (Q (vB false) [])))) = (ex (cs hbs) 1000 0 m_load_stationsFine ⟨ofL 0 [.c (cS 2 n s)] .lf, []⟩ (endK F_load_stationsFine.rs (fun r H => .pr (Q r H)) fun _ _ => .no)).hold2 := by kernel_rfl
theorem vs_load_stationsFine (fu n i : Nat) (s : S.Rows) (Q : AX → St → Prop) :
 ((fun (A1 : List CV) => ((fun (A2 : AV) => ((fun (A0 : Tr) => ((fun (A3 : Heap) => ((fun (A4 : AV) => ((fun (A5 : Tr) => ((BrP (decide ((i : Int) < (n : Int)))
 (CdP (.rng (i : Int) n)
 ((FCall (cs hbs) f_load_holds [A2, (vJ (s i 0))] (.c (.p (.bool (S.inB (-(1000 : Int)) (s i 0) (1000 : Int))))) []) ∧
 (BrP (S.inB (-(1000 : Int)) (s i 0) (1000 : Int))
 ((FCall (cs hbs) f_load_holds [(.ag [(cJ 0), (cJ 20000)]), (vJ (s i 1))] (.c (.p (.bool (S.inB (0 : Int) (s i 1) (20000 : Int))))) []) ∧
 (BrP (S.inB (0 : Int) (s i 1) (20000 : Int))
 (CdP (.i64 ((i : Int) + (1 : Int)))
 (Q .normal ⟨(L4 (L4 (L4 (.nd (L1 (vB false)) (vJ ((i : Int) + (1 : Int))) (L1 (vJ ((i : Int) + (1 : Int))))) A0) (.nd (L6 (L1 (vT 0 1)) A4) (vS 2 n s) (L6 (L1 (vB false)) (vJ (s i 0))))) (L4 (.nd A5 (vT 0 0) (L6 (L1 (vB true)) (vT 0 0))) (.nd (L6 (L1 (vJ (s i 1))) (.ag A1)) (vN n) A5))), A3⟩))
 (Q .ret ⟨(L4 (L4 (L4 (L6 (L1 (vB false)) (vN i)) A0) (.nd (L6 (L1 (vT 0 1)) A4) (vS 2 n s) (L6 (L1 (vB true)) (vJ (s i 0))))) (.nd (.nd A5 (vT 0 0) (L6 (L1 (vB false)) (vT 0 0))) (vB false) (.nd (L6 (L1 (vJ (s i 1))) (.ag A1)) (vN n) (L6 (L1 (vB true)) (vB true))))), A3⟩)))
 (Q .ret ⟨(L4 (L4 (L4 (L6 (L1 (vB true)) (vN i)) (L6 (L1 (.tp [])) A2)) (.nd (L6 (L1 (.tp [])) A4) (vS 2 n s) (L6 (L1 (.tp [])) (vJ (s i 0))))) (.nd (.nd (L6 (L1 (vB true)) (vB true)) (vT 0 0) (L6 (L1 (.tp [])) (vT 0 0))) (vB false) (.nd (L6 (L1 (.tp [])) (.ag A1)) (vN n) (L6 (L1 (vB true)) (vB false))))), A3⟩))))
 (Q (.exit 0) ⟨(L4 (L4 (L3 (L1 (vN i))) (L1 (vS 2 n s))) (L4 (L3 (L1 (vB false))) (L1 (vN n)))), []⟩)))) (L6 (L1 (vB false)) (vB true)))) (.c (.p (.ipt 2 (S.val s i)))))) [(some (.box t_api_LoadStation A1))])) (L6 (L1 (.c (.p (.isl 1 1 (fun x5 => (fun x6 => (List.getD [(.int .i64 (s i 1))] ((x5 * 1) + x6) .npt))))))) A2))) (.ag [(cJ (-(1000 : Int))), (cJ 1000)]))) [(cJ (s i 0)), (cJ (s i 1))]) = (ex (cs hbs) (fu + 60) 0 m_load_stationsFine_l1 ⟨setAll [(.o (.i .h), .c (cS 2 n s)), (.i (.i .h), .c (cJ n)), (.o (.o (.o .h)), .c (cJ i))], []⟩ (fun e s => .pr (Q e s))).hold2 := by kernel_rfl
theorem vc_load_cornersFine (n : Nat) (c : S.Rows) (Q : AV → Heap → Prop) :
 (((FCall (cs hbs) f_load_holds [(.ag [(cJ 3), (cJ 12)]), (vN n)] (.c (.p (.bool (S.inB (3 : Int) (n : Int) (12 : Int))))) []) ∧
 (BrP (S.inB (3 : Int) (n : Int) (12 : Int))
 ((LoopGo (ex (cs hbs) 994) 0 m_load_cornersFine_l1 ⟨(.nd (L4 (L4 (L1 (vN n)) (L1 (vN n))) (L6 (L1 (vB false)) (.ag [(cJ 3), (cJ 12)]))) (vS 2 n c) (.nd (L4 (L1 (vB true)) (L1 (vJ 0))) (vB false) (L6 (L1 (vS 2 n c)) (vS 2 n c)))), []⟩ (.br (S.from_ (S.corAt c) n 0) (.e (.exit 0) ⟨(L1 (vS 2 n c)), []⟩) (.e .ret ⟨(L2 (L1 (vB false))), []⟩))) ∧
 (BrP (S.from_ (S.corAt c) n 0)
 ((FCall (cs hbs) f_load_convex [(vS 2 n c)] (.c (.p (.bool (S.cvx n c)))) []) ∧
 (BrP (S.cvx n c)
 (Q (vB true) [])
 (Q (vB false) [])))
 (Q (vB false) [])))
 (Q (vB false) [])))) = (ex (cs hbs) 1000 0 m_load_cornersFine ⟨ofL 0 [.c (cS 2 n c)] .lf, []⟩ (endK F_load_cornersFine.rs (fun r H => .pr (Q r H)) fun _ _ => .no)).hold2 := by kernel_rfl
theorem vs_load_cornersFine (fu n i : Nat) (c : S.Rows) (Q : AX → St → Prop) :
 ((fun (A0 : Tr) => ((fun (A1 : List CV) => ((fun (A2 : Heap) => ((fun (A3 : AV) => ((BrP (decide ((i : Int) < (n : Int)))
 (CdP (.rng (i : Int) n)
 ((FCall (cs hbs) f_load_holds [(.ag [(cJ 0), (cJ 20000)]), (vJ (c i 0))] (.c (.p (.bool (S.inB (0 : Int) (c i 0) (20000 : Int))))) []) ∧
 (BrP (S.inB (0 : Int) (c i 0) (20000 : Int))
 ((FCall (cs hbs) f_load_holds [(.ag [(cJ (-(20000000 : Int))), (cJ 20000000)]), (vJ (c i 1))] (.c (.p (.bool (S.inB (-(20000000 : Int)) (c i 1) (20000000 : Int))))) []) ∧
 (BrP (S.inB (-(20000000 : Int)) (c i 1) (20000000 : Int))
 (CdP (.i64 ((i : Int) + (1 : Int)))
 (Q .normal ⟨(.nd (L4 (L4 (L4 (L1 (.ag A1)) (L1 (vJ (c i 1)))) (.nd (L1 (vB true)) (vN n) (L1 (vJ ((i : Int) + (1 : Int)))))) (L4 (L4 (L1 (vJ (c i 0))) (L1 (vB false))) (L6 (L1 (vB false)) (vB true)))) (vS 2 n c) (L4 (.nd (L4 (L1 (vT 0 0)) (L1 (vB true))) (vT 0 0) (L6 (L1 (vB false)) (vJ ((i : Int) + (1 : Int))))) (L4 (.nd A0 (vS 2 n c) (L1 (vB false))) (L6 (L1 (vT 0 1)) A3)))), A2⟩))
 (Q .ret ⟨(.nd (L4 (L4 (L4 (L1 (.ag A1)) (L1 (vJ (c i 1)))) (L6 (L1 (vB true)) (vN n))) (L4 (L4 (L1 (vJ (c i 0))) (L1 (vB true))) (L6 (L1 (vB false)) (vB true)))) (vS 2 n c) (.nd (.nd (L4 (L1 (vT 0 0)) (L1 (vB false))) (vT 0 0) (L6 (L1 (vB false)) (vN i))) (vB false) (L4 (.nd A0 (vS 2 n c) (L1 (vB true))) (L6 (L1 (vT 0 1)) A3)))), A2⟩)))
 (Q .ret ⟨(.nd (L4 (L4 (L4 (L1 (.ag A1)) (L1 (.tp []))) (L6 (L1 (vB false)) (vN n))) (L4 (L4 (L1 (vJ (c i 0))) (L1 (.tp []))) (L6 (L1 (vB true)) (vB true)))) (vS 2 n c) (.nd (.nd (L4 (L1 (vT 0 0)) (L1 (.tp []))) (vT 0 0) (L6 (L1 (vB true)) (vN i))) (vB false) (L4 (.nd A0 (vS 2 n c) (L1 (vB true))) (L6 (L1 (.tp [])) A3)))), A2⟩))))
 (Q (.exit 0) ⟨(.nd (L4 (L2 (L1 (vN n))) (L2 (L1 (vB false)))) (vS 2 n c) (L4 (L2 (L1 (vN i))) (L3 (L1 (vS 2 n c))))), []⟩)))) (.c (.p (.ipt 2 (S.val c i)))))) [(some (.box t_api_LoadCorner A1))])) [(cJ (c i 0)), (cJ (c i 1))])) (L1 (.c (.p (.isl 1 1 (fun x5 => (fun x6 => (List.getD [(.int .i64 (c i 0))] ((x5 * 1) + x6) .npt)))))))) = (ex (cs hbs) (fu + 60) 0 m_load_cornersFine_l1 ⟨setAll [(.h, .c (cS 2 n c)), (.i (.i (.o .h)), .c (cS 2 n c)), (.o (.o (.i .h)), .c (cJ n)), (.i (.o (.i .h)), .c (cJ i))], []⟩ (fun e s => .pr (Q e s))).hold2 := by kernel_rfl
end
end Go.Ab.B
namespace Go.Ab
theorem frz_b {H : Heap} {b b' : Bool} (h : b' = b) : frzA H (vB b) = some (vB b') := by subst h; rfl
theorem idx_ok {i n : Nat} (h : i < n) : Cd.holds (.rng ((i : Nat) : Int) n) := ⟨by omega, by omega⟩
end Go.Ab
namespace Go.Ab.B
open Go.Proofs
section
variable {hbs : BsOk Tryd.prog} (hT : TabOk (cs hbs))
include hT
theorem fc_load_holds (lo hi x : Int) : FCall (cs hbs) f_load_holds [.ag [.p (.int .i64 lo), .p (.int .i64 hi)], .c (.p (.int .i64 x))] (vB (S.inB lo x hi)) [] :=
  fcall_k hT (F := F_load_holds) rfl (vc_load_holds lo hi x _) (brP (fun h1 => brP (fun h2 => frz_b (by simp [S.inB, h1, h2])) fun h2 => frz_b (by simp [S.inB, h1, h2])) fun h1 => frz_b (by simp [S.inB, h1]))
theorem fc_ref02_in (lo hi x : Int) : FCall (cs hbs) f_ref02_in [.c (.p (.int .i64 x)), .c (.p (.int .i64 lo)), .c (.p (.int .i64 hi))] (vB (S.inB lo x hi)) [] :=
  fcall_k hT (F := F_ref02_in) rfl (vc_ref02_in lo hi x _) (brP (fun h1 => brP (fun h2 => frz_b (by simp at h1 h2; simp [S.inB, h1, h2])) fun h2 => frz_b (by simp at h1 h2; simp [S.inB, h1]; omega)) fun h1 => frz_b (by simp at h1; simp [S.inB]; omega))
theorem fc_ref02_station (a m : Int) : FCall (cs hbs) f_ref02_station [.ag [.p (.int .i64 a), .p (.int .i64 m)]] (vB (S.stOk a m)) [] :=
  fcall_k hT (F := F_ref02_station) rfl (vc_ref02_station a m _) ⟨fc_ref02_in hT _ _ _, brP (fun h1 => ⟨fc_ref02_in hT _ _ _, brP (fun h2 => frz_b (by simp [S.stOk, h1, h2])) fun h2 => frz_b (by simp [S.stOk, h1, h2])⟩) fun h1 => frz_b (by simp [S.stOk, h1])⟩
theorem go_load_stationsFine (fu n : Nat) (s : S.Rows) (hn : n ≤ maxLen) : ∀ (i : Nat) (st : St), i ≤ n → Has st [(.o (.i .h), .c (.p (.isl 2 n (S.val s)))), (.i (.i .h), .c (.p (.int .i64 n))), (.o (.o (.o .h)), .c (.p (.int .i64 i)))] [] →
    LoopGo (ex (cs hbs) (fu + 60)) 0 m_load_stationsFine_l1 st (.br (S.from_ (S.stnAt s) n i) (.e (.exit 0) ⟨.lf, []⟩) (.e .ret ⟨setAll [(.i .h, vB false)], []⟩)) :=
  loop_k (σ := Nat) (fun i => [(.o (.i .h), .c (.p (.isl 2 n (S.val s)))), (.i (.i .h), .c (.p (.int .i64 n))), (.o (.o (.o .h)), .c (.p (.int .i64 i)))]) (fun _ => []) (fun i => i ≤ n) (fun i => n - i)
    (fun i => .br (S.from_ (S.stnAt s) n i) (.e (.exit 0) ⟨.lf, []⟩) (.e .ret ⟨setAll [(.i .h, vB false)], []⟩)) (fun _ => Nat.le_refl _) _ (fun i Q => vs_load_stationsFine (hbs := hbs) fu n i s Q) fun i hi K hL X hX => by
      refine brP (fun h1 => cdP (idx_ok (by simpa using h1)) ⟨fc_load_holds hT _ _ _, brP (fun h2 => ⟨fc_load_holds hT _ _ _, brP (fun h3 => cdP ?_ ?_) fun h3 => ?_⟩) fun h2 => ?_⟩) fun h1 => ?_
      · have hlt : i < n := by simpa using h1
        simp [maxLen] at hn; simp [Cd.holds]; omega
      · have hlt : i < n := by simpa using h1
        refine hX (i + 1) _ (by omega) (by omega) (.cons (by kernel_rfl) rfl (.cons (by kernel_rfl) rfl (.cons (by kernel_rfl) rfl (.nil rfl rfl)))) ?_
        have e : S.stnAt s i = true := by simp [S.stnAt, S.stOk, h2, h3]
        rw [S.from_step hlt, e, Bool.true_and] at hL
        exact hL
      · have hlt : i < n := by simpa using h1
        have e : S.stnAt s i = false := by simp [S.stnAt, S.stOk, h2, h3]
        rw [S.from_step hlt, e, Bool.false_and] at hL
        exact Has.out (l := [(.i .h, vB false)]) (.cons (by kernel_rfl) rfl (.nil (ex := _) rfl rfl)) (Nat.le_refl _) hL
      · have hlt : i < n := by simpa using h1
        have e : S.stnAt s i = false := by simp [S.stnAt, S.stOk, h2]
        rw [S.from_step hlt, e, Bool.false_and] at hL
        exact Has.out (l := [(.i .h, vB false)]) (.cons (by kernel_rfl) rfl (.nil (ex := _) rfl rfl)) (Nat.le_refl _) hL
      · have hlt : n ≤ i := by simpa using h1
        rw [S.from_end hlt] at hL
        exact Has.out (l := []) (.nil (ex := []) rfl rfl) (Nat.le_refl _) hL
theorem fc_load_stationsFine (n : Nat) (s : S.Rows) (hn : n ≤ maxLen) : FCall (cs hbs) f_load_stationsFine [.c (.p (.isl 2 n (S.val s)))] (vB (S.stn n s)) [] :=
  fcall_k hT (F := F_load_stationsFine) rfl (vc_load_stationsFine n s _) ⟨go_load_stationsFine hT 935 n s hn 0 _ (Nat.zero_le _) (.cons (by kernel_rfl) rfl (.cons (by kernel_rfl) rfl (.cons (by kernel_rfl) rfl (.nil rfl rfl)))), brP (fun h => frz_b (by exact h)) fun h => frz_b (by exact h)⟩
theorem go_load_cornersFine (fu n : Nat) (c : S.Rows) (hn : n ≤ maxLen) : ∀ (i : Nat) (st : St), i ≤ n → Has st [(.h, .c (.p (.isl 2 n (S.val c)))), (.i (.i (.o .h)), .c (.p (.isl 2 n (S.val c)))), (.o (.o (.i .h)), .c (.p (.int .i64 n))), (.i (.o (.i .h)), .c (.p (.int .i64 i)))] [] →
    LoopGo (ex (cs hbs) (fu + 60)) 0 m_load_cornersFine_l1 st (.br (S.from_ (S.corAt c) n i) (.e (.exit 0) ⟨setAll [(.h, .c (.p (.isl 2 n (S.val c))))], []⟩) (.e .ret ⟨setAll [(.i .h, vB false)], []⟩)) :=
  loop_k (σ := Nat) (fun i => [(.h, .c (.p (.isl 2 n (S.val c)))), (.i (.i (.o .h)), .c (.p (.isl 2 n (S.val c)))), (.o (.o (.i .h)), .c (.p (.int .i64 n))), (.i (.o (.i .h)), .c (.p (.int .i64 i)))]) (fun _ => []) (fun i => i ≤ n) (fun i => n - i)
    (fun i => .br (S.from_ (S.corAt c) n i) (.e (.exit 0) ⟨setAll [(.h, .c (.p (.isl 2 n (S.val c))))], []⟩) (.e .ret ⟨setAll [(.i .h, vB false)], []⟩)) (fun _ => Nat.le_refl _) _ (fun i Q => vs_load_cornersFine (hbs := hbs) fu n i c Q) fun i hi K hL X hX => by
      refine brP (fun h1 => cdP (idx_ok (by simpa using h1)) ⟨fc_load_holds hT _ _ _, brP (fun h2 => ⟨fc_load_holds hT _ _ _, brP (fun h3 => cdP ?_ ?_) fun h3 => ?_⟩) fun h2 => ?_⟩) fun h1 => ?_
      · have hlt : i < n := by simpa using h1
        simp [maxLen] at hn; simp [Cd.holds]; omega
      · have hlt : i < n := by simpa using h1
        refine hX (i + 1) _ (by omega) (by omega) (.cons (by kernel_rfl) rfl (.cons (by kernel_rfl) rfl (.cons (by kernel_rfl) rfl (.cons (by kernel_rfl) rfl (.nil rfl rfl))))) ?_
        have e : S.corAt c i = true := by simp [S.corAt, h2, h3]
        rw [S.from_step hlt, e, Bool.true_and] at hL
        exact hL
      · have hlt : i < n := by simpa using h1
        have e : S.corAt c i = false := by simp [S.corAt, h2, h3]
        rw [S.from_step hlt, e, Bool.false_and] at hL
        exact Has.out (l := [(.i .h, vB false)]) (.cons (by kernel_rfl) rfl (.nil (ex := _) rfl rfl)) (Nat.le_refl _) hL
      · have hlt : i < n := by simpa using h1
        have e : S.corAt c i = false := by simp [S.corAt, h2]
        rw [S.from_step hlt, e, Bool.false_and] at hL
        exact Has.out (l := [(.i .h, vB false)]) (.cons (by kernel_rfl) rfl (.nil (ex := _) rfl rfl)) (Nat.le_refl _) hL
      · have hlt : n ≤ i := by simpa using h1
        rw [S.from_end hlt] at hL
        exact Has.out (l := [(.h, .c (.p (.isl 2 n (S.val c))))]) (.cons (by kernel_rfl) rfl (.nil (ex := []) rfl rfl)) (Nat.le_refl _) hL
end
section
variable {hbs : BsOk Tryd.prog}
theorem vc_load_convex (n : Nat) (c : S.Rows) (Q : AV → Heap → Prop) :
 ((fun (A0 : Option Blk) => ((fun (A1 : Tr) => ((fun (A2 : Option Blk) => ((fun (A3 : Option Blk) => (((LoopGo (ex (cs hbs) 992) 5 m_load_edges_1_l1 ⟨(.nd (.nd (L3 (L1 (vJ 0))) (vT 2 0) (L1 (vS 2 n c))) (.c (.ref 4)) (L2 (L1 (vN n)))), [A0, A3, A0, A2, (some (.lp 43 A1 [(.i (.i (.o .h))), (.o (.o (.i .h)))] m_load_convex_a1 m_load_convex_b1 .ready))]⟩ (.br (S.from_ (S.cvxRow n c) n 0) (.e (.exit 0) ⟨.lf, [A0, A3, A0, A2, (some (.lp 43 A1 [(.i (.i (.o .h))), (.o (.o (.i .h)))] m_load_convex_a1 m_load_convex_b1 .ready))]⟩) (.e .ret ⟨.lf, [A0, A3, A0, A2, (some (.lp 43 A1 [(.i (.i (.o .h))), (.o (.o (.i .h)))] m_load_convex_a1 m_load_convex_b1 (.done .ret)))]⟩))) ∧
 (BrP (S.from_ (S.cvxRow n c) n 0)
 (Q (vB true) [A0, (some (.box t_bool [(.p (.bool true))])), A0, A2, none])
 (Q (vB false) [A0, A3, A0, A2, none]))))) (some (.box t_bool [(.p (.bool false))])))) (some (.clo f_load_edges_1 [] [(vT 2 0)])))) (.nd (L5 (vT 0 0) (L3 (L1 (.c (.ref 3))))) (vS 2 n c) (L6 (L3 (L1 (vS 2 n c))) (vT 1 0))))) (some (.box t_sl_api_LoadCorner [(cS 2 n c)]))) = (ex (cs hbs) 1000 0 m_load_convex ⟨ofL 0 [.c (cS 2 n c)] .lf, []⟩ (endK F_load_convex.rs (fun r H => .pr (Q r H)) fun _ _ => .no)).hold2 := by kernel_rfl
theorem vs_load_edges_1c (fu n i : Nat) (c : S.Rows) (Q : AX → St → Prop) :
 ((fun (A2 : Option Blk) => ((fun (A3 : Tr) => ((fun (A5 : List CV) => ((fun (A6 : Option Blk) => ((fun (A7 : Option Blk) => ((fun (A8 : Tr) => ((fun (A9 : AV) => ((fun (A10 : Tr) => ((fun (A11 : CV) => ((fun (A12 : CV) => ((fun (A1 : List CV) => ((fun (A4 : Tr) => ((fun (A13 : Option Blk) => ((fun (A14 : Option Blk) => ((fun (A0 : Heap) => ((BrP (decide ((i : Int) < (n : Int)))
 (CdP (.rng (i : Int) n)
 (CdP (.i64 ((i : Int) + (1 : Int)))
 (CdP (.ne (n : Int))
 (CdP (.rng (Int.tmod ((i : Int) + (1 : Int)) (n : Int)) n)
 ((LoopGo (ex (cs hbs) (fu + 49)) 6 m_load_convex_l1 ⟨(.nd (.nd (L5 (vN i) (L1 (.ag A1))) (vT 0 0) (L4 (L1 (.c (.ref 3))) (L1 (vN n)))) (vS 2 n c) (.nd (.nd (L1 (vS 2 n c)) (vT 6 0) (L1 (vS 2 n c))) (vT 1 0) (L4 (L1 (vN i)) (L1 (vJ 0))))), A0⟩ (.br (S.from_ (S.cvxAt n c i) n 0) (.e (.exit 2) ⟨.lf, A0⟩) (.e .ret ⟨.lf, A0⟩))) ∧
 (BrP (S.from_ (S.cvxAt n c i) n 0)
 (CdP (.i64 ((i : Int) + (1 : Int)))
 (Q .normal ⟨(.nd (.nd (.nd (.nd (L1 (vS 2 n c)) A9 (L1 (.ag A1))) (vN i) (L6 (L1 (vN n)) (.ag A5))) (vT 2 0) (.nd (.nd (L1 A9) (vN i) (L1 (vB false))) (vS 2 n c) A8)) (.c (.ref 4)) (L4 (.nd (.nd (L1 (vN i)) (vB true) (L1 (vB true))) (vT 5 0) A10) (.nd (.nd (L1 (vS 2 n c)) (.c (.p (.ipt 2 (S.val c i)))) (L1 A9)) (vN n) A4))), [A2, A7, A2, A6, (some (.lp 43 A3 [(.i (.i (.o .h))), (.o (.o (.i .h)))] m_load_convex_a1 m_load_convex_b1 .ready)), A13, A14]⟩))
 (Q .ret ⟨(.nd (.nd (.nd (.nd (L1 (vS 2 n c)) (vN i) (L1 (.ag A1))) (vN i) (L6 (L1 (vN n)) (.ag A5))) (vT 2 0) (.nd (.nd (L1 A9) (vN i) (L1 (vB true))) (vS 2 n c) A8)) (.c (.ref 4)) (L4 (.nd (.nd (L1 (vN i)) (vB true) (L1 (vB false))) (vT 5 0) A10) (.nd (L6 (L1 (vS 2 n c)) (.c (.p (.ipt 2 (S.val c i))))) (vN n) A4))), [A2, A7, A2, A6, (some (.lp 43 A3 [(.i (.i (.o .h))), (.o (.o (.i .h)))] m_load_convex_a1 m_load_convex_b1 (.done .ret))), A13, A14]⟩)))))))
 (Q (.exit 0) ⟨(.nd (.nd (L3 (L1 (vN i))) (vT 2 0) (L1 (vS 2 n c))) (.c (.ref 4)) (L4 (L3 (L1 (vB false))) (L1 (vN n)))), [A2, A7, A2, A6, (some (.lp 43 A3 [(.i (.i (.o .h))), (.o (.o (.i .h)))] m_load_convex_a1 m_load_convex_b1 .ready))]⟩)))) [A2, A7, A2, A6, (some (.lp 43 A3 [(.i (.i (.o .h))), (.o (.o (.i .h)))] m_load_convex_a1 m_load_convex_b1 .busy)), A13, A14])) (some (.box t_load_edge A1)))) (some (.box t_api_LoadCorner A5)))) (L6 (L1 (.ag [A11, A12])) (.ag A5)))) [(cJ (c i 0)), (cJ (c i 1)), A11, A12])) (cJ (c (Int.toNat (Int.tmod ((i : Int) + (1 : Int)) (n : Int))) 1)))) (cJ (c (Int.toNat (Int.tmod ((i : Int) + (1 : Int)) (n : Int))) 0)))) (L6 (L1 (vJ (Int.tmod ((i : Int) + (1 : Int)) (n : Int)))) (.c (.ref 4))))) (vJ ((i : Int) + (1 : Int))))) (L6 (L1 (.c (.p (.ipt 2 (S.val c (Int.toNat (Int.tmod ((i : Int) + (1 : Int)) (n : Int)))))))) (vN i)))) (some (.box t_bool [(.p (.bool false))])))) (some (.clo f_load_edges_1 [] [(vT 2 0)])))) [(cJ (c i 0)), (cJ (c i 1))])) (.nd (L5 (vT 0 0) (L3 (L1 (.c (.ref 3))))) (vS 2 n c) (L6 (L3 (L1 (vS 2 n c))) (vT 1 0))))) (some (.box t_sl_api_LoadCorner [(cS 2 n c)]))) = (ex (cs hbs) (fu + 60) 5 m_load_edges_1_l1 ⟨setAll [(.h, .c (.ref 4)), (.o .h, .c (.pt 2 0)), (.o (.i .h), .c (cS 2 n c)), (.i (.i .h), .c (cJ n)), (.o (.o (.o .h)), .c (cJ i))], H71 n (S.val c) .ready⟩ (fun e s => .pr (Q e s))).hold2 := by kernel_rfl
theorem vs_load_convex (fu n k e nx : Nat) (c : S.Rows) (Q : AX → St → Prop) :
 ((fun (A1 : Tr) => ((fun (A2 : List CV) => ((fun (A3 : Option Blk) => ((fun (A4 : AV) => ((fun (A5 : Tr) => ((fun (A6 : List CV) => ((fun (A7 : Tr) => ((fun (A8 : AV) => ((fun (A9 : Option Blk) => ((fun (A0 : Heap) => ((fun (A10 : Tr) => ((fun (A11 : AV) => ((fun (A12 : Tr) => ((fun (A13 : Tr) => ((fun (A14 : Tr) => ((BrP (decide ((k : Int) < (n : Int)))
 (CdP (.rng (k : Int) n)
 (BrP ((k : Int) == (e : Int))
 (CdP (.i64 ((k : Int) + (1 : Int)))
 (Q .normal ⟨(L4 (.nd (.nd (.nd (L6 (L1 (vB true)) (vB true)) (vB true) (L6 (L1 (.tp [])) (.tp []))) (vN e) (L4 A13 (L1 (.tp [])))) (vT 0 0) (.nd (L4 (L6 (L1 (vB false)) A8) (L6 (L1 (vB false)) (.tp []))) (vN k) (.nd (L6 (L1 (.tp [])) (vB true)) (vN n) (L1 (.tp []))))) (.nd (.nd (L4 (L6 (L1 (vB false)) (vN k)) (L6 (L1 (.tp [])) (.tp []))) (vT 6 0) (.nd A14 (vS 2 n c) (L1 (.tp [])))) (vT 1 0) (.nd (L4 (L6 (L1 (.tp [])) (.ag A6)) (L6 (L1 A4) (.tp []))) (vT 7 0) (.nd (L6 (L1 (.tp [])) (vB true)) A4 (L1 (vB true)))))), A0⟩))
 (CdP (.i64 ((e : Int) + (1 : Int)))
 (CdP (.ne (n : Int))
 (BrP ((k : Int) == (Int.tmod ((e : Int) + (1 : Int)) (n : Int)))
 (CdP (.i64 ((k : Int) + (1 : Int)))
 (Q .normal ⟨(L4 (.nd (.nd (.nd (L6 (L1 (vB true)) (vB true)) (vB true) A13) (vN e) (L4 A13 (L1 (vN n)))) (vT 0 0) (.nd (L4 (L6 (L1 (vB false)) A8) (L6 (L1 (vB false)) A11)) (vN k) (.nd (L6 (L1 (.tp [])) (vB false)) (vN n) (L1 (vB true))))) (.nd (.nd (L4 (L6 (L1 (vB false)) (vN k)) A14) (vT 6 0) (.nd A14 (vS 2 n c) A5)) (vT 1 0) (.nd (L4 (L6 (L1 (.tp [])) (.ag A6)) (L6 (L1 A4) (vS 2 n c))) (vT 7 0) (.nd (L6 (L1 (.tp [])) (vB false)) A4 (L1 (vB true)))))), A0⟩))
 (CdP (.i64 ((c nx 0) - (c e 0)))
 (CdP (.i64 ((c k 1) - (c e 1)))
 (CdP (.i64 (((c nx 0) - (c e 0)) * ((c k 1) - (c e 1))))
 (CdP (.i64 ((c nx 1) - (c e 1)))
 (CdP (.i64 ((c k 0) - (c e 0)))
 (CdP (.i64 (((c nx 1) - (c e 1)) * ((c k 0) - (c e 0))))
 (CdP (.i64 ((((c nx 0) - (c e 0)) * ((c k 1) - (c e 1))) - (((c nx 1) - (c e 1)) * ((c k 0) - (c e 0)))))
 (BrP (decide (((((c nx 0) - (c e 0)) * ((c k 1) - (c e 1))) - (((c nx 1) - (c e 1)) * ((c k 0) - (c e 0)))) ≤ (0 : Int)))
 (Q .ret ⟨(L4 (.nd A1 (vT 0 0) (.nd (L4 (L6 (L1 (vB true)) A8) (L6 (L1 (vB true)) A11)) (vN k) A10)) (.nd (.nd (L4 (L6 (L1 (vB true)) (vN k)) (L6 (L1 (vB true)) (vN e))) (vT 6 0) A12) (vT 1 0) (.nd (L4 (L6 (L1 (.ag A2)) (.ag A6)) (L1 (vS 2 n c))) (vT 7 0) (.nd (L6 (L1 (vJ (c k 1))) (vB false)) (vN k) (L1 (vB false)))))), A0⟩)
 (CdP (.i64 ((k : Int) + (1 : Int)))
 (Q .normal ⟨(L4 (.nd A1 (vT 0 0) (.nd (L4 (L6 (L1 (vB true)) A8) (L6 (L1 (vB false)) A11)) (vN k) A10)) (.nd (.nd (L4 (L6 (L1 (vB true)) (vN k)) (L6 (L1 (vB false)) (vN e))) (vT 6 0) A12) (vT 1 0) (.nd (L4 (L6 (L1 (.ag A2)) (.ag A6)) (L6 (L1 A4) (vS 2 n c))) (vT 7 0) (.nd (L6 (L1 (vJ (c k 1))) (vB false)) A4 (L1 (vB false)))))), A0⟩)))))))))))))))
 (Q (.exit 2) ⟨(L4 (.nd (L6 (L3 (L1 (vB false))) (vN e)) (vT 0 0) (L2 (L1 (vN n)))) (.nd (L5 (vT 6 0) (L1 (vS 2 n c))) (vT 1 0) (L2 (L1 (vN k))))), [A3, (some (.box t_bool [(.p (.bool false))])), A3, (some (.clo f_load_edges_1 [] [(vT 2 0)])), (some (.lp 43 A7 [(.i (.i (.o .h))), (.o (.o (.i .h)))] m_load_convex_a1 m_load_convex_b1 .busy)), A9, (some (.box t_load_edge A2))]⟩)))) (L6 (L1 (.tp [])) (vN e)))) (L6 (L1 (.tp [])) (vN k)))) (.nd (L6 (L1 (vJ (c k 0))) (vN e)) (vS 2 n c) A5))) (vJ ((e : Int) + (1 : Int))))) (.nd (L6 (L1 (vT 7 1)) (vB false)) (vN n) (L1 (vB false))))) [A3, (some (.box t_bool [(.p (.bool false))])), A3, (some (.clo f_load_edges_1 [] [(vT 2 0)])), (some (.lp 43 A7 [(.i (.i (.o .h))), (.o (.o (.i .h)))] m_load_convex_a1 m_load_convex_b1 .busy)), A9, (some (.box t_load_edge A2)), (some (.box t_api_LoadCorner A6))])) (some (.box t_api_LoadCorner [(cJ (c e 0)), (cJ (c e 1))])))) (.c (.p (.ipt 2 (S.val c k)))))) (.nd (L5 (vT 0 0) (L3 (L1 (.c (.ref 3))))) (vS 2 n c) (L6 (L3 (L1 (vS 2 n c))) (vT 1 0))))) [(cJ (c k 0)), (cJ (c k 1))])) (L1 (vJ (Int.tmod ((e : Int) + (1 : Int)) (n : Int)))))) (vJ ((k : Int) + (1 : Int))))) (some (.box t_sl_api_LoadCorner [(cS 2 n c)])))) [(cJ (c e 0)), (cJ (c e 1)), (cJ (c nx 0)), (cJ (c nx 1))])) (.nd (.nd (L6 (L1 (vB false)) (vB true)) (vB false) (L6 (L1 (vJ ((((c nx 0) - (c e 0)) * ((c k 1) - (c e 1))) - (((c nx 1) - (c e 1)) * ((c k 0) - (c e 0)))))) (vN k))) (vN e) (L4 (L6 (L1 (vT 7 0)) (vN k)) (L1 (vN n))))) = (ex (cs hbs) (fu + 60) 6 m_load_convex_l1 ⟨setAll [(.o .h, .c (.pt 0 0)), (.i .h, .c (.pt 1 0)), (.i (.o .h), .c (.pt 6 0)), (.o (.o .h), .c (cJ e)), (.i (.o (.i .h)), .c (cS 2 n c)), (.o (.i (.i .h)), .c (cJ n)), (.i (.i (.i .h)), .c (cJ k))], (H71 n (S.val c) .busy ++ [some (.box t_api_LoadCorner [.p (.int .i64 (c e 0)), .p (.int .i64 (c e 1))]), some (.box t_load_edge [.p (.int .i64 (c e 0)), .p (.int .i64 (c e 1)), .p (.int .i64 (c nx 0)), .p (.int .i64 (c nx 1))])])⟩ (fun e s => .pr (Q e s))).hold2 := by kernel_rfl
end
section
variable {hbs : BsOk Tryd.prog} (hT : TabOk (cs hbs))
theorem i64_of {n : Int} (h1 : -9223372036854775808 ≤ n) (h2 : n ≤ 9223372036854775807) : Cd.holds (.i64 n) := ⟨h1, h2⟩
theorem i64_nat {i n : Nat} (h : i < n) (hn : n ≤ maxLen) : Cd.holds (.i64 (((i : Nat) : Int) + 1)) := by simp [maxLen] at hn; exact ⟨by omega, by omega⟩
theorem ne_nat {n : Nat} (h : 0 < n) : Cd.holds (.ne ((n : Nat) : Int)) := by show ((n : Nat) : Int) ≠ 0; omega
abbrev lv71 (n : Nat) (c : S.Rows) (e k : Nat) : List (Ps × AV) := [(.o .h, .c (.pt 0 0)), (.i .h, .c (.pt 1 0)), (.i (.o .h), .c (.pt 6 0)), (.o (.o .h), .c (.p (.int .i64 e))), (.i (.o (.i .h)), .c (.p (.isl 2 n (S.val c)))), (.o (.i (.i .h)), .c (.p (.int .i64 n))), (.i (.i (.i .h)), .c (.p (.int .i64 k)))]
abbrev H71b (n : Nat) (c : S.Rows) (e nx : Nat) : Heap := H71 n (S.val c) .busy ++ [some (.box t_api_LoadCorner [.p (.int .i64 (c e 0)), .p (.int .i64 (c e 1))]), some (.box t_load_edge [.p (.int .i64 (c e 0)), .p (.int .i64 (c e 1)), .p (.int .i64 (c nx 0)), .p (.int .i64 (c nx 1))])]
theorem go_load_convex (fu n e nx : Nat) (c : S.Rows) (hn : n ≤ maxLen) (hc : S.cor n c = true) (he : e < n) (hnx : nx = S.nxt n e) : ∀ (k : Nat) (st : St), k ≤ n → Has st (lv71 n c e k) (H71b n c e nx) →
    LoopGo (ex (cs hbs) (fu + 60)) 6 m_load_convex_l1 st (.br (S.from_ (S.cvxAt n c e) n k) (.e (.exit 2) ⟨.lf, H71b n c e nx⟩) (.e .ret ⟨.lf, H71b n c e nx⟩)) :=
  loop_k (σ := Nat) (lv71 n c e) (fun _ => H71b n c e nx) (fun k => k ≤ n) (fun k => n - k)
    (fun k => .br (S.from_ (S.cvxAt n c e) n k) (.e (.exit 2) ⟨.lf, H71b n c e nx⟩) (.e .ret ⟨.lf, H71b n c e nx⟩)) (fun _ => by show 6 ≤ 7; decide) _ (fun k Q => vs_load_convex (hbs := hbs) fu n k e nx c Q) fun k hk K hL X hX => by
      subst hnx
      have go : ∀ st, k < n → S.cvxAt n c e k = true → Has st (lv71 n c e (k + 1)) (H71b n c e (S.nxt n e)) → X st := fun st hlt ee hh => by
        refine hX (k + 1) st (by omega) (by omega) hh ?_
        rw [S.from_step hlt, ee, Bool.true_and] at hL
        exact hL
      refine brP (fun h1 => ?_) fun h1 => ?_
      · have hlt : k < n := by simpa using h1
        have e1 : Int.tmod ((e : Int) + 1) (n : Int) = (S.nxt n e : Int) := S.nxt_tmod (by omega)
        have hk1 := S.from_iff.1 hc k (Nat.zero_le _) hlt
        simp only [S.corAt, Bool.and_eq_true, S.inB_iff] at hk1
        obtain ⟨b1, b2, b3, b4, b5, b6⟩ := S.sd_in (w := c k 0) (m := c k 1) hc he (by omega) (by omega) (by omega) (by omega)
        refine cdP (idx_ok hlt) (brP (fun h2 => cdP (i64_nat hlt hn) ?_) fun h2 => cdP (i64_nat he hn) (cdP (ne_nat (by omega)) (brP (fun h3 => cdP (i64_nat hlt hn) ?_) fun h3 => cdP ?_ (cdP ?_ (cdP ?_ (cdP ?_ (cdP ?_ (cdP ?_ (cdP ?_ (brP (fun h4 => ?_) fun h4 => cdP (i64_nat hlt hn) ?_)))))))))) <;> try exact i64_of (by omega) (by omega)
        · refine go _ hlt ?_ (.cons (by kernel_rfl) rfl (.cons (by kernel_rfl) rfl (.cons (by kernel_rfl) rfl (.cons (by kernel_rfl) rfl (.cons (by kernel_rfl) rfl (.cons (by kernel_rfl) rfl (.cons (by kernel_rfl) rfl (.nil (ex := [_]) rfl rfl))))))))
          have : k = e := by have h2 := eq_of_beq h2; omega
          simp [S.cvxAt, this]
        · refine go _ hlt ?_ (.cons (by kernel_rfl) rfl (.cons (by kernel_rfl) rfl (.cons (by kernel_rfl) rfl (.cons (by kernel_rfl) rfl (.cons (by kernel_rfl) rfl (.cons (by kernel_rfl) rfl (.cons (by kernel_rfl) rfl (.nil (ex := [_]) rfl rfl))))))))
          have : k = S.nxt n e := by rw [e1] at h3; have h3 := eq_of_beq h3; omega
          simp [S.cvxAt, ← this]
        · have n1 : ¬ k = e := by have h2 := ne_of_beq_false h2; omega
          have n2 : ¬ k = S.nxt n e := by rw [e1] at h3; have h3 := ne_of_beq_false h3; omega
          have n3 : ¬ 0 < S.sd n c e (c k 0) (c k 1) := by
            simp only [decide_eq_true_eq] at h4
            unfold S.sd; omega
          have ee : S.cvxAt n c e k = false := by simp [S.cvxAt, n1, n2, n3]
          rw [S.from_step hlt, ee, Bool.false_and] at hL
          exact Has.out (l := []) (.nil (ex := [_]) rfl rfl) (by show 6 ≤ 7; decide) hL
        · refine go _ hlt ?_ (.cons (by kernel_rfl) rfl (.cons (by kernel_rfl) rfl (.cons (by kernel_rfl) rfl (.cons (by kernel_rfl) rfl (.cons (by kernel_rfl) rfl (.cons (by kernel_rfl) rfl (.cons (by kernel_rfl) rfl (.nil (ex := [_]) rfl rfl))))))))
          have n3 : 0 < S.sd n c e (c k 0) (c k 1) := by
            simp only [decide_eq_false_iff_not] at h4
            unfold S.sd; omega
          simp [S.cvxAt, n3]
      · have hlt : n ≤ k := by simpa using h1
        rw [S.from_end hlt] at hL
        exact Has.out (l := []) (.nil (ex := []) rfl rfl) (by show 6 ≤ 7; decide) hL
abbrev lv72c (n : Nat) (c : S.Rows) (i : Nat) : List (Ps × AV) := [(.h, .c (.ref 4)), (.o .h, .c (.pt 2 0)), (.o (.i .h), .c (.p (.isl 2 n (S.val c)))), (.i (.i .h), .c (.p (.int .i64 n))), (.o (.o (.o .h)), .c (.p (.int .i64 i)))]
theorem go_load_edges_1c (fu n : Nat) (c : S.Rows) (hn : n ≤ maxLen) (hc : S.cor n c = true) : ∀ (i : Nat) (st : St), i ≤ n → Has st (lv72c n c i) (H71 n (S.val c) .ready) →
    LoopGo (ex (cs hbs) (fu + 11 + 60)) 5 m_load_edges_1_l1 st (.br (S.from_ (S.cvxRow n c) n i) (.e (.exit 0) ⟨.lf, H71 n (S.val c) .ready⟩) (.e .ret ⟨.lf, H71 n (S.val c) (.done .ret)⟩)) :=
  loop_k (σ := Nat) (lv72c n c) (fun _ => H71 n (S.val c) .ready) (fun i => i ≤ n) (fun i => n - i)
    (fun i => .br (S.from_ (S.cvxRow n c) n i) (.e (.exit 0) ⟨.lf, H71 n (S.val c) .ready⟩) (.e .ret ⟨.lf, H71 n (S.val c) (.done .ret)⟩)) (fun _ => Nat.le_refl _) _ (fun i Q => vs_load_edges_1c (hbs := hbs) (fu + 11) n i c Q) fun i hi K hL X hX => by
      refine brP (fun h1 => ?_) fun h1 => ?_
      · have hlt : i < n := by simpa using h1
        have e1 : Int.tmod ((i : Int) + 1) (n : Int) = (S.nxt n i : Int) := S.nxt_tmod (by omega)
        have e2 : (Int.tmod ((i : Int) + 1) (n : Int)).toNat = S.nxt n i := by rw [e1]; rfl
        have hx : S.nxt n i < n := S.nxt_lt (by omega)
        refine cdP (idx_ok hlt) (cdP (i64_nat hlt hn) (cdP (ne_nat (by omega)) (cdP (by rw [e1]; exact idx_ok hx) ⟨go_load_convex fu n i _ c hn hc hlt e2 0 _ (Nat.zero_le _) (.cons (by kernel_rfl) rfl (.cons (by kernel_rfl) rfl (.cons (by kernel_rfl) rfl (.cons (by kernel_rfl) rfl (.cons (by kernel_rfl) rfl (.cons (by kernel_rfl) rfl (.cons (by kernel_rfl) rfl (.nil (ex := []) rfl rfl)))))))), brP (fun h2 => cdP (i64_nat hlt hn) ?_) fun h2 => ?_⟩)))
        · refine hX (i + 1) _ (by omega) (by omega) (.cons (by kernel_rfl) rfl (.cons (by kernel_rfl) rfl (.cons (by kernel_rfl) rfl (.cons (by kernel_rfl) rfl (.cons (by kernel_rfl) rfl (.nil (ex := [_, _]) rfl rfl)))))) ?_
          have e : S.cvxRow n c i = true := h2
          rw [S.from_step hlt, e, Bool.true_and] at hL
          exact hL
        · have e : S.cvxRow n c i = false := h2
          rw [S.from_step hlt, e, Bool.false_and] at hL
          exact Has.out (l := []) (.nil (ex := [_, _]) rfl rfl) (Nat.le_refl _) hL
      · have hlt : n ≤ i := by simpa using h1
        rw [S.from_end hlt] at hL
        exact Has.out (l := []) (.nil (ex := []) rfl rfl) (Nat.le_refl _) hL
include hT in
theorem fc_load_convex (n : Nat) (c : S.Rows) (hn : n ≤ maxLen) (hc : S.cor n c = true) : FCall (cs hbs) f_load_convex [.c (.p (.isl 2 n (S.val c)))] (vB (S.cvx n c)) [] :=
  fcall_k hT (F := F_load_convex) rfl (vc_load_convex n c _) ⟨go_load_edges_1c 921 n c hn hc 0 _ (Nat.zero_le _) (.cons (by kernel_rfl) rfl (.cons (by kernel_rfl) rfl (.cons (by kernel_rfl) rfl (.cons (by kernel_rfl) rfl (.cons (by kernel_rfl) rfl (.nil (ex := []) rfl rfl)))))), brP (fun h => frz_b h) fun h => frz_b h⟩
include hT in
theorem fc_load_cornersFine (n : Nat) (c : S.Rows) (hn : n ≤ maxLen) : FCall (cs hbs) f_load_cornersFine [.c (.p (.isl 2 n (S.val c)))] (vB (S.corners n c)) [] :=
  fcall_k hT (F := F_load_cornersFine) rfl (vc_load_cornersFine n c _) ⟨fc_load_holds hT _ _ _, brP (fun h1 => ⟨go_load_cornersFine hT 934 n c hn 0 _ (Nat.zero_le _) (.cons (by kernel_rfl) rfl (.cons (by kernel_rfl) rfl (.cons (by kernel_rfl) rfl (.cons (by kernel_rfl) rfl (.nil (ex := []) rfl rfl))))), brP (fun h2 => ⟨fc_load_convex hT n c hn h2, brP (fun h3 => frz_b (by show (S.inB 3 n 12 && S.cor n c && S.cvx n c) = true; rw [h1, h3, show S.cor n c = true from h2]; rfl)) fun h3 => frz_b (by show (S.inB 3 n 12 && S.cor n c && S.cvx n c) = false; rw [h3]; simp)⟩) fun h2 => frz_b (by show (S.inB 3 n 12 && S.cor n c && S.cvx n c) = false; rw [show S.cor n c = false from h2]; simp)⟩) fun h1 => frz_b (by show (S.inB 3 n 12 && S.cor n c && S.cvx n c) = false; rw [h1]; simp)⟩
end
section
variable {hbs : BsOk Tryd.prog}
theorem vc_load_planeFine (e m t l : Int) (nc : Nat) (c : S.Rows) (ns : Nat) (s : S.Rows) (ta tm r : Int) (nf : Nat) (f : S.Rows) (Q : AV → Heap → Prop) :
 ((fun (A0 : Heap) => ((fun (A1 : AV) => (((FCall (cs hbs) f_load_holds [(.ag [(cJ 1), (cJ 20000)]), (vJ e)] (.c (.p (.bool (S.inB (1 : Int) e (20000 : Int))))) []) ∧
 (BrP (S.inB (1 : Int) e (20000 : Int))
 ((FCall (cs hbs) f_load_holds [(.ag [(cJ (-(20000000 : Int))), (cJ 20000000)]), (vJ m)] (.c (.p (.bool (S.inB (-(20000000 : Int)) m (20000000 : Int))))) []) ∧
 (BrP (S.inB (-(20000000 : Int)) m (20000000 : Int))
 ((FCall (cs hbs) f_load_holds [A1, (vJ t)] (.c (.p (.bool (S.inB (0 : Int) t (20000 : Int))))) []) ∧
 (BrP (S.inB (0 : Int) t (20000 : Int))
 ((FCall (cs hbs) f_load_holds [A1, (vJ l)] (.c (.p (.bool (S.inB (0 : Int) l (20000 : Int))))) []) ∧
 (BrP (S.inB (0 : Int) l (20000 : Int))
 ((FCall (cs hbs) f_load_holds [A1, (vJ r)] (.c (.p (.bool (S.inB (0 : Int) r (20000 : Int))))) []) ∧
 (BrP (S.inB (0 : Int) r (20000 : Int))
 ((FCall (cs hbs) f_load_cornersFine [(vS 2 nc c)] (.c (.p (.bool (S.corners nc c)))) []) ∧
 (BrP (S.corners nc c)
 (BrP (decide ((ns : Int) ≤ (8 : Int)))
 (BrP (decide ((nf : Int) ≤ (2 : Int)))
 ((FCall (cs hbs) f_load_stationsFine [(.c (.p (.isl 2 1 (fun x14 => (fun x15 => (List.getD [(.int .i64 ta), (.int .i64 tm)] ((x14 * 2) + x15) .npt))))))] (.c (.p (.bool (S.stn 1 (S.num (fun x14 => (fun x15 => (List.getD [(.int .i64 ta), (.int .i64 tm)] ((x14 * 2) + x15) .npt)))))))) []) ∧
 (BrP (S.stn 1 (S.num (fun x14 => (fun x15 => (List.getD [(.int .i64 ta), (.int .i64 tm)] ((x14 * 2) + x15) .npt)))))
 ((FCall (cs hbs) f_load_stationsFine [(vS 2 ns s)] (.c (.p (.bool (S.stn ns s)))) []) ∧
 (BrP (S.stn ns s)
 ((FCall (cs hbs) f_load_stationsFine [(vS 2 nf f)] (.c (.p (.bool (S.stn nf f)))) []) ∧
 (BrP (S.stn nf f)
 (Q (vB true) A0)
 (Q (vB false) A0)))
 (Q (vB false) A0)))
 (Q (vB false) A0)))
 (Q (vB false) A0))
 (Q (vB false) A0))
 (Q (vB false) A0)))
 (Q (vB false) A0)))
 (Q (vB false) A0)))
 (Q (vB false) A0)))
 (Q (vB false) A0)))
 (Q (vB false) A0))))) (.ag [(cJ 0), (cJ 20000)]))) [(bP e m t l nc c ns s ta tm r nf f)]) = (ex (cs hbs) 1000 0 m_load_planeFine ⟨ofL 0 [.ag (plC e m t l nc (S.val c) ns (S.val s) ta tm r nf (S.val f))] .lf, []⟩ (endK F_load_planeFine.rs (fun r H => .pr (Q r H)) fun _ _ => .no)).hold2 := by kernel_rfl
theorem vc_ref02_Side (e m t l : Int) (nc : Nat) (c : S.Rows) (ns : Nat) (s : S.Rows) (ta tm r : Int) (nf : Nat) (f : S.Rows) (ed : Nat) (w mo : Int) (Q : AV → Heap → Prop) :
 ((CdP (.ne (nc : Int))
 (CdP (.rng (Int.tmod (ed : Int) (nc : Int)) nc)
 (CdP (.i64 ((ed : Int) + (1 : Int)))
 (CdP (.ne (nc : Int))
 (CdP (.rng (Int.tmod ((ed : Int) + (1 : Int)) (nc : Int)) nc)
 (CdP (.i64 ((c (Int.toNat (Int.tmod ((ed : Int) + (1 : Int)) (nc : Int))) 0) - (c (Int.toNat (Int.tmod (ed : Int) (nc : Int))) 0)))
 (CdP (.i64 (mo - (c (Int.toNat (Int.tmod (ed : Int) (nc : Int))) 1)))
 (CdP (.i64 (((c (Int.toNat (Int.tmod ((ed : Int) + (1 : Int)) (nc : Int))) 0) - (c (Int.toNat (Int.tmod (ed : Int) (nc : Int))) 0)) * (mo - (c (Int.toNat (Int.tmod (ed : Int) (nc : Int))) 1))))
 (CdP (.i64 ((c (Int.toNat (Int.tmod ((ed : Int) + (1 : Int)) (nc : Int))) 1) - (c (Int.toNat (Int.tmod (ed : Int) (nc : Int))) 1)))
 (CdP (.i64 (w - (c (Int.toNat (Int.tmod (ed : Int) (nc : Int))) 0)))
 (CdP (.i64 (((c (Int.toNat (Int.tmod ((ed : Int) + (1 : Int)) (nc : Int))) 1) - (c (Int.toNat (Int.tmod (ed : Int) (nc : Int))) 1)) * (w - (c (Int.toNat (Int.tmod (ed : Int) (nc : Int))) 0))))
 (CdP (.i64 ((((c (Int.toNat (Int.tmod ((ed : Int) + (1 : Int)) (nc : Int))) 0) - (c (Int.toNat (Int.tmod (ed : Int) (nc : Int))) 0)) * (mo - (c (Int.toNat (Int.tmod (ed : Int) (nc : Int))) 1))) - (((c (Int.toNat (Int.tmod ((ed : Int) + (1 : Int)) (nc : Int))) 1) - (c (Int.toNat (Int.tmod (ed : Int) (nc : Int))) 1)) * (w - (c (Int.toNat (Int.tmod (ed : Int) (nc : Int))) 0)))))
 (Q (vJ ((((c (Int.toNat (Int.tmod ((ed : Int) + (1 : Int)) (nc : Int))) 0) - (c (Int.toNat (Int.tmod (ed : Int) (nc : Int))) 0)) * (mo - (c (Int.toNat (Int.tmod (ed : Int) (nc : Int))) 1))) - (((c (Int.toNat (Int.tmod ((ed : Int) + (1 : Int)) (nc : Int))) 1) - (c (Int.toNat (Int.tmod (ed : Int) (nc : Int))) 1)) * (w - (c (Int.toNat (Int.tmod (ed : Int) (nc : Int))) 0))))) [(bP e m t l nc c ns s ta tm r nf f), (some (.box t_api_LoadCorner [(cJ (c (Int.toNat (Int.tmod (ed : Int) (nc : Int))) 0)), (cJ (c (Int.toNat (Int.tmod (ed : Int) (nc : Int))) 1))])), (some (.box t_api_LoadCorner [(cJ (c (Int.toNat (Int.tmod ((ed : Int) + (1 : Int)) (nc : Int))) 0)), (cJ (c (Int.toNat (Int.tmod ((ed : Int) + (1 : Int)) (nc : Int))) 1))]))])))))))))))))) = (ex (cs hbs) 1000 0 m_ref02_Side ⟨ofL 0 [.ag (plC e m t l nc (S.val c) ns (S.val s) ta tm r nf (S.val f)), .c (cJ ed), .c (cJ w), .c (cJ mo)] .lf, []⟩ (endK F_ref02_Side.rs (fun r H => .pr (Q r H)) fun _ _ => .no)).hold2 := by kernel_rfl
theorem vc_ref02_Plane (e m t l : Int) (nc : Nat) (c : S.Rows) (ns : Nat) (s : S.Rows) (ta tm r : Int) (nf : Nat) (f : S.Rows) (Q : AV → Heap → Prop) :
 ((fun (A0 : Heap) => ((fun (A1 : Tr) => ((fun (A2 : Tr) => (((FCall (cs hbs) f_ref02_in [(vJ e), (vJ 1), (vJ 20000)] (.c (.p (.bool (S.inB (1 : Int) e (20000 : Int))))) []) ∧
 (BrP (S.inB (1 : Int) e (20000 : Int))
 ((FCall (cs hbs) f_ref02_in [(vJ m), (vJ (-(20000000 : Int))), (vJ 20000000)] (.c (.p (.bool (S.inB (-(20000000 : Int)) m (20000000 : Int))))) []) ∧
 (BrP (S.inB (-(20000000 : Int)) m (20000000 : Int))
 ((FCall (cs hbs) f_ref02_in [(vJ t), (vJ 0), (vJ 20000)] (.c (.p (.bool (S.inB (0 : Int) t (20000 : Int))))) []) ∧
 (BrP (S.inB (0 : Int) t (20000 : Int))
 ((FCall (cs hbs) f_ref02_in [(vJ l), (vJ 0), (vJ 20000)] (.c (.p (.bool (S.inB (0 : Int) l (20000 : Int))))) []) ∧
 (BrP (S.inB (0 : Int) l (20000 : Int))
 ((FCall (cs hbs) f_ref02_in [(vJ r), (vJ 0), (vJ 20000)] (.c (.p (.bool (S.inB (0 : Int) r (20000 : Int))))) []) ∧
 (BrP (S.inB (0 : Int) r (20000 : Int))
 ((FCall (cs hbs) f_ref02_in [(vN nc), (vJ 3), (vJ 12)] (.c (.p (.bool (S.inB (3 : Int) (nc : Int) (12 : Int))))) []) ∧
 (BrP (S.inB (3 : Int) (nc : Int) (12 : Int))
 (BrP (decide ((ns : Int) > (8 : Int)))
 (Q (vB false) A0)
 ((FCall (cs hbs) f_ref02_station [(.ag [(cJ ta), (cJ tm)])] (.c (.p (.bool (S.stOk ta tm)))) []) ∧
 (BrP (S.stOk ta tm)
 (BrP (decide ((nf : Int) > (2 : Int)))
 (Q (vB false) A0)
 ((LoopGo (ex (cs hbs) 994) 0 m_ref02_Plane_l1 ⟨(.nd (.nd (.nd (L4 (.nd (L1 (vT 0 8)) (vB true) (L1 (vB false))) (.nd (L1 (vN nc)) (vB false) (L1 (vB false)))) (vJ 0) (.nd (.nd (L1 (vB false)) (vT 0 2) (L1 (.ag [(cJ ta), (cJ tm)]))) (vB false) (.nd (L1 (vB false)) (vB true) (L1 (vB false))))) (vT 0 0) (L4 (.nd (.nd (L1 (vB true)) (vB false) (L1 (vB false))) (vJ e) (.nd (L1 (vB false)) (vT 0 3) (L1 (vS 2 nf f)))) (.nd (.nd (L1 (vT 0 4)) (vB true) (L1 (vB false))) (vT 0 1) (L6 (L1 (vS 2 ns s)) (vB false))))) (.ag (kP e m t l nc c ns s ta tm r nf f)) (.nd (L4 (.nd (.nd (L1 (vJ r)) (vB false) (L1 (vB false))) (vT 0 0) (.nd (L1 (vB true)) (vB false) (L1 (vT 0 9)))) (.nd (.nd (L1 (vB false)) (vJ t) (L1 (vB true))) (vB false) (.nd (L1 (vT 0 5)) (vB false) (L1 (vB false))))) (vB false) (L4 (.nd (.nd (L1 (vB false)) (vB false) (L1 (vT 0 6))) (vB true) (.nd (L1 (vB false)) (vJ l) (L1 (vN nf)))) (.nd (.nd (L1 (vS 2 nc c)) (vB false) (L1 (vB false))) (vJ m) (L6 (L1 (vN ns)) (vB false)))))), A0⟩ (.br (S.from_ (S.stnAt s) ns 0) (.e (.exit 0) ⟨A2, A0⟩) (.e .ret ⟨A1, A0⟩))) ∧
 (BrP (S.from_ (S.stnAt s) ns 0)
 ((LoopGo (ex (cs hbs) 993) 0 m_ref02_Plane_l2 ⟨(L4 (L1 (vT 0 0)) (L3 (L1 (vJ 0)))), A0⟩ (.br (S.from_ (S.stnAt f) nf 0) (.e (.exit 2) ⟨A2, A0⟩) (.e .ret ⟨A1, A0⟩))) ∧
 (BrP (S.from_ (S.stnAt f) nf 0)
 ((LoopGo (ex (cs hbs) 992) 0 m_ref02_Plane_l3 ⟨(L3 (L5 (vT 0 0) (L1 (vJ 0)))), A0⟩ (.br (S.from_ (S.corAt c) nc 0) (.e (.exit 4) ⟨A2, A0⟩) (.e .ret ⟨A1, A0⟩))) ∧
 (BrP (S.from_ (S.corAt c) nc 0)
 ((LoopGo (ex (cs hbs) 991) 0 m_ref02_Plane_l4 ⟨(L4 (L1 (vT 0 0)) (L2 (L1 (vJ 0)))), A0⟩ (.br (S.from_ (S.cvxRow nc c) nc 0) (.e (.exit 6) ⟨A2, A0⟩) (.e .ret ⟨A1, A0⟩))) ∧
 (BrP (S.from_ (S.cvxRow nc c) nc 0)
 (Q (vB true) A0)
 (Q (vB false) A0)))
 (Q (vB false) A0)))
 (Q (vB false) A0)))
 (Q (vB false) A0))))
 (Q (vB false) A0))))
 (Q (vB false) A0)))
 (Q (vB false) A0)))
 (Q (vB false) A0)))
 (Q (vB false) A0)))
 (Q (vB false) A0)))
 (Q (vB false) A0))))) (L3 (L1 (vT 0 0))))) (L2 (L1 (vB false))))) [(bP e m t l nc c ns s ta tm r nf f)]) = (ex (cs hbs) 1000 0 m_ref02_Plane ⟨ofL 0 [.ag (plC e m t l nc (S.val c) ns (S.val s) ta tm r nf (S.val f))] .lf, []⟩ (endK F_ref02_Plane.rs (fun r H => .pr (Q r H)) fun _ _ => .no)).hold2 := by kernel_rfl
theorem vs_ref02_Planea (fu i : Nat) (e m t l : Int) (nc : Nat) (c : S.Rows) (ns : Nat) (s : S.Rows) (ta tm r : Int) (nf : Nat) (f : S.Rows) (Q : AX → St → Prop) :
 ((fun (A0 : Tr) => ((fun (A1 : Tr) => ((fun (A2 : Heap) => ((fun (A3 : Tr) => ((fun (A4 : Tr) => ((fun (A5 : Tr) => ((fun (A6 : Tr) => ((BrP (decide ((i : Int) < (ns : Int)))
 (CdP (.rng (i : Int) ns)
 ((FCall (cs hbs) f_ref02_station [(.ag [(cJ (s i 0)), (cJ (s i 1))])] (.c (.p (.bool (S.stOk (s i 0) (s i 1))))) []) ∧
 (BrP (S.stOk (s i 0) (s i 1))
 (CdP (.i64 ((i : Int) + (1 : Int)))
 (Q .normal ⟨(L4 (.nd (.nd A4 (vJ ((i : Int) + (1 : Int))) (L3 (L3 (L3 (L1 (vJ ((i : Int) + (1 : Int)))))))) (vT 0 0) (L4 (L4 A3 A3) (L4 A1 (L2 (L1 (vN i)))))) (L4 A0 (L4 (L4 (L3 (L3 (L1 (vN i)))) A5) A6))), A2⟩))
 (Q .ret ⟨(L4 (.nd (L6 A4 (vN i)) (vT 0 0) (L4 (L4 A3 A5) (L4 A1 (L2 (L1 (vN i)))))) (.nd A0 (vB false) (L4 (L2 A3) A6))), A2⟩))))
 (Q (.exit 0) ⟨(L4 (.nd (L6 (L3 A1) (vN i)) (vT 0 0) (L4 (L3 A5) (L2 (L2 (L1 (vN i)))))) (L4 (L3 (L3 (L3 (L3 (L1 (vN ns)))))) (L2 (L2 (L2 (L1 (vT 0 5))))))), A2⟩)))) (L4 (L3 (L3 (L1 (vN i)))) (L2 (L1 (vT 0 5)))))) (L3 (L3 (L1 (vB false)))))) (L4 A1 (L3 (L3 (L1 (.c (.p (.ipt 2 (S.val s i)))))))))) (L3 (L3 (L1 (vB true)))))) [(bP e m t l nc c ns s ta tm r nf f)])) (L3 (L3 (L1 (vS 2 ns s)))))) (L4 (L4 (L3 (L3 (L1 (vN ns)))) (L3 (L3 (L1 (.ag [(cJ (s i 0)), (cJ (s i 1))]))))) (L3 (L3 (L3 (L1 (vT 0 5))))))) = (ex (cs hbs) (fu + 60) 0 m_ref02_Plane_l1 ⟨setAll [(.o .h, .c (.pt 0 0)), (.o (.o .h), .c (cJ i))], [some (.box t_api_Plane (plC e m t l nc (S.val c) ns (S.val s) ta tm r nf (S.val f)))]⟩ (fun e s => .pr (Q e s))).hold2 := by kernel_rfl
theorem vs_ref02_Planeb (fu i : Nat) (e m t l : Int) (nc : Nat) (c : S.Rows) (ns : Nat) (s : S.Rows) (ta tm r : Int) (nf : Nat) (f : S.Rows) (Q : AX → St → Prop) :
 ((fun (A2 : Heap) => ((fun (A3 : Tr) => ((fun (A4 : Tr) => ((fun (A5 : Tr) => ((fun (A1 : Tr) => ((fun (A6 : Tr) => ((fun (A0 : Tr) => ((fun (A7 : Tr) => ((BrP (decide ((i : Int) < (nf : Int)))
 (CdP (.rng (i : Int) nf)
 ((FCall (cs hbs) f_ref02_station [(.ag [(cJ (f i 0)), (cJ (f i 1))])] (.c (.p (.bool (S.stOk (f i 0) (f i 1))))) []) ∧
 (BrP (S.stOk (f i 0) (f i 1))
 (CdP (.i64 ((i : Int) + (1 : Int)))
 (Q .normal ⟨(L4 (.nd (L4 (L4 A4 A4) (L4 (L2 A5) (L3 A3))) (vT 0 0) (L4 (L3 (L2 (L3 (L1 (vJ ((i : Int) + (1 : Int))))))) A1)) (L4 (.nd (L4 (L2 A3) A7) (vJ ((i : Int) + (1 : Int))) (L4 (L2 A3) (L3 A6))) A0)), A2⟩))
 (Q .ret ⟨(L4 (.nd (L4 (L4 A4 A7) (L4 (L2 A5) (L3 A3))) (vT 0 0) (L2 A1)) (.nd (.nd (L2 A4) (vN i) (L4 (L2 A3) (L3 A6))) (vB false) A0)), A2⟩))))
 (Q (.exit 2) ⟨(L4 (.nd (L4 (L3 A7) (L2 (L3 A3))) (vT 0 0) (L2 (L2 (L3 A5)))) (L4 (L5 (vN i) (L2 (L3 A6))) (L2 (L2 (L3 (L3 (L1 (vN nf)))))))), A2⟩)))) (L2 (L3 (L1 (vB false)))))) (L4 (L3 (L2 A6)) (L4 (L2 (L3 (L1 (.ag [(cJ (f i 0)), (cJ (f i 1))])))) (L3 (L3 (L1 (vN nf)))))))) (L3 (L1 (vT 0 9))))) (L4 (L2 (L3 (L1 (.c (.p (.ipt 2 (S.val f i))))))) (L3 A5)))) (L3 (L1 (vS 2 nf f))))) (L2 (L3 (L1 (vB true)))))) (L3 (L1 (vN i))))) [(bP e m t l nc c ns s ta tm r nf f)]) = (ex (cs hbs) (fu + 60) 0 m_ref02_Plane_l2 ⟨setAll [(.o .h, .c (.pt 0 0)), (.i (.o .h), .c (cJ i))], [some (.box t_api_Plane (plC e m t l nc (S.val c) ns (S.val s) ta tm r nf (S.val f)))]⟩ (fun e s => .pr (Q e s))).hold2 := by kernel_rfl
theorem vs_ref02_Planec (fu i : Nat) (e m t l : Int) (nc : Nat) (c : S.Rows) (ns : Nat) (s : S.Rows) (ta tm r : Int) (nf : Nat) (f : S.Rows) (Q : AX → St → Prop) :
 ((fun (A0 : Tr) => ((fun (A1 : Tr) => ((fun (A2 : Tr) => ((fun (A3 : Tr) => ((fun (A4 : Tr) => ((fun (A5 : Tr) => ((fun (A6 : Tr) => ((fun (A7 : Heap) => ((fun (A8 : Tr) => ((fun (A9 : Tr) => ((fun (A10 : Tr) => ((fun (A11 : Tr) => ((BrP (decide ((i : Int) < (nc : Int)))
 (CdP (.rng (i : Int) nc)
 ((FCall (cs hbs) f_ref02_in [(vJ (c i 0)), (vJ 0), (vJ 20000)] (.c (.p (.bool (S.inB (0 : Int) (c i 0) (20000 : Int))))) []) ∧
 (BrP (S.inB (0 : Int) (c i 0) (20000 : Int))
 (CdP (.rng (i : Int) nc)
 ((FCall (cs hbs) f_ref02_in [(vJ (c i 1)), (vJ (-(20000000 : Int))), (vJ 20000000)] (.c (.p (.bool (S.inB (-(20000000 : Int)) (c i 1) (20000000 : Int))))) []) ∧
 (BrP (S.inB (-(20000000 : Int)) (c i 1) (20000000 : Int))
 (CdP (.i64 ((i : Int) + (1 : Int)))
 (Q .normal ⟨(L4 (.nd (L4 (L4 (L4 (L2 (L1 (vJ ((i : Int) + (1 : Int))))) A4) (L3 A3)) (L4 (L3 A0) (L4 (L2 (L1 (vN i))) (L3 A6)))) (vT 0 0) (.nd (L4 (L4 (L2 A6) A3) (L4 A8 A10)) (vJ ((i : Int) + (1 : Int))) A2)) (L4 (L4 (L4 (L4 A8 A3) (L3 A3)) (L4 A1 (L4 A0 A11))) (L4 A9 (L4 (L3 A4) (L4 (L2 (L1 (vJ (c i 1)))) A10))))), A7⟩))
 (Q .ret ⟨(L4 (.nd (L4 (L4 (L2 A3) (L3 A3)) (L4 (L3 A0) (L4 (L2 (L1 (vN i))) (L3 A6)))) (vT 0 0) (.nd (L4 (L4 (L2 A6) A4) (L4 A8 A10)) (vN i) A2)) (.nd (L4 (L4 (L4 A8 A4) (L3 A3)) (L4 A1 (L4 A0 A11))) (vB false) (L4 A9 (L4 (L3 A4) (L3 (L2 (L1 (vJ (c i 1))))))))), A7⟩))))
 (Q .ret ⟨(L4 (.nd (L4 (L4 (L2 A5) (L3 A4)) (L4 (L3 A0) (L4 A5 (L3 A6)))) (vT 0 0) (.nd (L4 (L4 (L2 A6) A4) (L4 A5 A10)) (vN i) (L4 (L3 (L2 (L1 (vJ (c i 0))))) (L4 A5 (L3 (L1 (vB true))))))) (.nd (L4 (L4 (L4 A8 A5) (L3 A4)) (L4 A1 (L4 A5 A11))) (vB false) (L4 (L4 (L3 (L2 (L1 (vN i)))) (L4 A5 (L3 (L1 (vT 0 4))))) (L4 (L3 A3) (L3 A5))))), A7⟩))))
 (Q (.exit 4) ⟨(L4 (.nd (L2 (L2 (L2 (L3 A6)))) (vT 0 0) (.nd (L2 (L2 A10)) (vN i) (L2 (L2 (L3 (L1 (vB false))))))) (L4 (L2 (L2 (L2 A11))) (L3 (L2 (L2 (L3 (L1 (vT 0 4)))))))), A7⟩)))) (L3 (L1 (vN nc))))) (L3 (L1 (vN i))))) (L4 (L3 (L2 (L1 (vN i)))) (L4 (L2 A6) (L3 (L1 (vT 0 4))))))) (L2 (L1 (vT 0 4))))) [(bP e m t l nc c ns s ta tm r nf f)])) (L1 (vS 2 nc c)))) (L2 (L1 (.tp []))))) (L2 (L1 (vB true))))) (L2 (L1 (vB false))))) (L4 (L3 (L2 (L1 (vJ (c i 0))))) (L4 (L2 (L1 (.c (.p (.ipt 1 (fun x16 => (.int .i64 (c i (1 + x16))))))))) (L3 (L1 (vB true))))))) (L3 (L2 (L1 (.c (.p (.ipt 2 (fun x16 => (.int .i64 (c i (0 + x16)))))))))))) (L2 (L1 (.c (.p (.ipt 2 (S.val c i))))))) = (ex (cs hbs) (fu + 60) 0 m_ref02_Plane_l3 ⟨setAll [(.o .h, .c (.pt 0 0)), (.o (.i .h), .c (cJ i))], [some (.box t_api_Plane (plC e m t l nc (S.val c) ns (S.val s) ta tm r nf (S.val f)))]⟩ (fun e s => .pr (Q e s))).hold2 := by kernel_rfl
theorem vs_ref02_Planed (fu i : Nat) (e m t l : Int) (nc : Nat) (c : S.Rows) (ns : Nat) (s : S.Rows) (ta tm r : Int) (nf : Nat) (f : S.Rows) (Q : AX → St → Prop) :
 ((fun (A0 : Heap) => ((BrP (decide ((i : Int) < (nc : Int)))
 ((LoopGo (ex (cs hbs) (fu + 54)) 0 m_ref02_Plane_l5 ⟨(L4 (.nd (L4 (L1 (vJ 0)) (L3 (L2 (L2 (L1 (vT 0 4)))))) (vT 0 0) (L2 (L3 (L2 (L2 (L1 (vN nc))))))) (L4 (L2 (L3 (L2 (L2 (L1 (vS 2 nc c)))))) (.nd (L3 (L2 (L2 (L1 (vN i))))) (vN i) (L3 (L2 (L2 (L1 (vB true)))))))), A0⟩ (.br (S.from_ (S.cvxAt nc c i) nc 0) (.e (.exit 8) ⟨(L4 (L1 (vT 0 0)) (L2 (L1 (vN i)))), A0⟩) (.e .ret ⟨(L2 (L1 (vB false))), A0⟩))) ∧
 (BrP (S.from_ (S.cvxAt nc c i) nc 0)
 (CdP (.i64 ((i : Int) + (1 : Int)))
 (Q .normal ⟨(L4 (L6 (L3 (L2 (L2 (L2 (L1 (vN i)))))) (vT 0 0)) (L4 (L3 (L2 (L2 (L2 (L1 (vJ ((i : Int) + (1 : Int)))))))) (L1 (vJ ((i : Int) + (1 : Int)))))), A0⟩))
 (Q .ret ⟨(L2 (L1 (vB false))), A0⟩)))
 (Q (.exit 6) ⟨(L4 (.nd (L2 (L3 (L2 (L2 (L1 (vT 0 4)))))) (vT 0 0) (L2 (L3 (L2 (L2 (L1 (vN nc))))))) (L4 (L2 (L3 (L2 (L2 (L1 (vS 2 nc c)))))) (.nd (L3 (L2 (L2 (L1 (vN i))))) (vN i) (L3 (L2 (L2 (L1 (vB false)))))))), A0⟩)))) [(bP e m t l nc c ns s ta tm r nf f)]) = (ex (cs hbs) (fu + 60) 0 m_ref02_Plane_l4 ⟨setAll [(.o .h, .c (.pt 0 0)), (.i (.i .h), .c (cJ i))], [some (.box t_api_Plane (plC e m t l nc (S.val c) ns (S.val s) ta tm r nf (S.val f)))]⟩ (fun e s => .pr (Q e s))).hold2 := by kernel_rfl
theorem vs_ref02_Planee (fu i ed : Nat) (e m t l : Int) (nc : Nat) (c : S.Rows) (ns : Nat) (s : S.Rows) (ta tm r : Int) (nf : Nat) (f : S.Rows) (Q : AX → St → Prop) :
 ((fun (A0 : Tr) => ((fun (A2 : Tr) => ((fun (A4 : Tr) => ((fun (A5 : Tr) => ((fun (A6 : Heap) => ((fun (A7 : Tr) => ((fun (A8 : AV) => ((fun (A9 : Tr) => ((fun (A10 : Tr) => ((fun (A11 : Tr) => ((fun (A1 : Tr) => ((fun (A12 : Tr) => ((fun (A13 : AV) => ((fun (A14 : Tr) => ((fun (A15 : Tr) => ((fun (A16 : Tr) => ((fun (A3 : Tr) => ((fun (A17 : Tr) => ((BrP (decide ((i : Int) < (nc : Int)))
 (BrP ((i : Int) != (ed : Int))
 (CdP (.i64 ((ed : Int) + (1 : Int)))
 (CdP (.ne (nc : Int))
 (BrP ((i : Int) != (Int.tmod ((ed : Int) + (1 : Int)) (nc : Int)))
 (CdP (.rng (i : Int) nc)
 (CdP (.rng (i : Int) nc)
 ((FCall (cs hbs) f_ref02_Side [A13, (vN ed), (vJ (c i 0)), (vJ (c i 1))] (vJ (S.sd nc c ed (c i 0) (c i 1))) []) ∧
 (BrP (decide ((S.sd nc c ed (c i 0) (c i 1)) ≤ (0 : Int)))
 (Q .ret ⟨(L4 (.nd (L4 (.nd (L2 A5) (vN i) (L4 A11 (L3 (L3 A7)))) A17) (vT 0 0) (L4 A14 (L4 (L4 A5 (L3 (L3 (L1 (vJ (c i 0)))))) (L4 A2 (L4 (L3 (L1 (vB true))) (L1 (vB true))))))) (.nd A1 (vB false) (.nd A3 (vN ed) (L4 (L4 A12 A11) (L4 (L3 (L3 (L1 A13))) A2))))), A6⟩)
 (CdP (.i64 ((i : Int) + (1 : Int)))
 (Q .normal ⟨(L4 (.nd (L4 (.nd (L4 (L3 (L3 (L1 A8))) A5) A8 (L4 A11 (L3 (L3 A7)))) A17) (vT 0 0) (L4 A14 (L4 (L4 A5 (L3 (L3 (L1 (vJ (c i 0)))))) (L4 A2 (L4 A4 (L1 (vB true))))))) (L4 A1 (.nd A3 (vN ed) (L4 (L4 A12 A11) (L4 (L3 (L3 (L1 A13))) (L4 A4 (L1 (vN i)))))))), A6⟩))))))
 (CdP (.i64 ((i : Int) + (1 : Int)))
 (Q .normal ⟨(L4 (.nd (L4 (.nd (L4 (L3 (L3 (L1 A8))) (L3 A0)) A8 (L4 A11 (L3 A0))) (L4 (L4 A2 (L3 A0)) (L4 (L3 A4) (L4 A0 A7)))) (vT 0 0) (L4 (L4 (L4 A5 (L3 A0)) (L4 (L3 (L3 (L1 (vN nc)))) (L4 A0 (L1 (vN i))))) (L4 (L4 A5 (L3 A0)) (L4 (L3 A4) (L4 A0 (L1 (vB true))))))) (L4 (L4 (L4 (L4 A10 (L3 A0)) (L4 (L3 (L3 A7)) (L3 A0))) (L4 (L4 A10 (L3 A0)) (L4 (L3 A4) (L4 A0 (L1 (vN nc)))))) (.nd (L4 (L4 A2 (L3 A0)) (L4 A16 (L4 A0 (L1 (vT 0 4))))) (vN ed) (L4 (L4 A12 (L3 A0)) (L4 (L3 A0) (L4 A4 (L1 (vN i)))))))), A6⟩)))))
 (CdP (.i64 ((i : Int) + (1 : Int)))
 (Q .normal ⟨(L4 (.nd (L4 (.nd (L4 (L3 (L3 (L1 A8))) (L3 A0)) A8 A15) (L4 (L4 (L3 A4) (L3 A0)) (L4 (L3 A0) (L4 A0 A7)))) (vT 0 0) (L4 (L4 (L4 A5 (L3 A0)) (L4 (L3 A0) (L4 A0 (L1 (vN i))))) (L4 A15 (L4 (L3 A4) (L4 A0 (L1 (vB true))))))) (L4 (L4 (L4 (L4 A10 (L3 A0)) A15) (L4 A15 (L4 (L3 A4) (L4 A0 (L1 (vN nc)))))) (.nd (L4 (L4 (L3 A4) (L3 A0)) (L4 (L3 A0) (L4 A0 (L1 (vT 0 4))))) (vN ed) (L4 A15 (L4 (L3 A0) (L4 A4 (L1 (vN i)))))))), A6⟩)))
 (Q (.exit 8) ⟨(L4 (.nd (L4 (L1 (vN i)) (L2 (L2 (L2 A7)))) (vT 0 0) (L4 (L2 (L2 (L2 (L1 (vN i))))) (L2 (L2 (L2 (L1 (vB false))))))) (L4 (L2 (L2 (L2 (L2 (L1 (vN nc)))))) (L6 (L2 (L2 (L2 (L1 (vT 0 4))))) (vN ed)))), A6⟩)))) (L4 (L4 A2 (L3 A9)) (L4 A2 (L4 (L3 (L1 (vJ (c i 1)))) A7))))) (L4 (L4 A2 A10) (L4 A16 (L4 (L3 (L1 (.c (.p (.ipt 1 (fun x17 => (.int .i64 (c i (1 + x17))))))))) (L1 (vT 0 4))))))) (L3 (L3 (L1 (vJ (Int.tmod ((ed : Int) + (1 : Int)) (nc : Int)))))))) (L4 (L3 A0) (L3 A0)))) (L4 (L4 A5 (L3 (L3 A7))) (L4 (L3 (L3 (L1 (vN nc)))) (L4 A9 (L1 (vN i))))))) (.ag (kP e m t l nc c ns s ta tm r nf f)))) (L3 (L3 (L1 (vJ ((ed : Int) + (1 : Int)))))))) (L4 (L4 (L4 A10 A11) (L4 (L3 (L3 A7)) A10)) (L4 (L4 A10 (L3 (L3 (L1 (.c (.p (.ipt 2 (fun x17 => (.int .i64 (c i (0 + x17))))))))))) (L4 A2 (L4 (L3 (L1 (vJ (S.sd nc c ed (c i 0) (c i 1))))) (L1 (vN nc)))))))) (L3 (L3 (L1 (vT 0 4)))))) (L3 (L3 (L1 (vN i)))))) (L3 (L1 (.c (.p (.ipt 2 (S.val c i)))))))) (vJ ((i : Int) + (1 : Int))))) (L1 (vS 2 nc c)))) [(bP e m t l nc c ns s ta tm r nf f)])) (L3 (L3 (L1 (vN ed)))))) (L3 (L1 (vB false))))) (L3 (L3 (L1 (vB true)))))) (L3 (L1 (.tp [])))) = (ex (cs hbs) (fu + 60) 0 m_ref02_Plane_l5 ⟨setAll [(.o .h, .c (.pt 0 0)), (.i (.i .h), .c (cJ ed)), (.o (.o (.o .h)), .c (cJ i))], [some (.box t_api_Plane (plC e m t l nc (S.val c) ns (S.val s) ta tm r nf (S.val f)))]⟩ (fun e s => .pr (Q e s))).hold2 := by kernel_rfl
end
end Go.Ab.B
namespace Go.Ab
theorem frz_i {H : Heap} {a b : Int} (h : b = a) : frzA H (vI .i64 a) = some (vI .i64 b) := by subst h; rfl
end Go.Ab
namespace Go.Ab.B
open Go.Proofs
section
variable {hbs : BsOk Tryd.prog} (hT : TabOk (cs hbs))
include hT
theorem fc_load_stationsFine' (ta tm : Int) : FCall (cs hbs) f_load_stationsFine [.c (.p (.isl 2 1 (fun i => (fun j => (List.getD [(.int .i64 ta), (.int .i64 tm)] ((i * 2) + j) .npt)))))] (vB (S.stOk ta tm)) [] := by
  have h := (fc_load_stationsFine hT 1 (S.num fun i => (fun j => (List.getD [(.int .i64 ta), (.int .i64 tm)] ((i * 2) + j) .npt))) (by decide)).like (args := [.c (.p (.isl 2 1 (fun i => (fun j => (List.getD [(.int .i64 ta), (.int .i64 tm)] ((i * 2) + j) .npt)))))])
    ⟨.inr ⟨rfl, rfl, fun i j hi hj => by
      have : i = 0 := by omega
      subst this
      match j, hj with
      | 0, _ => rfl
      | 1, _ => rfl⟩, trivial⟩
  have e : S.stn 1 (S.num fun i => (fun j => (List.getD [(.int .i64 ta), (.int .i64 tm)] ((i * 2) + j) .npt))) = S.stOk ta tm := by
    show (S.stOk ta tm && true) = _
    simp
  rwa [e] at h
variable {e m t l : Int} {nc : Nat} {c : S.Rows} {ns : Nat} {s : S.Rows} {ta tm r : Int} {nf : Nat} {f : S.Rows} (hnc : nc ≤ maxLen) (hns : ns ≤ maxLen) (hnf : nf ≤ maxLen)
include hnc hns hnf
theorem fc_load_planeFine : FCall (cs hbs) f_load_planeFine [.ag (plC e m t l nc (S.val c) ns (S.val s) ta tm r nf (S.val f))] (vB (S.plane e m t l nc c ns s ta tm r nf f)) [] := by
  have e50 : S.stn 1 (S.num fun i => (fun j => (List.getD [(.int .i64 ta), (.int .i64 tm)] ((i * 2) + j) .npt))) = S.stOk ta tm := by
    show (S.stOk ta tm && true) = _
    simp
  refine fcall_k hT (F := F_load_planeFine) rfl (vc_load_planeFine e m t l nc c ns s ta tm r nf f _) ?_
  refine ⟨fc_load_holds hT _ _ _, brP (fun h1 => ⟨fc_load_holds hT _ _ _, brP (fun h2 => ⟨fc_load_holds hT _ _ _, brP (fun h3 => ⟨fc_load_holds hT _ _ _, brP (fun h4 => ⟨fc_load_holds hT _ _ _, brP (fun h5 => ⟨fc_load_cornersFine hT nc c hnc, brP (fun h6 => brP (fun h7 => brP (fun h8 => ⟨by rw [e50]; exact fc_load_stationsFine' hT ta tm, brP (fun h9 => ⟨fc_load_stationsFine hT _ _ hns, brP (fun h10 => ⟨fc_load_stationsFine hT _ _ hnf, brP (fun h11 => ?_) fun h11 => ?_⟩) fun h10 => ?_⟩) fun h9 => ?_⟩) fun h8 => ?_) fun h7 => ?_) fun h6 => ?_⟩) fun h5 => ?_⟩) fun h4 => ?_⟩) fun h3 => ?_⟩) fun h2 => ?_⟩) fun h1 => ?_⟩
  all_goals (try rw [e50] at h9)
  all_goals (refine frz_b ?_)
  all_goals (simp only [S.plane])
  all_goals (simp [*])
omit hT hns hnf in
theorem fc_ref02_Side {ed : Nat} {w mo : Int} (hT : TabOk (cs hbs)) (hc : S.cor nc c = true) (he : ed < nc) (hw1 : -1000000 ≤ w) (hw2 : w ≤ 1000000) (hm1 : -1000000000 ≤ mo) (hm2 : mo ≤ 1000000000) :
    FCall (cs hbs) f_ref02_Side [.ag (plC e m t l nc (S.val c) ns (S.val s) ta tm r nf (S.val f)), .c (.p (.int .i64 ed)), .c (.p (.int .i64 w)), .c (.p (.int .i64 mo))] (vI .i64 (S.sd nc c ed w mo)) [] := by
  refine fcall_k hT (F := F_ref02_Side) rfl (vc_ref02_Side e m t l nc c ns s ta tm r nf f ed w mo _) ?_
  have e1 : Int.tmod ((ed : Int) + 1) (nc : Int) = (S.nxt nc ed : Int) := S.nxt_tmod (by omega)
  have e0 : Int.tmod (ed : Int) (nc : Int) = (ed : Int) := Int.tmod_eq_of_lt (by omega) (by omega)
  have e2 : (Int.tmod ((ed : Int) + 1) (nc : Int)).toNat = S.nxt nc ed := by rw [e1]; rfl
  have e3 : (Int.tmod (ed : Int) (nc : Int)).toNat = ed := by rw [e0]; rfl
  have hx : S.nxt nc ed < nc := S.nxt_lt (by omega)
  obtain ⟨b1, b2, b3, b4, b5, b6⟩ := S.sd_in hc he hw1 hw2 hm1 hm2
  rw [e2, e3]
  refine cdP (ne_nat (by omega)) (cdP (by rw [e0]; exact idx_ok he) (cdP (i64_nat he hnc) (cdP (ne_nat (by omega)) (cdP (by rw [e1]; exact idx_ok hx) (cdP ?_ (cdP ?_ (cdP ?_ (cdP ?_ (cdP ?_ (cdP ?_ (cdP ?_ ?_)))))))))))
  all_goals first | exact i64_of (by omega) (by omega) | exact frz_i rfl
abbrev HP (e m t l : Int) (nc : Nat) (c : S.Rows) (ns : Nat) (s : S.Rows) (ta tm r : Int) (nf : Nat) (f : S.Rows) : Heap := [some (.box t_api_Plane (plC e m t l nc (S.val c) ns (S.val s) ta tm r nf (S.val f)))]
omit hns hnf in
end
section
variable {hbs : BsOk Tryd.prog} (hT : TabOk (cs hbs))
variable {e m t l : Int} {nc : Nat} {c : S.Rows} {ns : Nat} {s : S.Rows} {ta tm r : Int} {nf : Nat} {f : S.Rows} (hnc : nc ≤ maxLen) (hns : ns ≤ maxLen) (hnf : nf ≤ maxLen)
include hT
theorem go_ref02_Planea (fu : Nat) (hns : ns ≤ maxLen) : ∀ (i : Nat) (st : St), i ≤ ns → Has st [(.o .h, .c (.pt 0 0)), (.o (.o .h), .c (.p (.int .i64 i)))] (HP e m t l nc c ns s ta tm r nf f) →
    LoopGo (ex (cs hbs) (fu + 60)) 0 m_ref02_Plane_l1 st (.br (S.from_ (S.stnAt s) ns i) (.e (.exit 0) ⟨setAll [(.o .h, .c (.pt 0 0))], HP e m t l nc c ns s ta tm r nf f⟩) (.e .ret ⟨setAll [(.i .h, vB false)], HP e m t l nc c ns s ta tm r nf f⟩)) :=
  loop_k (σ := Nat) (fun i => [(.o .h, .c (.pt 0 0)), (.o (.o .h), .c (.p (.int .i64 i)))]) (fun _ => HP e m t l nc c ns s ta tm r nf f) (fun i => i ≤ ns) (fun i => ns - i)
    (fun i => .br (S.from_ (S.stnAt s) ns i) (.e (.exit 0) ⟨setAll [(.o .h, .c (.pt 0 0))], HP e m t l nc c ns s ta tm r nf f⟩) (.e .ret ⟨setAll [(.i .h, vB false)], HP e m t l nc c ns s ta tm r nf f⟩)) (fun _ => Nat.zero_le _) _ (fun i Q => vs_ref02_Planea (hbs := hbs) fu i e m t l nc c ns s ta tm r nf f Q) fun i hi K hL X hX => by
      refine brP (fun h1 => ?_) fun h1 => ?_
      · have hlt : i < ns := by simpa using h1
        refine cdP (idx_ok hlt) ⟨fc_ref02_station hT _ _, brP (fun h2 => cdP (i64_nat hlt hns) ?_) fun h2 => ?_⟩
        · refine hX (i + 1) _ (by omega) (by omega) (.cons (by kernel_rfl) rfl (.cons (by kernel_rfl) rfl (.nil (ex := []) rfl rfl))) ?_
          rw [S.from_step hlt, show S.stnAt s i = true from h2, Bool.true_and] at hL
          exact hL
        · rw [S.from_step hlt, show S.stnAt s i = false from h2, Bool.false_and] at hL
          exact Has.out (l := [(.i .h, vB false)]) (.cons (by kernel_rfl) rfl (.nil (ex := []) rfl rfl)) (Nat.zero_le _) hL
      · have hlt : ns ≤ i := by simpa using h1
        rw [S.from_end hlt] at hL
        exact Has.out (l := [(.o .h, .c (.pt 0 0))]) (.cons (by kernel_rfl) rfl (.nil (ex := []) rfl rfl)) (Nat.zero_le _) hL
theorem go_ref02_Planeb (fu : Nat) (hnf : nf ≤ maxLen) : ∀ (i : Nat) (st : St), i ≤ nf → Has st [(.o .h, .c (.pt 0 0)), (.i (.o .h), .c (.p (.int .i64 i)))] (HP e m t l nc c ns s ta tm r nf f) →
    LoopGo (ex (cs hbs) (fu + 60)) 0 m_ref02_Plane_l2 st (.br (S.from_ (S.stnAt f) nf i) (.e (.exit 2) ⟨setAll [(.o .h, .c (.pt 0 0))], HP e m t l nc c ns s ta tm r nf f⟩) (.e .ret ⟨setAll [(.i .h, vB false)], HP e m t l nc c ns s ta tm r nf f⟩)) :=
  loop_k (σ := Nat) (fun i => [(.o .h, .c (.pt 0 0)), (.i (.o .h), .c (.p (.int .i64 i)))]) (fun _ => HP e m t l nc c ns s ta tm r nf f) (fun i => i ≤ nf) (fun i => nf - i)
    (fun i => .br (S.from_ (S.stnAt f) nf i) (.e (.exit 2) ⟨setAll [(.o .h, .c (.pt 0 0))], HP e m t l nc c ns s ta tm r nf f⟩) (.e .ret ⟨setAll [(.i .h, vB false)], HP e m t l nc c ns s ta tm r nf f⟩)) (fun _ => Nat.zero_le _) _ (fun i Q => vs_ref02_Planeb (hbs := hbs) fu i e m t l nc c ns s ta tm r nf f Q) fun i hi K hL X hX => by
      refine brP (fun h1 => ?_) fun h1 => ?_
      · have hlt : i < nf := by simpa using h1
        refine cdP (idx_ok hlt) ⟨fc_ref02_station hT _ _, brP (fun h2 => cdP (i64_nat hlt hnf) ?_) fun h2 => ?_⟩
        · refine hX (i + 1) _ (by omega) (by omega) (.cons (by kernel_rfl) rfl (.cons (by kernel_rfl) rfl (.nil (ex := []) rfl rfl))) ?_
          rw [S.from_step hlt, show S.stnAt f i = true from h2, Bool.true_and] at hL
          exact hL
        · rw [S.from_step hlt, show S.stnAt f i = false from h2, Bool.false_and] at hL
          exact Has.out (l := [(.i .h, vB false)]) (.cons (by kernel_rfl) rfl (.nil (ex := []) rfl rfl)) (Nat.zero_le _) hL
      · have hlt : nf ≤ i := by simpa using h1
        rw [S.from_end hlt] at hL
        exact Has.out (l := [(.o .h, .c (.pt 0 0))]) (.cons (by kernel_rfl) rfl (.nil (ex := []) rfl rfl)) (Nat.zero_le _) hL
theorem go_ref02_Planec (fu : Nat) (hnc : nc ≤ maxLen) : ∀ (i : Nat) (st : St), i ≤ nc → Has st [(.o .h, .c (.pt 0 0)), (.o (.i .h), .c (.p (.int .i64 i)))] (HP e m t l nc c ns s ta tm r nf f) →
    LoopGo (ex (cs hbs) (fu + 60)) 0 m_ref02_Plane_l3 st (.br (S.from_ (S.corAt c) nc i) (.e (.exit 4) ⟨setAll [(.o .h, .c (.pt 0 0))], HP e m t l nc c ns s ta tm r nf f⟩) (.e .ret ⟨setAll [(.i .h, vB false)], HP e m t l nc c ns s ta tm r nf f⟩)) :=
  loop_k (σ := Nat) (fun i => [(.o .h, .c (.pt 0 0)), (.o (.i .h), .c (.p (.int .i64 i)))]) (fun _ => HP e m t l nc c ns s ta tm r nf f) (fun i => i ≤ nc) (fun i => nc - i)
    (fun i => .br (S.from_ (S.corAt c) nc i) (.e (.exit 4) ⟨setAll [(.o .h, .c (.pt 0 0))], HP e m t l nc c ns s ta tm r nf f⟩) (.e .ret ⟨setAll [(.i .h, vB false)], HP e m t l nc c ns s ta tm r nf f⟩)) (fun _ => Nat.zero_le _) _ (fun i Q => vs_ref02_Planec (hbs := hbs) fu i e m t l nc c ns s ta tm r nf f Q) fun i hi K hL X hX => by
      refine brP (fun h1 => ?_) fun h1 => ?_
      · have hlt : i < nc := by simpa using h1
        refine cdP (idx_ok hlt) ⟨fc_ref02_in hT _ _ _, brP (fun h2 => cdP (idx_ok hlt) ⟨fc_ref02_in hT _ _ _, brP (fun h3 => cdP (i64_nat hlt hnc) ?_) fun h3 => ?_⟩) fun h2 => ?_⟩
        · refine hX (i + 1) _ (by omega) (by omega) (.cons (by kernel_rfl) rfl (.cons (by kernel_rfl) rfl (.nil (ex := []) rfl rfl))) ?_
          rw [S.from_step hlt, show S.corAt c i = true by simp [S.corAt, h2, h3], Bool.true_and] at hL
          exact hL
        · rw [S.from_step hlt, show S.corAt c i = false by simp [S.corAt, h2, h3], Bool.false_and] at hL
          exact Has.out (l := [(.i .h, vB false)]) (.cons (by kernel_rfl) rfl (.nil (ex := []) rfl rfl)) (Nat.zero_le _) hL
        · rw [S.from_step hlt, show S.corAt c i = false by simp [S.corAt, h2], Bool.false_and] at hL
          exact Has.out (l := [(.i .h, vB false)]) (.cons (by kernel_rfl) rfl (.nil (ex := []) rfl rfl)) (Nat.zero_le _) hL
      · have hlt : nc ≤ i := by simpa using h1
        rw [S.from_end hlt] at hL
        exact Has.out (l := [(.o .h, .c (.pt 0 0))]) (.cons (by kernel_rfl) rfl (.nil (ex := []) rfl rfl)) (Nat.zero_le _) hL
abbrev lv11e (ed i : Nat) : List (Ps × AV) := [(.o .h, .c (.pt 0 0)), (.i (.i .h), .c (.p (.int .i64 ed))), (.o (.o (.o .h)), .c (.p (.int .i64 i)))]
theorem go_ref02_Planee (fu ed : Nat) (hnc : nc ≤ maxLen) (hc : S.cor nc c = true) (he : ed < nc) : ∀ (i : Nat) (st : St), i ≤ nc → Has st (lv11e ed i) (HP e m t l nc c ns s ta tm r nf f) →
    LoopGo (ex (cs hbs) (fu + 60)) 0 m_ref02_Plane_l5 st (.br (S.from_ (S.cvxAt nc c ed) nc i) (.e (.exit 8) ⟨setAll [(.o .h, .c (.pt 0 0)), (.i (.i .h), .c (.p (.int .i64 ed)))], HP e m t l nc c ns s ta tm r nf f⟩) (.e .ret ⟨setAll [(.i .h, vB false)], HP e m t l nc c ns s ta tm r nf f⟩)) :=
  loop_k (σ := Nat) (lv11e ed) (fun _ => HP e m t l nc c ns s ta tm r nf f) (fun i => i ≤ nc) (fun i => nc - i)
    (fun i => .br (S.from_ (S.cvxAt nc c ed) nc i) (.e (.exit 8) ⟨setAll [(.o .h, .c (.pt 0 0)), (.i (.i .h), .c (.p (.int .i64 ed)))], HP e m t l nc c ns s ta tm r nf f⟩) (.e .ret ⟨setAll [(.i .h, vB false)], HP e m t l nc c ns s ta tm r nf f⟩)) (fun _ => Nat.zero_le _) _ (fun i Q => vs_ref02_Planee (hbs := hbs) fu i ed e m t l nc c ns s ta tm r nf f Q) fun i hi K hL X hX => by
      have go : ∀ st, i < nc → S.cvxAt nc c ed i = true → Has st (lv11e ed (i + 1)) (HP e m t l nc c ns s ta tm r nf f) → X st := fun st hlt ee hh => by
        refine hX (i + 1) st (by omega) (by omega) hh ?_
        rw [S.from_step hlt, ee, Bool.true_and] at hL
        exact hL
      refine brP (fun h1 => ?_) fun h1 => ?_
      · have hlt : i < nc := by simpa using h1
        have e1 : Int.tmod ((ed : Int) + 1) (nc : Int) = (S.nxt nc ed : Int) := S.nxt_tmod (by omega)
        have hk1 := S.from_iff.1 hc i (Nat.zero_le _) hlt
        simp only [S.corAt, Bool.and_eq_true, S.inB_iff] at hk1
        refine brP (fun h2 => cdP (i64_nat he hnc) (cdP (ne_nat (by omega)) (brP (fun h3 => cdP (idx_ok hlt) (cdP (idx_ok hlt) ⟨fc_ref02_Side hnc hT hc he (by omega) (by omega) (by omega) (by omega), brP (fun h4 => ?_) fun h4 => cdP (i64_nat hlt hnc) ?_⟩)) fun h3 => cdP (i64_nat hlt hnc) ?_))) fun h2 => cdP (i64_nat hlt hnc) ?_
        · have n1 : ¬ i = ed := by simp at h2; omega
          have n2 : ¬ i = S.nxt nc ed := by rw [e1] at h3; simp at h3; omega
          have n3 : ¬ 0 < S.sd nc c ed (c i 0) (c i 1) := by simp only [decide_eq_true_eq] at h4; omega
          have ee : S.cvxAt nc c ed i = false := by simp [S.cvxAt, n1, n2, n3]
          rw [S.from_step hlt, ee, Bool.false_and] at hL
          exact Has.out (l := [(.i .h, vB false)]) (.cons (by kernel_rfl) rfl (.nil (ex := []) rfl rfl)) (Nat.zero_le _) hL
        · refine go _ hlt ?_ (.cons (by kernel_rfl) rfl (.cons (by kernel_rfl) rfl (.cons (by kernel_rfl) rfl (.nil (ex := []) rfl rfl))))
          have n3 : 0 < S.sd nc c ed (c i 0) (c i 1) := by simp only [decide_eq_false_iff_not] at h4; omega
          simp [S.cvxAt, n3]
        · refine go _ hlt ?_ (.cons (by kernel_rfl) rfl (.cons (by kernel_rfl) rfl (.cons (by kernel_rfl) rfl (.nil (ex := []) rfl rfl))))
          have : i = S.nxt nc ed := by rw [e1] at h3; simp at h3; omega
          simp [S.cvxAt, ← this]
        · refine go _ hlt ?_ (.cons (by kernel_rfl) rfl (.cons (by kernel_rfl) rfl (.cons (by kernel_rfl) rfl (.nil (ex := []) rfl rfl))))
          have : i = ed := by simp at h2; omega
          simp [S.cvxAt, this]
      · have hlt : nc ≤ i := by simpa using h1
        rw [S.from_end hlt] at hL
        exact Has.out (l := [(.o .h, .c (.pt 0 0)), (.i (.i .h), .c (.p (.int .i64 ed)))]) (.cons (by kernel_rfl) rfl (.cons (by kernel_rfl) rfl (.nil (ex := []) rfl rfl))) (Nat.zero_le _) hL
theorem go_ref02_Planed (fu : Nat) (hnc : nc ≤ maxLen) (hc : S.cor nc c = true) : ∀ (i : Nat) (st : St), i ≤ nc → Has st [(.o .h, .c (.pt 0 0)), (.i (.i .h), .c (.p (.int .i64 i)))] (HP e m t l nc c ns s ta tm r nf f) →
    LoopGo (ex (cs hbs) (fu + 6 + 60)) 0 m_ref02_Plane_l4 st (.br (S.from_ (S.cvxRow nc c) nc i) (.e (.exit 6) ⟨setAll [(.o .h, .c (.pt 0 0))], HP e m t l nc c ns s ta tm r nf f⟩) (.e .ret ⟨setAll [(.i .h, vB false)], HP e m t l nc c ns s ta tm r nf f⟩)) :=
  loop_k (σ := Nat) (fun i => [(.o .h, .c (.pt 0 0)), (.i (.i .h), .c (.p (.int .i64 i)))]) (fun _ => HP e m t l nc c ns s ta tm r nf f) (fun i => i ≤ nc) (fun i => nc - i)
    (fun i => .br (S.from_ (S.cvxRow nc c) nc i) (.e (.exit 6) ⟨setAll [(.o .h, .c (.pt 0 0))], HP e m t l nc c ns s ta tm r nf f⟩) (.e .ret ⟨setAll [(.i .h, vB false)], HP e m t l nc c ns s ta tm r nf f⟩)) (fun _ => Nat.zero_le _) _ (fun i Q => vs_ref02_Planed (hbs := hbs) (fu + 6) i e m t l nc c ns s ta tm r nf f Q) fun i hi K hL X hX => by
      refine brP (fun h1 => ?_) fun h1 => ?_
      · have hlt : i < nc := by simpa using h1
        refine ⟨go_ref02_Planee hT fu i hnc hc hlt 0 _ (Nat.zero_le _) (.cons (by kernel_rfl) rfl (.cons (by kernel_rfl) rfl (.cons (by kernel_rfl) rfl (.nil (ex := []) rfl rfl)))), brP (fun h2 => cdP (i64_nat hlt hnc) ?_) fun h2 => ?_⟩
        · refine hX (i + 1) _ (by omega) (by omega) (.cons (by kernel_rfl) rfl (.cons (by kernel_rfl) rfl (.nil (ex := []) rfl rfl))) ?_
          rw [S.from_step hlt, show S.cvxRow nc c i = true from h2, Bool.true_and] at hL
          exact hL
        · rw [S.from_step hlt, show S.cvxRow nc c i = false from h2, Bool.false_and] at hL
          exact Has.out (l := [(.i .h, vB false)]) (.cons (by kernel_rfl) rfl (.nil (ex := []) rfl rfl)) (Nat.zero_le _) hL
      · have hlt : nc ≤ i := by simpa using h1
        rw [S.from_end hlt] at hL
        exact Has.out (l := [(.o .h, .c (.pt 0 0))]) (.cons (by kernel_rfl) rfl (.nil (ex := []) rfl rfl)) (Nat.zero_le _) hL
include hnc hns hnf
theorem fc_ref02_Plane : FCall (cs hbs) f_ref02_Plane [.ag (plC e m t l nc (S.val c) ns (S.val s) ta tm r nf (S.val f))] (vB (S.plane e m t l nc c ns s ta tm r nf f)) [] := by
  refine fcall_k hT (F := F_ref02_Plane) rfl (vc_ref02_Plane e m t l nc c ns s ta tm r nf f _) ?_
  refine ⟨fc_ref02_in hT _ _ _, brP (fun h1 => ⟨fc_ref02_in hT _ _ _, brP (fun h2 => ⟨fc_ref02_in hT _ _ _, brP (fun h3 => ⟨fc_ref02_in hT _ _ _, brP (fun h4 => ⟨fc_ref02_in hT _ _ _, brP (fun h5 => ⟨fc_ref02_in hT _ _ _, brP (fun h6 => brP (fun h7 => ?_) (fun h7 => ⟨fc_ref02_station hT _ _, brP (fun h8 => brP (fun h9 => ?_) fun h9 =>
    ⟨go_ref02_Planea hT 934 hns 0 _ (Nat.zero_le _) (.cons (by kernel_rfl) rfl (.cons (by kernel_rfl) rfl (.nil (ex := []) rfl rfl))), brP (fun h10 => ⟨go_ref02_Planeb hT 933 hnf 0 _ (Nat.zero_le _) (.cons (by kernel_rfl) rfl (.cons (by kernel_rfl) rfl (.nil (ex := []) rfl rfl))), brP (fun h11 =>
      ⟨go_ref02_Planec hT 932 hnc 0 _ (Nat.zero_le _) (.cons (by kernel_rfl) rfl (.cons (by kernel_rfl) rfl (.nil (ex := []) rfl rfl))), brP (fun h12 => ⟨go_ref02_Planed hT 925 hnc h12 0 _ (Nat.zero_le _) (.cons (by kernel_rfl) rfl (.cons (by kernel_rfl) rfl (.nil (ex := []) rfl rfl))), brP (fun h13 => ?_) fun h13 => ?_⟩) fun h12 => ?_⟩) fun h11 => ?_⟩) fun h10 => ?_⟩) fun h8 => ?_⟩)) fun h6 => ?_⟩) fun h5 => ?_⟩) fun h4 => ?_⟩) fun h3 => ?_⟩) fun h2 => ?_⟩) fun h1 => ?_⟩
  all_goals (refine frz_b ?_)
  all_goals (simp only [S.plane, S.corners, S.cor, S.cvx, S.stn])
  all_goals (try simp only [decide_eq_true_eq, decide_eq_false_iff_not] at h7)
  all_goals (try have h7 : decide ((ns : Int) ≤ 8) = false := decide_eq_false (by omega))
  all_goals (try have h7 : decide ((ns : Int) ≤ 8) = true := decide_eq_true (by omega))
  all_goals (try simp only [decide_eq_true_eq, decide_eq_false_iff_not] at h9)
  all_goals (try have h9 : decide ((nf : Int) ≤ 2) = false := decide_eq_false (by omega))
  all_goals (try have h9 : decide ((nf : Int) ≤ 2) = true := decide_eq_true (by omega))
  all_goals (simp [*])
end
end Go.Ab.B
namespace Go.Ab.S
def endOf (b : Bool) (lo hi : Int) : Int := match b with | true => hi | false => lo
def ends (c : Rows) (k : Nat) (b : Bool) : Rows := fun i _ => endOf b (c i k) (c i (k + 1))
def span (l h lo hi : Int) : Bool := inB lo l h && decide (h ≤ hi)
def itAt (c : Rows) (st : Int) (i : Nat) : Bool := inB 0 (c i 0) (st - 1) && span (c i 1) (c i 2) 0 20000
def itemsOk (n : Nat) (c : Rows) (st : Int) : Bool := from_ (itAt c st) n 0 && decide ((n : Int) ≤ 12)
def wtAt (w : Rows) (i : Nat) : Bool := span (w i 0) (w i 1) 0 120000
def point (ns nf n : Nat) (it : Rows) (lo hi : Int) (m : Nat) (wt : Rows) : Bool :=
  from_ (wtAt wt) m 0 && (itemsOk n it ns && span lo hi (-120000) 140000 && decide ((m : Int) = (nf : Int)))
def sumR (f : Nat → Int) : Nat → Nat → Int
  | 0, _ => 0
  | k + 1, i => f i + sumR f k (i + 1)
def itW (c : Rows) (i : Nat) : Int := c i 0
def itM (c it s : Rows) (i : Nat) : Int := c i 0 * s (it i 0).toNat 0
def wtM (w f : Rows) (i : Nat) : Int := w i 0 * f i 0
def wgt (e tank : Int) (n : Nat) (c : Rows) (m : Nat) (w : Rows) : Int := e + tank + sumR (itW c) n 0 + sumR (itW w) m 0
def mom (mo tank ta : Int) (n : Nat) (c it s : Rows) (m : Nat) (w f : Rows) : Int := mo + tank * ta + sumR (itM c it s) n 0 + sumR (wtM w f) m 0
def eqAt (a b : Rows) (i : Nat) : Bool := a i 0 == b i 0
def same (n : Nat) (a : Rows) (m : Nat) (b : Rows) : Bool := decide ((n : Int) = (m : Int)) && from_ (eqAt a b) n 0
def sameCase (n : Nat) (a : Rows) (x : Int) (m : Nat) (w : Rows) (n' : Nat) (a' : Rows) (x' : Int) (m' : Nat) (w' : Rows) : Bool := same n a n' a' && ((x == x') && same m w m' w')
def atR (it c : Rows) (st : Int) (i : Nat) : Int := match it i 0 == st with | true => c i 0 | false => 0
def many (nc ns nf : Nat) (ru : Int) : Int := match ru == 2 with
  | true => ns
  | false => match ru == 4 with
    | true => nf
    | false => match ru == 6 with
      | true => nc
      | false => 1
def brk (e mo t l : Int) (nc : Nat) (c : Rows) (ns : Nat) (s : Rows) (ta tm r : Int) (nf : Nat) (f it : Rows) (ld : Bool) (n : Nat) (cc : Rows) (tk : Int) (m : Nat) (ww : Rows) (ru ix : Int) : Bool := match ru == 2 with
  | true => inB 0 ix ((ns : Int) - 1) && decide (s ix.toNat 1 < sumR (atR it cc ix) n 0)
  | false => match ru == 3 with
    | true => (ix == 0) && decide (tm < tk)
    | false => match ru == 4 with
      | true => inB 0 ix ((nf : Int) - 1) && decide (f ix.toNat 1 < ww ix.toNat 0)
      | false => match ru == 5 with
        | true => (ix == 0) && (match ld with | true => decide (l < wgt e tk n cc m ww) | false => decide (t < wgt e tk n cc m ww))
        | false => match ru == 6 with
          | true => inB 0 ix ((nc : Int) - 1) && decide (sd nc c ix.toNat (wgt e tk n cc m ww) (mom mo tk ta n cc it s m ww f) < 0)
          | false => match ru == 7 with
            | true => (ix == 0) && (ld && decide (tk < r))
            | false => false
end Go.Ab.S
namespace Go.Ab.B
open Go.Proofs
def ptC (n : Nat) (it : Nat → Nat → PV) (lo hi : Int) (m : Nat) (wt : Nat → Nat → PV) (ld : Bool) : List CV :=
  [.p (.isl 3 n it), .p (.int .i64 lo), .p (.int .i64 hi), .p (.isl 2 m wt), .p (.bool ld)]
def sp_ref02_End : List AV → Option (AV × Heap)
  | [.ag [.p (.int .i64 lo), .p (.int .i64 hi)], .c (.p (.bool b))] => some (vI .i64 (S.endOf b lo hi), [])
  | _ => none
def sp_ref02_All : List AV → Option (AV × Heap)
  | [.ag [.p (.isl 3 n it), .p (.int .i64 lo), .p (.int .i64 hi), .p (.isl 2 m wt), _], .c (.p (.bool b))] =>
    some (.ag [.p (.isl 1 n (S.val (S.ends (S.num it) 1 b))), .p (.int .i64 (S.endOf b lo hi)), .p (.isl 1 m (S.val (S.ends (S.num wt) 0 b)))], [])
  | _ => none
def sp_ref02_Span : List AV → Option (AV × Heap)
  | [.ag [.p (.int .i64 l), .p (.int .i64 h)], .c (.p (.int .i64 lo)), .c (.p (.int .i64 hi))] => some (vB (S.span l h lo hi), [])
  | _ => none
def sp_ref02_items : List AV → Option (AV × Heap)
  | [.c (.p (.isl 3 n f)), .c (.p (.int .i64 st))] => some (vB (S.itemsOk n (S.num f) st), [])
  | _ => none
def sp_ref02_Point : List AV → Option (AV × Heap)
  | [.ag [_, _, _, _, _, .p (.isl 2 ns _), _, _, _, .p (.isl 2 nf _)], .ag [.p (.isl 3 n it), .p (.int .i64 lo), .p (.int .i64 hi), .p (.isl 2 m wt), _]] =>
    some (vB (S.point ns nf n (S.num it) lo hi m (S.num wt)), [])
  | _ => none
def sp_ref02_Weight : List AV → Option (AV × Heap)
  | [.ag [.p (.int .i64 e), .p (.int .i64 mo), _, _, _, .p (.isl 2 _ s), .p (.int .i64 ta), _, _, .p (.isl 2 _ f)], .ag [.p (.isl 3 _ it), _, _, _, _], .ag [.p (.isl 1 n c), .p (.int .i64 tk), .p (.isl 1 m w)]] =>
    some (.tp [vI .i64 (S.wgt e tk n (S.num c) m (S.num w)), vI .i64 (S.mom mo tk ta n (S.num c) (S.num it) (S.num s) m (S.num w) (S.num f))], [])
  | _ => none
def sp_ref02_At : List AV → Option (AV × Heap)
  | [.ag [.p (.isl 3 _ it), _, _, _, _], .ag [.p (.isl 1 n c), _, _], .c (.p (.int .i64 st))] => some (vI .i64 (S.sumR (S.atR (S.num it) (S.num c) st) n 0), [])
  | _ => none
def sp_ref02_many : List AV → Option (AV × Heap)
  | [.ag [_, _, _, _, .p (.isl 2 nc _), .p (.isl 2 ns _), _, _, _, .p (.isl 2 nf _)], .c (.p (.int .i64 ru))] => some (vI .i64 (S.many nc ns nf ru), [])
  | _ => none
def sp_ref02_Breaks : List AV → Option (AV × Heap)
  | [.ag [.p (.int .i64 e), .p (.int .i64 mo), .p (.int .i64 t), .p (.int .i64 l), .p (.isl 2 nc c), .p (.isl 2 ns s), .p (.int .i64 ta), .p (.int .i64 tm), .p (.int .i64 r), .p (.isl 2 nf f)], .ag [.p (.isl 3 _ it), _, _, _, .p (.bool ld)], .ag [.p (.isl 1 n cc), .p (.int .i64 tk), .p (.isl 1 m ww)], .c (.p (.int .i64 ru)), .c (.p (.int .i64 ix))] =>
    some (vB (S.brk e mo t l nc (S.num c) ns (S.num s) ta tm r nf (S.num f) (S.num it) ld n (S.num cc) tk m (S.num ww) ru ix), [])
  | _ => none
def sp_load_spanFine : List AV → Option (AV × Heap)
  | [.ag [.p (.int .i64 l), .p (.int .i64 h)], .ag [.p (.int .i64 lo), .p (.int .i64 hi)]] => some (vB (S.span l h lo hi), [])
  | _ => none
def sp_load_itemsFine : List AV → Option (AV × Heap)
  | [.c (.p (.int .i64 st)), .c (.p (.isl 3 n f))] => some (vB (S.itemsOk n (S.num f) st), [])
  | _ => none
def sp_ref02_Same : List AV → Option (AV × Heap)
  | [.c (.p (.isl 1 n a)), .c (.p (.isl 1 m b))] => some (vB (S.same n (S.num a) m (S.num b)), [])
  | _ => none
def sp_ref02_SameCase : List AV → Option (AV × Heap)
  | [.ag [.p (.isl 1 n a), .p (.int .i64 x), .p (.isl 1 m w)], .ag [.p (.isl 1 n' a'), .p (.int .i64 x'), .p (.isl 1 m' w')]] => some (vB (S.sameCase n (S.num a) x m (S.num w) n' (S.num a') x' m' (S.num w')), [])
  | _ => none
def Sp3 (f : Nat) (l : List AV) : Option (AV × Heap) := bif Nat.beq f f_ref02_End then sp_ref02_End l else bif Nat.beq f f_ref02_All then sp_ref02_All l else bif Nat.beq f f_ref02_Span then sp_ref02_Span l else bif Nat.beq f f_ref02_items then sp_ref02_items l else bif Nat.beq f f_ref02_Point then sp_ref02_Point l else bif Nat.beq f f_ref02_Weight then sp_ref02_Weight l else bif Nat.beq f f_ref02_At then sp_ref02_At l else bif Nat.beq f f_ref02_many then sp_ref02_many l else bif Nat.beq f f_ref02_Breaks then sp_ref02_Breaks l else bif Nat.beq f f_load_spanFine then sp_load_spanFine l else bif Nat.beq f f_load_itemsFine then sp_load_itemsFine l else bif Nat.beq f f_load_pointFine then sp_ref02_Point l else bif Nat.beq f f_ref02_Same then sp_ref02_Same l else bif Nat.beq f f_ref02_SameCase then sp_ref02_SameCase l else Sp f l
def lp_ref02_All (j n0 : Nat) (s : St) : Option LTree :=
  match s.h.drop n0, Tr.get (.o .h) s.t with
  | b0 :: b1 :: b2 :: rest, .c (.p (.bool b)) => match b0, b2 with
    | some (.box _ [.p (.isl 3 n it), _, _, .p (.isl 2 m wt), _]), some (.box tc [x0, x1, _]) =>
      match j with
      | 1 => some (.e (.exit 0) ⟨setAll [(.i .h, .c (.pt n0 0)), (.i (.o .h), .c (.pt (n0 + 1) 0)), (.o (.i .h), .c (.pt (n0 + 2) 0)), (.o .h, .c (.p (.bool b)))], s.h.take n0 ++ [b0, b1, some (.box tc [.sl (n0 + 3) 0 n, .p (.int .i64 0), .p .nsl]), some (.arr 1 t_int n (S.val (S.ends (S.num it) 1 b)) [])]⟩)
      | _ => match rest with
        | b3 :: _ => some (.e (.exit 2) ⟨setAll [(.i .h, .c (.pt n0 0)), (.i (.o .h), .c (.pt (n0 + 1) 0)), (.o (.i .h), .c (.pt (n0 + 2) 0)), (.o .h, .c (.p (.bool b)))], s.h.take n0 ++ [b0, b1, some (.box tc [x0, x1, .sl (n0 + 4) 0 m]), b3, some (.arr 1 t_int m (S.val (S.ends (S.num wt) 0 b)) [])]⟩)
        | _ => none
    | _, _ => none
  | _, _ => none
def lp_ref02_items (s : St) : Option LTree :=
  match Tr.get .h s.t, Tr.get (.o .h) s.t, Tr.get (.o (.i .h)) s.t with
  | .c (.p (.isl 3 n f)), .c (.p (.int .i64 st)), .c (.p (.int .i64 i)) => some (.br (S.from_ (S.itAt (S.num f) st) n i.toNat) (.e (.exit 0) ⟨setAll [(.h, .c (.p (.isl 3 n f)))], []⟩) (.e .ret ⟨setAll [(.i (.o .h), vB false)], []⟩))
  | _, _, _ => none
def lp_ref02_Point (s : St) : Option LTree :=
  match s.h, Tr.get (.o (.i .h)) s.t with
  | [b0, b1], .c (.p (.int .i64 i)) => match b1 with
    | some (.box _ [_, _, _, .p (.isl 2 m wt), _]) => some (.br (S.from_ (S.wtAt (S.num wt)) m i.toNat) (.e (.exit 0) ⟨setAll [(.i .h, .c (.pt 0 0)), (.o (.o .h), .c (.pt 1 0))], [b0, b1]⟩) (.e .ret ⟨setAll [(.i (.o .h), vB false)], []⟩))
    | _ => none
  | _, _ => none
def lp_ref02_Weight (j : Nat) (s : St) : Option LTree :=
  match s.h, Tr.get (.i (.o (.o .h))) s.t, Tr.get (.o (.i (.o .h))) s.t with
  | [b0, b1, b2], .c (.p (.int .i64 W)), .c (.p (.int .i64 M)) => match b0, b1, b2 with
    | some (.box _ [_, _, _, _, _, .p (.isl 2 _ st), _, _, _, .p (.isl 2 _ f)]), some (.box _ [.p (.isl 3 _ it), _, _, _, _]), some (.box _ [.p (.isl 1 n c), _, .p (.isl 1 m w)]) =>
      match j with
      | 1 => match Tr.get (.i (.i (.o .h))) s.t with
        | .c (.p (.int .i64 i)) => some (.e (.exit 0) ⟨setAll [(.o (.o .h), .c (.pt 0 0)), (.i (.o .h), .c (.pt 1 0)), (.o (.i .h), .c (.pt 2 0)), (.i (.o (.o .h)), vI .i64 (W + S.sumR (S.itW (S.num c)) (n - i.toNat) i.toNat)), (.o (.i (.o .h)), vI .i64 (M + S.sumR (S.itM (S.num c) (S.num it) (S.num st)) (n - i.toNat) i.toNat))], [b0, b1, b2]⟩)
        | _ => none
      | _ => match Tr.get (.o (.o (.i .h))) s.t with
        | .c (.p (.int .i64 i)) => some (.e (.exit 2) ⟨setAll [(.i (.o (.o .h)), vI .i64 (W + S.sumR (S.itW (S.num w)) (m - i.toNat) i.toNat)), (.o (.i (.o .h)), vI .i64 (M + S.sumR (S.wtM (S.num w) (S.num f)) (m - i.toNat) i.toNat))], []⟩)
        | _ => none
    | _, _, _ => none
  | _, _, _ => none
def lp_ref02_At (s : St) : Option LTree :=
  match s.h, Tr.get (.o (.o (.o .h))) s.t, Tr.get (.i (.o (.o .h))) s.t, Tr.get (.i .h) s.t with
  | [b0, b1], .c (.p (.int .i64 N)), .c (.p (.int .i64 i)), .c (.p (.int .i64 st)) => match b0, b1 with
    | some (.box _ [.p (.isl 3 _ it), _, _, _, _]), some (.box _ [.p (.isl 1 n c), _, _]) => some (.e (.exit 0) ⟨setAll [(.o (.o (.o .h)), vI .i64 (N + S.sumR (S.atR (S.num it) (S.num c) st) (n - i.toNat) i.toNat))], []⟩)
    | _, _ => none
  | _, _, _, _ => none
def isIsl2 : AV → Bool
  | .c (.p (.isl 2 _ _)) => true
  | _ => false
def lp_load_itemsFine (s : St) : Option LTree :=
  match Tr.get (.i (.i (.o .h))) s.t, Tr.get .h s.t, Tr.get (.i (.o (.i .h))) s.t with
  | .c (.p (.isl 3 n f)), .c (.p (.int .i64 st)), .c (.p (.int .i64 i)) => some (.br (S.from_ (S.itAt (S.num f) st) n i.toNat) (.e (.exit 0) ⟨.lf, []⟩) (.e .ret ⟨setAll [(.i (.o .h), vB false)], []⟩))
  | _, _, _ => none
def lp_load_pointFine (s : St) : Option LTree :=
  match Tr.get (.o (.o (.o (.o (.o .h))))) s.t, Tr.get (.o (.i (.o (.o (.o .h))))) s.t with
  | .c (.p (.isl 2 m wt)), .c (.p (.int .i64 i)) => some (.br (S.from_ (S.wtAt (S.num wt)) m i.toNat) (.e (.exit 0) ⟨.lf, []⟩) (.e .ret ⟨setAll [(.i (.o .h), vB false)], []⟩))
  | _, _ => none
def lp_ref02_Same (s : St) : Option LTree :=
  match Tr.get .h s.t, Tr.get (.o .h) s.t, Tr.get (.o (.i .h)) s.t with
  | .c (.p (.isl 1 n a)), .c (.p (.isl 1 _ b)), .c (.p (.int .i64 i)) => some (.br (S.from_ (S.eqAt (S.num a) (S.num b)) n i.toNat) (.e (.exit 0) ⟨.lf, []⟩) (.e .ret ⟨setAll [(.i (.o .h), vB false)], []⟩))
  | _, _, _ => none
def Lp3 (n0 : Nat) (a : MC) (s : St) : Option LTree :=
  bif Nat.beq (keyM a 0) key_ref02_All_l1 then lp_ref02_All 1 n0 s else bif Nat.beq (keyM a 0) key_ref02_All_l2 then lp_ref02_All 2 n0 s else bif Nat.beq (keyM a 0) key_ref02_items_l1 then lp_ref02_items s else bif Nat.beq (keyM a 0) key_ref02_Point_l1 then lp_ref02_Point s else bif Nat.beq (keyM a 0) key_ref02_Weight_l1 then lp_ref02_Weight 1 s else bif Nat.beq (keyM a 0) key_ref02_Weight_l2 then lp_ref02_Weight 2 s else bif Nat.beq (keyM a 0) key_ref02_At_l1 then lp_ref02_At s else bif Nat.beq (keyM a 0) key_ref02_Same_l1 then lp_ref02_Same s else bif Nat.beq (keyM a 0) key_load_itemsFine_l1 then lp_load_itemsFine s else bif Nat.beq (keyM a 0) key_load_pointFine_l1 && isIsl2 (Tr.get (.o (.o (.o (.o (.o .h))))) s.t) then lp_load_pointFine s else Lp n0 a s
def cs3 {P : Program} (hbs : BsOk P) : Cfg := { cs hbs with Sp := Sp3, Lp := Lp3 }
theorem app_val {g : S.Rows} {i k : Nat} {v : PV} (hk : k < i + 1) (hv : v = .int .i64 (g i 0)) : (if k < i then PV.int .i64 (g k 0) else [v][k - i]?.getD .npt) = S.val g k 0 := by
  subst hv
  split
  · rfl
  · obtain rfl : k = i := by omega
    rw [Nat.sub_self]
    rfl
section
variable {hbs : BsOk Tryd.prog} (hT : TabOk (cs3 hbs))
include hT
end
section
variable {hbs : BsOk Tryd.prog}
theorem vc_ref02_Span (l h lo hi : Int) (Q : AV → Heap → Prop) :
 ((fun (A0 : Heap) => (((FCall (cs3 hbs) f_ref02_in [(vJ l), (vJ lo), (vJ h)] (.c (.p (.bool (S.inB lo l h)))) []) ∧
 (BrP (S.inB lo l h)
 (BrP (decide (h ≤ hi))
 (Q (vB true) A0)
 (Q (vB false) A0))
 (Q (vB false) A0))))) [(some (.box t_api_Span [(cJ l), (cJ h)]))]) = (ex (cs3 hbs) 1000 0 m_ref02_Span ⟨ofL 0 [.ag [.p (.int .i64 l), .p (.int .i64 h)], .c (cJ lo), .c (cJ hi)] .lf, []⟩ (endK F_ref02_Span.rs (fun r H => .pr (Q r H)) fun _ _ => .no)).hold2 := by kernel_rfl
theorem vs_ref02_items (fu i n : Nat) (c : S.Rows) (st : Int) (Q : AX → St → Prop) :
 ((fun (A0 : Tr) => ((fun (A1 : AV) => ((fun (A2 : Tr) => ((fun (A3 : AV) => ((fun (A4 : AV) => ((BrP (decide ((i : Int) < (n : Int)))
 (CdP (.rng (i : Int) n)
 (CdP (.i64 (st - (1 : Int)))
 ((FCall (cs3 hbs) f_ref02_in [(vJ (c i 0)), (vJ 0), A4] (.c (.p (.bool (S.inB (0 : Int) (c i 0) (st - (1 : Int)))))) []) ∧
 (BrP (S.inB (0 : Int) (c i 0) (st - (1 : Int)))
 (CdP (.rng (i : Int) n)
 ((FCall (cs3 hbs) f_ref02_Span [A3, (vJ 0), (vJ 20000)] (.c (.p (.bool (S.span (c i 1) (c i 2) (0 : Int) (20000 : Int))))) []) ∧
 (BrP (S.span (c i 1) (c i 2) (0 : Int) (20000 : Int))
 (CdP (.i64 ((i : Int) + (1 : Int)))
 (Q .normal ⟨(.nd (.nd (L4 (.nd A0 (vS 3 n c) (L1 (vN i))) (.nd (L1 (vB true)) (vJ ((i : Int) + (1 : Int))) (L1 (vB true)))) (vJ st) (.nd A2 (vJ ((i : Int) + (1 : Int))) (.nd (L1 (vB false)) (vN i) (L1 (vB false))))) (vS 3 n c) (L4 (L4 (.nd (L1 (vJ (c i 0))) (vN n) (L1 A1)) (.nd (L1 (vB false)) (vS 3 n c) (L1 (vB false)))) (.nd (.nd (L1 A4) (vN i) (L1 A3)) (vN i) (L6 (L1 (vS 3 n c)) A1)))), []⟩))
 (Q .ret ⟨(.nd (.nd (L4 (.nd A0 (vS 3 n c) (L1 (vN i))) (L4 (L1 (vB true)) (L1 (vB false)))) (vJ st) (.nd A2 (vN i) (.nd (L1 (vB false)) (vN i) (L1 (vB true))))) (vS 3 n c) (L4 (.nd (.nd (L1 (vJ (c i 0))) (vN n) (L1 A1)) (vB false) (.nd (L1 (vB false)) (vS 3 n c) (L1 (vB true)))) (.nd (L4 (L1 A4) (L1 A3)) (vN i) (L6 (L1 (vS 3 n c)) A1)))), []⟩))))
 (Q .ret ⟨(.nd (.nd (L4 (.nd A0 (vS 3 n c) (L1 (.tp []))) (L4 (L1 (vB false)) (L1 (.tp [])))) (vJ st) (.nd (.nd (L1 (vJ st)) (vB true) (L1 (.tp []))) (vN i) (.nd (L1 (vB true)) (vN i) (L1 (vB true))))) (vS 3 n c) (L4 (.nd (.nd (L1 (vJ (c i 0))) (vN n) (L1 (.tp []))) (vB false) (.nd (L1 (vB true)) (vS 3 n c) (L1 (.tp [])))) (.nd (L4 (L1 A4) (L1 (.tp []))) (vN i) (L6 (L1 (.tp [])) A1)))), []⟩)))))
 (Q (.exit 0) ⟨(.nd (.nd (L3 (L1 (vS 3 n c))) (vJ st) (L6 (L1 (vB false)) (vN i))) (vS 3 n c) (L4 (L3 (L1 (vN n))) (L1 (vN i)))), []⟩)))) (vJ (st - (1 : Int))))) (.ag [(cJ (c i 1)), (cJ (c i 2))]))) (.nd (L1 (vJ st)) (vB true) (L1 (.c (.p (.ipt 2 (fun x6 => (.int .i64 (c i (1 + x6))))))))))) (.c (.p (.ipt 3 (S.val c i)))))) (L1 (.c (.p (.ipt 3 (fun x6 => (.int .i64 (c i (0 + x6))))))))) = (ex (cs3 hbs) (fu + 60) 0 m_ref02_items_l1 ⟨setAll [(.h, .c (cS 3 n c)), (.o .h, .c (cJ st)), (.o (.i .h), .c (cJ i))], []⟩ (fun e s => .pr (Q e s))).hold2 := by kernel_rfl
theorem vc_ref02_items (n : Nat) (c : S.Rows) (st : Int) (Q : AV → Heap → Prop) :
 (((LoopGo (ex (cs3 hbs) 995) 0 m_ref02_items_l1 ⟨(.nd (L5 (vJ st) (L1 (vJ 0))) (vS 3 n c) (L3 (L1 (vB false)))), []⟩ (.br (S.from_ (S.itAt c st) n 0) (.e (.exit 0) ⟨(L1 (vS 3 n c)), []⟩) (.e .ret ⟨(L2 (L3 (L1 (vB false)))), []⟩))) ∧
 (BrP (S.from_ (S.itAt c st) n 0)
 (BrP (decide ((n : Int) ≤ (12 : Int)))
 (Q (vB true) [])
 (Q (vB false) []))
 (Q (vB false) [])))) = (ex (cs3 hbs) 1000 0 m_ref02_items ⟨ofL 0 [.c (cS 3 n c), .c (cJ st)] .lf, []⟩ (endK F_ref02_items.rs (fun r H => .pr (Q r H)) fun _ _ => .no)).hold2 := by kernel_rfl
end
end Go.Ab.B
namespace Go.Ab.S
theorem sumR_step (f : Nat → Int) {n i : Nat} (h : i < n) : sumR f (n - i) i = f i + sumR f (n - (i + 1)) (i + 1) := by
  rw [show n - i = (n - (i + 1)) + 1 by omega]
  rfl
theorem sumR_end (f : Nat → Int) {n i : Nat} (h : n ≤ i) : sumR f (n - i) i = 0 := by
  rw [show n - i = 0 by omega]
  rfl
theorem sumR_in {f : Nat → Int} {B : Int} : ∀ {k i : Nat}, (∀ j, i ≤ j → j < i + k → -B ≤ f j ∧ f j ≤ B) → -(B * k) ≤ sumR f k i ∧ sumR f k i ≤ B * k
  | 0, i, _ => by simp [sumR]
  | k + 1, i, h => by
    have h1 := h i (by omega) (by omega)
    have h2 := sumR_in (f := f) (B := B) (k := k) (i := i + 1) fun j h3 h4 => h j (by omega) (by omega)
    have e : B * ((k + 1 : Nat) : Int) = B * k + B := by rw [Int.natCast_add, Int.mul_add]; simp
    simp only [sumR]
    rw [e]
    omega
end Go.Ab.S
namespace Go.Ab.B
open Go.Proofs
section
variable {hbs : BsOk Tryd.prog} (hT : TabOk (cs hbs)) (hT3 : TabOk (cs3 hbs))
include hT hT3
theorem fc3_ref02_in (lo hi x : Int) : FCall (cs3 hbs) f_ref02_in [.c (.p (.int .i64 x)), .c (.p (.int .i64 lo)), .c (.p (.int .i64 hi))] (vB (S.inB lo x hi)) [] :=
  FCall.cfg (C := cs hbs) (C' := cs3 hbs) rfl rfl (fc_ref02_in hT lo hi x)
theorem fc_ref02_Span (l h lo hi : Int) : FCall (cs3 hbs) f_ref02_Span [.ag [.p (.int .i64 l), .p (.int .i64 h)], .c (.p (.int .i64 lo)), .c (.p (.int .i64 hi))] (vB (S.span l h lo hi)) [] :=
  fcall_k hT3 (F := F_ref02_Span) rfl (vc_ref02_Span l h lo hi _) ⟨fc3_ref02_in hT hT3 _ _ _, brP (fun h1 => brP (fun h2 => frz_b (by simp [S.span, h1, h2])) fun h2 => frz_b (by simp [S.span, h1, h2])) fun h1 => frz_b (by simp [S.span, h1])⟩
theorem go_ref02_items (fu n : Nat) (c : S.Rows) (st : Int) (hn : n ≤ 1000000) (hs : 0 ≤ st ∧ st ≤ 1000000) : ∀ (i : Nat) (s : St), i ≤ n → Has s [(.h, .c (.p (.isl 3 n (S.val c)))), (.o .h, .c (.p (.int .i64 st))), (.o (.i .h), .c (.p (.int .i64 i)))] [] →
    LoopGo (ex (cs3 hbs) (fu + 60)) 0 m_ref02_items_l1 s (.br (S.from_ (S.itAt c st) n i) (.e (.exit 0) ⟨setAll [(.h, .c (.p (.isl 3 n (S.val c))))], []⟩) (.e .ret ⟨setAll [(.i (.o .h), vB false)], []⟩)) :=
  loop_k (σ := Nat) (fun i => [(.h, .c (.p (.isl 3 n (S.val c)))), (.o .h, .c (.p (.int .i64 st))), (.o (.i .h), .c (.p (.int .i64 i)))]) (fun _ => []) (fun i => i ≤ n) (fun i => n - i)
    (fun i => .br (S.from_ (S.itAt c st) n i) (.e (.exit 0) ⟨setAll [(.h, .c (.p (.isl 3 n (S.val c))))], []⟩) (.e .ret ⟨setAll [(.i (.o .h), vB false)], []⟩)) (fun _ => Nat.le_refl _) _ (fun i Q => vs_ref02_items (hbs := hbs) fu i n c st Q) fun i hi K hL X hX => by
      refine brP (fun h1 => cdP (idx_ok (by simpa using h1)) (cdP ?_ ⟨fc3_ref02_in hT hT3 _ _ _, brP (fun h2 => cdP (idx_ok (by simpa using h1)) ⟨fc_ref02_Span hT hT3 _ _ _ _, brP (fun h3 => cdP ?_ ?_) fun h3 => ?_⟩) fun h2 => ?_⟩)) fun h1 => ?_
      · simp [Cd.holds]; omega
      · have hlt : i < n := by simpa using h1
        simp [Cd.holds]; omega
      · have hlt : i < n := by simpa using h1
        refine hX (i + 1) _ (by omega) (by omega) (.cons (by kernel_rfl) rfl (.cons (by kernel_rfl) rfl (.cons (by kernel_rfl) rfl (.nil (ex := []) rfl rfl)))) ?_
        have e : S.itAt c st i = true := by simp [S.itAt, h2, h3]
        rw [S.from_step hlt, e, Bool.true_and] at hL
        exact hL
      · have hlt : i < n := by simpa using h1
        have e : S.itAt c st i = false := by simp [S.itAt, h2, h3]
        rw [S.from_step hlt, e, Bool.false_and] at hL
        exact Has.out (l := [(.i (.o .h), vB false)]) (.cons (by kernel_rfl) rfl (.nil (ex := _) rfl rfl)) (Nat.le_refl _) hL
      · have hlt : i < n := by simpa using h1
        have e : S.itAt c st i = false := by simp [S.itAt, h2]
        rw [S.from_step hlt, e, Bool.false_and] at hL
        exact Has.out (l := [(.i (.o .h), vB false)]) (.cons (by kernel_rfl) rfl (.nil (ex := _) rfl rfl)) (Nat.le_refl _) hL
      · have hlt : n ≤ i := by simpa using h1
        rw [S.from_end hlt] at hL
        exact Has.out (l := [(.h, .c (.p (.isl 3 n (S.val c))))]) (.cons (by kernel_rfl) rfl (.nil (ex := []) rfl rfl)) (Nat.le_refl _) hL
theorem fc_ref02_items (n : Nat) (c : S.Rows) (st : Int) (hn : n ≤ 1000000) (hs : 0 ≤ st ∧ st ≤ 1000000) : FCall (cs3 hbs) f_ref02_items [.c (.p (.isl 3 n (S.val c))), .c (.p (.int .i64 st))] (vB (S.itemsOk n c st)) [] :=
  fcall_k hT3 (F := F_ref02_items) rfl (vc_ref02_items n c st _) ⟨go_ref02_items hT hT3 935 n c st hn hs 0 _ (Nat.zero_le _) (.cons (by kernel_rfl) rfl (.cons (by kernel_rfl) rfl (.cons (by kernel_rfl) rfl (.nil (ex := []) rfl rfl)))),
    brP (fun h1 => brP (fun h2 => frz_b (by simp [S.itemsOk, h1]; simpa using h2)) fun h2 => frz_b (by simp [S.itemsOk, h1]; simpa using h2)) fun h1 => frz_b (by simp [S.itemsOk, h1])⟩
end
section
variable {hbs : BsOk Tryd.prog}
theorem vc_load_spanFine (l h lo hi : Int) (Q : AV → Heap → Prop) :
 ((fun (A0 : Heap) => ((BrP (decide (lo ≤ l))
 (BrP (decide (l ≤ h))
 (BrP (decide (h ≤ hi))
 (Q (vB true) A0)
 (Q (vB false) A0))
 (Q (vB false) A0))
 (Q (vB false) A0)))) [(some (.box t_api_Span [(cJ l), (cJ h)])), (some (.box t_api_Span [(cJ lo), (cJ hi)]))]) = (ex (cs3 hbs) 1000 0 m_load_spanFine ⟨ofL 0 [.ag [.p (.int .i64 l), .p (.int .i64 h)], .ag [.p (.int .i64 lo), .p (.int .i64 hi)]] .lf, []⟩ (endK F_load_spanFine.rs (fun r H => .pr (Q r H)) fun _ _ => .no)).hold2 := by kernel_rfl
theorem vs_load_itemsFine (fu i n : Nat) (c : S.Rows) (st : Int) (Q : AX → St → Prop) :
 ((fun (A0 : List CV) => ((fun (A2 : AV) => ((fun (A1 : Tr) => ((fun (A3 : Tr) => ((fun (A4 : Heap) => ((fun (A5 : AV) => ((BrP (decide ((i : Int) < (n : Int)))
 (CdP (.rng (i : Int) n)
 (CdP (.i64 (st - (1 : Int)))
 ((FCall (cs3 hbs) f_load_holds [A2, (vJ (c i 0))] (.c (.p (.bool (S.inB (0 : Int) (c i 0) (st - (1 : Int)))))) []) ∧
 (BrP (S.inB (0 : Int) (c i 0) (st - (1 : Int)))
 ((FCall (cs3 hbs) f_load_spanFine [(.ag [(cJ (c i 1)), (cJ (c i 2))]), (.ag [(cJ 0), (cJ 20000)])] (.c (.p (.bool (S.span (c i 1) (c i 2) (0 : Int) (20000 : Int))))) []) ∧
 (BrP (S.span (c i 1) (c i 2) (0 : Int) (20000 : Int))
 (CdP (.i64 ((i : Int) + (1 : Int)))
 (Q .normal ⟨(.nd (L4 (L4 (L4 (L1 (.ag A0)) (L1 (vB false))) (.nd (L1 (vT 0 0)) (vN n) (L1 (vB true)))) (L4 A3 (.nd (L1 (vB true)) (vB true) (L1 (vB false))))) (vJ st) (L4 (L4 (L4 (L1 (vJ st)) (L1 (vT 0 1))) (.nd (L1 (vJ (c i 0))) (vJ ((i : Int) + (1 : Int))) (L1 (vB false)))) (.nd A1 (vT 0 0) (.nd (L1 (vB false)) A5 (L1 (vJ ((i : Int) + (1 : Int)))))))), A4⟩))
 (Q .ret ⟨(.nd (L4 (L4 (L4 (L1 (.ag A0)) (L1 (vB false))) (.nd (L1 (vT 0 0)) (vN n) (L1 (vB false)))) (L4 A3 (.nd (L1 (vB true)) (vB true) (L1 (vB true))))) (vJ st) (L4 (.nd (L4 (L1 (vJ st)) (L1 (vT 0 1))) (vB false) (.nd (L1 (vJ (c i 0))) (vN i) (L1 (vB true)))) (.nd A1 (vT 0 0) (L6 (L1 (vB false)) A5)))), A4⟩)))
 (Q .ret ⟨(.nd (L4 (L4 (L4 (L1 (.ag A0)) (L1 (vB true))) (.nd (L1 (vT 0 0)) (vN n) (L1 (.tp [])))) (L4 (L4 (L1 (vJ (st - (1 : Int)))) (L1 (.tp []))) (.nd (L1 (vB false)) (vB true) (L1 (vB true))))) (vJ st) (L4 (.nd (L4 (L1 (vJ st)) (L1 (.tp []))) (vB false) (.nd (L1 (vJ (c i 0))) (vN i) (L1 (.tp [])))) (.nd (.nd (L1 A2) (vS 3 n c) (L1 (.tp []))) (vT 0 0) (L6 (L1 (vB true)) A5)))), A4⟩)))))
 (Q (.exit 0) ⟨(.nd (L4 (L2 (L1 (vN n))) (L2 (L1 (vB false)))) (vJ st) (L4 (L2 (L1 (vN i))) (L3 (L1 (vS 3 n c))))), []⟩)))) (.c (.p (.ipt 3 (S.val c i)))))) [(some (.box t_api_LoadItem A0))])) (L4 (L1 (vJ (st - (1 : Int)))) (L1 (.ag [(cJ (c i 1)), (cJ (c i 2))]))))) (.nd (L1 A2) (vS 3 n c) (L1 (.c (.p (.isl 2 1 (fun x6 => (fun x7 => (List.getD [(.int .i64 (c i 1)), (.int .i64 (c i 2))] ((x6 * 2) + x7) .npt)))))))))) (.ag [(cJ 0), (cJ (st - (1 : Int)))]))) [(cJ (c i 0)), (cJ (c i 1)), (cJ (c i 2))]) = (ex (cs3 hbs) (fu + 60) 0 m_load_itemsFine_l1 ⟨setAll [(.h, .c (cJ st)), (.i (.i (.o .h)), .c (cS 3 n c)), (.o (.o (.i .h)), .c (cJ n)), (.i (.o (.i .h)), .c (cJ i))], []⟩ (fun e s => .pr (Q e s))).hold2 := by kernel_rfl
theorem vc_load_itemsFine (n : Nat) (c : S.Rows) (st : Int) (Q : AV → Heap → Prop) :
 ((BrP (decide ((n : Int) > (12 : Int)))
 (Q (vB false) [])
 ((LoopGo (ex (cs3 hbs) 994) 0 m_load_itemsFine_l1 ⟨(.nd (.nd (L4 (L1 (vS 3 n c)) (L1 (vN n))) (vS 3 n c) (L3 (L1 (vB false)))) (vJ st) (L4 (.nd (L1 (vN n)) (vB false) (L1 (vJ 0))) (L3 (L1 (vS 3 n c))))), []⟩ (.br (S.from_ (S.itAt c st) n 0) (.e (.exit 0) ⟨.lf, []⟩) (.e .ret ⟨(L2 (L3 (L1 (vB false)))), []⟩))) ∧
 (BrP (S.from_ (S.itAt c st) n 0)
 (Q (vB true) [])
 (Q (vB false) []))))) = (ex (cs3 hbs) 1000 0 m_load_itemsFine ⟨ofL 0 [.c (cJ st), .c (cS 3 n c)] .lf, []⟩ (endK F_load_itemsFine.rs (fun r H => .pr (Q r H)) fun _ _ => .no)).hold2 := by kernel_rfl
end
section
variable {hbs : BsOk Tryd.prog} (hT : TabOk (cs hbs)) (hT3 : TabOk (cs3 hbs))
include hT hT3
theorem fc3_load_holds (lo hi x : Int) : FCall (cs3 hbs) f_load_holds [.ag [.p (.int .i64 lo), .p (.int .i64 hi)], .c (.p (.int .i64 x))] (vB (S.inB lo x hi)) [] :=
  FCall.cfg (C := cs hbs) (C' := cs3 hbs) rfl rfl (fc_load_holds hT lo hi x)
theorem fc_load_spanFine (l h lo hi : Int) : FCall (cs3 hbs) f_load_spanFine [.ag [.p (.int .i64 l), .p (.int .i64 h)], .ag [.p (.int .i64 lo), .p (.int .i64 hi)]] (vB (S.span l h lo hi)) [] :=
  fcall_k hT3 (F := F_load_spanFine) rfl (vc_load_spanFine l h lo hi _) (brP (fun h1 => brP (fun h2 => brP (fun h3 => frz_b (by simp_all [S.span, S.inB])) fun h3 => frz_b (by simp_all [S.span, S.inB])) fun h2 => frz_b (by simp at h1 h2; simp [S.span, S.inB]; omega)) fun h1 => frz_b (by simp at h1; simp [S.span, S.inB]; omega))
theorem go_load_itemsFine (fu n : Nat) (c : S.Rows) (st : Int) (hn : n ≤ 1000000) (hs : 0 ≤ st ∧ st ≤ 1000000) : ∀ (i : Nat) (s : St), i ≤ n → Has s [(.h, .c (.p (.int .i64 st))), (.i (.i (.o .h)), .c (.p (.isl 3 n (S.val c)))), (.o (.o (.i .h)), .c (.p (.int .i64 n))), (.i (.o (.i .h)), .c (.p (.int .i64 i)))] [] →
    LoopGo (ex (cs3 hbs) (fu + 60)) 0 m_load_itemsFine_l1 s (.br (S.from_ (S.itAt c st) n i) (.e (.exit 0) ⟨.lf, []⟩) (.e .ret ⟨setAll [(.i (.o .h), vB false)], []⟩)) :=
  loop_k (σ := Nat) (fun i => [(.h, .c (.p (.int .i64 st))), (.i (.i (.o .h)), .c (.p (.isl 3 n (S.val c)))), (.o (.o (.i .h)), .c (.p (.int .i64 n))), (.i (.o (.i .h)), .c (.p (.int .i64 i)))]) (fun _ => []) (fun i => i ≤ n) (fun i => n - i)
    (fun i => .br (S.from_ (S.itAt c st) n i) (.e (.exit 0) ⟨.lf, []⟩) (.e .ret ⟨setAll [(.i (.o .h), vB false)], []⟩)) (fun _ => Nat.le_refl _) _ (fun i Q => vs_load_itemsFine (hbs := hbs) fu i n c st Q) fun i hi K hL X hX => by
      refine brP (fun h1 => cdP (idx_ok (by simpa using h1)) (cdP ?_ ⟨fc3_load_holds hT hT3 _ _ _, brP (fun h2 => ⟨fc_load_spanFine hT hT3 _ _ _ _, brP (fun h3 => cdP ?_ ?_) fun h3 => ?_⟩) fun h2 => ?_⟩)) fun h1 => ?_
      · simp [Cd.holds]; omega
      · have hlt : i < n := by simpa using h1
        simp [Cd.holds]; omega
      · have hlt : i < n := by simpa using h1
        refine hX (i + 1) _ (by omega) (by omega) (.cons (by kernel_rfl) rfl (.cons (by kernel_rfl) rfl (.cons (by kernel_rfl) rfl (.cons (by kernel_rfl) rfl (.nil (ex := _) rfl rfl))))) ?_
        have e : S.itAt c st i = true := by simp [S.itAt, h2, h3]
        rw [S.from_step hlt, e, Bool.true_and] at hL
        exact hL
      · have hlt : i < n := by simpa using h1
        have e : S.itAt c st i = false := by simp [S.itAt, h2, h3]
        rw [S.from_step hlt, e, Bool.false_and] at hL
        exact Has.out (l := [(.i (.o .h), vB false)]) (.cons (by kernel_rfl) rfl (.nil (ex := _) rfl rfl)) (Nat.le_refl _) hL
      · have hlt : i < n := by simpa using h1
        have e : S.itAt c st i = false := by simp [S.itAt, h2]
        rw [S.from_step hlt, e, Bool.false_and] at hL
        exact Has.out (l := [(.i (.o .h), vB false)]) (.cons (by kernel_rfl) rfl (.nil (ex := _) rfl rfl)) (Nat.le_refl _) hL
      · have hlt : n ≤ i := by simpa using h1
        rw [S.from_end hlt] at hL
        exact Has.out (l := []) (.nil (ex := _) rfl rfl) (Nat.le_refl _) hL
theorem fc_load_itemsFine (n : Nat) (c : S.Rows) (st : Int) (hn : n ≤ 1000000) (hs : 0 ≤ st ∧ st ≤ 1000000) : FCall (cs3 hbs) f_load_itemsFine [.c (.p (.int .i64 st)), .c (.p (.isl 3 n (S.val c)))] (vB (S.itemsOk n c st)) [] :=
  fcall_k hT3 (F := F_load_itemsFine) rfl (vc_load_itemsFine n c st _) (brP (fun h1 => frz_b (by simp at h1; simp [S.itemsOk]; intro _; omega))
    fun h1 => ⟨go_load_itemsFine hT hT3 934 n c st hn hs 0 _ (Nat.zero_le _) (.cons (by kernel_rfl) rfl (.cons (by kernel_rfl) rfl (.cons (by kernel_rfl) rfl (.cons (by kernel_rfl) rfl (.nil (ex := _) rfl rfl))))), brP (fun h2 => frz_b (by simp at h1; simp [S.itemsOk, h2]; omega)) fun h2 => frz_b (by simp [S.itemsOk, h2])⟩)
end
end Go.Ab.B
