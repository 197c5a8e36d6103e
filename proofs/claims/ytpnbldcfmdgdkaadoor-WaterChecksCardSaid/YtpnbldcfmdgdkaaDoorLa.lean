/- A part of the proof. -/
import Derived.Test.YtpnbldcfmdgdkaaDoorVd
import Derived.Test.YtpnbldcfmdgdkaaDoorTb
set_option linter.all false
namespace Go.Ab.S
open Go.Ab
def spB (lo l h hi : Int) : Bool := decide (lo ≤ l) && decide (l ≤ h) && decide (h ≤ hi)
theorem spB_iff {lo l h hi : Int} : spB lo l h hi = true ↔ lo ≤ l ∧ l ≤ h ∧ h ≤ hi := by simp [spB]; omega
def rdOk (mi l h so : Int) : Bool := inB 0 mi 1440 && spB (-100000) l h 100000 && inB 0 so 7
def rdAt (r : Rows) (i : Nat) : Bool := rdOk (r i 0) (r i 1) (r i 2) (r i 3)
def ggB (ra le mo : Int) (n : Nat) (r : Rows) (lo hi : Int) : Bool := inB 0 ra 1000 && spB lo le mo hi && decide ((n : Int) ≤ 30) && from_ (rdAt r) n 0
def crAt (ra le mo : Int) (l : Rows) (i : Nat) : Bool := inB le (l i 0) mo && (decide (i = 0) || inB (-ra) (l i 0 - l (i - 1) 0) ra)
def rfAt (r l : Rows) (i : Nat) : Bool := inB (r i 1) (l (r i 0).toNat 0) (r i 2)
def fit (ra le mo : Int) (n : Nat) (r : Rows) (m : Nat) (l : Rows) : Bool := decide (m = 1441) && from_ (crAt ra le mo l) 1441 0 && from_ (rfAt r l) n 0
def mn (a b : Int) : Int := if b < a then b else a
def mx (a b : Int) : Int := if b > a then b else a
theorem gap_iff {a b c : Int} : mx a b - mn a b > c ↔ ¬ (-c ≤ a - b ∧ a - b ≤ c) := by unfold mx mn; split <;> split <;> omega
theorem gap_in {a b B : Int} (h1 : -B ≤ a ∧ a ≤ B) (h2 : -B ≤ b ∧ b ≤ B) : 0 ≤ mx a b - mn a b ∧ mx a b - mn a b ≤ 2 * B := by unfold mx mn; split <;> split <;> omega
theorem ggB_in {ra le mo : Int} {n : Nat} {r : Rows} {lo hi : Int} (h : ggB ra le mo n r lo hi = true) : (0 ≤ ra ∧ ra ≤ 1000) ∧ (lo ≤ le ∧ le ≤ mo ∧ mo ≤ hi) ∧ n ≤ 30 ∧ ∀ i, i < n → 0 ≤ r i 0 ∧ r i 0 ≤ 1440 := by
  simp only [ggB, Bool.and_eq_true, inB_iff, spB_iff, decide_eq_true_eq] at h
  obtain ⟨⟨⟨h1, h2⟩, h3⟩, h4⟩ := h
  refine ⟨h1, h2, by omega, fun i hi => ?_⟩
  have := from_iff.1 h4 i (Nat.zero_le _) hi
  simp only [rdAt, rdOk, Bool.and_eq_true, inB_iff] at this
  exact this.1.1
theorem crAt_eq {ra le mo : Int} {l : Rows} {i : Nat} (h : inB le (l i 0) mo = true) (hi : 0 < i) : crAt ra le mo l i = inB (-ra) (l i 0 - l (i - 1) 0) ra := by
  simp [crAt, h, show ¬ i = 0 by omega]
def knE (ra le mo : Int) (n : Nat) (r : Rows) : Int := match ggB ra le mo n r (-100000) 100000 with | true => 0 | false => 2
theorem knE_t {ra le mo : Int} {n : Nat} {r : Rows} (h : ggB ra le mo n r (-100000) 100000 = true) : knE ra le mo n r = 0 := by unfold knE; rw [h]
theorem knE_f {ra le mo : Int} {n : Nat} {r : Rows} (h : ggB ra le mo n r (-100000) 100000 = false) : knE ra le mo n r = 2 := by unfold knE; rw [h]
end Go.Ab.S
set_option maxRecDepth 100000
namespace Go.Ab.B
open Go.Proofs
abbrev pI (n : Int) : PV := .int .i64 n
def sp_water_readingFine : List AV → Option (AV × Heap)
  | [.ag [.p (.int .i64 mi), .p (.int .i64 l), .p (.int .i64 h), .p (.int .i64 so)]] => some (vB (S.rdOk mi l h so), [])
  | _ => none
def sp_ref01_in : List AV → Option (AV × Heap)
  | [.c (.p (.int .i64 x)), .c (.p (.int .i64 lo)), .c (.p (.int .i64 hi))] => some (vB (S.inB lo x hi), [])
  | _ => none
def sp_water_holds : List AV → Option (AV × Heap)
  | [.ag [.p (.int .i64 lo), .p (.int .i64 hi)], .c (.p (.int .i64 x))] => some (vB (S.inB lo x hi), [])
  | _ => none
def sp_ref01_Span : List AV → Option (AV × Heap)
  | [.ag [.p (.int .i64 l), .p (.int .i64 h)], .c (.p (.int .i64 lo)), .c (.p (.int .i64 hi))] => some (vB (S.spB lo l h hi), [])
  | _ => none
def sp_water_gaugeFine : List AV → Option (AV × Heap)
  | [.ag [.p (.int .i64 ra), .p (.int .i64 le), .p (.int .i64 mo), .p (.isl 4 n f)], .ag [.p (.int .i64 lo), .p (.int .i64 hi)]] => some (vB (S.ggB ra le mo n (S.num f) lo hi), [])
  | _ => none
def sp_water_Known : List AV → Option (AV × Heap)
  | [.ag [.p (.int .i64 ra), .p (.int .i64 le), .p (.int .i64 mo), .p (.isl 4 n f)]] => some (vI .i64 (S.knE ra le mo n (S.num f)), [])
  | _ => none
def sp_ref01_Gauge : List AV → Option (AV × Heap)
  | [.ag [.p (.int .i64 ra), .p (.int .i64 le), .p (.int .i64 mo), .p (.isl 4 n f)]] => some (vB (S.ggB ra le mo n (S.num f) (-100000) 100000), [])
  | _ => none
def sp_water_Fits : List AV → Option (AV × Heap)
  | [.ag [.p (.int .i64 ra), .p (.int .i64 le), .p (.int .i64 mo), .p (.isl 4 n f)], .c (.p (.isl 1 m g))] => some (vB (S.ggB ra le mo n (S.num f) (-100000) 100000 && S.fit ra le mo n (S.num f) m (S.num g)), [])
  | _ => none
def sp_ref01_Fits : List AV → Option (AV × Heap)
  | [.ag [.p (.int .i64 ra), .p (.int .i64 le), .p (.int .i64 mo), .p (.isl 4 n f)], .c (.p (.isl 1 m g))] => some (vB (S.fit ra le mo n (S.num f) m (S.num g)), [])
  | _ => none
def sp_law01_known : List AV → Option (AV × Heap)
  | [] => some (vB true, [])
  | _ => none
def Sp (f : Nat) (l : List AV) : Option (AV × Heap) :=
  bif Nat.beq f f_water_readingFine then sp_water_readingFine l else bif Nat.beq f f_ref01_in then sp_ref01_in l else bif Nat.beq f f_water_holds then sp_water_holds l else bif Nat.beq f f_ref01_Span then sp_ref01_Span l else bif Nat.beq f f_water_gaugeFine then sp_water_gaugeFine l else bif Nat.beq f f_water_Known then sp_water_Known l else bif Nat.beq f f_ref01_Gauge then sp_ref01_Gauge l else bif Nat.beq f f_water_Fits then sp_water_Fits l else bif Nat.beq f f_ref01_Fits then sp_ref01_Fits l else bif Nat.beq f f_law01_known then sp_law01_known l else none
def lp_water_gaugeFine (s : St) : Option LTree :=
  match Tr.get (.o (.i (.i (.i .h)))) s.t, Tr.get (.o (.o (.o (.o (.o .h))))) s.t with
  | .c (.p (.isl 4 n f)), .c (.p (.int .i64 i)) => some (.br (S.from_ (S.rdAt (S.num f)) n i.toNat) (.e (.exit 0) ⟨.lf, s.h⟩) (.e .ret ⟨setAll [(.i (.o .h), vB false)], s.h⟩))
  | _, _ => none
def lp_ref01_Gauge (s : St) : Option LTree :=
  match s.h with
  | [some (.box _ [_, _, _, .p (.isl 4 n f)])] => match Tr.get (.o (.o .h)) s.t with
    | .c (.p (.int .i64 i)) => some (.br (S.from_ (S.rdAt (S.num f)) n i.toNat) (.e (.exit 0) ⟨setAll [(.o .h, .c (.pt 0 0))], s.h⟩) (.e .ret ⟨setAll [(.i .h, vB false)], s.h⟩))
    | _ => none
  | _ => none
def lp_ref01_Fits (j : Nat) (s : St) : Option LTree :=
  match s.h with
  | [some (.box _ [.p (.int .i64 ra), .p (.int .i64 le), .p (.int .i64 mo), .p (.isl 4 n f)])] => match Tr.get (.o .h) s.t with
    | .c (.p (.isl 1 m g)) => match j with
      | 1 => match Tr.get (.o (.i .h)) s.t with
        | .c (.p (.int .i64 i)) => some (.br (S.from_ (S.crAt ra le mo (S.num g)) m i.toNat) (.e (.exit 0) ⟨setAll [(.o .h, .c (.p (.isl 1 m g))), (.i .h, .c (.pt 0 0))], s.h⟩) (.e .ret ⟨setAll [(.i (.o .h), vB false)], s.h⟩))
        | _ => none
      | _ => match Tr.get (.i (.i .h)) s.t with
        | .c (.p (.int .i64 i)) => some (.br (S.from_ (S.rfAt (S.num f) (S.num g)) n i.toNat) (.e (.exit 2) ⟨.lf, s.h⟩) (.e .ret ⟨setAll [(.i (.o .h), vB false)], s.h⟩))
        | _ => none
    | _ => none
  | _ => none
def lp_water_minutes (s : St) : Option LTree :=
  match Tr.get (.i .h) s.t with
  | .c (.p (.int .i64 i)) => match s.h with
    | [b0, b1, b2, some (.lp nt t ps a b .ready)] => match b0, b1 with
      | some (.box _ [.p (.int .i64 ra), .p (.int .i64 le), .p (.int .i64 mo), _]), some (.box _ [.p (.isl 1 _ g)]) =>
        some (.br (S.from_ (S.crAt ra le mo (S.num g)) 1441 i.toNat) (.e (.exit 0) ⟨.lf, [b0, b1, b2, some (.lp nt t ps a b .ready)]⟩) (.e .ret ⟨.lf, [b0, b1, b2, some (.lp nt t ps a b (.done .ret))]⟩))
      | _, _ => none
    | _ => none
  | _ => none
def lp_water_Fits (s : St) : Option LTree :=
  match s.h with
  | [b0, b1, b2, none] => match b1 with
    | some (.box _ [.p (.isl 1 _ g)]) => match Tr.get (.o (.i (.i (.i (.o .h))))) s.t, Tr.get (.o (.o (.o (.o (.i .h))))) s.t with
      | .c (.p (.isl 4 n f)), .c (.p (.int .i64 i)) => some (.br (S.from_ (S.rfAt (S.num f) (S.num g)) n i.toNat) (.e (.exit 2) ⟨setAll [(.i (.o .h), .c (.pt 2 0))], [b0, b1, b2, none]⟩) (.e .ret ⟨setAll [(.i (.o .h), .c (.pt 2 0))], [b0, b1, b2, none]⟩))
      | _, _ => none
    | _ => none
  | _ => none
def Lp (n0 : Nat) (a : MC) (s : St) : Option LTree :=
  bif Nat.beq (keyM a 0) key_water_gaugeFine_l1 then lp_water_gaugeFine s else bif Nat.beq (keyM a 0) key_ref01_Gauge_l1 then lp_ref01_Gauge s else bif Nat.beq (keyM a 0) key_ref01_Fits_l1 then lp_ref01_Fits 1 s else bif Nat.beq (keyM a 0) key_ref01_Fits_l2 then lp_ref01_Fits 2 s else bif Nat.beq (keyM a 0) key_water_minutes_l1 then lp_water_minutes s else bif Nat.beq (keyM a 0) key_water_Fits_l1 then lp_water_Fits s else none
def gC (ra le mo : Int) (n : Nat) (f : Nat → Nat → PV) : List CV := [.p (.int .i64 ra), .p (.int .i64 le), .p (.int .i64 mo), .p (.isl 4 n f)]
def t61 (ra le mo : Int) (n : Nat) (f : Nat → Nat → PV) (m : Nat) (g : Nat → Nat → PV) (e : Int) : Tr :=
  (.nd (.nd (.nd (.nd (.nd .lf (vB false) .lf) .any .lf) (.c (.pt 1 0)) (.nd .lf (vB false) .lf)) (.c (.p (.isl 1 m g))) (.nd (.nd .lf (.ag (gC ra le mo n f)) .lf) .any (.nd .lf (.c (.p (.isl 1 m g))) .lf))) (.ag (gC ra le mo n f)) (.nd (.nd (.nd (.nd .lf (vB false) .lf) .any .lf) (.c (.pt 2 0)) (.nd .lf (vB false) .lf)) (.c (.pt 0 0)) (.nd (.nd .lf (.c (.p (.int .i64 e))) .lf) .any (.nd .lf (.c (.p (.int .i64 m))) .lf))))
def HF (ra le mo : Int) (n : Nat) (f : Nat → Nat → PV) (m : Nat) (g : Nat → Nat → PV) (e : Int) (st : LS) : Heap := [some (.box t_api_Gauge (gC ra le mo n f)), some (.box t_sl_int [.p (.isl 1 m g)]), some (.box t_bool [.p (.bool false)]), some (.lp 61 (t61 ra le mo n f m g e) [.o (.i (.o (.o .h)))] m_water_Fits_a1 m_water_Fits_b1 st)]
def cs {P : Program} (hbs : BsOk P) : Cfg := { c0 hbs with ur := false, B := fun _ => none, Sp := Sp, Lp := Lp }
section
variable {hbs : BsOk Tryd.prog}
theorem vc_water_holds (lo hi x : Int) (Q : AV → Heap → Prop) :
 ((BrP (decide (lo ≤ x))
 (BrP (decide (x ≤ hi))
  (Q (.c (.p (.bool true))) [(some (.box t_api_Span [(.p (.int .i64 lo)), (.p (.int .i64 hi))]))])
  (Q (.c (.p (.bool false))) [(some (.box t_api_Span [(.p (.int .i64 lo)), (.p (.int .i64 hi))]))]))
 (Q (.c (.p (.bool false))) [(some (.box t_api_Span [(.p (.int .i64 lo)), (.p (.int .i64 hi))]))]))) = (ex (cs hbs) 1000 0 m_water_holds ⟨ofL 0 [.ag [.p (.int .i64 lo), .p (.int .i64 hi)], .c (.p (.int .i64 x))] .lf, []⟩ (endK F_water_holds.rs (fun r H => .pr (Q r H)) fun _ _ => .no)).hold2 := by kernel_rfl
theorem vc_ref01_in (lo hi x : Int) (Q : AV → Heap → Prop) :
 ((BrP (decide (x ≥ lo))
 (BrP (decide (x ≤ hi))
  (Q (.c (.p (.bool true))) [])
  (Q (.c (.p (.bool false))) []))
 (Q (.c (.p (.bool false))) []))) = (ex (cs hbs) 1000 0 m_ref01_in ⟨ofL 0 [.c (.p (.int .i64 x)), .c (.p (.int .i64 lo)), .c (.p (.int .i64 hi))] .lf, []⟩ (endK F_ref01_in.rs (fun r H => .pr (Q r H)) fun _ _ => .no)).hold2 := by kernel_rfl
theorem vc_ref01_Span (l h lo hi : Int) (Q : AV → Heap → Prop) :
 ((BrP (decide (l ≥ lo))
 (BrP (decide (l ≤ h))
  (BrP (decide (h ≤ hi))
   (Q (.c (.p (.bool true))) [(some (.box t_api_Span [(.p (.int .i64 l)), (.p (.int .i64 h))]))])
   (Q (.c (.p (.bool false))) [(some (.box t_api_Span [(.p (.int .i64 l)), (.p (.int .i64 h))]))]))
  (Q (.c (.p (.bool false))) [(some (.box t_api_Span [(.p (.int .i64 l)), (.p (.int .i64 h))]))]))
 (Q (.c (.p (.bool false))) [(some (.box t_api_Span [(.p (.int .i64 l)), (.p (.int .i64 h))]))]))) = (ex (cs hbs) 1000 0 m_ref01_Span ⟨ofL 0 [.ag [.p (.int .i64 l), .p (.int .i64 h)], .c (.p (.int .i64 lo)), .c (.p (.int .i64 hi))] .lf, []⟩ (endK F_ref01_Span.rs (fun r H => .pr (Q r H)) fun _ _ => .no)).hold2 := by kernel_rfl
theorem vc_water_readingFine (mi l h so : Int) (Q : AV → Heap → Prop) :
 (((FCall (cs hbs) f_water_holds [(.ag [(.p (.int .i64 (0 : Int))), (.p (.int .i64 (1440 : Int)))]), (.c (.p (.int .i64 mi)))] (.c (.p (.bool (S.inB (0 : Int) mi (1440 : Int))))) []) ∧
 (BrP (S.inB (0 : Int) mi (1440 : Int))
 (BrP (decide ((-(100000 : Int)) ≤ l))
  (BrP (decide (l ≤ h))
   (BrP (decide (h ≤ (100000 : Int)))
    ((FCall (cs hbs) f_water_holds [(.ag [(.p (.int .i64 (0 : Int))), (.p (.int .i64 (7 : Int)))]), (.c (.p (.int .i64 so)))] (.c (.p (.bool (S.inB (0 : Int) so (7 : Int))))) []) ∧
     (BrP (S.inB (0 : Int) so (7 : Int))
     (Q (.c (.p (.bool true))) [(some (.box t_api_Reading [(.p (.int .i64 mi)), (.p (.int .i64 l)), (.p (.int .i64 h)), (.p (.int .i64 so))]))])
     (Q (.c (.p (.bool false))) [(some (.box t_api_Reading [(.p (.int .i64 mi)), (.p (.int .i64 l)), (.p (.int .i64 h)), (.p (.int .i64 so))]))])))
    (Q (.c (.p (.bool false))) [(some (.box t_api_Reading [(.p (.int .i64 mi)), (.p (.int .i64 l)), (.p (.int .i64 h)), (.p (.int .i64 so))]))]))
   (Q (.c (.p (.bool false))) [(some (.box t_api_Reading [(.p (.int .i64 mi)), (.p (.int .i64 l)), (.p (.int .i64 h)), (.p (.int .i64 so))]))]))
  (Q (.c (.p (.bool false))) [(some (.box t_api_Reading [(.p (.int .i64 mi)), (.p (.int .i64 l)), (.p (.int .i64 h)), (.p (.int .i64 so))]))]))
 (Q (.c (.p (.bool false))) [(some (.box t_api_Reading [(.p (.int .i64 mi)), (.p (.int .i64 l)), (.p (.int .i64 h)), (.p (.int .i64 so))]))])))) = (ex (cs hbs) 1000 0 m_water_readingFine ⟨ofL 0 [.ag [.p (.int .i64 mi), .p (.int .i64 l), .p (.int .i64 h), .p (.int .i64 so)]] .lf, []⟩ (endK F_water_readingFine.rs (fun r H => .pr (Q r H)) fun _ _ => .no)).hold2 := by kernel_rfl
theorem vc_water_gaugeFine (ra le mo : Int) (n : Nat) (r : S.Rows) (lo hi : Int) (Q : AV → Heap → Prop) :
 (((FCall (cs hbs) f_water_holds [(.ag [(.p (.int .i64 (0 : Int))), (.p (.int .i64 (1000 : Int)))]), (.c (.p (.int .i64 ra)))] (.c (.p (.bool (S.inB (0 : Int) ra (1000 : Int))))) []) ∧
 (BrP (S.inB (0 : Int) ra (1000 : Int))
 (BrP (decide (lo ≤ le))
  (BrP (decide (le ≤ mo))
   (BrP (decide (mo ≤ hi))
    (BrP (decide (((n : Nat) : Int) > (30 : Int)))
     (Q (.c (.p (.bool false))) [(some (.box t_api_Gauge [(.p (.int .i64 ra)), (.p (.int .i64 le)), (.p (.int .i64 mo)), (.p (.isl 4 n (S.val r)))])), (some (.box t_api_Span [(.p (.int .i64 lo)), (.p (.int .i64 hi))]))])
     ((LoopGo (ex (cs hbs) 994) 0 m_water_gaugeFine_l1 ⟨(.nd (.nd (.nd (.nd (.nd (.nd .lf (.c (.p (.int .i64 (0 : Int)))) .lf) (.c (.pt 0 2)) .lf) (.ag [(.p (.int .i64 (0 : Int))), (.p (.int .i64 (1000 : Int)))]) (.nd .lf (.c (.pt 0 3)) .lf)) (.c (.pt 1 0)) (.nd (.nd .lf (.c (.p (.bool true))) .lf) (.c (.p (.bool false))) (.nd .lf (.c (.p (.bool false))) .lf))) (.ag [(.p (.int .i64 lo)), (.p (.int .i64 hi))]) (.nd (.nd (.nd .lf (.ag [(.p (.int .i64 le)), (.p (.int .i64 mo))]) .lf) (.c (.p (.int .i64 ra))) (.nd .lf (.c (.p (.int .i64 ((n : Nat) : Int)))) .lf)) .any (.nd (.nd .lf (.c (.p (.bool false))) .lf) (.c (.pt 0 1)) (.nd .lf (.c (.p (.isl 4 n (S.val r)))) .lf)))) (.ag [(.p (.int .i64 ra)), (.p (.int .i64 le)), (.p (.int .i64 mo)), (.p (.isl 4 n (S.val r)))]) (.nd (.nd (.nd (.nd .lf (.c (.p (.int .i64 mo))) .lf) (.c (.pt 0 0)) (.nd .lf (.c (.p (.isl 4 n (S.val r)))) .lf)) (.c (.p (.bool false))) (.nd (.nd .lf (.c (.p (.bool false))) .lf) (.c (.p (.bool false))) (.nd .lf (.c (.pt 0 3)) .lf))) (.c (.pt 0 0)) (.nd (.nd (.nd .lf (.ag [(.p (.int .i64 lo)), (.p (.int .i64 hi))]) .lf) (.c (.p (.bool true))) (.nd .lf (.c (.p (.bool false))) .lf)) .any (.nd (.nd .lf (.c (.p (.bool false))) .lf) (.c (.p (.int .i64 le))) (.nd .lf (.c (.p (.int .i64 ((n : Nat) : Int)))) .lf))))), [(some (.box t_api_Gauge [(.p (.int .i64 ra)), (.p (.int .i64 le)), (.p (.int .i64 mo)), (.p (.isl 4 n (S.val r)))])), (some (.box t_api_Span [(.p (.int .i64 lo)), (.p (.int .i64 hi))]))]⟩ (.br (S.from_ (S.rdAt r) n 0) (.e (.exit 0) ⟨.lf, [(some (.box t_api_Gauge [(.p (.int .i64 ra)), (.p (.int .i64 le)), (.p (.int .i64 mo)), (.p (.isl 4 n (S.val r)))])), (some (.box t_api_Span [(.p (.int .i64 lo)), (.p (.int .i64 hi))]))]⟩) (.e .ret ⟨(.nd .lf .any (.nd (.nd .lf (.c (.p (.bool false))) .lf) .any .lf)), [(some (.box t_api_Gauge [(.p (.int .i64 ra)), (.p (.int .i64 le)), (.p (.int .i64 mo)), (.p (.isl 4 n (S.val r)))])), (some (.box t_api_Span [(.p (.int .i64 lo)), (.p (.int .i64 hi))]))]⟩))) ∧
      (BrP (S.from_ (S.rdAt r) n 0)
      (Q (.c (.p (.bool true))) [(some (.box t_api_Gauge [(.p (.int .i64 ra)), (.p (.int .i64 le)), (.p (.int .i64 mo)), (.p (.isl 4 n (S.val r)))])), (some (.box t_api_Span [(.p (.int .i64 lo)), (.p (.int .i64 hi))]))])
      (Q (.c (.p (.bool false))) [(some (.box t_api_Gauge [(.p (.int .i64 ra)), (.p (.int .i64 le)), (.p (.int .i64 mo)), (.p (.isl 4 n (S.val r)))])), (some (.box t_api_Span [(.p (.int .i64 lo)), (.p (.int .i64 hi))]))]))))
    (Q (.c (.p (.bool false))) [(some (.box t_api_Gauge [(.p (.int .i64 ra)), (.p (.int .i64 le)), (.p (.int .i64 mo)), (.p (.isl 4 n (S.val r)))])), (some (.box t_api_Span [(.p (.int .i64 lo)), (.p (.int .i64 hi))]))]))
   (Q (.c (.p (.bool false))) [(some (.box t_api_Gauge [(.p (.int .i64 ra)), (.p (.int .i64 le)), (.p (.int .i64 mo)), (.p (.isl 4 n (S.val r)))])), (some (.box t_api_Span [(.p (.int .i64 lo)), (.p (.int .i64 hi))]))]))
  (Q (.c (.p (.bool false))) [(some (.box t_api_Gauge [(.p (.int .i64 ra)), (.p (.int .i64 le)), (.p (.int .i64 mo)), (.p (.isl 4 n (S.val r)))])), (some (.box t_api_Span [(.p (.int .i64 lo)), (.p (.int .i64 hi))]))]))
 (Q (.c (.p (.bool false))) [(some (.box t_api_Gauge [(.p (.int .i64 ra)), (.p (.int .i64 le)), (.p (.int .i64 mo)), (.p (.isl 4 n (S.val r)))])), (some (.box t_api_Span [(.p (.int .i64 lo)), (.p (.int .i64 hi))]))])))) = (ex (cs hbs) 1000 0 m_water_gaugeFine ⟨ofL 0 [.ag (gC ra le mo n (S.val r)), .ag [.p (.int .i64 lo), .p (.int .i64 hi)]] .lf, []⟩ (endK F_water_gaugeFine.rs (fun r H => .pr (Q r H)) fun _ _ => .no)).hold2 := by kernel_rfl
theorem vs_water_gaugeFine (fu i : Nat) (ra le mo : Int) (n : Nat) (r : S.Rows) (lo hi : Int) (Q : AX → St → Prop) :
 ((BrP (decide (((i : Nat) : Int) < ((n : Nat) : Int)))
 (CdP (.rng ((i : Nat) : Int) n)
  ((FCall (cs hbs) f_water_readingFine [(.ag [(.p (.int .i64 (r i 0))), (.p (.int .i64 (r i 1))), (.p (.int .i64 (r i 2))), (.p (.int .i64 (r i 3)))])] (.c (.p (.bool (S.rdOk (r i 0) (r i 1) (r i 2) (r i 3))))) []) ∧
  (BrP (S.rdOk (r i 0) (r i 1) (r i 2) (r i 3))
  (CdP (.i64 (((i : Nat) : Int) + (1 : Int)))
   (Q .normal ⟨(.nd (.nd (.nd (.nd (.nd (.nd .lf (.c (.p (.int .i64 (((i : Nat) : Int) + (1 : Int))))) .lf) .any .lf) .any .lf) .any (.nd (.nd (.nd .lf (.ag [(.p (.int .i64 (r i 0))), (.p (.int .i64 (r i 1))), (.p (.int .i64 (r i 2))), (.p (.int .i64 (r i 3)))]) .lf) .any .lf) .any .lf)) .any (.nd (.nd (.nd (.nd .lf (.c (.p (.ipt 4 (S.val r i)))) .lf) .any .lf) .any .lf) .any (.nd (.nd (.nd .lf (.c (.p (.bool false))) .lf) .any .lf) .any (.nd .lf (.c (.p (.isl 4 n (S.val r)))) .lf)))) .any (.nd (.nd (.nd (.nd (.nd .lf (.c (.p (.bool true))) .lf) .any .lf) .any .lf) .any (.nd (.nd (.nd .lf (.c (.p (.bool true))) .lf) .any .lf) .any .lf)) .any (.nd (.nd (.nd (.nd .lf (.ag [(.p (.int .i64 (r i 0))), (.p (.int .i64 (r i 1))), (.p (.int .i64 (r i 2))), (.p (.int .i64 (r i 3)))]) .lf) .any .lf) .any .lf) (.c (.pt 2 0)) (.nd (.nd (.nd .lf (.c (.p (.int .i64 (((i : Nat) : Int) + (1 : Int))))) .lf) .any .lf) .any (.nd .lf (.c (.p (.int .i64 ((n : Nat) : Int)))) .lf))))), [(some (.box t_api_Gauge [(.p (.int .i64 ra)), (.p (.int .i64 le)), (.p (.int .i64 mo)), (.p (.isl 4 n (S.val r)))])), (some (.box t_api_Span [(.p (.int .i64 lo)), (.p (.int .i64 hi))])), (some (.box t_api_Reading [(.p (.int .i64 (r i 0))), (.p (.int .i64 (r i 1))), (.p (.int .i64 (r i 2))), (.p (.int .i64 (r i 3)))]))]⟩))
  (Q .ret ⟨(.nd (.nd (.nd (.nd (.nd (.nd .lf (.c (.p (.int .i64 ((i : Nat) : Int)))) .lf) .any .lf) .any .lf) .any (.nd (.nd (.nd .lf (.ag [(.p (.int .i64 (r i 0))), (.p (.int .i64 (r i 1))), (.p (.int .i64 (r i 2))), (.p (.int .i64 (r i 3)))]) .lf) .any .lf) .any .lf)) .any (.nd (.nd (.nd (.nd .lf (.c (.p (.ipt 4 (S.val r i)))) .lf) .any .lf) .any .lf) .any (.nd (.nd (.nd .lf (.c (.p (.bool true))) .lf) .any .lf) .any (.nd .lf (.c (.p (.isl 4 n (S.val r)))) .lf)))) .any (.nd (.nd (.nd (.nd (.nd .lf (.c (.p (.bool true))) .lf) .any .lf) .any .lf) (.c (.p (.bool false))) (.nd (.nd (.nd .lf (.c (.p (.bool false))) .lf) .any .lf) .any .lf)) .any (.nd (.nd (.nd (.nd .lf (.ag [(.p (.int .i64 (r i 0))), (.p (.int .i64 (r i 1))), (.p (.int .i64 (r i 2))), (.p (.int .i64 (r i 3)))]) .lf) .any .lf) .any .lf) (.c (.pt 2 0)) (.nd .lf .any (.nd .lf (.c (.p (.int .i64 ((n : Nat) : Int)))) .lf))))), [(some (.box t_api_Gauge [(.p (.int .i64 ra)), (.p (.int .i64 le)), (.p (.int .i64 mo)), (.p (.isl 4 n (S.val r)))])), (some (.box t_api_Span [(.p (.int .i64 lo)), (.p (.int .i64 hi))])), (some (.box t_api_Reading [(.p (.int .i64 (r i 0))), (.p (.int .i64 (r i 1))), (.p (.int .i64 (r i 2))), (.p (.int .i64 (r i 3)))]))]⟩))))
 (Q (.exit 0) ⟨(.nd (.nd (.nd (.nd (.nd (.nd .lf (.c (.p (.int .i64 ((i : Nat) : Int)))) .lf) .any .lf) .any .lf) .any .lf) .any (.nd .lf .any (.nd .lf .any (.nd .lf (.c (.p (.isl 4 n (S.val r)))) .lf)))) .any (.nd (.nd (.nd (.nd (.nd .lf (.c (.p (.bool false))) .lf) .any .lf) .any .lf) .any .lf) .any (.nd .lf .any (.nd .lf .any (.nd .lf (.c (.p (.int .i64 ((n : Nat) : Int)))) .lf))))), [(some (.box t_api_Gauge [(.p (.int .i64 ra)), (.p (.int .i64 le)), (.p (.int .i64 mo)), (.p (.isl 4 n (S.val r)))])), (some (.box t_api_Span [(.p (.int .i64 lo)), (.p (.int .i64 hi))]))]⟩))) = (ex (cs hbs) (fu + 60) 0 m_water_gaugeFine_l1 ⟨setAll [(.o (.i (.i (.i .h))), .c (.p (.isl 4 n (S.val r)))), (.i (.i (.i (.i .h))), .c (.p (.int .i64 n))), (.o (.o (.o (.o (.o .h)))), .c (.p (.int .i64 i)))], [some (.box t_api_Gauge (gC ra le mo n (S.val r))), some (.box t_api_Span [.p (.int .i64 lo), .p (.int .i64 hi)])]⟩ (fun e s => .pr (Q e s))).hold2 := by kernel_rfl
theorem vc_water_Known (ra le mo : Int) (n : Nat) (r : S.Rows) (Q : AV → Heap → Prop) :
 (((FCall (cs hbs) f_water_gaugeFine [(.ag [(.p (.int .i64 ra)), (.p (.int .i64 le)), (.p (.int .i64 mo)), (.p (.isl 4 n (S.val r)))]), (.ag [(.p (.int .i64 (-(100000 : Int)))), (.p (.int .i64 (100000 : Int)))])] (.c (.p (.bool (S.ggB ra le mo n r (-(100000 : Int)) (100000 : Int))))) []) ∧
 (BrP (S.ggB ra le mo n r (-(100000 : Int)) (100000 : Int))
 (Q (.c (.p (.int .i64 (0 : Int)))) [(some (.box t_api_Gauge [(.p (.int .i64 ra)), (.p (.int .i64 le)), (.p (.int .i64 mo)), (.p (.isl 4 n (S.val r)))]))])
 (Q (.c (.p (.int .i64 (2 : Int)))) [(some (.box t_api_Gauge [(.p (.int .i64 ra)), (.p (.int .i64 le)), (.p (.int .i64 mo)), (.p (.isl 4 n (S.val r)))]))])))) = (ex (cs hbs) 1000 0 m_water_Known ⟨ofL 0 [.ag (gC ra le mo n (S.val r))] .lf, []⟩ (endK F_water_Known.rs (fun r H => .pr (Q r H)) fun _ _ => .no)).hold2 := by kernel_rfl
theorem vc_ref01_Gauge (ra le mo : Int) (n : Nat) (r : S.Rows) (Q : AV → Heap → Prop) :
 (((LoopGo (ex (cs hbs) 995) 0 m_ref01_Gauge_l1 ⟨(.nd (.nd (.nd .lf (.c (.p (.int .i64 (0 : Int)))) .lf) (.c (.pt 0 0)) .lf) (.ag [(.p (.int .i64 ra)), (.p (.int .i64 le)), (.p (.int .i64 mo)), (.p (.isl 4 n (S.val r)))]) (.nd .lf (.c (.p (.bool false))) .lf)), [(some (.box t_api_Gauge [(.p (.int .i64 ra)), (.p (.int .i64 le)), (.p (.int .i64 mo)), (.p (.isl 4 n (S.val r)))]))]⟩ (.br (S.from_ (S.rdAt r) n 0) (.e (.exit 0) ⟨(.nd (.nd .lf (.c (.pt 0 0)) .lf) .any .lf), [(some (.box t_api_Gauge [(.p (.int .i64 ra)), (.p (.int .i64 le)), (.p (.int .i64 mo)), (.p (.isl 4 n (S.val r)))]))]⟩) (.e .ret ⟨(.nd .lf .any (.nd .lf (.c (.p (.bool false))) .lf)), [(some (.box t_api_Gauge [(.p (.int .i64 ra)), (.p (.int .i64 le)), (.p (.int .i64 mo)), (.p (.isl 4 n (S.val r)))]))]⟩))) ∧
 (BrP (S.from_ (S.rdAt r) n 0)
 ((FCall (cs hbs) f_ref01_in [(.c (.p (.int .i64 ra))), (.c (.p (.int .i64 (0 : Int)))), (.c (.p (.int .i64 (1000 : Int))))] (.c (.p (.bool (S.inB (0 : Int) ra (1000 : Int))))) []) ∧
  (BrP (S.inB (0 : Int) ra (1000 : Int))
  ((FCall (cs hbs) f_ref01_Span [(.ag [(.p (.int .i64 le)), (.p (.int .i64 mo))]), (.c (.p (.int .i64 (-(100000 : Int))))), (.c (.p (.int .i64 (100000 : Int))))] (.c (.p (.bool (S.spB (-(100000 : Int)) le mo (100000 : Int))))) []) ∧
   (BrP (S.spB (-(100000 : Int)) le mo (100000 : Int))
   (BrP (decide (((n : Nat) : Int) ≤ (30 : Int)))
    (Q (.c (.p (.bool true))) [(some (.box t_api_Gauge [(.p (.int .i64 ra)), (.p (.int .i64 le)), (.p (.int .i64 mo)), (.p (.isl 4 n (S.val r)))]))])
    (Q (.c (.p (.bool false))) [(some (.box t_api_Gauge [(.p (.int .i64 ra)), (.p (.int .i64 le)), (.p (.int .i64 mo)), (.p (.isl 4 n (S.val r)))]))]))
   (Q (.c (.p (.bool false))) [(some (.box t_api_Gauge [(.p (.int .i64 ra)), (.p (.int .i64 le)), (.p (.int .i64 mo)), (.p (.isl 4 n (S.val r)))]))])))
  (Q (.c (.p (.bool false))) [(some (.box t_api_Gauge [(.p (.int .i64 ra)), (.p (.int .i64 le)), (.p (.int .i64 mo)), (.p (.isl 4 n (S.val r)))]))])))
 (Q (.c (.p (.bool false))) [(some (.box t_api_Gauge [(.p (.int .i64 ra)), (.p (.int .i64 le)), (.p (.int .i64 mo)), (.p (.isl 4 n (S.val r)))]))])))) = (ex (cs hbs) 1000 0 m_ref01_Gauge ⟨ofL 0 [.ag (gC ra le mo n (S.val r))] .lf, []⟩ (endK F_ref01_Gauge.rs (fun r H => .pr (Q r H)) fun _ _ => .no)).hold2 := by kernel_rfl
theorem vs_ref01_Gauge (fu i : Nat) (ra le mo : Int) (n : Nat) (r : S.Rows) (Q : AX → St → Prop) :
 ((BrP (decide (((i : Nat) : Int) < ((n : Nat) : Int)))
 (CdP (.rng ((i : Nat) : Int) n)
  ((FCall (cs hbs) f_ref01_in [(.c (.p (.int .i64 (r i 0)))), (.c (.p (.int .i64 (0 : Int)))), (.c (.p (.int .i64 (1440 : Int))))] (.c (.p (.bool (S.inB (0 : Int) (r i 0) (1440 : Int))))) []) ∧
  (BrP (S.inB (0 : Int) (r i 0) (1440 : Int))
  ((FCall (cs hbs) f_ref01_Span [(.ag [(.p (.int .i64 (r i 1))), (.p (.int .i64 (r i 2)))]), (.c (.p (.int .i64 (-(100000 : Int))))), (.c (.p (.int .i64 (100000 : Int))))] (.c (.p (.bool (S.spB (-(100000 : Int)) (r i 1) (r i 2) (100000 : Int))))) []) ∧
   (BrP (S.spB (-(100000 : Int)) (r i 1) (r i 2) (100000 : Int))
   ((FCall (cs hbs) f_ref01_in [(.c (.p (.int .i64 (r i 3)))), (.c (.p (.int .i64 (0 : Int)))), (.c (.p (.int .i64 (7 : Int))))] (.c (.p (.bool (S.inB (0 : Int) (r i 3) (7 : Int))))) []) ∧
    (BrP (S.inB (0 : Int) (r i 3) (7 : Int))
    (CdP (.i64 (((i : Nat) : Int) + (1 : Int)))
     (Q .normal ⟨(.nd (.nd (.nd (.nd (.nd (.nd .lf (.c (.p (.bool false))) .lf) (.c (.p (.ipt 4 (S.val r i)))) .lf) (.c (.p (.isl 4 n (S.val r)))) (.nd .lf (.ag [(.p (.int .i64 (r i 1))), (.p (.int .i64 (r i 2)))]) .lf)) (.c (.p (.int .i64 (((i : Nat) : Int) + (1 : Int))))) (.nd (.nd .lf (.c (.p (.bool true))) .lf) (.c (.p (.int .i64 (((i : Nat) : Int) + (1 : Int))))) (.nd .lf (.c (.p (.bool false))) .lf))) (.c (.pt 0 0)) (.nd (.nd (.nd .lf (.c (.pt 1 0)) .lf) (.c (.p (.bool true))) (.nd .lf (.c (.p (.bool false))) .lf)) (.c (.p (.int .i64 ((i : Nat) : Int)))) (.nd (.nd .lf (.c (.p (.bool false))) .lf) (.c (.p (.isl 4 n (S.val r)))) (.nd .lf (.c (.p (.int .i64 (r i 3)))) .lf)))) .any (.nd (.nd (.nd (.nd (.nd .lf (.c (.p (.bool false))) .lf) (.ag [(.p (.int .i64 (r i 0))), (.p (.int .i64 (r i 1))), (.p (.int .i64 (r i 2))), (.p (.int .i64 (r i 3)))]) .lf) (.c (.p (.int .i64 ((n : Nat) : Int)))) (.nd .lf (.c (.p (.bool true))) .lf)) (.c (.pt 1 0)) (.nd (.nd .lf (.c (.p (.bool false))) .lf) (.c (.pt 0 3)) (.nd .lf (.c (.pt 1 3)) .lf))) .any (.nd (.nd (.nd .lf (.c (.p (.int .i64 (r i 0)))) .lf) (.c (.p (.int .i64 ((i : Nat) : Int)))) (.nd .lf (.c (.p (.bool false))) .lf)) (.c (.pt 0 3)) (.nd (.nd .lf (.c (.pt 1 1)) .lf) (.c (.p (.int .i64 ((i : Nat) : Int)))) (.nd .lf (.c (.p (.bool true))) .lf))))), [(some (.box t_api_Gauge [(.p (.int .i64 ra)), (.p (.int .i64 le)), (.p (.int .i64 mo)), (.p (.isl 4 n (S.val r)))])), (some (.box t_api_Reading [(.p (.int .i64 (r i 0))), (.p (.int .i64 (r i 1))), (.p (.int .i64 (r i 2))), (.p (.int .i64 (r i 3)))]))]⟩))
    (Q .ret ⟨(.nd (.nd (.nd (.nd (.nd (.nd .lf (.c (.p (.bool true))) .lf) (.c (.p (.ipt 4 (S.val r i)))) .lf) (.c (.p (.isl 4 n (S.val r)))) (.nd .lf (.ag [(.p (.int .i64 (r i 1))), (.p (.int .i64 (r i 2)))]) .lf)) (.c (.p (.int .i64 ((i : Nat) : Int)))) (.nd (.nd .lf (.c (.p (.bool true))) .lf) .any (.nd .lf (.c (.p (.bool false))) .lf))) (.c (.pt 0 0)) (.nd (.nd (.nd .lf (.c (.pt 1 0)) .lf) (.c (.p (.bool true))) (.nd .lf (.c (.p (.bool false))) .lf)) (.c (.p (.int .i64 ((i : Nat) : Int)))) (.nd (.nd .lf (.c (.p (.bool false))) .lf) (.c (.p (.isl 4 n (S.val r)))) (.nd .lf (.c (.p (.int .i64 (r i 3)))) .lf)))) .any (.nd (.nd (.nd (.nd (.nd .lf (.c (.p (.bool true))) .lf) (.ag [(.p (.int .i64 (r i 0))), (.p (.int .i64 (r i 1))), (.p (.int .i64 (r i 2))), (.p (.int .i64 (r i 3)))]) .lf) (.c (.p (.int .i64 ((n : Nat) : Int)))) (.nd .lf (.c (.p (.bool true))) .lf)) (.c (.pt 1 0)) (.nd (.nd .lf (.c (.p (.bool false))) .lf) (.c (.pt 0 3)) (.nd .lf (.c (.pt 1 3)) .lf))) (.c (.p (.bool false))) (.nd (.nd (.nd .lf (.c (.p (.int .i64 (r i 0)))) .lf) .any (.nd .lf (.c (.p (.bool false))) .lf)) (.c (.pt 0 3)) (.nd (.nd .lf (.c (.pt 1 1)) .lf) (.c (.p (.int .i64 ((i : Nat) : Int)))) (.nd .lf (.c (.p (.bool false))) .lf))))), [(some (.box t_api_Gauge [(.p (.int .i64 ra)), (.p (.int .i64 le)), (.p (.int .i64 mo)), (.p (.isl 4 n (S.val r)))])), (some (.box t_api_Reading [(.p (.int .i64 (r i 0))), (.p (.int .i64 (r i 1))), (.p (.int .i64 (r i 2))), (.p (.int .i64 (r i 3)))]))]⟩)))
   (Q .ret ⟨(.nd (.nd (.nd (.nd (.nd (.nd .lf (.tp []) .lf) (.c (.p (.ipt 4 (S.val r i)))) .lf) (.c (.p (.isl 4 n (S.val r)))) (.nd .lf (.ag [(.p (.int .i64 (r i 1))), (.p (.int .i64 (r i 2)))]) .lf)) (.c (.p (.int .i64 ((i : Nat) : Int)))) (.nd (.nd .lf (.c (.p (.bool true))) .lf) .any (.nd .lf (.c (.p (.bool true))) .lf))) (.c (.pt 0 0)) (.nd (.nd (.nd .lf (.c (.pt 1 0)) .lf) (.c (.p (.bool true))) (.nd .lf (.c (.p (.bool true))) .lf)) (.c (.p (.int .i64 ((i : Nat) : Int)))) (.nd (.nd .lf (.c (.p (.bool false))) .lf) (.c (.p (.isl 4 n (S.val r)))) (.nd .lf (.tp []) .lf)))) .any (.nd (.nd (.nd (.nd (.nd .lf (.c (.p (.bool true))) .lf) (.ag [(.p (.int .i64 (r i 0))), (.p (.int .i64 (r i 1))), (.p (.int .i64 (r i 2))), (.p (.int .i64 (r i 3)))]) .lf) (.c (.p (.int .i64 ((n : Nat) : Int)))) (.nd .lf (.c (.p (.bool false))) .lf)) (.c (.pt 1 0)) (.nd (.nd .lf (.c (.p (.bool false))) .lf) (.c (.pt 0 3)) (.nd .lf (.tp []) .lf))) (.c (.p (.bool false))) (.nd (.nd (.nd .lf (.c (.p (.int .i64 (r i 0)))) .lf) .any (.nd .lf (.c (.p (.bool true))) .lf)) (.c (.pt 0 3)) (.nd (.nd .lf (.c (.pt 1 1)) .lf) (.c (.p (.int .i64 ((i : Nat) : Int)))) (.nd .lf (.tp []) .lf))))), [(some (.box t_api_Gauge [(.p (.int .i64 ra)), (.p (.int .i64 le)), (.p (.int .i64 mo)), (.p (.isl 4 n (S.val r)))])), (some (.box t_api_Reading [(.p (.int .i64 (r i 0))), (.p (.int .i64 (r i 1))), (.p (.int .i64 (r i 2))), (.p (.int .i64 (r i 3)))]))]⟩)))
  (Q .ret ⟨(.nd (.nd (.nd (.nd (.nd (.nd .lf (.tp []) .lf) (.c (.p (.ipt 4 (S.val r i)))) .lf) (.c (.p (.isl 4 n (S.val r)))) (.nd .lf (.tp []) .lf)) (.c (.p (.int .i64 ((i : Nat) : Int)))) (.nd (.nd .lf (.c (.p (.bool false))) .lf) .any (.nd .lf (.c (.p (.bool true))) .lf))) (.c (.pt 0 0)) (.nd (.nd (.nd .lf (.c (.pt 1 0)) .lf) (.c (.p (.bool true))) (.nd .lf (.tp []) .lf)) (.c (.p (.int .i64 ((i : Nat) : Int)))) (.nd (.nd .lf (.c (.p (.bool true))) .lf) (.c (.p (.isl 4 n (S.val r)))) (.nd .lf (.tp []) .lf)))) .any (.nd (.nd (.nd (.nd (.nd .lf (.c (.p (.bool true))) .lf) (.ag [(.p (.int .i64 (r i 0))), (.p (.int .i64 (r i 1))), (.p (.int .i64 (r i 2))), (.p (.int .i64 (r i 3)))]) .lf) (.c (.p (.int .i64 ((n : Nat) : Int)))) (.nd .lf (.tp []) .lf)) (.c (.pt 1 0)) (.nd (.nd .lf (.c (.p (.bool true))) .lf) (.c (.pt 0 3)) (.nd .lf (.tp []) .lf))) (.c (.p (.bool false))) (.nd (.nd (.nd .lf (.c (.p (.int .i64 (r i 0)))) .lf) .any (.nd .lf (.c (.p (.bool true))) .lf)) (.c (.pt 0 3)) (.nd (.nd .lf (.tp []) .lf) (.c (.p (.int .i64 ((i : Nat) : Int)))) (.nd .lf (.tp []) .lf))))), [(some (.box t_api_Gauge [(.p (.int .i64 ra)), (.p (.int .i64 le)), (.p (.int .i64 mo)), (.p (.isl 4 n (S.val r)))])), (some (.box t_api_Reading [(.p (.int .i64 (r i 0))), (.p (.int .i64 (r i 1))), (.p (.int .i64 (r i 2))), (.p (.int .i64 (r i 3)))]))]⟩))))
 (Q (.exit 0) ⟨(.nd (.nd (.nd (.nd .lf (.c (.p (.isl 4 n (S.val r)))) .lf) (.c (.p (.int .i64 ((i : Nat) : Int)))) .lf) (.c (.pt 0 0)) (.nd (.nd .lf (.c (.p (.bool false))) .lf) (.c (.p (.int .i64 ((i : Nat) : Int)))) .lf)) .any (.nd (.nd (.nd .lf (.c (.p (.int .i64 ((n : Nat) : Int)))) .lf) .any .lf) .any (.nd .lf (.c (.pt 0 3)) .lf))), [(some (.box t_api_Gauge [(.p (.int .i64 ra)), (.p (.int .i64 le)), (.p (.int .i64 mo)), (.p (.isl 4 n (S.val r)))]))]⟩))) = (ex (cs hbs) (fu + 60) 0 m_ref01_Gauge_l1 ⟨setAll [(.o .h, .c (.pt 0 0)), (.o (.o .h), .c (.p (.int .i64 i)))], [some (.box t_api_Gauge (gC ra le mo n (S.val r)))]⟩ (fun e s => .pr (Q e s))).hold2 := by kernel_rfl
theorem vc_ref01_Fits (ra le mo : Int) (n : Nat) (r : S.Rows) (m : Nat) (l : S.Rows) (Q : AV → Heap → Prop) :
 ((BrP (((m : Nat) : Int) != (1441 : Int))
 (Q (.c (.p (.bool false))) [(some (.box t_api_Gauge [(.p (.int .i64 ra)), (.p (.int .i64 le)), (.p (.int .i64 mo)), (.p (.isl 4 n (S.val r)))]))])
 ((LoopGo (ex (cs hbs) 994) 0 m_ref01_Fits_l1 ⟨(.nd (.nd .lf (.c (.p (.isl 1 m (S.val l)))) (.nd (.nd .lf (.c (.p (.int .i64 ((m : Nat) : Int)))) .lf) (.c (.p (.int .i64 (0 : Int)))) .lf)) (.ag [(.p (.int .i64 ra)), (.p (.int .i64 le)), (.p (.int .i64 mo)), (.p (.isl 4 n (S.val r)))]) (.nd (.nd (.nd .lf (.c (.p (.isl 1 m (S.val l)))) .lf) (.c (.p (.bool false))) .lf) (.c (.pt 0 0)) (.nd (.nd .lf (.c (.p (.bool false))) .lf) .any .lf))), [(some (.box t_api_Gauge [(.p (.int .i64 ra)), (.p (.int .i64 le)), (.p (.int .i64 mo)), (.p (.isl 4 n (S.val r)))]))]⟩ (.br (S.from_ (S.crAt ra le mo l) m 0) (.e (.exit 0) ⟨(.nd (.nd .lf (.c (.p (.isl 1 m (S.val l)))) .lf) .any (.nd .lf (.c (.pt 0 0)) .lf)), [(some (.box t_api_Gauge [(.p (.int .i64 ra)), (.p (.int .i64 le)), (.p (.int .i64 mo)), (.p (.isl 4 n (S.val r)))]))]⟩) (.e .ret ⟨(.nd .lf .any (.nd (.nd .lf (.c (.p (.bool false))) .lf) .any .lf)), [(some (.box t_api_Gauge [(.p (.int .i64 ra)), (.p (.int .i64 le)), (.p (.int .i64 mo)), (.p (.isl 4 n (S.val r)))]))]⟩))) ∧
  (BrP (S.from_ (S.crAt ra le mo l) m 0)
  ((LoopGo (ex (cs hbs) 993) 0 m_ref01_Fits_l2 ⟨(.nd (.nd .lf (.c (.p (.isl 1 m (S.val l)))) .lf) .any (.nd .lf (.c (.pt 0 0)) (.nd .lf (.c (.p (.int .i64 (0 : Int)))) .lf))), [(some (.box t_api_Gauge [(.p (.int .i64 ra)), (.p (.int .i64 le)), (.p (.int .i64 mo)), (.p (.isl 4 n (S.val r)))]))]⟩ (.br (S.from_ (S.rfAt r l) n 0) (.e (.exit 2) ⟨.lf, [(some (.box t_api_Gauge [(.p (.int .i64 ra)), (.p (.int .i64 le)), (.p (.int .i64 mo)), (.p (.isl 4 n (S.val r)))]))]⟩) (.e .ret ⟨(.nd .lf .any (.nd (.nd .lf (.c (.p (.bool false))) .lf) .any .lf)), [(some (.box t_api_Gauge [(.p (.int .i64 ra)), (.p (.int .i64 le)), (.p (.int .i64 mo)), (.p (.isl 4 n (S.val r)))]))]⟩))) ∧
   (BrP (S.from_ (S.rfAt r l) n 0)
   (Q (.c (.p (.bool true))) [(some (.box t_api_Gauge [(.p (.int .i64 ra)), (.p (.int .i64 le)), (.p (.int .i64 mo)), (.p (.isl 4 n (S.val r)))]))])
   (Q (.c (.p (.bool false))) [(some (.box t_api_Gauge [(.p (.int .i64 ra)), (.p (.int .i64 le)), (.p (.int .i64 mo)), (.p (.isl 4 n (S.val r)))]))])))
  (Q (.c (.p (.bool false))) [(some (.box t_api_Gauge [(.p (.int .i64 ra)), (.p (.int .i64 le)), (.p (.int .i64 mo)), (.p (.isl 4 n (S.val r)))]))]))))) = (ex (cs hbs) 1000 0 m_ref01_Fits ⟨ofL 0 [.ag (gC ra le mo n (S.val r)), .c (.p (.isl 1 m (S.val l)))] .lf, []⟩ (endK F_ref01_Fits.rs (fun r H => .pr (Q r H)) fun _ _ => .no)).hold2 := by kernel_rfl
theorem vs_ref01_Fits1 (fu i : Nat) (ra le mo : Int) (n : Nat) (r : S.Rows) (m : Nat) (l : S.Rows) (Q : AX → St → Prop) :
 ((BrP (decide (((i : Nat) : Int) < ((m : Nat) : Int)))
 (CdP (.rng ((i : Nat) : Int) m)
  ((FCall (cs hbs) f_ref01_in [(.c (.p (.int .i64 (l i 0)))), (.c (.p (.int .i64 le))), (.c (.p (.int .i64 mo)))] (.c (.p (.bool (S.inB le (l i 0) mo)))) []) ∧
  (BrP (S.inB le (l i 0) mo)
  (BrP (decide (((i : Nat) : Int) > (0 : Int)))
   (CdP (.rng ((i : Nat) : Int) m)
    (CdP (.i64 (((i : Nat) : Int) - (1 : Int)))
    (CdP (.rng (((i : Nat) : Int) - (1 : Int)) m)
    (CdP (.i64 ((l i 0) - (l (Int.toNat (((i : Nat) : Int) - (1 : Int))) 0)))
    (CdP (.i64 ((0 : Int) - ra))
    ((FCall (cs hbs) f_ref01_in [(.c (.p (.int .i64 ((l i 0) - (l (Int.toNat (((i : Nat) : Int) - (1 : Int))) 0))))), (.c (.p (.int .i64 ((0 : Int) - ra)))), (.c (.p (.int .i64 ra)))] (.c (.p (.bool (S.inB ((0 : Int) - ra) ((l i 0) - (l (Int.toNat (((i : Nat) : Int) - (1 : Int))) 0)) ra)))) []) ∧
    (BrP (S.inB ((0 : Int) - ra) ((l i 0) - (l (Int.toNat (((i : Nat) : Int) - (1 : Int))) 0)) ra)
    (CdP (.i64 (((i : Nat) : Int) + (1 : Int)))
     (Q .normal ⟨(.nd (.nd (.nd (.nd (.nd (.nd .lf (.c (.p (.isl 1 m (S.val l)))) .lf) (.c (.p (.int .i64 ((i : Nat) : Int)))) (.nd .lf (.c (.p (.bool false))) .lf)) .any (.nd (.nd .lf (.c (.p (.int .i64 (l (Int.toNat (((i : Nat) : Int) - (1 : Int))) 0)))) .lf) (.c (.pt 0 2)) .lf)) .any (.nd (.nd (.nd .lf (.c (.p (.isl 1 m (S.val l)))) .lf) (.c (.p (.ipt 1 (S.val l i)))) .lf) (.c (.p (.int .i64 ((i : Nat) : Int)))) (.nd (.nd .lf (.c (.p (.int .i64 ((0 : Int) - ra)))) .lf) (.c (.p (.bool false))) .lf))) (.c (.p (.isl 1 m (S.val l)))) (.nd (.nd (.nd (.nd .lf (.c (.p (.ipt 1 (S.val l i)))) .lf) (.c (.p (.isl 1 m (S.val l)))) (.nd .lf (.c (.p (.bool false))) .lf)) .any (.nd (.nd .lf (.c (.pt 0 0)) .lf) (.c (.p (.bool true))) .lf)) (.c (.p (.int .i64 (((i : Nat) : Int) + (1 : Int))))) (.nd (.nd (.nd .lf (.c (.p (.int .i64 (((i : Nat) : Int) - (1 : Int))))) .lf) (.c (.pt 0 1)) .lf) (.c (.p (.int .i64 ((m : Nat) : Int)))) (.nd (.nd .lf (.c (.p (.int .i64 ra))) .lf) (.c (.p (.bool true))) .lf)))) .any (.nd (.nd (.nd (.nd (.nd .lf (.c (.p (.int .i64 ((i : Nat) : Int)))) .lf) (.c (.p (.int .i64 (((i : Nat) : Int) + (1 : Int))))) (.nd .lf (.c (.p (.bool false))) .lf)) .any (.nd (.nd .lf (.c (.p (.int .i64 ((l i 0) - (l (Int.toNat (((i : Nat) : Int) - (1 : Int))) 0))))) .lf) (.c (.p (.int .i64 mo))) .lf)) .any (.nd (.nd (.nd .lf (.c (.p (.int .i64 ((i : Nat) : Int)))) .lf) (.c (.p (.int .i64 (l i 0)))) .lf) (.c (.p (.isl 1 m (S.val l)))) (.nd (.nd .lf (.c (.pt 0 0)) .lf) (.c (.p (.int .i64 ((i : Nat) : Int)))) .lf))) (.c (.pt 0 0)) (.nd (.nd (.nd (.nd .lf (.c (.p (.int .i64 (l i 0)))) .lf) (.c (.p (.int .i64 ((i : Nat) : Int)))) .lf) .any (.nd (.nd .lf (.c (.p (.int .i64 ra))) .lf) (.c (.p (.bool false))) .lf)) .any (.nd (.nd (.nd .lf (.c (.p (.ipt 1 (S.val l (Int.toNat (((i : Nat) : Int) - (1 : Int))))))) .lf) (.c (.p (.int .i64 le))) .lf) (.c (.p (.bool true))) (.nd (.nd .lf (.c (.p (.bool true))) .lf) (.c (.p (.bool true))) .lf))))), [(some (.box t_api_Gauge [(.p (.int .i64 ra)), (.p (.int .i64 le)), (.p (.int .i64 mo)), (.p (.isl 4 n (S.val r)))]))]⟩))
    (Q .ret ⟨(.nd (.nd (.nd (.nd (.nd (.nd .lf (.c (.p (.isl 1 m (S.val l)))) .lf) .any (.nd .lf (.c (.p (.bool true))) .lf)) .any (.nd (.nd .lf (.c (.p (.int .i64 (l (Int.toNat (((i : Nat) : Int) - (1 : Int))) 0)))) .lf) (.c (.pt 0 2)) .lf)) .any (.nd (.nd (.nd .lf (.c (.p (.isl 1 m (S.val l)))) .lf) (.c (.p (.ipt 1 (S.val l i)))) .lf) (.c (.p (.int .i64 ((i : Nat) : Int)))) (.nd (.nd .lf (.c (.p (.int .i64 ((0 : Int) - ra)))) .lf) (.c (.p (.bool false))) .lf))) (.c (.p (.isl 1 m (S.val l)))) (.nd (.nd (.nd (.nd .lf (.c (.p (.ipt 1 (S.val l i)))) .lf) (.c (.p (.isl 1 m (S.val l)))) (.nd .lf (.c (.p (.bool true))) .lf)) .any (.nd (.nd .lf (.c (.pt 0 0)) .lf) (.c (.p (.bool true))) .lf)) (.c (.p (.int .i64 ((i : Nat) : Int)))) (.nd (.nd (.nd .lf (.c (.p (.int .i64 (((i : Nat) : Int) - (1 : Int))))) .lf) (.c (.pt 0 1)) .lf) (.c (.p (.int .i64 ((m : Nat) : Int)))) (.nd (.nd .lf (.c (.p (.int .i64 ra))) .lf) (.c (.p (.bool true))) .lf)))) .any (.nd (.nd (.nd (.nd (.nd .lf (.c (.p (.int .i64 ((i : Nat) : Int)))) .lf) .any (.nd .lf (.c (.p (.bool true))) .lf)) .any (.nd (.nd .lf (.c (.p (.int .i64 ((l i 0) - (l (Int.toNat (((i : Nat) : Int) - (1 : Int))) 0))))) .lf) (.c (.p (.int .i64 mo))) .lf)) (.c (.p (.bool false))) (.nd (.nd (.nd .lf (.c (.p (.int .i64 ((i : Nat) : Int)))) .lf) (.c (.p (.int .i64 (l i 0)))) .lf) (.c (.p (.isl 1 m (S.val l)))) (.nd (.nd .lf (.c (.pt 0 0)) .lf) (.c (.p (.int .i64 ((i : Nat) : Int)))) .lf))) (.c (.pt 0 0)) (.nd (.nd (.nd (.nd .lf (.c (.p (.int .i64 (l i 0)))) .lf) (.c (.p (.int .i64 ((i : Nat) : Int)))) .lf) .any (.nd (.nd .lf (.c (.p (.int .i64 ra))) .lf) (.c (.p (.bool false))) .lf)) .any (.nd (.nd (.nd .lf (.c (.p (.ipt 1 (S.val l (Int.toNat (((i : Nat) : Int) - (1 : Int))))))) .lf) (.c (.p (.int .i64 le))) .lf) (.c (.p (.bool true))) (.nd (.nd .lf (.c (.p (.bool false))) .lf) (.c (.p (.bool true))) .lf))))), [(some (.box t_api_Gauge [(.p (.int .i64 ra)), (.p (.int .i64 le)), (.p (.int .i64 mo)), (.p (.isl 4 n (S.val r)))]))]⟩))))))))
   (CdP (.i64 (((i : Nat) : Int) + (1 : Int)))
    (Q .normal ⟨(.nd (.nd (.nd (.nd (.nd (.nd .lf (.tp []) .lf) (.c (.p (.int .i64 ((i : Nat) : Int)))) (.nd .lf (.tp []) .lf)) .any (.nd (.nd .lf (.tp []) .lf) (.c (.pt 0 2)) .lf)) .any (.nd (.nd (.nd .lf (.tp []) .lf) (.c (.p (.ipt 1 (S.val l i)))) .lf) (.c (.p (.int .i64 ((i : Nat) : Int)))) (.nd (.nd .lf (.tp []) .lf) (.c (.p (.bool false))) .lf))) (.c (.p (.isl 1 m (S.val l)))) (.nd (.nd (.nd (.nd .lf (.tp []) .lf) (.c (.p (.isl 1 m (S.val l)))) (.nd .lf (.c (.p (.bool false))) .lf)) .any (.nd (.nd .lf (.tp []) .lf) (.c (.p (.bool true))) .lf)) (.c (.p (.int .i64 (((i : Nat) : Int) + (1 : Int))))) (.nd (.nd (.nd .lf (.tp []) .lf) (.c (.pt 0 1)) .lf) (.c (.p (.int .i64 ((m : Nat) : Int)))) (.nd (.nd .lf (.tp []) .lf) (.c (.p (.bool false))) .lf)))) .any (.nd (.nd (.nd (.nd (.nd .lf (.tp []) .lf) (.c (.p (.int .i64 (((i : Nat) : Int) + (1 : Int))))) (.nd .lf (.c (.p (.bool false))) .lf)) .any (.nd (.nd .lf (.tp []) .lf) (.c (.p (.int .i64 mo))) .lf)) .any (.nd (.nd (.nd .lf (.tp []) .lf) (.c (.p (.int .i64 (l i 0)))) .lf) (.c (.p (.isl 1 m (S.val l)))) (.nd (.nd .lf (.tp []) .lf) (.c (.p (.int .i64 ((i : Nat) : Int)))) .lf))) (.c (.pt 0 0)) (.nd (.nd (.nd (.nd .lf (.tp []) .lf) (.c (.p (.int .i64 ((i : Nat) : Int)))) .lf) .any (.nd (.nd .lf (.tp []) .lf) (.c (.p (.bool false))) .lf)) .any (.nd (.nd (.nd .lf (.tp []) .lf) (.c (.p (.int .i64 le))) .lf) (.c (.p (.bool true))) (.nd (.nd .lf (.tp []) .lf) (.c (.p (.bool false))) .lf))))), [(some (.box t_api_Gauge [(.p (.int .i64 ra)), (.p (.int .i64 le)), (.p (.int .i64 mo)), (.p (.isl 4 n (S.val r)))]))]⟩)))
  (Q .ret ⟨(.nd (.nd (.nd (.nd (.nd (.nd .lf (.tp []) .lf) .any (.nd .lf (.tp []) .lf)) .any (.nd (.nd .lf (.tp []) .lf) (.c (.pt 0 2)) .lf)) .any (.nd (.nd (.nd .lf (.tp []) .lf) (.c (.p (.ipt 1 (S.val l i)))) .lf) (.c (.p (.int .i64 ((i : Nat) : Int)))) (.nd (.nd .lf (.tp []) .lf) (.c (.p (.bool true))) .lf))) (.c (.p (.isl 1 m (S.val l)))) (.nd (.nd (.nd (.nd .lf (.tp []) .lf) (.c (.p (.isl 1 m (S.val l)))) (.nd .lf (.c (.p (.bool true))) .lf)) .any (.nd (.nd .lf (.tp []) .lf) (.c (.p (.bool false))) .lf)) (.c (.p (.int .i64 ((i : Nat) : Int)))) (.nd (.nd (.nd .lf (.tp []) .lf) (.c (.pt 0 1)) .lf) (.c (.p (.int .i64 ((m : Nat) : Int)))) (.nd (.nd .lf (.tp []) .lf) (.tp []) .lf)))) .any (.nd (.nd (.nd (.nd (.nd .lf (.tp []) .lf) .any (.nd .lf (.tp []) .lf)) .any (.nd (.nd .lf (.tp []) .lf) (.c (.p (.int .i64 mo))) .lf)) (.c (.p (.bool false))) (.nd (.nd (.nd .lf (.tp []) .lf) (.c (.p (.int .i64 (l i 0)))) .lf) (.c (.p (.isl 1 m (S.val l)))) (.nd (.nd .lf (.tp []) .lf) (.tp []) .lf))) (.c (.pt 0 0)) (.nd (.nd (.nd (.nd .lf (.tp []) .lf) (.c (.p (.int .i64 ((i : Nat) : Int)))) .lf) .any (.nd (.nd .lf (.tp []) .lf) (.c (.p (.bool true))) .lf)) .any (.nd (.nd (.nd .lf (.tp []) .lf) (.c (.p (.int .i64 le))) .lf) (.c (.p (.bool true))) (.nd (.nd .lf (.tp []) .lf) (.tp []) .lf))))), [(some (.box t_api_Gauge [(.p (.int .i64 ra)), (.p (.int .i64 le)), (.p (.int .i64 mo)), (.p (.isl 4 n (S.val r)))]))]⟩))))
 (Q (.exit 0) ⟨(.nd (.nd (.nd .lf .any (.nd .lf (.c (.p (.int .i64 ((i : Nat) : Int)))) .lf)) (.c (.p (.isl 1 m (S.val l)))) (.nd .lf (.c (.p (.int .i64 ((i : Nat) : Int)))) (.nd .lf (.c (.p (.int .i64 ((m : Nat) : Int)))) .lf))) .any (.nd (.nd .lf .any (.nd .lf (.c (.p (.isl 1 m (S.val l)))) .lf)) (.c (.pt 0 0)) (.nd .lf .any (.nd .lf (.c (.p (.bool false))) .lf)))), [(some (.box t_api_Gauge [(.p (.int .i64 ra)), (.p (.int .i64 le)), (.p (.int .i64 mo)), (.p (.isl 4 n (S.val r)))]))]⟩))) = (ex (cs hbs) (fu + 60) 0 m_ref01_Fits_l1 ⟨setAll [(.o .h, .c (.p (.isl 1 m (S.val l)))), (.i .h, .c (.pt 0 0)), (.o (.i .h), .c (.p (.int .i64 i)))], [some (.box t_api_Gauge (gC ra le mo n (S.val r)))]⟩ (fun e s => .pr (Q e s))).hold2 := by kernel_rfl
theorem vs_ref01_Fits2 (fu i : Nat) (ra le mo : Int) (n : Nat) (r : S.Rows) (m : Nat) (l : S.Rows) (Q : AX → St → Prop) :
 ((BrP (decide (((i : Nat) : Int) < ((n : Nat) : Int)))
 (CdP (.rng ((i : Nat) : Int) n)
  (CdP (.rng (r i 0) m)
  ((FCall (cs hbs) f_ref01_in [(.c (.p (.int .i64 (l (Int.toNat (r i 0)) 0)))), (.c (.p (.int .i64 (r i 1)))), (.c (.p (.int .i64 (r i 2))))] (.c (.p (.bool (S.inB (r i 1) (l (Int.toNat (r i 0)) 0) (r i 2))))) []) ∧
  (BrP (S.inB (r i 1) (l (Int.toNat (r i 0)) 0) (r i 2))
  (CdP (.i64 (((i : Nat) : Int) + (1 : Int)))
   (Q .normal ⟨(.nd (.nd (.nd (.nd (.nd (.nd (.nd .lf (.c (.pt 1 0)) .lf) .any .lf) .any .lf) (.c (.pt 1 0)) (.nd (.nd (.nd .lf (.c (.pt 1 2)) .lf) .any .lf) .any (.nd .lf (.c (.p (.int .i64 ((i : Nat) : Int)))) .lf))) .any (.nd (.nd (.nd (.nd .lf (.c (.pt 1 1)) .lf) .any .lf) .any (.nd .lf (.c (.pt 0 3)) .lf)) .any (.nd .lf .any (.nd .lf (.c (.p (.int .i64 ((i : Nat) : Int)))) .lf)))) (.c (.p (.isl 1 m (S.val l)))) (.nd (.nd (.nd (.nd (.nd .lf (.c (.p (.ipt 1 (S.val l (Int.toNat (r i 0)))))) .lf) .any .lf) .any .lf) .any (.nd (.nd (.nd .lf (.c (.p (.bool true))) .lf) .any .lf) .any (.nd .lf (.c (.pt 0 3)) .lf))) .any (.nd (.nd (.nd (.nd .lf (.c (.p (.int .i64 (r i 1)))) .lf) .any .lf) .any (.nd .lf (.c (.p (.int .i64 ((n : Nat) : Int)))) .lf)) .any (.nd .lf .any (.nd .lf (.ag [(.p (.int .i64 (r i 0))), (.p (.int .i64 (r i 1))), (.p (.int .i64 (r i 2))), (.p (.int .i64 (r i 3)))]) .lf))))) .any (.nd (.nd (.nd (.nd (.nd (.nd .lf (.c (.p (.int .i64 (r i 0)))) .lf) .any .lf) .any .lf) .any (.nd (.nd (.nd .lf (.c (.p (.int .i64 (r i 2)))) .lf) .any .lf) .any (.nd .lf (.c (.p (.int .i64 (((i : Nat) : Int) + (1 : Int))))) .lf))) .any (.nd (.nd (.nd (.nd .lf (.c (.pt 1 1)) .lf) .any .lf) .any (.nd .lf (.c (.p (.isl 4 n (S.val r)))) .lf)) .any (.nd .lf .any (.nd .lf (.c (.p (.ipt 4 (S.val r i)))) .lf)))) (.c (.pt 0 0)) (.nd (.nd (.nd (.nd (.nd .lf (.c (.p (.int .i64 (l (Int.toNat (r i 0)) 0)))) .lf) .any .lf) .any (.nd .lf (.c (.p (.int .i64 ((i : Nat) : Int)))) .lf)) .any (.nd (.nd (.nd .lf (.c (.p (.bool false))) .lf) .any .lf) .any (.nd .lf (.c (.p (.isl 4 n (S.val r)))) .lf))) (.c (.p (.int .i64 (((i : Nat) : Int) + (1 : Int))))) (.nd (.nd (.nd (.nd .lf (.c (.pt 1 1)) .lf) .any .lf) .any (.nd .lf (.c (.p (.bool true))) .lf)) .any (.nd .lf .any (.nd .lf (.c (.p (.isl 1 m (S.val l)))) .lf)))))), [(some (.box t_api_Gauge [(.p (.int .i64 ra)), (.p (.int .i64 le)), (.p (.int .i64 mo)), (.p (.isl 4 n (S.val r)))])), (some (.box t_api_Reading [(.p (.int .i64 (r i 0))), (.p (.int .i64 (r i 1))), (.p (.int .i64 (r i 2))), (.p (.int .i64 (r i 3)))]))]⟩))
  (Q .ret ⟨(.nd (.nd (.nd (.nd (.nd (.nd (.nd .lf (.c (.pt 1 0)) .lf) .any .lf) .any .lf) (.c (.pt 1 0)) (.nd (.nd (.nd .lf (.c (.pt 1 2)) .lf) .any .lf) .any .lf)) .any (.nd (.nd (.nd (.nd .lf (.c (.pt 1 1)) .lf) .any .lf) .any (.nd .lf (.c (.pt 0 3)) .lf)) .any (.nd .lf .any (.nd .lf (.c (.p (.int .i64 ((i : Nat) : Int)))) .lf)))) (.c (.p (.isl 1 m (S.val l)))) (.nd (.nd (.nd (.nd (.nd .lf (.c (.p (.ipt 1 (S.val l (Int.toNat (r i 0)))))) .lf) .any .lf) .any .lf) .any (.nd (.nd (.nd .lf (.c (.p (.bool false))) .lf) .any .lf) .any (.nd .lf (.c (.pt 0 3)) .lf))) .any (.nd (.nd (.nd (.nd .lf (.c (.p (.int .i64 (r i 1)))) .lf) .any .lf) .any (.nd .lf (.c (.p (.int .i64 ((n : Nat) : Int)))) .lf)) .any (.nd .lf .any (.nd .lf (.ag [(.p (.int .i64 (r i 0))), (.p (.int .i64 (r i 1))), (.p (.int .i64 (r i 2))), (.p (.int .i64 (r i 3)))]) .lf))))) .any (.nd (.nd (.nd (.nd (.nd (.nd .lf (.c (.p (.int .i64 (r i 0)))) .lf) .any .lf) .any .lf) .any (.nd (.nd (.nd .lf (.c (.p (.int .i64 (r i 2)))) .lf) .any .lf) .any .lf)) (.c (.p (.bool false))) (.nd (.nd (.nd (.nd .lf (.c (.pt 1 1)) .lf) .any .lf) .any (.nd .lf (.c (.p (.isl 4 n (S.val r)))) .lf)) .any (.nd .lf .any (.nd .lf (.c (.p (.ipt 4 (S.val r i)))) .lf)))) (.c (.pt 0 0)) (.nd (.nd (.nd (.nd (.nd .lf (.c (.p (.int .i64 (l (Int.toNat (r i 0)) 0)))) .lf) .any .lf) .any (.nd .lf (.c (.p (.int .i64 ((i : Nat) : Int)))) .lf)) .any (.nd (.nd (.nd .lf (.c (.p (.bool true))) .lf) .any .lf) .any (.nd .lf (.c (.p (.isl 4 n (S.val r)))) .lf))) (.c (.p (.int .i64 ((i : Nat) : Int)))) (.nd (.nd (.nd (.nd .lf (.c (.pt 1 1)) .lf) .any .lf) .any (.nd .lf (.c (.p (.bool true))) .lf)) .any (.nd .lf .any (.nd .lf (.c (.p (.isl 1 m (S.val l)))) .lf)))))), [(some (.box t_api_Gauge [(.p (.int .i64 ra)), (.p (.int .i64 le)), (.p (.int .i64 mo)), (.p (.isl 4 n (S.val r)))])), (some (.box t_api_Reading [(.p (.int .i64 (r i 0))), (.p (.int .i64 (r i 1))), (.p (.int .i64 (r i 2))), (.p (.int .i64 (r i 3)))]))]⟩)))))
 (Q (.exit 2) ⟨(.nd (.nd (.nd .lf .any (.nd (.nd .lf .any (.nd .lf (.c (.pt 0 3)) .lf)) .any .lf)) (.c (.p (.isl 1 m (S.val l)))) (.nd .lf .any (.nd (.nd .lf .any (.nd .lf (.c (.p (.int .i64 ((n : Nat) : Int)))) .lf)) .any .lf))) .any (.nd (.nd .lf .any (.nd (.nd .lf .any (.nd .lf (.c (.p (.isl 4 n (S.val r)))) .lf)) .any .lf)) (.c (.pt 0 0)) (.nd (.nd (.nd .lf .any (.nd .lf (.c (.p (.int .i64 ((i : Nat) : Int)))) .lf)) .any .lf) (.c (.p (.int .i64 ((i : Nat) : Int)))) (.nd (.nd .lf .any (.nd .lf (.c (.p (.bool false))) .lf)) .any .lf)))), [(some (.box t_api_Gauge [(.p (.int .i64 ra)), (.p (.int .i64 le)), (.p (.int .i64 mo)), (.p (.isl 4 n (S.val r)))]))]⟩))) = (ex (cs hbs) (fu + 60) 0 m_ref01_Fits_l2 ⟨setAll [(.o .h, .c (.p (.isl 1 m (S.val l)))), (.i .h, .c (.pt 0 0)), (.i (.i .h), .c (.p (.int .i64 i)))], [some (.box t_api_Gauge (gC ra le mo n (S.val r)))]⟩ (fun e s => .pr (Q e s))).hold2 := by kernel_rfl
theorem vc_water_Fits (ra le mo : Int) (n : Nat) (r : S.Rows) (m : Nat) (l : S.Rows) (Q : AV → Heap → Prop) :
 (((FCall (cs hbs) f_water_Known [(.ag [(.p (.int .i64 ra)), (.p (.int .i64 le)), (.p (.int .i64 mo)), (.p (.isl 4 n (S.val r)))])] (.c (.p (.int .i64 (S.knE ra le mo n r)))) []) ∧
 (BrP ((S.knE ra le mo n r) != (0 : Int))
 (Q (.c (.p (.bool false))) [(some (.box t_api_Gauge [(.p (.int .i64 ra)), (.p (.int .i64 le)), (.p (.int .i64 mo)), (.p (.isl 4 n (S.val r)))])), (some (.box t_sl_int [(.p (.isl 1 m (S.val l)))])), (some (.box t_bool [(.p (.bool false))]))])
 (BrP (((m : Nat) : Int) != (1441 : Int))
  (Q (.c (.p (.bool false))) [(some (.box t_api_Gauge [(.p (.int .i64 ra)), (.p (.int .i64 le)), (.p (.int .i64 mo)), (.p (.isl 4 n (S.val r)))])), (some (.box t_sl_int [(.p (.isl 1 m (S.val l)))])), (some (.box t_bool [(.p (.bool false))]))])
  ((LoopGo (ex (cs hbs) 992) 4 m_water_minutes_l1 ⟨(.nd .lf (.c (.ref 3)) (.nd .lf (.c (.p (.int .i64 (0 : Int)))) .lf)), [(some (.box t_api_Gauge [(.p (.int .i64 ra)), (.p (.int .i64 le)), (.p (.int .i64 mo)), (.p (.isl 4 n (S.val r)))])), (some (.box t_sl_int [(.p (.isl 1 m (S.val l)))])), (some (.box t_bool [(.p (.bool false))])), (some (.lp 61 (.nd (.nd (.nd (.nd (.nd .lf (.c (.p (.bool false))) .lf) .any .lf) (.c (.pt 1 0)) (.nd .lf (.c (.p (.bool false))) .lf)) (.c (.p (.isl 1 m (S.val l)))) (.nd (.nd .lf (.ag [(.p (.int .i64 ra)), (.p (.int .i64 le)), (.p (.int .i64 mo)), (.p (.isl 4 n (S.val r)))]) .lf) .any (.nd .lf (.c (.p (.isl 1 m (S.val l)))) .lf))) (.ag [(.p (.int .i64 ra)), (.p (.int .i64 le)), (.p (.int .i64 mo)), (.p (.isl 4 n (S.val r)))]) (.nd (.nd (.nd (.nd .lf (.c (.p (.bool false))) .lf) .any .lf) (.c (.pt 2 0)) (.nd .lf (.c (.p (.bool false))) .lf)) (.c (.pt 0 0)) (.nd (.nd .lf (.c (.p (.int .i64 (S.knE ra le mo n r)))) .lf) .any (.nd .lf (.c (.p (.int .i64 ((m : Nat) : Int)))) .lf)))) [(.o (.i (.o (.o .h))))] m_water_Fits_a1 m_water_Fits_b1 .ready))]⟩ (.br (S.from_ (S.crAt ra le mo l) 1441 0) (.e (.exit 0) ⟨.lf, [(some (.box t_api_Gauge [(.p (.int .i64 ra)), (.p (.int .i64 le)), (.p (.int .i64 mo)), (.p (.isl 4 n (S.val r)))])), (some (.box t_sl_int [(.p (.isl 1 m (S.val l)))])), (some (.box t_bool [(.p (.bool false))])), (some (.lp 61 (.nd (.nd (.nd (.nd (.nd .lf (.c (.p (.bool false))) .lf) .any .lf) (.c (.pt 1 0)) (.nd .lf (.c (.p (.bool false))) .lf)) (.c (.p (.isl 1 m (S.val l)))) (.nd (.nd .lf (.ag [(.p (.int .i64 ra)), (.p (.int .i64 le)), (.p (.int .i64 mo)), (.p (.isl 4 n (S.val r)))]) .lf) .any (.nd .lf (.c (.p (.isl 1 m (S.val l)))) .lf))) (.ag [(.p (.int .i64 ra)), (.p (.int .i64 le)), (.p (.int .i64 mo)), (.p (.isl 4 n (S.val r)))]) (.nd (.nd (.nd (.nd .lf (.c (.p (.bool false))) .lf) .any .lf) (.c (.pt 2 0)) (.nd .lf (.c (.p (.bool false))) .lf)) (.c (.pt 0 0)) (.nd (.nd .lf (.c (.p (.int .i64 (S.knE ra le mo n r)))) .lf) .any (.nd .lf (.c (.p (.int .i64 ((m : Nat) : Int)))) .lf)))) [(.o (.i (.o (.o .h))))] m_water_Fits_a1 m_water_Fits_b1 .ready))]⟩) (.e .ret ⟨.lf, [(some (.box t_api_Gauge [(.p (.int .i64 ra)), (.p (.int .i64 le)), (.p (.int .i64 mo)), (.p (.isl 4 n (S.val r)))])), (some (.box t_sl_int [(.p (.isl 1 m (S.val l)))])), (some (.box t_bool [(.p (.bool false))])), (some (.lp 61 (.nd (.nd (.nd (.nd (.nd .lf (.c (.p (.bool false))) .lf) .any .lf) (.c (.pt 1 0)) (.nd .lf (.c (.p (.bool false))) .lf)) (.c (.p (.isl 1 m (S.val l)))) (.nd (.nd .lf (.ag [(.p (.int .i64 ra)), (.p (.int .i64 le)), (.p (.int .i64 mo)), (.p (.isl 4 n (S.val r)))]) .lf) .any (.nd .lf (.c (.p (.isl 1 m (S.val l)))) .lf))) (.ag [(.p (.int .i64 ra)), (.p (.int .i64 le)), (.p (.int .i64 mo)), (.p (.isl 4 n (S.val r)))]) (.nd (.nd (.nd (.nd .lf (.c (.p (.bool false))) .lf) .any .lf) (.c (.pt 2 0)) (.nd .lf (.c (.p (.bool false))) .lf)) (.c (.pt 0 0)) (.nd (.nd .lf (.c (.p (.int .i64 (S.knE ra le mo n r)))) .lf) .any (.nd .lf (.c (.p (.int .i64 ((m : Nat) : Int)))) .lf)))) [(.o (.i (.o (.o .h))))] m_water_Fits_a1 m_water_Fits_b1 (.done .ret)))]⟩))) ∧
   (BrP (S.from_ (S.crAt ra le mo l) 1441 0)
   ((LoopGo (ex (cs hbs) 993) 0 m_water_Fits_l1 ⟨(.nd (.nd (.nd (.nd (.nd .lf (.c (.p (.bool false))) (.nd .lf (.c (.p (.int .i64 (0 : Int)))) .lf)) .any .lf) (.c (.pt 1 0)) (.nd .lf (.c (.p (.bool false))) .lf)) (.c (.p (.isl 1 m (S.val l)))) (.nd (.nd .lf (.ag [(.p (.int .i64 ra)), (.p (.int .i64 le)), (.p (.int .i64 mo)), (.p (.isl 4 n (S.val r)))]) .lf) .any (.nd .lf (.c (.p (.isl 1 m (S.val l)))) (.nd (.nd .lf (.c (.p (.isl 4 n (S.val r)))) .lf) .any .lf)))) (.ag [(.p (.int .i64 ra)), (.p (.int .i64 le)), (.p (.int .i64 mo)), (.p (.isl 4 n (S.val r)))]) (.nd (.nd (.nd (.nd .lf (.c (.p (.bool false))) .lf) .any .lf) (.c (.pt 2 0)) (.nd .lf (.c (.p (.bool false))) (.nd (.nd .lf (.c (.pt 0 3)) .lf) .any .lf))) (.c (.pt 0 0)) (.nd (.nd .lf (.c (.p (.int .i64 (S.knE ra le mo n r)))) .lf) .any (.nd .lf (.c (.p (.int .i64 ((m : Nat) : Int)))) (.nd (.nd .lf (.c (.p (.int .i64 ((n : Nat) : Int)))) .lf) .any .lf))))), [(some (.box t_api_Gauge [(.p (.int .i64 ra)), (.p (.int .i64 le)), (.p (.int .i64 mo)), (.p (.isl 4 n (S.val r)))])), (some (.box t_sl_int [(.p (.isl 1 m (S.val l)))])), (some (.box t_bool [(.p (.bool false))])), none]⟩ (.br (S.from_ (S.rfAt r l) n 0) (.e (.exit 2) ⟨(.nd .lf .any (.nd (.nd .lf (.c (.pt 2 0)) .lf) .any .lf)), [(some (.box t_api_Gauge [(.p (.int .i64 ra)), (.p (.int .i64 le)), (.p (.int .i64 mo)), (.p (.isl 4 n (S.val r)))])), (some (.box t_sl_int [(.p (.isl 1 m (S.val l)))])), (some (.box t_bool [(.p (.bool false))])), none]⟩) (.e .ret ⟨(.nd .lf .any (.nd (.nd .lf (.c (.pt 2 0)) .lf) .any .lf)), [(some (.box t_api_Gauge [(.p (.int .i64 ra)), (.p (.int .i64 le)), (.p (.int .i64 mo)), (.p (.isl 4 n (S.val r)))])), (some (.box t_sl_int [(.p (.isl 1 m (S.val l)))])), (some (.box t_bool [(.p (.bool false))])), none]⟩))) ∧
    (BrP (S.from_ (S.rfAt r l) n 0)
    (Q (.c (.p (.bool true))) [(some (.box t_api_Gauge [(.p (.int .i64 ra)), (.p (.int .i64 le)), (.p (.int .i64 mo)), (.p (.isl 4 n (S.val r)))])), (some (.box t_sl_int [(.p (.isl 1 m (S.val l)))])), (some (.box t_bool [(.p (.bool true))])), none])
    (Q (.c (.p (.bool false))) [(some (.box t_api_Gauge [(.p (.int .i64 ra)), (.p (.int .i64 le)), (.p (.int .i64 mo)), (.p (.isl 4 n (S.val r)))])), (some (.box t_sl_int [(.p (.isl 1 m (S.val l)))])), (some (.box t_bool [(.p (.bool false))])), none])))
   (Q (.c (.p (.bool false))) [(some (.box t_api_Gauge [(.p (.int .i64 ra)), (.p (.int .i64 le)), (.p (.int .i64 mo)), (.p (.isl 4 n (S.val r)))])), (some (.box t_sl_int [(.p (.isl 1 m (S.val l)))])), (some (.box t_bool [(.p (.bool false))])), none]))))))) = (ex (cs hbs) 1000 0 m_water_Fits ⟨ofL 0 [.ag (gC ra le mo n (S.val r)), .c (.p (.isl 1 m (S.val l)))] .lf, []⟩ (endK F_water_Fits.rs (fun r H => .pr (Q r H)) fun _ _ => .no)).hold2 := by kernel_rfl
theorem vs_water_minutes (fu i : Nat) (ra le mo : Int) (n : Nat) (r : S.Rows) (m : Nat) (l : S.Rows) (e : Int) (Q : AX → St → Prop) :
 ((BrP (decide (((i : Nat) : Int) ≤ (1440 : Int)))
 (CdP (.rng ((i : Nat) : Int) m)
  ((FCall (cs hbs) f_water_holds [(.ag [(.p (.int .i64 le)), (.p (.int .i64 mo))]), (.c (.p (.int .i64 (l i 0))))] (.c (.p (.bool (S.inB le (l i 0) mo)))) []) ∧
  (BrP (S.inB le (l i 0) mo)
  (BrP (decide (((i : Nat) : Int) > (0 : Int)))
   (CdP (.i64 (((i : Nat) : Int) - (1 : Int)))
    (CdP (.rng (((i : Nat) : Int) - (1 : Int)) m)
    (CdP (.i64 ((S.mx (l i 0) (l (Int.toNat (((i : Nat) : Int) - (1 : Int))) 0)) - (S.mn (l i 0) (l (Int.toNat (((i : Nat) : Int) - (1 : Int))) 0))))
    (BrP (decide (((S.mx (l i 0) (l (Int.toNat (((i : Nat) : Int) - (1 : Int))) 0)) - (S.mn (l i 0) (l (Int.toNat (((i : Nat) : Int) - (1 : Int))) 0))) > ra))
    (Q .ret ⟨(.nd (.nd (.nd (.nd .lf (.c (.ref 3)) .lf) (.c (.p (.int .i64 ((i : Nat) : Int)))) .lf) .any (.nd (.nd .lf (.c (.p (.bool false))) .lf) .any .lf)) (.c (.ref 3)) (.nd (.nd (.nd .lf (.c (.p (.int .i64 ((i : Nat) : Int)))) .lf) (.c (.p (.bool true))) .lf) (.c (.p (.int .i64 ((i : Nat) : Int)))) (.nd (.nd .lf (.c (.p (.bool true))) .lf) .any .lf))), [(some (.box t_api_Gauge [(.p (.int .i64 ra)), (.p (.int .i64 le)), (.p (.int .i64 mo)), (.p (.isl 4 n (S.val r)))])), (some (.box t_sl_int [(.p (.isl 1 m (S.val l)))])), (some (.box t_bool [(.p (.bool false))])), (some (.lp 61 (.nd (.nd (.nd (.nd (.nd .lf (.c (.p (.bool false))) .lf) .any .lf) (.c (.pt 1 0)) (.nd .lf (.c (.p (.bool false))) .lf)) (.c (.p (.isl 1 m (S.val l)))) (.nd (.nd .lf (.ag [(.p (.int .i64 ra)), (.p (.int .i64 le)), (.p (.int .i64 mo)), (.p (.isl 4 n (S.val r)))]) .lf) .any (.nd .lf (.c (.p (.isl 1 m (S.val l)))) .lf))) (.ag [(.p (.int .i64 ra)), (.p (.int .i64 le)), (.p (.int .i64 mo)), (.p (.isl 4 n (S.val r)))]) (.nd (.nd (.nd (.nd .lf (.c (.p (.bool false))) .lf) .any .lf) (.c (.pt 2 0)) (.nd .lf (.c (.p (.bool false))) .lf)) (.c (.pt 0 0)) (.nd (.nd .lf (.c (.p (.int .i64 e))) .lf) .any (.nd .lf (.c (.p (.int .i64 ((m : Nat) : Int)))) .lf)))) [(.o (.i (.o (.o .h))))] m_water_Fits_a1 m_water_Fits_b1 (.done .ret)))]⟩)
    (CdP (.i64 (((i : Nat) : Int) + (1 : Int)))
     (Q .normal ⟨(.nd (.nd (.nd (.nd .lf (.c (.ref 3)) .lf) (.c (.p (.int .i64 ((i : Nat) : Int)))) .lf) .any (.nd (.nd .lf (.c (.p (.bool true))) .lf) (.c (.p (.int .i64 ((i : Nat) : Int)))) .lf)) (.c (.ref 3)) (.nd (.nd (.nd .lf (.c (.p (.int .i64 ((i : Nat) : Int)))) .lf) (.c (.p (.bool true))) .lf) (.c (.p (.int .i64 (((i : Nat) : Int) + (1 : Int))))) (.nd (.nd .lf (.c (.p (.bool false))) .lf) (.c (.p (.int .i64 (((i : Nat) : Int) + (1 : Int))))) .lf))), [(some (.box t_api_Gauge [(.p (.int .i64 ra)), (.p (.int .i64 le)), (.p (.int .i64 mo)), (.p (.isl 4 n (S.val r)))])), (some (.box t_sl_int [(.p (.isl 1 m (S.val l)))])), (some (.box t_bool [(.p (.bool false))])), (some (.lp 61 (.nd (.nd (.nd (.nd (.nd .lf (.c (.p (.bool false))) .lf) .any .lf) (.c (.pt 1 0)) (.nd .lf (.c (.p (.bool false))) .lf)) (.c (.p (.isl 1 m (S.val l)))) (.nd (.nd .lf (.ag [(.p (.int .i64 ra)), (.p (.int .i64 le)), (.p (.int .i64 mo)), (.p (.isl 4 n (S.val r)))]) .lf) .any (.nd .lf (.c (.p (.isl 1 m (S.val l)))) .lf))) (.ag [(.p (.int .i64 ra)), (.p (.int .i64 le)), (.p (.int .i64 mo)), (.p (.isl 4 n (S.val r)))]) (.nd (.nd (.nd (.nd .lf (.c (.p (.bool false))) .lf) .any .lf) (.c (.pt 2 0)) (.nd .lf (.c (.p (.bool false))) .lf)) (.c (.pt 0 0)) (.nd (.nd .lf (.c (.p (.int .i64 e))) .lf) .any (.nd .lf (.c (.p (.int .i64 ((m : Nat) : Int)))) .lf)))) [(.o (.i (.o (.o .h))))] m_water_Fits_a1 m_water_Fits_b1 .ready))]⟩))))))
   (CdP (.i64 (((i : Nat) : Int) + (1 : Int)))
    (Q .normal ⟨(.nd (.nd (.nd (.nd .lf (.c (.ref 3)) .lf) (.c (.p (.int .i64 ((i : Nat) : Int)))) .lf) .any (.nd (.nd .lf (.c (.p (.bool true))) .lf) (.c (.p (.int .i64 ((i : Nat) : Int)))) .lf)) (.c (.ref 3)) (.nd (.nd (.nd .lf (.c (.p (.int .i64 ((i : Nat) : Int)))) .lf) (.c (.p (.bool true))) .lf) (.c (.p (.int .i64 (((i : Nat) : Int) + (1 : Int))))) (.nd (.nd .lf (.c (.p (.bool false))) .lf) (.c (.p (.int .i64 (((i : Nat) : Int) + (1 : Int))))) .lf))), [(some (.box t_api_Gauge [(.p (.int .i64 ra)), (.p (.int .i64 le)), (.p (.int .i64 mo)), (.p (.isl 4 n (S.val r)))])), (some (.box t_sl_int [(.p (.isl 1 m (S.val l)))])), (some (.box t_bool [(.p (.bool false))])), (some (.lp 61 (.nd (.nd (.nd (.nd (.nd .lf (.c (.p (.bool false))) .lf) .any .lf) (.c (.pt 1 0)) (.nd .lf (.c (.p (.bool false))) .lf)) (.c (.p (.isl 1 m (S.val l)))) (.nd (.nd .lf (.ag [(.p (.int .i64 ra)), (.p (.int .i64 le)), (.p (.int .i64 mo)), (.p (.isl 4 n (S.val r)))]) .lf) .any (.nd .lf (.c (.p (.isl 1 m (S.val l)))) .lf))) (.ag [(.p (.int .i64 ra)), (.p (.int .i64 le)), (.p (.int .i64 mo)), (.p (.isl 4 n (S.val r)))]) (.nd (.nd (.nd (.nd .lf (.c (.p (.bool false))) .lf) .any .lf) (.c (.pt 2 0)) (.nd .lf (.c (.p (.bool false))) .lf)) (.c (.pt 0 0)) (.nd (.nd .lf (.c (.p (.int .i64 e))) .lf) .any (.nd .lf (.c (.p (.int .i64 ((m : Nat) : Int)))) .lf)))) [(.o (.i (.o (.o .h))))] m_water_Fits_a1 m_water_Fits_b1 .ready))]⟩)))
  (Q .ret ⟨(.nd (.nd (.nd (.nd .lf (.c (.ref 3)) .lf) (.c (.p (.int .i64 ((i : Nat) : Int)))) .lf) .any (.nd (.nd .lf (.c (.p (.bool false))) .lf) .any .lf)) (.c (.ref 3)) (.nd (.nd (.nd .lf (.c (.p (.int .i64 ((i : Nat) : Int)))) .lf) (.c (.p (.bool true))) .lf) (.c (.p (.int .i64 ((i : Nat) : Int)))) (.nd (.nd .lf (.c (.p (.bool true))) .lf) .any .lf))), [(some (.box t_api_Gauge [(.p (.int .i64 ra)), (.p (.int .i64 le)), (.p (.int .i64 mo)), (.p (.isl 4 n (S.val r)))])), (some (.box t_sl_int [(.p (.isl 1 m (S.val l)))])), (some (.box t_bool [(.p (.bool false))])), (some (.lp 61 (.nd (.nd (.nd (.nd (.nd .lf (.c (.p (.bool false))) .lf) .any .lf) (.c (.pt 1 0)) (.nd .lf (.c (.p (.bool false))) .lf)) (.c (.p (.isl 1 m (S.val l)))) (.nd (.nd .lf (.ag [(.p (.int .i64 ra)), (.p (.int .i64 le)), (.p (.int .i64 mo)), (.p (.isl 4 n (S.val r)))]) .lf) .any (.nd .lf (.c (.p (.isl 1 m (S.val l)))) .lf))) (.ag [(.p (.int .i64 ra)), (.p (.int .i64 le)), (.p (.int .i64 mo)), (.p (.isl 4 n (S.val r)))]) (.nd (.nd (.nd (.nd .lf (.c (.p (.bool false))) .lf) .any .lf) (.c (.pt 2 0)) (.nd .lf (.c (.p (.bool false))) .lf)) (.c (.pt 0 0)) (.nd (.nd .lf (.c (.p (.int .i64 e))) .lf) .any (.nd .lf (.c (.p (.int .i64 ((m : Nat) : Int)))) .lf)))) [(.o (.i (.o (.o .h))))] m_water_Fits_a1 m_water_Fits_b1 (.done .ret)))]⟩))))
 (Q (.exit 0) ⟨(.nd (.nd (.nd .lf (.c (.p (.int .i64 ((i : Nat) : Int)))) .lf) .any .lf) (.c (.ref 3)) (.nd (.nd .lf (.c (.p (.bool false))) .lf) (.c (.p (.int .i64 ((i : Nat) : Int)))) .lf)), [(some (.box t_api_Gauge [(.p (.int .i64 ra)), (.p (.int .i64 le)), (.p (.int .i64 mo)), (.p (.isl 4 n (S.val r)))])), (some (.box t_sl_int [(.p (.isl 1 m (S.val l)))])), (some (.box t_bool [(.p (.bool false))])), (some (.lp 61 (.nd (.nd (.nd (.nd (.nd .lf (.c (.p (.bool false))) .lf) .any .lf) (.c (.pt 1 0)) (.nd .lf (.c (.p (.bool false))) .lf)) (.c (.p (.isl 1 m (S.val l)))) (.nd (.nd .lf (.ag [(.p (.int .i64 ra)), (.p (.int .i64 le)), (.p (.int .i64 mo)), (.p (.isl 4 n (S.val r)))]) .lf) .any (.nd .lf (.c (.p (.isl 1 m (S.val l)))) .lf))) (.ag [(.p (.int .i64 ra)), (.p (.int .i64 le)), (.p (.int .i64 mo)), (.p (.isl 4 n (S.val r)))]) (.nd (.nd (.nd (.nd .lf (.c (.p (.bool false))) .lf) .any .lf) (.c (.pt 2 0)) (.nd .lf (.c (.p (.bool false))) .lf)) (.c (.pt 0 0)) (.nd (.nd .lf (.c (.p (.int .i64 e))) .lf) .any (.nd .lf (.c (.p (.int .i64 ((m : Nat) : Int)))) .lf)))) [(.o (.i (.o (.o .h))))] m_water_Fits_a1 m_water_Fits_b1 .ready))]⟩))) = (ex (cs hbs) (fu + 60) 4 m_water_minutes_l1 ⟨setAll [(.h, .c (.ref 3)), (.i .h, .c (.p (.int .i64 i)))], (HF ra le mo n (S.val r) m (S.val l) e .ready)⟩ (fun e s => .pr (Q e s))).hold2 := by kernel_rfl
theorem vs_water_Fits (fu i : Nat) (ra le mo : Int) (n : Nat) (r : S.Rows) (m : Nat) (l : S.Rows) (Q : AX → St → Prop) :
 ((BrP (decide (((i : Nat) : Int) < ((n : Nat) : Int)))
 (CdP (.rng ((i : Nat) : Int) n)
  (CdP (.rng (r i 0) m)
  ((FCall (cs hbs) f_water_holds [(.ag [(.p (.int .i64 (r i 1))), (.p (.int .i64 (r i 2)))]), (.c (.p (.int .i64 (l (Int.toNat (r i 0)) 0))))] (.c (.p (.bool (S.inB (r i 1) (l (Int.toNat (r i 0)) 0) (r i 2))))) []) ∧
  (BrP (S.inB (r i 1) (l (Int.toNat (r i 0)) 0) (r i 2))
  (CdP (.i64 (((i : Nat) : Int) + (1 : Int)))
   (Q .normal ⟨(.nd (.nd (.nd (.nd (.nd .lf .any (.nd .lf (.c (.p (.int .i64 (((i : Nat) : Int) + (1 : Int))))) .lf)) .any (.nd .lf .any (.nd .lf (.c (.p (.int .i64 (r i 0)))) .lf))) (.c (.pt 1 0)) (.nd (.nd .lf .any (.nd .lf (.c (.pt 4 1)) .lf)) .any (.nd .lf .any (.nd .lf (.c (.p (.bool false))) .lf)))) .any (.nd (.nd (.nd .lf .any (.nd .lf (.c (.p (.ipt 4 (S.val r i)))) .lf)) .any (.nd .lf .any (.nd .lf (.c (.p (.int .i64 (l (Int.toNat (r i 0)) 0)))) .lf))) .any (.nd (.nd .lf .any (.nd .lf (.c (.p (.isl 1 m (S.val l)))) .lf)) .any (.nd (.nd .lf (.c (.p (.isl 4 n (S.val r)))) .lf) .any .lf)))) .any (.nd (.nd (.nd (.nd .lf .any (.nd .lf (.c (.p (.bool true))) .lf)) (.c (.pt 4 0)) (.nd .lf .any (.nd .lf (.c (.p (.ipt 1 (S.val l (Int.toNat (r i 0)))))) .lf))) (.c (.pt 2 0)) (.nd (.nd .lf .any (.nd .lf (.ag [(.p (.int .i64 (r i 1))), (.p (.int .i64 (r i 2)))]) .lf)) .any (.nd .lf .any (.nd .lf (.c (.p (.int .i64 (((i : Nat) : Int) + (1 : Int))))) .lf)))) .any (.nd (.nd (.nd .lf .any (.nd .lf (.ag [(.p (.int .i64 (r i 0))), (.p (.int .i64 (r i 1))), (.p (.int .i64 (r i 2))), (.p (.int .i64 (r i 3)))]) .lf)) .any (.nd .lf .any (.nd .lf (.c (.p (.bool true))) .lf))) .any (.nd (.nd .lf .any (.nd .lf (.c (.pt 4 0)) .lf)) .any (.nd (.nd .lf (.c (.p (.int .i64 ((n : Nat) : Int)))) .lf) .any .lf))))), [(some (.box t_api_Gauge [(.p (.int .i64 ra)), (.p (.int .i64 le)), (.p (.int .i64 mo)), (.p (.isl 4 n (S.val r)))])), (some (.box t_sl_int [(.p (.isl 1 m (S.val l)))])), (some (.box t_bool [(.p (.bool false))])), none, (some (.box t_api_Reading [(.p (.int .i64 (r i 0))), (.p (.int .i64 (r i 1))), (.p (.int .i64 (r i 2))), (.p (.int .i64 (r i 3)))]))]⟩))
  (Q .ret ⟨(.nd (.nd (.nd (.nd (.nd .lf .any (.nd .lf (.c (.p (.int .i64 ((i : Nat) : Int)))) .lf)) .any (.nd .lf .any (.nd .lf (.c (.p (.int .i64 (r i 0)))) .lf))) (.c (.pt 1 0)) (.nd (.nd .lf .any (.nd .lf (.c (.pt 4 1)) .lf)) .any (.nd .lf .any (.nd .lf (.c (.p (.bool true))) .lf)))) .any (.nd (.nd (.nd .lf .any (.nd .lf (.c (.p (.ipt 4 (S.val r i)))) .lf)) .any (.nd .lf .any (.nd .lf (.c (.p (.int .i64 (l (Int.toNat (r i 0)) 0)))) .lf))) .any (.nd (.nd .lf .any (.nd .lf (.c (.p (.isl 1 m (S.val l)))) .lf)) .any (.nd (.nd .lf (.c (.p (.isl 4 n (S.val r)))) .lf) .any .lf)))) .any (.nd (.nd (.nd (.nd .lf .any (.nd .lf (.c (.p (.bool true))) .lf)) (.c (.pt 4 0)) (.nd .lf .any (.nd .lf (.c (.p (.ipt 1 (S.val l (Int.toNat (r i 0)))))) .lf))) (.c (.pt 2 0)) (.nd (.nd .lf .any (.nd .lf (.ag [(.p (.int .i64 (r i 1))), (.p (.int .i64 (r i 2)))]) .lf)) .any .lf)) .any (.nd (.nd (.nd .lf .any (.nd .lf (.ag [(.p (.int .i64 (r i 0))), (.p (.int .i64 (r i 1))), (.p (.int .i64 (r i 2))), (.p (.int .i64 (r i 3)))]) .lf)) .any (.nd .lf .any (.nd .lf (.c (.p (.bool false))) .lf))) .any (.nd (.nd .lf .any (.nd .lf (.c (.pt 4 0)) .lf)) .any (.nd (.nd .lf (.c (.p (.int .i64 ((n : Nat) : Int)))) .lf) .any .lf))))), [(some (.box t_api_Gauge [(.p (.int .i64 ra)), (.p (.int .i64 le)), (.p (.int .i64 mo)), (.p (.isl 4 n (S.val r)))])), (some (.box t_sl_int [(.p (.isl 1 m (S.val l)))])), (some (.box t_bool [(.p (.bool false))])), none, (some (.box t_api_Reading [(.p (.int .i64 (r i 0))), (.p (.int .i64 (r i 1))), (.p (.int .i64 (r i 2))), (.p (.int .i64 (r i 3)))]))]⟩)))))
 (Q (.exit 2) ⟨(.nd (.nd (.nd (.nd (.nd .lf .any (.nd .lf (.c (.p (.int .i64 ((i : Nat) : Int)))) .lf)) .any .lf) (.c (.pt 1 0)) .lf) .any (.nd .lf .any (.nd .lf .any (.nd (.nd .lf (.c (.p (.isl 4 n (S.val r)))) .lf) .any .lf)))) .any (.nd (.nd (.nd (.nd .lf .any (.nd .lf (.c (.p (.bool false))) .lf)) .any .lf) (.c (.pt 2 0)) .lf) .any (.nd .lf .any (.nd .lf .any (.nd (.nd .lf (.c (.p (.int .i64 ((n : Nat) : Int)))) .lf) .any .lf))))), [(some (.box t_api_Gauge [(.p (.int .i64 ra)), (.p (.int .i64 le)), (.p (.int .i64 mo)), (.p (.isl 4 n (S.val r)))])), (some (.box t_sl_int [(.p (.isl 1 m (S.val l)))])), (some (.box t_bool [(.p (.bool false))])), none]⟩))) = (ex (cs hbs) (fu + 60) 0 m_water_Fits_l1 ⟨setAll [(.o (.o .h), .c (.pt 1 0)), (.i (.o .h), .c (.pt 2 0)), (.o (.i (.i (.i (.o .h)))), .c (.p (.isl 4 n (S.val r)))), (.i (.i (.i (.i (.o .h)))), .c (.p (.int .i64 n))), (.o (.o (.o (.o (.i .h)))), .c (.p (.int .i64 i)))], [some (.box t_api_Gauge (gC ra le mo n (S.val r))), some (.box t_sl_int [.p (.isl 1 m (S.val l))]), some (.box t_bool [.p (.bool false)]), none]⟩ (fun e s => .pr (Q e s))).hold2 := by kernel_rfl
theorem vc_law01_WaterChecks (ra le mo : Int) (n : Nat) (r : S.Rows) (m : Nat) (l : S.Rows) (Q : AV → Heap → Prop) :
 ((BrP (decide (((n : Nat) : Int) ≤ (40 : Int)))
 (BrP (decide (((m : Nat) : Int) > (1500 : Int)))
  ((FCall (cs hbs) f_law01_known [] (.c (.p (.bool true))) []) ∧
   (Q (.c (.p (.bool true))) [(some (.box t_api_Gauge [(.p (.int .i64 ra)), (.p (.int .i64 le)), (.p (.int .i64 mo)), (.p (.isl 4 n (S.val r)))]))]))
  ((FCall (cs hbs) f_water_Known [(.ag [(.p (.int .i64 ra)), (.p (.int .i64 le)), (.p (.int .i64 mo)), (.p (.isl 4 n (S.val r)))])] (.c (.p (.int .i64 (S.knE ra le mo n r)))) []) ∧
   ((FCall (cs hbs) f_water_Fits [(.ag [(.p (.int .i64 ra)), (.p (.int .i64 le)), (.p (.int .i64 mo)), (.p (.isl 4 n (S.val r)))]), (.c (.p (.isl 1 m (S.val l))))] (.c (.p (.bool ((S.ggB ra le mo n r (-(100000 : Int)) (100000 : Int)) && (S.fit ra le mo n r m l))))) []) ∧
   (BrP ((S.ggB ra le mo n r (-(100000 : Int)) (100000 : Int)) && (S.fit ra le mo n r m l))
   ((FCall (cs hbs) f_ref01_Gauge [(.ag [(.p (.int .i64 ra)), (.p (.int .i64 le)), (.p (.int .i64 mo)), (.p (.isl 4 n (S.val r)))])] (.c (.p (.bool (S.ggB ra le mo n r (-(100000 : Int)) (100000 : Int))))) []) ∧
    (BrP (S.ggB ra le mo n r (-(100000 : Int)) (100000 : Int))
    (BrP ((S.knE ra le mo n r) == (0 : Int))
     ((FCall (cs hbs) f_ref01_Fits [(.ag [(.p (.int .i64 ra)), (.p (.int .i64 le)), (.p (.int .i64 mo)), (.p (.isl 4 n (S.val r)))]), (.c (.p (.isl 1 m (S.val l))))] (.c (.p (.bool (S.fit ra le mo n r m l)))) []) ∧
      (BrP (S.fit ra le mo n r m l)
      ((FCall (cs hbs) f_law01_known [] (.c (.p (.bool true))) []) ∧
       (Q (.c (.p (.bool true))) [(some (.box t_api_Gauge [(.p (.int .i64 ra)), (.p (.int .i64 le)), (.p (.int .i64 mo)), (.p (.isl 4 n (S.val r)))]))]))
      (Q (.c (.p (.bool false))) [(some (.box t_api_Gauge [(.p (.int .i64 ra)), (.p (.int .i64 le)), (.p (.int .i64 mo)), (.p (.isl 4 n (S.val r)))]))])))
     (Q (.c (.p (.bool false))) [(some (.box t_api_Gauge [(.p (.int .i64 ra)), (.p (.int .i64 le)), (.p (.int .i64 mo)), (.p (.isl 4 n (S.val r)))]))]))
    (BrP ((S.knE ra le mo n r) == (2 : Int))
     (Q (.c (.p (.bool false))) [(some (.box t_api_Gauge [(.p (.int .i64 ra)), (.p (.int .i64 le)), (.p (.int .i64 mo)), (.p (.isl 4 n (S.val r)))]))])
     (Q (.c (.p (.bool false))) [(some (.box t_api_Gauge [(.p (.int .i64 ra)), (.p (.int .i64 le)), (.p (.int .i64 mo)), (.p (.isl 4 n (S.val r)))]))]))))
   ((FCall (cs hbs) f_ref01_Gauge [(.ag [(.p (.int .i64 ra)), (.p (.int .i64 le)), (.p (.int .i64 mo)), (.p (.isl 4 n (S.val r)))])] (.c (.p (.bool (S.ggB ra le mo n r (-(100000 : Int)) (100000 : Int))))) []) ∧
    (BrP (S.ggB ra le mo n r (-(100000 : Int)) (100000 : Int))
    (BrP ((S.knE ra le mo n r) == (0 : Int))
     ((FCall (cs hbs) f_ref01_Fits [(.ag [(.p (.int .i64 ra)), (.p (.int .i64 le)), (.p (.int .i64 mo)), (.p (.isl 4 n (S.val r)))]), (.c (.p (.isl 1 m (S.val l))))] (.c (.p (.bool (S.fit ra le mo n r m l)))) []) ∧
      (BrP (S.fit ra le mo n r m l)
      (Q (.c (.p (.bool false))) [(some (.box t_api_Gauge [(.p (.int .i64 ra)), (.p (.int .i64 le)), (.p (.int .i64 mo)), (.p (.isl 4 n (S.val r)))]))])
      ((FCall (cs hbs) f_law01_known [] (.c (.p (.bool true))) []) ∧
       (Q (.c (.p (.bool true))) [(some (.box t_api_Gauge [(.p (.int .i64 ra)), (.p (.int .i64 le)), (.p (.int .i64 mo)), (.p (.isl 4 n (S.val r)))]))]))))
     (Q (.c (.p (.bool false))) [(some (.box t_api_Gauge [(.p (.int .i64 ra)), (.p (.int .i64 le)), (.p (.int .i64 mo)), (.p (.isl 4 n (S.val r)))]))]))
    (BrP ((S.knE ra le mo n r) == (2 : Int))
     ((FCall (cs hbs) f_law01_known [] (.c (.p (.bool true))) []) ∧
      (Q (.c (.p (.bool true))) [(some (.box t_api_Gauge [(.p (.int .i64 ra)), (.p (.int .i64 le)), (.p (.int .i64 mo)), (.p (.isl 4 n (S.val r)))]))]))
     (Q (.c (.p (.bool false))) [(some (.box t_api_Gauge [(.p (.int .i64 ra)), (.p (.int .i64 le)), (.p (.int .i64 mo)), (.p (.isl 4 n (S.val r)))]))]))))))))
 ((FCall (cs hbs) f_law01_known [] (.c (.p (.bool true))) []) ∧
  (Q (.c (.p (.bool true))) [(some (.box t_api_Gauge [(.p (.int .i64 ra)), (.p (.int .i64 le)), (.p (.int .i64 mo)), (.p (.isl 4 n (S.val r)))]))])))) = (ex (cs hbs) 1000 0 m_law01_WaterChecks ⟨ofL 0 [.ag (gC ra le mo n (S.val r)), .c (.p (.isl 1 m (S.val l)))] .lf, []⟩ (endK F_law01_WaterChecks.rs (fun r H => .pr (Q r H)) fun _ _ => .no)).hold2 := by kernel_rfl
end
end Go.Ab.B
namespace Go.Ab
theorem frz_b {H : Heap} {b b' : Bool} (h : b' = b) : frzA H (vB b) = some (vB b') := by subst h; rfl
theorem idx_ok {i n : Nat} (h : i < n) : Cd.holds (.rng ((i : Nat) : Int) n) := ⟨by omega, by omega⟩
end Go.Ab
namespace Go.Ab.B
open Go.Proofs
section
variable {hbs : BsOk Tryd.prog} (hT : TabOk (cs hbs))
theorem i64_of {n : Int} (h1 : -9223372036854775808 ≤ n) (h2 : n ≤ 9223372036854775807) : Cd.holds (.i64 n) := ⟨h1, h2⟩
theorem i64_nat {i n : Nat} (h : i < n) (hn : n ≤ maxLen) : Cd.holds (.i64 (((i : Nat) : Int) + 1)) := by simp [maxLen] at hn; exact ⟨by omega, by omega⟩
theorem rng_of {i : Int} {n : Nat} (h1 : 0 ≤ i) (h2 : i < n) : Cd.holds (.rng i n) := ⟨h1, h2⟩
include hT
theorem fc_water_holds (lo hi x : Int) : FCall (cs hbs) f_water_holds [.ag [.p (.int .i64 lo), .p (.int .i64 hi)], .c (.p (.int .i64 x))] (vB (S.inB lo x hi)) [] :=
  fcall_k hT (F := F_water_holds) rfl (vc_water_holds lo hi x _) (brP (fun h1 => brP (fun h2 => frz_b (by simp [S.inB, h1, h2])) fun h2 => frz_b (by simp [S.inB, h1, h2])) fun h1 => frz_b (by simp [S.inB, h1]))
theorem fc_ref01_in (lo hi x : Int) : FCall (cs hbs) f_ref01_in [.c (.p (.int .i64 x)), .c (.p (.int .i64 lo)), .c (.p (.int .i64 hi))] (vB (S.inB lo x hi)) [] :=
  fcall_k hT (F := F_ref01_in) rfl (vc_ref01_in lo hi x _) (brP (fun h1 => brP (fun h2 => frz_b (by simp at h1 h2; simp [S.inB, h1, h2])) fun h2 => frz_b (by simp at h1 h2; simp [S.inB, h1]; omega)) fun h1 => frz_b (by simp at h1; simp [S.inB]; omega))
theorem fc_ref01_Span (l h lo hi : Int) : FCall (cs hbs) f_ref01_Span [.ag [.p (.int .i64 l), .p (.int .i64 h)], .c (.p (.int .i64 lo)), .c (.p (.int .i64 hi))] (vB (S.spB lo l h hi)) [] :=
  fcall_k hT (F := F_ref01_Span) rfl (vc_ref01_Span l h lo hi _) (brP (fun h1 => brP (fun h2 => brP (fun h3 => frz_b (by simp at h1 h2 h3; simp [S.spB]; omega)) fun h3 => frz_b (by simp at h1 h2 h3; simp [S.spB]; omega)) fun h2 => frz_b (by simp at h1 h2; simp [S.spB]; omega)) fun h1 => frz_b (by simp at h1; simp [S.spB]; omega))
theorem fc_water_readingFine (mi l h so : Int) : FCall (cs hbs) f_water_readingFine [.ag [.p (.int .i64 mi), .p (.int .i64 l), .p (.int .i64 h), .p (.int .i64 so)]] (vB (S.rdOk mi l h so)) [] :=
  fcall_k hT (F := F_water_readingFine) rfl (vc_water_readingFine mi l h so _) ⟨fc_water_holds hT _ _ _, brP (fun h1 => brP (fun h2 => brP (fun h3 => brP (fun h4 => ⟨fc_water_holds hT _ _ _, brP (fun h5 => frz_b (by simp only [S.rdOk, S.spB, h1, h2, h3, h4, h5]; rfl)) fun h5 => frz_b (by simp only [S.rdOk, S.spB, h1, h2, h3, h4, h5]; rfl)⟩) fun h4 => frz_b (by simp only [S.rdOk, S.spB, h1, h2, h3, h4]; rfl)) fun h3 => frz_b (by simp only [S.rdOk, S.spB, h1, h2, h3]; rfl)) fun h2 => frz_b (by simp only [S.rdOk, S.spB, h1, h2]; rfl)) fun h1 => frz_b (by simp only [S.rdOk, S.spB, h1]; rfl)⟩
theorem go_water_gaugeFine (fu : Nat) (ra le mo : Int) (n : Nat) (r : S.Rows) (lo hi : Int) (hn : n ≤ maxLen) : ∀ (i : Nat) (st : St), i ≤ n → Has st [(.o (.i (.i (.i .h))), .c (.p (.isl 4 n (S.val r)))), (.i (.i (.i (.i .h))), .c (.p (.int .i64 n))), (.o (.o (.o (.o (.o .h)))), .c (.p (.int .i64 i)))] [some (.box t_api_Gauge (gC ra le mo n (S.val r))), some (.box t_api_Span [.p (.int .i64 lo), .p (.int .i64 hi)])] →
    LoopGo (ex (cs hbs) (fu + 60)) 0 m_water_gaugeFine_l1 st (.br (S.from_ (S.rdAt r) n i) (.e (.exit 0) ⟨.lf, [some (.box t_api_Gauge (gC ra le mo n (S.val r))), some (.box t_api_Span [.p (.int .i64 lo), .p (.int .i64 hi)])]⟩) (.e .ret ⟨setAll [(.i (.o .h), vB false)], [some (.box t_api_Gauge (gC ra le mo n (S.val r))), some (.box t_api_Span [.p (.int .i64 lo), .p (.int .i64 hi)])]⟩)) :=
  loop_k (σ := Nat) (fun i => [(.o (.i (.i (.i .h))), .c (.p (.isl 4 n (S.val r)))), (.i (.i (.i (.i .h))), .c (.p (.int .i64 n))), (.o (.o (.o (.o (.o .h)))), .c (.p (.int .i64 i)))]) (fun _ => [some (.box t_api_Gauge (gC ra le mo n (S.val r))), some (.box t_api_Span [.p (.int .i64 lo), .p (.int .i64 hi)])]) (fun i => i ≤ n) (fun i => n - i)
    (fun i => .br (S.from_ (S.rdAt r) n i) (.e (.exit 0) ⟨.lf, [some (.box t_api_Gauge (gC ra le mo n (S.val r))), some (.box t_api_Span [.p (.int .i64 lo), .p (.int .i64 hi)])]⟩) (.e .ret ⟨setAll [(.i (.o .h), vB false)], [some (.box t_api_Gauge (gC ra le mo n (S.val r))), some (.box t_api_Span [.p (.int .i64 lo), .p (.int .i64 hi)])]⟩)) (fun _ => Nat.zero_le _) _ (fun i Q => vs_water_gaugeFine (hbs := hbs) fu i ra le mo n r lo hi Q) fun i hi' K hL X hX => by
      refine brP (fun h1 => cdP (idx_ok (by simpa using h1)) ⟨fc_water_readingFine hT _ _ _ _, brP (fun h2 => cdP (i64_nat (n := n) (by simpa using h1) hn) ?_) fun h2 => ?_⟩) fun h1 => ?_
      · have hlt : i < n := by simpa using h1
        refine hX (i + 1) _ (by omega) (by omega) (.cons (by kernel_rfl) rfl (.cons (by kernel_rfl) rfl (.cons (by kernel_rfl) rfl (.nil (ex := _) rfl rfl)))) ?_
        have e : S.rdAt r i = true := h2
        rw [S.from_step hlt, e, Bool.true_and] at hL
        exact hL
      · have hlt : i < n := by simpa using h1
        have e : S.rdAt r i = false := h2
        rw [S.from_step hlt, e, Bool.false_and] at hL
        exact Has.out (l := [(.i (.o .h), vB false)]) (.cons (by kernel_rfl) rfl (.nil (ex := _) rfl rfl)) (Nat.zero_le _) hL
      · have hlt : n ≤ i := by simpa using h1
        rw [S.from_end hlt] at hL
        exact Has.out (l := []) (.nil (ex := _) rfl rfl) (Nat.zero_le _) hL
theorem fc_water_gaugeFine (ra le mo : Int) (n : Nat) (r : S.Rows) (lo hi : Int) (hn : n ≤ maxLen) : FCall (cs hbs) f_water_gaugeFine [.ag (gC ra le mo n (S.val r)), .ag [.p (.int .i64 lo), .p (.int .i64 hi)]] (vB (S.ggB ra le mo n r lo hi)) [] :=
  fcall_k hT (F := F_water_gaugeFine) rfl (vc_water_gaugeFine ra le mo n r lo hi _) ⟨fc_water_holds hT _ _ _, brP (fun h1 => brP (fun h3 => brP (fun h4 => brP (fun h5 => brP (fun h6 => frz_b (by
      have h6 : decide ((n : Int) ≤ 30) = false := by simpa using h6
      simp only [S.ggB, h6, Bool.and_false, Bool.false_and]))
    fun h6 => ⟨go_water_gaugeFine hT 934 ra le mo n r lo hi hn 0 _ (Nat.zero_le _) (.cons (by kernel_rfl) rfl (.cons (by kernel_rfl) rfl (.cons (by kernel_rfl) rfl (.nil rfl rfl)))), brP (fun h7 => frz_b (by
      have h6 : decide ((n : Int) ≤ 30) = true := by simpa using h6
      simp only [S.ggB, S.spB, h1, h3, h4, h5, h6, h7]; rfl)) fun h7 => frz_b (by simp only [S.ggB, h7, Bool.and_false])⟩)
    fun h5 => frz_b (by simp only [S.ggB, S.spB, h5, Bool.and_false, Bool.false_and])) fun h4 => frz_b (by simp only [S.ggB, S.spB, h4, Bool.and_false, Bool.false_and])) fun h3 => frz_b (by simp only [S.ggB, S.spB, h3, Bool.and_false, Bool.false_and])) fun h1 => frz_b (by simp only [S.ggB, h1, Bool.and_false, Bool.false_and])⟩
theorem fc_water_Known (ra le mo : Int) (n : Nat) (r : S.Rows) (hn : n ≤ maxLen) : FCall (cs hbs) f_water_Known [.ag (gC ra le mo n (S.val r))] (vI .i64 (S.knE ra le mo n r)) [] :=
  fcall_k hT (F := F_water_Known) rfl (vc_water_Known ra le mo n r _) ⟨fc_water_gaugeFine hT ra le mo n r _ _ hn, brP (fun h1 => by unfold S.knE; rw [h1]; rfl) fun h1 => by unfold S.knE; rw [h1]; rfl⟩
theorem go_ref01_Gauge (fu : Nat) (ra le mo : Int) (n : Nat) (r : S.Rows) (hn : n ≤ maxLen) : ∀ (i : Nat) (st : St), i ≤ n → Has st [(.o .h, .c (.pt 0 0)), (.o (.o .h), .c (.p (.int .i64 i)))] [some (.box t_api_Gauge (gC ra le mo n (S.val r)))] →
    LoopGo (ex (cs hbs) (fu + 60)) 0 m_ref01_Gauge_l1 st (.br (S.from_ (S.rdAt r) n i) (.e (.exit 0) ⟨setAll [(.o .h, .c (.pt 0 0))], [some (.box t_api_Gauge (gC ra le mo n (S.val r)))]⟩) (.e .ret ⟨setAll [(.i .h, vB false)], [some (.box t_api_Gauge (gC ra le mo n (S.val r)))]⟩)) :=
  loop_k (σ := Nat) (fun i => [(.o .h, .c (.pt 0 0)), (.o (.o .h), .c (.p (.int .i64 i)))]) (fun _ => [some (.box t_api_Gauge (gC ra le mo n (S.val r)))]) (fun i => i ≤ n) (fun i => n - i)
    (fun i => .br (S.from_ (S.rdAt r) n i) (.e (.exit 0) ⟨setAll [(.o .h, .c (.pt 0 0))], [some (.box t_api_Gauge (gC ra le mo n (S.val r)))]⟩) (.e .ret ⟨setAll [(.i .h, vB false)], [some (.box t_api_Gauge (gC ra le mo n (S.val r)))]⟩)) (fun _ => Nat.zero_le _) _ (fun i Q => vs_ref01_Gauge (hbs := hbs) fu i ra le mo n r Q) fun i hi' K hL X hX => by
      refine brP (fun h1 => cdP (idx_ok (by simpa using h1)) ⟨fc_ref01_in hT _ _ _, brP (fun h2 => ⟨fc_ref01_Span hT _ _ _ _, brP (fun h3 => ⟨fc_ref01_in hT _ _ _, brP (fun h4 => cdP (i64_nat (n := n) (by simpa using h1) hn) ?_) fun h4 => ?_⟩) fun h3 => ?_⟩) fun h2 => ?_⟩) fun h1 => ?_
      · have hlt : i < n := by simpa using h1
        refine hX (i + 1) _ (by omega) (by omega) (.cons (by kernel_rfl) rfl (.cons (by kernel_rfl) rfl (.nil (ex := _) rfl rfl))) ?_
        have e : S.rdAt r i = true := by simp only [S.rdAt, S.rdOk, h2, h3, h4]; rfl
        rw [S.from_step hlt, e, Bool.true_and] at hL
        exact hL
      · have hlt : i < n := by simpa using h1
        rw [S.from_step hlt, show S.rdAt r i = false by simp only [S.rdAt, S.rdOk, h4, Bool.and_false, Bool.false_and], Bool.false_and] at hL
        exact Has.out (l := [(.i .h, vB false)]) (.cons (by kernel_rfl) rfl (.nil (ex := _) rfl rfl)) (Nat.zero_le _) hL
      · have hlt : i < n := by simpa using h1
        rw [S.from_step hlt, show S.rdAt r i = false by simp only [S.rdAt, S.rdOk, h3, Bool.and_false, Bool.false_and], Bool.false_and] at hL
        exact Has.out (l := [(.i .h, vB false)]) (.cons (by kernel_rfl) rfl (.nil (ex := _) rfl rfl)) (Nat.zero_le _) hL
      · have hlt : i < n := by simpa using h1
        rw [S.from_step hlt, show S.rdAt r i = false by simp only [S.rdAt, S.rdOk, h2, Bool.and_false, Bool.false_and], Bool.false_and] at hL
        exact Has.out (l := [(.i .h, vB false)]) (.cons (by kernel_rfl) rfl (.nil (ex := _) rfl rfl)) (Nat.zero_le _) hL
      · have hlt : n ≤ i := by simpa using h1
        rw [S.from_end hlt] at hL
        exact Has.out (l := [(.o .h, .c (.pt 0 0))]) (.cons (by kernel_rfl) rfl (.nil (ex := _) rfl rfl)) (Nat.zero_le _) hL
theorem fc_ref01_Gauge (ra le mo : Int) (n : Nat) (r : S.Rows) (hn : n ≤ maxLen) : FCall (cs hbs) f_ref01_Gauge [.ag (gC ra le mo n (S.val r))] (vB (S.ggB ra le mo n r (-100000) 100000)) [] :=
  fcall_k hT (F := F_ref01_Gauge) rfl (vc_ref01_Gauge ra le mo n r _) ⟨go_ref01_Gauge hT 935 ra le mo n r hn 0 _ (Nat.zero_le _) (.cons (by kernel_rfl) rfl (.cons (by kernel_rfl) rfl (.nil rfl rfl))), brP (fun h1 => ⟨fc_ref01_in hT _ _ _, brP (fun h2 => ⟨fc_ref01_Span hT _ _ _ _, brP (fun h3 => brP (fun h4 => frz_b (by simp only [S.ggB, h1, h2, h3, h4]; rfl)) fun h4 => frz_b (by simp only [S.ggB, h4, Bool.and_false, Bool.false_and])) fun h3 => frz_b (by simp only [S.ggB, h3, Bool.and_false, Bool.false_and])⟩) fun h2 => frz_b (by simp only [S.ggB, h2, Bool.and_false, Bool.false_and])⟩) fun h1 => frz_b (by simp only [S.ggB, h1, Bool.and_false, Bool.false_and])⟩
theorem go_ref01_Fits1 (fu : Nat) (ra le mo : Int) (n : Nat) (r : S.Rows) (m : Nat) (l : S.Rows) (hg : S.ggB ra le mo n r (-100000) 100000 = true) (hm : m = 1441) : ∀ (i : Nat) (st : St), i ≤ 1441 ∧ (0 < i → le ≤ l (i - 1) 0 ∧ l (i - 1) 0 ≤ mo) → Has st [(.o .h, .c (.p (.isl 1 m (S.val l)))), (.i .h, .c (.pt 0 0)), (.o (.i .h), .c (.p (.int .i64 i)))] [some (.box t_api_Gauge (gC ra le mo n (S.val r)))] →
    LoopGo (ex (cs hbs) (fu + 60)) 0 m_ref01_Fits_l1 st (.br (S.from_ (S.crAt ra le mo l) m i) (.e (.exit 0) ⟨setAll [(.o .h, .c (.p (.isl 1 m (S.val l)))), (.i .h, .c (.pt 0 0))], [some (.box t_api_Gauge (gC ra le mo n (S.val r)))]⟩) (.e .ret ⟨setAll [(.i (.o .h), vB false)], [some (.box t_api_Gauge (gC ra le mo n (S.val r)))]⟩)) :=
  loop_k (σ := Nat) (fun i => [(.o .h, .c (.p (.isl 1 m (S.val l)))), (.i .h, .c (.pt 0 0)), (.o (.i .h), .c (.p (.int .i64 i)))]) (fun _ => [some (.box t_api_Gauge (gC ra le mo n (S.val r)))]) (fun i => i ≤ 1441 ∧ (0 < i → le ≤ l (i - 1) 0 ∧ l (i - 1) 0 ≤ mo)) (fun i => 1441 - i)
    (fun i => .br (S.from_ (S.crAt ra le mo l) m i) (.e (.exit 0) ⟨setAll [(.o .h, .c (.p (.isl 1 m (S.val l)))), (.i .h, .c (.pt 0 0))], [some (.box t_api_Gauge (gC ra le mo n (S.val r)))]⟩) (.e .ret ⟨setAll [(.i (.o .h), vB false)], [some (.box t_api_Gauge (gC ra le mo n (S.val r)))]⟩)) (fun _ => Nat.zero_le _) _ (fun i Q => vs_ref01_Fits1 (hbs := hbs) fu i ra le mo n r m l Q) fun i hi' K hL X hX => by
      obtain ⟨⟨g1, g2⟩, ⟨g3, g4, g5⟩, g6, g7⟩ := S.ggB_in hg
      have et : Int.toNat ((i : Int) - 1) = i - 1 := by omega
      have nx : ∀ st, i < m → S.inB le (l i 0) mo = true → S.crAt ra le mo l i = true → Has st [(.o .h, .c (.p (.isl 1 m (S.val l)))), (.i .h, .c (.pt 0 0)), (.o (.i .h), .c (.p (.int .i64 ((i + 1 : Nat) : Int))))] [some (.box t_api_Gauge (gC ra le mo n (S.val r)))] → X st := fun st hlt e1 e hh => by
        refine hX (i + 1) st (by omega) ⟨by omega, fun _ => S.inB_iff.1 e1⟩ hh ?_
        rw [S.from_step hlt, e, Bool.true_and] at hL
        exact hL
      refine brP (fun h1 => ?_) fun h1 => ?_
      · have hlt : i < m := by simpa using h1
        refine cdP (idx_ok hlt) ⟨fc_ref01_in hT _ _ _, brP (fun h2 => brP (fun h3 => ?_) fun h3 => cdP (i64_of (by omega) (by omega)) ?_) fun h2 => ?_⟩
        · have h3 : 0 < i := by simpa using h3
          have b1 := S.inB_iff.1 h2
          have b2 := hi'.2 h3
          refine cdP (idx_ok hlt) (cdP (i64_of (by omega) (by omega)) (cdP (rng_of (by omega) (by omega)) (cdP (i64_of (by rw [et]; omega) (by rw [et]; omega)) (cdP (i64_of (by omega) (by omega)) ⟨fc_ref01_in hT _ _ _, brP (fun h4 => cdP (i64_of (by omega) (by omega)) ?_) fun h4 => ?_⟩))))
          · refine nx _ hlt h2 (by rw [S.crAt_eq h2 h3]; rw [et, Int.zero_sub] at h4; exact h4) (.cons (by kernel_rfl) rfl (.cons (by kernel_rfl) rfl (.cons (by kernel_rfl) rfl (.nil (ex := _) rfl rfl))))
          · have e : S.crAt ra le mo l i = false := by rw [S.crAt_eq h2 h3]; rw [et, Int.zero_sub] at h4; exact h4
            rw [S.from_step hlt, e, Bool.false_and] at hL
            exact Has.out (l := [(.i (.o .h), vB false)]) (.cons (by kernel_rfl) rfl (.nil (ex := _) rfl rfl)) (Nat.zero_le _) hL
        · have h3 : i = 0 := by simp at h3; omega
          exact nx _ hlt h2 (by simp [S.crAt, h2, h3] at *; exact h2) (.cons (by kernel_rfl) rfl (.cons (by kernel_rfl) rfl (.cons (by kernel_rfl) rfl (.nil (ex := _) rfl rfl))))
        · have e : S.crAt ra le mo l i = false := by simp only [S.crAt, h2, Bool.false_and]
          rw [S.from_step hlt, e, Bool.false_and] at hL
          exact Has.out (l := [(.i (.o .h), vB false)]) (.cons (by kernel_rfl) rfl (.nil (ex := _) rfl rfl)) (Nat.zero_le _) hL
      · have hlt : m ≤ i := by simpa using h1
        rw [S.from_end hlt] at hL
        exact Has.out (l := [(.o .h, .c (.p (.isl 1 m (S.val l)))), (.i .h, .c (.pt 0 0))]) (.cons (by kernel_rfl) rfl (.cons (by kernel_rfl) rfl (.nil (ex := _) rfl rfl))) (Nat.zero_le _) hL
theorem go_ref01_Fits2 (fu : Nat) (ra le mo : Int) (n : Nat) (r : S.Rows) (m : Nat) (l : S.Rows) (hg : S.ggB ra le mo n r (-100000) 100000 = true) (hm : m = 1441) : ∀ (i : Nat) (st : St), i ≤ n → Has st [(.o .h, .c (.p (.isl 1 m (S.val l)))), (.i .h, .c (.pt 0 0)), (.i (.i .h), .c (.p (.int .i64 i)))] [some (.box t_api_Gauge (gC ra le mo n (S.val r)))] →
    LoopGo (ex (cs hbs) (fu + 60)) 0 m_ref01_Fits_l2 st (.br (S.from_ (S.rfAt r l) n i) (.e (.exit 2) ⟨.lf, [some (.box t_api_Gauge (gC ra le mo n (S.val r)))]⟩) (.e .ret ⟨setAll [(.i (.o .h), vB false)], [some (.box t_api_Gauge (gC ra le mo n (S.val r)))]⟩)) :=
  loop_k (σ := Nat) (fun i => [(.o .h, .c (.p (.isl 1 m (S.val l)))), (.i .h, .c (.pt 0 0)), (.i (.i .h), .c (.p (.int .i64 i)))]) (fun _ => [some (.box t_api_Gauge (gC ra le mo n (S.val r)))]) (fun i => i ≤ n) (fun i => n - i)
    (fun i => .br (S.from_ (S.rfAt r l) n i) (.e (.exit 2) ⟨.lf, [some (.box t_api_Gauge (gC ra le mo n (S.val r)))]⟩) (.e .ret ⟨setAll [(.i (.o .h), vB false)], [some (.box t_api_Gauge (gC ra le mo n (S.val r)))]⟩)) (fun _ => Nat.zero_le _) _ (fun i Q => vs_ref01_Fits2 (hbs := hbs) fu i ra le mo n r m l Q) fun i hi' K hL X hX => by
      obtain ⟨_, _, g6, g7⟩ := S.ggB_in hg
      refine brP (fun h1 => ?_) fun h1 => ?_
      · have hlt : i < n := by simpa using h1
        have b := g7 i hlt
        refine cdP (idx_ok hlt) (cdP (rng_of (by omega) (by omega)) ⟨fc_ref01_in hT _ _ _, brP (fun h2 => cdP (i64_of (by omega) (by omega)) ?_) fun h2 => ?_⟩)
        · refine hX (i + 1) _ (by omega) (by omega) (.cons (by kernel_rfl) rfl (.cons (by kernel_rfl) rfl (.cons (by kernel_rfl) rfl (.nil (ex := _) rfl rfl)))) ?_
          have e : S.rfAt r l i = true := h2
          rw [S.from_step hlt, e, Bool.true_and] at hL
          exact hL
        · have e : S.rfAt r l i = false := h2
          rw [S.from_step hlt, e, Bool.false_and] at hL
          exact Has.out (l := [(.i (.o .h), vB false)]) (.cons (by kernel_rfl) rfl (.nil (ex := _) rfl rfl)) (Nat.zero_le _) hL
      · have hlt : n ≤ i := by simpa using h1
        rw [S.from_end hlt] at hL
        exact Has.out (l := []) (.nil (ex := _) rfl rfl) (Nat.zero_le _) hL
theorem fc_ref01_Fits (ra le mo : Int) (n : Nat) (r : S.Rows) (m : Nat) (l : S.Rows) (hg : S.ggB ra le mo n r (-100000) 100000 = true) : FCall (cs hbs) f_ref01_Fits [.ag (gC ra le mo n (S.val r)), .c (.p (.isl 1 m (S.val l)))] (vB (S.fit ra le mo n r m l)) [] :=
  fcall_k hT (F := F_ref01_Fits) rfl (vc_ref01_Fits ra le mo n r m l _) (brP (fun h1 => frz_b (by
      have h1 : decide (m = 1441) = false := by simp at h1; exact decide_eq_false (by omega)
      simp only [S.fit, h1, Bool.false_and])) fun h1 => by
    have hm : m = 1441 := by simp at h1; omega
    refine ⟨go_ref01_Fits1 hT 934 ra le mo n r m l hg hm 0 _ ⟨by omega, fun h => absurd h (by omega)⟩ (.cons (by kernel_rfl) rfl (.cons (by kernel_rfl) rfl (.cons (by kernel_rfl) rfl (.nil rfl rfl)))), brP (fun h2 => ⟨go_ref01_Fits2 hT 933 ra le mo n r m l hg hm 0 _ (Nat.zero_le _) (.cons (by kernel_rfl) rfl (.cons (by kernel_rfl) rfl (.cons (by kernel_rfl) rfl (.nil (ex := _) rfl rfl)))), brP (fun h3 => frz_b ?_) fun h3 => frz_b ?_⟩) fun h2 => frz_b ?_⟩
    · rw [hm] at h2; simp [S.fit, hm, h2, h3]
    · simp [S.fit, h3]
    · rw [hm] at h2; simp [S.fit, h2])
theorem go_water_minutes (fu : Nat) (ra le mo : Int) (n : Nat) (r : S.Rows) (m : Nat) (l : S.Rows) (e : Int) (hg : S.ggB ra le mo n r (-100000) 100000 = true) (hm : m = 1441) : ∀ (i : Nat) (st : St), i ≤ 1441 ∧ (0 < i → le ≤ l (i - 1) 0 ∧ l (i - 1) 0 ≤ mo) → Has st [(.h, .c (.ref 3)), (.i .h, .c (.p (.int .i64 i)))] (HF ra le mo n (S.val r) m (S.val l) e .ready) →
    LoopGo (ex (cs hbs) (fu + 60)) 4 m_water_minutes_l1 st (.br (S.from_ (S.crAt ra le mo l) 1441 i) (.e (.exit 0) ⟨.lf, HF ra le mo n (S.val r) m (S.val l) e .ready⟩) (.e .ret ⟨.lf, HF ra le mo n (S.val r) m (S.val l) e (.done .ret)⟩)) :=
  loop_k (σ := Nat) (fun i => [(.h, .c (.ref 3)), (.i .h, .c (.p (.int .i64 i)))]) (fun _ => HF ra le mo n (S.val r) m (S.val l) e .ready) (fun i => i ≤ 1441 ∧ (0 < i → le ≤ l (i - 1) 0 ∧ l (i - 1) 0 ≤ mo)) (fun i => 1441 - i)
    (fun i => .br (S.from_ (S.crAt ra le mo l) 1441 i) (.e (.exit 0) ⟨.lf, HF ra le mo n (S.val r) m (S.val l) e .ready⟩) (.e .ret ⟨.lf, HF ra le mo n (S.val r) m (S.val l) e (.done .ret)⟩)) (fun _ => Nat.le_refl _) _ (fun i Q => vs_water_minutes (hbs := hbs) fu i ra le mo n r m l e Q) fun i hi' K hL X hX => by
      obtain ⟨⟨g1, g2⟩, ⟨g3, g4, g5⟩, g6, g7⟩ := S.ggB_in hg
      have et : Int.toNat ((i : Int) - 1) = i - 1 := by omega
      have nx : ∀ st, i < 1441 → S.inB le (l i 0) mo = true → S.crAt ra le mo l i = true → Has st [(.h, .c (.ref 3)), (.i .h, .c (.p (.int .i64 ((i + 1 : Nat) : Int))))] (HF ra le mo n (S.val r) m (S.val l) e .ready) → X st := fun st hlt e1 e hh => by
        refine hX (i + 1) st (by omega) ⟨by omega, fun _ => S.inB_iff.1 e1⟩ hh ?_
        rw [S.from_step hlt, e, Bool.true_and] at hL
        exact hL
      refine brP (fun h1 => ?_) fun h1 => ?_
      · have hlt : i < 1441 := by simp at h1; omega
        refine cdP (rng_of (by omega) (by omega)) ⟨fc_water_holds hT _ _ _, brP (fun h2 => brP (fun h3 => ?_) fun h3 => cdP (i64_of (by omega) (by omega)) ?_) fun h2 => ?_⟩
        · have h3 : 0 < i := by simpa using h3
          have b1 := S.inB_iff.1 h2
          have b2 := hi'.2 h3
          have b3 := S.gap_in (a := l i 0) (b := l (i - 1) 0) (B := 100000) (by omega) (by omega)
          refine cdP (i64_of (by omega) (by omega)) (cdP (rng_of (by omega) (by omega)) (cdP (i64_of (by rw [et]; omega) (by rw [et]; omega)) (brP (fun h4 => ?_) fun h4 => cdP (i64_of (by omega) (by omega)) ?_)))
          · have ee : S.crAt ra le mo l i = false := by
              rw [S.crAt_eq h2 h3]; rw [et] at h4
              have := S.gap_iff.1 (of_decide_eq_true h4)
              rw [Bool.eq_false_iff]; exact fun h => this (S.inB_iff.1 h)
            rw [S.from_step hlt, ee, Bool.false_and] at hL
            exact Has.out (l := []) (.nil (ex := _) rfl rfl) (Nat.le_refl _) hL
          · refine nx _ hlt h2 ?_ (.cons (by kernel_rfl) rfl (.cons (by kernel_rfl) rfl (.nil (ex := _) rfl rfl)))
            rw [S.crAt_eq h2 h3]; rw [et] at h4
            have := of_decide_eq_false h4
            rw [S.gap_iff] at this
            exact S.inB_iff.2 (by omega)
        · have h3 : i = 0 := by simp at h3; omega
          exact nx _ hlt h2 (by simp [S.crAt, h2, h3] at *; exact h2) (.cons (by kernel_rfl) rfl (.cons (by kernel_rfl) rfl (.nil (ex := _) rfl rfl)))
        · have ee : S.crAt ra le mo l i = false := by simp only [S.crAt, h2, Bool.false_and]
          rw [S.from_step hlt, ee, Bool.false_and] at hL
          exact Has.out (l := []) (.nil (ex := _) rfl rfl) (Nat.le_refl _) hL
      · have hlt : 1441 ≤ i := by simp at h1; omega
        rw [S.from_end hlt] at hL
        exact Has.out (l := []) (.nil (ex := _) rfl rfl) (Nat.le_refl _) hL
theorem go_water_Fits (fu : Nat) (ra le mo : Int) (n : Nat) (r : S.Rows) (m : Nat) (l : S.Rows) (hg : S.ggB ra le mo n r (-100000) 100000 = true) (hm : m = 1441) : ∀ (i : Nat) (st : St), i ≤ n → Has st [(.o (.o .h), .c (.pt 1 0)), (.i (.o .h), .c (.pt 2 0)), (.o (.i (.i (.i (.o .h)))), .c (.p (.isl 4 n (S.val r)))), (.i (.i (.i (.i (.o .h)))), .c (.p (.int .i64 n))), (.o (.o (.o (.o (.i .h)))), .c (.p (.int .i64 i)))] [some (.box t_api_Gauge (gC ra le mo n (S.val r))), some (.box t_sl_int [.p (.isl 1 m (S.val l))]), some (.box t_bool [.p (.bool false)]), none] →
    LoopGo (ex (cs hbs) (fu + 60)) 0 m_water_Fits_l1 st (.br (S.from_ (S.rfAt r l) n i) (.e (.exit 2) ⟨setAll [(.i (.o .h), .c (.pt 2 0))], [some (.box t_api_Gauge (gC ra le mo n (S.val r))), some (.box t_sl_int [.p (.isl 1 m (S.val l))]), some (.box t_bool [.p (.bool false)]), none]⟩) (.e .ret ⟨setAll [(.i (.o .h), .c (.pt 2 0))], [some (.box t_api_Gauge (gC ra le mo n (S.val r))), some (.box t_sl_int [.p (.isl 1 m (S.val l))]), some (.box t_bool [.p (.bool false)]), none]⟩)) :=
  loop_k (σ := Nat) (fun i => [(.o (.o .h), .c (.pt 1 0)), (.i (.o .h), .c (.pt 2 0)), (.o (.i (.i (.i (.o .h)))), .c (.p (.isl 4 n (S.val r)))), (.i (.i (.i (.i (.o .h)))), .c (.p (.int .i64 n))), (.o (.o (.o (.o (.i .h)))), .c (.p (.int .i64 i)))]) (fun _ => [some (.box t_api_Gauge (gC ra le mo n (S.val r))), some (.box t_sl_int [.p (.isl 1 m (S.val l))]), some (.box t_bool [.p (.bool false)]), none]) (fun i => i ≤ n) (fun i => n - i)
    (fun i => .br (S.from_ (S.rfAt r l) n i) (.e (.exit 2) ⟨setAll [(.i (.o .h), .c (.pt 2 0))], [some (.box t_api_Gauge (gC ra le mo n (S.val r))), some (.box t_sl_int [.p (.isl 1 m (S.val l))]), some (.box t_bool [.p (.bool false)]), none]⟩) (.e .ret ⟨setAll [(.i (.o .h), .c (.pt 2 0))], [some (.box t_api_Gauge (gC ra le mo n (S.val r))), some (.box t_sl_int [.p (.isl 1 m (S.val l))]), some (.box t_bool [.p (.bool false)]), none]⟩)) (fun _ => Nat.zero_le _) _ (fun i Q => vs_water_Fits (hbs := hbs) fu i ra le mo n r m l Q) fun i hi' K hL X hX => by
      obtain ⟨_, _, g6, g7⟩ := S.ggB_in hg
      refine brP (fun h1 => ?_) fun h1 => ?_
      · have hlt : i < n := by simpa using h1
        have b := g7 i hlt
        refine cdP (idx_ok hlt) (cdP (rng_of (by omega) (by omega)) ⟨fc_water_holds hT _ _ _, brP (fun h2 => cdP (i64_of (by omega) (by omega)) ?_) fun h2 => ?_⟩)
        · refine hX (i + 1) _ (by omega) (by omega) (.cons (by kernel_rfl) rfl (.cons (by kernel_rfl) rfl (.cons (by kernel_rfl) rfl (.cons (by kernel_rfl) rfl (.cons (by kernel_rfl) rfl (.nil (ex := _) rfl rfl)))))) ?_
          have e : S.rfAt r l i = true := h2
          rw [S.from_step hlt, e, Bool.true_and] at hL
          exact hL
        · have e : S.rfAt r l i = false := h2
          rw [S.from_step hlt, e, Bool.false_and] at hL
          exact Has.out (l := [(.i (.o .h), .c (.pt 2 0))]) (.cons (by kernel_rfl) rfl (.nil (ex := _) rfl rfl)) (Nat.zero_le _) hL
      · have hlt : n ≤ i := by simpa using h1
        rw [S.from_end hlt] at hL
        exact Has.out (l := [(.i (.o .h), .c (.pt 2 0))]) (.cons (by kernel_rfl) rfl (.nil (ex := _) rfl rfl)) (Nat.zero_le _) hL
theorem fc_water_Fits (ra le mo : Int) (n : Nat) (r : S.Rows) (m : Nat) (l : S.Rows) (hn : n ≤ maxLen) : FCall (cs hbs) f_water_Fits [.ag (gC ra le mo n (S.val r)), .c (.p (.isl 1 m (S.val l)))] (vB (S.ggB ra le mo n r (-100000) 100000 && S.fit ra le mo n r m l)) [] :=
  fcall_k hT (F := F_water_Fits) rfl (vc_water_Fits ra le mo n r m l _) ⟨fc_water_Known hT ra le mo n r hn, by
    cases hg : S.ggB ra le mo n r (-100000) 100000 with
    | false =>
      rw [S.knE_f hg]
      exact brP (fun _ => frz_b rfl) fun h => absurd h (by decide)
    | true =>
      rw [S.knE_t hg]
      refine brP (fun h => absurd h (by decide)) fun _ => brP (fun h1 => frz_b (by
        have h1 : decide (m = 1441) = false := by simp at h1; exact decide_eq_false (by omega)
        simp only [S.fit, h1, Bool.false_and, Bool.and_false])) fun h1 => ?_
      have hm : m = 1441 := by simp at h1; omega
      refine ⟨go_water_minutes hT 932 ra le mo n r m l _ hg hm 0 _ ⟨by omega, fun h => absurd h (by omega)⟩ (.cons (by kernel_rfl) rfl (.cons (by kernel_rfl) rfl (.nil rfl rfl))), brP (fun h2 => ⟨go_water_Fits hT 933 ra le mo n r m l hg hm 0 _ (Nat.zero_le _) (.cons (by kernel_rfl) rfl (.cons (by kernel_rfl) rfl (.cons (by kernel_rfl) rfl (.cons (by kernel_rfl) rfl (.cons (by kernel_rfl) rfl (.nil (ex := _) rfl rfl)))))), brP (fun h3 => frz_b ?_) fun h3 => frz_b ?_⟩) fun h2 => frz_b ?_⟩
      · simp [S.fit, hm, h2, h3]
      · simp [S.fit, h3]
      · simp [S.fit, h2]⟩
theorem fc_law01_WaterChecks (hk : FCall (cs hbs) f_law01_known [] (vB true) []) (ra le mo : Int) (n : Nat) (r : S.Rows) (m : Nat) (l : S.Rows) (hn : n ≤ maxLen) : FCall (cs hbs) f_law01_WaterChecks [.ag (gC ra le mo n (S.val r)), .c (.p (.isl 1 m (S.val l)))] (vB true) [] :=
  fcall_k hT (F := F_law01_WaterChecks) rfl (vc_law01_WaterChecks ra le mo n r m l _) (brP (fun _ => brP (fun _ => ⟨hk, frz_b rfl⟩) fun _ => ⟨fc_water_Known hT ra le mo n r hn, fc_water_Fits hT ra le mo n r m l hn,
      brP (fun h => ⟨fc_ref01_Gauge hT ra le mo n r hn, brP (fun hg => by
          rw [S.knE_t hg]
          exact brP (fun _ => ⟨fc_ref01_Fits hT ra le mo n r m l hg, brP (fun _ => ⟨hk, frz_b rfl⟩) fun hf => absurd ((Bool.and_eq_true _ _ ▸ h).2) (by rw [hf]; decide)⟩) fun h => absurd h (by decide)) fun hg => absurd ((Bool.and_eq_true _ _ ▸ h).1) (by rw [hg]; decide)⟩)
        fun h => ⟨fc_ref01_Gauge hT ra le mo n r hn, brP (fun hg => by
          rw [S.knE_t hg]
          exact brP (fun _ => ⟨fc_ref01_Fits hT ra le mo n r m l hg, brP (fun hf => absurd h (by rw [hg, hf]; decide)) fun _ => ⟨hk, frz_b rfl⟩⟩) fun h => absurd h (by decide)) fun hg => by
          rw [S.knE_f hg]
          exact brP (fun _ => ⟨hk, frz_b rfl⟩) fun h => absurd h (by decide)⟩⟩) fun _ => ⟨hk, frz_b rfl⟩)
end
end Go.Ab.B
