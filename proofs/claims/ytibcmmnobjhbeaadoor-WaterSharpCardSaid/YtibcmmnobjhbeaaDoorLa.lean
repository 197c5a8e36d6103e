/- A part of the proof. -/
import Derived.Test.YtibcmmnobjhbeaaDoorVd
import Derived.Test.YtibcmmnobjhbeaaDoorTb
set_option linter.all false
namespace Go.Ab.S
open Go.Ab
def spB (lo l h hi : Int) : Bool := decide (lo ≤ l) && decide (l ≤ h) && decide (h ≤ hi)
theorem spB_iff {lo l h hi : Int} : spB lo l h hi = true ↔ lo ≤ l ∧ l ≤ h ∧ h ≤ hi := by simp [spB]; omega
def rdOk (mi l h so : Int) : Bool := inB 0 mi 1440 && spB (-100000) l h 100000 && inB 0 so 7
def rdAt (r : Rows) (i : Nat) : Bool := rdOk (r i 0) (r i 1) (r i 2) (r i 3)
def ggB (ra le mo : Int) (n : Nat) (r : Rows) (lo hi : Int) : Bool := inB 0 ra 1000 && spB lo le mo hi && decide ((n : Int) ≤ 30) && from_ (rdAt r) n 0
def crAt (ra le mo : Int) (l : Rows) (i : Nat) : Bool := inB le (l i 0) mo && (decide (i = 0) || inB (-ra) (l i 0 - l (i - 1) 0) ra)
def rfAt (r l : Rows) (i : Nat) : Bool := inB (r i 1) (l (r i 0).toNat 0) (r i 2)
def fit (ra le mo : Int) (n : Nat) (r : Rows) (m : Nat) (l : Rows) : Bool := decide (m = 1441) && from_ (crAt ra le mo l) 1441 0 && from_ (rfAt r l) n 0
def mn (a b : Int) : Int := if b < a then b else a
def mx (a b : Int) : Int := if b > a then b else a
theorem gap_iff {a b c : Int} : mx a b - mn a b > c ↔ ¬ (-c ≤ a - b ∧ a - b ≤ c) := by unfold mx mn; split <;> split <;> omega
theorem gap_in {a b B : Int} (h1 : -B ≤ a ∧ a ≤ B) (h2 : -B ≤ b ∧ b ≤ B) : 0 ≤ mx a b - mn a b ∧ mx a b - mn a b ≤ 2 * B := by unfold mx mn; split <;> split <;> omega
theorem ggB_in {ra le mo : Int} {n : Nat} {r : Rows} {lo hi : Int} (h : ggB ra le mo n r lo hi = true) : (0 ≤ ra ∧ ra ≤ 1000) ∧ (lo ≤ le ∧ le ≤ mo ∧ mo ≤ hi) ∧ n ≤ 30 ∧ ∀ i, i < n → 0 ≤ r i 0 ∧ r i 0 ≤ 1440 := by
  simp only [ggB, Bool.and_eq_true, inB_iff, spB_iff, decide_eq_true_eq] at h
  obtain ⟨⟨⟨h1, h2⟩, h3⟩, h4⟩ := h
  refine ⟨h1, h2, by omega, fun i hi => ?_⟩
  have := from_iff.1 h4 i (Nat.zero_le _) hi
  simp only [rdAt, rdOk, Bool.and_eq_true, inB_iff] at this
  exact this.1.1
theorem crAt_eq {ra le mo : Int} {l : Rows} {i : Nat} (h : inB le (l i 0) mo = true) (hi : 0 < i) : crAt ra le mo l i = inB (-ra) (l i 0 - l (i - 1) 0) ra := by
  simp [crAt, h, show ¬ i = 0 by omega]
def knE (ra le mo : Int) (n : Nat) (r : Rows) : Int := match ggB ra le mo n r (-100000) 100000 with | true => 0 | false => 2
theorem knE_t {ra le mo : Int} {n : Nat} {r : Rows} (h : ggB ra le mo n r (-100000) 100000 = true) : knE ra le mo n r = 0 := by unfold knE; rw [h]
theorem knE_f {ra le mo : Int} {n : Nat} {r : Rows} (h : ggB ra le mo n r (-100000) 100000 = false) : knE ra le mo n r = 2 := by unfold knE; rw [h]
end Go.Ab.S
set_option maxRecDepth 100000
namespace Go.Ab.B
open Go.Proofs
abbrev pI (n : Int) : PV := .int .i64 n
def sp_water_readingFine : List AV → Option (AV × Heap)
  | [.ag [.p (.int .i64 mi), .p (.int .i64 l), .p (.int .i64 h), .p (.int .i64 so)]] => some (vB (S.rdOk mi l h so), [])
  | _ => none
def sp_ref01_in : List AV → Option (AV × Heap)
  | [.c (.p (.int .i64 x)), .c (.p (.int .i64 lo)), .c (.p (.int .i64 hi))] => some (vB (S.inB lo x hi), [])
  | _ => none
def sp_water_holds : List AV → Option (AV × Heap)
  | [.ag [.p (.int .i64 lo), .p (.int .i64 hi)], .c (.p (.int .i64 x))] => some (vB (S.inB lo x hi), [])
  | _ => none
def sp_ref01_Span : List AV → Option (AV × Heap)
  | [.ag [.p (.int .i64 l), .p (.int .i64 h)], .c (.p (.int .i64 lo)), .c (.p (.int .i64 hi))] => some (vB (S.spB lo l h hi), [])
  | _ => none
def sp_water_gaugeFine : List AV → Option (AV × Heap)
  | [.ag [.p (.int .i64 ra), .p (.int .i64 le), .p (.int .i64 mo), .p (.isl 4 n f)], .ag [.p (.int .i64 lo), .p (.int .i64 hi)]] => some (vB (S.ggB ra le mo n (S.num f) lo hi), [])
  | _ => none
def sp_water_Known : List AV → Option (AV × Heap)
  | [.ag [.p (.int .i64 ra), .p (.int .i64 le), .p (.int .i64 mo), .p (.isl 4 n f)]] => some (vI .i64 (S.knE ra le mo n (S.num f)), [])
  | _ => none
def sp_ref01_Gauge : List AV → Option (AV × Heap)
  | [.ag [.p (.int .i64 ra), .p (.int .i64 le), .p (.int .i64 mo), .p (.isl 4 n f)]] => some (vB (S.ggB ra le mo n (S.num f) (-100000) 100000), [])
  | _ => none
def sp_water_Fits : List AV → Option (AV × Heap)
  | [.ag [.p (.int .i64 ra), .p (.int .i64 le), .p (.int .i64 mo), .p (.isl 4 n f)], .c (.p (.isl 1 m g))] => some (vB (S.ggB ra le mo n (S.num f) (-100000) 100000 && S.fit ra le mo n (S.num f) m (S.num g)), [])
  | _ => none
def sp_ref01_Fits : List AV → Option (AV × Heap)
  | [.ag [.p (.int .i64 ra), .p (.int .i64 le), .p (.int .i64 mo), .p (.isl 4 n f)], .c (.p (.isl 1 m g))] => some (vB (S.fit ra le mo n (S.num f) m (S.num g)), [])
  | _ => none
def sp_law01_known : List AV → Option (AV × Heap)
  | [] => some (vB true, [])
  | _ => none
def Sp (f : Nat) (l : List AV) : Option (AV × Heap) :=
  bif Nat.beq f f_water_readingFine then sp_water_readingFine l else bif Nat.beq f f_ref01_in then sp_ref01_in l else bif Nat.beq f f_water_holds then sp_water_holds l else bif Nat.beq f f_ref01_Span then sp_ref01_Span l else bif Nat.beq f f_water_gaugeFine then sp_water_gaugeFine l else bif Nat.beq f f_water_Known then sp_water_Known l else bif Nat.beq f f_ref01_Gauge then sp_ref01_Gauge l else bif Nat.beq f f_water_Fits then sp_water_Fits l else bif Nat.beq f f_ref01_Fits then sp_ref01_Fits l else bif Nat.beq f f_law01_known then sp_law01_known l else none
def lp_water_gaugeFine (s : St) : Option LTree :=
  match Tr.get (.o (.i (.i (.i .h)))) s.t, Tr.get (.o (.o (.o (.o (.o .h))))) s.t with
  | .c (.p (.isl 4 n f)), .c (.p (.int .i64 i)) => some (.br (S.from_ (S.rdAt (S.num f)) n i.toNat) (.e (.exit 0) ⟨.lf, s.h⟩) (.e .ret ⟨setAll [(.i (.o .h), vB false)], s.h⟩))
  | _, _ => none
def lp_ref01_Gauge (s : St) : Option LTree :=
  match s.h with
  | [some (.box _ [_, _, _, .p (.isl 4 n f)])] => match Tr.get (.o (.o .h)) s.t with
    | .c (.p (.int .i64 i)) => some (.br (S.from_ (S.rdAt (S.num f)) n i.toNat) (.e (.exit 0) ⟨setAll [(.o .h, .c (.pt 0 0))], s.h⟩) (.e .ret ⟨setAll [(.i .h, vB false)], s.h⟩))
    | _ => none
  | _ => none
def lp_ref01_Fits (j : Nat) (s : St) : Option LTree :=
  match s.h with
  | [some (.box _ [.p (.int .i64 ra), .p (.int .i64 le), .p (.int .i64 mo), .p (.isl 4 n f)])] => match Tr.get (.o .h) s.t with
    | .c (.p (.isl 1 m g)) => match j with
      | 1 => match Tr.get (.o (.i .h)) s.t with
        | .c (.p (.int .i64 i)) => some (.br (S.from_ (S.crAt ra le mo (S.num g)) m i.toNat) (.e (.exit 0) ⟨setAll [(.o .h, .c (.p (.isl 1 m g))), (.i .h, .c (.pt 0 0))], s.h⟩) (.e .ret ⟨setAll [(.i (.o .h), vB false)], s.h⟩))
        | _ => none
      | _ => match Tr.get (.i (.i .h)) s.t with
        | .c (.p (.int .i64 i)) => some (.br (S.from_ (S.rfAt (S.num f) (S.num g)) n i.toNat) (.e (.exit 2) ⟨.lf, s.h⟩) (.e .ret ⟨setAll [(.i (.o .h), vB false)], s.h⟩))
        | _ => none
    | _ => none
  | _ => none
def lp_water_minutes (s : St) : Option LTree :=
  match Tr.get (.i .h) s.t with
  | .c (.p (.int .i64 i)) => match s.h with
    | [b0, b1, b2, some (.lp nt t ps a b .ready)] => match b0, b1 with
      | some (.box _ [.p (.int .i64 ra), .p (.int .i64 le), .p (.int .i64 mo), _]), some (.box _ [.p (.isl 1 _ g)]) =>
        some (.br (S.from_ (S.crAt ra le mo (S.num g)) 1441 i.toNat) (.e (.exit 0) ⟨.lf, [b0, b1, b2, some (.lp nt t ps a b .ready)]⟩) (.e .ret ⟨.lf, [b0, b1, b2, some (.lp nt t ps a b (.done .ret))]⟩))
      | _, _ => none
    | _ => none
  | _ => none
def lp_water_Fits (s : St) : Option LTree :=
  match s.h with
  | [b0, b1, b2, none] => match b1 with
    | some (.box _ [.p (.isl 1 _ g)]) => match Tr.get (.o (.i (.i (.i (.o .h))))) s.t, Tr.get (.o (.o (.o (.o (.i .h))))) s.t with
      | .c (.p (.isl 4 n f)), .c (.p (.int .i64 i)) => some (.br (S.from_ (S.rfAt (S.num f) (S.num g)) n i.toNat) (.e (.exit 2) ⟨setAll [(.i (.o .h), .c (.pt 2 0))], [b0, b1, b2, none]⟩) (.e .ret ⟨setAll [(.i (.o .h), .c (.pt 2 0))], [b0, b1, b2, none]⟩))
      | _, _ => none
    | _ => none
  | _ => none
def Lp (n0 : Nat) (a : MC) (s : St) : Option LTree :=
  bif Nat.beq (keyM a 0) key_water_gaugeFine_l1 then lp_water_gaugeFine s else bif Nat.beq (keyM a 0) key_ref01_Gauge_l1 then lp_ref01_Gauge s else bif Nat.beq (keyM a 0) key_ref01_Fits_l1 then lp_ref01_Fits 1 s else bif Nat.beq (keyM a 0) key_ref01_Fits_l2 then lp_ref01_Fits 2 s else bif Nat.beq (keyM a 0) key_water_minutes_l1 then lp_water_minutes s else bif Nat.beq (keyM a 0) key_water_Fits_l1 then lp_water_Fits s else none
def gC (ra le mo : Int) (n : Nat) (f : Nat → Nat → PV) : List CV := [.p (.int .i64 ra), .p (.int .i64 le), .p (.int .i64 mo), .p (.isl 4 n f)]
def t61 (ra le mo : Int) (n : Nat) (f : Nat → Nat → PV) (m : Nat) (g : Nat → Nat → PV) (e : Int) : Tr :=
  (.nd (.nd (.nd (.nd (.nd .lf (vB false) .lf) .any .lf) (.c (.pt 1 0)) (.nd .lf (vB false) .lf)) (.c (.p (.isl 1 m g))) (.nd (.nd .lf (.ag (gC ra le mo n f)) .lf) .any (.nd .lf (.c (.p (.isl 1 m g))) .lf))) (.ag (gC ra le mo n f)) (.nd (.nd (.nd (.nd .lf (vB false) .lf) .any .lf) (.c (.pt 2 0)) (.nd .lf (vB false) .lf)) (.c (.pt 0 0)) (.nd (.nd .lf (.c (.p (.int .i64 e))) .lf) .any (.nd .lf (.c (.p (.int .i64 m))) .lf))))
def HF (ra le mo : Int) (n : Nat) (f : Nat → Nat → PV) (m : Nat) (g : Nat → Nat → PV) (e : Int) (st : LS) : Heap := [some (.box t_api_Gauge (gC ra le mo n f)), some (.box t_sl_int [.p (.isl 1 m g)]), some (.box t_bool [.p (.bool false)]), some (.lp 61 (t61 ra le mo n f m g e) [.o (.i (.o (.o .h)))] m_water_Fits_a1 m_water_Fits_b1 st)]
def cs {P : Program} (hbs : BsOk P) : Cfg := { c0 hbs with ur := false, B := fun _ => none, Sp := Sp, Lp := Lp }
section
variable {hbs : BsOk Tryd.prog}
theorem vc_water_holds (lo hi x : Int) (Q : AV → Heap → Prop) :
 ((BrP (decide (lo ≤ x))
 (BrP (decide (x ≤ hi))
  (Q (.c (.p (.bool true))) [(some (.box t_api_Span [(.p (.int .i64 lo)), (.p (.int .i64 hi))]))])
  (Q (.c (.p (.bool false))) [(some (.box t_api_Span [(.p (.int .i64 lo)), (.p (.int .i64 hi))]))]))
 (Q (.c (.p (.bool false))) [(some (.box t_api_Span [(.p (.int .i64 lo)), (.p (.int .i64 hi))]))]))) = (ex (cs hbs) 1000 0 m_water_holds ⟨ofL 0 [.ag [.p (.int .i64 lo), .p (.int .i64 hi)], .c (.p (.int .i64 x))] .lf, []⟩ (endK F_water_holds.rs (fun r H => .pr (Q r H)) fun _ _ => .no)).hold2 := by kernel_rfl
theorem vc_ref01_in (lo hi x : Int) (Q : AV → Heap → Prop) :
 ((BrP (decide (x ≥ lo))
 (BrP (decide (x ≤ hi))
  (Q (.c (.p (.bool true))) [])
  (Q (.c (.p (.bool false))) []))
 (Q (.c (.p (.bool false))) []))) = (ex (cs hbs) 1000 0 m_ref01_in ⟨ofL 0 [.c (.p (.int .i64 x)), .c (.p (.int .i64 lo)), .c (.p (.int .i64 hi))] .lf, []⟩ (endK F_ref01_in.rs (fun r H => .pr (Q r H)) fun _ _ => .no)).hold2 := by kernel_rfl
theorem vc_ref01_Span (l h lo hi : Int) (Q : AV → Heap → Prop) :
 ((BrP (decide (l ≥ lo))
 (BrP (decide (l ≤ h))
  (BrP (decide (h ≤ hi))
   (Q (.c (.p (.bool true))) [(some (.box t_api_Span [(.p (.int .i64 l)), (.p (.int .i64 h))]))])
   (Q (.c (.p (.bool false))) [(some (.box t_api_Span [(.p (.int .i64 l)), (.p (.int .i64 h))]))]))
  (Q (.c (.p (.bool false))) [(some (.box t_api_Span [(.p (.int .i64 l)), (.p (.int .i64 h))]))]))
 (Q (.c (.p (.bool false))) [(some (.box t_api_Span [(.p (.int .i64 l)), (.p (.int .i64 h))]))]))) = (ex (cs hbs) 1000 0 m_ref01_Span ⟨ofL 0 [.ag [.p (.int .i64 l), .p (.int .i64 h)], .c (.p (.int .i64 lo)), .c (.p (.int .i64 hi))] .lf, []⟩ (endK F_ref01_Span.rs (fun r H => .pr (Q r H)) fun _ _ => .no)).hold2 := by kernel_rfl
theorem vc_water_readingFine (mi l h so : Int) (Q : AV → Heap → Prop) :
 (((FCall (cs hbs) f_water_holds [(.ag [(.p (.int .i64 (0 : Int))), (.p (.int .i64 (1440 : Int)))]), (.c (.p (.int .i64 mi)))] (.c (.p (.bool (S.inB (0 : Int) mi (1440 : Int))))) []) ∧
 (BrP (S.inB (0 : Int) mi (1440 : Int))
 (BrP (decide ((-(100000 : Int)) ≤ l))
  (BrP (decide (l ≤ h))
   (BrP (decide (h ≤ (100000 : Int)))
    ((FCall (cs hbs) f_water_holds [(.ag [(.p (.int .i64 (0 : Int))), (.p (.int .i64 (7 : Int)))]), (.c (.p (.int .i64 so)))] (.c (.p (.bool (S.inB (0 : Int) so (7 : Int))))) []) ∧
     (BrP (S.inB (0 : Int) so (7 : Int))
     (Q (.c (.p (.bool true))) [(some (.box t_api_Reading [(.p (.int .i64 mi)), (.p (.int .i64 l)), (.p (.int .i64 h)), (.p (.int .i64 so))]))])
     (Q (.c (.p (.bool false))) [(some (.box t_api_Reading [(.p (.int .i64 mi)), (.p (.int .i64 l)), (.p (.int .i64 h)), (.p (.int .i64 so))]))])))
    (Q (.c (.p (.bool false))) [(some (.box t_api_Reading [(.p (.int .i64 mi)), (.p (.int .i64 l)), (.p (.int .i64 h)), (.p (.int .i64 so))]))]))
   (Q (.c (.p (.bool false))) [(some (.box t_api_Reading [(.p (.int .i64 mi)), (.p (.int .i64 l)), (.p (.int .i64 h)), (.p (.int .i64 so))]))]))
  (Q (.c (.p (.bool false))) [(some (.box t_api_Reading [(.p (.int .i64 mi)), (.p (.int .i64 l)), (.p (.int .i64 h)), (.p (.int .i64 so))]))]))
 (Q (.c (.p (.bool false))) [(some (.box t_api_Reading [(.p (.int .i64 mi)), (.p (.int .i64 l)), (.p (.int .i64 h)), (.p (.int .i64 so))]))])))) = (ex (cs hbs) 1000 0 m_water_readingFine ⟨ofL 0 [.ag [.p (.int .i64 mi), .p (.int .i64 l), .p (.int .i64 h), .p (.int .i64 so)]] .lf, []⟩ (endK F_water_readingFine.rs (fun r H => .pr (Q r H)) fun _ _ => .no)).hold2 := by kernel_rfl
theorem vc_water_gaugeFine (ra le mo : Int) (n : Nat) (r : S.Rows) (lo hi : Int) (Q : AV → Heap → Prop) :
 (((FCall (cs hbs) f_water_holds [(.ag [(.p (.int .i64 (0 : Int))), (.p (.int .i64 (1000 : Int)))]), (.c (.p (.int .i64 ra)))] (.c (.p (.bool (S.inB (0 : Int) ra (1000 : Int))))) []) ∧
 (BrP (S.inB (0 : Int) ra (1000 : Int))
 (BrP (decide (lo ≤ le))
  (BrP (decide (le ≤ mo))
   (BrP (decide (mo ≤ hi))
    (BrP (decide (((n : Nat) : Int) > (30 : Int)))
     (Q (.c (.p (.bool false))) [(some (.box t_api_Gauge [(.p (.int .i64 ra)), (.p (.int .i64 le)), (.p (.int .i64 mo)), (.p (.isl 4 n (S.val r)))])), (some (.box t_api_Span [(.p (.int .i64 lo)), (.p (.int .i64 hi))]))])
     ((LoopGo (ex (cs hbs) 994) 0 m_water_gaugeFine_l1 ⟨(.nd (.nd (.nd (.nd (.nd (.nd .lf (.c (.p (.int .i64 (0 : Int)))) .lf) (.c (.pt 0 2)) .lf) (.ag [(.p (.int .i64 (0 : Int))), (.p (.int .i64 (1000 : Int)))]) (.nd .lf (.c (.pt 0 3)) .lf)) (.c (.pt 1 0)) (.nd (.nd .lf (.c (.p (.bool true))) .lf) (.c (.p (.bool false))) (.nd .lf (.c (.p (.bool false))) .lf))) (.ag [(.p (.int .i64 lo)), (.p (.int .i64 hi))]) (.nd (.nd (.nd .lf (.ag [(.p (.int .i64 le)), (.p (.int .i64 mo))]) .lf) (.c (.p (.int .i64 ra))) (.nd .lf (.c (.p (.int .i64 ((n : Nat) : Int)))) .lf)) .any (.nd (.nd .lf (.c (.p (.bool false))) .lf) (.c (.pt 0 1)) (.nd .lf (.c (.p (.isl 4 n (S.val r)))) .lf)))) (.ag [(.p (.int .i64 ra)), (.p (.int .i64 le)), (.p (.int .i64 mo)), (.p (.isl 4 n (S.val r)))]) (.nd (.nd (.nd (.nd .lf (.c (.p (.int .i64 mo))) .lf) (.c (.pt 0 0)) (.nd .lf (.c (.p (.isl 4 n (S.val r)))) .lf)) (.c (.p (.bool false))) (.nd (.nd .lf (.c (.p (.bool false))) .lf) (.c (.p (.bool false))) (.nd .lf (.c (.pt 0 3)) .lf))) (.c (.pt 0 0)) (.nd (.nd (.nd .lf (.ag [(.p (.int .i64 lo)), (.p (.int .i64 hi))]) .lf) (.c (.p (.bool true))) (.nd .lf (.c (.p (.bool false))) .lf)) .any (.nd (.nd .lf (.c (.p (.bool false))) .lf) (.c (.p (.int .i64 le))) (.nd .lf (.c (.p (.int .i64 ((n : Nat) : Int)))) .lf))))), [(some (.box t_api_Gauge [(.p (.int .i64 ra)), (.p (.int .i64 le)), (.p (.int .i64 mo)), (.p (.isl 4 n (S.val r)))])), (some (.box t_api_Span [(.p (.int .i64 lo)), (.p (.int .i64 hi))]))]⟩ (.br (S.from_ (S.rdAt r) n 0) (.e (.exit 0) ⟨.lf, [(some (.box t_api_Gauge [(.p (.int .i64 ra)), (.p (.int .i64 le)), (.p (.int .i64 mo)), (.p (.isl 4 n (S.val r)))])), (some (.box t_api_Span [(.p (.int .i64 lo)), (.p (.int .i64 hi))]))]⟩) (.e .ret ⟨(.nd .lf .any (.nd (.nd .lf (.c (.p (.bool false))) .lf) .any .lf)), [(some (.box t_api_Gauge [(.p (.int .i64 ra)), (.p (.int .i64 le)), (.p (.int .i64 mo)), (.p (.isl 4 n (S.val r)))])), (some (.box t_api_Span [(.p (.int .i64 lo)), (.p (.int .i64 hi))]))]⟩))) ∧
      (BrP (S.from_ (S.rdAt r) n 0)
      (Q (.c (.p (.bool true))) [(some (.box t_api_Gauge [(.p (.int .i64 ra)), (.p (.int .i64 le)), (.p (.int .i64 mo)), (.p (.isl 4 n (S.val r)))])), (some (.box t_api_Span [(.p (.int .i64 lo)), (.p (.int .i64 hi))]))])
      (Q (.c (.p (.bool false))) [(some (.box t_api_Gauge [(.p (.int .i64 ra)), (.p (.int .i64 le)), (.p (.int .i64 mo)), (.p (.isl 4 n (S.val r)))])), (some (.box t_api_Span [(.p (.int .i64 lo)), (.p (.int .i64 hi))]))]))))
    (Q (.c (.p (.bool false))) [(some (.box t_api_Gauge [(.p (.int .i64 ra)), (.p (.int .i64 le)), (.p (.int .i64 mo)), (.p (.isl 4 n (S.val r)))])), (some (.box t_api_Span [(.p (.int .i64 lo)), (.p (.int .i64 hi))]))]))
   (Q (.c (.p (.bool false))) [(some (.box t_api_Gauge [(.p (.int .i64 ra)), (.p (.int .i64 le)), (.p (.int .i64 mo)), (.p (.isl 4 n (S.val r)))])), (some (.box t_api_Span [(.p (.int .i64 lo)), (.p (.int .i64 hi))]))]))
  (Q (.c (.p (.bool false))) [(some (.box t_api_Gauge [(.p (.int .i64 ra)), (.p (.int .i64 le)), (.p (.int .i64 mo)), (.p (.isl 4 n (S.val r)))])), (some (.box t_api_Span [(.p (.int .i64 lo)), (.p (.int .i64 hi))]))]))
 (Q (.c (.p (.bool false))) [(some (.box t_api_Gauge [(.p (.int .i64 ra)), (.p (.int .i64 le)), (.p (.int .i64 mo)), (.p (.isl 4 n (S.val r)))])), (some (.box t_api_Span [(.p (.int .i64 lo)), (.p (.int .i64 hi))]))])))) = (ex (cs hbs) 1000 0 m_water_gaugeFine ⟨ofL 0 [.ag (gC ra le mo n (S.val r)), .ag [.p (.int .i64 lo), .p (.int .i64 hi)]] .lf, []⟩ (endK F_water_gaugeFine.rs (fun r H => .pr (Q r H)) fun _ _ => .no)).hold2 := by kernel_rfl
theorem vs_water_gaugeFine (fu i : Nat) (ra le mo : Int) (n : Nat) (r : S.Rows) (lo hi : Int) (Q : AX → St → Prop) :
 ((BrP (decide (((i : Nat) : Int) < ((n : Nat) : Int)))
 (CdP (.rng ((i : Nat) : Int) n)
  ((FCall (cs hbs) f_water_readingFine [(.ag [(.p (.int .i64 (r i 0))), (.p (.int .i64 (r i 1))), (.p (.int .i64 (r i 2))), (.p (.int .i64 (r i 3)))])] (.c (.p (.bool (S.rdOk (r i 0) (r i 1) (r i 2) (r i 3))))) []) ∧
  (BrP (S.rdOk (r i 0) (r i 1) (r i 2) (r i 3))
  (CdP (.i64 (((i : Nat) : Int) + (1 : Int)))
   (Q .normal ⟨(.nd (.nd (.nd (.nd (.nd (.nd .lf (.c (.p (.int .i64 (((i : Nat) : Int) + (1 : Int))))) .lf) .any .lf) .any .lf) .any (.nd (.nd (.nd .lf (.ag [(.p (.int .i64 (r i 0))), (.p (.int .i64 (r i 1))), (.p (.int .i64 (r i 2))), (.p (.int .i64 (r i 3)))]) .lf) .any .lf) .any .lf)) .any (.nd (.nd (.nd (.nd .lf (.c (.p (.ipt 4 (S.val r i)))) .lf) .any .lf) .any .lf) .any (.nd (.nd (.nd .lf (.c (.p (.bool false))) .lf) .any .lf) .any (.nd .lf (.c (.p (.isl 4 n (S.val r)))) .lf)))) .any (.nd (.nd (.nd (.nd (.nd .lf (.c (.p (.bool true))) .lf) .any .lf) .any .lf) .any (.nd (.nd (.nd .lf (.c (.p (.bool true))) .lf) .any .lf) .any .lf)) .any (.nd (.nd (.nd (.nd .lf (.ag [(.p (.int .i64 (r i 0))), (.p (.int .i64 (r i 1))), (.p (.int .i64 (r i 2))), (.p (.int .i64 (r i 3)))]) .lf) .any .lf) .any .lf) (.c (.pt 2 0)) (.nd (.nd (.nd .lf (.c (.p (.int .i64 (((i : Nat) : Int) + (1 : Int))))) .lf) .any .lf) .any (.nd .lf (.c (.p (.int .i64 ((n : Nat) : Int)))) .lf))))), [(some (.box t_api_Gauge [(.p (.int .i64 ra)), (.p (.int .i64 le)), (.p (.int .i64 mo)), (.p (.isl 4 n (S.val r)))])), (some (.box t_api_Span [(.p (.int .i64 lo)), (.p (.int .i64 hi))])), (some (.box t_api_Reading [(.p (.int .i64 (r i 0))), (.p (.int .i64 (r i 1))), (.p (.int .i64 (r i 2))), (.p (.int .i64 (r i 3)))]))]⟩))
  (Q .ret ⟨(.nd (.nd (.nd (.nd (.nd (.nd .lf (.c (.p (.int .i64 ((i : Nat) : Int)))) .lf) .any .lf) .any .lf) .any (.nd (.nd (.nd .lf (.ag [(.p (.int .i64 (r i 0))), (.p (.int .i64 (r i 1))), (.p (.int .i64 (r i 2))), (.p (.int .i64 (r i 3)))]) .lf) .any .lf) .any .lf)) .any (.nd (.nd (.nd (.nd .lf (.c (.p (.ipt 4 (S.val r i)))) .lf) .any .lf) .any .lf) .any (.nd (.nd (.nd .lf (.c (.p (.bool true))) .lf) .any .lf) .any (.nd .lf (.c (.p (.isl 4 n (S.val r)))) .lf)))) .any (.nd (.nd (.nd (.nd (.nd .lf (.c (.p (.bool true))) .lf) .any .lf) .any .lf) (.c (.p (.bool false))) (.nd (.nd (.nd .lf (.c (.p (.bool false))) .lf) .any .lf) .any .lf)) .any (.nd (.nd (.nd (.nd .lf (.ag [(.p (.int .i64 (r i 0))), (.p (.int .i64 (r i 1))), (.p (.int .i64 (r i 2))), (.p (.int .i64 (r i 3)))]) .lf) .any .lf) .any .lf) (.c (.pt 2 0)) (.nd .lf .any (.nd .lf (.c (.p (.int .i64 ((n : Nat) : Int)))) .lf))))), [(some (.box t_api_Gauge [(.p (.int .i64 ra)), (.p (.int .i64 le)), (.p (.int .i64 mo)), (.p (.isl 4 n (S.val r)))])), (some (.box t_api_Span [(.p (.int .i64 lo)), (.p (.int .i64 hi))])), (some (.box t_api_Reading [(.p (.int .i64 (r i 0))), (.p (.int .i64 (r i 1))), (.p (.int .i64 (r i 2))), (.p (.int .i64 (r i 3)))]))]⟩))))
 (Q (.exit 0) ⟨(.nd (.nd (.nd (.nd (.nd (.nd .lf (.c (.p (.int .i64 ((i : Nat) : Int)))) .lf) .any .lf) .any .lf) .any .lf) .any (.nd .lf .any (.nd .lf .any (.nd .lf (.c (.p (.isl 4 n (S.val r)))) .lf)))) .any (.nd (.nd (.nd (.nd (.nd .lf (.c (.p (.bool false))) .lf) .any .lf) .any .lf) .any .lf) .any (.nd .lf .any (.nd .lf .any (.nd .lf (.c (.p (.int .i64 ((n : Nat) : Int)))) .lf))))), [(some (.box t_api_Gauge [(.p (.int .i64 ra)), (.p (.int .i64 le)), (.p (.int .i64 mo)), (.p (.isl 4 n (S.val r)))])), (some (.box t_api_Span [(.p (.int .i64 lo)), (.p (.int .i64 hi))]))]⟩))) = (ex (cs hbs) (fu + 60) 0 m_water_gaugeFine_l1 ⟨setAll [(.o (.i (.i (.i .h))), .c (.p (.isl 4 n (S.val r)))), (.i (.i (.i (.i .h))), .c (.p (.int .i64 n))), (.o (.o (.o (.o (.o .h)))), .c (.p (.int .i64 i)))], [some (.box t_api_Gauge (gC ra le mo n (S.val r))), some (.box t_api_Span [.p (.int .i64 lo), .p (.int .i64 hi)])]⟩ (fun e s => .pr (Q e s))).hold2 := by kernel_rfl
theorem vc_water_Known (ra le mo : Int) (n : Nat) (r : S.Rows) (Q : AV → Heap → Prop) :
 (((FCall (cs hbs) f_water_gaugeFine [(.ag [(.p (.int .i64 ra)), (.p (.int .i64 le)), (.p (.int .i64 mo)), (.p (.isl 4 n (S.val r)))]), (.ag [(.p (.int .i64 (-(100000 : Int)))), (.p (.int .i64 (100000 : Int)))])] (.c (.p (.bool (S.ggB ra le mo n r (-(100000 : Int)) (100000 : Int))))) []) ∧
 (BrP (S.ggB ra le mo n r (-(100000 : Int)) (100000 : Int))
 (Q (.c (.p (.int .i64 (0 : Int)))) [(some (.box t_api_Gauge [(.p (.int .i64 ra)), (.p (.int .i64 le)), (.p (.int .i64 mo)), (.p (.isl 4 n (S.val r)))]))])
 (Q (.c (.p (.int .i64 (2 : Int)))) [(some (.box t_api_Gauge [(.p (.int .i64 ra)), (.p (.int .i64 le)), (.p (.int .i64 mo)), (.p (.isl 4 n (S.val r)))]))])))) = (ex (cs hbs) 1000 0 m_water_Known ⟨ofL 0 [.ag (gC ra le mo n (S.val r))] .lf, []⟩ (endK F_water_Known.rs (fun r H => .pr (Q r H)) fun _ _ => .no)).hold2 := by kernel_rfl
theorem vc_ref01_Gauge (ra le mo : Int) (n : Nat) (r : S.Rows) (Q : AV → Heap → Prop) :
 (((LoopGo (ex (cs hbs) 995) 0 m_ref01_Gauge_l1 ⟨(.nd (.nd (.nd .lf (.c (.p (.int .i64 (0 : Int)))) .lf) (.c (.pt 0 0)) .lf) (.ag [(.p (.int .i64 ra)), (.p (.int .i64 le)), (.p (.int .i64 mo)), (.p (.isl 4 n (S.val r)))]) (.nd .lf (.c (.p (.bool false))) .lf)), [(some (.box t_api_Gauge [(.p (.int .i64 ra)), (.p (.int .i64 le)), (.p (.int .i64 mo)), (.p (.isl 4 n (S.val r)))]))]⟩ (.br (S.from_ (S.rdAt r) n 0) (.e (.exit 0) ⟨(.nd (.nd .lf (.c (.pt 0 0)) .lf) .any .lf), [(some (.box t_api_Gauge [(.p (.int .i64 ra)), (.p (.int .i64 le)), (.p (.int .i64 mo)), (.p (.isl 4 n (S.val r)))]))]⟩) (.e .ret ⟨(.nd .lf .any (.nd .lf (.c (.p (.bool false))) .lf)), [(some (.box t_api_Gauge [(.p (.int .i64 ra)), (.p (.int .i64 le)), (.p (.int .i64 mo)), (.p (.isl 4 n (S.val r)))]))]⟩))) ∧
 (BrP (S.from_ (S.rdAt r) n 0)
 ((FCall (cs hbs) f_ref01_in [(.c (.p (.int .i64 ra))), (.c (.p (.int .i64 (0 : Int)))), (.c (.p (.int .i64 (1000 : Int))))] (.c (.p (.bool (S.inB (0 : Int) ra (1000 : Int))))) []) ∧
  (BrP (S.inB (0 : Int) ra (1000 : Int))
  ((FCall (cs hbs) f_ref01_Span [(.ag [(.p (.int .i64 le)), (.p (.int .i64 mo))]), (.c (.p (.int .i64 (-(100000 : Int))))), (.c (.p (.int .i64 (100000 : Int))))] (.c (.p (.bool (S.spB (-(100000 : Int)) le mo (100000 : Int))))) []) ∧
   (BrP (S.spB (-(100000 : Int)) le mo (100000 : Int))
   (BrP (decide (((n : Nat) : Int) ≤ (30 : Int)))
    (Q (.c (.p (.bool true))) [(some (.box t_api_Gauge [(.p (.int .i64 ra)), (.p (.int .i64 le)), (.p (.int .i64 mo)), (.p (.isl 4 n (S.val r)))]))])
    (Q (.c (.p (.bool false))) [(some (.box t_api_Gauge [(.p (.int .i64 ra)), (.p (.int .i64 le)), (.p (.int .i64 mo)), (.p (.isl 4 n (S.val r)))]))]))
   (Q (.c (.p (.bool false))) [(some (.box t_api_Gauge [(.p (.int .i64 ra)), (.p (.int .i64 le)), (.p (.int .i64 mo)), (.p (.isl 4 n (S.val r)))]))])))
  (Q (.c (.p (.bool false))) [(some (.box t_api_Gauge [(.p (.int .i64 ra)), (.p (.int .i64 le)), (.p (.int .i64 mo)), (.p (.isl 4 n (S.val r)))]))])))
 (Q (.c (.p (.bool false))) [(some (.box t_api_Gauge [(.p (.int .i64 ra)), (.p (.int .i64 le)), (.p (.int .i64 mo)), (.p (.isl 4 n (S.val r)))]))])))) = (ex (cs hbs) 1000 0 m_ref01_Gauge ⟨ofL 0 [.ag (gC ra le mo n (S.val r))] .lf, []⟩ (endK F_ref01_Gauge.rs (fun r H => .pr (Q r H)) fun _ _ => .no)).hold2 := by kernel_rfl
theorem vs_ref01_Gauge (fu i : Nat) (ra le mo : Int) (n : Nat) (r : S.Rows) (Q : AX → St → Prop) :
 ((BrP (decide (((i : Nat) : Int) < ((n : Nat) : Int)))
 (CdP (.rng ((i : Nat) : Int) n)
  ((FCall (cs hbs) f_ref01_in [(.c (.p (.int .i64 (r i 0)))), (.c (.p (.int .i64 (0 : Int)))), (.c (.p (.int .i64 (1440 : Int))))] (.c (.p (.bool (S.inB (0 : Int) (r i 0) (1440 : Int))))) []) ∧
  (BrP (S.inB (0 : Int) (r i 0) (1440 : Int))
  ((FCall (cs hbs) f_ref01_Span [(.ag [(.p (.int .i64 (r i 1))), (.p (.int .i64 (r i 2)))]), (.c (.p (.int .i64 (-(100000 : Int))))), (.c (.p (.int .i64 (100000 : Int))))] (.c (.p (.bool (S.spB (-(100000 : Int)) (r i 1) (r i 2) (100000 : Int))))) []) ∧
   (BrP (S.spB (-(100000 : Int)) (r i 1) (r i 2) (100000 : Int))
   ((FCall (cs hbs) f_ref01_in [(.c (.p (.int .i64 (r i 3)))), (.c (.p (.int .i64 (0 : Int)))), (.c (.p (.int .i64 (7 : Int))))] (.c (.p (.bool (S.inB (0 : Int) (r i 3) (7 : Int))))) []) ∧
    (BrP (S.inB (0 : Int) (r i 3) (7 : Int))
    (CdP (.i64 (((i : Nat) : Int) + (1 : Int)))
     (Q .normal ⟨(.nd (.nd (.nd (.nd (.nd (.nd .lf (.c (.p (.bool false))) .lf) (.c (.p (.ipt 4 (S.val r i)))) .lf) (.c (.p (.isl 4 n (S.val r)))) (.nd .lf (.ag [(.p (.int .i64 (r i 1))), (.p (.int .i64 (r i 2)))]) .lf)) (.c (.p (.int .i64 (((i : Nat) : Int) + (1 : Int))))) (.nd (.nd .lf (.c (.p (.bool true))) .lf) (.c (.p (.int .i64 (((i : Nat) : Int) + (1 : Int))))) (.nd .lf (.c (.p (.bool false))) .lf))) (.c (.pt 0 0)) (.nd (.nd (.nd .lf (.c (.pt 1 0)) .lf) (.c (.p (.bool true))) (.nd .lf (.c (.p (.bool false))) .lf)) (.c (.p (.int .i64 ((i : Nat) : Int)))) (.nd (.nd .lf (.c (.p (.bool false))) .lf) (.c (.p (.isl 4 n (S.val r)))) (.nd .lf (.c (.p (.int .i64 (r i 3)))) .lf)))) .any (.nd (.nd (.nd (.nd (.nd .lf (.c (.p (.bool false))) .lf) (.ag [(.p (.int .i64 (r i 0))), (.p (.int .i64 (r i 1))), (.p (.int .i64 (r i 2))), (.p (.int .i64 (r i 3)))]) .lf) (.c (.p (.int .i64 ((n : Nat) : Int)))) (.nd .lf (.c (.p (.bool true))) .lf)) (.c (.pt 1 0)) (.nd (.nd .lf (.c (.p (.bool false))) .lf) (.c (.pt 0 3)) (.nd .lf (.c (.pt 1 3)) .lf))) .any (.nd (.nd (.nd .lf (.c (.p (.int .i64 (r i 0)))) .lf) (.c (.p (.int .i64 ((i : Nat) : Int)))) (.nd .lf (.c (.p (.bool false))) .lf)) (.c (.pt 0 3)) (.nd (.nd .lf (.c (.pt 1 1)) .lf) (.c (.p (.int .i64 ((i : Nat) : Int)))) (.nd .lf (.c (.p (.bool true))) .lf))))), [(some (.box t_api_Gauge [(.p (.int .i64 ra)), (.p (.int .i64 le)), (.p (.int .i64 mo)), (.p (.isl 4 n (S.val r)))])), (some (.box t_api_Reading [(.p (.int .i64 (r i 0))), (.p (.int .i64 (r i 1))), (.p (.int .i64 (r i 2))), (.p (.int .i64 (r i 3)))]))]⟩))
    (Q .ret ⟨(.nd (.nd (.nd (.nd (.nd (.nd .lf (.c (.p (.bool true))) .lf) (.c (.p (.ipt 4 (S.val r i)))) .lf) (.c (.p (.isl 4 n (S.val r)))) (.nd .lf (.ag [(.p (.int .i64 (r i 1))), (.p (.int .i64 (r i 2)))]) .lf)) (.c (.p (.int .i64 ((i : Nat) : Int)))) (.nd (.nd .lf (.c (.p (.bool true))) .lf) .any (.nd .lf (.c (.p (.bool false))) .lf))) (.c (.pt 0 0)) (.nd (.nd (.nd .lf (.c (.pt 1 0)) .lf) (.c (.p (.bool true))) (.nd .lf (.c (.p (.bool false))) .lf)) (.c (.p (.int .i64 ((i : Nat) : Int)))) (.nd (.nd .lf (.c (.p (.bool false))) .lf) (.c (.p (.isl 4 n (S.val r)))) (.nd .lf (.c (.p (.int .i64 (r i 3)))) .lf)))) .any (.nd (.nd (.nd (.nd (.nd .lf (.c (.p (.bool true))) .lf) (.ag [(.p (.int .i64 (r i 0))), (.p (.int .i64 (r i 1))), (.p (.int .i64 (r i 2))), (.p (.int .i64 (r i 3)))]) .lf) (.c (.p (.int .i64 ((n : Nat) : Int)))) (.nd .lf (.c (.p (.bool true))) .lf)) (.c (.pt 1 0)) (.nd (.nd .lf (.c (.p (.bool false))) .lf) (.c (.pt 0 3)) (.nd .lf (.c (.pt 1 3)) .lf))) (.c (.p (.bool false))) (.nd (.nd (.nd .lf (.c (.p (.int .i64 (r i 0)))) .lf) .any (.nd .lf (.c (.p (.bool false))) .lf)) (.c (.pt 0 3)) (.nd (.nd .lf (.c (.pt 1 1)) .lf) (.c (.p (.int .i64 ((i : Nat) : Int)))) (.nd .lf (.c (.p (.bool false))) .lf))))), [(some (.box t_api_Gauge [(.p (.int .i64 ra)), (.p (.int .i64 le)), (.p (.int .i64 mo)), (.p (.isl 4 n (S.val r)))])), (some (.box t_api_Reading [(.p (.int .i64 (r i 0))), (.p (.int .i64 (r i 1))), (.p (.int .i64 (r i 2))), (.p (.int .i64 (r i 3)))]))]⟩)))
   (Q .ret ⟨(.nd (.nd (.nd (.nd (.nd (.nd .lf (.tp []) .lf) (.c (.p (.ipt 4 (S.val r i)))) .lf) (.c (.p (.isl 4 n (S.val r)))) (.nd .lf (.ag [(.p (.int .i64 (r i 1))), (.p (.int .i64 (r i 2)))]) .lf)) (.c (.p (.int .i64 ((i : Nat) : Int)))) (.nd (.nd .lf (.c (.p (.bool true))) .lf) .any (.nd .lf (.c (.p (.bool true))) .lf))) (.c (.pt 0 0)) (.nd (.nd (.nd .lf (.c (.pt 1 0)) .lf) (.c (.p (.bool true))) (.nd .lf (.c (.p (.bool true))) .lf)) (.c (.p (.int .i64 ((i : Nat) : Int)))) (.nd (.nd .lf (.c (.p (.bool false))) .lf) (.c (.p (.isl 4 n (S.val r)))) (.nd .lf (.tp []) .lf)))) .any (.nd (.nd (.nd (.nd (.nd .lf (.c (.p (.bool true))) .lf) (.ag [(.p (.int .i64 (r i 0))), (.p (.int .i64 (r i 1))), (.p (.int .i64 (r i 2))), (.p (.int .i64 (r i 3)))]) .lf) (.c (.p (.int .i64 ((n : Nat) : Int)))) (.nd .lf (.c (.p (.bool false))) .lf)) (.c (.pt 1 0)) (.nd (.nd .lf (.c (.p (.bool false))) .lf) (.c (.pt 0 3)) (.nd .lf (.tp []) .lf))) (.c (.p (.bool false))) (.nd (.nd (.nd .lf (.c (.p (.int .i64 (r i 0)))) .lf) .any (.nd .lf (.c (.p (.bool true))) .lf)) (.c (.pt 0 3)) (.nd (.nd .lf (.c (.pt 1 1)) .lf) (.c (.p (.int .i64 ((i : Nat) : Int)))) (.nd .lf (.tp []) .lf))))), [(some (.box t_api_Gauge [(.p (.int .i64 ra)), (.p (.int .i64 le)), (.p (.int .i64 mo)), (.p (.isl 4 n (S.val r)))])), (some (.box t_api_Reading [(.p (.int .i64 (r i 0))), (.p (.int .i64 (r i 1))), (.p (.int .i64 (r i 2))), (.p (.int .i64 (r i 3)))]))]⟩)))
  (Q .ret ⟨(.nd (.nd (.nd (.nd (.nd (.nd .lf (.tp []) .lf) (.c (.p (.ipt 4 (S.val r i)))) .lf) (.c (.p (.isl 4 n (S.val r)))) (.nd .lf (.tp []) .lf)) (.c (.p (.int .i64 ((i : Nat) : Int)))) (.nd (.nd .lf (.c (.p (.bool false))) .lf) .any (.nd .lf (.c (.p (.bool true))) .lf))) (.c (.pt 0 0)) (.nd (.nd (.nd .lf (.c (.pt 1 0)) .lf) (.c (.p (.bool true))) (.nd .lf (.tp []) .lf)) (.c (.p (.int .i64 ((i : Nat) : Int)))) (.nd (.nd .lf (.c (.p (.bool true))) .lf) (.c (.p (.isl 4 n (S.val r)))) (.nd .lf (.tp []) .lf)))) .any (.nd (.nd (.nd (.nd (.nd .lf (.c (.p (.bool true))) .lf) (.ag [(.p (.int .i64 (r i 0))), (.p (.int .i64 (r i 1))), (.p (.int .i64 (r i 2))), (.p (.int .i64 (r i 3)))]) .lf) (.c (.p (.int .i64 ((n : Nat) : Int)))) (.nd .lf (.tp []) .lf)) (.c (.pt 1 0)) (.nd (.nd .lf (.c (.p (.bool true))) .lf) (.c (.pt 0 3)) (.nd .lf (.tp []) .lf))) (.c (.p (.bool false))) (.nd (.nd (.nd .lf (.c (.p (.int .i64 (r i 0)))) .lf) .any (.nd .lf (.c (.p (.bool true))) .lf)) (.c (.pt 0 3)) (.nd (.nd .lf (.tp []) .lf) (.c (.p (.int .i64 ((i : Nat) : Int)))) (.nd .lf (.tp []) .lf))))), [(some (.box t_api_Gauge [(.p (.int .i64 ra)), (.p (.int .i64 le)), (.p (.int .i64 mo)), (.p (.isl 4 n (S.val r)))])), (some (.box t_api_Reading [(.p (.int .i64 (r i 0))), (.p (.int .i64 (r i 1))), (.p (.int .i64 (r i 2))), (.p (.int .i64 (r i 3)))]))]⟩))))
 (Q (.exit 0) ⟨(.nd (.nd (.nd (.nd .lf (.c (.p (.isl 4 n (S.val r)))) .lf) (.c (.p (.int .i64 ((i : Nat) : Int)))) .lf) (.c (.pt 0 0)) (.nd (.nd .lf (.c (.p (.bool false))) .lf) (.c (.p (.int .i64 ((i : Nat) : Int)))) .lf)) .any (.nd (.nd (.nd .lf (.c (.p (.int .i64 ((n : Nat) : Int)))) .lf) .any .lf) .any (.nd .lf (.c (.pt 0 3)) .lf))), [(some (.box t_api_Gauge [(.p (.int .i64 ra)), (.p (.int .i64 le)), (.p (.int .i64 mo)), (.p (.isl 4 n (S.val r)))]))]⟩))) = (ex (cs hbs) (fu + 60) 0 m_ref01_Gauge_l1 ⟨setAll [(.o .h, .c (.pt 0 0)), (.o (.o .h), .c (.p (.int .i64 i)))], [some (.box t_api_Gauge (gC ra le mo n (S.val r)))]⟩ (fun e s => .pr (Q e s))).hold2 := by kernel_rfl
theorem vc_ref01_Fits (ra le mo : Int) (n : Nat) (r : S.Rows) (m : Nat) (l : S.Rows) (Q : AV → Heap → Prop) :
 ((BrP (((m : Nat) : Int) != (1441 : Int))
 (Q (.c (.p (.bool false))) [(some (.box t_api_Gauge [(.p (.int .i64 ra)), (.p (.int .i64 le)), (.p (.int .i64 mo)), (.p (.isl 4 n (S.val r)))]))])
 ((LoopGo (ex (cs hbs) 994) 0 m_ref01_Fits_l1 ⟨(.nd (.nd .lf (.c (.p (.isl 1 m (S.val l)))) (.nd (.nd .lf (.c (.p (.int .i64 ((m : Nat) : Int)))) .lf) (.c (.p (.int .i64 (0 : Int)))) .lf)) (.ag [(.p (.int .i64 ra)), (.p (.int .i64 le)), (.p (.int .i64 mo)), (.p (.isl 4 n (S.val r)))]) (.nd (.nd (.nd .lf (.c (.p (.isl 1 m (S.val l)))) .lf) (.c (.p (.bool false))) .lf) (.c (.pt 0 0)) (.nd (.nd .lf (.c (.p (.bool false))) .lf) .any .lf))), [(some (.box t_api_Gauge [(.p (.int .i64 ra)), (.p (.int .i64 le)), (.p (.int .i64 mo)), (.p (.isl 4 n (S.val r)))]))]⟩ (.br (S.from_ (S.crAt ra le mo l) m 0) (.e (.exit 0) ⟨(.nd (.nd .lf (.c (.p (.isl 1 m (S.val l)))) .lf) .any (.nd .lf (.c (.pt 0 0)) .lf)), [(some (.box t_api_Gauge [(.p (.int .i64 ra)), (.p (.int .i64 le)), (.p (.int .i64 mo)), (.p (.isl 4 n (S.val r)))]))]⟩) (.e .ret ⟨(.nd .lf .any (.nd (.nd .lf (.c (.p (.bool false))) .lf) .any .lf)), [(some (.box t_api_Gauge [(.p (.int .i64 ra)), (.p (.int .i64 le)), (.p (.int .i64 mo)), (.p (.isl 4 n (S.val r)))]))]⟩))) ∧
  (BrP (S.from_ (S.crAt ra le mo l) m 0)
  ((LoopGo (ex (cs hbs) 993) 0 m_ref01_Fits_l2 ⟨(.nd (.nd .lf (.c (.p (.isl 1 m (S.val l)))) .lf) .any (.nd .lf (.c (.pt 0 0)) (.nd .lf (.c (.p (.int .i64 (0 : Int)))) .lf))), [(some (.box t_api_Gauge [(.p (.int .i64 ra)), (.p (.int .i64 le)), (.p (.int .i64 mo)), (.p (.isl 4 n (S.val r)))]))]⟩ (.br (S.from_ (S.rfAt r l) n 0) (.e (.exit 2) ⟨.lf, [(some (.box t_api_Gauge [(.p (.int .i64 ra)), (.p (.int .i64 le)), (.p (.int .i64 mo)), (.p (.isl 4 n (S.val r)))]))]⟩) (.e .ret ⟨(.nd .lf .any (.nd (.nd .lf (.c (.p (.bool false))) .lf) .any .lf)), [(some (.box t_api_Gauge [(.p (.int .i64 ra)), (.p (.int .i64 le)), (.p (.int .i64 mo)), (.p (.isl 4 n (S.val r)))]))]⟩))) ∧
   (BrP (S.from_ (S.rfAt r l) n 0)
   (Q (.c (.p (.bool true))) [(some (.box t_api_Gauge [(.p (.int .i64 ra)), (.p (.int .i64 le)), (.p (.int .i64 mo)), (.p (.isl 4 n (S.val r)))]))])
   (Q (.c (.p (.bool false))) [(some (.box t_api_Gauge [(.p (.int .i64 ra)), (.p (.int .i64 le)), (.p (.int .i64 mo)), (.p (.isl 4 n (S.val r)))]))])))
  (Q (.c (.p (.bool false))) [(some (.box t_api_Gauge [(.p (.int .i64 ra)), (.p (.int .i64 le)), (.p (.int .i64 mo)), (.p (.isl 4 n (S.val r)))]))]))))) = (ex (cs hbs) 1000 0 m_ref01_Fits ⟨ofL 0 [.ag (gC ra le mo n (S.val r)), .c (.p (.isl 1 m (S.val l)))] .lf, []⟩ (endK F_ref01_Fits.rs (fun r H => .pr (Q r H)) fun _ _ => .no)).hold2 := by kernel_rfl
theorem vs_ref01_Fits1 (fu i : Nat) (ra le mo : Int) (n : Nat) (r : S.Rows) (m : Nat) (l : S.Rows) (Q : AX → St → Prop) :
 ((BrP (decide (((i : Nat) : Int) < ((m : Nat) : Int)))
 (CdP (.rng ((i : Nat) : Int) m)
  ((FCall (cs hbs) f_ref01_in [(.c (.p (.int .i64 (l i 0)))), (.c (.p (.int .i64 le))), (.c (.p (.int .i64 mo)))] (.c (.p (.bool (S.inB le (l i 0) mo)))) []) ∧
  (BrP (S.inB le (l i 0) mo)
  (BrP (decide (((i : Nat) : Int) > (0 : Int)))
   (CdP (.rng ((i : Nat) : Int) m)
    (CdP (.i64 (((i : Nat) : Int) - (1 : Int)))
    (CdP (.rng (((i : Nat) : Int) - (1 : Int)) m)
    (CdP (.i64 ((l i 0) - (l (Int.toNat (((i : Nat) : Int) - (1 : Int))) 0)))
    (CdP (.i64 ((0 : Int) - ra))
    ((FCall (cs hbs) f_ref01_in [(.c (.p (.int .i64 ((l i 0) - (l (Int.toNat (((i : Nat) : Int) - (1 : Int))) 0))))), (.c (.p (.int .i64 ((0 : Int) - ra)))), (.c (.p (.int .i64 ra)))] (.c (.p (.bool (S.inB ((0 : Int) - ra) ((l i 0) - (l (Int.toNat (((i : Nat) : Int) - (1 : Int))) 0)) ra)))) []) ∧
    (BrP (S.inB ((0 : Int) - ra) ((l i 0) - (l (Int.toNat (((i : Nat) : Int) - (1 : Int))) 0)) ra)
    (CdP (.i64 (((i : Nat) : Int) + (1 : Int)))
     (Q .normal ⟨(.nd (.nd (.nd (.nd (.nd (.nd .lf (.c (.p (.isl 1 m (S.val l)))) .lf) (.c (.p (.int .i64 ((i : Nat) : Int)))) (.nd .lf (.c (.p (.bool false))) .lf)) .any (.nd (.nd .lf (.c (.p (.int .i64 (l (Int.toNat (((i : Nat) : Int) - (1 : Int))) 0)))) .lf) (.c (.pt 0 2)) .lf)) .any (.nd (.nd (.nd .lf (.c (.p (.isl 1 m (S.val l)))) .lf) (.c (.p (.ipt 1 (S.val l i)))) .lf) (.c (.p (.int .i64 ((i : Nat) : Int)))) (.nd (.nd .lf (.c (.p (.int .i64 ((0 : Int) - ra)))) .lf) (.c (.p (.bool false))) .lf))) (.c (.p (.isl 1 m (S.val l)))) (.nd (.nd (.nd (.nd .lf (.c (.p (.ipt 1 (S.val l i)))) .lf) (.c (.p (.isl 1 m (S.val l)))) (.nd .lf (.c (.p (.bool false))) .lf)) .any (.nd (.nd .lf (.c (.pt 0 0)) .lf) (.c (.p (.bool true))) .lf)) (.c (.p (.int .i64 (((i : Nat) : Int) + (1 : Int))))) (.nd (.nd (.nd .lf (.c (.p (.int .i64 (((i : Nat) : Int) - (1 : Int))))) .lf) (.c (.pt 0 1)) .lf) (.c (.p (.int .i64 ((m : Nat) : Int)))) (.nd (.nd .lf (.c (.p (.int .i64 ra))) .lf) (.c (.p (.bool true))) .lf)))) .any (.nd (.nd (.nd (.nd (.nd .lf (.c (.p (.int .i64 ((i : Nat) : Int)))) .lf) (.c (.p (.int .i64 (((i : Nat) : Int) + (1 : Int))))) (.nd .lf (.c (.p (.bool false))) .lf)) .any (.nd (.nd .lf (.c (.p (.int .i64 ((l i 0) - (l (Int.toNat (((i : Nat) : Int) - (1 : Int))) 0))))) .lf) (.c (.p (.int .i64 mo))) .lf)) .any (.nd (.nd (.nd .lf (.c (.p (.int .i64 ((i : Nat) : Int)))) .lf) (.c (.p (.int .i64 (l i 0)))) .lf) (.c (.p (.isl 1 m (S.val l)))) (.nd (.nd .lf (.c (.pt 0 0)) .lf) (.c (.p (.int .i64 ((i : Nat) : Int)))) .lf))) (.c (.pt 0 0)) (.nd (.nd (.nd (.nd .lf (.c (.p (.int .i64 (l i 0)))) .lf) (.c (.p (.int .i64 ((i : Nat) : Int)))) .lf) .any (.nd (.nd .lf (.c (.p (.int .i64 ra))) .lf) (.c (.p (.bool false))) .lf)) .any (.nd (.nd (.nd .lf (.c (.p (.ipt 1 (S.val l (Int.toNat (((i : Nat) : Int) - (1 : Int))))))) .lf) (.c (.p (.int .i64 le))) .lf) (.c (.p (.bool true))) (.nd (.nd .lf (.c (.p (.bool true))) .lf) (.c (.p (.bool true))) .lf))))), [(some (.box t_api_Gauge [(.p (.int .i64 ra)), (.p (.int .i64 le)), (.p (.int .i64 mo)), (.p (.isl 4 n (S.val r)))]))]⟩))
    (Q .ret ⟨(.nd (.nd (.nd (.nd (.nd (.nd .lf (.c (.p (.isl 1 m (S.val l)))) .lf) .any (.nd .lf (.c (.p (.bool true))) .lf)) .any (.nd (.nd .lf (.c (.p (.int .i64 (l (Int.toNat (((i : Nat) : Int) - (1 : Int))) 0)))) .lf) (.c (.pt 0 2)) .lf)) .any (.nd (.nd (.nd .lf (.c (.p (.isl 1 m (S.val l)))) .lf) (.c (.p (.ipt 1 (S.val l i)))) .lf) (.c (.p (.int .i64 ((i : Nat) : Int)))) (.nd (.nd .lf (.c (.p (.int .i64 ((0 : Int) - ra)))) .lf) (.c (.p (.bool false))) .lf))) (.c (.p (.isl 1 m (S.val l)))) (.nd (.nd (.nd (.nd .lf (.c (.p (.ipt 1 (S.val l i)))) .lf) (.c (.p (.isl 1 m (S.val l)))) (.nd .lf (.c (.p (.bool true))) .lf)) .any (.nd (.nd .lf (.c (.pt 0 0)) .lf) (.c (.p (.bool true))) .lf)) (.c (.p (.int .i64 ((i : Nat) : Int)))) (.nd (.nd (.nd .lf (.c (.p (.int .i64 (((i : Nat) : Int) - (1 : Int))))) .lf) (.c (.pt 0 1)) .lf) (.c (.p (.int .i64 ((m : Nat) : Int)))) (.nd (.nd .lf (.c (.p (.int .i64 ra))) .lf) (.c (.p (.bool true))) .lf)))) .any (.nd (.nd (.nd (.nd (.nd .lf (.c (.p (.int .i64 ((i : Nat) : Int)))) .lf) .any (.nd .lf (.c (.p (.bool true))) .lf)) .any (.nd (.nd .lf (.c (.p (.int .i64 ((l i 0) - (l (Int.toNat (((i : Nat) : Int) - (1 : Int))) 0))))) .lf) (.c (.p (.int .i64 mo))) .lf)) (.c (.p (.bool false))) (.nd (.nd (.nd .lf (.c (.p (.int .i64 ((i : Nat) : Int)))) .lf) (.c (.p (.int .i64 (l i 0)))) .lf) (.c (.p (.isl 1 m (S.val l)))) (.nd (.nd .lf (.c (.pt 0 0)) .lf) (.c (.p (.int .i64 ((i : Nat) : Int)))) .lf))) (.c (.pt 0 0)) (.nd (.nd (.nd (.nd .lf (.c (.p (.int .i64 (l i 0)))) .lf) (.c (.p (.int .i64 ((i : Nat) : Int)))) .lf) .any (.nd (.nd .lf (.c (.p (.int .i64 ra))) .lf) (.c (.p (.bool false))) .lf)) .any (.nd (.nd (.nd .lf (.c (.p (.ipt 1 (S.val l (Int.toNat (((i : Nat) : Int) - (1 : Int))))))) .lf) (.c (.p (.int .i64 le))) .lf) (.c (.p (.bool true))) (.nd (.nd .lf (.c (.p (.bool false))) .lf) (.c (.p (.bool true))) .lf))))), [(some (.box t_api_Gauge [(.p (.int .i64 ra)), (.p (.int .i64 le)), (.p (.int .i64 mo)), (.p (.isl 4 n (S.val r)))]))]⟩))))))))
   (CdP (.i64 (((i : Nat) : Int) + (1 : Int)))
    (Q .normal ⟨(.nd (.nd (.nd (.nd (.nd (.nd .lf (.tp []) .lf) (.c (.p (.int .i64 ((i : Nat) : Int)))) (.nd .lf (.tp []) .lf)) .any (.nd (.nd .lf (.tp []) .lf) (.c (.pt 0 2)) .lf)) .any (.nd (.nd (.nd .lf (.tp []) .lf) (.c (.p (.ipt 1 (S.val l i)))) .lf) (.c (.p (.int .i64 ((i : Nat) : Int)))) (.nd (.nd .lf (.tp []) .lf) (.c (.p (.bool false))) .lf))) (.c (.p (.isl 1 m (S.val l)))) (.nd (.nd (.nd (.nd .lf (.tp []) .lf) (.c (.p (.isl 1 m (S.val l)))) (.nd .lf (.c (.p (.bool false))) .lf)) .any (.nd (.nd .lf (.tp []) .lf) (.c (.p (.bool true))) .lf)) (.c (.p (.int .i64 (((i : Nat) : Int) + (1 : Int))))) (.nd (.nd (.nd .lf (.tp []) .lf) (.c (.pt 0 1)) .lf) (.c (.p (.int .i64 ((m : Nat) : Int)))) (.nd (.nd .lf (.tp []) .lf) (.c (.p (.bool false))) .lf)))) .any (.nd (.nd (.nd (.nd (.nd .lf (.tp []) .lf) (.c (.p (.int .i64 (((i : Nat) : Int) + (1 : Int))))) (.nd .lf (.c (.p (.bool false))) .lf)) .any (.nd (.nd .lf (.tp []) .lf) (.c (.p (.int .i64 mo))) .lf)) .any (.nd (.nd (.nd .lf (.tp []) .lf) (.c (.p (.int .i64 (l i 0)))) .lf) (.c (.p (.isl 1 m (S.val l)))) (.nd (.nd .lf (.tp []) .lf) (.c (.p (.int .i64 ((i : Nat) : Int)))) .lf))) (.c (.pt 0 0)) (.nd (.nd (.nd (.nd .lf (.tp []) .lf) (.c (.p (.int .i64 ((i : Nat) : Int)))) .lf) .any (.nd (.nd .lf (.tp []) .lf) (.c (.p (.bool false))) .lf)) .any (.nd (.nd (.nd .lf (.tp []) .lf) (.c (.p (.int .i64 le))) .lf) (.c (.p (.bool true))) (.nd (.nd .lf (.tp []) .lf) (.c (.p (.bool false))) .lf))))), [(some (.box t_api_Gauge [(.p (.int .i64 ra)), (.p (.int .i64 le)), (.p (.int .i64 mo)), (.p (.isl 4 n (S.val r)))]))]⟩)))
  (Q .ret ⟨(.nd (.nd (.nd (.nd (.nd (.nd .lf (.tp []) .lf) .any (.nd .lf (.tp []) .lf)) .any (.nd (.nd .lf (.tp []) .lf) (.c (.pt 0 2)) .lf)) .any (.nd (.nd (.nd .lf (.tp []) .lf) (.c (.p (.ipt 1 (S.val l i)))) .lf) (.c (.p (.int .i64 ((i : Nat) : Int)))) (.nd (.nd .lf (.tp []) .lf) (.c (.p (.bool true))) .lf))) (.c (.p (.isl 1 m (S.val l)))) (.nd (.nd (.nd (.nd .lf (.tp []) .lf) (.c (.p (.isl 1 m (S.val l)))) (.nd .lf (.c (.p (.bool true))) .lf)) .any (.nd (.nd .lf (.tp []) .lf) (.c (.p (.bool false))) .lf)) (.c (.p (.int .i64 ((i : Nat) : Int)))) (.nd (.nd (.nd .lf (.tp []) .lf) (.c (.pt 0 1)) .lf) (.c (.p (.int .i64 ((m : Nat) : Int)))) (.nd (.nd .lf (.tp []) .lf) (.tp []) .lf)))) .any (.nd (.nd (.nd (.nd (.nd .lf (.tp []) .lf) .any (.nd .lf (.tp []) .lf)) .any (.nd (.nd .lf (.tp []) .lf) (.c (.p (.int .i64 mo))) .lf)) (.c (.p (.bool false))) (.nd (.nd (.nd .lf (.tp []) .lf) (.c (.p (.int .i64 (l i 0)))) .lf) (.c (.p (.isl 1 m (S.val l)))) (.nd (.nd .lf (.tp []) .lf) (.tp []) .lf))) (.c (.pt 0 0)) (.nd (.nd (.nd (.nd .lf (.tp []) .lf) (.c (.p (.int .i64 ((i : Nat) : Int)))) .lf) .any (.nd (.nd .lf (.tp []) .lf) (.c (.p (.bool true))) .lf)) .any (.nd (.nd (.nd .lf (.tp []) .lf) (.c (.p (.int .i64 le))) .lf) (.c (.p (.bool true))) (.nd (.nd .lf (.tp []) .lf) (.tp []) .lf))))), [(some (.box t_api_Gauge [(.p (.int .i64 ra)), (.p (.int .i64 le)), (.p (.int .i64 mo)), (.p (.isl 4 n (S.val r)))]))]⟩))))
 (Q (.exit 0) ⟨(.nd (.nd (.nd .lf .any (.nd .lf (.c (.p (.int .i64 ((i : Nat) : Int)))) .lf)) (.c (.p (.isl 1 m (S.val l)))) (.nd .lf (.c (.p (.int .i64 ((i : Nat) : Int)))) (.nd .lf (.c (.p (.int .i64 ((m : Nat) : Int)))) .lf))) .any (.nd (.nd .lf .any (.nd .lf (.c (.p (.isl 1 m (S.val l)))) .lf)) (.c (.pt 0 0)) (.nd .lf .any (.nd .lf (.c (.p (.bool false))) .lf)))), [(some (.box t_api_Gauge [(.p (.int .i64 ra)), (.p (.int .i64 le)), (.p (.int .i64 mo)), (.p (.isl 4 n (S.val r)))]))]⟩))) = (ex (cs hbs) (fu + 60) 0 m_ref01_Fits_l1 ⟨setAll [(.o .h, .c (.p (.isl 1 m (S.val l)))), (.i .h, .c (.pt 0 0)), (.o (.i .h), .c (.p (.int .i64 i)))], [some (.box t_api_Gauge (gC ra le mo n (S.val r)))]⟩ (fun e s => .pr (Q e s))).hold2 := by kernel_rfl
theorem vs_ref01_Fits2 (fu i : Nat) (ra le mo : Int) (n : Nat) (r : S.Rows) (m : Nat) (l : S.Rows) (Q : AX → St → Prop) :
 ((BrP (decide (((i : Nat) : Int) < ((n : Nat) : Int)))
 (CdP (.rng ((i : Nat) : Int) n)
  (CdP (.rng (r i 0) m)
  ((FCall (cs hbs) f_ref01_in [(.c (.p (.int .i64 (l (Int.toNat (r i 0)) 0)))), (.c (.p (.int .i64 (r i 1)))), (.c (.p (.int .i64 (r i 2))))] (.c (.p (.bool (S.inB (r i 1) (l (Int.toNat (r i 0)) 0) (r i 2))))) []) ∧
  (BrP (S.inB (r i 1) (l (Int.toNat (r i 0)) 0) (r i 2))
  (CdP (.i64 (((i : Nat) : Int) + (1 : Int)))
   (Q .normal ⟨(.nd (.nd (.nd (.nd (.nd (.nd (.nd .lf (.c (.pt 1 0)) .lf) .any .lf) .any .lf) (.c (.pt 1 0)) (.nd (.nd (.nd .lf (.c (.pt 1 2)) .lf) .any .lf) .any (.nd .lf (.c (.p (.int .i64 ((i : Nat) : Int)))) .lf))) .any (.nd (.nd (.nd (.nd .lf (.c (.pt 1 1)) .lf) .any .lf) .any (.nd .lf (.c (.pt 0 3)) .lf)) .any (.nd .lf .any (.nd .lf (.c (.p (.int .i64 ((i : Nat) : Int)))) .lf)))) (.c (.p (.isl 1 m (S.val l)))) (.nd (.nd (.nd (.nd (.nd .lf (.c (.p (.ipt 1 (S.val l (Int.toNat (r i 0)))))) .lf) .any .lf) .any .lf) .any (.nd (.nd (.nd .lf (.c (.p (.bool true))) .lf) .any .lf) .any (.nd .lf (.c (.pt 0 3)) .lf))) .any (.nd (.nd (.nd (.nd .lf (.c (.p (.int .i64 (r i 1)))) .lf) .any .lf) .any (.nd .lf (.c (.p (.int .i64 ((n : Nat) : Int)))) .lf)) .any (.nd .lf .any (.nd .lf (.ag [(.p (.int .i64 (r i 0))), (.p (.int .i64 (r i 1))), (.p (.int .i64 (r i 2))), (.p (.int .i64 (r i 3)))]) .lf))))) .any (.nd (.nd (.nd (.nd (.nd (.nd .lf (.c (.p (.int .i64 (r i 0)))) .lf) .any .lf) .any .lf) .any (.nd (.nd (.nd .lf (.c (.p (.int .i64 (r i 2)))) .lf) .any .lf) .any (.nd .lf (.c (.p (.int .i64 (((i : Nat) : Int) + (1 : Int))))) .lf))) .any (.nd (.nd (.nd (.nd .lf (.c (.pt 1 1)) .lf) .any .lf) .any (.nd .lf (.c (.p (.isl 4 n (S.val r)))) .lf)) .any (.nd .lf .any (.nd .lf (.c (.p (.ipt 4 (S.val r i)))) .lf)))) (.c (.pt 0 0)) (.nd (.nd (.nd (.nd (.nd .lf (.c (.p (.int .i64 (l (Int.toNat (r i 0)) 0)))) .lf) .any .lf) .any (.nd .lf (.c (.p (.int .i64 ((i : Nat) : Int)))) .lf)) .any (.nd (.nd (.nd .lf (.c (.p (.bool false))) .lf) .any .lf) .any (.nd .lf (.c (.p (.isl 4 n (S.val r)))) .lf))) (.c (.p (.int .i64 (((i : Nat) : Int) + (1 : Int))))) (.nd (.nd (.nd (.nd .lf (.c (.pt 1 1)) .lf) .any .lf) .any (.nd .lf (.c (.p (.bool true))) .lf)) .any (.nd .lf .any (.nd .lf (.c (.p (.isl 1 m (S.val l)))) .lf)))))), [(some (.box t_api_Gauge [(.p (.int .i64 ra)), (.p (.int .i64 le)), (.p (.int .i64 mo)), (.p (.isl 4 n (S.val r)))])), (some (.box t_api_Reading [(.p (.int .i64 (r i 0))), (.p (.int .i64 (r i 1))), (.p (.int .i64 (r i 2))), (.p (.int .i64 (r i 3)))]))]⟩))
  (Q .ret ⟨(.nd (.nd (.nd (.nd (.nd (.nd (.nd .lf (.c (.pt 1 0)) .lf) .any .lf) .any .lf) (.c (.pt 1 0)) (.nd (.nd (.nd .lf (.c (.pt 1 2)) .lf) .any .lf) .any .lf)) .any (.nd (.nd (.nd (.nd .lf (.c (.pt 1 1)) .lf) .any .lf) .any (.nd .lf (.c (.pt 0 3)) .lf)) .any (.nd .lf .any (.nd .lf (.c (.p (.int .i64 ((i : Nat) : Int)))) .lf)))) (.c (.p (.isl 1 m (S.val l)))) (.nd (.nd (.nd (.nd (.nd .lf (.c (.p (.ipt 1 (S.val l (Int.toNat (r i 0)))))) .lf) .any .lf) .any .lf) .any (.nd (.nd (.nd .lf (.c (.p (.bool false))) .lf) .any .lf) .any (.nd .lf (.c (.pt 0 3)) .lf))) .any (.nd (.nd (.nd (.nd .lf (.c (.p (.int .i64 (r i 1)))) .lf) .any .lf) .any (.nd .lf (.c (.p (.int .i64 ((n : Nat) : Int)))) .lf)) .any (.nd .lf .any (.nd .lf (.ag [(.p (.int .i64 (r i 0))), (.p (.int .i64 (r i 1))), (.p (.int .i64 (r i 2))), (.p (.int .i64 (r i 3)))]) .lf))))) .any (.nd (.nd (.nd (.nd (.nd (.nd .lf (.c (.p (.int .i64 (r i 0)))) .lf) .any .lf) .any .lf) .any (.nd (.nd (.nd .lf (.c (.p (.int .i64 (r i 2)))) .lf) .any .lf) .any .lf)) (.c (.p (.bool false))) (.nd (.nd (.nd (.nd .lf (.c (.pt 1 1)) .lf) .any .lf) .any (.nd .lf (.c (.p (.isl 4 n (S.val r)))) .lf)) .any (.nd .lf .any (.nd .lf (.c (.p (.ipt 4 (S.val r i)))) .lf)))) (.c (.pt 0 0)) (.nd (.nd (.nd (.nd (.nd .lf (.c (.p (.int .i64 (l (Int.toNat (r i 0)) 0)))) .lf) .any .lf) .any (.nd .lf (.c (.p (.int .i64 ((i : Nat) : Int)))) .lf)) .any (.nd (.nd (.nd .lf (.c (.p (.bool true))) .lf) .any .lf) .any (.nd .lf (.c (.p (.isl 4 n (S.val r)))) .lf))) (.c (.p (.int .i64 ((i : Nat) : Int)))) (.nd (.nd (.nd (.nd .lf (.c (.pt 1 1)) .lf) .any .lf) .any (.nd .lf (.c (.p (.bool true))) .lf)) .any (.nd .lf .any (.nd .lf (.c (.p (.isl 1 m (S.val l)))) .lf)))))), [(some (.box t_api_Gauge [(.p (.int .i64 ra)), (.p (.int .i64 le)), (.p (.int .i64 mo)), (.p (.isl 4 n (S.val r)))])), (some (.box t_api_Reading [(.p (.int .i64 (r i 0))), (.p (.int .i64 (r i 1))), (.p (.int .i64 (r i 2))), (.p (.int .i64 (r i 3)))]))]⟩)))))
 (Q (.exit 2) ⟨(.nd (.nd (.nd .lf .any (.nd (.nd .lf .any (.nd .lf (.c (.pt 0 3)) .lf)) .any .lf)) (.c (.p (.isl 1 m (S.val l)))) (.nd .lf .any (.nd (.nd .lf .any (.nd .lf (.c (.p (.int .i64 ((n : Nat) : Int)))) .lf)) .any .lf))) .any (.nd (.nd .lf .any (.nd (.nd .lf .any (.nd .lf (.c (.p (.isl 4 n (S.val r)))) .lf)) .any .lf)) (.c (.pt 0 0)) (.nd (.nd (.nd .lf .any (.nd .lf (.c (.p (.int .i64 ((i : Nat) : Int)))) .lf)) .any .lf) (.c (.p (.int .i64 ((i : Nat) : Int)))) (.nd (.nd .lf .any (.nd .lf (.c (.p (.bool false))) .lf)) .any .lf)))), [(some (.box t_api_Gauge [(.p (.int .i64 ra)), (.p (.int .i64 le)), (.p (.int .i64 mo)), (.p (.isl 4 n (S.val r)))]))]⟩))) = (ex (cs hbs) (fu + 60) 0 m_ref01_Fits_l2 ⟨setAll [(.o .h, .c (.p (.isl 1 m (S.val l)))), (.i .h, .c (.pt 0 0)), (.i (.i .h), .c (.p (.int .i64 i)))], [some (.box t_api_Gauge (gC ra le mo n (S.val r)))]⟩ (fun e s => .pr (Q e s))).hold2 := by kernel_rfl
end
end Go.Ab.B
namespace Go.Ab
theorem frz_b {H : Heap} {b b' : Bool} (h : b' = b) : frzA H (vB b) = some (vB b') := by subst h; rfl
theorem idx_ok {i n : Nat} (h : i < n) : Cd.holds (.rng ((i : Nat) : Int) n) := ⟨by omega, by omega⟩
end Go.Ab
namespace Go.Ab.B
open Go.Proofs
section
variable {hbs : BsOk Tryd.prog} (hT : TabOk (cs hbs))
theorem i64_of {n : Int} (h1 : -9223372036854775808 ≤ n) (h2 : n ≤ 9223372036854775807) : Cd.holds (.i64 n) := ⟨h1, h2⟩
theorem i64_nat {i n : Nat} (h : i < n) (hn : n ≤ maxLen) : Cd.holds (.i64 (((i : Nat) : Int) + 1)) := by simp [maxLen] at hn; exact ⟨by omega, by omega⟩
theorem rng_of {i : Int} {n : Nat} (h1 : 0 ≤ i) (h2 : i < n) : Cd.holds (.rng i n) := ⟨h1, h2⟩
include hT
theorem fc_water_holds (lo hi x : Int) : FCall (cs hbs) f_water_holds [.ag [.p (.int .i64 lo), .p (.int .i64 hi)], .c (.p (.int .i64 x))] (vB (S.inB lo x hi)) [] :=
  fcall_k hT (F := F_water_holds) rfl (vc_water_holds lo hi x _) (brP (fun h1 => brP (fun h2 => frz_b (by simp [S.inB, h1, h2])) fun h2 => frz_b (by simp [S.inB, h1, h2])) fun h1 => frz_b (by simp [S.inB, h1]))
theorem fc_ref01_in (lo hi x : Int) : FCall (cs hbs) f_ref01_in [.c (.p (.int .i64 x)), .c (.p (.int .i64 lo)), .c (.p (.int .i64 hi))] (vB (S.inB lo x hi)) [] :=
  fcall_k hT (F := F_ref01_in) rfl (vc_ref01_in lo hi x _) (brP (fun h1 => brP (fun h2 => frz_b (by simp at h1 h2; simp [S.inB, h1, h2])) fun h2 => frz_b (by simp at h1 h2; simp [S.inB, h1]; omega)) fun h1 => frz_b (by simp at h1; simp [S.inB]; omega))
theorem fc_ref01_Span (l h lo hi : Int) : FCall (cs hbs) f_ref01_Span [.ag [.p (.int .i64 l), .p (.int .i64 h)], .c (.p (.int .i64 lo)), .c (.p (.int .i64 hi))] (vB (S.spB lo l h hi)) [] :=
  fcall_k hT (F := F_ref01_Span) rfl (vc_ref01_Span l h lo hi _) (brP (fun h1 => brP (fun h2 => brP (fun h3 => frz_b (by simp at h1 h2 h3; simp [S.spB]; omega)) fun h3 => frz_b (by simp at h1 h2 h3; simp [S.spB]; omega)) fun h2 => frz_b (by simp at h1 h2; simp [S.spB]; omega)) fun h1 => frz_b (by simp at h1; simp [S.spB]; omega))
theorem fc_water_readingFine (mi l h so : Int) : FCall (cs hbs) f_water_readingFine [.ag [.p (.int .i64 mi), .p (.int .i64 l), .p (.int .i64 h), .p (.int .i64 so)]] (vB (S.rdOk mi l h so)) [] :=
  fcall_k hT (F := F_water_readingFine) rfl (vc_water_readingFine mi l h so _) ⟨fc_water_holds hT _ _ _, brP (fun h1 => brP (fun h2 => brP (fun h3 => brP (fun h4 => ⟨fc_water_holds hT _ _ _, brP (fun h5 => frz_b (by simp only [S.rdOk, S.spB, h1, h2, h3, h4, h5]; rfl)) fun h5 => frz_b (by simp only [S.rdOk, S.spB, h1, h2, h3, h4, h5]; rfl)⟩) fun h4 => frz_b (by simp only [S.rdOk, S.spB, h1, h2, h3, h4]; rfl)) fun h3 => frz_b (by simp only [S.rdOk, S.spB, h1, h2, h3]; rfl)) fun h2 => frz_b (by simp only [S.rdOk, S.spB, h1, h2]; rfl)) fun h1 => frz_b (by simp only [S.rdOk, S.spB, h1]; rfl)⟩
theorem go_water_gaugeFine (fu : Nat) (ra le mo : Int) (n : Nat) (r : S.Rows) (lo hi : Int) (hn : n ≤ maxLen) : ∀ (i : Nat) (st : St), i ≤ n → Has st [(.o (.i (.i (.i .h))), .c (.p (.isl 4 n (S.val r)))), (.i (.i (.i (.i .h))), .c (.p (.int .i64 n))), (.o (.o (.o (.o (.o .h)))), .c (.p (.int .i64 i)))] [some (.box t_api_Gauge (gC ra le mo n (S.val r))), some (.box t_api_Span [.p (.int .i64 lo), .p (.int .i64 hi)])] →
    LoopGo (ex (cs hbs) (fu + 60)) 0 m_water_gaugeFine_l1 st (.br (S.from_ (S.rdAt r) n i) (.e (.exit 0) ⟨.lf, [some (.box t_api_Gauge (gC ra le mo n (S.val r))), some (.box t_api_Span [.p (.int .i64 lo), .p (.int .i64 hi)])]⟩) (.e .ret ⟨setAll [(.i (.o .h), vB false)], [some (.box t_api_Gauge (gC ra le mo n (S.val r))), some (.box t_api_Span [.p (.int .i64 lo), .p (.int .i64 hi)])]⟩)) :=
  loop_k (σ := Nat) (fun i => [(.o (.i (.i (.i .h))), .c (.p (.isl 4 n (S.val r)))), (.i (.i (.i (.i .h))), .c (.p (.int .i64 n))), (.o (.o (.o (.o (.o .h)))), .c (.p (.int .i64 i)))]) (fun _ => [some (.box t_api_Gauge (gC ra le mo n (S.val r))), some (.box t_api_Span [.p (.int .i64 lo), .p (.int .i64 hi)])]) (fun i => i ≤ n) (fun i => n - i)
    (fun i => .br (S.from_ (S.rdAt r) n i) (.e (.exit 0) ⟨.lf, [some (.box t_api_Gauge (gC ra le mo n (S.val r))), some (.box t_api_Span [.p (.int .i64 lo), .p (.int .i64 hi)])]⟩) (.e .ret ⟨setAll [(.i (.o .h), vB false)], [some (.box t_api_Gauge (gC ra le mo n (S.val r))), some (.box t_api_Span [.p (.int .i64 lo), .p (.int .i64 hi)])]⟩)) (fun _ => Nat.zero_le _) _ (fun i Q => vs_water_gaugeFine (hbs := hbs) fu i ra le mo n r lo hi Q) fun i hi' K hL X hX => by
      refine brP (fun h1 => cdP (idx_ok (by simpa using h1)) ⟨fc_water_readingFine hT _ _ _ _, brP (fun h2 => cdP (i64_nat (n := n) (by simpa using h1) hn) ?_) fun h2 => ?_⟩) fun h1 => ?_
      · have hlt : i < n := by simpa using h1
        refine hX (i + 1) _ (by omega) (by omega) (.cons (by kernel_rfl) rfl (.cons (by kernel_rfl) rfl (.cons (by kernel_rfl) rfl (.nil (ex := _) rfl rfl)))) ?_
        have e : S.rdAt r i = true := h2
        rw [S.from_step hlt, e, Bool.true_and] at hL
        exact hL
      · have hlt : i < n := by simpa using h1
        have e : S.rdAt r i = false := h2
        rw [S.from_step hlt, e, Bool.false_and] at hL
        exact Has.out (l := [(.i (.o .h), vB false)]) (.cons (by kernel_rfl) rfl (.nil (ex := _) rfl rfl)) (Nat.zero_le _) hL
      · have hlt : n ≤ i := by simpa using h1
        rw [S.from_end hlt] at hL
        exact Has.out (l := []) (.nil (ex := _) rfl rfl) (Nat.zero_le _) hL
theorem fc_water_gaugeFine (ra le mo : Int) (n : Nat) (r : S.Rows) (lo hi : Int) (hn : n ≤ maxLen) : FCall (cs hbs) f_water_gaugeFine [.ag (gC ra le mo n (S.val r)), .ag [.p (.int .i64 lo), .p (.int .i64 hi)]] (vB (S.ggB ra le mo n r lo hi)) [] :=
  fcall_k hT (F := F_water_gaugeFine) rfl (vc_water_gaugeFine ra le mo n r lo hi _) ⟨fc_water_holds hT _ _ _, brP (fun h1 => brP (fun h3 => brP (fun h4 => brP (fun h5 => brP (fun h6 => frz_b (by
      have h6 : decide ((n : Int) ≤ 30) = false := by simpa using h6
      simp only [S.ggB, h6, Bool.and_false, Bool.false_and]))
    fun h6 => ⟨go_water_gaugeFine hT 934 ra le mo n r lo hi hn 0 _ (Nat.zero_le _) (.cons (by kernel_rfl) rfl (.cons (by kernel_rfl) rfl (.cons (by kernel_rfl) rfl (.nil rfl rfl)))), brP (fun h7 => frz_b (by
      have h6 : decide ((n : Int) ≤ 30) = true := by simpa using h6
      simp only [S.ggB, S.spB, h1, h3, h4, h5, h6, h7]; rfl)) fun h7 => frz_b (by simp only [S.ggB, h7, Bool.and_false])⟩)
    fun h5 => frz_b (by simp only [S.ggB, S.spB, h5, Bool.and_false, Bool.false_and])) fun h4 => frz_b (by simp only [S.ggB, S.spB, h4, Bool.and_false, Bool.false_and])) fun h3 => frz_b (by simp only [S.ggB, S.spB, h3, Bool.and_false, Bool.false_and])) fun h1 => frz_b (by simp only [S.ggB, h1, Bool.and_false, Bool.false_and])⟩
theorem fc_water_Known (ra le mo : Int) (n : Nat) (r : S.Rows) (hn : n ≤ maxLen) : FCall (cs hbs) f_water_Known [.ag (gC ra le mo n (S.val r))] (vI .i64 (S.knE ra le mo n r)) [] :=
  fcall_k hT (F := F_water_Known) rfl (vc_water_Known ra le mo n r _) ⟨fc_water_gaugeFine hT ra le mo n r _ _ hn, brP (fun h1 => by unfold S.knE; rw [h1]; rfl) fun h1 => by unfold S.knE; rw [h1]; rfl⟩
theorem go_ref01_Gauge (fu : Nat) (ra le mo : Int) (n : Nat) (r : S.Rows) (hn : n ≤ maxLen) : ∀ (i : Nat) (st : St), i ≤ n → Has st [(.o .h, .c (.pt 0 0)), (.o (.o .h), .c (.p (.int .i64 i)))] [some (.box t_api_Gauge (gC ra le mo n (S.val r)))] →
    LoopGo (ex (cs hbs) (fu + 60)) 0 m_ref01_Gauge_l1 st (.br (S.from_ (S.rdAt r) n i) (.e (.exit 0) ⟨setAll [(.o .h, .c (.pt 0 0))], [some (.box t_api_Gauge (gC ra le mo n (S.val r)))]⟩) (.e .ret ⟨setAll [(.i .h, vB false)], [some (.box t_api_Gauge (gC ra le mo n (S.val r)))]⟩)) :=
  loop_k (σ := Nat) (fun i => [(.o .h, .c (.pt 0 0)), (.o (.o .h), .c (.p (.int .i64 i)))]) (fun _ => [some (.box t_api_Gauge (gC ra le mo n (S.val r)))]) (fun i => i ≤ n) (fun i => n - i)
    (fun i => .br (S.from_ (S.rdAt r) n i) (.e (.exit 0) ⟨setAll [(.o .h, .c (.pt 0 0))], [some (.box t_api_Gauge (gC ra le mo n (S.val r)))]⟩) (.e .ret ⟨setAll [(.i .h, vB false)], [some (.box t_api_Gauge (gC ra le mo n (S.val r)))]⟩)) (fun _ => Nat.zero_le _) _ (fun i Q => vs_ref01_Gauge (hbs := hbs) fu i ra le mo n r Q) fun i hi' K hL X hX => by
      refine brP (fun h1 => cdP (idx_ok (by simpa using h1)) ⟨fc_ref01_in hT _ _ _, brP (fun h2 => ⟨fc_ref01_Span hT _ _ _ _, brP (fun h3 => ⟨fc_ref01_in hT _ _ _, brP (fun h4 => cdP (i64_nat (n := n) (by simpa using h1) hn) ?_) fun h4 => ?_⟩) fun h3 => ?_⟩) fun h2 => ?_⟩) fun h1 => ?_
      · have hlt : i < n := by simpa using h1
        refine hX (i + 1) _ (by omega) (by omega) (.cons (by kernel_rfl) rfl (.cons (by kernel_rfl) rfl (.nil (ex := _) rfl rfl))) ?_
        have e : S.rdAt r i = true := by simp only [S.rdAt, S.rdOk, h2, h3, h4]; rfl
        rw [S.from_step hlt, e, Bool.true_and] at hL
        exact hL
      · have hlt : i < n := by simpa using h1
        rw [S.from_step hlt, show S.rdAt r i = false by simp only [S.rdAt, S.rdOk, h4, Bool.and_false, Bool.false_and], Bool.false_and] at hL
        exact Has.out (l := [(.i .h, vB false)]) (.cons (by kernel_rfl) rfl (.nil (ex := _) rfl rfl)) (Nat.zero_le _) hL
      · have hlt : i < n := by simpa using h1
        rw [S.from_step hlt, show S.rdAt r i = false by simp only [S.rdAt, S.rdOk, h3, Bool.and_false, Bool.false_and], Bool.false_and] at hL
        exact Has.out (l := [(.i .h, vB false)]) (.cons (by kernel_rfl) rfl (.nil (ex := _) rfl rfl)) (Nat.zero_le _) hL
      · have hlt : i < n := by simpa using h1
        rw [S.from_step hlt, show S.rdAt r i = false by simp only [S.rdAt, S.rdOk, h2, Bool.and_false, Bool.false_and], Bool.false_and] at hL
        exact Has.out (l := [(.i .h, vB false)]) (.cons (by kernel_rfl) rfl (.nil (ex := _) rfl rfl)) (Nat.zero_le _) hL
      · have hlt : n ≤ i := by simpa using h1
        rw [S.from_end hlt] at hL
        exact Has.out (l := [(.o .h, .c (.pt 0 0))]) (.cons (by kernel_rfl) rfl (.nil (ex := _) rfl rfl)) (Nat.zero_le _) hL
theorem fc_ref01_Gauge (ra le mo : Int) (n : Nat) (r : S.Rows) (hn : n ≤ maxLen) : FCall (cs hbs) f_ref01_Gauge [.ag (gC ra le mo n (S.val r))] (vB (S.ggB ra le mo n r (-100000) 100000)) [] :=
  fcall_k hT (F := F_ref01_Gauge) rfl (vc_ref01_Gauge ra le mo n r _) ⟨go_ref01_Gauge hT 935 ra le mo n r hn 0 _ (Nat.zero_le _) (.cons (by kernel_rfl) rfl (.cons (by kernel_rfl) rfl (.nil rfl rfl))), brP (fun h1 => ⟨fc_ref01_in hT _ _ _, brP (fun h2 => ⟨fc_ref01_Span hT _ _ _ _, brP (fun h3 => brP (fun h4 => frz_b (by simp only [S.ggB, h1, h2, h3, h4]; rfl)) fun h4 => frz_b (by simp only [S.ggB, h4, Bool.and_false, Bool.false_and])) fun h3 => frz_b (by simp only [S.ggB, h3, Bool.and_false, Bool.false_and])⟩) fun h2 => frz_b (by simp only [S.ggB, h2, Bool.and_false, Bool.false_and])⟩) fun h1 => frz_b (by simp only [S.ggB, h1, Bool.and_false, Bool.false_and])⟩
theorem go_ref01_Fits1 (fu : Nat) (ra le mo : Int) (n : Nat) (r : S.Rows) (m : Nat) (l : S.Rows) (hg : S.ggB ra le mo n r (-100000) 100000 = true) (hm : m = 1441) : ∀ (i : Nat) (st : St), i ≤ 1441 ∧ (0 < i → le ≤ l (i - 1) 0 ∧ l (i - 1) 0 ≤ mo) → Has st [(.o .h, .c (.p (.isl 1 m (S.val l)))), (.i .h, .c (.pt 0 0)), (.o (.i .h), .c (.p (.int .i64 i)))] [some (.box t_api_Gauge (gC ra le mo n (S.val r)))] →
    LoopGo (ex (cs hbs) (fu + 60)) 0 m_ref01_Fits_l1 st (.br (S.from_ (S.crAt ra le mo l) m i) (.e (.exit 0) ⟨setAll [(.o .h, .c (.p (.isl 1 m (S.val l)))), (.i .h, .c (.pt 0 0))], [some (.box t_api_Gauge (gC ra le mo n (S.val r)))]⟩) (.e .ret ⟨setAll [(.i (.o .h), vB false)], [some (.box t_api_Gauge (gC ra le mo n (S.val r)))]⟩)) :=
  loop_k (σ := Nat) (fun i => [(.o .h, .c (.p (.isl 1 m (S.val l)))), (.i .h, .c (.pt 0 0)), (.o (.i .h), .c (.p (.int .i64 i)))]) (fun _ => [some (.box t_api_Gauge (gC ra le mo n (S.val r)))]) (fun i => i ≤ 1441 ∧ (0 < i → le ≤ l (i - 1) 0 ∧ l (i - 1) 0 ≤ mo)) (fun i => 1441 - i)
    (fun i => .br (S.from_ (S.crAt ra le mo l) m i) (.e (.exit 0) ⟨setAll [(.o .h, .c (.p (.isl 1 m (S.val l)))), (.i .h, .c (.pt 0 0))], [some (.box t_api_Gauge (gC ra le mo n (S.val r)))]⟩) (.e .ret ⟨setAll [(.i (.o .h), vB false)], [some (.box t_api_Gauge (gC ra le mo n (S.val r)))]⟩)) (fun _ => Nat.zero_le _) _ (fun i Q => vs_ref01_Fits1 (hbs := hbs) fu i ra le mo n r m l Q) fun i hi' K hL X hX => by
      obtain ⟨⟨g1, g2⟩, ⟨g3, g4, g5⟩, g6, g7⟩ := S.ggB_in hg
      have et : Int.toNat ((i : Int) - 1) = i - 1 := by omega
      have nx : ∀ st, i < m → S.inB le (l i 0) mo = true → S.crAt ra le mo l i = true → Has st [(.o .h, .c (.p (.isl 1 m (S.val l)))), (.i .h, .c (.pt 0 0)), (.o (.i .h), .c (.p (.int .i64 ((i + 1 : Nat) : Int))))] [some (.box t_api_Gauge (gC ra le mo n (S.val r)))] → X st := fun st hlt e1 e hh => by
        refine hX (i + 1) st (by omega) ⟨by omega, fun _ => S.inB_iff.1 e1⟩ hh ?_
        rw [S.from_step hlt, e, Bool.true_and] at hL
        exact hL
      refine brP (fun h1 => ?_) fun h1 => ?_
      · have hlt : i < m := by simpa using h1
        refine cdP (idx_ok hlt) ⟨fc_ref01_in hT _ _ _, brP (fun h2 => brP (fun h3 => ?_) fun h3 => cdP (i64_of (by omega) (by omega)) ?_) fun h2 => ?_⟩
        · have h3 : 0 < i := by simpa using h3
          have b1 := S.inB_iff.1 h2
          have b2 := hi'.2 h3
          refine cdP (idx_ok hlt) (cdP (i64_of (by omega) (by omega)) (cdP (rng_of (by omega) (by omega)) (cdP (i64_of (by rw [et]; omega) (by rw [et]; omega)) (cdP (i64_of (by omega) (by omega)) ⟨fc_ref01_in hT _ _ _, brP (fun h4 => cdP (i64_of (by omega) (by omega)) ?_) fun h4 => ?_⟩))))
          · refine nx _ hlt h2 (by rw [S.crAt_eq h2 h3]; rw [et, Int.zero_sub] at h4; exact h4) (.cons (by kernel_rfl) rfl (.cons (by kernel_rfl) rfl (.cons (by kernel_rfl) rfl (.nil (ex := _) rfl rfl))))
          · have e : S.crAt ra le mo l i = false := by rw [S.crAt_eq h2 h3]; rw [et, Int.zero_sub] at h4; exact h4
            rw [S.from_step hlt, e, Bool.false_and] at hL
            exact Has.out (l := [(.i (.o .h), vB false)]) (.cons (by kernel_rfl) rfl (.nil (ex := _) rfl rfl)) (Nat.zero_le _) hL
        · have h3 : i = 0 := by simp at h3; omega
          exact nx _ hlt h2 (by simp [S.crAt, h2, h3] at *; exact h2) (.cons (by kernel_rfl) rfl (.cons (by kernel_rfl) rfl (.cons (by kernel_rfl) rfl (.nil (ex := _) rfl rfl))))
        · have e : S.crAt ra le mo l i = false := by simp only [S.crAt, h2, Bool.false_and]
          rw [S.from_step hlt, e, Bool.false_and] at hL
          exact Has.out (l := [(.i (.o .h), vB false)]) (.cons (by kernel_rfl) rfl (.nil (ex := _) rfl rfl)) (Nat.zero_le _) hL
      · have hlt : m ≤ i := by simpa using h1
        rw [S.from_end hlt] at hL
        exact Has.out (l := [(.o .h, .c (.p (.isl 1 m (S.val l)))), (.i .h, .c (.pt 0 0))]) (.cons (by kernel_rfl) rfl (.cons (by kernel_rfl) rfl (.nil (ex := _) rfl rfl))) (Nat.zero_le _) hL
theorem go_ref01_Fits2 (fu : Nat) (ra le mo : Int) (n : Nat) (r : S.Rows) (m : Nat) (l : S.Rows) (hg : S.ggB ra le mo n r (-100000) 100000 = true) (hm : m = 1441) : ∀ (i : Nat) (st : St), i ≤ n → Has st [(.o .h, .c (.p (.isl 1 m (S.val l)))), (.i .h, .c (.pt 0 0)), (.i (.i .h), .c (.p (.int .i64 i)))] [some (.box t_api_Gauge (gC ra le mo n (S.val r)))] →
    LoopGo (ex (cs hbs) (fu + 60)) 0 m_ref01_Fits_l2 st (.br (S.from_ (S.rfAt r l) n i) (.e (.exit 2) ⟨.lf, [some (.box t_api_Gauge (gC ra le mo n (S.val r)))]⟩) (.e .ret ⟨setAll [(.i (.o .h), vB false)], [some (.box t_api_Gauge (gC ra le mo n (S.val r)))]⟩)) :=
  loop_k (σ := Nat) (fun i => [(.o .h, .c (.p (.isl 1 m (S.val l)))), (.i .h, .c (.pt 0 0)), (.i (.i .h), .c (.p (.int .i64 i)))]) (fun _ => [some (.box t_api_Gauge (gC ra le mo n (S.val r)))]) (fun i => i ≤ n) (fun i => n - i)
    (fun i => .br (S.from_ (S.rfAt r l) n i) (.e (.exit 2) ⟨.lf, [some (.box t_api_Gauge (gC ra le mo n (S.val r)))]⟩) (.e .ret ⟨setAll [(.i (.o .h), vB false)], [some (.box t_api_Gauge (gC ra le mo n (S.val r)))]⟩)) (fun _ => Nat.zero_le _) _ (fun i Q => vs_ref01_Fits2 (hbs := hbs) fu i ra le mo n r m l Q) fun i hi' K hL X hX => by
      obtain ⟨_, _, g6, g7⟩ := S.ggB_in hg
      refine brP (fun h1 => ?_) fun h1 => ?_
      · have hlt : i < n := by simpa using h1
        have b := g7 i hlt
        refine cdP (idx_ok hlt) (cdP (rng_of (by omega) (by omega)) ⟨fc_ref01_in hT _ _ _, brP (fun h2 => cdP (i64_of (by omega) (by omega)) ?_) fun h2 => ?_⟩)
        · refine hX (i + 1) _ (by omega) (by omega) (.cons (by kernel_rfl) rfl (.cons (by kernel_rfl) rfl (.cons (by kernel_rfl) rfl (.nil (ex := _) rfl rfl)))) ?_
          have e : S.rfAt r l i = true := h2
          rw [S.from_step hlt, e, Bool.true_and] at hL
          exact hL
        · have e : S.rfAt r l i = false := h2
          rw [S.from_step hlt, e, Bool.false_and] at hL
          exact Has.out (l := [(.i (.o .h), vB false)]) (.cons (by kernel_rfl) rfl (.nil (ex := _) rfl rfl)) (Nat.zero_le _) hL
      · have hlt : n ≤ i := by simpa using h1
        rw [S.from_end hlt] at hL
        exact Has.out (l := []) (.nil (ex := _) rfl rfl) (Nat.zero_le _) hL
theorem fc_ref01_Fits (ra le mo : Int) (n : Nat) (r : S.Rows) (m : Nat) (l : S.Rows) (hg : S.ggB ra le mo n r (-100000) 100000 = true) : FCall (cs hbs) f_ref01_Fits [.ag (gC ra le mo n (S.val r)), .c (.p (.isl 1 m (S.val l)))] (vB (S.fit ra le mo n r m l)) [] :=
  fcall_k hT (F := F_ref01_Fits) rfl (vc_ref01_Fits ra le mo n r m l _) (brP (fun h1 => frz_b (by
      have h1 : decide (m = 1441) = false := by simp at h1; exact decide_eq_false (by omega)
      simp only [S.fit, h1, Bool.false_and])) fun h1 => by
    have hm : m = 1441 := by simp at h1; omega
    refine ⟨go_ref01_Fits1 hT 934 ra le mo n r m l hg hm 0 _ ⟨by omega, fun h => absurd h (by omega)⟩ (.cons (by kernel_rfl) rfl (.cons (by kernel_rfl) rfl (.cons (by kernel_rfl) rfl (.nil rfl rfl)))), brP (fun h2 => ⟨go_ref01_Fits2 hT 933 ra le mo n r m l hg hm 0 _ (Nat.zero_le _) (.cons (by kernel_rfl) rfl (.cons (by kernel_rfl) rfl (.cons (by kernel_rfl) rfl (.nil (ex := _) rfl rfl)))), brP (fun h3 => frz_b ?_) fun h3 => frz_b ?_⟩) fun h2 => frz_b ?_⟩
    · rw [hm] at h2; simp [S.fit, hm, h2, h3]
    · simp [S.fit, h3]
    · rw [hm] at h2; simp [S.fit, h2])
end
end Go.Ab.B
namespace Go.Ab.S
open Go.Ab
def fi (p : Nat → Bool) : Nat → Nat → Nat
  | 0, i => i
  | k + 1, i => match p i with | true => i | false => fi p k (i + 1)
def fiF (p : Nat → Bool) (n i : Nat) : Nat := fi p (n - i) i
theorem fiF_end {p : Nat → Bool} {n i : Nat} (h : n ≤ i) : fiF p n i = i := by unfold fiF; rw [show n - i = 0 by omega]; rfl
theorem fiF_hit {p : Nat → Bool} {n i : Nat} (h : i < n) (hp : p i = true) : fiF p n i = i := by unfold fiF; rw [show n - i = (n - (i + 1)) + 1 by omega]; simp only [fi, hp]
theorem fiF_skip {p : Nat → Bool} {n i : Nat} (h : i < n) (hp : p i = false) : fiF p n i = fiF p n (i + 1) := by
  unfold fiF; rw [show n - i = (n - (i + 1)) + 1 by omega]; simp only [fi, hp]
def clO (le mo : Int) (r : Rows) (i : Nat) : Bool := decide (r i 1 > mo) || decide (r i 2 < le)
def clT (ra : Int) (r : Rows) (i j : Nat) : Bool := decide (r i 1 - r j 2 > ra * (mx (r i 0) (r j 0) - mn (r i 0) (r j 0))) || decide (r j 1 - r i 2 > ra * (mx (r i 0) (r j 0) - mn (r i 0) (r j 0)))
def clP (ra le mo : Int) (r : Rows) (i j : Nat) : Bool := match Nat.beq i j with | true => clO le mo r i | false => clT ra r i j
def paJ (ra le mo : Int) (r : Rows) (n i j : Nat) : Nat := fiF (clP ra le mo r i) n j
def paB (ra le mo : Int) (r : Rows) (n i : Nat) : Bool := decide (paJ ra le mo r n i i < n)
def clI (ra le mo : Int) (r : Rows) (n i : Nat) : Nat := fiF (paB ra le mo r n) n i
def clF (ra le mo : Int) (r : Rows) (n : Nat) : Bool := decide (clI ra le mo r n 0 < n)
def clJ (ra le mo : Int) (r : Rows) (n i : Nat) : Nat := paJ ra le mo r n (clI ra le mo r n i) (clI ra le mo r n i)
def clX (ra le mo : Int) (r : Rows) (n : Nat) : Nat := match clF ra le mo r n with | true => clI ra le mo r n 0 | false => 0
def clY (ra le mo : Int) (r : Rows) (n : Nat) : Nat := match clF ra le mo r n with | true => clJ ra le mo r n 0 | false => 0
def eq2 (a b : Rows) (i : Nat) : Bool := decide (a i 0 = b i 0) && decide (a i 1 = b i 1)
def fo (f : Nat → Int → Int) : Nat → Nat → Int → Int
  | 0, _, x => x
  | k + 1, i, x => fo f k (i + 1) (f i x)
def foF (f : Nat → Int → Int) (n i : Nat) (x : Int) : Int := fo f (n - i) i x
theorem foF_end {f : Nat → Int → Int} {n i : Nat} {x : Int} (h : n ≤ i) : foF f n i x = x := by unfold foF; rw [show n - i = 0 by omega]; rfl
theorem foF_step {f : Nat → Int → Int} {n i : Nat} {x : Int} (h : i < n) : foF f n i x = foF f n (i + 1) (f i x) := by unfold foF; rw [show n - i = (n - (i + 1)) + 1 by omega]; rfl
def fL (ra mi : Int) (r : Rows) (i : Nat) (x : Int) : Int := mx x (r i 1 - ra * (mx (r i 0) mi - mn (r i 0) mi))
def fH (ra mi : Int) (r : Rows) (i : Nat) (x : Int) : Int := mn x (r i 2 + ra * (mx (r i 0) mi - mn (r i 0) mi))
def bdL (ra le : Int) (n : Nat) (r : Rows) (mi : Int) : Int := foF (fL ra mi r) n 0 le
def bdH (ra mo : Int) (n : Nat) (r : Rows) (mi : Int) : Int := foF (fH ra mi r) n 0 mo
def bdR (ra le mo : Int) (n : Nat) (r : Rows) : Rows := fun t j => match j with | 0 => bdL ra le n r t | _ => bdH ra mo n r t
def bN (ra le mo : Int) (n : Nat) (r : Rows) : Nat := match ggB ra le mo n r (-100000) 100000 && !clF ra le mo r n with | true => 1441 | false => 0
def bE (ra le mo : Int) (n : Nat) (r : Rows) : Int := match ggB ra le mo n r (-100000) 100000 with | false => 2 | true => match clF ra le mo r n with | true => 5 | false => 0
def cX (ra le mo : Int) (n : Nat) (r : Rows) : Nat := match ggB ra le mo n r (-100000) 100000 with | false => 0 | true => clX ra le mo r n
def cY (ra le mo : Int) (n : Nat) (r : Rows) : Nat := match ggB ra le mo n r (-100000) 100000 with | false => 0 | true => clY ra le mo r n
def cE (ra le mo : Int) (n : Nat) (r : Rows) : Int := match ggB ra le mo n r (-100000) 100000 with | false => 2 | true => match clF ra le mo r n with | true => 0 | false => 6
def allR (n : Nat) (r : Rows) : Prop := ∀ i, i < n → (0 ≤ r i 0 ∧ r i 0 ≤ 1440) ∧ (-100000 ≤ r i 1 ∧ r i 1 ≤ r i 2 ∧ r i 2 ≤ 100000) ∧ (0 ≤ r i 3 ∧ r i 3 ≤ 7)
theorem ggB_all {ra le mo : Int} {n : Nat} {r : Rows} {lo hi : Int} (h : ggB ra le mo n r lo hi = true) : allR n r := fun i hi => by
  simp only [ggB, Bool.and_eq_true] at h
  have := from_iff.1 h.2 i (Nat.zero_le _) hi
  simp only [rdAt, rdOk, Bool.and_eq_true, inB_iff, spB_iff] at this
  exact ⟨this.1.1, this.1.2, this.2⟩
theorem drift_in {ra a b : Int} (h1 : 0 ≤ ra ∧ ra ≤ 1000) (ha : 0 ≤ a ∧ a ≤ 1440) (hb : 0 ≤ b ∧ b ≤ 1440) : (0 ≤ mx a b - mn a b ∧ mx a b - mn a b ≤ 1440) ∧ -1440000 ≤ ra * (mx a b - mn a b) ∧ ra * (mx a b - mn a b) ≤ 1440000 := by
  have g : 0 ≤ mx a b - mn a b ∧ mx a b - mn a b ≤ 1440 := by unfold mx mn; split <;> split <;> omega
  have := mul_in (a := ra) (b := mx a b - mn a b) (A := 1000) (B := 1440) (by omega) (by omega) (by omega) (by omega)
  exact ⟨g, by omega, by omega⟩
end Go.Ab.S
namespace Go.Ab.B
open Go.Proofs
def vN (n : Nat) : AV := .c (.p (.int .i64 n))
def sp_water_clashes : List AV → Option (AV × Heap)
  | [.ag [.p (.int .i64 ra), .p (.int .i64 le), .p (.int .i64 mo), .p (.isl 4 _ f)], .c (.p (.int .i64 i)), .c (.p (.int .i64 j))] => some (vB (S.clP ra le mo (S.num f) i.toNat j.toNat), [])
  | _ => none
def sp_firstClash : List AV → Option (AV × Heap)
  | [.ag [.p (.int .i64 ra), .p (.int .i64 le), .p (.int .i64 mo), .p (.isl 4 n f)]] => some (.tp [vN (S.clX ra le mo (S.num f) n), vN (S.clY ra le mo (S.num f) n), vB (S.clF ra le mo (S.num f) n)], [])
  | _ => none
def sp_water_hasCourse : List AV → Option (AV × Heap)
  | [.ag [.p (.int .i64 ra), .p (.int .i64 le), .p (.int .i64 mo), .p (.isl 4 n f)]] => some (vB (!S.clF ra le mo (S.num f) n), [])
  | _ => none
def sp_boundsAt : List AV → Option (AV × Heap)
  | [.ag [.p (.int .i64 ra), .p (.int .i64 le), .p (.int .i64 mo), .p (.isl 4 n f)], .c (.p (.int .i64 mi))] => some (.ag [.p (.int .i64 (S.bdL ra le n (S.num f) mi)), .p (.int .i64 (S.bdH ra mo n (S.num f) mi))], [])
  | _ => none
def sp_SameSpans : List AV → Option (AV × Heap)
  | [.c (.p (.isl 2 n f)), .c (.p (.isl 2 m g))] => some (vB (decide (n = m) && S.from_ (S.eq2 (S.num f) (S.num g)) n 0), [])
  | _ => none
def sp_water_Bounds : List AV → Option (AV × Heap)
  | [.ag [.p (.int .i64 ra), .p (.int .i64 le), .p (.int .i64 mo), .p (.isl 4 n f)]] => some (.tp [.c (.p (.isl 2 (S.bN ra le mo n (S.num f)) (S.val (S.bdR ra le mo n (S.num f))))), .c (.p (.int .i64 (S.bE ra le mo n (S.num f))))], [])
  | _ => none
def sp_ref01_Bounds : List AV → Option (AV × Heap)
  | [.ag [.p (.int .i64 ra), .p (.int .i64 le), .p (.int .i64 mo), .p (.isl 4 n f)]] => some (.c (.p (.isl 2 1441 (S.val (S.bdR ra le mo n (S.num f))))), [])
  | _ => none
def sp_water_Clash : List AV → Option (AV × Heap)
  | [.ag [.p (.int .i64 ra), .p (.int .i64 le), .p (.int .i64 mo), .p (.isl 4 n f)]] => some (.tp [vN (S.cX ra le mo n (S.num f)), vN (S.cY ra le mo n (S.num f)), .c (.p (.int .i64 (S.cE ra le mo n (S.num f))))], [])
  | _ => none
def Spb (f : Nat) (l : List AV) : Option (AV × Heap) :=
  bif Nat.beq f f_water_clashes then sp_water_clashes l else bif Nat.beq f f_water_firstClash then sp_firstClash l else bif Nat.beq f f_ref01_Clash then sp_firstClash l else bif Nat.beq f f_water_hasCourse then sp_water_hasCourse l else bif Nat.beq f f_water_boundsAt then sp_boundsAt l else bif Nat.beq f f_ref01_At then sp_boundsAt l else bif Nat.beq f f_ref01_SameSpans then sp_SameSpans l else bif Nat.beq f f_water_Bounds then sp_water_Bounds l else bif Nat.beq f f_ref01_Bounds then sp_ref01_Bounds l else bif Nat.beq f f_water_Clash then sp_water_Clash l else Sp f l
def resC (i j : Nat) : List (Ps × AV) := [(.i .h, vN i), (.o (.o .h), vN j), (.i (.o .h), vB true)]
def lp_water_firstClash (k : Nat) (s : St) : Option LTree :=
  match s.h with
  | [some (.box _ [.p (.int .i64 ra), .p (.int .i64 le), .p (.int .i64 mo), .p (.isl 4 n f)])] => match k with
    | 1 => match Tr.get (.i (.i (.o .h))) s.t with
      | .c (.p (.int .i64 i)) => some (.br (decide (S.clI ra le mo (S.num f) n i.toNat < n)) (.e .ret ⟨setAll (resC (S.clI ra le mo (S.num f) n i.toNat) (S.clJ ra le mo (S.num f) n i.toNat)), s.h⟩) (.e (.exit 0) ⟨.lf, s.h⟩))
      | _ => none
    | _ => match Tr.get (.o (.i .h)) s.t, Tr.get (.i (.i .h)) s.t with
      | .c (.p (.int .i64 i)), .c (.p (.int .i64 j)) => some (.br (decide (S.paJ ra le mo (S.num f) n i.toNat j.toNat < n)) (.e .ret ⟨setAll (resC i.toNat (S.paJ ra le mo (S.num f) n i.toNat j.toNat)), s.h⟩) (.e (.exit 2) ⟨setAll [(.o .h, .c (.pt 0 0)), (.o (.i (.o .h)), vN n), (.i (.i (.o .h)), .c (.p (.int .i64 i)))], s.h⟩))
      | _, _ => none
  | _ => none
def lp_ref01_Clash (k : Nat) (s : St) : Option LTree :=
  match s.h with
  | some (.box t [.p (.int .i64 ra), .p (.int .i64 le), .p (.int .i64 mo), .p (.isl 4 n f)]) :: _ => match k with
    | 1 => match Tr.get (.o (.i .h)) s.t with
      | .c (.p (.int .i64 i)) => some (.br (decide (S.clI ra le mo (S.num f) n i.toNat < n)) (.e .ret ⟨setAll (resC (S.clI ra le mo (S.num f) n i.toNat) (S.clJ ra le mo (S.num f) n i.toNat)), s.h⟩) (.e (.exit 0) ⟨.lf, s.h⟩))
      | _ => none
    | _ => match Tr.get (.o (.i .h)) s.t, Tr.get (.o (.o (.o .h))) s.t with
      | .c (.p (.int .i64 i)), .c (.p (.int .i64 j)) => some (.br (decide (S.paJ ra le mo (S.num f) n i.toNat j.toNat < n)) (.e .ret ⟨setAll (resC i.toNat (S.paJ ra le mo (S.num f) n i.toNat j.toNat)), s.h⟩) (.e (.exit 2) ⟨setAll [(.o .h, .c (.pt 0 0)), (.o (.i .h), .c (.p (.int .i64 i)))], s.h⟩))
      | _, _ => none
  | _ => none
def lp_At (p : Ps) (s : St) : Option LTree :=
  match s.h with
  | [b0, b1, some (.box t [.p (.int .i64 lo), .p (.int .i64 hi)])] => match b0, Tr.get (.o .h) s.t, Tr.get p s.t with
    | some (.box _ [.p (.int .i64 ra), _, _, .p (.isl 4 n f)]), .c (.p (.int .i64 mi)), .c (.p (.int .i64 i)) =>
      some (.e (.exit 0) ⟨setAll [(.i (.o .h), .c (.pt 1 0)), (.o (.i .h), .c (.pt 2 0))], [b0, b1, some (.box t [.p (.int .i64 (S.foF (S.fL ra mi (S.num f)) n i.toNat lo)), .p (.int .i64 (S.foF (S.fH ra mi (S.num f)) n i.toNat hi))])]⟩)
    | _, _, _ => none
  | _ => none
def lp_SameSpans (s : St) : Option LTree :=
  match Tr.get .h s.t, Tr.get (.o .h) s.t, Tr.get (.o (.i .h)) s.t with
  | .c (.p (.isl 2 n f)), .c (.p (.isl 2 _ g)), .c (.p (.int .i64 i)) => some (.br (S.from_ (S.eq2 (S.num f) (S.num g)) n i.toNat) (.e (.exit 0) ⟨.lf, s.h⟩) (.e .ret ⟨setAll [(.i (.o .h), vB false)], s.h⟩))
  | _, _, _ => none
def lp_ref01_Bounds (s : St) : Option LTree :=
  match s.h with
  | b0 :: _ => match b0 with
    | some (.box _ [.p (.int .i64 ra), .p (.int .i64 le), .p (.int .i64 mo), .p (.isl 4 n f)]) =>
      some (.e (.exit 0) ⟨setAll [(.o (.o .h), .c (.sl 1 0 1441))], [b0, some (.arr 2 t_api_Span 1441 (S.val (S.bdR ra le mo n (S.num f))) [])]⟩)
    | _ => none
  | _ => none
def lp_water_minutesB (s : St) : Option LTree :=
  match s.h with
  | b0 :: some (.box tb _) :: some (.lp nt t ps a b .ready) :: _ => match b0 with
    | some (.box _ [.p (.int .i64 ra), .p (.int .i64 le), .p (.int .i64 mo), .p (.isl 4 n f)]) =>
      some (.e (.exit 0) ⟨.lf, [b0, some (.box tb [.sl 3 0 1441]), some (.lp nt t ps a b .ready), some (.arr 2 t_api_Span 1441 (S.val (S.bdR ra le mo n (S.num f))) [])]⟩)
    | _ => none
  | _ => none
def Lpb (n0 : Nat) (a : MC) (s : St) : Option LTree :=
  bif Nat.beq (keyM a 0) key_water_firstClash_l1 then lp_water_firstClash 1 s else bif Nat.beq (keyM a 0) key_water_firstClash_l2 then lp_water_firstClash 2 s else bif Nat.beq (keyM a 0) key_ref01_Clash_l1 then lp_ref01_Clash 1 s else bif Nat.beq (keyM a 0) key_ref01_Clash_l2 then lp_ref01_Clash 2 s else bif Nat.beq (keyM a 0) key_water_boundsAt_l1 then lp_At (.o (.i (.o (.o .h)))) s else bif Nat.beq (keyM a 0) key_ref01_At_l1 then lp_At (.i (.i .h)) s else bif Nat.beq (keyM a 0) key_ref01_SameSpans_l1 then lp_SameSpans s else bif Nat.beq (keyM a 0) key_ref01_Bounds_l1 then lp_ref01_Bounds s else bif Nat.beq (keyM a 0) key_water_minutes_l1 then lp_water_minutesB s else Lp n0 a s
def t20 (ra le mo : Int) (n : Nat) (f : Nat → Nat → PV) (e : Int) : Tr :=
  (.nd (.nd (.nd (.nd .lf (.c (.p (.int .i64 e))) .lf) (.c (.p (.int .i64 0))) (.nd .lf (vB false) .lf)) (.c (.pt 0 0)) (.nd (.nd .lf (.ag (gC ra le mo n f)) .lf) .any .lf)) (.ag (gC ra le mo n f)) (.nd (.nd (.nd .lf (vB false) .lf) (.c (.pt 1 0)) .lf) (.c (.p .nsl)) (.nd (.nd .lf (vB true) .lf) (.ag (gC ra le mo n f)) .lf)))
def cs2 {P : Program} (hbs : BsOk P) : Cfg := { c0 hbs with ur := false, B := fun _ => none, Sp := Spb, Lp := Lpb }
section
variable {hbs : BsOk Tryd.prog}
theorem vc_water_clashes (ra le mo : Int) (n : Nat) (r : S.Rows) (i j : Nat) (Q : AV → Heap → Prop) :
 ((CdP (.rng ((i : Nat) : Int) n)
 (CdP (.rng ((j : Nat) : Int) n)
 (BrP (((i : Nat) : Int) == ((j : Nat) : Int))
 (BrP (decide ((r i 1) > mo))
  (Q (.c (.p (.bool true))) [(some (.box t_api_Gauge [(.p (.int .i64 ra)), (.p (.int .i64 le)), (.p (.int .i64 mo)), (.p (.isl 4 n (S.val r)))])), (some (.box t_api_Reading [(.p (.int .i64 (r i 0))), (.p (.int .i64 (r i 1))), (.p (.int .i64 (r i 2))), (.p (.int .i64 (r i 3)))])), (some (.box t_api_Reading [(.p (.int .i64 (r j 0))), (.p (.int .i64 (r j 1))), (.p (.int .i64 (r j 2))), (.p (.int .i64 (r j 3)))]))])
  (BrP (decide ((r i 2) < le))
   (Q (.c (.p (.bool true))) [(some (.box t_api_Gauge [(.p (.int .i64 ra)), (.p (.int .i64 le)), (.p (.int .i64 mo)), (.p (.isl 4 n (S.val r)))])), (some (.box t_api_Reading [(.p (.int .i64 (r i 0))), (.p (.int .i64 (r i 1))), (.p (.int .i64 (r i 2))), (.p (.int .i64 (r i 3)))])), (some (.box t_api_Reading [(.p (.int .i64 (r j 0))), (.p (.int .i64 (r j 1))), (.p (.int .i64 (r j 2))), (.p (.int .i64 (r j 3)))]))])
   (Q (.c (.p (.bool false))) [(some (.box t_api_Gauge [(.p (.int .i64 ra)), (.p (.int .i64 le)), (.p (.int .i64 mo)), (.p (.isl 4 n (S.val r)))])), (some (.box t_api_Reading [(.p (.int .i64 (r i 0))), (.p (.int .i64 (r i 1))), (.p (.int .i64 (r i 2))), (.p (.int .i64 (r i 3)))])), (some (.box t_api_Reading [(.p (.int .i64 (r j 0))), (.p (.int .i64 (r j 1))), (.p (.int .i64 (r j 2))), (.p (.int .i64 (r j 3)))]))])))
 (CdP (.i64 ((S.mx (r i 0) (r j 0)) - (S.mn (r i 0) (r j 0))))
  (CdP (.i64 (ra * ((S.mx (r i 0) (r j 0)) - (S.mn (r i 0) (r j 0)))))
  (CdP (.i64 ((r i 1) - (r j 2)))
  (BrP (decide (((r i 1) - (r j 2)) > (ra * ((S.mx (r i 0) (r j 0)) - (S.mn (r i 0) (r j 0))))))
  (Q (.c (.p (.bool true))) [(some (.box t_api_Gauge [(.p (.int .i64 ra)), (.p (.int .i64 le)), (.p (.int .i64 mo)), (.p (.isl 4 n (S.val r)))])), (some (.box t_api_Reading [(.p (.int .i64 (r i 0))), (.p (.int .i64 (r i 1))), (.p (.int .i64 (r i 2))), (.p (.int .i64 (r i 3)))])), (some (.box t_api_Reading [(.p (.int .i64 (r j 0))), (.p (.int .i64 (r j 1))), (.p (.int .i64 (r j 2))), (.p (.int .i64 (r j 3)))]))])
  (CdP (.i64 ((r j 1) - (r i 2)))
   (BrP (decide (((r j 1) - (r i 2)) > (ra * ((S.mx (r i 0) (r j 0)) - (S.mn (r i 0) (r j 0))))))
   (Q (.c (.p (.bool true))) [(some (.box t_api_Gauge [(.p (.int .i64 ra)), (.p (.int .i64 le)), (.p (.int .i64 mo)), (.p (.isl 4 n (S.val r)))])), (some (.box t_api_Reading [(.p (.int .i64 (r i 0))), (.p (.int .i64 (r i 1))), (.p (.int .i64 (r i 2))), (.p (.int .i64 (r i 3)))])), (some (.box t_api_Reading [(.p (.int .i64 (r j 0))), (.p (.int .i64 (r j 1))), (.p (.int .i64 (r j 2))), (.p (.int .i64 (r j 3)))]))])
   (Q (.c (.p (.bool false))) [(some (.box t_api_Gauge [(.p (.int .i64 ra)), (.p (.int .i64 le)), (.p (.int .i64 mo)), (.p (.isl 4 n (S.val r)))])), (some (.box t_api_Reading [(.p (.int .i64 (r i 0))), (.p (.int .i64 (r i 1))), (.p (.int .i64 (r i 2))), (.p (.int .i64 (r i 3)))])), (some (.box t_api_Reading [(.p (.int .i64 (r j 0))), (.p (.int .i64 (r j 1))), (.p (.int .i64 (r j 2))), (.p (.int .i64 (r j 3)))]))]))))))))))) = (ex (cs2 hbs) 1000 0 m_water_clashes ⟨ofL 0 [.ag (gC ra le mo n (S.val r)), .c (.p (.int .i64 i)), .c (.p (.int .i64 j))] .lf, []⟩ (endK F_water_clashes.rs (fun r H => .pr (Q r H)) fun _ _ => .no)).hold2 := by kernel_rfl
theorem vc_water_firstClash (ra le mo : Int) (n : Nat) (r : S.Rows) (Q : AV → Heap → Prop) :
 (((LoopGo (ex (cs2 hbs) 995) 0 m_water_firstClash_l1 ⟨(.nd (.nd (.nd (.nd .lf (.c (.pt 0 3)) .lf) (.c (.p (.int .i64 (0 : Int)))) .lf) (.c (.pt 0 0)) (.nd (.nd .lf (.c (.p (.int .i64 ((n : Nat) : Int)))) .lf) .any .lf)) (.ag [(.p (.int .i64 ra)), (.p (.int .i64 le)), (.p (.int .i64 mo)), (.p (.isl 4 n (S.val r)))]) (.nd (.nd (.nd .lf (.c (.p (.isl 4 n (S.val r)))) .lf) (.c (.p (.bool false))) .lf) (.c (.p (.int .i64 (0 : Int)))) (.nd (.nd .lf (.c (.p (.int .i64 (0 : Int)))) .lf) .any .lf))), [(some (.box t_api_Gauge [(.p (.int .i64 ra)), (.p (.int .i64 le)), (.p (.int .i64 mo)), (.p (.isl 4 n (S.val r)))]))]⟩ (.br (decide ((S.clI ra le mo r n 0) < n)) (.e .ret ⟨(.nd (.nd (.nd .lf (.c (.p (.int .i64 (((S.clJ ra le mo r n 0) : Nat) : Int)))) .lf) .any .lf) .any (.nd (.nd .lf (.c (.p (.bool true))) .lf) (.c (.p (.int .i64 (((S.clI ra le mo r n 0) : Nat) : Int)))) .lf)), [(some (.box t_api_Gauge [(.p (.int .i64 ra)), (.p (.int .i64 le)), (.p (.int .i64 mo)), (.p (.isl 4 n (S.val r)))]))]⟩) (.e (.exit 0) ⟨.lf, [(some (.box t_api_Gauge [(.p (.int .i64 ra)), (.p (.int .i64 le)), (.p (.int .i64 mo)), (.p (.isl 4 n (S.val r)))]))]⟩))) ∧
 (BrP (decide ((S.clI ra le mo r n 0) < n))
 (Q (.tp [(.c (.p (.int .i64 (((S.clI ra le mo r n 0) : Nat) : Int)))), (.c (.p (.int .i64 (((S.clJ ra le mo r n 0) : Nat) : Int)))), (.c (.p (.bool true)))]) [(some (.box t_api_Gauge [(.p (.int .i64 ra)), (.p (.int .i64 le)), (.p (.int .i64 mo)), (.p (.isl 4 n (S.val r)))]))])
 (Q (.tp [(.c (.p (.int .i64 (0 : Int)))), (.c (.p (.int .i64 (0 : Int)))), (.c (.p (.bool false)))]) [(some (.box t_api_Gauge [(.p (.int .i64 ra)), (.p (.int .i64 le)), (.p (.int .i64 mo)), (.p (.isl 4 n (S.val r)))]))])))) = (ex (cs2 hbs) 1000 0 m_water_firstClash ⟨ofL 0 [.ag (gC ra le mo n (S.val r))] .lf, []⟩ (endK F_water_firstClash.rs (fun r H => .pr (Q r H)) fun _ _ => .no)).hold2 := by kernel_rfl
theorem vs_water_firstClash1 (fu i : Nat) (ra le mo : Int) (n : Nat) (r : S.Rows) (Q : AX → St → Prop) :
 ((BrP (decide (((i : Nat) : Int) < ((n : Nat) : Int)))
 ((LoopGo (ex (cs2 hbs) (fu + 52)) 0 m_water_firstClash_l2 ⟨(.nd (.nd (.nd .lf .any (.nd .lf (.c (.p (.bool true))) .lf)) (.c (.pt 0 0)) (.nd (.nd .lf (.c (.p (.int .i64 ((n : Nat) : Int)))) .lf) (.c (.p (.int .i64 ((i : Nat) : Int)))) (.nd .lf (.c (.p (.int .i64 ((i : Nat) : Int)))) .lf))) .any (.nd (.nd .lf .any (.nd .lf (.c (.p (.int .i64 ((i : Nat) : Int)))) .lf)) .any (.nd (.nd .lf (.c (.p (.int .i64 ((i : Nat) : Int)))) .lf) (.c (.p (.int .i64 ((i : Nat) : Int)))) .lf))), [(some (.box t_api_Gauge [(.p (.int .i64 ra)), (.p (.int .i64 le)), (.p (.int .i64 mo)), (.p (.isl 4 n (S.val r)))]))]⟩ (.br (decide ((S.paJ ra le mo r n i i) < n)) (.e .ret ⟨(.nd (.nd (.nd .lf (.c (.p (.int .i64 (((S.paJ ra le mo r n i i) : Nat) : Int)))) .lf) .any .lf) .any (.nd (.nd .lf (.c (.p (.bool true))) .lf) (.c (.p (.int .i64 ((i : Nat) : Int)))) .lf)), [(some (.box t_api_Gauge [(.p (.int .i64 ra)), (.p (.int .i64 le)), (.p (.int .i64 mo)), (.p (.isl 4 n (S.val r)))]))]⟩) (.e (.exit 2) ⟨(.nd (.nd .lf (.c (.pt 0 0)) (.nd (.nd .lf (.c (.p (.int .i64 ((n : Nat) : Int)))) .lf) .any .lf)) .any (.nd .lf .any (.nd (.nd .lf (.c (.p (.int .i64 ((i : Nat) : Int)))) .lf) .any .lf))), [(some (.box t_api_Gauge [(.p (.int .i64 ra)), (.p (.int .i64 le)), (.p (.int .i64 mo)), (.p (.isl 4 n (S.val r)))]))]⟩))) ∧
  (BrP (decide ((S.paJ ra le mo r n i i) < n))
  (Q .ret ⟨(.nd (.nd (.nd .lf (.c (.p (.int .i64 (((S.paJ ra le mo r n i i) : Nat) : Int)))) .lf) .any .lf) .any (.nd (.nd .lf (.c (.p (.bool true))) .lf) (.c (.p (.int .i64 ((i : Nat) : Int)))) .lf)), [(some (.box t_api_Gauge [(.p (.int .i64 ra)), (.p (.int .i64 le)), (.p (.int .i64 mo)), (.p (.isl 4 n (S.val r)))]))]⟩)
  (CdP (.i64 (((i : Nat) : Int) + (1 : Int)))
   (Q .normal ⟨(.nd (.nd (.nd .lf .any (.nd .lf .any (.nd .lf (.c (.p (.int .i64 (((i : Nat) : Int) + (1 : Int))))) .lf))) (.c (.pt 0 0)) (.nd (.nd .lf (.c (.p (.int .i64 ((n : Nat) : Int)))) .lf) .any .lf)) .any (.nd .lf .any (.nd (.nd .lf (.c (.p (.int .i64 (((i : Nat) : Int) + (1 : Int))))) .lf) .any .lf))), [(some (.box t_api_Gauge [(.p (.int .i64 ra)), (.p (.int .i64 le)), (.p (.int .i64 mo)), (.p (.isl 4 n (S.val r)))]))]⟩))))
 (Q (.exit 0) ⟨(.nd (.nd (.nd .lf .any (.nd .lf (.c (.p (.bool false))) .lf)) (.c (.pt 0 0)) (.nd (.nd .lf (.c (.p (.int .i64 ((n : Nat) : Int)))) .lf) .any .lf)) .any (.nd .lf .any (.nd (.nd .lf (.c (.p (.int .i64 ((i : Nat) : Int)))) .lf) .any .lf))), [(some (.box t_api_Gauge [(.p (.int .i64 ra)), (.p (.int .i64 le)), (.p (.int .i64 mo)), (.p (.isl 4 n (S.val r)))]))]⟩))) = (ex (cs2 hbs) (fu + 60) 0 m_water_firstClash_l1 ⟨setAll [(.o .h, .c (.pt 0 0)), (.o (.i (.o .h)), .c (.p (.int .i64 n))), (.i (.i (.o .h)), .c (.p (.int .i64 i)))], [some (.box t_api_Gauge (gC ra le mo n (S.val r)))]⟩ (fun e s => .pr (Q e s))).hold2 := by kernel_rfl
theorem vs_water_firstClash2 (fu i j : Nat) (ra le mo : Int) (n : Nat) (r : S.Rows) (Q : AX → St → Prop) :
 ((BrP (decide (((j : Nat) : Int) < ((n : Nat) : Int)))
 ((FCall (cs2 hbs) f_water_clashes [(.ag [(.p (.int .i64 ra)), (.p (.int .i64 le)), (.p (.int .i64 mo)), (.p (.isl 4 n (S.val r)))]), (.c (.p (.int .i64 ((i : Nat) : Int)))), (.c (.p (.int .i64 ((j : Nat) : Int))))] (.c (.p (.bool (S.clP ra le mo r i j)))) []) ∧
  (BrP (S.clP ra le mo r i j)
  (Q .ret ⟨(.nd (.nd (.nd (.nd (.nd .lf (.c (.pt 0 3)) .lf) .any (.nd .lf (.c (.p (.int .i64 ((j : Nat) : Int)))) .lf)) (.c (.p (.int .i64 ((j : Nat) : Int)))) .lf) (.c (.pt 0 0)) (.nd (.nd (.nd .lf (.c (.p (.int .i64 ((n : Nat) : Int)))) .lf) (.c (.p (.int .i64 ((n : Nat) : Int)))) (.nd .lf (.c (.p (.int .i64 ((i : Nat) : Int)))) .lf)) (.c (.p (.int .i64 ((i : Nat) : Int)))) (.nd (.nd .lf (.ag [(.p (.int .i64 ra)), (.p (.int .i64 le)), (.p (.int .i64 mo)), (.p (.isl 4 n (S.val r)))]) .lf) .any .lf))) .any (.nd (.nd (.nd (.nd .lf (.c (.p (.isl 4 n (S.val r)))) .lf) .any (.nd .lf (.c (.p (.bool true))) .lf)) (.c (.p (.bool true))) .lf) (.c (.p (.int .i64 ((i : Nat) : Int)))) (.nd (.nd (.nd .lf (.c (.p (.bool true))) .lf) (.c (.p (.int .i64 ((i : Nat) : Int)))) (.nd .lf (.c (.p (.int .i64 ((j : Nat) : Int)))) .lf)) (.c (.p (.int .i64 ((j : Nat) : Int)))) (.nd (.nd .lf (.c (.p (.int .i64 ((i : Nat) : Int)))) .lf) (.c (.p (.int .i64 ((j : Nat) : Int)))) .lf)))), [(some (.box t_api_Gauge [(.p (.int .i64 ra)), (.p (.int .i64 le)), (.p (.int .i64 mo)), (.p (.isl 4 n (S.val r)))]))]⟩)
  (CdP (.i64 (((j : Nat) : Int) + (1 : Int)))
   (Q .normal ⟨(.nd (.nd (.nd (.nd (.nd .lf (.c (.pt 0 3)) .lf) .any (.nd .lf (.c (.p (.int .i64 ((j : Nat) : Int)))) .lf)) .any (.nd (.nd .lf (.c (.p (.int .i64 ((j : Nat) : Int)))) .lf) .any .lf)) (.c (.pt 0 0)) (.nd (.nd (.nd .lf (.c (.p (.int .i64 ((n : Nat) : Int)))) .lf) (.c (.p (.int .i64 ((n : Nat) : Int)))) .lf) (.c (.p (.int .i64 ((i : Nat) : Int)))) (.nd (.nd .lf (.ag [(.p (.int .i64 ra)), (.p (.int .i64 le)), (.p (.int .i64 mo)), (.p (.isl 4 n (S.val r)))]) .lf) .any .lf))) .any (.nd (.nd (.nd (.nd .lf (.c (.p (.isl 4 n (S.val r)))) .lf) .any (.nd .lf (.c (.p (.bool false))) .lf)) .any (.nd (.nd .lf (.c (.p (.int .i64 (((j : Nat) : Int) + (1 : Int))))) .lf) .any .lf)) .any (.nd (.nd (.nd .lf (.c (.p (.bool true))) .lf) (.c (.p (.int .i64 ((i : Nat) : Int)))) .lf) (.c (.p (.int .i64 (((j : Nat) : Int) + (1 : Int))))) (.nd (.nd .lf (.c (.p (.int .i64 ((i : Nat) : Int)))) .lf) (.c (.p (.int .i64 ((j : Nat) : Int)))) .lf)))), [(some (.box t_api_Gauge [(.p (.int .i64 ra)), (.p (.int .i64 le)), (.p (.int .i64 mo)), (.p (.isl 4 n (S.val r)))]))]⟩))))
 (Q (.exit 2) ⟨(.nd (.nd (.nd (.nd (.nd .lf (.c (.pt 0 3)) .lf) .any .lf) .any .lf) (.c (.pt 0 0)) (.nd (.nd (.nd .lf (.c (.p (.int .i64 ((n : Nat) : Int)))) .lf) (.c (.p (.int .i64 ((n : Nat) : Int)))) .lf) (.c (.p (.int .i64 ((i : Nat) : Int)))) .lf)) .any (.nd (.nd (.nd (.nd .lf (.c (.p (.isl 4 n (S.val r)))) .lf) .any .lf) .any .lf) .any (.nd (.nd (.nd .lf (.c (.p (.bool false))) .lf) (.c (.p (.int .i64 ((i : Nat) : Int)))) .lf) (.c (.p (.int .i64 ((j : Nat) : Int)))) (.nd .lf (.c (.p (.int .i64 ((j : Nat) : Int)))) .lf)))), [(some (.box t_api_Gauge [(.p (.int .i64 ra)), (.p (.int .i64 le)), (.p (.int .i64 mo)), (.p (.isl 4 n (S.val r)))]))]⟩))) = (ex (cs2 hbs) (fu + 60) 0 m_water_firstClash_l2 ⟨setAll [(.o .h, .c (.pt 0 0)), (.o (.i .h), .c (.p (.int .i64 i))), (.o (.i (.o .h)), .c (.p (.int .i64 n))), (.i (.i .h), .c (.p (.int .i64 j))), (.i (.i (.o .h)), .c (.p (.int .i64 i)))], [some (.box t_api_Gauge (gC ra le mo n (S.val r)))]⟩ (fun e s => .pr (Q e s))).hold2 := by kernel_rfl
theorem vc_water_hasCourse (ra le mo : Int) (n : Nat) (r : S.Rows) (Q : AV → Heap → Prop) :
 (((FCall (cs2 hbs) f_water_firstClash [(.ag [(.p (.int .i64 ra)), (.p (.int .i64 le)), (.p (.int .i64 mo)), (.p (.isl 4 n (S.val r)))])] (.tp [(.c (.p (.int .i64 (((S.clX ra le mo r n) : Nat) : Int)))), (.c (.p (.int .i64 (((S.clY ra le mo r n) : Nat) : Int)))), (.c (.p (.bool (S.clF ra le mo r n))))]) []) ∧
 (BrP (S.clF ra le mo r n)
 (Q (.c (.p (.bool false))) [(some (.box t_api_Gauge [(.p (.int .i64 ra)), (.p (.int .i64 le)), (.p (.int .i64 mo)), (.p (.isl 4 n (S.val r)))]))])
 (Q (.c (.p (.bool true))) [(some (.box t_api_Gauge [(.p (.int .i64 ra)), (.p (.int .i64 le)), (.p (.int .i64 mo)), (.p (.isl 4 n (S.val r)))]))])))) = (ex (cs2 hbs) 1000 0 m_water_hasCourse ⟨ofL 0 [.ag (gC ra le mo n (S.val r))] .lf, []⟩ (endK F_water_hasCourse.rs (fun r H => .pr (Q r H)) fun _ _ => .no)).hold2 := by kernel_rfl
end
end Go.Ab.B
namespace Go.Ab.S
theorem gap_two (a b : Int) : mx (a - b) (b - a) = mx a b - mn a b := by unfold mx mn; split <;> split <;> split <;> omega
theorem clP_eq {ra le mo : Int} {r : Rows} (i : Nat) : clP ra le mo r i i = clO le mo r i := by unfold clP; rw [show Nat.beq i i = true from Nat.beq_refl i]
theorem clP_ne {ra le mo : Int} {r : Rows} {i j : Nat} (h : i ≠ j) : clP ra le mo r i j = clT ra r i j := by
  unfold clP
  cases hb : Nat.beq i j with
  | true => exact absurd (Nat.eq_of_beq_eq_true hb) h
  | false => rfl
end Go.Ab.S
namespace Go.Ab.B
open Go.Proofs
section
variable {hbs : BsOk Tryd.prog} (hT2 : TabOk (cs2 hbs))
include hT2
theorem fc_water_clashes (ra le mo : Int) (n : Nat) (r : S.Rows) (i j : Nat) (hi : i < n) (hj : j < n) (hR : S.allR n r) (hra : 0 ≤ ra ∧ ra ≤ 1000) : FCall (cs2 hbs) f_water_clashes [.ag (gC ra le mo n (S.val r)), .c (.p (.int .i64 i)), .c (.p (.int .i64 j))] (vB (S.clP ra le mo r i j)) [] := by
  obtain ⟨a1, a2, a3⟩ := hR i hi
  obtain ⟨b1, b2, b3⟩ := hR j hj
  have d := S.drift_in hra a1 b1
  refine fcall_k hT2 (F := F_water_clashes) rfl (vc_water_clashes ra le mo n r i j _) (cdP (idx_ok hi) (cdP (idx_ok hj) (brP (fun h1 => ?_) fun h1 => ?_)))
  · have e : i = j := by simp at h1; omega
    subst e
    rw [S.clP_eq]
    exact brP (fun h2 => frz_b (by simp only [S.clO, h2, Bool.true_or])) fun h2 => brP (fun h3 => frz_b (by simp only [S.clO, h2, h3]; rfl)) fun h3 => frz_b (by simp only [S.clO, h2, h3]; rfl)
  · have e : i ≠ j := fun e => by subst e; simp at h1
    rw [S.clP_ne e]
    exact cdP (i64_of (by omega) (by omega)) (cdP (i64_of (by omega) (by omega)) (cdP (i64_of (by omega) (by omega)) (brP (fun h2 => frz_b (by simp only [S.clT, h2, Bool.true_or])) fun h2 => cdP (i64_of (by omega) (by omega)) (brP (fun h3 => frz_b (by simp only [S.clT, h2, h3]; rfl)) fun h3 => frz_b (by simp only [S.clT, h2, h3]; rfl)))))
theorem go_water_firstClash2 (fu i : Nat) (ra le mo : Int) (n : Nat) (r : S.Rows) (hn : n ≤ maxLen) (hR : S.allR n r) (hra : 0 ≤ ra ∧ ra ≤ 1000) (hi : i < n) : ∀ (j : Nat) (st : St), j ≤ n → Has st [(.o .h, .c (.pt 0 0)), (.o (.i .h), .c (.p (.int .i64 i))), (.o (.i (.o .h)), .c (.p (.int .i64 n))), (.i (.i .h), .c (.p (.int .i64 j))), (.i (.i (.o .h)), .c (.p (.int .i64 i)))] [some (.box t_api_Gauge (gC ra le mo n (S.val r)))] →
    LoopGo (ex (cs2 hbs) (fu + 60)) 0 m_water_firstClash_l2 st (.br (decide (S.paJ ra le mo r n i j < n)) (.e .ret ⟨setAll (resC i (S.paJ ra le mo r n i j)), [some (.box t_api_Gauge (gC ra le mo n (S.val r)))]⟩) (.e (.exit 2) ⟨setAll [(.o .h, .c (.pt 0 0)), (.o (.i (.o .h)), vN n), (.i (.i (.o .h)), .c (.p (.int .i64 i)))], [some (.box t_api_Gauge (gC ra le mo n (S.val r)))]⟩)) :=
  loop_k (σ := Nat) (fun j => [(.o .h, .c (.pt 0 0)), (.o (.i .h), .c (.p (.int .i64 i))), (.o (.i (.o .h)), .c (.p (.int .i64 n))), (.i (.i .h), .c (.p (.int .i64 j))), (.i (.i (.o .h)), .c (.p (.int .i64 i)))]) (fun _ => [some (.box t_api_Gauge (gC ra le mo n (S.val r)))]) (fun j => j ≤ n) (fun j => n - j)
    (fun j => .br (decide (S.paJ ra le mo r n i j < n)) (.e .ret ⟨setAll (resC i (S.paJ ra le mo r n i j)), [some (.box t_api_Gauge (gC ra le mo n (S.val r)))]⟩) (.e (.exit 2) ⟨setAll [(.o .h, .c (.pt 0 0)), (.o (.i (.o .h)), vN n), (.i (.i (.o .h)), .c (.p (.int .i64 i)))], [some (.box t_api_Gauge (gC ra le mo n (S.val r)))]⟩)) (fun _ => Nat.zero_le _) _ (fun j Q => vs_water_firstClash2 (hbs := hbs) fu i j ra le mo n r Q) fun j hj' K hL X hX => by
      refine brP (fun h1 => ?_) fun h1 => ?_
      · have hlt : j < n := by simpa using h1
        refine ⟨fc_water_clashes hT2 ra le mo n r i j hi hlt hR hra, brP (fun h2 => ?_) fun h2 => cdP (i64_nat hlt hn) ?_⟩
        · rw [show S.paJ ra le mo r n i j = j from S.fiF_hit hlt h2, decide_eq_true hlt] at hL
          exact Has.out (l := resC i j) (.cons (by kernel_rfl) rfl (.cons (by kernel_rfl) rfl (.cons (by kernel_rfl) rfl (.nil (ex := _) rfl rfl)))) (Nat.zero_le _) hL
        · refine hX (j + 1) _ (by omega) (by omega) (.cons (by kernel_rfl) rfl (.cons (by kernel_rfl) rfl (.cons (by kernel_rfl) rfl (.cons (by kernel_rfl) rfl (.cons (by kernel_rfl) rfl (.nil (ex := _) rfl rfl)))))) ?_
          rw [show S.paJ ra le mo r n i j = S.paJ ra le mo r n i (j + 1) from S.fiF_skip hlt h2] at hL
          exact hL
      · have hlt : n ≤ j := by simpa using h1
        rw [show S.paJ ra le mo r n i j = j from S.fiF_end hlt, decide_eq_false (by omega)] at hL
        exact Has.out (l := [(.o .h, .c (.pt 0 0)), (.o (.i (.o .h)), vN n), (.i (.i (.o .h)), .c (.p (.int .i64 i)))]) (.cons (by kernel_rfl) rfl (.cons (by kernel_rfl) rfl (.cons (by kernel_rfl) rfl (.nil (ex := _) rfl rfl)))) (Nat.zero_le _) hL
theorem go_water_firstClash1 (fu : Nat) (ra le mo : Int) (n : Nat) (r : S.Rows) (hn : n ≤ maxLen) (hR : S.allR n r) (hra : 0 ≤ ra ∧ ra ≤ 1000) : ∀ (i : Nat) (st : St), i ≤ n → Has st [(.o .h, .c (.pt 0 0)), (.o (.i (.o .h)), .c (.p (.int .i64 n))), (.i (.i (.o .h)), .c (.p (.int .i64 i)))] [some (.box t_api_Gauge (gC ra le mo n (S.val r)))] →
    LoopGo (ex (cs2 hbs) (fu + 8 + 60)) 0 m_water_firstClash_l1 st (.br (decide (S.clI ra le mo r n i < n)) (.e .ret ⟨setAll (resC (S.clI ra le mo r n i) (S.clJ ra le mo r n i)), [some (.box t_api_Gauge (gC ra le mo n (S.val r)))]⟩) (.e (.exit 0) ⟨.lf, [some (.box t_api_Gauge (gC ra le mo n (S.val r)))]⟩)) :=
  loop_k (σ := Nat) (fun i => [(.o .h, .c (.pt 0 0)), (.o (.i (.o .h)), .c (.p (.int .i64 n))), (.i (.i (.o .h)), .c (.p (.int .i64 i)))]) (fun _ => [some (.box t_api_Gauge (gC ra le mo n (S.val r)))]) (fun i => i ≤ n) (fun i => n - i)
    (fun i => .br (decide (S.clI ra le mo r n i < n)) (.e .ret ⟨setAll (resC (S.clI ra le mo r n i) (S.clJ ra le mo r n i)), [some (.box t_api_Gauge (gC ra le mo n (S.val r)))]⟩) (.e (.exit 0) ⟨.lf, [some (.box t_api_Gauge (gC ra le mo n (S.val r)))]⟩)) (fun _ => Nat.zero_le _) _ (fun i Q => vs_water_firstClash1 (hbs := hbs) (fu + 8) i ra le mo n r Q) fun i hi' K hL X hX => by
      have eH : i < n → S.paB ra le mo r n i = true → S.clI ra le mo r n i = i ∧ S.clJ ra le mo r n i = S.paJ ra le mo r n i i := fun hlt e => by
        have e1 : S.clI ra le mo r n i = i := S.fiF_hit hlt e
        exact ⟨e1, by unfold S.clJ; rw [e1]⟩
      have eS : i < n → S.paB ra le mo r n i = false → S.clI ra le mo r n i = S.clI ra le mo r n (i + 1) ∧ S.clJ ra le mo r n i = S.clJ ra le mo r n (i + 1) := fun hlt e => by
        have e1 : S.clI ra le mo r n i = S.clI ra le mo r n (i + 1) := S.fiF_skip hlt e
        exact ⟨e1, by unfold S.clJ; rw [e1]⟩
      refine brP (fun h1 => ?_) fun h1 => ?_
      · have hlt : i < n := by simpa using h1
        refine ⟨go_water_firstClash2 hT2 fu i ra le mo n r hn hR hra hlt i _ (by omega) (.cons (by kernel_rfl) rfl (.cons (by kernel_rfl) rfl (.cons (by kernel_rfl) rfl (.cons (by kernel_rfl) rfl (.cons (by kernel_rfl) rfl (.nil (ex := _) rfl rfl)))))), brP (fun h2 => ?_) fun h2 => cdP (i64_nat hlt hn) ?_⟩
        · obtain ⟨e1, e2⟩ := eH hlt h2
          rw [e2, e1, decide_eq_true hlt] at hL
          exact Has.out (l := resC i (S.paJ ra le mo r n i i)) (.cons (by kernel_rfl) rfl (.cons (by kernel_rfl) rfl (.cons (by kernel_rfl) rfl (.nil (ex := _) rfl rfl)))) (Nat.zero_le _) hL
        · refine hX (i + 1) _ (by omega) (by omega) (.cons (by kernel_rfl) rfl (.cons (by kernel_rfl) rfl (.cons (by kernel_rfl) rfl (.nil (ex := _) rfl rfl)))) ?_
          obtain ⟨e1, e2⟩ := eS hlt h2
          rw [e2, e1] at hL
          exact hL
      · have hlt : n ≤ i := by simpa using h1
        rw [show S.clI ra le mo r n i = i from S.fiF_end hlt, decide_eq_false (by omega)] at hL
        exact Has.out (l := []) (.nil (ex := _) rfl rfl) (Nat.zero_le _) hL
theorem fc_water_firstClash (ra le mo : Int) (n : Nat) (r : S.Rows) (hn : n ≤ maxLen) (hR : S.allR n r) (hra : 0 ≤ ra ∧ ra ≤ 1000) : FCall (cs2 hbs) f_water_firstClash [.ag (gC ra le mo n (S.val r))] (.tp [vN (S.clX ra le mo r n), vN (S.clY ra le mo r n), vB (S.clF ra le mo r n)]) [] :=
  fcall_k hT2 (F := F_water_firstClash) rfl (vc_water_firstClash ra le mo n r _) ⟨go_water_firstClash1 hT2 927 ra le mo n r hn hR hra 0 _ (Nat.zero_le _) (.cons (by kernel_rfl) rfl (.cons (by kernel_rfl) rfl (.cons (by kernel_rfl) rfl (.nil rfl rfl)))), brP (fun h1 => by
      have hF : S.clF ra le mo r n = true := h1
      rw [show S.clX ra le mo r n = S.clI ra le mo r n 0 by unfold S.clX; rw [hF], show S.clY ra le mo r n = S.clJ ra le mo r n 0 by unfold S.clY; rw [hF], hF]
      rfl) fun h1 => by
      have hF : S.clF ra le mo r n = false := h1
      rw [show S.clX ra le mo r n = 0 by unfold S.clX; rw [hF], show S.clY ra le mo r n = 0 by unfold S.clY; rw [hF], hF]
      rfl⟩
theorem fc_water_hasCourse (ra le mo : Int) (n : Nat) (r : S.Rows) (hn : n ≤ maxLen) (hR : S.allR n r) (hra : 0 ≤ ra ∧ ra ≤ 1000) : FCall (cs2 hbs) f_water_hasCourse [.ag (gC ra le mo n (S.val r))] (vB (!S.clF ra le mo r n)) [] :=
  fcall_k hT2 (F := F_water_hasCourse) rfl (vc_water_hasCourse ra le mo n r _) ⟨fc_water_firstClash hT2 ra le mo n r hn hR hra, brP (fun h => frz_b (by rw [h]; rfl)) fun h => frz_b (by rw [h]; rfl)⟩
end
section
variable {hbs : BsOk Tryd.prog}
theorem vc_water_boundsAt (ra le mo : Int) (n : Nat) (r : S.Rows) (mi : Int) (Q : AV → Heap → Prop) :
 (((LoopGo (ex (cs2 hbs) 994) 0 m_water_boundsAt_l1 ⟨(.nd (.nd (.nd (.nd (.nd .lf (.c (.p (.isl 4 n (S.val r)))) .lf) .any .lf) .any (.nd .lf (.c (.pt 0 2)) .lf)) (.c (.p (.int .i64 mi))) (.nd (.nd (.nd .lf (.c (.p (.int .i64 (0 : Int)))) .lf) (.c (.pt 0 1)) .lf) (.c (.pt 2 0)) (.nd .lf (.ag [(.p (.int .i64 le)), (.p (.int .i64 mo))]) .lf))) (.ag [(.p (.int .i64 ra)), (.p (.int .i64 le)), (.p (.int .i64 mo)), (.p (.isl 4 n (S.val r)))]) (.nd (.nd (.nd (.nd .lf (.c (.p (.int .i64 ((n : Nat) : Int)))) .lf) .any .lf) (.c (.pt 1 0)) (.nd .lf (.c (.p (.int .i64 mo))) .lf)) (.c (.pt 0 0)) (.nd (.nd .lf (.c (.p (.int .i64 le))) .lf) .any (.nd .lf (.c (.pt 0 3)) .lf)))), [(some (.box t_api_Gauge [(.p (.int .i64 ra)), (.p (.int .i64 le)), (.p (.int .i64 mo)), (.p (.isl 4 n (S.val r)))])), (some (.box t_api_Span [(.p (.int .i64 (0 : Int))), (.p (.int .i64 (0 : Int)))])), (some (.box t_api_Span [(.p (.int .i64 le)), (.p (.int .i64 mo))]))]⟩ (.e (.exit 0) ⟨(.nd (.nd .lf .any (.nd .lf (.c (.pt 2 0)) .lf)) .any (.nd (.nd .lf (.c (.pt 1 0)) .lf) .any .lf)), [(some (.box t_api_Gauge [(.p (.int .i64 ra)), (.p (.int .i64 le)), (.p (.int .i64 mo)), (.p (.isl 4 n (S.val r)))])), (some (.box t_api_Span [(.p (.int .i64 (0 : Int))), (.p (.int .i64 (0 : Int)))])), (some (.box t_api_Span [(.p (.int .i64 (S.foF (S.fL ra mi r) n 0 le))), (.p (.int .i64 (S.foF (S.fH ra mi r) n 0 mo)))]))]⟩)) ∧
 (Q (.ag [(.p (.int .i64 (S.foF (S.fL ra mi r) n 0 le))), (.p (.int .i64 (S.foF (S.fH ra mi r) n 0 mo)))]) [(some (.box t_api_Gauge [(.p (.int .i64 ra)), (.p (.int .i64 le)), (.p (.int .i64 mo)), (.p (.isl 4 n (S.val r)))])), (some (.box t_api_Span [(.p (.int .i64 (S.foF (S.fL ra mi r) n 0 le))), (.p (.int .i64 (S.foF (S.fH ra mi r) n 0 mo)))])), (some (.box t_api_Span [(.p (.int .i64 (S.foF (S.fL ra mi r) n 0 le))), (.p (.int .i64 (S.foF (S.fH ra mi r) n 0 mo)))]))]))) = (ex (cs2 hbs) 1000 0 m_water_boundsAt ⟨ofL 0 [.ag (gC ra le mo n (S.val r)), .c (.p (.int .i64 mi))] .lf, []⟩ (endK F_water_boundsAt.rs (fun r H => .pr (Q r H)) fun _ _ => .no)).hold2 := by kernel_rfl
theorem vs_water_boundsAt (fu i : Nat) (ra le mo : Int) (n : Nat) (r : S.Rows) (mi lo hi : Int) (Q : AX → St → Prop) :
 ((BrP (decide (((i : Nat) : Int) < ((n : Nat) : Int)))
 (CdP (.rng ((i : Nat) : Int) n)
  (CdP (.i64 ((S.mx (r i 0) mi) - (S.mn (r i 0) mi)))
  (CdP (.i64 (ra * ((S.mx (r i 0) mi) - (S.mn (r i 0) mi))))
  (CdP (.i64 ((r i 1) - (ra * ((S.mx (r i 0) mi) - (S.mn (r i 0) mi)))))
  (CdP (.i64 ((r i 2) + (ra * ((S.mx (r i 0) mi) - (S.mn (r i 0) mi)))))
  (CdP (.i64 (((i : Nat) : Int) + (1 : Int)))
  (Q .normal ⟨(.nd (.nd (.nd (.nd (.nd (.nd .lf (.c (.p (.int .i64 (ra * ((S.mx (r i 0) mi) - (S.mn (r i 0) mi)))))) .lf) (.c (.p (.isl 4 n (S.val r)))) .lf) (.c (.pt 3 0)) (.nd (.nd .lf (.c (.p (.int .i64 (r i 2)))) .lf) (.c (.p (.int .i64 (r i 0)))) .lf)) .any (.nd (.nd (.nd .lf (.c (.pt 2 1)) .lf) (.c (.p (.ipt 4 (S.val r i)))) .lf) .any (.nd (.nd .lf (.c (.pt 2 1)) .lf) (.c (.p (.int .i64 lo))) .lf))) (.c (.p (.int .i64 mi))) (.nd (.nd (.nd (.nd .lf (.c (.p (.int .i64 (S.mx lo ((r i 1) - (ra * ((S.mx (r i 0) mi) - (S.mn (r i 0) mi)))))))) .lf) (.c (.p (.int .i64 (((i : Nat) : Int) + (1 : Int))))) .lf) .any (.nd (.nd .lf (.c (.p (.int .i64 ((r i 2) + (ra * ((S.mx (r i 0) mi) - (S.mn (r i 0) mi))))))) .lf) (.c (.p (.int .i64 (ra * ((S.mx (r i 0) mi) - (S.mn (r i 0) mi)))))) .lf)) (.c (.pt 2 0)) (.nd (.nd (.nd .lf (.c (.pt 3 1)) .lf) (.ag [(.p (.int .i64 ra)), (.p (.int .i64 le)), (.p (.int .i64 mo)), (.p (.isl 4 n (S.val r)))]) .lf) .any (.nd .lf (.c (.pt 3 1)) .lf)))) .any (.nd (.nd (.nd (.nd (.nd .lf (.c (.p (.int .i64 ((r i 1) - (ra * ((S.mx (r i 0) mi) - (S.mn (r i 0) mi))))))) .lf) (.c (.p (.int .i64 ((n : Nat) : Int)))) .lf) (.c (.p (.int .i64 (ra * ((S.mx (r i 0) mi) - (S.mn (r i 0) mi)))))) (.nd (.nd .lf (.c (.p (.int .i64 (ra * ((S.mx (r i 0) mi) - (S.mn (r i 0) mi)))))) .lf) (.c (.p (.int .i64 mi))) .lf)) (.c (.pt 1 0)) (.nd (.nd (.nd .lf (.c (.p (.int .i64 hi))) .lf) (.ag [(.p (.int .i64 (r i 0))), (.p (.int .i64 (r i 1))), (.p (.int .i64 (r i 2))), (.p (.int .i64 (r i 3)))]) .lf) .any (.nd (.nd .lf (.c (.p (.int .i64 (((i : Nat) : Int) + (1 : Int))))) .lf) (.c (.pt 3 1)) .lf))) (.c (.pt 0 0)) (.nd (.nd (.nd (.nd .lf (.c (.pt 2 0)) .lf) (.c (.p (.bool true))) .lf) .any (.nd (.nd .lf (.c (.p (.int .i64 (S.mn hi ((r i 2) + (ra * ((S.mx (r i 0) mi) - (S.mn (r i 0) mi)))))))) .lf) (.c (.pt 2 0)) .lf)) .any (.nd (.nd (.nd .lf (.c (.pt 3 2)) .lf) (.c (.pt 3 0)) .lf) .any (.nd .lf (.c (.p (.int .i64 (r i 1)))) .lf))))), [(some (.box t_api_Gauge [(.p (.int .i64 ra)), (.p (.int .i64 le)), (.p (.int .i64 mo)), (.p (.isl 4 n (S.val r)))])), (some (.box t_api_Span [(.p (.int .i64 (0 : Int))), (.p (.int .i64 (0 : Int)))])), (some (.box t_api_Span [(.p (.int .i64 (S.mx lo ((r i 1) - (ra * ((S.mx (r i 0) mi) - (S.mn (r i 0) mi))))))), (.p (.int .i64 (S.mn hi ((r i 2) + (ra * ((S.mx (r i 0) mi) - (S.mn (r i 0) mi)))))))])), (some (.box t_api_Reading [(.p (.int .i64 (r i 0))), (.p (.int .i64 (r i 1))), (.p (.int .i64 (r i 2))), (.p (.int .i64 (r i 3)))]))]⟩)))))))
 (Q (.exit 0) ⟨(.nd (.nd (.nd (.nd (.nd .lf (.c (.p (.isl 4 n (S.val r)))) .lf) .any .lf) .any .lf) (.c (.p (.int .i64 mi))) (.nd (.nd (.nd .lf (.c (.p (.int .i64 ((i : Nat) : Int)))) .lf) .any .lf) (.c (.pt 2 0)) .lf)) .any (.nd (.nd (.nd (.nd .lf (.c (.p (.int .i64 ((n : Nat) : Int)))) .lf) .any .lf) (.c (.pt 1 0)) .lf) (.c (.pt 0 0)) (.nd (.nd (.nd .lf (.c (.p (.bool false))) .lf) .any .lf) .any .lf))), [(some (.box t_api_Gauge [(.p (.int .i64 ra)), (.p (.int .i64 le)), (.p (.int .i64 mo)), (.p (.isl 4 n (S.val r)))])), (some (.box t_api_Span [(.p (.int .i64 (0 : Int))), (.p (.int .i64 (0 : Int)))])), (some (.box t_api_Span [(.p (.int .i64 lo)), (.p (.int .i64 hi))]))]⟩))) = (ex (cs2 hbs) (fu + 60) 0 m_water_boundsAt_l1 ⟨setAll [(.o .h, .c (.p (.int .i64 mi))), (.o (.o (.o (.o .h))), .c (.p (.isl 4 n (S.val r)))), (.o (.i .h), .c (.pt 2 0)), (.o (.i (.o (.o .h))), .c (.p (.int .i64 i))), (.i .h, .c (.pt 0 0)), (.i (.o .h), .c (.pt 1 0)), (.i (.o (.o (.o .h))), .c (.p (.int .i64 n)))], [some (.box t_api_Gauge (gC ra le mo n (S.val r))), some (.box t_api_Span [.p (.int .i64 0), .p (.int .i64 0)]), some (.box t_api_Span [.p (.int .i64 lo), .p (.int .i64 hi)])]⟩ (fun e s => .pr (Q e s))).hold2 := by kernel_rfl
end
section
variable {hbs : BsOk Tryd.prog} (hT2 : TabOk (cs2 hbs))
include hT2
theorem go_water_boundsAt (fu : Nat) (ra le mo : Int) (n : Nat) (r : S.Rows) (mi : Int) (hn : n ≤ maxLen) (hR : S.allR n r) (hra : 0 ≤ ra ∧ ra ≤ 1000) (hm : 0 ≤ mi ∧ mi ≤ 1440) : ∀ (s : Nat × Int × Int) (st : St), s.1 ≤ n → Has st [(.o .h, .c (.p (.int .i64 mi))), (.o (.o (.o (.o .h))), .c (.p (.isl 4 n (S.val r)))), (.o (.i .h), .c (.pt 2 0)), (.o (.i (.o (.o .h))), .c (.p (.int .i64 s.1))), (.i .h, .c (.pt 0 0)), (.i (.o .h), .c (.pt 1 0)), (.i (.o (.o (.o .h))), .c (.p (.int .i64 n)))] [some (.box t_api_Gauge (gC ra le mo n (S.val r))), some (.box t_api_Span [.p (.int .i64 (0)), .p (.int .i64 (0))]), some (.box t_api_Span [.p (.int .i64 (s.2.1)), .p (.int .i64 (s.2.2))])] →
    LoopGo (ex (cs2 hbs) (fu + 60)) 0 m_water_boundsAt_l1 st (.e (.exit 0) ⟨setAll [(.i (.o .h), .c (.pt 1 0)), (.o (.i .h), .c (.pt 2 0))], [some (.box t_api_Gauge (gC ra le mo n (S.val r))), some (.box t_api_Span [.p (.int .i64 (0)), .p (.int .i64 (0))]), some (.box t_api_Span [.p (.int .i64 (S.foF (S.fL ra mi r) n s.1 s.2.1)), .p (.int .i64 (S.foF (S.fH ra mi r) n s.1 s.2.2))])]⟩) :=
  loop_k (σ := Nat × Int × Int) (fun s => [(.o .h, .c (.p (.int .i64 mi))), (.o (.o (.o (.o .h))), .c (.p (.isl 4 n (S.val r)))), (.o (.i .h), .c (.pt 2 0)), (.o (.i (.o (.o .h))), .c (.p (.int .i64 s.1))), (.i .h, .c (.pt 0 0)), (.i (.o .h), .c (.pt 1 0)), (.i (.o (.o (.o .h))), .c (.p (.int .i64 n)))]) (fun s => [some (.box t_api_Gauge (gC ra le mo n (S.val r))), some (.box t_api_Span [.p (.int .i64 (0)), .p (.int .i64 (0))]), some (.box t_api_Span [.p (.int .i64 (s.2.1)), .p (.int .i64 (s.2.2))])]) (fun s => s.1 ≤ n) (fun s => n - s.1)
    (fun s => .e (.exit 0) ⟨setAll [(.i (.o .h), .c (.pt 1 0)), (.o (.i .h), .c (.pt 2 0))], [some (.box t_api_Gauge (gC ra le mo n (S.val r))), some (.box t_api_Span [.p (.int .i64 (0)), .p (.int .i64 (0))]), some (.box t_api_Span [.p (.int .i64 (S.foF (S.fL ra mi r) n s.1 s.2.1)), .p (.int .i64 (S.foF (S.fH ra mi r) n s.1 s.2.2))])]⟩) (fun _ => Nat.zero_le _) _ (fun s Q => vs_water_boundsAt (hbs := hbs) fu s.1 ra le mo n r mi s.2.1 s.2.2 Q) fun s hs K hL X hX => by
      obtain ⟨i, lo, hi⟩ := s
      dsimp only at hs hL ⊢
      refine brP (fun h1 => ?_) fun h1 => ?_
      · have hlt : i < n := by simpa using h1
        obtain ⟨a1, a2, a3⟩ := hR i hlt
        have d := S.drift_in hra a1 hm
        refine cdP (idx_ok hlt) (cdP (i64_of (by omega) (by omega)) (cdP (i64_of (by omega) (by omega)) (cdP (i64_of (by omega) (by omega)) (cdP (i64_of (by omega) (by omega)) (cdP (i64_nat hlt hn) ?_)))))
        refine hX (i + 1, S.fL ra mi r i lo, S.fH ra mi r i hi) _ (by show n - (i + 1) < n - i; omega) (by show i + 1 ≤ n; omega) (.cons (by kernel_rfl) rfl (.cons (by kernel_rfl) rfl (.cons (by kernel_rfl) rfl (.cons (by kernel_rfl) rfl (.cons (by kernel_rfl) rfl (.cons (by kernel_rfl) rfl (.cons (by kernel_rfl) rfl (.nil (ex := _) rfl rfl)))))))) ?_
        rw [show S.foF (S.fL ra mi r) n i lo = S.foF (S.fL ra mi r) n (i + 1) (S.fL ra mi r i lo) from S.foF_step hlt, show S.foF (S.fH ra mi r) n i hi = S.foF (S.fH ra mi r) n (i + 1) (S.fH ra mi r i hi) from S.foF_step hlt] at hL
        exact hL
      · have hlt : n ≤ i := by simpa using h1
        rw [show S.foF (S.fL ra mi r) n i lo = lo from S.foF_end hlt, show S.foF (S.fH ra mi r) n i hi = hi from S.foF_end hlt] at hL
        exact Has.out (l := [(.i (.o .h), .c (.pt 1 0)), (.o (.i .h), .c (.pt 2 0))]) (.cons (by kernel_rfl) rfl (.cons (by kernel_rfl) rfl (.nil (ex := _) rfl rfl))) (Nat.zero_le _) hL
theorem fc_water_boundsAt (ra le mo : Int) (n : Nat) (r : S.Rows) (mi : Int) (hn : n ≤ maxLen) (hR : S.allR n r) (hra : 0 ≤ ra ∧ ra ≤ 1000) (hm : 0 ≤ mi ∧ mi ≤ 1440) : FCall (cs2 hbs) f_water_boundsAt [.ag (gC ra le mo n (S.val r)), .c (.p (.int .i64 mi))] (.ag [.p (.int .i64 (S.bdL ra le n r mi)), .p (.int .i64 (S.bdH ra mo n r mi))]) [] :=
  fcall_k hT2 (F := F_water_boundsAt) rfl (vc_water_boundsAt ra le mo n r mi _) ⟨go_water_boundsAt hT2 934 ra le mo n r mi hn hR hra hm (0, le, mo) _ (Nat.zero_le _) (.cons (by kernel_rfl) rfl (.cons (by kernel_rfl) rfl (.cons (by kernel_rfl) rfl (.cons (by kernel_rfl) rfl (.cons (by kernel_rfl) rfl (.cons (by kernel_rfl) rfl (.cons (by kernel_rfl) rfl (.nil rfl rfl)))))))), rfl⟩
end
section
variable {hbs : BsOk Tryd.prog}
theorem vc_water_Bounds (ra le mo : Int) (n : Nat) (r : S.Rows) (Q : AV → Heap → Prop) :
 (((FCall (cs2 hbs) f_water_Known [(.ag [(.p (.int .i64 ra)), (.p (.int .i64 le)), (.p (.int .i64 mo)), (.p (.isl 4 n (S.val r)))])] (.c (.p (.int .i64 (S.knE ra le mo n r)))) []) ∧
 (BrP ((S.knE ra le mo n r) != (0 : Int))
 (Q (.tp [(.c (.p .nsl)), (.c (.p (.int .i64 (2 : Int))))]) [(some (.box t_api_Gauge [(.p (.int .i64 ra)), (.p (.int .i64 le)), (.p (.int .i64 mo)), (.p (.isl 4 n (S.val r)))]))])
 ((FCall (cs2 hbs) f_water_hasCourse [(.ag [(.p (.int .i64 ra)), (.p (.int .i64 le)), (.p (.int .i64 mo)), (.p (.isl 4 n (S.val r)))])] (.c (.p (.bool (!(S.clF ra le mo r n))))) []) ∧
  (BrP (!(S.clF ra le mo r n))
  ((LoopGo (ex (cs2 hbs) 990) 3 m_water_minutes_l1 ⟨(.nd .lf (.c (.ref 2)) (.nd .lf (.c (.p (.int .i64 (0 : Int)))) .lf)), [(some (.box t_api_Gauge [(.p (.int .i64 ra)), (.p (.int .i64 le)), (.p (.int .i64 mo)), (.p (.isl 4 n (S.val r)))])), (some (.box t_sl_api_Span [(.p .nsl)])), (some (.lp 20 (.nd (.nd (.nd (.nd .lf (.c (.p (.int .i64 (S.knE ra le mo n r)))) .lf) (.c (.p (.int .i64 (0 : Int)))) (.nd .lf (.c (.p (.bool false))) .lf)) (.c (.pt 0 0)) (.nd (.nd .lf (.ag [(.p (.int .i64 ra)), (.p (.int .i64 le)), (.p (.int .i64 mo)), (.p (.isl 4 n (S.val r)))]) .lf) .any .lf)) (.ag [(.p (.int .i64 ra)), (.p (.int .i64 le)), (.p (.int .i64 mo)), (.p (.isl 4 n (S.val r)))]) (.nd (.nd (.nd .lf (.c (.p (.bool false))) .lf) (.c (.pt 1 0)) .lf) (.c (.p .nsl)) (.nd (.nd .lf (.c (.p (.bool true))) .lf) (.ag [(.p (.int .i64 ra)), (.p (.int .i64 le)), (.p (.int .i64 mo)), (.p (.isl 4 n (S.val r)))]) .lf))) [(.i (.o (.i .h)))] m_water_Bounds_a1 m_water_Bounds_b1 .ready))]⟩ (.e (.exit 0) ⟨.lf, [(some (.box t_api_Gauge [(.p (.int .i64 ra)), (.p (.int .i64 le)), (.p (.int .i64 mo)), (.p (.isl 4 n (S.val r)))])), (some (.box t_sl_api_Span [(.sl 3 0 1441)])), (some (.lp 20 (.nd (.nd (.nd (.nd .lf (.c (.p (.int .i64 (S.knE ra le mo n r)))) .lf) (.c (.p (.int .i64 (0 : Int)))) (.nd .lf (.c (.p (.bool false))) .lf)) (.c (.pt 0 0)) (.nd (.nd .lf (.ag [(.p (.int .i64 ra)), (.p (.int .i64 le)), (.p (.int .i64 mo)), (.p (.isl 4 n (S.val r)))]) .lf) .any .lf)) (.ag [(.p (.int .i64 ra)), (.p (.int .i64 le)), (.p (.int .i64 mo)), (.p (.isl 4 n (S.val r)))]) (.nd (.nd (.nd .lf (.c (.p (.bool false))) .lf) (.c (.pt 1 0)) .lf) (.c (.p .nsl)) (.nd (.nd .lf (.c (.p (.bool true))) .lf) (.ag [(.p (.int .i64 ra)), (.p (.int .i64 le)), (.p (.int .i64 mo)), (.p (.isl 4 n (S.val r)))]) .lf))) [(.i (.o (.i .h)))] m_water_Bounds_a1 m_water_Bounds_b1 .ready)), (some (.arr 2 36 1441 (S.val (S.bdR ra le mo n r)) []))]⟩)) ∧
   (Q (.tp [(.c (.sl 3 0 1441)), (.c (.p (.int .i64 (0 : Int))))]) [(some (.box t_api_Gauge [(.p (.int .i64 ra)), (.p (.int .i64 le)), (.p (.int .i64 mo)), (.p (.isl 4 n (S.val r)))])), (some (.box t_sl_api_Span [(.sl 3 0 1441)])), none, (some (.arr 2 36 1441 (S.val (S.bdR ra le mo n r)) []))]))
  (Q (.tp [(.c (.p .nsl)), (.c (.p (.int .i64 (5 : Int))))]) [(some (.box t_api_Gauge [(.p (.int .i64 ra)), (.p (.int .i64 le)), (.p (.int .i64 mo)), (.p (.isl 4 n (S.val r)))]))])))))) = (ex (cs2 hbs) 1000 0 m_water_Bounds ⟨ofL 0 [.ag (gC ra le mo n (S.val r))] .lf, []⟩ (endK F_water_Bounds.rs (fun r H => .pr (Q r H)) fun _ _ => .no)).hold2 := by kernel_rfl
theorem vs_water_minutesB (fu i : Nat) (ra le mo : Int) (n : Nat) (r : S.Rows) (g : S.Rows) (e : Int) (Q : AX → St → Prop) :
 ((BrP (decide (((i : Nat) : Int) ≤ (1440 : Int)))
 ((FCall (cs2 hbs) f_water_boundsAt [(.ag [(.p (.int .i64 ra)), (.p (.int .i64 le)), (.p (.int .i64 mo)), (.p (.isl 4 n (S.val r)))]), (.c (.p (.int .i64 ((i : Nat) : Int))))] (.ag [(.p (.int .i64 (S.bdL ra le n r ((i : Nat) : Int)))), (.p (.int .i64 (S.bdH ra mo n r ((i : Nat) : Int))))]) []) ∧
  (CdP (.le i i)
  (CdP (.le i i)
  (CdP (.le ((i + 1) * 16) 140737488355328)
  (CdP (.i64 (((i : Nat) : Int) + (1 : Int)))
  (Q .normal ⟨(.nd (.nd (.nd (.nd .lf (.c (.ref 2)) .lf) (.c (.p (.int .i64 ((i : Nat) : Int)))) .lf) .any (.nd (.nd .lf (.c (.p (.bool true))) .lf) (.c (.p (.int .i64 ((i : Nat) : Int)))) .lf)) (.c (.ref 2)) (.nd (.nd (.nd .lf (.c (.p (.int .i64 ((i : Nat) : Int)))) .lf) (.c (.p (.bool true))) .lf) (.c (.p (.int .i64 (((i : Nat) : Int) + (1 : Int))))) (.nd (.nd .lf (.c (.p (.bool false))) .lf) (.c (.p (.int .i64 (((i : Nat) : Int) + (1 : Int))))) .lf))), [(some (.box t_api_Gauge [(.p (.int .i64 ra)), (.p (.int .i64 le)), (.p (.int .i64 mo)), (.p (.isl 4 n (S.val r)))])), (some (.box t_sl_api_Span [(.sl 4 0 (i + 1))])), (some (.lp 20 (.nd (.nd (.nd (.nd .lf (.c (.p (.int .i64 e))) .lf) (.c (.p (.int .i64 (0 : Int)))) (.nd .lf (.c (.p (.bool false))) .lf)) (.c (.pt 0 0)) (.nd (.nd .lf (.ag [(.p (.int .i64 ra)), (.p (.int .i64 le)), (.p (.int .i64 mo)), (.p (.isl 4 n (S.val r)))]) .lf) .any .lf)) (.ag [(.p (.int .i64 ra)), (.p (.int .i64 le)), (.p (.int .i64 mo)), (.p (.isl 4 n (S.val r)))]) (.nd (.nd (.nd .lf (.c (.p (.bool false))) .lf) (.c (.pt 1 0)) .lf) (.c (.p .nsl)) (.nd (.nd .lf (.c (.p (.bool true))) .lf) (.ag [(.p (.int .i64 ra)), (.p (.int .i64 le)), (.p (.int .i64 mo)), (.p (.isl 4 n (S.val r)))]) .lf))) [(.i (.o (.i .h)))] m_water_Bounds_a1 m_water_Bounds_b1 .ready)), (some (.arr 2 36 i (S.val g) [])), (some (.arr 2 36 (i + 1) (fun x10 => (fun x11 => (if (x10 < i) then (.int .i64 (g x10 x11)) else (List.getD [(.int .i64 (S.bdL ra le n r ((i : Nat) : Int))), (.int .i64 (S.bdH ra mo n r ((i : Nat) : Int)))] (((x10 - i) * 2) + x11) .npt)))) [3]))]⟩))))))
 (Q (.exit 0) ⟨(.nd (.nd (.nd .lf (.c (.p (.int .i64 ((i : Nat) : Int)))) .lf) .any .lf) (.c (.ref 2)) (.nd (.nd .lf (.c (.p (.bool false))) .lf) (.c (.p (.int .i64 ((i : Nat) : Int)))) .lf)), [(some (.box t_api_Gauge [(.p (.int .i64 ra)), (.p (.int .i64 le)), (.p (.int .i64 mo)), (.p (.isl 4 n (S.val r)))])), (some (.box t_sl_api_Span [(.sl 3 0 i)])), (some (.lp 20 (.nd (.nd (.nd (.nd .lf (.c (.p (.int .i64 e))) .lf) (.c (.p (.int .i64 (0 : Int)))) (.nd .lf (.c (.p (.bool false))) .lf)) (.c (.pt 0 0)) (.nd (.nd .lf (.ag [(.p (.int .i64 ra)), (.p (.int .i64 le)), (.p (.int .i64 mo)), (.p (.isl 4 n (S.val r)))]) .lf) .any .lf)) (.ag [(.p (.int .i64 ra)), (.p (.int .i64 le)), (.p (.int .i64 mo)), (.p (.isl 4 n (S.val r)))]) (.nd (.nd (.nd .lf (.c (.p (.bool false))) .lf) (.c (.pt 1 0)) .lf) (.c (.p .nsl)) (.nd (.nd .lf (.c (.p (.bool true))) .lf) (.ag [(.p (.int .i64 ra)), (.p (.int .i64 le)), (.p (.int .i64 mo)), (.p (.isl 4 n (S.val r)))]) .lf))) [(.i (.o (.i .h)))] m_water_Bounds_a1 m_water_Bounds_b1 .ready)), (some (.arr 2 36 i (S.val g) []))]⟩))) = (ex (cs2 hbs) (fu + 60) 3 m_water_minutes_l1 ⟨setAll [(.h, .c (.ref 2)), (.i .h, .c (.p (.int .i64 i)))], [some (.box t_api_Gauge (gC ra le mo n (S.val r))), some (.box t_sl_api_Span [.sl 3 0 i]), some (.lp 20 (t20 ra le mo n (S.val r) e) [.i (.o (.i .h))] m_water_Bounds_a1 m_water_Bounds_b1 .ready), some (.arr 2 t_api_Span i (S.val g) [])]⟩ (fun e s => .pr (Q e s))).hold2 := by kernel_rfl
theorem vc_water_Clash (ra le mo : Int) (n : Nat) (r : S.Rows) (Q : AV → Heap → Prop) :
 (((FCall (cs2 hbs) f_water_Known [(.ag [(.p (.int .i64 ra)), (.p (.int .i64 le)), (.p (.int .i64 mo)), (.p (.isl 4 n (S.val r)))])] (.c (.p (.int .i64 (S.knE ra le mo n r)))) []) ∧
 (BrP ((S.knE ra le mo n r) != (0 : Int))
 (Q (.tp [(.c (.p (.int .i64 (0 : Int)))), (.c (.p (.int .i64 (0 : Int)))), (.c (.p (.int .i64 (2 : Int))))]) [(some (.box t_api_Gauge [(.p (.int .i64 ra)), (.p (.int .i64 le)), (.p (.int .i64 mo)), (.p (.isl 4 n (S.val r)))]))])
 ((FCall (cs2 hbs) f_water_firstClash [(.ag [(.p (.int .i64 ra)), (.p (.int .i64 le)), (.p (.int .i64 mo)), (.p (.isl 4 n (S.val r)))])] (.tp [(.c (.p (.int .i64 (((S.clX ra le mo r n) : Nat) : Int)))), (.c (.p (.int .i64 (((S.clY ra le mo r n) : Nat) : Int)))), (.c (.p (.bool (S.clF ra le mo r n))))]) []) ∧
  (BrP (S.clF ra le mo r n)
  (Q (.tp [(.c (.p (.int .i64 (((S.clX ra le mo r n) : Nat) : Int)))), (.c (.p (.int .i64 (((S.clY ra le mo r n) : Nat) : Int)))), (.c (.p (.int .i64 (0 : Int))))]) [(some (.box t_api_Gauge [(.p (.int .i64 ra)), (.p (.int .i64 le)), (.p (.int .i64 mo)), (.p (.isl 4 n (S.val r)))]))])
  (Q (.tp [(.c (.p (.int .i64 (0 : Int)))), (.c (.p (.int .i64 (0 : Int)))), (.c (.p (.int .i64 (6 : Int))))]) [(some (.box t_api_Gauge [(.p (.int .i64 ra)), (.p (.int .i64 le)), (.p (.int .i64 mo)), (.p (.isl 4 n (S.val r)))]))])))))) = (ex (cs2 hbs) 1000 0 m_water_Clash ⟨ofL 0 [.ag (gC ra le mo n (S.val r))] .lf, []⟩ (endK F_water_Clash.rs (fun r H => .pr (Q r H)) fun _ _ => .no)).hold2 := by kernel_rfl
end
end Go.Ab.B
namespace Go.Ab
theorem FCall.weak {C : Cfg} {f : FuncId} {args : List AV} {r r' : AV} {Hr Hr' : Heap} (h : FCall C f args r Hr) (ρ : List (Option Nat)) (hn : nodupB ρ = true) (hH : WH Hr ρ ρ Hr') (hr : WA ρ r r') : FCall C f args r' Hr' :=
  fun w Z vs hz hg hv => (h w Z vs hz hg hv).mono fun e w' ⟨u, Z', φ', he, hst, h1, h2, hs, hru⟩ => ⟨u, Z', _, he, hst, h1, h2, weak_simH hs hn hH, WA_rep hH hr hru⟩
end Go.Ab
namespace Go.Ab.B
open Go.Proofs
theorem app_bd {ra le mo : Int} {n : Nat} {r : S.Rows} {i k j : Nat} (hk : k < i + 1) (hj : j < 2) : (if k < i then PV.int .i64 (S.bdR ra le mo n r k j) else ([PV.int .i64 (S.bdL ra le n r i), PV.int .i64 (S.bdH ra mo n r i)] : List PV)[(k - i) * 2 + j]?.getD .npt) = S.val (S.bdR ra le mo n r) k j := by
  split
  · rfl
  · obtain rfl : k = i := by omega
    rw [Nat.sub_self, Nat.zero_mul, Nat.zero_add]
    match j, hj with
    | 0, _ => rfl
    | 1, _ => rfl
def hdB (ra le mo : Int) (n : Nat) (r : S.Rows) (i : Nat) : Heap := [some (.box t_api_Gauge (gC ra le mo n (S.val r))), some (.arr 2 t_api_Span i (S.val (S.bdR ra le mo n r)) [])]
def hdW (ra le mo : Int) (n : Nat) (r : S.Rows) (e : Int) (i : Nat) : Heap := [some (.box t_api_Gauge (gC ra le mo n (S.val r))), some (.box t_sl_api_Span [.sl 3 0 i]), some (.lp 20 (t20 ra le mo n (S.val r) e) [.i (.o (.i .h))] m_water_Bounds_a1 m_water_Bounds_b1 .ready), some (.arr 2 t_api_Span i (S.val (S.bdR ra le mo n r)) [])]
section
variable {hbs : BsOk Tryd.prog} (hT2 : TabOk (cs2 hbs))
include hT2
theorem go_water_minutesB (fu : Nat) (ra le mo : Int) (n : Nat) (r : S.Rows) (e : Int) (hn : n ≤ maxLen) (hR : S.allR n r) (hra : 0 ≤ ra ∧ ra ≤ 1000) : ∀ (i : Nat) (st : St), i ≤ 1441 → (∃ ρ, HasR 3 ρ st [(.h, .c (.ref 2)), (.i .h, .c (.p (.int .i64 i)))] (hdW ra le mo n r e i)) →
    LoopGo (ex (cs2 hbs) (fu + 60)) 3 m_water_minutes_l1 st (.e (.exit 0) ⟨.lf, hdW ra le mo n r e 1441⟩) :=
  loop_kR (σ := Nat) (fun i => [(.h, .c (.ref 2)), (.i .h, .c (.p (.int .i64 i)))]) (fun i => hdW ra le mo n r e i) (fun i => i ≤ 1441) (fun i => 1441 - i)
    (fun _ => .e (.exit 0) ⟨.lf, hdW ra le mo n r e 1441⟩) _ (fun i Q => vs_water_minutesB (hbs := hbs) fu i ra le mo n r (S.bdR ra le mo n r) e Q) fun i hi' K hL X hX => by
      refine brP (fun h1 => ?_) fun h1 => ?_
      · have hlt : i < 1441 := by simp at h1; omega
        refine ⟨fc_water_boundsAt hT2 ra le mo n r i hn hR hra (by omega), cdP (Nat.le_refl _) (cdP (Nat.le_refl _) (cdP (by simp [Cd.holds]; omega) (cdP (i64_of (by omega) (by omega)) ?_)))⟩
        refine hX (i + 1) _ (by omega) (by omega) ⟨[some 0, some 1, some 2, some 4], HasR.mk _ rfl rfl ?_ ?_⟩ hL
        · simp [WH, WB, WL, WA, WT, WC, WP', upsB, memB, gC, hdW, t20, vB, vP]
          exact fun k j hk hj => app_bd hk hj
        · simp [LiveR, WA, WC, WP', Tr.get]
      · have hlt : 1441 ≤ i := by simp at h1; omega
        obtain rfl : i = 1441 := by omega
        refine HasR.out (l := []) (HasR.mk (ρ := [some 0, some 1, some 2, some 3]) rfl rfl ?_ ?_) hL
        · simp [WH, WB, WL, WA, WT, WC, WP', upsB, memB, gC, hdW, t20, vB, vP]
        · simp [LiveR, WA, WC, WP', Tr.get]
theorem fc_water_Bounds (hk : TabOk (cs hbs)) (ra le mo : Int) (n : Nat) (r : S.Rows) (hn : n ≤ maxLen) : FCall (cs2 hbs) f_water_Bounds [.ag (gC ra le mo n (S.val r))] (.tp [.c (.p (.isl 2 (S.bN ra le mo n r) (S.val (S.bdR ra le mo n r)))), .c (.p (.int .i64 (S.bE ra le mo n r)))]) [] := by
  have kn := FCall.cfg (C := cs hbs) (C' := cs2 hbs) rfl rfl (fc_water_Known hk ra le mo n r hn)
  cases hg : S.ggB ra le mo n r (-100000) 100000 with
  | false =>
    have e1 : S.bN ra le mo n r = 0 := by unfold S.bN; rw [hg]; rfl
    have e2 : S.bE ra le mo n r = 2 := by unfold S.bE; rw [hg]
    rw [e1, e2]
    have h : FCall (cs2 hbs) f_water_Bounds [.ag (gC ra le mo n (S.val r))] (.tp [.c (.p .nsl), .c (.p (.int .i64 2))]) [] :=
      fcall_k hT2 (F := F_water_Bounds) rfl (vc_water_Bounds ra le mo n r _) ⟨kn, by
        rw [S.knE_f hg]
        exact brP (fun _ => rfl) fun h => absurd h (by decide)⟩
    exact h.weak [] rfl (by simp [WH]) (by simp [WAs, WA, WL, WC, WP'])
  | true =>
    have hR := S.ggB_all hg
    have hra := (S.ggB_in hg).1
    cases hc : S.clF ra le mo r n with
    | true =>
      have e1 : S.bN ra le mo n r = 0 := by unfold S.bN; rw [hg, hc]; rfl
      have e2 : S.bE ra le mo n r = 5 := by unfold S.bE; rw [hg, hc]
      rw [e1, e2]
      have h : FCall (cs2 hbs) f_water_Bounds [.ag (gC ra le mo n (S.val r))] (.tp [.c (.p .nsl), .c (.p (.int .i64 5))]) [] :=
        fcall_k hT2 (F := F_water_Bounds) rfl (vc_water_Bounds ra le mo n r _) ⟨kn, by
          rw [S.knE_t hg]
          exact brP (fun h => absurd h (by decide)) fun _ => ⟨fc_water_hasCourse hT2 ra le mo n r hn hR hra, brP (fun h => absurd h (by rw [hc]; decide)) fun _ => rfl⟩⟩
      exact h.weak [] rfl (by simp [WH]) (by simp [WAs, WA, WL, WC, WP'])
    | false =>
      have e1 : S.bN ra le mo n r = 1441 := by unfold S.bN; rw [hg, hc]; rfl
      have e2 : S.bE ra le mo n r = 0 := by unfold S.bE; rw [hg, hc]
      rw [e1, e2]
      refine fcall_k hT2 (F := F_water_Bounds) rfl (vc_water_Bounds ra le mo n r _) ⟨kn, ?_⟩
      refine brP (fun h => absurd h (by rw [S.knE_t hg]; decide)) fun _ => ⟨fc_water_hasCourse hT2 ra le mo n r hn hR hra, brP (fun _ => ?_) fun h => absurd h (by rw [hc]; decide)⟩
      exact ⟨go_water_minutesB hT2 930 ra le mo n r _ hn hR hra 0 _ (Nat.zero_le _) ⟨[some 0, some 1, some 2, none], HasR.mk _ rfl rfl (by simp [WH, WB, WL, WA, WT, WC, WP', upsB, memB, gC, hdW, t20, vB, vP]) (by simp [LiveR, WA, WC, WP', Tr.get])⟩, by simp [frzA, frzAs, frzL, frzC]⟩
theorem fc_water_Clash (hk : TabOk (cs hbs)) (ra le mo : Int) (n : Nat) (r : S.Rows) (hn : n ≤ maxLen) : FCall (cs2 hbs) f_water_Clash [.ag (gC ra le mo n (S.val r))] (.tp [vN (S.cX ra le mo n r), vN (S.cY ra le mo n r), .c (.p (.int .i64 (S.cE ra le mo n r)))]) [] := by
  have kn := FCall.cfg (C := cs hbs) (C' := cs2 hbs) rfl rfl (fc_water_Known hk ra le mo n r hn)
  refine fcall_k hT2 (F := F_water_Clash) rfl (vc_water_Clash ra le mo n r _) ⟨kn, ?_⟩
  cases hg : S.ggB ra le mo n r (-100000) 100000 with
  | false =>
    rw [S.knE_f hg, show S.cX ra le mo n r = 0 by unfold S.cX; rw [hg], show S.cY ra le mo n r = 0 by unfold S.cY; rw [hg], show S.cE ra le mo n r = 2 by unfold S.cE; rw [hg]]
    exact brP (fun _ => rfl) fun h => absurd h (by decide)
  | true =>
    rw [S.knE_t hg, show S.cX ra le mo n r = S.clX ra le mo r n by unfold S.cX; rw [hg], show S.cY ra le mo n r = S.clY ra le mo r n by unfold S.cY; rw [hg]]
    refine brP (fun h => absurd h (by decide)) fun _ => ⟨fc_water_firstClash hT2 ra le mo n r hn (S.ggB_all hg) (S.ggB_in hg).1, brP (fun hc => ?_) fun hc => ?_⟩
    · rw [show S.cE ra le mo n r = 0 by unfold S.cE; rw [hg, hc]]; rfl
    · rw [show S.cE ra le mo n r = 6 by unfold S.cE; rw [hg, hc], show S.clX ra le mo r n = 0 by unfold S.clX; rw [hc], show S.clY ra le mo r n = 0 by unfold S.clY; rw [hc]]; rfl
end
end Go.Ab.B
namespace Go.Ab.S
open Go.Ab
def hasB (x s : Nat) : Bool := Nat.testBit x (7 - s)
def bitL (x : Nat) : List Nat := (List.range 8).filter (hasB x)
def pc (x : Nat) : Nat := (bitL x).length
def bitR (x : Nat) : Rows := fun i _ => ((bitL x).getD i 0 : Nat)
def bitU (x s : Nat) : List Nat := (List.range s).filter (hasB x)
def buN (x s : Nat) : Nat := (bitU x s).length
def buR (x s : Nat) : Rows := fun i _ => ((bitU x s).getD i 0 : Nat)
def kpL (q : Int → Bool) (r : Rows) (n : Nat) : List Nat := (List.range n).filter fun i => q (r i 3)
def kpN (q : Int → Bool) (r : Rows) (n : Nat) : Nat := (kpL q r n).length
def kpR (q : Int → Bool) (r : Rows) (n : Nat) : Rows := fun j c => r ((kpL q r n).getD j 0) c
def neL (l : Rows) (x : Int) (i : Nat) : Bool := !decide (l i 0 = x)
def hasL (m : Nat) (l : Rows) (x : Int) : Bool := !from_ (neL l x) m 0
def qB (x : Nat) (s : Int) : Bool := !hasB x s.toNat
def qL (m : Nat) (l : Rows) (s : Int) : Bool := !hasL m l s
def okQ (ra le mo : Int) (n : Nat) (r : Rows) (q : Int → Bool) : Bool := !clF ra le mo (kpR q r n) (kpN q r n)
def okB (ra le mo : Int) (n : Nat) (r : Rows) (x : Nat) : Bool := okQ ra le mo n r (qB x)
def sL (s : Nat) : List Nat := ((List.range 256).map fun i => 255 - i).filter fun x => Nat.beq (pc x) s
def sT : Nat → List Nat
  | 0 => [0]
  | 1 => [128, 64, 32, 16, 8, 4, 2, 1]
  | 2 => [192, 160, 144, 136, 132, 130, 129, 96, 80, 72, 68, 66, 65, 48, 40, 36, 34, 33, 24, 20, 18, 17, 12, 10, 9, 6, 5, 3]
  | 3 => [224, 208, 200, 196, 194, 193, 176, 168, 164, 162, 161, 152, 148, 146, 145, 140, 138, 137, 134, 133, 131, 112, 104, 100, 98, 97, 88, 84, 82, 81, 76, 74, 73, 70, 69, 67, 56, 52, 50, 49, 44, 42, 41, 38, 37, 35, 28, 26, 25, 22, 21, 19, 14, 13, 11, 7]
  | 4 => [240, 232, 228, 226, 225, 216, 212, 210, 209, 204, 202, 201, 198, 197, 195, 184, 180, 178, 177, 172, 170, 169, 166, 165, 163, 156, 154, 153, 150, 149, 147, 142, 141, 139, 135, 120, 116, 114, 113, 108, 106, 105, 102, 101, 99, 92, 90, 89, 86, 85, 83, 78, 77, 75, 71, 60, 58, 57, 54, 53, 51, 46, 45, 43, 39, 30, 29, 27, 23, 15]
  | 5 => [248, 244, 242, 241, 236, 234, 233, 230, 229, 227, 220, 218, 217, 214, 213, 211, 206, 205, 203, 199, 188, 186, 185, 182, 181, 179, 174, 173, 171, 167, 158, 157, 155, 151, 143, 124, 122, 121, 118, 117, 115, 110, 109, 107, 103, 94, 93, 91, 87, 79, 62, 61, 59, 55, 47, 31]
  | 6 => [252, 250, 249, 246, 245, 243, 238, 237, 235, 231, 222, 221, 219, 215, 207, 190, 189, 187, 183, 175, 159, 126, 125, 123, 119, 111, 95, 63]
  | 7 => [254, 253, 251, 247, 239, 223, 191, 127]
  | 8 => [255]
  | _ => []
theorem sT_eq : ∀ s, s < 9 → sT s = sL s
  | 0, _ => by kernel_rfl
  | 1, _ => by kernel_rfl
  | 2, _ => by kernel_rfl
  | 3, _ => by kernel_rfl
  | 4, _ => by kernel_rfl
  | 5, _ => by kernel_rfl
  | 6, _ => by kernel_rfl
  | 7, _ => by kernel_rfl
  | 8, _ => by kernel_rfl
  | s + 9, h => by omega
def stN (s : Nat) : Nat := (sT s).length
def stX (s i : Nat) : Nat := (sT s).getD i 0
def inP (ok : Nat → Bool) (s i : Nat) : Bool := Nat.beq (pc (255 - i)) s && ok (255 - i)
def inS (ok : Nat → Bool) (s i : Nat) : Nat := fiF (inP ok s) 256 i
def szB (ok : Nat → Bool) (s : Nat) : Bool := decide (inS ok s 0 < 256)
def blS (ok : Nat → Bool) (s : Nat) : Nat := fiF (szB ok) 8 s
def blB (ok : Nat → Bool) (s : Nat) : Bool := decide (blS ok s < 8)
def blX (ok : Nat → Bool) (s : Nat) : Nat := 255 - inS ok (blS ok s) 0
def bl (ok : Nat → Bool) : Nat := match blB ok 0 with | true => blX ok 0 | false => 255
def rI (ok : Nat → Bool) (s i : Nat) : Nat := fiF (fun i => ok (stX s i)) (stN s) i
theorem getD_app_l {α : Type} {l l' : List α} {j : Nat} {d : α} (h : j < l.length) : (l ++ l').getD j d = l.getD j d := by
  rw [List.getD_eq_getElem?_getD, List.getD_eq_getElem?_getD, List.getElem?_append_left h]
theorem getD_app_r {α : Type} {l l' : List α} {j : Nat} {d : α} (h : l.length ≤ j) : (l ++ l').getD j d = l'.getD (j - l.length) d := by
  rw [List.getD_eq_getElem?_getD, List.getD_eq_getElem?_getD, List.getElem?_append_right h]
theorem range_succ_filter {p : Nat → Bool} {i : Nat} : (List.range (i + 1)).filter p = (List.range i).filter p ++ (match p i with | true => [i] | false => []) := by
  rw [List.range_succ, List.filter_append]
  cases h : p i <;> simp [h]
theorem kpL_succ {q : Int → Bool} {r : Rows} {i : Nat} : kpL q r (i + 1) = kpL q r i ++ (match q (r i 3) with | true => [i] | false => []) := range_succ_filter
theorem bitU_succ {x s : Nat} : bitU x (s + 1) = bitU x s ++ (match hasB x s with | true => [s] | false => []) := range_succ_filter
theorem kpN_t {q : Int → Bool} {r : Rows} {i : Nat} (h : q (r i 3) = true) : kpN q r (i + 1) = kpN q r i + 1 := by
  simp only [kpN, kpL, range_succ_filter, h, List.length_append, List.length_singleton]
theorem kpN_f {q : Int → Bool} {r : Rows} {i : Nat} (h : q (r i 3) = false) : kpN q r (i + 1) = kpN q r i ∧ kpR q r (i + 1) = kpR q r i := by
  have : kpL q r (i + 1) = kpL q r i := by simp only [kpL, range_succ_filter, h, List.append_nil]
  exact ⟨by unfold kpN; rw [this], by unfold kpR; rw [this]⟩
theorem kpR_old {q : Int → Bool} {r : Rows} {i j : Nat} (c : Nat) (hj : j < kpN q r i) : kpR q r (i + 1) j c = kpR q r i j c := by
  show r ((kpL q r (i + 1)).getD j 0) c = r ((kpL q r i).getD j 0) c
  rw [kpL_succ, getD_app_l hj]
theorem kpR_new {q : Int → Bool} {r : Rows} {i : Nat} (c : Nat) (h : q (r i 3) = true) : kpR q r (i + 1) (kpN q r i) c = r i c := by
  show r ((kpL q r (i + 1)).getD (kpL q r i).length 0) c = r i c
  rw [kpL_succ, getD_app_r (Nat.le_refl _), Nat.sub_self, h]
  rfl
theorem kpN_le {q : Int → Bool} {r : Rows} : ∀ {n : Nat}, kpN q r n ≤ n := by
  intro n
  unfold kpN kpL
  exact Nat.le_trans (List.length_filter_le _ _) (by simp)
theorem kpL_lt {q : Int → Bool} {r : Rows} {n j : Nat} (h : j < kpN q r n) : (kpL q r n).getD j 0 < n := by
  have hm : (kpL q r n).getD j 0 ∈ kpL q r n := by
    rw [List.getD_eq_getElem?_getD, List.getElem?_eq_getElem h]
    exact List.getElem_mem h
  unfold kpL at hm
  exact List.mem_range.1 (List.mem_filter.1 hm).1
theorem kp_all {q : Int → Bool} {r : Rows} {n : Nat} (h : allR n r) : allR (kpN q r n) (kpR q r n) := fun j hj => h _ (kpL_lt hj)
theorem kp_congr {q q' : Int → Bool} {r : Rows} {n : Nat} (h : ∀ i, i < n → q (r i 3) = q' (r i 3)) : kpN q r n = kpN q' r n ∧ kpR q r n = kpR q' r n := by
  have : kpL q r n = kpL q' r n := List.filter_congr fun i hi => h i (List.mem_range.1 hi)
  exact ⟨by unfold kpN; rw [this], by unfold kpR; rw [this]⟩
theorem buN_t {x s : Nat} (h : hasB x s = true) : buN x (s + 1) = buN x s + 1 := by
  simp only [buN, bitU, range_succ_filter, h, List.length_append, List.length_singleton]
theorem buN_f {x s : Nat} (h : hasB x s = false) : buN x (s + 1) = buN x s ∧ buR x (s + 1) = buR x s := by
  have : bitU x (s + 1) = bitU x s := by simp only [bitU, range_succ_filter, h, List.append_nil]
  exact ⟨by unfold buN; rw [this], by unfold buR; rw [this]⟩
theorem buR_old {x s j : Nat} (c : Nat) (hj : j < buN x s) : buR x (s + 1) j c = buR x s j c := by
  show (((bitU x (s + 1)).getD j 0 : Nat) : Int) = ((bitU x s).getD j 0 : Nat)
  rw [bitU_succ, getD_app_l hj]
theorem buR_new {x s : Nat} (c : Nat) (h : hasB x s = true) : buR x (s + 1) (buN x s) c = s := by
  show (((bitU x (s + 1)).getD (bitU x s).length 0 : Nat) : Int) = s
  rw [bitU_succ, getD_app_r (Nat.le_refl _), Nat.sub_self, h]
  rfl
def mapR {α : Type} (f : Nat → α) : Nat → List α
  | 0 => []
  | n + 1 => f n :: mapR f n
theorem mapR_get {α : Type} {f g : Nat → α} : ∀ {n : Nat}, mapR f n = mapR g n → ∀ k, k < n → f k = g k
  | 0, _, k, hk => by omega
  | n + 1, h, k, hk => by
    simp only [mapR, List.cons.injEq] at h
    by_cases e : k = n
    · rw [e]; exact h.1
    · exact mapR_get h.2 k (by omega)
theorem hasL_bits : ∀ x, x < 256 → ∀ s, s < 8 → hasL (pc x) (bitR x) (s : Nat) = hasB x s := by
  have h : mapR (fun x => mapR (fun s => eqB (hasL (pc x) (bitR x) (s : Nat)) (hasB x s)) 8) 256 = mapR (fun _ => mapR (fun _ => true) 8) 256 := by kernel_rfl
  intro x hx s hs
  exact eqB_spec (mapR_get (mapR_get h x hx) s hs)
theorem fiF_find {p : Nat → Bool} : ∀ {k i : Nat}, fi p k i < i + k → p (fi p k i) = true
  | 0, i, h => by simp [fi] at h
  | k + 1, i, h => by
    cases hp : p i with
    | true => simp only [fi, hp]
    | false =>
      simp only [fi, hp] at h ⊢
      exact fiF_find (by omega)
theorem fi_min {p : Nat → Bool} : ∀ {k i j : Nat}, i ≤ j → j < fi p k i → p j = false
  | 0, i, j, h1, h2 => by simp [fi] at h2; omega
  | k + 1, i, j, h1, h2 => by
    cases hp : p i with
    | true => simp only [fi, hp] at h2; omega
    | false =>
      simp only [fi, hp] at h2
      by_cases e : j = i
      · rw [e]; exact hp
      · exact fi_min (k := k) (i := i + 1) (by omega) h2
theorem fi_le {p : Nat → Bool} : ∀ {k i : Nat}, fi p k i ≤ i + k
  | 0, i => by simp [fi]
  | k + 1, i => by
    cases hp : p i with
    | true => simp only [fi, hp]; omega
    | false =>
      simp only [fi, hp]
      have := fi_le (p := p) (k := k) (i := i + 1)
      omega
theorem fi_range {α : Type} {p : α → Bool} {f : Nat → α} : ∀ {k i : Nat}, ((List.range' i k).map f).find? p = match decide (fi (fun j => p (f j)) k i < i + k) with | true => some (f (fi (fun j => p (f j)) k i)) | false => none
  | 0, i => by simp [fi]
  | k + 1, i => by
    rw [List.range'_succ, List.map_cons, List.find?_cons]
    cases hp : p (f i) with
    | true => simp only [fi, hp]; rw [decide_eq_true (by omega)]
    | false =>
      simp only [fi, hp]
      rw [fi_range (k := k) (i := i + 1), show i + 1 + k = i + (k + 1) by omega]
theorem find_filter {α : Type} {p q : α → Bool} : ∀ {l : List α}, (l.filter p).find? q = l.find? fun a => p a && q a
  | [] => rfl
  | a :: l => by
    cases hp : p a with
    | false => rw [List.filter_cons_of_neg (by rw [hp]; simp), List.find?_cons, hp]; exact find_filter
    | true =>
      rw [List.filter_cons_of_pos hp, List.find?_cons, List.find?_cons, hp, find_filter, Bool.true_and]
theorem find_in (ok : Nat → Bool) (s : Nat) : (sL s).find? ok = match szB ok s with | true => some (255 - inS ok s 0) | false => none := by
  have h := fi_range (p := fun x => Nat.beq (pc x) s && ok x) (f := fun i => 255 - i) (k := 256) (i := 0)
  rw [← List.range_eq_range', ← find_filter (l := (List.range 256).map fun i => 255 - i) (p := fun x => Nat.beq (pc x) s) (q := ok)] at h
  unfold sL szB inS inP fiF
  exact h
theorem find_st (ok : Nat → Bool) (s : Nat) : (sT s).find? ok = match decide (rI ok s 0 < stN s) with | true => some (stX s (rI ok s 0)) | false => none := by
  have h := fi_range (p := ok) (f := stX s) (k := stN s) (i := 0)
  have e : (List.range' 0 (stN s)).map (stX s) = sT s := by
    apply List.ext_getElem?
    intro i
    rw [List.getElem?_map]
    by_cases hi : i < stN s
    · have : i < (sT s).length := hi
      rw [List.getElem?_eq_getElem (by simpa using hi), List.getElem?_eq_getElem this]
      simp [stX, this]
    · have : (sT s).length ≤ i := Nat.le_of_not_lt hi
      rw [List.getElem?_eq_none (by rw [List.length_range']; exact this), List.getElem?_eq_none this]
      rfl
  rw [e, Nat.zero_add] at h
  unfold rI fiF
  exact h
theorem both (ok : Nat → Bool) (s : Nat) (hs : s < 9) : decide (rI ok s 0 < stN s) = szB ok s ∧ (szB ok s = true → stX s (rI ok s 0) = 255 - inS ok s 0) := by
  have h := (find_st ok s).symm.trans ((congrArg (List.find? ok) (sT_eq s hs)).trans (find_in ok s))
  cases h1 : decide (rI ok s 0 < stN s) <;> cases h2 : szB ok s <;> rw [h1, h2] at h
  · exact ⟨rfl, fun h => by cases h⟩
  · cases h
  · cases h
  · exact ⟨rfl, fun _ => Option.some.inj h⟩
theorem stX_lt {s i : Nat} (hs : s < 9) : stX s i < 256 := by
  unfold stX
  rw [sT_eq s hs, List.getD_eq_getElem?_getD]
  cases h : (sL s)[i]? with
  | none => simp
  | some x =>
    have hm := List.mem_of_getElem? h
    unfold sL at hm
    obtain ⟨j, hj, rfl⟩ := List.mem_map.1 (List.mem_filter.1 hm).1
    simp; omega
theorem stN_le {s : Nat} (hs : s < 9) : stN s ≤ 256 := by
  unfold stN
  rw [sT_eq s hs]
  unfold sL
  exact Nat.le_trans (List.length_filter_le _ _) (by simp)
def cmp255 (i : Nat) : Int := IntKind.u64.wrap (255 - (i : Int))
theorem cmp255_eq {i : Nat} (h : i < 256) : cmp255 i = ((255 - i : Nat) : Int) := by
  unfold cmp255 IntKind.wrap
  simp [IntKind.bits, IntKind.signed]
  omega
def eq1 (a b : Rows) (i : Nat) : Bool := decide (a i 0 = b i 0)
def sm (n m : Nat) (a b : Rows) : Bool := decide (n = m) && from_ (eq1 a b) n 0
theorem sm_same {n : Nat} {a : Rows} : sm n n a a = true := by
  simp only [sm, Bool.and_eq_true, decide_eq_true_eq, true_and]
  exact from_iff.2 fun j _ _ => by simp [eq1]
def bmN (ra le mo : Int) (n : Nat) (r : Rows) : Nat := match ggB ra le mo n r (-100000) 100000 with | true => pc (bl (okB ra le mo n r)) | false => 0
open Go.Ab
def ddF (ra : Int) (nu : Nat) (u : Rows) (t : Nat) : Int := match nu with | 0 => 0 | _ => mx (-ra) (mn ra (u (Int.toNat (Int.tmod t nu)) 0))
def nowF (ra le mo : Int) (nu : Nat) (u : Rows) (v : Int) : Nat → Int
  | 0 => v
  | t + 1 => mx le (mn mo (nowF ra le mo nu u v t + ddF ra nu u t))
def crs (ra le mo : Int) (nu : Nat) (u : Rows) (v : Int) : Rows := fun t _ => nowF ra le mo nu u v t
theorem now_in {ra le mo : Int} {nu : Nat} {u : Rows} {v : Int} (h : le ≤ mo) (hv : le ≤ v ∧ v ≤ mo) : ∀ t, le ≤ nowF ra le mo nu u v t ∧ nowF ra le mo nu u v t ≤ mo
  | 0 => hv
  | t + 1 => by
    show le ≤ mx le (mn mo _) ∧ mx le (mn mo _) ≤ mo
    unfold mx mn
    split <;> split <;> omega
theorem dd_in {ra : Int} {nu : Nat} {u : Rows} {t : Nat} (h : 0 ≤ ra) : -ra ≤ ddF ra nu u t ∧ ddF ra nu u t ≤ ra := by
  unfold ddF
  split
  · omega
  · unfold mx mn
    split <;> split <;> omega
def rv (b : Nat) : Nat := (List.range 8).foldl (fun a s => 2 * a + (match Nat.testBit b s with | true => 1 | false => 0)) 0
def bitC (b i : Nat) : Bool := bitsI .and .i64 (Int.fdiv (b : Int) (2 ^ (min i 64))) 1 == 1
theorem bitC_eq : ∀ b, b < 256 → ∀ i, i < 8 → bitC b i = hasB (rv b) i := by
  have h : mapR (fun b => mapR (fun i => eqB (bitC b i) (hasB (rv b) i)) 8) 256 = mapR (fun _ => mapR (fun _ => true) 8) 256 := by kernel_rfl
  exact fun b hb i hi => eqB_spec (mapR_get (mapR_get h b hb) i hi)
theorem rv_lt : ∀ b, b < 256 → rv b < 256 := by
  have h : mapR (fun b => Nat.ble (rv b + 1) 256) 256 = mapR (fun _ => true) 256 := by kernel_rfl
  exact fun b hb => Nat.le_of_ble_eq_true (mapR_get h b hb)
theorem lip {ra : Int} {c : Nat → Int} {N : Nat} (h : ∀ t, t + 1 < N → -ra ≤ c (t + 1) - c t ∧ c (t + 1) - c t ≤ ra) : ∀ (d a : Nat), a + d < N → -(ra * d) ≤ c (a + d) - c a ∧ c (a + d) - c a ≤ ra * d
  | 0, a, _ => by simp
  | d + 1, a, hd => by
    have h1 := lip h d a (by omega)
    have h2 := h (a + d) (by omega)
    have e : ra * ((d + 1 : Nat) : Int) = ra * (d : Int) + ra := by push_cast; rw [Int.mul_add, Int.mul_one]
    rw [e, show a + (d + 1) = a + d + 1 by omega]
    omega
theorem lip2 {ra : Int} {c : Nat → Int} {N : Nat} (h : ∀ t, t + 1 < N → -ra ≤ c (t + 1) - c t ∧ c (t + 1) - c t ≤ ra) {a b : Int} (ha : 0 ≤ a ∧ a < N) (hb : 0 ≤ b ∧ b < N) : c a.toNat - c b.toNat ≤ ra * (mx a b - mn a b) := by
  obtain ⟨m, rfl⟩ := Int.eq_ofNat_of_zero_le ha.1
  obtain ⟨k, rfl⟩ := Int.eq_ofNat_of_zero_le hb.1
  simp only [Int.toNat_natCast]
  rcases Nat.le_total m k with hle | hle
  · obtain ⟨d, rfl⟩ := Nat.exists_eq_add_of_le hle
    have := lip h d m (by omega)
    rw [show mx ((m : Nat) : Int) ((m + d : Nat) : Int) - mn ((m : Nat) : Int) ((m + d : Nat) : Int) = (d : Int) by unfold mx mn; push_cast; split <;> split <;> omega]
    omega
  · obtain ⟨d, rfl⟩ := Nat.exists_eq_add_of_le hle
    have := lip h d k (by omega)
    rw [show mx ((k + d : Nat) : Int) ((k : Nat) : Int) - mn ((k + d : Nat) : Int) ((k : Nat) : Int) = (d : Int) by unfold mx mn; push_cast; split <;> split <;> omega]
    omega
theorem mxmn_comm (a b : Int) : mx a b - mn a b = mx b a - mn b a := by
  unfold mx mn
  repeat' split
  all_goals omega
theorem fit_cl {ra le mo : Int} {n : Nat} {r c : Rows} (hR : allR n r) (hf : fit ra le mo n r 1441 c = true) : clF ra le mo r n = false := by
  simp only [fit, Bool.and_eq_true] at hf
  obtain ⟨⟨_, hc⟩, hr⟩ := hf
  have hc := fun t (ht : t < 1441) => from_iff.1 hc t (Nat.zero_le _) ht
  have hr := fun t (ht : t < n) => from_iff.1 hr t (Nat.zero_le _) ht
  have bnd : ∀ t, t < 1441 → le ≤ c t 0 ∧ c t 0 ≤ mo := fun t ht => by
    have := hc t ht
    simp only [crAt, Bool.and_eq_true, inB_iff] at this
    exact this.1
  have stp : ∀ t, t + 1 < 1441 → -ra ≤ c (t + 1) 0 - c t 0 ∧ c (t + 1) 0 - c t 0 ≤ ra := fun t ht => by
    have := hc (t + 1) ht
    simp only [crAt, Bool.and_eq_true, Bool.or_eq_true, inB_iff, decide_eq_true_eq] at this
    rcases this.2 with h | h
    · omega
    · simpa using h
  have rd : ∀ i, i < n → r i 1 ≤ c (r i 0).toNat 0 ∧ c (r i 0).toNat 0 ≤ r i 2 := fun i hi => by
    have := hr i hi
    simpa only [rfAt, inB_iff] using this
  cases h : clF ra le mo r n with
  | false => rfl
  | true =>
    exfalso
    have h1 : clI ra le mo r n 0 < n := of_decide_eq_true h
    have h2 : paB ra le mo r n (clI ra le mo r n 0) = true := fiF_find (p := paB ra le mo r n) (k := n) (i := 0) (by unfold clI fiF at h1; simpa using h1)
    have h3 : paJ ra le mo r n (clI ra le mo r n 0) (clI ra le mo r n 0) < n := of_decide_eq_true h2
    have h4 : clP ra le mo r (clI ra le mo r n 0) (paJ ra le mo r n (clI ra le mo r n 0) (clI ra le mo r n 0)) = true := by
      unfold paJ fiF at h3 ⊢
      exact fiF_find (by omega)
    revert h1 h3 h4
    generalize clI ra le mo r n 0 = i
    generalize paJ ra le mo r n i i = j
    intro h1 h3 h4
    obtain ⟨a1, a2, a3⟩ := hR i h1
    obtain ⟨b1, b2, b3⟩ := hR j h3
    have ci := rd i h1
    have cj := rd j h3
    have bi := bnd (r i 0).toNat (by omega)
    have bj := bnd (r j 0).toNat (by omega)
    have l1 := lip2 (c := fun t => c t 0) stp (a := r i 0) (b := r j 0) (by omega) (by omega)
    have l2 := lip2 (c := fun t => c t 0) stp (a := r j 0) (b := r i 0) (by omega) (by omega)
    rw [mxmn_comm] at l2
    unfold clP at h4
    split at h4
    · simp only [clO, Bool.or_eq_true, decide_eq_true_eq] at h4
      omega
    · simp only [clT, Bool.or_eq_true, decide_eq_true_eq] at h4
      omega
theorem bl_pc {ok : Nat → Bool} {x : Nat} (hx : x < 256) (h : ok x = true) : pc (bl ok) ≤ pc x := by
  have p8 : ∀ y, pc y ≤ 8 := fun y => by unfold pc bitL; exact Nat.le_trans (List.length_filter_le _ _) (by simp)
  by_cases h8 : pc x = 8
  · rw [h8]; exact p8 _
  · have hs : pc x < 8 := by have := p8 x; omega
    have hp : inP ok (pc x) (255 - x) = true := by
      unfold inP
      rw [show 255 - (255 - x) = x by omega, h, Bool.and_true]
      exact Nat.beq_refl _
    have hin : inS ok (pc x) 0 < 256 := by
      rcases Nat.lt_or_ge (255 - x) (inS ok (pc x) 0) with hl | hl
      · have := fi_min (p := inP ok (pc x)) (k := 256) (i := 0) (j := 255 - x) (Nat.zero_le _) (by unfold inS fiF at hl; simpa using hl)
        rw [hp] at this; cases this
      · omega
    have hz : szB ok (pc x) = true := decide_eq_true hin
    have hbl : blS ok 0 ≤ pc x := by
      rcases Nat.lt_or_ge (pc x) (blS ok 0) with hl | hl
      · have := fi_min (p := szB ok) (k := 8) (i := 0) (j := pc x) (Nat.zero_le _) (by unfold blS fiF at hl; simpa using hl)
        rw [hz] at this; cases this
      · exact hl
    have hb : blB ok 0 = true := decide_eq_true (by omega)
    have hsz : szB ok (blS ok 0) = true := fiF_find (p := szB ok) (k := 8) (i := 0) (by have hbb : blS ok 0 < 8 := of_decide_eq_true hb; unfold blS fiF at hbb; simpa using hbb)
    have hi : inS ok (blS ok 0) 0 < 256 := of_decide_eq_true hsz
    have hq : inP ok (blS ok 0) (inS ok (blS ok 0) 0) = true := fiF_find (p := inP ok (blS ok 0)) (k := 256) (i := 0) (by unfold inS fiF at hi; simpa using hi)
    have e : pc (255 - inS ok (blS ok 0) 0) = blS ok 0 := by
      unfold inP at hq
      rw [Bool.and_eq_true] at hq
      exact Nat.eq_of_beq_eq_true hq.1
    unfold bl
    rw [hb]
    show pc (blX ok 0) ≤ _
    unfold blX
    rw [e]
    exact hbl
theorem bl_lt {ok : Nat → Bool} : bl ok < 256 := by unfold bl; split <;> (try unfold blX) <;> omega
theorem bl_ok {ra le mo : Int} {n : Nat} {r : Rows} (hR : allR n r) : okB ra le mo n r (bl (okB ra le mo n r)) = true := by
  generalize hok : okB ra le mo n r = ok
  unfold bl
  cases hb : blB ok 0 with
  | true =>
    have hb' : blS ok 0 < 8 := of_decide_eq_true hb
    have hsz : szB ok (blS ok 0) = true := fiF_find (p := szB ok) (k := 8) (i := 0) (by unfold blS fiF at hb'; simpa using hb')
    have hi : inS ok (blS ok 0) 0 < 256 := of_decide_eq_true hsz
    have hq : inP ok (blS ok 0) (inS ok (blS ok 0) 0) = true := fiF_find (p := inP ok (blS ok 0)) (k := 256) (i := 0) (by unfold inS fiF at hi; simpa using hi)
    unfold inP at hq
    rw [Bool.and_eq_true] at hq
    exact hq.2
  | false =>
    show ok 255 = true
    rw [← hok]
    have h0 : kpN (qB 255) r n = 0 := by
      unfold kpN kpL
      rw [List.length_eq_zero_iff, List.filter_eq_nil_iff]
      intro i hi
      obtain ⟨a1, a2, a3⟩ := hR i (List.mem_range.1 hi)
      have h255 : ∀ s, s < 8 → hasB 255 s = true := by decide
      have := h255 (r i 3).toNat (by omega)
      simp [qB, this]
    unfold okB okQ
    rw [h0]
    rfl
theorem gg_kp {ra le mo : Int} {n : Nat} {r : Rows} {q : Int → Bool} {lo hi : Int} (h : ggB ra le mo n r lo hi = true) : ggB ra le mo (kpN q r n) (kpR q r n) lo hi = true := by
  simp only [ggB, Bool.and_eq_true, decide_eq_true_eq] at h ⊢
  obtain ⟨⟨h1, h2⟩, h3⟩ := h
  have hle := kpN_le (q := q) (r := r) (n := n)
  exact ⟨⟨h1, by omega⟩, from_iff.2 fun j _ hj => from_iff.1 h3 _ (Nat.zero_le _) (kpL_lt hj)⟩
open Go.Ab
def lwR (ra le : Int) (n : Nat) (r : Rows) : Rows := fun t _ => bdL ra le n r t
def hgR (ra mo : Int) (n : Nat) (r : Rows) : Rows := fun t _ => bdH ra mo n r t
theorem foL_iff {ra mi B : Int} {r : Rows} {n : Nat} : ∀ (k i : Nat) (x : Int), fo (fL ra mi r) k i x ≤ B ↔ x ≤ B ∧ ∀ j, i ≤ j → j < i + k → r j 1 - ra * (mx (r j 0) mi - mn (r j 0) mi) ≤ B
  | 0, i, x => ⟨fun h => ⟨h, fun j _ _ => by omega⟩, fun h => h.1⟩
  | k + 1, i, x => by
    show fo (fL ra mi r) k (i + 1) (fL ra mi r i x) ≤ B ↔ _
    rw [foL_iff (n := n) k (i + 1) (fL ra mi r i x)]
    have e : fL ra mi r i x ≤ B ↔ x ≤ B ∧ r i 1 - ra * (mx (r i 0) mi - mn (r i 0) mi) ≤ B := by
      show mx x (r i 1 - ra * (mx (r i 0) mi - mn (r i 0) mi)) ≤ B ↔ _
      generalize r i 1 - ra * (mx (r i 0) mi - mn (r i 0) mi) = y
      unfold mx
      split <;> omega
    rw [e]
    constructor
    · rintro ⟨⟨h1, h2⟩, h3⟩
      refine ⟨h1, fun j ha hb => ?_⟩
      rcases Nat.eq_or_lt_of_le ha with rfl | ha
      · exact h2
      · exact h3 j ha (by omega)
    · rintro ⟨h1, h3⟩
      exact ⟨⟨h1, h3 i (Nat.le_refl _) (by omega)⟩, fun j ha hb => h3 j (by omega) (by omega)⟩
theorem foH_iff {ra mi B : Int} {r : Rows} {n : Nat} : ∀ (k i : Nat) (x : Int), B ≤ fo (fH ra mi r) k i x ↔ B ≤ x ∧ ∀ j, i ≤ j → j < i + k → B ≤ r j 2 + ra * (mx (r j 0) mi - mn (r j 0) mi)
  | 0, i, x => ⟨fun h => ⟨h, fun j _ _ => by omega⟩, fun h => h.1⟩
  | k + 1, i, x => by
    show B ≤ fo (fH ra mi r) k (i + 1) (fH ra mi r i x) ↔ _
    rw [foH_iff (n := n) k (i + 1) (fH ra mi r i x)]
    have e : B ≤ fH ra mi r i x ↔ B ≤ x ∧ B ≤ r i 2 + ra * (mx (r i 0) mi - mn (r i 0) mi) := by
      show B ≤ mn x (r i 2 + ra * (mx (r i 0) mi - mn (r i 0) mi)) ↔ _
      generalize r i 2 + ra * (mx (r i 0) mi - mn (r i 0) mi) = y
      unfold mn
      split <;> omega
    rw [e]
    constructor
    · rintro ⟨⟨h1, h2⟩, h3⟩
      refine ⟨h1, fun j ha hb => ?_⟩
      rcases Nat.eq_or_lt_of_le ha with rfl | ha
      · exact h2
      · exact h3 j ha (by omega)
    · rintro ⟨h1, h3⟩
      exact ⟨⟨h1, h3 i (Nat.le_refl _) (by omega)⟩, fun j ha hb => h3 j (by omega) (by omega)⟩
theorem bdL_iff {ra le mi B : Int} {r : Rows} {n : Nat} : bdL ra le n r mi ≤ B ↔ le ≤ B ∧ ∀ j, j < n → r j 1 - ra * (mx (r j 0) mi - mn (r j 0) mi) ≤ B := by
  unfold bdL foF
  rw [foL_iff (n := n) (n - 0) 0 le]
  exact ⟨fun h => ⟨h.1, fun j hj => h.2 j (Nat.zero_le _) (by omega)⟩, fun h => ⟨h.1, fun j _ hj => h.2 j (by omega)⟩⟩
theorem bdH_iff {ra mo mi B : Int} {r : Rows} {n : Nat} : B ≤ bdH ra mo n r mi ↔ B ≤ mo ∧ ∀ j, j < n → B ≤ r j 2 + ra * (mx (r j 0) mi - mn (r j 0) mi) := by
  unfold bdH foF
  rw [foH_iff (n := n) (n - 0) 0 mo]
  exact ⟨fun h => ⟨h.1, fun j hj => h.2 j (Nat.zero_le _) (by omega)⟩, fun h => ⟨h.1, fun j _ hj => h.2 j (by omega)⟩⟩
theorem dr_step {ra t m : Int} (h : 0 ≤ ra) : ra * (mx t (m + 1) - mn t (m + 1)) - ra * (mx t m - mn t m) ≤ ra ∧ ra * (mx t m - mn t m) - ra * (mx t (m + 1) - mn t (m + 1)) ≤ ra := by
  have : mx t (m + 1) - mn t (m + 1) = (mx t m - mn t m) + 1 ∨ mx t m - mn t m = (mx t (m + 1) - mn t (m + 1)) + 1 := by
    unfold mx mn
    repeat' split
    all_goals omega
  rcases this with e | e
  · rw [e, Int.mul_add, Int.mul_one]; omega
  · rw [e, Int.mul_add, Int.mul_one]; omega
theorem dr_pos {ra t m : Int} (h : 0 ≤ ra) : 0 ≤ ra * (mx t m - mn t m) := Int.mul_nonneg h (by unfold mx mn; split <;> split <;> omega)
theorem dr_self {ra t : Int} : ra * (mx t t - mn t t) = 0 := by
  rw [show mx t t - mn t t = 0 by unfold mx mn; simp, Int.mul_zero]
theorem bdL_step {ra le m : Int} {r : Rows} {n : Nat} (h : 0 ≤ ra) : -ra ≤ bdL ra le n r (m + 1) - bdL ra le n r m ∧ bdL ra le n r (m + 1) - bdL ra le n r m ≤ ra := by
  have a := bdL_iff.1 (Int.le_refl (bdL ra le n r m))
  have b := bdL_iff.1 (Int.le_refl (bdL ra le n r (m + 1)))
  have c : bdL ra le n r (m + 1) ≤ bdL ra le n r m + ra := bdL_iff.2 ⟨by omega, fun j hj => by
    have := dr_step (t := r j 0) (m := m) h
    have := a.2 j hj
    omega⟩
  have d : bdL ra le n r m ≤ bdL ra le n r (m + 1) + ra := bdL_iff.2 ⟨by omega, fun j hj => by
    have := dr_step (t := r j 0) (m := m) h
    have := b.2 j hj
    omega⟩
  omega
theorem bdH_step {ra mo m : Int} {r : Rows} {n : Nat} (h : 0 ≤ ra) : -ra ≤ bdH ra mo n r (m + 1) - bdH ra mo n r m ∧ bdH ra mo n r (m + 1) - bdH ra mo n r m ≤ ra := by
  have a := bdH_iff.1 (Int.le_refl (bdH ra mo n r m))
  have b := bdH_iff.1 (Int.le_refl (bdH ra mo n r (m + 1)))
  have c : bdH ra mo n r m - ra ≤ bdH ra mo n r (m + 1) := bdH_iff.2 ⟨by omega, fun j hj => by
    have := dr_step (t := r j 0) (m := m) h
    have := a.2 j hj
    omega⟩
  have d : bdH ra mo n r (m + 1) - ra ≤ bdH ra mo n r m := bdH_iff.2 ⟨by omega, fun j hj => by
    have := dr_step (t := r j 0) (m := m) h
    have := b.2 j hj
    omega⟩
  omega
theorem cl_no {ra le mo : Int} {n : Nat} {r : Rows} (h : clF ra le mo r n = false) (i j : Nat) (hij : i ≤ j) (hj : j < n) : clP ra le mo r i j = false := by
  have h1 : ¬ clI ra le mo r n 0 < n := of_decide_eq_false h
  have h2 : paB ra le mo r n i = false := fi_min (p := paB ra le mo r n) (k := n) (i := 0) (j := i) (Nat.zero_le _) (by unfold clI fiF at h1; rw [Nat.sub_zero] at h1; omega)
  have h3 : ¬ paJ ra le mo r n i i < n := of_decide_eq_false h2
  exact fi_min (p := clP ra le mo r i) (k := n - i) (i := i) (j := j) hij (by unfold paJ fiF at h3; omega)
theorem cl_one {ra le mo : Int} {n : Nat} {r : Rows} (h : clF ra le mo r n = false) (i : Nat) (hi : i < n) : r i 1 ≤ mo ∧ le ≤ r i 2 := by
  have := cl_no h i i (Nat.le_refl _) hi
  unfold clP at this
  rw [show Nat.beq i i = true from Nat.beq_refl i] at this
  simp only [clO, Bool.or_eq_false_iff, decide_eq_false_iff_not] at this
  omega
theorem cl_two {ra le mo : Int} {n : Nat} {r : Rows} (hR : allR n r) (h : clF ra le mo r n = false) (i k : Nat) (hi : i < n) (hk : k < n) : r k 1 - ra * (mx (r k 0) (r i 0) - mn (r k 0) (r i 0)) ≤ r i 2 := by
  have key : ∀ a b : Nat, a < b → b < n → r a 1 - r b 2 ≤ ra * (mx (r a 0) (r b 0) - mn (r a 0) (r b 0)) ∧ r b 1 - r a 2 ≤ ra * (mx (r a 0) (r b 0) - mn (r a 0) (r b 0)) := fun a b hab hb => by
    have := cl_no h a b (by omega) hb
    unfold clP at this
    rw [show Nat.beq a b = false by cases hh : Nat.beq a b with | false => rfl | true => exact absurd (Nat.eq_of_beq_eq_true hh) (by omega)] at this
    simp only [clT, Bool.or_eq_false_iff, decide_eq_false_iff_not] at this
    omega
  rcases Nat.lt_trichotomy i k with hl | rfl | hl
  · have := (key i k hl hk).2
    rw [mxmn_comm (r k 0) (r i 0)]
    omega
  · rw [dr_self]
    have := (hR i hi).2.1
    omega
  · have := (key k i hl hi).1
    omega
theorem low_fit {ra le mo : Int} {n : Nat} {r : Rows} (hra : 0 ≤ ra) (hle : le ≤ mo) (hR : allR n r) (h : clF ra le mo r n = false) : fit ra le mo n r 1441 (lwR ra le n r) = true := by
  simp only [fit, Bool.and_eq_true, decide_eq_true_eq, true_and]
  have gl : ∀ t, le ≤ bdL ra le n r t := fun t => (bdL_iff.1 (Int.le_refl _)).1
  refine ⟨from_iff.2 fun t _ ht => ?_, from_iff.2 fun i _ hi => ?_⟩
  · simp only [crAt, lwR, Bool.and_eq_true, Bool.or_eq_true, inB_iff, decide_eq_true_eq]
    refine ⟨⟨gl t, bdL_iff.2 ⟨hle, fun j hj => ?_⟩⟩, ?_⟩
    · have := (cl_one h j hj).1
      have := dr_pos (ra := ra) (t := r j 0) (m := t) hra
      omega
    · cases t with
      | zero => exact .inl rfl
      | succ t =>
        right
        have := bdL_step (ra := ra) (le := le) (m := t) (r := r) (n := n) hra
        simpa using this
  · obtain ⟨a1, a2, a3⟩ := hR i hi
    simp only [rfAt, lwR, inB_iff]
    rw [Int.toNat_of_nonneg a1.1]
    refine ⟨?_, bdL_iff.2 ⟨(cl_one h i hi).2, fun k hk => cl_two hR h i k hi hk⟩⟩
    have := (bdL_iff.1 (Int.le_refl (bdL ra le n r (r i 0)))).2 i hi
    rw [dr_self] at this
    omega
theorem high_fit {ra le mo : Int} {n : Nat} {r : Rows} (hra : 0 ≤ ra) (hle : le ≤ mo) (hR : allR n r) (h : clF ra le mo r n = false) : fit ra le mo n r 1441 (hgR ra mo n r) = true := by
  simp only [fit, Bool.and_eq_true, decide_eq_true_eq, true_and]
  have gl : ∀ t, bdH ra mo n r t ≤ mo := fun t => (bdH_iff.1 (Int.le_refl _)).1
  refine ⟨from_iff.2 fun t _ ht => ?_, from_iff.2 fun i _ hi => ?_⟩
  · simp only [crAt, hgR, Bool.and_eq_true, Bool.or_eq_true, inB_iff, decide_eq_true_eq]
    refine ⟨⟨bdH_iff.2 ⟨hle, fun j hj => ?_⟩, gl t⟩, ?_⟩
    · have := (cl_one h j hj).2
      have := dr_pos (ra := ra) (t := r j 0) (m := t) hra
      omega
    · cases t with
      | zero => exact .inl rfl
      | succ t =>
        right
        have := bdH_step (ra := ra) (mo := mo) (m := t) (r := r) (n := n) hra
        simpa using this
  · obtain ⟨a1, a2, a3⟩ := hR i hi
    simp only [rfAt, hgR, inB_iff]
    rw [Int.toNat_of_nonneg a1.1]
    refine ⟨bdH_iff.2 ⟨(cl_one h i hi).1, fun k hk => ?_⟩, ?_⟩
    · have := cl_two hR h k i hk hi
      rw [mxmn_comm (r i 0) (r k 0)] at this
      omega
    · have := (bdH_iff.1 (Int.le_refl (bdH ra mo n r (r i 0)))).2 i hi
      rw [dr_self] at this
      omega
theorem fit_in {ra le mo : Int} {n m : Nat} {r c : Rows} (hra : 0 ≤ ra) (hR : allR n r) (hf : fit ra le mo n r m c = true) : m = 1441 ∧ ∀ t, t < 1441 → bdL ra le n r (t : Nat) ≤ c t 0 ∧ c t 0 ≤ bdH ra mo n r (t : Nat) := by
  simp only [fit, Bool.and_eq_true, decide_eq_true_eq] at hf
  obtain ⟨⟨hm, hc⟩, hr⟩ := hf
  have hc := fun t (ht : t < 1441) => from_iff.1 hc t (Nat.zero_le _) ht
  have hr := fun t (ht : t < n) => from_iff.1 hr t (Nat.zero_le _) ht
  have bnd : ∀ t, t < 1441 → le ≤ c t 0 ∧ c t 0 ≤ mo := fun t ht => by
    have := hc t ht
    simp only [crAt, Bool.and_eq_true, inB_iff] at this
    exact this.1
  have stp : ∀ t, t + 1 < 1441 → -ra ≤ c (t + 1) 0 - c t 0 ∧ c (t + 1) 0 - c t 0 ≤ ra := fun t ht => by
    have := hc (t + 1) ht
    simp only [crAt, Bool.and_eq_true, Bool.or_eq_true, inB_iff, decide_eq_true_eq] at this
    rcases this.2 with h | h
    · omega
    · simpa using h
  refine ⟨hm, fun t ht => ⟨bdL_iff.2 ⟨(bnd t ht).1, fun k hk => ?_⟩, bdH_iff.2 ⟨(bnd t ht).2, fun k hk => ?_⟩⟩⟩
  · have a := hr k hk
    simp only [rfAt, inB_iff] at a
    have a1 := (hR k hk).1
    have := lip2 (c := fun t => c t 0) stp (a := r k 0) (b := t) (by omega) (by omega)
    simp only [Int.toNat_natCast] at this
    omega
  · have a := hr k hk
    simp only [rfAt, inB_iff] at a
    have a1 := (hR k hk).1
    have := lip2 (c := fun t => c t 0) stp (a := t) (b := r k 0) (by omega) (by omega)
    rw [mxmn_comm] at this
    simp only [Int.toNat_natCast] at this
    omega
theorem fit_no {ra le mo : Int} {n m : Nat} {r c : Rows} (hR : allR n r) (h : clF ra le mo r n = true) : fit ra le mo n r m c = false := by
  cases hf : fit ra le mo n r m c with
  | false => rfl
  | true =>
    have hm : m = 1441 := by
      simp only [fit, Bool.and_eq_true, decide_eq_true_eq] at hf
      exact hf.1.1
    rw [hm] at hf
    rw [fit_cl hR hf] at h
    cases h
theorem fi_ge {p : Nat → Bool} : ∀ {k i : Nat}, i ≤ fi p k i
  | 0, i => Nat.le_refl i
  | k + 1, i => by
    show i ≤ (match p i with | true => i | false => fi p k (i + 1))
    split
    · exact Nat.le_refl i
    · exact Nat.le_trans (Nat.le_succ i) fi_ge
theorem cl_in {ra le mo : Int} {n : Nat} {r : Rows} (h : clF ra le mo r n = true) : clX ra le mo r n ≤ clY ra le mo r n ∧ clY ra le mo r n < n := by
  have h1 : clI ra le mo r n 0 < n := of_decide_eq_true h
  have h2 : paB ra le mo r n (clI ra le mo r n 0) = true := fiF_find (p := paB ra le mo r n) (k := n) (i := 0) (by unfold clI fiF at h1; simpa using h1)
  have h3 : paJ ra le mo r n (clI ra le mo r n 0) (clI ra le mo r n 0) < n := of_decide_eq_true h2
  unfold clX clY clJ
  rw [h]
  exact ⟨fi_ge, h3⟩
end Go.Ab.S
namespace Go.Ab.B
open Go.Proofs
def lp_WaterSharp (s : St) : Option LTree :=
  match s.h with
  | b0 :: _ => match b0 with
    | some (.box _ [.p (.int .i64 ra), .p (.int .i64 le), .p (.int .i64 mo), .p (.isl 4 n f)]) =>
      some (.e (.exit 0) ⟨setAll [(.i .h, .c (.pt 0 0)), (.o (.o (.i .h)), .c (.sl 1 0 1441)), (.i (.o (.i .h)), .c (.sl 2 0 1441))], [b0, some (.arr 1 t_int 1441 (S.val (S.lwR ra le n (S.num f))) []), some (.arr 1 t_int 1441 (S.val (S.hgR ra mo n (S.num f))) [])]⟩)
    | _ => none
  | _ => none
def Lpe (n0 : Nat) (a : MC) (s : St) : Option LTree :=
  bif Nat.beq (keyM a 0) key_law01_WaterSharp_l1 then lp_WaterSharp s else Lpb n0 a s
def cs5 {P : Program} (hbs : BsOk P) : Cfg := { c0 hbs with ur := false, B := fun _ => none, Sp := Spb, Lp := Lpe }
end Go.Ab.B
