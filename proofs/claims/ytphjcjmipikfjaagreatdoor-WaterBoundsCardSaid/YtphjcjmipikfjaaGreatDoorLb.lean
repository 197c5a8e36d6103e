/- A part of the proof. -/
import Derived.Test.YtphjcjmipikfjaaGreatDoorLa
import Derived.Test.YtphjcjmipikfjaaGreatDoorVd
import Derived.Test.YtphjcjmipikfjaaGreatDoorKd
set_option linter.all false
set_option maxRecDepth 100000
namespace Go.Ab.B
open Go.Proofs
section
variable {hbs : BsOk Tryz.prog}
theorem vc_ref01_Has (m : Nat) (l : S.Rows) (x : Int) (Q : AV → Heap → Prop) :
 (((LoopGo (ex (cs3 hbs) 995) 0 m_ref01_Has_l1 ⟨(.nd (.nd .lf (.c (.p (.int .i64 x))) (.nd .lf (.c (.p (.int .i64 (0 : Int)))) .lf)) (.c (.p (.isl 1 m (S.val l)))) (.nd (.nd .lf (.c (.p (.bool false))) .lf) .any .lf)), []⟩ (.br (S.from_ (S.neL l x) m 0) (.e (.exit 0) ⟨.lf, []⟩) (.e .ret ⟨(.nd .lf .any (.nd (.nd .lf (.c (.p (.bool true))) .lf) .any .lf)), []⟩))) ∧
 (BrP (S.from_ (S.neL l x) m 0)
 (Q (.c (.p (.bool false))) [])
 (Q (.c (.p (.bool true))) [])))) = (ex (cs3 hbs) 1000 0 m_ref01_Has ⟨ofL 0 [.c (.p (.isl 1 m (S.val l))), .c (.p (.int .i64 x))] .lf, []⟩ (endK F_ref01_Has.rs (fun r H => .pr (Q r H)) fun _ _ => .no)).hold2 := by kernel_rfl
theorem vs_ref01_Has (fu i : Nat) (m : Nat) (l : S.Rows) (x : Int) (Q : AX → St → Prop) :
 ((BrP (decide (((i : Nat) : Int) < ((m : Nat) : Int)))
 (CdP (.rng ((i : Nat) : Int) m)
  (BrP ((l i 0) == x)
  (Q .ret ⟨(.nd (.nd (.nd (.nd (.nd .lf (.c (.p (.int .i64 (l i 0)))) .lf) (.c (.p (.isl 1 m (S.val l)))) .lf) .any .lf) (.c (.p (.int .i64 x))) (.nd (.nd (.nd .lf (.c (.p (.bool true))) .lf) (.c (.p (.bool true))) .lf) (.c (.p (.int .i64 ((i : Nat) : Int)))) (.nd .lf (.c (.p (.int .i64 ((i : Nat) : Int)))) .lf))) (.c (.p (.isl 1 m (S.val l)))) (.nd (.nd (.nd (.nd .lf (.c (.p (.int .i64 x))) .lf) (.c (.p (.int .i64 ((m : Nat) : Int)))) .lf) (.c (.p (.bool true))) (.nd .lf (.c (.p (.isl 1 m (S.val l)))) .lf)) .any (.nd .lf (.c (.p (.int .i64 ((i : Nat) : Int)))) (.nd .lf (.c (.p (.ipt 1 (S.val l i)))) .lf)))), []⟩)
  (CdP (.i64 (((i : Nat) : Int) + (1 : Int)))
   (Q .normal ⟨(.nd (.nd (.nd (.nd (.nd .lf (.c (.p (.int .i64 (l i 0)))) .lf) (.c (.p (.isl 1 m (S.val l)))) .lf) .any (.nd .lf (.c (.p (.int .i64 (((i : Nat) : Int) + (1 : Int))))) .lf)) (.c (.p (.int .i64 x))) (.nd (.nd (.nd .lf (.c (.p (.bool false))) .lf) (.c (.p (.bool true))) .lf) (.c (.p (.int .i64 (((i : Nat) : Int) + (1 : Int))))) (.nd .lf (.c (.p (.int .i64 ((i : Nat) : Int)))) .lf))) (.c (.p (.isl 1 m (S.val l)))) (.nd (.nd (.nd (.nd .lf (.c (.p (.int .i64 x))) .lf) (.c (.p (.int .i64 ((m : Nat) : Int)))) .lf) .any (.nd .lf (.c (.p (.isl 1 m (S.val l)))) .lf)) .any (.nd (.nd .lf (.c (.p (.int .i64 ((i : Nat) : Int)))) .lf) (.c (.p (.int .i64 ((i : Nat) : Int)))) (.nd .lf (.c (.p (.ipt 1 (S.val l i)))) .lf)))), []⟩))))
 (Q (.exit 0) ⟨(.nd (.nd (.nd (.nd .lf (.c (.p (.isl 1 m (S.val l)))) .lf) .any .lf) (.c (.p (.int .i64 x))) (.nd (.nd .lf (.c (.p (.bool false))) .lf) (.c (.p (.int .i64 ((i : Nat) : Int)))) .lf)) (.c (.p (.isl 1 m (S.val l)))) (.nd (.nd (.nd .lf (.c (.p (.int .i64 ((m : Nat) : Int)))) .lf) .any .lf) .any (.nd .lf (.c (.p (.int .i64 ((i : Nat) : Int)))) .lf))), []⟩))) = (ex (cs3 hbs) (fu + 60) 0 m_ref01_Has_l1 ⟨setAll [(.h, .c (.p (.isl 1 m (S.val l)))), (.o .h, .c (.p (.int .i64 x))), (.o (.i .h), .c (.p (.int .i64 i)))], []⟩ (fun e s => .pr (Q e s))).hold2 := by kernel_rfl
theorem vc_water_ignore (ra le mo : Int) (n : Nat) (r : S.Rows) (x : Nat) (Q : AV → Heap → Prop) :
 (((LoopGo (ex (cs3 hbs) 994) 0 m_water_ignore_l1 ⟨(.nd (.nd (.nd .lf .any (.nd .lf (.c (.p (.int .i64 (0 : Int)))) .lf)) (.c (.p (.int .u64 ((x : Nat) : Int)))) (.nd (.nd .lf (.c (.p (.isl 4 n (S.val r)))) .lf) (.c (.p .nsl)) .lf)) (.ag [(.p (.int .i64 ra)), (.p (.int .i64 le)), (.p (.int .i64 mo)), (.p (.isl 4 n (S.val r)))]) (.nd (.nd (.nd .lf (.c (.pt 0 3)) .lf) (.c (.pt 1 0)) .lf) (.c (.pt 0 0)) (.nd (.nd .lf (.c (.p (.int .i64 ((n : Nat) : Int)))) .lf) .any .lf))), [(some (.box t_api_Gauge [(.p (.int .i64 ra)), (.p (.int .i64 le)), (.p (.int .i64 mo)), (.p (.isl 4 n (S.val r)))])), (some (.box t_api_Gauge [(.p (.int .i64 (0 : Int))), (.p (.int .i64 (0 : Int))), (.p (.int .i64 (0 : Int))), (.p .nsl)]))]⟩ (.e (.exit 0) ⟨(.nd (.nd .lf .any (.nd .lf (.c (.sl 2 0 (S.kpN (S.qB x) r n))) .lf)) .any (.nd (.nd .lf (.c (.pt 1 0)) .lf) (.c (.pt 0 0)) .lf)), [(some (.box t_api_Gauge [(.p (.int .i64 ra)), (.p (.int .i64 le)), (.p (.int .i64 mo)), (.p (.isl 4 n (S.val r)))])), (some (.box t_api_Gauge [(.p (.int .i64 (0 : Int))), (.p (.int .i64 (0 : Int))), (.p (.int .i64 (0 : Int))), (.p .nsl)])), (some (.arr 4 74 (S.kpN (S.qB x) r n) (S.val (S.kpR (S.qB x) r n)) []))]⟩)) ∧
 (Q (.ag [(.p (.int .i64 ra)), (.p (.int .i64 le)), (.p (.int .i64 mo)), (.sl 2 0 (S.kpN (S.qB x) r n))]) [(some (.box t_api_Gauge [(.p (.int .i64 ra)), (.p (.int .i64 le)), (.p (.int .i64 mo)), (.sl 2 0 (S.kpN (S.qB x) r n))])), (some (.box t_api_Gauge [(.p (.int .i64 ra)), (.p (.int .i64 le)), (.p (.int .i64 mo)), (.sl 2 0 (S.kpN (S.qB x) r n))])), (some (.arr 4 74 (S.kpN (S.qB x) r n) (S.val (S.kpR (S.qB x) r n)) []))]))) = (ex (cs3 hbs) 1000 0 m_water_ignore ⟨ofL 0 [.ag (gC ra le mo n (S.val r)), .c (.p (.int .u64 x))] .lf, []⟩ (endK F_water_ignore.rs (fun r H => .pr (Q r H)) fun _ _ => .no)).hold2 := by kernel_rfl
theorem vs_water_ignore (fu i k : Nat) (ra le mo : Int) (n : Nat) (r : S.Rows) (x : Nat) (g : S.Rows) (Q : AX → St → Prop) :
 ((BrP (decide (((i : Nat) : Int) < ((n : Nat) : Int)))
 (CdP (.rng ((i : Nat) : Int) n)
  ((FCall (cs3 hbs) f_water_sourceSet_has [(.c (.p (.int .u64 ((x : Nat) : Int)))), (.c (.p (.int .i64 (r i 3))))] (.c (.p (.bool (S.hasB x (Int.toNat (r i 3)))))) []) ∧
  (BrP (S.hasB x (Int.toNat (r i 3)))
  (CdP (.i64 (((i : Nat) : Int) + (1 : Int)))
   (Q .normal ⟨(.nd (.nd (.nd (.nd (.nd .lf (.c (.p (.int .u64 ((x : Nat) : Int)))) .lf) (.c (.pt 3 0)) .lf) .any (.nd (.nd .lf (.c (.p (.bool false))) .lf) (.c (.p (.int .i64 (((i : Nat) : Int) + (1 : Int))))) .lf)) (.c (.p (.int .u64 ((x : Nat) : Int)))) (.nd (.nd (.nd .lf (.c (.p (.int .i64 (r i 3)))) .lf) (.c (.p (.isl 4 n (S.val r)))) .lf) (.c (.sl 2 0 k)) (.nd .lf (.c (.p (.ipt 4 (S.val r i)))) .lf))) .any (.nd (.nd (.nd (.nd .lf (.c (.pt 3 3)) .lf) .any (.nd .lf (.c (.p (.int .i64 (((i : Nat) : Int) + (1 : Int))))) .lf)) (.c (.pt 1 0)) (.nd .lf (.c (.p (.bool true))) .lf)) (.c (.pt 0 0)) (.nd (.nd (.nd .lf (.c (.p (.bool true))) .lf) (.c (.p (.int .i64 ((n : Nat) : Int)))) .lf) .any (.nd .lf (.ag [(.p (.int .i64 (r i 0))), (.p (.int .i64 (r i 1))), (.p (.int .i64 (r i 2))), (.p (.int .i64 (r i 3)))]) .lf)))), [(some (.box t_api_Gauge [(.p (.int .i64 ra)), (.p (.int .i64 le)), (.p (.int .i64 mo)), (.p (.isl 4 n (S.val r)))])), (some (.box t_api_Gauge [(.p (.int .i64 (0 : Int))), (.p (.int .i64 (0 : Int))), (.p (.int .i64 (0 : Int))), (.p .nsl)])), (some (.arr 4 74 k (S.val g) [])), (some (.box t_api_Reading [(.p (.int .i64 (r i 0))), (.p (.int .i64 (r i 1))), (.p (.int .i64 (r i 2))), (.p (.int .i64 (r i 3)))]))]⟩))
  (CdP (.le k k)
   (CdP (.le k k)
   (CdP (.le ((k + 1) * 32) 140737488355328)
   (CdP (.i64 (((i : Nat) : Int) + (1 : Int)))
   (Q .normal ⟨(.nd (.nd (.nd (.nd (.nd .lf (.c (.p (.int .u64 ((x : Nat) : Int)))) .lf) (.c (.pt 3 0)) (.nd .lf (.c (.sl 4 0 (k + 1))) .lf)) .any (.nd (.nd .lf (.c (.p (.bool true))) .lf) (.c (.p (.int .i64 (((i : Nat) : Int) + (1 : Int))))) .lf)) (.c (.p (.int .u64 ((x : Nat) : Int)))) (.nd (.nd (.nd .lf (.c (.p (.int .i64 (r i 3)))) .lf) (.c (.p (.isl 4 n (S.val r)))) .lf) (.c (.sl 4 0 (k + 1))) (.nd (.nd .lf (.ag [(.p (.int .i64 (r i 0))), (.p (.int .i64 (r i 1))), (.p (.int .i64 (r i 2))), (.p (.int .i64 (r i 3)))]) .lf) (.c (.p (.ipt 4 (S.val r i)))) .lf))) .any (.nd (.nd (.nd (.nd .lf (.c (.pt 3 3)) .lf) .any (.nd .lf (.c (.p (.int .i64 (((i : Nat) : Int) + (1 : Int))))) .lf)) (.c (.pt 1 0)) (.nd (.nd .lf (.c (.sl 2 0 k)) .lf) (.c (.p (.bool true))) .lf)) (.c (.pt 0 0)) (.nd (.nd (.nd .lf (.c (.p (.bool false))) .lf) (.c (.p (.int .i64 ((n : Nat) : Int)))) .lf) .any (.nd (.nd .lf (.c (.p (.isl 4 1 (fun x11 => (fun x12 => (List.getD [(.int .i64 (r i 0)), (.int .i64 (r i 1)), (.int .i64 (r i 2)), (.int .i64 (r i 3))] ((x11 * 4) + x12) .npt)))))) .lf) (.ag [(.p (.int .i64 (r i 0))), (.p (.int .i64 (r i 1))), (.p (.int .i64 (r i 2))), (.p (.int .i64 (r i 3)))]) .lf)))), [(some (.box t_api_Gauge [(.p (.int .i64 ra)), (.p (.int .i64 le)), (.p (.int .i64 mo)), (.p (.isl 4 n (S.val r)))])), (some (.box t_api_Gauge [(.p (.int .i64 (0 : Int))), (.p (.int .i64 (0 : Int))), (.p (.int .i64 (0 : Int))), (.p .nsl)])), (some (.arr 4 74 k (S.val g) [])), (some (.box t_api_Reading [(.p (.int .i64 (r i 0))), (.p (.int .i64 (r i 1))), (.p (.int .i64 (r i 2))), (.p (.int .i64 (r i 3)))])), (some (.arr 4 74 (k + 1) (fun x11 => (fun x12 => (if (x11 < k) then (.int .i64 (g x11 x12)) else (List.getD [(.int .i64 (r i 0)), (.int .i64 (r i 1)), (.int .i64 (r i 2)), (.int .i64 (r i 3))] (((x11 - k) * 4) + x12) .npt)))) [2]))]⟩))))))))
 (Q (.exit 0) ⟨(.nd (.nd (.nd .lf .any (.nd .lf (.c (.p (.int .i64 ((i : Nat) : Int)))) .lf)) (.c (.p (.int .u64 ((x : Nat) : Int)))) (.nd (.nd .lf (.c (.p (.isl 4 n (S.val r)))) .lf) (.c (.sl 2 0 k)) .lf)) .any (.nd (.nd .lf (.c (.pt 1 0)) (.nd .lf (.c (.p (.bool false))) .lf)) (.c (.pt 0 0)) (.nd (.nd .lf (.c (.p (.int .i64 ((n : Nat) : Int)))) .lf) .any .lf))), [(some (.box t_api_Gauge [(.p (.int .i64 ra)), (.p (.int .i64 le)), (.p (.int .i64 mo)), (.p (.isl 4 n (S.val r)))])), (some (.box t_api_Gauge [(.p (.int .i64 (0 : Int))), (.p (.int .i64 (0 : Int))), (.p (.int .i64 (0 : Int))), (.p .nsl)])), (some (.arr 4 74 k (S.val g) []))]⟩))) = (ex (cs3 hbs) (fu + 60) 0 m_water_ignore_l1 ⟨setAll [(.o .h, .c (.p (.int .u64 x))), (.o (.o (.i .h)), .c (.p (.int .i64 i))), (.o (.i .h), .c (.sl 2 0 k)), (.o (.i (.o .h)), .c (.p (.isl 4 n (S.val r)))), (.i .h, .c (.pt 0 0)), (.i (.o .h), .c (.pt 1 0)), (.i (.i (.o .h)), .c (.p (.int .i64 n)))], [some (.box t_api_Gauge (gC ra le mo n (S.val r))), some (.box t_api_Gauge [.p (.int .i64 0), .p (.int .i64 0), .p (.int .i64 0), .p .nsl]), some (.arr 4 t_api_Reading k (S.val g) [])]⟩ (fun e s => .pr (Q e s))).hold2 := by kernel_rfl
theorem vc_ref01_Ignored (ra le mo : Int) (n : Nat) (r : S.Rows) (m : Nat) (l : S.Rows) (Q : AV → Heap → Prop) :
 (((LoopGo (ex (cs3 hbs) 994) 0 m_ref01_Ignored_l1 ⟨(.nd (.nd (.nd (.nd .lf (.c (.pt 0 0)) .lf) .any (.nd .lf (.c (.pt 0 2)) .lf)) (.c (.p (.isl 1 m (S.val l)))) (.nd (.nd .lf (.c (.pt 0 1)) .lf) (.c (.pt 2 0)) (.nd .lf (.ag [(.p (.int .i64 ra)), (.p (.int .i64 le)), (.p (.int .i64 mo)), (.p .nsl)]) .lf))) (.ag [(.p (.int .i64 ra)), (.p (.int .i64 le)), (.p (.int .i64 mo)), (.p (.isl 4 n (S.val r)))]) (.nd (.nd (.nd .lf (.c (.p (.int .i64 ra))) .lf) (.c (.pt 1 0)) (.nd .lf (.c (.p (.int .i64 mo))) .lf)) (.c (.pt 0 0)) (.nd (.nd .lf (.c (.p (.int .i64 le))) .lf) (.c (.p (.int .i64 (0 : Int)))) .lf))), [(some (.box t_api_Gauge [(.p (.int .i64 ra)), (.p (.int .i64 le)), (.p (.int .i64 mo)), (.p (.isl 4 n (S.val r)))])), (some (.box t_api_Gauge [(.p (.int .i64 (0 : Int))), (.p (.int .i64 (0 : Int))), (.p (.int .i64 (0 : Int))), (.p .nsl)])), (some (.box t_api_Gauge [(.p (.int .i64 ra)), (.p (.int .i64 le)), (.p (.int .i64 mo)), (.p .nsl)]))]⟩ (.e (.exit 0) ⟨(.nd (.nd .lf .any (.nd .lf (.c (.pt 2 0)) .lf)) .any (.nd (.nd .lf (.c (.pt 1 0)) .lf) .any .lf)), [(some (.box t_api_Gauge [(.p (.int .i64 ra)), (.p (.int .i64 le)), (.p (.int .i64 mo)), (.p (.isl 4 n (S.val r)))])), (some (.box t_api_Gauge [(.p (.int .i64 (0 : Int))), (.p (.int .i64 (0 : Int))), (.p (.int .i64 (0 : Int))), (.p .nsl)])), (some (.box t_api_Gauge [(.p (.int .i64 ra)), (.p (.int .i64 le)), (.p (.int .i64 mo)), (.sl 3 0 (S.kpN (S.qL m l) r n))])), (some (.arr 4 74 (S.kpN (S.qL m l) r n) (S.val (S.kpR (S.qL m l) r n)) []))]⟩)) ∧
 (Q (.ag [(.p (.int .i64 ra)), (.p (.int .i64 le)), (.p (.int .i64 mo)), (.sl 3 0 (S.kpN (S.qL m l) r n))]) [(some (.box t_api_Gauge [(.p (.int .i64 ra)), (.p (.int .i64 le)), (.p (.int .i64 mo)), (.p (.isl 4 n (S.val r)))])), (some (.box t_api_Gauge [(.p (.int .i64 ra)), (.p (.int .i64 le)), (.p (.int .i64 mo)), (.sl 3 0 (S.kpN (S.qL m l) r n))])), (some (.box t_api_Gauge [(.p (.int .i64 ra)), (.p (.int .i64 le)), (.p (.int .i64 mo)), (.sl 3 0 (S.kpN (S.qL m l) r n))])), (some (.arr 4 74 (S.kpN (S.qL m l) r n) (S.val (S.kpR (S.qL m l) r n)) []))]))) = (ex (cs3 hbs) 1000 0 m_ref01_Ignored ⟨ofL 0 [.ag (gC ra le mo n (S.val r)), .c (.p (.isl 1 m (S.val l)))] .lf, []⟩ (endK F_ref01_Ignored.rs (fun r H => .pr (Q r H)) fun _ _ => .no)).hold2 := by kernel_rfl
theorem vs_ref01_Ignored (fu i k : Nat) (ra le mo : Int) (n : Nat) (r : S.Rows) (m : Nat) (l : S.Rows) (g : S.Rows) (Q : AX → St → Prop) :
 ((BrP (decide (((i : Nat) : Int) < ((n : Nat) : Int)))
 (CdP (.rng ((i : Nat) : Int) n)
  ((FCall (cs3 hbs) f_ref01_Has [(.c (.p (.isl 1 m (S.val l)))), (.c (.p (.int .i64 (r i 3))))] (.c (.p (.bool (S.hasL m l (r i 3))))) []) ∧
  (BrP (S.hasL m l (r i 3))
  (CdP (.i64 (((i : Nat) : Int) + (1 : Int)))
   (Q .normal ⟨(.nd (.nd (.nd (.nd (.nd .lf (.c (.pt 0 3)) .lf) .any (.nd .lf (.c (.p (.isl 4 n (S.val r)))) .lf)) .any (.nd (.nd .lf (.c (.p (.int .i64 ((i : Nat) : Int)))) .lf) .any (.nd .lf (.c (.p (.int .i64 (r i 3)))) .lf))) (.c (.p (.isl 1 m (S.val l)))) (.nd (.nd (.nd .lf (.c (.p (.int .i64 ((n : Nat) : Int)))) .lf) .any (.nd .lf (.c (.p (.ipt 4 (S.val r i)))) .lf)) (.c (.pt 2 0)) (.nd (.nd .lf (.c (.p (.isl 1 m (S.val l)))) .lf) .any (.nd .lf (.c (.p (.bool false))) .lf)))) .any (.nd (.nd (.nd (.nd .lf (.c (.p (.isl 4 n (S.val r)))) .lf) .any (.nd .lf (.c (.p (.int .i64 ((i : Nat) : Int)))) .lf)) (.c (.pt 1 0)) (.nd (.nd .lf (.c (.p (.int .i64 (((i : Nat) : Int) + (1 : Int))))) .lf) .any (.nd .lf (.c (.p (.bool true))) .lf))) (.c (.pt 0 0)) (.nd (.nd (.nd .lf (.c (.p (.bool true))) .lf) .any (.nd .lf (.c (.p (.ipt 1 (fun x12 => (.int .i64 (r i (3 + x12))))))) .lf)) (.c (.p (.int .i64 (((i : Nat) : Int) + (1 : Int))))) (.nd (.nd .lf (.c (.pt 0 3)) .lf) (.c (.p (.int .i64 ((i : Nat) : Int)))) .lf)))), [(some (.box t_api_Gauge [(.p (.int .i64 ra)), (.p (.int .i64 le)), (.p (.int .i64 mo)), (.p (.isl 4 n (S.val r)))])), (some (.box t_api_Gauge [(.p (.int .i64 (0 : Int))), (.p (.int .i64 (0 : Int))), (.p (.int .i64 (0 : Int))), (.p .nsl)])), (some (.box t_api_Gauge [(.p (.int .i64 ra)), (.p (.int .i64 le)), (.p (.int .i64 mo)), (.sl 3 0 k)])), (some (.arr 4 74 k (S.val g) []))]⟩))
  (CdP (.rng ((i : Nat) : Int) n)
   (CdP (.le k k)
   (CdP (.le k k)
   (CdP (.le ((k + 1) * 32) 140737488355328)
   (CdP (.i64 (((i : Nat) : Int) + (1 : Int)))
   (Q .normal ⟨(.nd (.nd (.nd (.nd (.nd (.nd .lf (.c (.sl 3 0 k)) .lf) (.c (.pt 0 3)) .lf) .any (.nd (.nd .lf (.c (.pt 2 3)) .lf) (.c (.p (.isl 4 n (S.val r)))) .lf)) .any (.nd (.nd (.nd .lf (.c (.p (.ipt 4 (S.val r i)))) .lf) (.c (.p (.int .i64 ((i : Nat) : Int)))) .lf) .any (.nd .lf (.c (.p (.int .i64 (r i 3)))) .lf))) (.c (.p (.isl 1 m (S.val l)))) (.nd (.nd (.nd (.nd .lf (.c (.p (.isl 4 n (S.val r)))) .lf) (.c (.p (.int .i64 ((n : Nat) : Int)))) .lf) .any (.nd .lf (.c (.p (.ipt 4 (S.val r i)))) .lf)) (.c (.pt 2 0)) (.nd (.nd (.nd .lf (.c (.p (.isl 4 1 (fun x12 => (fun x13 => (List.getD [(.int .i64 (r i 0)), (.int .i64 (r i 1)), (.int .i64 (r i 2)), (.int .i64 (r i 3))] ((x12 * 4) + x13) .npt)))))) .lf) (.c (.p (.isl 1 m (S.val l)))) .lf) .any (.nd .lf (.c (.p (.bool true))) .lf)))) .any (.nd (.nd (.nd (.nd (.nd .lf (.c (.pt 0 3)) .lf) (.c (.p (.isl 4 n (S.val r)))) .lf) .any (.nd .lf (.c (.p (.int .i64 ((i : Nat) : Int)))) .lf)) (.c (.pt 1 0)) (.nd (.nd (.nd .lf (.ag [(.p (.int .i64 (r i 0))), (.p (.int .i64 (r i 1))), (.p (.int .i64 (r i 2))), (.p (.int .i64 (r i 3)))]) .lf) (.c (.p (.int .i64 (((i : Nat) : Int) + (1 : Int))))) .lf) .any (.nd .lf (.c (.p (.bool false))) .lf))) (.c (.pt 0 0)) (.nd (.nd (.nd (.nd .lf (.c (.p (.int .i64 ((i : Nat) : Int)))) .lf) (.c (.p (.bool true))) .lf) .any (.nd .lf (.c (.p (.ipt 1 (fun x12 => (.int .i64 (r i (3 + x12))))))) .lf)) (.c (.p (.int .i64 (((i : Nat) : Int) + (1 : Int))))) (.nd (.nd (.nd .lf (.c (.sl 4 0 (k + 1))) .lf) (.c (.pt 0 3)) .lf) (.c (.p (.int .i64 ((i : Nat) : Int)))) (.nd .lf (.c (.pt 2 3)) .lf))))), [(some (.box t_api_Gauge [(.p (.int .i64 ra)), (.p (.int .i64 le)), (.p (.int .i64 mo)), (.p (.isl 4 n (S.val r)))])), (some (.box t_api_Gauge [(.p (.int .i64 (0 : Int))), (.p (.int .i64 (0 : Int))), (.p (.int .i64 (0 : Int))), (.p .nsl)])), (some (.box t_api_Gauge [(.p (.int .i64 ra)), (.p (.int .i64 le)), (.p (.int .i64 mo)), (.sl 4 0 (k + 1))])), (some (.arr 4 74 k (S.val g) [])), (some (.arr 4 74 (k + 1) (fun x12 => (fun x13 => (if (x12 < k) then (.int .i64 (g x12 x13)) else (List.getD [(.int .i64 (r i 0)), (.int .i64 (r i 1)), (.int .i64 (r i 2)), (.int .i64 (r i 3))] (((x12 - k) * 4) + x13) .npt)))) [3]))]⟩)))))))))
 (Q (.exit 0) ⟨(.nd (.nd (.nd (.nd (.nd .lf (.c (.pt 0 3)) .lf) .any .lf) .any .lf) (.c (.p (.isl 1 m (S.val l)))) (.nd (.nd (.nd .lf (.c (.p (.int .i64 ((n : Nat) : Int)))) .lf) .any .lf) (.c (.pt 2 0)) .lf)) .any (.nd (.nd (.nd (.nd .lf (.c (.p (.isl 4 n (S.val r)))) .lf) .any .lf) (.c (.pt 1 0)) .lf) (.c (.pt 0 0)) (.nd (.nd (.nd .lf (.c (.p (.bool false))) .lf) .any .lf) (.c (.p (.int .i64 ((i : Nat) : Int)))) (.nd .lf (.c (.p (.int .i64 ((i : Nat) : Int)))) .lf)))), [(some (.box t_api_Gauge [(.p (.int .i64 ra)), (.p (.int .i64 le)), (.p (.int .i64 mo)), (.p (.isl 4 n (S.val r)))])), (some (.box t_api_Gauge [(.p (.int .i64 (0 : Int))), (.p (.int .i64 (0 : Int))), (.p (.int .i64 (0 : Int))), (.p .nsl)])), (some (.box t_api_Gauge [(.p (.int .i64 ra)), (.p (.int .i64 le)), (.p (.int .i64 mo)), (.sl 3 0 k)])), (some (.arr 4 74 k (S.val g) []))]⟩))) = (ex (cs3 hbs) (fu + 60) 0 m_ref01_Ignored_l1 ⟨setAll [(.o .h, .c (.p (.isl 1 m (S.val l)))), (.o (.i .h), .c (.pt 2 0)), (.i .h, .c (.pt 0 0)), (.i (.o .h), .c (.pt 1 0)), (.i (.i .h), .c (.p (.int .i64 i)))], [some (.box t_api_Gauge (gC ra le mo n (S.val r))), some (.box t_api_Gauge [.p (.int .i64 0), .p (.int .i64 0), .p (.int .i64 0), .p .nsl]), some (.box t_api_Gauge [.p (.int .i64 ra), .p (.int .i64 le), .p (.int .i64 mo), .sl 3 0 k]), some (.arr 4 t_api_Reading k (S.val g) [])]⟩ (fun e s => .pr (Q e s))).hold2 := by kernel_rfl
theorem vc_water_leastBlame (ra le mo : Int) (n : Nat) (r : S.Rows) (Q : AV → Heap → Prop) :
 (((LoopGo (ex (cs3 hbs) 993) 0 m_water_leastBlame_l1 ⟨(.nd (.nd (.nd (.nd .lf (.c (.p (.int .i64 (0 : Int)))) .lf) (.c (.p (.int .u64 (255 : Int)))) .lf) (.c (.pt 0 0)) .lf) (.ag [(.p (.int .i64 ra)), (.p (.int .i64 le)), (.p (.int .i64 mo)), (.p (.isl 4 n (S.val r)))]) (.nd .lf (.c (.p (.int .u64 (0 : Int)))) .lf)), [(some (.box t_api_Gauge [(.p (.int .i64 ra)), (.p (.int .i64 le)), (.p (.int .i64 mo)), (.p (.isl 4 n (S.val r)))]))]⟩ (.br (S.blB (S.okB ra le mo n r) 0) (.e (.exit 0) ⟨(.nd (.nd (.nd .lf (.c (.p (.int .u64 (S.cmp255 (S.inS (S.okB ra le mo n r) (S.blS (S.okB ra le mo n r) 0) 0))))) .lf) .any .lf) .any .lf), [(some (.box t_api_Gauge [(.p (.int .i64 ra)), (.p (.int .i64 le)), (.p (.int .i64 mo)), (.p (.isl 4 n (S.val r)))]))]⟩) (.e (.exit 0) ⟨(.nd (.nd (.nd .lf (.c (.p (.int .u64 (255 : Int)))) .lf) .any .lf) .any .lf), [(some (.box t_api_Gauge [(.p (.int .i64 ra)), (.p (.int .i64 le)), (.p (.int .i64 mo)), (.p (.isl 4 n (S.val r)))]))]⟩))) ∧
 (BrP (S.blB (S.okB ra le mo n r) 0)
 (Q (.c (.p (.int .u64 (S.cmp255 (S.inS (S.okB ra le mo n r) (S.blS (S.okB ra le mo n r) 0) 0))))) [(some (.box t_api_Gauge [(.p (.int .i64 ra)), (.p (.int .i64 le)), (.p (.int .i64 mo)), (.p (.isl 4 n (S.val r)))]))])
 (Q (.c (.p (.int .u64 (255 : Int)))) [(some (.box t_api_Gauge [(.p (.int .i64 ra)), (.p (.int .i64 le)), (.p (.int .i64 mo)), (.p (.isl 4 n (S.val r)))]))])))) = (ex (cs3 hbs) 1000 0 m_water_leastBlame ⟨ofL 0 [.ag (gC ra le mo n (S.val r))] .lf, []⟩ (endK F_water_leastBlame.rs (fun r H => .pr (Q r H)) fun _ _ => .no)).hold2 := by kernel_rfl
theorem vs_water_leastBlame1 (fu z : Nat) (ra le mo : Int) (n : Nat) (r : S.Rows) (Q : AX → St → Prop) :
 ((BrP (decide (((z : Nat) : Int) < (8 : Int)))
 ((LoopGo (ex (cs3 hbs) (fu + 52)) 0 m_water_leastBlame_l2 ⟨(.nd (.nd (.nd (.nd .lf (.c (.p (.int .i64 ((z : Nat) : Int)))) .lf) (.c (.p (.int .u64 (255 : Int)))) .lf) (.c (.pt 0 0)) (.nd (.nd .lf (.c (.p (.int .i64 ((z : Nat) : Int)))) .lf) .any .lf)) .any (.nd (.nd (.nd .lf (.c (.p (.bool true))) .lf) (.c (.p (.int .i64 ((z : Nat) : Int)))) .lf) .any (.nd (.nd .lf (.c (.p (.int .u64 (0 : Int)))) .lf) .any .lf))), [(some (.box t_api_Gauge [(.p (.int .i64 ra)), (.p (.int .i64 le)), (.p (.int .i64 mo)), (.p (.isl 4 n (S.val r)))]))]⟩ (.br (decide ((S.inS (S.okB ra le mo n r) z 0) < 256)) (.e (.exit 0) ⟨(.nd (.nd (.nd .lf (.c (.p (.int .u64 (S.cmp255 (S.inS (S.okB ra le mo n r) z 0))))) .lf) .any .lf) .any .lf), [(some (.box t_api_Gauge [(.p (.int .i64 ra)), (.p (.int .i64 le)), (.p (.int .i64 mo)), (.p (.isl 4 n (S.val r)))]))]⟩) (.e (.exit 2) ⟨(.nd (.nd (.nd (.nd .lf (.c (.p (.int .i64 ((z : Nat) : Int)))) .lf) (.c (.p (.int .u64 (255 : Int)))) .lf) (.c (.pt 0 0)) .lf) .any .lf), [(some (.box t_api_Gauge [(.p (.int .i64 ra)), (.p (.int .i64 le)), (.p (.int .i64 mo)), (.p (.isl 4 n (S.val r)))]))]⟩))) ∧
  (BrP (decide ((S.inS (S.okB ra le mo n r) z 0) < 256))
  (Q (.exit 0) ⟨(.nd (.nd (.nd .lf (.c (.p (.int .u64 (S.cmp255 (S.inS (S.okB ra le mo n r) z 0))))) .lf) .any .lf) .any .lf), [(some (.box t_api_Gauge [(.p (.int .i64 ra)), (.p (.int .i64 le)), (.p (.int .i64 mo)), (.p (.isl 4 n (S.val r)))]))]⟩)
  (CdP (.i64 (((z : Nat) : Int) + (1 : Int)))
   (Q .normal ⟨(.nd (.nd (.nd (.nd .lf (.c (.p (.int .i64 (((z : Nat) : Int) + (1 : Int))))) .lf) (.c (.p (.int .u64 (255 : Int)))) (.nd .lf .any (.nd .lf (.c (.p (.int .i64 (((z : Nat) : Int) + (1 : Int))))) .lf))) (.c (.pt 0 0)) .lf) .any .lf), [(some (.box t_api_Gauge [(.p (.int .i64 ra)), (.p (.int .i64 le)), (.p (.int .i64 mo)), (.p (.isl 4 n (S.val r)))]))]⟩))))
 (Q (.exit 0) ⟨(.nd (.nd (.nd (.nd .lf (.c (.p (.int .i64 ((z : Nat) : Int)))) .lf) (.c (.p (.int .u64 (255 : Int)))) .lf) (.c (.pt 0 0)) .lf) .any (.nd (.nd (.nd .lf (.c (.p (.bool false))) .lf) .any .lf) .any .lf)), [(some (.box t_api_Gauge [(.p (.int .i64 ra)), (.p (.int .i64 le)), (.p (.int .i64 mo)), (.p (.isl 4 n (S.val r)))]))]⟩))) = (ex (cs3 hbs) (fu + 60) 0 m_water_leastBlame_l1 ⟨setAll [(.o .h, .c (.pt 0 0)), (.o (.o .h), .c (.p (.int .u64 255))), (.o (.o (.o .h)), .c (.p (.int .i64 z)))], [some (.box t_api_Gauge (gC ra le mo n (S.val r)))]⟩ (fun e s => .pr (Q e s))).hold2 := by kernel_rfl
theorem vs_water_leastBlame2 (fu z i : Nat) (ra le mo : Int) (n : Nat) (r : S.Rows) (Q : AX → St → Prop) :
 ((BrP (decide (((i : Nat) : Int) < (256 : Int)))
 ((FCall (cs3 hbs) f_water_sourceSet_size [(.c (.p (.int .u64 (IntKind.wrap .u64 ((255 : Int) - ((i : Nat) : Int))))))] (.c (.p (.int .i64 (((S.pc (Int.toNat (IntKind.wrap .u64 ((255 : Int) - ((i : Nat) : Int))))) : Nat) : Int)))) []) ∧
  (BrP ((((S.pc (Int.toNat (IntKind.wrap .u64 ((255 : Int) - ((i : Nat) : Int))))) : Nat) : Int) == ((z : Nat) : Int))
  ((FCall (cs3 hbs) f_water_ignore [(.ag [(.p (.int .i64 ra)), (.p (.int .i64 le)), (.p (.int .i64 mo)), (.p (.isl 4 n (S.val r)))]), (.c (.p (.int .u64 (IntKind.wrap .u64 ((255 : Int) - ((i : Nat) : Int))))))] (.ag [(.p (.int .i64 ra)), (.p (.int .i64 le)), (.p (.int .i64 mo)), (.p (.isl 4 (S.kpN (S.qB (Int.toNat (IntKind.wrap .u64 ((255 : Int) - ((i : Nat) : Int))))) r n) (S.val (S.kpR (S.qB (Int.toNat (IntKind.wrap .u64 ((255 : Int) - ((i : Nat) : Int))))) r n))))]) []) ∧
   ((FCall (cs3 hbs) f_water_hasCourse [(.ag [(.p (.int .i64 ra)), (.p (.int .i64 le)), (.p (.int .i64 mo)), (.p (.isl 4 (S.kpN (S.qB (Int.toNat (IntKind.wrap .u64 ((255 : Int) - ((i : Nat) : Int))))) r n) (S.val (S.kpR (S.qB (Int.toNat (IntKind.wrap .u64 ((255 : Int) - ((i : Nat) : Int))))) r n))))])] (.c (.p (.bool (!(S.clF ra le mo (S.kpR (S.qB (Int.toNat (IntKind.wrap .u64 ((255 : Int) - ((i : Nat) : Int))))) r n) (S.kpN (S.qB (Int.toNat (IntKind.wrap .u64 ((255 : Int) - ((i : Nat) : Int))))) r n)))))) []) ∧
   (BrP (!(S.clF ra le mo (S.kpR (S.qB (Int.toNat (IntKind.wrap .u64 ((255 : Int) - ((i : Nat) : Int))))) r n) (S.kpN (S.qB (Int.toNat (IntKind.wrap .u64 ((255 : Int) - ((i : Nat) : Int))))) r n)))
   (Q (.exit 0) ⟨(.nd (.nd (.nd (.nd (.nd .lf (.c (.p (.int .u64 (IntKind.wrap .u64 ((255 : Int) - ((i : Nat) : Int)))))) .lf) (.c (.p (.int .i64 ((z : Nat) : Int)))) (.nd .lf (.c (.p (.bool true))) .lf)) (.c (.p (.int .u64 (IntKind.wrap .u64 ((255 : Int) - ((i : Nat) : Int)))))) (.nd (.nd .lf (.c (.p (.bool true))) .lf) (.c (.p (.bool true))) .lf)) (.c (.pt 0 0)) (.nd (.nd (.nd .lf (.c (.p (.int .i64 ((z : Nat) : Int)))) .lf) .any (.nd .lf (.c (.p (.int .u64 (IntKind.wrap .u64 ((255 : Int) - ((i : Nat) : Int)))))) .lf)) (.c (.p (.int .u64 ((i : Nat) : Int)))) (.nd (.nd .lf (.c (.p (.int .u64 (IntKind.wrap .u64 ((255 : Int) - ((i : Nat) : Int)))))) .lf) (.c (.p (.int .u64 ((i : Nat) : Int)))) .lf))) .any (.nd (.nd (.nd (.nd .lf (.c (.p (.int .i64 (((S.pc (Int.toNat (IntKind.wrap .u64 ((255 : Int) - ((i : Nat) : Int))))) : Nat) : Int)))) .lf) .any (.nd .lf (.c (.p (.bool true))) .lf)) (.c (.p (.int .i64 ((z : Nat) : Int)))) (.nd (.nd .lf (.ag [(.p (.int .i64 ra)), (.p (.int .i64 le)), (.p (.int .i64 mo)), (.p (.isl 4 n (S.val r)))]) .lf) (.c (.p (.int .u64 ((i : Nat) : Int)))) .lf)) .any (.nd (.nd (.nd .lf (.c (.p (.bool true))) .lf) (.c (.p (.int .u64 ((i : Nat) : Int)))) .lf) (.c (.p (.int .u64 (IntKind.wrap .u64 ((255 : Int) - ((i : Nat) : Int)))))) (.nd (.nd .lf (.ag [(.p (.int .i64 ra)), (.p (.int .i64 le)), (.p (.int .i64 mo)), (.p (.isl 4 (S.kpN (S.qB (Int.toNat (IntKind.wrap .u64 ((255 : Int) - ((i : Nat) : Int))))) r n) (S.val (S.kpR (S.qB (Int.toNat (IntKind.wrap .u64 ((255 : Int) - ((i : Nat) : Int))))) r n))))]) .lf) (.c (.p (.int .u64 (IntKind.wrap .u64 ((255 : Int) - ((i : Nat) : Int)))))) .lf)))), [(some (.box t_api_Gauge [(.p (.int .i64 ra)), (.p (.int .i64 le)), (.p (.int .i64 mo)), (.p (.isl 4 n (S.val r)))]))]⟩)
   (Q .normal ⟨(.nd (.nd (.nd (.nd (.nd .lf (.c (.p (.int .u64 (IntKind.wrap .u64 ((255 : Int) - ((i : Nat) : Int)))))) .lf) (.c (.p (.int .i64 ((z : Nat) : Int)))) (.nd .lf (.c (.p (.bool false))) .lf)) (.c (.p (.int .u64 (255 : Int)))) (.nd (.nd .lf (.c (.p (.bool true))) .lf) (.c (.p (.bool true))) .lf)) (.c (.pt 0 0)) (.nd (.nd (.nd .lf (.c (.p (.int .i64 ((z : Nat) : Int)))) .lf) .any .lf) (.c (.p (.int .u64 ((i : Nat) : Int)))) (.nd (.nd .lf (.c (.p (.int .u64 (IntKind.wrap .u64 ((255 : Int) - ((i : Nat) : Int)))))) .lf) (.c (.p (.int .u64 ((i : Nat) : Int)))) .lf))) .any (.nd (.nd (.nd (.nd .lf (.c (.p (.int .i64 (((S.pc (Int.toNat (IntKind.wrap .u64 ((255 : Int) - ((i : Nat) : Int))))) : Nat) : Int)))) .lf) .any (.nd .lf (.c (.p (.bool false))) .lf)) (.c (.p (.int .i64 ((z : Nat) : Int)))) (.nd (.nd .lf (.ag [(.p (.int .i64 ra)), (.p (.int .i64 le)), (.p (.int .i64 mo)), (.p (.isl 4 n (S.val r)))]) .lf) (.c (.p (.int .u64 ((i : Nat) : Int)))) .lf)) .any (.nd (.nd (.nd .lf (.c (.p (.bool true))) .lf) (.c (.p (.int .u64 (IntKind.wrap .u64 (((i : Nat) : Int) + (1 : Int)))))) (.nd .lf (.c (.p (.int .u64 (IntKind.wrap .u64 (((i : Nat) : Int) + (1 : Int)))))) .lf)) (.c (.p (.int .u64 (IntKind.wrap .u64 ((255 : Int) - ((i : Nat) : Int)))))) (.nd (.nd .lf (.ag [(.p (.int .i64 ra)), (.p (.int .i64 le)), (.p (.int .i64 mo)), (.p (.isl 4 (S.kpN (S.qB (Int.toNat (IntKind.wrap .u64 ((255 : Int) - ((i : Nat) : Int))))) r n) (S.val (S.kpR (S.qB (Int.toNat (IntKind.wrap .u64 ((255 : Int) - ((i : Nat) : Int))))) r n))))]) .lf) (.c (.p (.int .u64 (IntKind.wrap .u64 ((255 : Int) - ((i : Nat) : Int)))))) .lf)))), [(some (.box t_api_Gauge [(.p (.int .i64 ra)), (.p (.int .i64 le)), (.p (.int .i64 mo)), (.p (.isl 4 n (S.val r)))]))]⟩))))
  (Q .normal ⟨(.nd (.nd (.nd (.nd (.nd .lf (.c (.p (.int .u64 (IntKind.wrap .u64 ((255 : Int) - ((i : Nat) : Int)))))) .lf) (.c (.p (.int .i64 ((z : Nat) : Int)))) (.nd .lf (.tp []) .lf)) (.c (.p (.int .u64 (255 : Int)))) (.nd (.nd .lf (.c (.p (.bool false))) .lf) (.c (.p (.bool true))) .lf)) (.c (.pt 0 0)) (.nd (.nd (.nd .lf (.c (.p (.int .i64 ((z : Nat) : Int)))) .lf) .any .lf) (.c (.p (.int .u64 ((i : Nat) : Int)))) (.nd (.nd .lf (.tp []) .lf) (.c (.p (.int .u64 ((i : Nat) : Int)))) .lf))) .any (.nd (.nd (.nd (.nd .lf (.c (.p (.int .i64 (((S.pc (Int.toNat (IntKind.wrap .u64 ((255 : Int) - ((i : Nat) : Int))))) : Nat) : Int)))) .lf) .any (.nd .lf (.c (.p (.bool false))) .lf)) (.c (.p (.int .i64 ((z : Nat) : Int)))) (.nd (.nd .lf (.tp []) .lf) (.c (.p (.int .u64 ((i : Nat) : Int)))) .lf)) .any (.nd (.nd (.nd .lf (.c (.p (.bool false))) .lf) (.c (.p (.int .u64 (IntKind.wrap .u64 (((i : Nat) : Int) + (1 : Int)))))) (.nd .lf (.c (.p (.int .u64 (IntKind.wrap .u64 (((i : Nat) : Int) + (1 : Int)))))) .lf)) (.c (.p (.int .u64 (IntKind.wrap .u64 ((255 : Int) - ((i : Nat) : Int)))))) (.nd (.nd .lf (.tp []) .lf) (.c (.p (.int .u64 (IntKind.wrap .u64 ((255 : Int) - ((i : Nat) : Int)))))) .lf)))), [(some (.box t_api_Gauge [(.p (.int .i64 ra)), (.p (.int .i64 le)), (.p (.int .i64 mo)), (.p (.isl 4 n (S.val r)))]))]⟩)))
 (Q (.exit 2) ⟨(.nd (.nd (.nd (.nd .lf (.c (.p (.int .i64 ((z : Nat) : Int)))) .lf) (.c (.p (.int .u64 (255 : Int)))) (.nd .lf (.c (.p (.bool false))) .lf)) (.c (.pt 0 0)) .lf) .any (.nd (.nd .lf (.c (.p (.int .i64 ((z : Nat) : Int)))) .lf) .any (.nd (.nd .lf (.c (.p (.int .u64 ((i : Nat) : Int)))) .lf) .any .lf))), [(some (.box t_api_Gauge [(.p (.int .i64 ra)), (.p (.int .i64 le)), (.p (.int .i64 mo)), (.p (.isl 4 n (S.val r)))]))]⟩))) = (ex (cs3 hbs) (fu + 60) 0 m_water_leastBlame_l2 ⟨setAll [(.o .h, .c (.pt 0 0)), (.o (.o .h), .c (.p (.int .u64 255))), (.o (.o (.o .h)), .c (.p (.int .i64 z))), (.i (.o .h), .c (.p (.int .i64 z))), (.i (.i (.o .h)), .c (.p (.int .u64 i)))], [some (.box t_api_Gauge (gC ra le mo n (S.val r)))]⟩ (fun e s => .pr (Q e s))).hold2 := by kernel_rfl
theorem vc_ref01_Blame (ra le mo : Int) (n : Nat) (r : S.Rows) (Q : AV → Heap → Prop) :
 (((LoopGo (ex (cs3 hbs) 995) 0 m_ref01_Blame_l1 ⟨(.nd (.nd (.nd .lf (.c (.p (.int .i64 (0 : Int)))) .lf) (.c (.pt 0 0)) .lf) (.ag [(.p (.int .i64 ra)), (.p (.int .i64 le)), (.p (.int .i64 mo)), (.p (.isl 4 n (S.val r)))]) (.nd .lf (.c (.p .nsl)) .lf)), [(some (.box t_api_Gauge [(.p (.int .i64 ra)), (.p (.int .i64 le)), (.p (.int .i64 mo)), (.p (.isl 4 n (S.val r)))]))]⟩ (.br (S.blB (S.okB ra le mo n r) 0) (.e .ret ⟨(.nd .lf .any (.nd .lf (.c (.p (.isl 1 (S.pc (S.blX (S.okB ra le mo n r) 0)) (S.val (S.bitR (S.blX (S.okB ra le mo n r) 0)))))) .lf)), [(some (.box t_api_Gauge [(.p (.int .i64 ra)), (.p (.int .i64 le)), (.p (.int .i64 mo)), (.p (.isl 4 n (S.val r)))]))]⟩) (.e (.exit 0) ⟨.lf, [(some (.box t_api_Gauge [(.p (.int .i64 ra)), (.p (.int .i64 le)), (.p (.int .i64 mo)), (.p (.isl 4 n (S.val r)))]))]⟩))) ∧
 (BrP (S.blB (S.okB ra le mo n r) 0)
 (Q (.c (.p (.isl 1 (S.pc (S.blX (S.okB ra le mo n r) 0)) (S.val (S.bitR (S.blX (S.okB ra le mo n r) 0)))))) [(some (.box t_api_Gauge [(.p (.int .i64 ra)), (.p (.int .i64 le)), (.p (.int .i64 mo)), (.p (.isl 4 n (S.val r)))]))])
 ((FCall (cs3 hbs) f_ref01_Sets [(.c (.p (.int .i64 (8 : Int)))), (.c (.p (.int .i64 (8 : Int))))] (.c (.p (.isl 1 (S.stN 8) (fun x6 => (fun x7 => (.isl 1 (S.pc (S.stX 8 x6)) (S.val (S.bitR (S.stX 8 x6))))))))) []) ∧
  (Q (.c (.p (.isl 1 (S.pc (S.stX 8 0)) (S.val (S.bitR (S.stX 8 0)))))) [(some (.box t_api_Gauge [(.p (.int .i64 ra)), (.p (.int .i64 le)), (.p (.int .i64 mo)), (.p (.isl 4 n (S.val r)))]))]))))) = (ex (cs3 hbs) 1000 0 m_ref01_Blame ⟨ofL 0 [.ag (gC ra le mo n (S.val r))] .lf, []⟩ (endK F_ref01_Blame.rs (fun r H => .pr (Q r H)) fun _ _ => .no)).hold2 := by kernel_rfl
theorem vs_ref01_Blame1 (fu z : Nat) (ra le mo : Int) (n : Nat) (r : S.Rows) (Q : AX → St → Prop) :
 ((BrP (decide (((z : Nat) : Int) < (8 : Int)))
 ((FCall (cs3 hbs) f_ref01_Sets [(.c (.p (.int .i64 (8 : Int)))), (.c (.p (.int .i64 ((z : Nat) : Int))))] (.c (.p (.isl 1 (S.stN z) (fun x8 => (fun x9 => (.isl 1 (S.pc (S.stX z x8)) (S.val (S.bitR (S.stX z x8))))))))) []) ∧
  ((LoopGo (ex (cs3 hbs) (fu + 53)) 0 m_ref01_Blame_l2 ⟨(.nd (.nd (.nd .lf (.c (.p (.int .i64 ((z : Nat) : Int)))) .lf) (.c (.pt 0 0)) (.nd (.nd .lf (.c (.p (.int .i64 ((z : Nat) : Int)))) .lf) (.c (.p (.int .i64 (0 : Int)))) (.nd .lf (.c (.p (.int .i64 ((z : Nat) : Int)))) .lf))) .any (.nd (.nd .lf (.c (.p (.isl 1 (S.stN z) (fun x8 => (fun x9 => (.isl 1 (S.pc (S.stX z x8)) (S.val (S.bitR (S.stX z x8))))))))) .lf) .any (.nd (.nd .lf (.c (.p (.bool true))) .lf) .any (.nd .lf (.c (.p (.isl 1 (S.stN z) (fun x8 => (fun x9 => (.isl 1 (S.pc (S.stX z x8)) (S.val (S.bitR (S.stX z x8))))))))) .lf)))), [(some (.box t_api_Gauge [(.p (.int .i64 ra)), (.p (.int .i64 le)), (.p (.int .i64 mo)), (.p (.isl 4 n (S.val r)))]))]⟩ (.br (decide ((S.rI (S.okB ra le mo n r) z 0) < (S.stN z))) (.e .ret ⟨(.nd .lf .any (.nd .lf (.c (.p (.isl 1 (S.pc (S.stX z (S.rI (S.okB ra le mo n r) z 0))) (S.val (S.bitR (S.stX z (S.rI (S.okB ra le mo n r) z 0))))))) .lf)), [(some (.box t_api_Gauge [(.p (.int .i64 ra)), (.p (.int .i64 le)), (.p (.int .i64 mo)), (.p (.isl 4 n (S.val r)))]))]⟩) (.e (.exit 2) ⟨(.nd (.nd (.nd .lf (.c (.p (.int .i64 ((z : Nat) : Int)))) .lf) (.c (.pt 0 0)) .lf) .any .lf), [(some (.box t_api_Gauge [(.p (.int .i64 ra)), (.p (.int .i64 le)), (.p (.int .i64 mo)), (.p (.isl 4 n (S.val r)))]))]⟩))) ∧
  (BrP (decide ((S.rI (S.okB ra le mo n r) z 0) < (S.stN z)))
  (Q .ret ⟨(.nd .lf .any (.nd .lf (.c (.p (.isl 1 (S.pc (S.stX z (S.rI (S.okB ra le mo n r) z 0))) (S.val (S.bitR (S.stX z (S.rI (S.okB ra le mo n r) z 0))))))) .lf)), [(some (.box t_api_Gauge [(.p (.int .i64 ra)), (.p (.int .i64 le)), (.p (.int .i64 mo)), (.p (.isl 4 n (S.val r)))]))]⟩)
  (CdP (.i64 (((z : Nat) : Int) + (1 : Int)))
   (Q .normal ⟨(.nd (.nd (.nd .lf (.c (.p (.int .i64 (((z : Nat) : Int) + (1 : Int))))) (.nd .lf (.c (.p (.int .i64 ((z : Nat) : Int)))) .lf)) (.c (.pt 0 0)) .lf) .any (.nd (.nd .lf .any (.nd .lf (.c (.p (.int .i64 (((z : Nat) : Int) + (1 : Int))))) .lf)) .any .lf)), [(some (.box t_api_Gauge [(.p (.int .i64 ra)), (.p (.int .i64 le)), (.p (.int .i64 mo)), (.p (.isl 4 n (S.val r)))]))]⟩)))))
 (Q (.exit 0) ⟨(.nd (.nd (.nd .lf (.c (.p (.int .i64 ((z : Nat) : Int)))) .lf) (.c (.pt 0 0)) (.nd (.nd .lf (.c (.p (.int .i64 ((z : Nat) : Int)))) .lf) .any .lf)) .any (.nd .lf .any (.nd (.nd .lf (.c (.p (.bool false))) .lf) .any .lf))), [(some (.box t_api_Gauge [(.p (.int .i64 ra)), (.p (.int .i64 le)), (.p (.int .i64 mo)), (.p (.isl 4 n (S.val r)))]))]⟩))) = (ex (cs3 hbs) (fu + 60) 0 m_ref01_Blame_l1 ⟨setAll [(.o .h, .c (.pt 0 0)), (.o (.o .h), .c (.p (.int .i64 z)))], [some (.box t_api_Gauge (gC ra le mo n (S.val r)))]⟩ (fun e s => .pr (Q e s))).hold2 := by kernel_rfl
theorem vs_ref01_Blame2 (fu z i : Nat) (ra le mo : Int) (n : Nat) (r : S.Rows) (Q : AX → St → Prop) :
 ((BrP (decide (((i : Nat) : Int) < (((S.stN z) : Nat) : Int)))
 (CdP (.rng ((i : Nat) : Int) (S.stN z))
  ((FCall (cs3 hbs) f_ref01_Ignored [(.ag [(.p (.int .i64 ra)), (.p (.int .i64 le)), (.p (.int .i64 mo)), (.p (.isl 4 n (S.val r)))]), (.c (.p (.isl 1 (S.pc (S.stX z i)) (S.val (S.bitR (S.stX z i))))))] (.ag [(.p (.int .i64 ra)), (.p (.int .i64 le)), (.p (.int .i64 mo)), (.p (.isl 4 (S.kpN (S.qL (S.pc (S.stX z i)) (S.bitR (S.stX z i))) r n) (S.val (S.kpR (S.qL (S.pc (S.stX z i)) (S.bitR (S.stX z i))) r n))))]) []) ∧
  ((FCall (cs3 hbs) f_ref01_Clash [(.ag [(.p (.int .i64 ra)), (.p (.int .i64 le)), (.p (.int .i64 mo)), (.p (.isl 4 (S.kpN (S.qL (S.pc (S.stX z i)) (S.bitR (S.stX z i))) r n) (S.val (S.kpR (S.qL (S.pc (S.stX z i)) (S.bitR (S.stX z i))) r n))))])] (.tp [(.c (.p (.int .i64 (((S.clX ra le mo (S.kpR (S.qL (S.pc (S.stX z i)) (S.bitR (S.stX z i))) r n) (S.kpN (S.qL (S.pc (S.stX z i)) (S.bitR (S.stX z i))) r n)) : Nat) : Int)))), (.c (.p (.int .i64 (((S.clY ra le mo (S.kpR (S.qL (S.pc (S.stX z i)) (S.bitR (S.stX z i))) r n) (S.kpN (S.qL (S.pc (S.stX z i)) (S.bitR (S.stX z i))) r n)) : Nat) : Int)))), (.c (.p (.bool (S.clF ra le mo (S.kpR (S.qL (S.pc (S.stX z i)) (S.bitR (S.stX z i))) r n) (S.kpN (S.qL (S.pc (S.stX z i)) (S.bitR (S.stX z i))) r n)))))]) []) ∧
  (BrP (S.clF ra le mo (S.kpR (S.qL (S.pc (S.stX z i)) (S.bitR (S.stX z i))) r n) (S.kpN (S.qL (S.pc (S.stX z i)) (S.bitR (S.stX z i))) r n))
  (CdP (.i64 (((i : Nat) : Int) + (1 : Int)))
   (Q .normal ⟨(.nd (.nd (.nd (.nd (.nd (.nd .lf (.c (.p (.bool true))) .lf) (.c (.p (.int .i64 ((i : Nat) : Int)))) .lf) (.c (.p (.int .i64 (((S.clY ra le mo (S.kpR (S.qL (S.pc (S.stX z i)) (S.bitR (S.stX z i))) r n) (S.kpN (S.qL (S.pc (S.stX z i)) (S.bitR (S.stX z i))) r n)) : Nat) : Int)))) (.nd .lf (.c (.p (.isl 1 (S.stN z) (fun x9 => (fun x10 => (.isl 1 (S.pc (S.stX z x9)) (S.val (S.bitR (S.stX z x9))))))))) .lf)) (.c (.p (.int .i64 ((z : Nat) : Int)))) (.nd (.nd .lf (.c (.p (.int .i64 ((i : Nat) : Int)))) .lf) .any (.nd .lf (.ag [(.p (.int .i64 ra)), (.p (.int .i64 le)), (.p (.int .i64 mo)), (.p (.isl 4 (S.kpN (S.qL (S.pc (S.stX z i)) (S.bitR (S.stX z i))) r n) (S.val (S.kpR (S.qL (S.pc (S.stX z i)) (S.bitR (S.stX z i))) r n))))]) .lf))) (.c (.pt 0 0)) (.nd (.nd (.nd (.nd .lf (.c (.p (.bool false))) .lf) (.c (.p (.int .i64 (((S.stN z) : Nat) : Int)))) .lf) .any (.nd .lf (.c (.p (.ipt 1 (fun x9 => (.isl 1 (S.pc (S.stX z i)) (S.val (S.bitR (S.stX z i)))))))) .lf)) (.c (.p (.int .i64 (((i : Nat) : Int) + (1 : Int))))) (.nd (.nd .lf (.tp [(.c (.p (.int .i64 (((S.clX ra le mo (S.kpR (S.qL (S.pc (S.stX z i)) (S.bitR (S.stX z i))) r n) (S.kpN (S.qL (S.pc (S.stX z i)) (S.bitR (S.stX z i))) r n)) : Nat) : Int)))), (.c (.p (.int .i64 (((S.clY ra le mo (S.kpR (S.qL (S.pc (S.stX z i)) (S.bitR (S.stX z i))) r n) (S.kpN (S.qL (S.pc (S.stX z i)) (S.bitR (S.stX z i))) r n)) : Nat) : Int)))), (.c (.p (.bool (S.clF ra le mo (S.kpR (S.qL (S.pc (S.stX z i)) (S.bitR (S.stX z i))) r n) (S.kpN (S.qL (S.pc (S.stX z i)) (S.bitR (S.stX z i))) r n)))))]) .lf) .any (.nd .lf (.c (.p (.int .i64 (((S.clX ra le mo (S.kpR (S.qL (S.pc (S.stX z i)) (S.bitR (S.stX z i))) r n) (S.kpN (S.qL (S.pc (S.stX z i)) (S.bitR (S.stX z i))) r n)) : Nat) : Int)))) .lf)))) .any (.nd (.nd (.nd (.nd (.nd .lf (.c (.p (.bool true))) .lf) (.c (.p (.isl 1 (S.stN z) (fun x9 => (fun x10 => (.isl 1 (S.pc (S.stX z x9)) (S.val (S.bitR (S.stX z x9))))))))) .lf) (.c (.p (.bool true))) (.nd .lf (.c (.p (.int .i64 ((i : Nat) : Int)))) .lf)) (.c (.p (.isl 1 (S.stN z) (fun x9 => (fun x10 => (.isl 1 (S.pc (S.stX z x9)) (S.val (S.bitR (S.stX z x9))))))))) (.nd (.nd .lf (.c (.p (.int .i64 (((i : Nat) : Int) + (1 : Int))))) .lf) .any (.nd .lf (.tp [(.c (.p (.int .i64 (((S.clX ra le mo (S.kpR (S.qL (S.pc (S.stX z i)) (S.bitR (S.stX z i))) r n) (S.kpN (S.qL (S.pc (S.stX z i)) (S.bitR (S.stX z i))) r n)) : Nat) : Int)))), (.c (.p (.int .i64 (((S.clY ra le mo (S.kpR (S.qL (S.pc (S.stX z i)) (S.bitR (S.stX z i))) r n) (S.kpN (S.qL (S.pc (S.stX z i)) (S.bitR (S.stX z i))) r n)) : Nat) : Int)))), (.c (.p (.bool (S.clF ra le mo (S.kpR (S.qL (S.pc (S.stX z i)) (S.bitR (S.stX z i))) r n) (S.kpN (S.qL (S.pc (S.stX z i)) (S.bitR (S.stX z i))) r n)))))]) .lf))) .any (.nd (.nd (.nd .lf (.c (.p (.bool true))) .lf) .any (.nd .lf (.c (.p (.isl 1 (S.pc (S.stX z i)) (S.val (S.bitR (S.stX z i)))))) .lf)) (.c (.p (.int .i64 (((S.clX ra le mo (S.kpR (S.qL (S.pc (S.stX z i)) (S.bitR (S.stX z i))) r n) (S.kpN (S.qL (S.pc (S.stX z i)) (S.bitR (S.stX z i))) r n)) : Nat) : Int)))) (.nd (.nd .lf (.ag [(.p (.int .i64 ra)), (.p (.int .i64 le)), (.p (.int .i64 mo)), (.p (.isl 4 n (S.val r)))]) .lf) .any (.nd .lf (.c (.p (.int .i64 (((S.clY ra le mo (S.kpR (S.qL (S.pc (S.stX z i)) (S.bitR (S.stX z i))) r n) (S.kpN (S.qL (S.pc (S.stX z i)) (S.bitR (S.stX z i))) r n)) : Nat) : Int)))) .lf))))), [(some (.box t_api_Gauge [(.p (.int .i64 ra)), (.p (.int .i64 le)), (.p (.int .i64 mo)), (.p (.isl 4 n (S.val r)))]))]⟩))
  (CdP (.rng ((i : Nat) : Int) (S.stN z))
   (Q .ret ⟨(.nd (.nd (.nd (.nd (.nd (.nd .lf (.c (.p (.bool false))) .lf) (.c (.p (.int .i64 ((i : Nat) : Int)))) .lf) (.c (.p (.int .i64 (((S.clY ra le mo (S.kpR (S.qL (S.pc (S.stX z i)) (S.bitR (S.stX z i))) r n) (S.kpN (S.qL (S.pc (S.stX z i)) (S.bitR (S.stX z i))) r n)) : Nat) : Int)))) (.nd .lf (.c (.p (.isl 1 (S.stN z) (fun x9 => (fun x10 => (.isl 1 (S.pc (S.stX z x9)) (S.val (S.bitR (S.stX z x9))))))))) .lf)) (.c (.p (.int .i64 ((z : Nat) : Int)))) (.nd (.nd (.nd .lf (.c (.p (.int .i64 ((i : Nat) : Int)))) .lf) .any .lf) .any (.nd .lf (.ag [(.p (.int .i64 ra)), (.p (.int .i64 le)), (.p (.int .i64 mo)), (.p (.isl 4 (S.kpN (S.qL (S.pc (S.stX z i)) (S.bitR (S.stX z i))) r n) (S.val (S.kpR (S.qL (S.pc (S.stX z i)) (S.bitR (S.stX z i))) r n))))]) .lf))) (.c (.pt 0 0)) (.nd (.nd (.nd (.nd .lf (.c (.p (.bool true))) .lf) (.c (.p (.int .i64 (((S.stN z) : Nat) : Int)))) .lf) .any (.nd .lf (.c (.p (.ipt 1 (fun x9 => (.isl 1 (S.pc (S.stX z i)) (S.val (S.bitR (S.stX z i)))))))) .lf)) (.c (.p (.int .i64 ((i : Nat) : Int)))) (.nd (.nd (.nd .lf (.c (.p (.isl 1 (S.pc (S.stX z i)) (S.val (S.bitR (S.stX z i)))))) .lf) (.tp [(.c (.p (.int .i64 (((S.clX ra le mo (S.kpR (S.qL (S.pc (S.stX z i)) (S.bitR (S.stX z i))) r n) (S.kpN (S.qL (S.pc (S.stX z i)) (S.bitR (S.stX z i))) r n)) : Nat) : Int)))), (.c (.p (.int .i64 (((S.clY ra le mo (S.kpR (S.qL (S.pc (S.stX z i)) (S.bitR (S.stX z i))) r n) (S.kpN (S.qL (S.pc (S.stX z i)) (S.bitR (S.stX z i))) r n)) : Nat) : Int)))), (.c (.p (.bool (S.clF ra le mo (S.kpR (S.qL (S.pc (S.stX z i)) (S.bitR (S.stX z i))) r n) (S.kpN (S.qL (S.pc (S.stX z i)) (S.bitR (S.stX z i))) r n)))))]) .lf) .any (.nd .lf (.c (.p (.int .i64 (((S.clX ra le mo (S.kpR (S.qL (S.pc (S.stX z i)) (S.bitR (S.stX z i))) r n) (S.kpN (S.qL (S.pc (S.stX z i)) (S.bitR (S.stX z i))) r n)) : Nat) : Int)))) .lf)))) .any (.nd (.nd (.nd (.nd (.nd .lf (.c (.p (.bool false))) .lf) (.c (.p (.isl 1 (S.stN z) (fun x9 => (fun x10 => (.isl 1 (S.pc (S.stX z x9)) (S.val (S.bitR (S.stX z x9))))))))) .lf) (.c (.p (.bool false))) (.nd .lf (.c (.p (.int .i64 ((i : Nat) : Int)))) .lf)) (.c (.p (.isl 1 (S.stN z) (fun x9 => (fun x10 => (.isl 1 (S.pc (S.stX z x9)) (S.val (S.bitR (S.stX z x9))))))))) (.nd (.nd (.nd .lf (.c (.p (.ipt 1 (fun x9 => (.isl 1 (S.pc (S.stX z i)) (S.val (S.bitR (S.stX z i)))))))) .lf) .any .lf) .any (.nd .lf (.tp [(.c (.p (.int .i64 (((S.clX ra le mo (S.kpR (S.qL (S.pc (S.stX z i)) (S.bitR (S.stX z i))) r n) (S.kpN (S.qL (S.pc (S.stX z i)) (S.bitR (S.stX z i))) r n)) : Nat) : Int)))), (.c (.p (.int .i64 (((S.clY ra le mo (S.kpR (S.qL (S.pc (S.stX z i)) (S.bitR (S.stX z i))) r n) (S.kpN (S.qL (S.pc (S.stX z i)) (S.bitR (S.stX z i))) r n)) : Nat) : Int)))), (.c (.p (.bool (S.clF ra le mo (S.kpR (S.qL (S.pc (S.stX z i)) (S.bitR (S.stX z i))) r n) (S.kpN (S.qL (S.pc (S.stX z i)) (S.bitR (S.stX z i))) r n)))))]) .lf))) (.c (.p (.isl 1 (S.pc (S.stX z i)) (S.val (S.bitR (S.stX z i)))))) (.nd (.nd (.nd (.nd .lf (.c (.p (.isl 1 (S.stN z) (fun x9 => (fun x10 => (.isl 1 (S.pc (S.stX z x9)) (S.val (S.bitR (S.stX z x9))))))))) .lf) (.c (.p (.bool true))) .lf) .any (.nd .lf (.c (.p (.isl 1 (S.pc (S.stX z i)) (S.val (S.bitR (S.stX z i)))))) .lf)) (.c (.p (.int .i64 (((S.clX ra le mo (S.kpR (S.qL (S.pc (S.stX z i)) (S.bitR (S.stX z i))) r n) (S.kpN (S.qL (S.pc (S.stX z i)) (S.bitR (S.stX z i))) r n)) : Nat) : Int)))) (.nd (.nd .lf (.ag [(.p (.int .i64 ra)), (.p (.int .i64 le)), (.p (.int .i64 mo)), (.p (.isl 4 n (S.val r)))]) .lf) .any (.nd .lf (.c (.p (.int .i64 (((S.clY ra le mo (S.kpR (S.qL (S.pc (S.stX z i)) (S.bitR (S.stX z i))) r n) (S.kpN (S.qL (S.pc (S.stX z i)) (S.bitR (S.stX z i))) r n)) : Nat) : Int)))) .lf))))), [(some (.box t_api_Gauge [(.p (.int .i64 ra)), (.p (.int .i64 le)), (.p (.int .i64 mo)), (.p (.isl 4 n (S.val r)))]))]⟩))))))
 (Q (.exit 2) ⟨(.nd (.nd (.nd (.nd (.nd .lf (.c (.p (.int .i64 ((i : Nat) : Int)))) .lf) .any .lf) (.c (.p (.int .i64 ((z : Nat) : Int)))) .lf) (.c (.pt 0 0)) (.nd (.nd (.nd .lf (.c (.p (.int .i64 (((S.stN z) : Nat) : Int)))) .lf) .any .lf) (.c (.p (.int .i64 ((i : Nat) : Int)))) .lf)) .any (.nd (.nd (.nd (.nd .lf (.c (.p (.isl 1 (S.stN z) (fun x9 => (fun x10 => (.isl 1 (S.pc (S.stX z x9)) (S.val (S.bitR (S.stX z x9))))))))) .lf) .any .lf) (.c (.p (.isl 1 (S.stN z) (fun x9 => (fun x10 => (.isl 1 (S.pc (S.stX z x9)) (S.val (S.bitR (S.stX z x9))))))))) .lf) .any (.nd (.nd (.nd .lf (.c (.p (.bool false))) .lf) .any .lf) .any .lf))), [(some (.box t_api_Gauge [(.p (.int .i64 ra)), (.p (.int .i64 le)), (.p (.int .i64 mo)), (.p (.isl 4 n (S.val r)))]))]⟩))) = (ex (cs3 hbs) (fu + 60) 0 m_ref01_Blame_l2 ⟨setAll [(.o .h, .c (.pt 0 0)), (.o (.o .h), .c (.p (.int .i64 z))), (.i (.o .h), .c (.p (.isl 1 (S.stN z) fun i _ => .isl 1 (S.pc (S.stX z i)) (S.val (S.bitR (S.stX z i)))))), (.o (.i .h), .c (.p (.int .i64 i)))], [some (.box t_api_Gauge (gC ra le mo n (S.val r)))]⟩ (fun e s => .pr (Q e s))).hold2 := by kernel_rfl
theorem vc_water_Blame (ra le mo : Int) (n : Nat) (r : S.Rows) (Q : AV → Heap → Prop) :
 (((FCall (cs3 hbs) f_water_Known [(.ag [(.p (.int .i64 ra)), (.p (.int .i64 le)), (.p (.int .i64 mo)), (.p (.isl 4 n (S.val r)))])] (.c (.p (.int .i64 (S.knE ra le mo n r)))) []) ∧
 (BrP ((S.knE ra le mo n r) != (0 : Int))
 (Q (.tp [(.c (.p .nsl)), (.c (.p (.int .i64 (2 : Int))))]) [(some (.box t_api_Gauge [(.p (.int .i64 ra)), (.p (.int .i64 le)), (.p (.int .i64 mo)), (.p (.isl 4 n (S.val r)))]))])
 ((FCall (cs3 hbs) f_water_leastBlame [(.ag [(.p (.int .i64 ra)), (.p (.int .i64 le)), (.p (.int .i64 mo)), (.p (.isl 4 n (S.val r)))])] (.c (.p (.int .u64 (((S.bl (S.okB ra le mo n r)) : Nat) : Int)))) []) ∧
  ((LoopGo (ex (cs3 hbs) 992) 0 m_water_Blame_l1 ⟨(.nd (.nd (.nd (.nd .lf (.ag [(.p (.int .i64 ra)), (.p (.int .i64 le)), (.p (.int .i64 mo)), (.p (.isl 4 n (S.val r)))]) .lf) (.c (.p (.int .i64 (0 : Int)))) (.nd .lf (.c (.p (.int .u64 (((S.bl (S.okB ra le mo n r)) : Nat) : Int)))) .lf)) (.c (.pt 0 0)) (.nd (.nd .lf (.c (.p (.bool false))) .lf) (.c (.p (.int .u64 (((S.bl (S.okB ra le mo n r)) : Nat) : Int)))) .lf)) (.ag [(.p (.int .i64 ra)), (.p (.int .i64 le)), (.p (.int .i64 mo)), (.p (.isl 4 n (S.val r)))]) (.nd (.nd (.nd .lf (.c (.p (.int .i64 (S.knE ra le mo n r)))) .lf) (.c (.p .nsl)) (.nd .lf (.c (.p (.int .i64 (0 : Int)))) .lf)) (.c (.p .nsl)) (.nd (.nd .lf (.ag [(.p (.int .i64 ra)), (.p (.int .i64 le)), (.p (.int .i64 mo)), (.p (.isl 4 n (S.val r)))]) .lf) .any .lf))), [(some (.box t_api_Gauge [(.p (.int .i64 ra)), (.p (.int .i64 le)), (.p (.int .i64 mo)), (.p (.isl 4 n (S.val r)))]))]⟩ (.e (.exit 0) ⟨(.nd .lf .any (.nd (.nd .lf (.c (.sl 1 0 (S.buN (S.bl (S.okB ra le mo n r)) 8))) .lf) .any .lf)), [(some (.box t_api_Gauge [(.p (.int .i64 ra)), (.p (.int .i64 le)), (.p (.int .i64 mo)), (.p (.isl 4 n (S.val r)))])), (some (.arr 1 3 (S.buN (S.bl (S.okB ra le mo n r)) 8) (S.val (S.buR (S.bl (S.okB ra le mo n r)) 8)) []))]⟩)) ∧
  (Q (.tp [(.c (.sl 1 0 (S.buN (S.bl (S.okB ra le mo n r)) 8))), (.c (.p (.int .i64 (0 : Int))))]) [(some (.box t_api_Gauge [(.p (.int .i64 ra)), (.p (.int .i64 le)), (.p (.int .i64 mo)), (.p (.isl 4 n (S.val r)))])), (some (.arr 1 3 (S.buN (S.bl (S.okB ra le mo n r)) 8) (S.val (S.buR (S.bl (S.okB ra le mo n r)) 8)) []))])))))) = (ex (cs3 hbs) 1000 0 m_water_Blame ⟨ofL 0 [.ag (gC ra le mo n (S.val r))] .lf, []⟩ (endK F_water_Blame.rs (fun r H => .pr (Q r H)) fun _ _ => .no)).hold2 := by kernel_rfl
theorem vs_water_Blame (fu z k : Nat) (ra le mo : Int) (n : Nat) (r : S.Rows) (x : Nat) (g : S.Rows) (Q : AX → St → Prop) :
 ((BrP (decide (((z : Nat) : Int) < (8 : Int)))
 ((FCall (cs3 hbs) f_water_sourceSet_has [(.c (.p (.int .u64 ((x : Nat) : Int)))), (.c (.p (.int .i64 ((z : Nat) : Int))))] (.c (.p (.bool (S.hasB x z)))) []) ∧
  (BrP (S.hasB x z)
  (CdP (.le k k)
   (CdP (.le k k)
   (CdP (.le ((k + 1) * 8) 140737488355328)
   (CdP (.i64 (((z : Nat) : Int) + (1 : Int)))
   (Q .normal ⟨(.nd (.nd (.nd (.nd (.nd .lf (.c (.p (.int .u64 ((x : Nat) : Int)))) .lf) .any .lf) .any (.nd (.nd .lf (.c (.p (.int .i64 ((z : Nat) : Int)))) .lf) .any .lf)) .any (.nd (.nd (.nd .lf (.c (.p (.bool true))) .lf) .any .lf) (.c (.p (.int .u64 ((x : Nat) : Int)))) (.nd (.nd .lf (.c (.sl 2 0 (k + 1))) .lf) (.c (.p (.bool true))) .lf))) .any (.nd (.nd (.nd (.nd .lf (.c (.p (.int .i64 ((z : Nat) : Int)))) .lf) .any .lf) (.c (.sl 2 0 (k + 1))) (.nd (.nd .lf (.c (.p (.isl 1 1 (fun x11 => (fun x12 => (List.getD [(.int .i64 ((z : Nat) : Int))] ((x11 * 1) + x12) .npt)))))) .lf) (.c (.p (.int .i64 (((z : Nat) : Int) + (1 : Int))))) .lf)) .any (.nd (.nd (.nd .lf (.c (.sl 1 0 k)) .lf) .any .lf) (.c (.p (.int .i64 ((z : Nat) : Int)))) (.nd (.nd .lf (.c (.p (.int .i64 (((z : Nat) : Int) + (1 : Int))))) .lf) (.c (.p (.int .i64 ((z : Nat) : Int)))) .lf)))), [(some (.box t_api_Gauge [(.p (.int .i64 ra)), (.p (.int .i64 le)), (.p (.int .i64 mo)), (.p (.isl 4 n (S.val r)))])), (some (.arr 1 3 k (S.val g) [])), (some (.arr 1 3 (k + 1) (fun x11 => (fun x12 => (if (x11 < k) then (.int .i64 (g x11 x12)) else (List.getD [(.int .i64 ((z : Nat) : Int))] (((x11 - k) * 1) + x12) .npt)))) [1]))]⟩)))))
  (CdP (.i64 (((z : Nat) : Int) + (1 : Int)))
   (Q .normal ⟨(.nd (.nd (.nd (.nd (.nd .lf (.c (.p (.int .u64 ((x : Nat) : Int)))) .lf) .any .lf) .any .lf) .any (.nd (.nd (.nd .lf (.c (.p (.bool false))) .lf) .any .lf) (.c (.p (.int .u64 ((x : Nat) : Int)))) (.nd .lf (.c (.p (.bool true))) .lf))) .any (.nd (.nd (.nd (.nd .lf (.c (.p (.int .i64 ((z : Nat) : Int)))) .lf) .any .lf) (.c (.sl 1 0 k)) (.nd .lf (.c (.p (.int .i64 (((z : Nat) : Int) + (1 : Int))))) .lf)) .any (.nd .lf (.c (.p (.int .i64 ((z : Nat) : Int)))) (.nd (.nd .lf (.c (.p (.int .i64 (((z : Nat) : Int) + (1 : Int))))) .lf) (.c (.p (.int .i64 ((z : Nat) : Int)))) .lf)))), [(some (.box t_api_Gauge [(.p (.int .i64 ra)), (.p (.int .i64 le)), (.p (.int .i64 mo)), (.p (.isl 4 n (S.val r)))])), (some (.arr 1 3 k (S.val g) []))]⟩))))
 (Q (.exit 0) ⟨(.nd (.nd .lf .any (.nd .lf (.c (.p (.int .u64 ((x : Nat) : Int)))) (.nd .lf (.c (.p (.bool false))) .lf))) .any (.nd (.nd .lf (.c (.sl 1 0 k)) (.nd .lf (.c (.p (.int .i64 ((z : Nat) : Int)))) .lf)) .any .lf)), [(some (.box t_api_Gauge [(.p (.int .i64 ra)), (.p (.int .i64 le)), (.p (.int .i64 mo)), (.p (.isl 4 n (S.val r)))])), (some (.arr 1 3 k (S.val g) []))]⟩))) = (ex (cs3 hbs) (fu + 60) 0 m_water_Blame_l1 ⟨setAll [(.i (.o (.i .h)), .c (.p (.int .i64 z))), (.i (.o .h), .c (.sl 1 0 k)), (.o (.i .h), .c (.p (.int .u64 x)))], [some (.box t_api_Gauge (gC ra le mo n (S.val r))), some (.arr 1 t_int k (S.val g) [])]⟩ (fun e s => .pr (Q e s))).hold2 := by kernel_rfl
theorem vc_ref01_Same (n m : Nat) (a b : S.Rows) (Q : AV → Heap → Prop) :
 ((BrP (((n : Nat) : Int) != ((m : Nat) : Int))
 (Q (.c (.p (.bool false))) [])
 ((LoopGo (ex (cs3 hbs) 994) 0 m_ref01_Same_l1 ⟨(.nd (.nd (.nd (.nd .lf (.c (.p (.int .i64 ((n : Nat) : Int)))) .lf) .any .lf) (.c (.p (.isl 1 m (S.val b)))) (.nd (.nd .lf (.c (.p (.int .i64 ((m : Nat) : Int)))) .lf) (.c (.p (.int .i64 (0 : Int)))) .lf)) (.c (.p (.isl 1 n (S.val a)))) (.nd (.nd (.nd .lf (.c (.p (.isl 1 m (S.val b)))) .lf) (.c (.p (.bool false))) .lf) .any (.nd (.nd .lf (.c (.p (.bool false))) .lf) (.c (.p (.isl 1 n (S.val a)))) .lf))), []⟩ (.br (S.from_ (S.eq1 a b) n 0) (.e (.exit 0) ⟨.lf, []⟩) (.e .ret ⟨(.nd .lf .any (.nd (.nd .lf (.c (.p (.bool false))) .lf) .any .lf)), []⟩))) ∧
  (BrP (S.from_ (S.eq1 a b) n 0)
  (Q (.c (.p (.bool true))) [])
  (Q (.c (.p (.bool false))) []))))) = (ex (cs3 hbs) 1000 0 m_ref01_Same ⟨ofL 0 [.c (.p (.isl 1 n (S.val a))), .c (.p (.isl 1 m (S.val b)))] .lf, []⟩ (endK F_ref01_Same.rs (fun r H => .pr (Q r H)) fun _ _ => .no)).hold2 := by kernel_rfl
theorem vs_ref01_Same (fu i n m : Nat) (a b : S.Rows) (Q : AX → St → Prop) :
 ((BrP (decide (((i : Nat) : Int) < ((n : Nat) : Int)))
 (CdP (.rng ((i : Nat) : Int) n)
  (CdP (.rng ((i : Nat) : Int) m)
  (BrP ((a i 0) != (b i 0))
  (Q .ret ⟨(.nd (.nd (.nd (.nd .lf .any (.nd .lf (.c (.p (.ipt 1 (S.val b i)))) .lf)) .any (.nd (.nd .lf (.c (.p (.ipt 1 (S.val a i)))) .lf) (.c (.p (.int .i64 ((i : Nat) : Int)))) .lf)) (.c (.p (.isl 1 m (S.val b)))) (.nd (.nd (.nd .lf (.c (.p (.isl 1 n (S.val a)))) .lf) .any (.nd .lf (.c (.p (.bool true))) .lf)) (.c (.p (.int .i64 ((i : Nat) : Int)))) (.nd (.nd .lf (.c (.p (.isl 1 m (S.val b)))) .lf) (.c (.p (.int .i64 ((n : Nat) : Int)))) .lf))) (.c (.p (.isl 1 n (S.val a)))) (.nd (.nd (.nd .lf .any (.nd .lf (.c (.p (.int .i64 (b i 0)))) .lf)) (.c (.p (.bool false))) (.nd (.nd .lf (.c (.p (.int .i64 (a i 0)))) .lf) (.c (.p (.isl 1 n (S.val a)))) .lf)) .any (.nd (.nd (.nd .lf (.c (.p (.int .i64 ((i : Nat) : Int)))) .lf) .any .lf) .any (.nd (.nd .lf (.c (.p (.int .i64 ((i : Nat) : Int)))) .lf) (.c (.p (.bool true))) .lf)))), []⟩)
  (CdP (.i64 (((i : Nat) : Int) + (1 : Int)))
   (Q .normal ⟨(.nd (.nd (.nd (.nd (.nd .lf (.c (.p (.int .i64 ((i : Nat) : Int)))) .lf) .any (.nd .lf (.c (.p (.ipt 1 (S.val b i)))) .lf)) .any (.nd (.nd .lf (.c (.p (.ipt 1 (S.val a i)))) .lf) (.c (.p (.int .i64 ((i : Nat) : Int)))) .lf)) (.c (.p (.isl 1 m (S.val b)))) (.nd (.nd (.nd .lf (.c (.p (.isl 1 n (S.val a)))) .lf) .any (.nd .lf (.c (.p (.bool false))) .lf)) (.c (.p (.int .i64 (((i : Nat) : Int) + (1 : Int))))) (.nd (.nd .lf (.c (.p (.isl 1 m (S.val b)))) .lf) (.c (.p (.int .i64 ((n : Nat) : Int)))) .lf))) (.c (.p (.isl 1 n (S.val a)))) (.nd (.nd (.nd (.nd .lf (.c (.p (.int .i64 (((i : Nat) : Int) + (1 : Int))))) .lf) .any (.nd .lf (.c (.p (.int .i64 (b i 0)))) .lf)) .any (.nd (.nd .lf (.c (.p (.int .i64 (a i 0)))) .lf) (.c (.p (.isl 1 n (S.val a)))) .lf)) .any (.nd (.nd (.nd .lf (.c (.p (.int .i64 ((i : Nat) : Int)))) .lf) .any .lf) .any (.nd (.nd .lf (.c (.p (.int .i64 ((i : Nat) : Int)))) .lf) (.c (.p (.bool true))) .lf)))), []⟩)))))
 (Q (.exit 0) ⟨(.nd (.nd (.nd .lf .any (.nd .lf (.c (.p (.int .i64 ((i : Nat) : Int)))) .lf)) (.c (.p (.isl 1 m (S.val b)))) (.nd .lf (.c (.p (.int .i64 ((i : Nat) : Int)))) (.nd .lf (.c (.p (.int .i64 ((n : Nat) : Int)))) .lf))) (.c (.p (.isl 1 n (S.val a)))) (.nd (.nd .lf .any (.nd .lf (.c (.p (.isl 1 n (S.val a)))) .lf)) .any (.nd .lf .any (.nd .lf (.c (.p (.bool false))) .lf)))), []⟩))) = (ex (cs3 hbs) (fu + 60) 0 m_ref01_Same_l1 ⟨setAll [(.h, .c (.p (.isl 1 n (S.val a)))), (.o .h, .c (.p (.isl 1 m (S.val b)))), (.o (.i .h), .c (.p (.int .i64 i)))], []⟩ (fun e s => .pr (Q e s))).hold2 := by kernel_rfl
theorem vc_law01_WaterBounds (ra le mo : Int) (n : Nat) (r : S.Rows) (Q : AV → Heap → Prop) :
 ((BrP (decide (((n : Nat) : Int) ≤ (40 : Int)))
 ((FCall (cs3 hbs) f_water_Bounds [(.ag [(.p (.int .i64 ra)), (.p (.int .i64 le)), (.p (.int .i64 mo)), (.p (.isl 4 n (S.val r)))])] (.tp [(.c (.p (.isl 2 (S.bN ra le mo n r) (S.val (S.bdR ra le mo n r))))), (.c (.p (.int .i64 (S.bE ra le mo n r))))]) []) ∧
  ((FCall (cs3 hbs) f_water_Clash [(.ag [(.p (.int .i64 ra)), (.p (.int .i64 le)), (.p (.int .i64 mo)), (.p (.isl 4 n (S.val r)))])] (.tp [(.c (.p (.int .i64 (((S.cX ra le mo n r) : Nat) : Int)))), (.c (.p (.int .i64 (((S.cY ra le mo n r) : Nat) : Int)))), (.c (.p (.int .i64 (S.cE ra le mo n r))))]) []) ∧
  ((FCall (cs3 hbs) f_water_Blame [(.ag [(.p (.int .i64 ra)), (.p (.int .i64 le)), (.p (.int .i64 mo)), (.p (.isl 4 n (S.val r)))])] (.tp [(.c (.p (.isl 1 (S.bmN ra le mo n r) (S.val (S.bitR (S.bl (S.okB ra le mo n r))))))), (.c (.p (.int .i64 (S.knE ra le mo n r))))]) []) ∧
  ((FCall (cs3 hbs) f_ref01_Gauge [(.ag [(.p (.int .i64 ra)), (.p (.int .i64 le)), (.p (.int .i64 mo)), (.p (.isl 4 n (S.val r)))])] (.c (.p (.bool (S.ggB ra le mo n r (-(100000 : Int)) (100000 : Int))))) []) ∧
  (BrP (S.ggB ra le mo n r (-(100000 : Int)) (100000 : Int))
  (BrP ((S.knE ra le mo n r) != (0 : Int))
   (Q (.c (.p (.bool false))) [(some (.box t_api_Gauge [(.p (.int .i64 ra)), (.p (.int .i64 le)), (.p (.int .i64 mo)), (.p (.isl 4 n (S.val r)))]))])
   ((FCall (cs3 hbs) f_ref01_Blame [(.ag [(.p (.int .i64 ra)), (.p (.int .i64 le)), (.p (.int .i64 mo)), (.p (.isl 4 n (S.val r)))])] (.c (.p (.isl 1 (S.pc (S.bl (S.okB ra le mo n r))) (S.val (S.bitR (S.bl (S.okB ra le mo n r))))))) []) ∧
    ((FCall (cs3 hbs) f_ref01_Same [(.c (.p (.isl 1 (S.bmN ra le mo n r) (S.val (S.bitR (S.bl (S.okB ra le mo n r))))))), (.c (.p (.isl 1 (S.pc (S.bl (S.okB ra le mo n r))) (S.val (S.bitR (S.bl (S.okB ra le mo n r)))))))] (.c (.p (.bool (S.sm (S.bmN ra le mo n r) (S.pc (S.bl (S.okB ra le mo n r))) (S.bitR (S.bl (S.okB ra le mo n r))) (S.bitR (S.bl (S.okB ra le mo n r))))))) []) ∧
    (BrP (S.sm (S.bmN ra le mo n r) (S.pc (S.bl (S.okB ra le mo n r))) (S.bitR (S.bl (S.okB ra le mo n r))) (S.bitR (S.bl (S.okB ra le mo n r))))
    ((FCall (cs3 hbs) f_ref01_Clash [(.ag [(.p (.int .i64 ra)), (.p (.int .i64 le)), (.p (.int .i64 mo)), (.p (.isl 4 n (S.val r)))])] (.tp [(.c (.p (.int .i64 (((S.clX ra le mo r n) : Nat) : Int)))), (.c (.p (.int .i64 (((S.clY ra le mo r n) : Nat) : Int)))), (.c (.p (.bool (S.clF ra le mo r n))))]) []) ∧
     (BrP (S.clF ra le mo r n)
     (BrP ((S.bE ra le mo n r) == (5 : Int))
      (BrP ((((S.bN ra le mo n r) : Nat) : Int) == (0 : Int))
       (BrP ((S.cE ra le mo n r) == (0 : Int))
        (BrP ((((S.cX ra le mo n r) : Nat) : Int) == (((S.clX ra le mo r n) : Nat) : Int))
         (BrP ((((S.cY ra le mo n r) : Nat) : Int) == (((S.clY ra le mo r n) : Nat) : Int))
          ((FCall (cs3 hbs) f_law01_known [] (.c (.p (.bool true))) []) ∧
           (Q (.c (.p (.bool true))) [(some (.box t_api_Gauge [(.p (.int .i64 ra)), (.p (.int .i64 le)), (.p (.int .i64 mo)), (.p (.isl 4 n (S.val r)))]))]))
          (Q (.c (.p (.bool false))) [(some (.box t_api_Gauge [(.p (.int .i64 ra)), (.p (.int .i64 le)), (.p (.int .i64 mo)), (.p (.isl 4 n (S.val r)))]))]))
         (Q (.c (.p (.bool false))) [(some (.box t_api_Gauge [(.p (.int .i64 ra)), (.p (.int .i64 le)), (.p (.int .i64 mo)), (.p (.isl 4 n (S.val r)))]))]))
        (Q (.c (.p (.bool false))) [(some (.box t_api_Gauge [(.p (.int .i64 ra)), (.p (.int .i64 le)), (.p (.int .i64 mo)), (.p (.isl 4 n (S.val r)))]))]))
       (Q (.c (.p (.bool false))) [(some (.box t_api_Gauge [(.p (.int .i64 ra)), (.p (.int .i64 le)), (.p (.int .i64 mo)), (.p (.isl 4 n (S.val r)))]))]))
      (Q (.c (.p (.bool false))) [(some (.box t_api_Gauge [(.p (.int .i64 ra)), (.p (.int .i64 le)), (.p (.int .i64 mo)), (.p (.isl 4 n (S.val r)))]))]))
     (BrP ((S.bE ra le mo n r) == (0 : Int))
      ((FCall (cs3 hbs) f_ref01_Bounds [(.ag [(.p (.int .i64 ra)), (.p (.int .i64 le)), (.p (.int .i64 mo)), (.p (.isl 4 n (S.val r)))])] (.c (.p (.isl 2 1441 (S.val (S.bdR ra le mo n r))))) []) ∧
       ((FCall (cs3 hbs) f_ref01_SameSpans [(.c (.p (.isl 2 (S.bN ra le mo n r) (S.val (S.bdR ra le mo n r))))), (.c (.p (.isl 2 1441 (S.val (S.bdR ra le mo n r)))))] (.c (.p (.bool ((decide ((S.bN ra le mo n r) = 1441)) && (S.from_ (S.eq2 (S.bdR ra le mo n r) (S.bdR ra le mo n r)) (S.bN ra le mo n r) 0))))) []) ∧
       (BrP ((decide ((S.bN ra le mo n r) = 1441)) && (S.from_ (S.eq2 (S.bdR ra le mo n r) (S.bdR ra le mo n r)) (S.bN ra le mo n r) 0))
       (BrP ((S.cE ra le mo n r) == (6 : Int))
        (BrP ((((S.cX ra le mo n r) : Nat) : Int) == (0 : Int))
         (BrP ((((S.cY ra le mo n r) : Nat) : Int) == (0 : Int))
          ((FCall (cs3 hbs) f_law01_known [] (.c (.p (.bool true))) []) ∧
           (Q (.c (.p (.bool true))) [(some (.box t_api_Gauge [(.p (.int .i64 ra)), (.p (.int .i64 le)), (.p (.int .i64 mo)), (.p (.isl 4 n (S.val r)))]))]))
          (Q (.c (.p (.bool false))) [(some (.box t_api_Gauge [(.p (.int .i64 ra)), (.p (.int .i64 le)), (.p (.int .i64 mo)), (.p (.isl 4 n (S.val r)))]))]))
         (Q (.c (.p (.bool false))) [(some (.box t_api_Gauge [(.p (.int .i64 ra)), (.p (.int .i64 le)), (.p (.int .i64 mo)), (.p (.isl 4 n (S.val r)))]))]))
        (Q (.c (.p (.bool false))) [(some (.box t_api_Gauge [(.p (.int .i64 ra)), (.p (.int .i64 le)), (.p (.int .i64 mo)), (.p (.isl 4 n (S.val r)))]))]))
       (Q (.c (.p (.bool false))) [(some (.box t_api_Gauge [(.p (.int .i64 ra)), (.p (.int .i64 le)), (.p (.int .i64 mo)), (.p (.isl 4 n (S.val r)))]))]))))
      (Q (.c (.p (.bool false))) [(some (.box t_api_Gauge [(.p (.int .i64 ra)), (.p (.int .i64 le)), (.p (.int .i64 mo)), (.p (.isl 4 n (S.val r)))]))]))))
    (Q (.c (.p (.bool false))) [(some (.box t_api_Gauge [(.p (.int .i64 ra)), (.p (.int .i64 le)), (.p (.int .i64 mo)), (.p (.isl 4 n (S.val r)))]))])))))
  (BrP ((S.bE ra le mo n r) == (2 : Int))
   (BrP ((S.cE ra le mo n r) == (2 : Int))
    (BrP ((S.knE ra le mo n r) == (2 : Int))
     (CdP (.i64 ((((S.bN ra le mo n r) : Nat) : Int) + (((S.bmN ra le mo n r) : Nat) : Int)))
      (BrP (((((S.bN ra le mo n r) : Nat) : Int) + (((S.bmN ra le mo n r) : Nat) : Int)) == (0 : Int))
      (BrP ((((S.cX ra le mo n r) : Nat) : Int) == (0 : Int))
       (BrP ((((S.cY ra le mo n r) : Nat) : Int) == (0 : Int))
        ((FCall (cs3 hbs) f_law01_known [] (.c (.p (.bool true))) []) ∧
         (Q (.c (.p (.bool true))) [(some (.box t_api_Gauge [(.p (.int .i64 ra)), (.p (.int .i64 le)), (.p (.int .i64 mo)), (.p (.isl 4 n (S.val r)))]))]))
        (Q (.c (.p (.bool false))) [(some (.box t_api_Gauge [(.p (.int .i64 ra)), (.p (.int .i64 le)), (.p (.int .i64 mo)), (.p (.isl 4 n (S.val r)))]))]))
       (Q (.c (.p (.bool false))) [(some (.box t_api_Gauge [(.p (.int .i64 ra)), (.p (.int .i64 le)), (.p (.int .i64 mo)), (.p (.isl 4 n (S.val r)))]))]))
      (Q (.c (.p (.bool false))) [(some (.box t_api_Gauge [(.p (.int .i64 ra)), (.p (.int .i64 le)), (.p (.int .i64 mo)), (.p (.isl 4 n (S.val r)))]))])))
     (Q (.c (.p (.bool false))) [(some (.box t_api_Gauge [(.p (.int .i64 ra)), (.p (.int .i64 le)), (.p (.int .i64 mo)), (.p (.isl 4 n (S.val r)))]))]))
    (Q (.c (.p (.bool false))) [(some (.box t_api_Gauge [(.p (.int .i64 ra)), (.p (.int .i64 le)), (.p (.int .i64 mo)), (.p (.isl 4 n (S.val r)))]))]))
   (Q (.c (.p (.bool false))) [(some (.box t_api_Gauge [(.p (.int .i64 ra)), (.p (.int .i64 le)), (.p (.int .i64 mo)), (.p (.isl 4 n (S.val r)))]))])))))))
 ((FCall (cs3 hbs) f_law01_known [] (.c (.p (.bool true))) []) ∧
  (Q (.c (.p (.bool true))) [(some (.box t_api_Gauge [(.p (.int .i64 ra)), (.p (.int .i64 le)), (.p (.int .i64 mo)), (.p (.isl 4 n (S.val r)))]))])))) = (ex (cs3 hbs) 1000 0 m_law01_WaterBounds ⟨ofL 0 [.ag (gC ra le mo n (S.val r))] .lf, []⟩ (endK F_law01_WaterBounds.rs (fun r H => .pr (Q r H)) fun _ _ => .no)).hold2 := by kernel_rfl
end
section
variable {hbs : BsOk Tryz.prog}
theorem vc_ref01_Sets (n m : Nat) (Q : AV → Heap → Prop) :
 (((LoopGo (ex (cs3 hbs) 994) 0 m_ref01_Sets_l1 ⟨(.nd (.nd (.nd .lf .any (.nd .lf (.c (.sl 0 0 1)) .lf)) (.c (.p (.int .i64 ((m : Nat) : Int)))) (.nd .lf (.c (.sl 0 0 1)) .lf)) (.c (.p (.int .i64 ((n : Nat) : Int)))) (.nd (.nd .lf (.c (.p .nsl)) .lf) .any (.nd .lf (.c (.p (.int .i64 (0 : Int)))) .lf))), [(some (.arr 1 33 1 (fun x3 => (fun x4 => (List.getD [.nsl] ((x3 * 1) + x4) .npt))) []))]⟩ (.e (.exit 0) ⟨(.nd (.nd .lf .any (.nd .lf (.c (.sl 0 0 (S.lenT (S.setsT n m)))) .lf)) .any .lf), [(some (.arr 1 33 (S.lenT (S.setsT n m)) (S.tab (S.setsT n m)) []))]⟩)) ∧
 (Q (.c (.sl 0 0 (S.lenT (S.setsT n m)))) [(some (.arr 1 33 (S.lenT (S.setsT n m)) (S.tab (S.setsT n m)) []))]))) = (ex (cs3 hbs) 1000 0 m_ref01_Sets ⟨ofL 0 [.c (.p (.int .i64 n)), .c (.p (.int .i64 m))] .lf, []⟩ (endK F_ref01_Sets.rs (fun r H => .pr (Q r H)) fun _ _ => .no)).hold2 := by kernel_rfl
theorem vs_ref01_Sets1 (fu n m i : Nat) (T : List (List Nat)) (Q : AX → St → Prop) :
 ((BrP (decide (((i : Nat) : Int) < ((m : Nat) : Int)))
 ((LoopGo (ex (cs3 hbs) (fu + 52)) 0 m_ref01_Sets_l2 ⟨(.nd (.nd (.nd (.nd .lf (.c (.p .nsl)) .lf) .any .lf) (.c (.p (.int .i64 ((m : Nat) : Int)))) (.nd .lf (.c (.sl 0 0 (S.lenT T))) (.nd .lf (.c (.p (.int .i64 ((m : Nat) : Int)))) .lf))) (.c (.p (.int .i64 ((n : Nat) : Int)))) (.nd (.nd (.nd .lf (.c (.p (.int .i64 (0 : Int)))) .lf) .any (.nd .lf (.c (.p (.int .i64 ((i : Nat) : Int)))) .lf)) .any (.nd .lf (.c (.p (.int .i64 ((i : Nat) : Int)))) (.nd .lf (.c (.p (.bool true))) .lf)))), [(some (.arr 1 33 (S.lenT T) (S.tab T) []))]⟩ (.e (.exit 2) ⟨(.nd (.nd (.nd (.nd .lf (.c (.sl 0 0 (S.lenT (S.setsT n (i + 1))))) .lf) .any .lf) (.c (.p (.int .i64 ((m : Nat) : Int)))) .lf) (.c (.p (.int .i64 ((n : Nat) : Int)))) (.nd .lf .any (.nd .lf (.c (.p (.int .i64 ((i : Nat) : Int)))) .lf))), [(some (.arr 1 33 (S.lenT (S.setsT n (i + 1))) (S.tab (S.setsT n (i + 1))) []))]⟩)) ∧
  (CdP (.i64 (((i : Nat) : Int) + (1 : Int)))
  (Q .normal ⟨(.nd (.nd (.nd (.nd (.nd .lf (.c (.p (.int .i64 ((i : Nat) : Int)))) .lf) (.c (.sl 0 0 (S.lenT (S.setsT n (i + 1))))) .lf) .any (.nd (.nd .lf .any (.nd .lf (.c (.sl 0 0 (S.lenT (S.setsT n (i + 1))))) .lf)) .any .lf)) (.c (.p (.int .i64 ((m : Nat) : Int)))) (.nd .lf (.c (.sl 0 0 (S.lenT (S.setsT n (i + 1))))) .lf)) (.c (.p (.int .i64 ((n : Nat) : Int)))) (.nd (.nd (.nd (.nd .lf (.c (.p (.int .i64 (((i : Nat) : Int) + (1 : Int))))) .lf) .any .lf) .any .lf) .any (.nd .lf (.c (.p (.int .i64 (((i : Nat) : Int) + (1 : Int))))) .lf))), [(some (.arr 1 33 (S.lenT (S.setsT n (i + 1))) (S.tab (S.setsT n (i + 1))) []))]⟩)))
 (Q (.exit 0) ⟨(.nd (.nd .lf (.c (.p (.int .i64 ((m : Nat) : Int)))) (.nd .lf (.c (.sl 0 0 (S.lenT T))) (.nd .lf (.c (.p (.int .i64 ((m : Nat) : Int)))) .lf))) (.c (.p (.int .i64 ((n : Nat) : Int)))) (.nd (.nd .lf .any (.nd .lf (.c (.p (.int .i64 ((i : Nat) : Int)))) .lf)) .any (.nd .lf (.c (.p (.int .i64 ((i : Nat) : Int)))) (.nd .lf (.c (.p (.bool false))) .lf)))), [(some (.arr 1 33 (S.lenT T) (S.tab T) []))]⟩))) = (ex (cs3 hbs) (fu + 60) 0 m_ref01_Sets_l1 ⟨setAll [(.h, .c (.p (.int .i64 n))), (.o .h, .c (.p (.int .i64 m))), (.i (.i .h), .c (.p (.int .i64 i))), (.o (.i .h), .c (.sl 0 0 (S.lenT T)))], [some (.arr 1 t_sl_int (S.lenT T) (S.tab T) [])]⟩ (fun e s => .pr (Q e s))).hold2 := by kernel_rfl
theorem vs_ref01_Sets2 (fu n m i k : Nat) (T N : List (List Nat)) (Q : AX → St → Prop) :
 ((BrP (decide (((k : Nat) : Int) < (((S.lenT T) : Nat) : Int)))
 (BrP (decide (((i : Nat) : Int) > (0 : Int)))
  (CdP (.rng ((k : Nat) : Int) (S.lenT T))
   (CdP (.le ((0 + k) + 1) (S.lenT T))
   (CdP (.i64 (((i : Nat) : Int) - (1 : Int)))
   (CdP (.rng (((i : Nat) : Int) - (1 : Int)) (S.lenR T (0 + k)))
   (CdP (.i64 ((S.rwN T (0 + k) (Int.toNat (((i : Nat) : Int) - (1 : Int))) 0) + (1 : Int)))
   ((LoopGo (ex (cs3 hbs) (fu + 52)) 0 m_ref01_Sets_l3 ⟨(.nd (.nd (.nd (.nd (.nd (.nd .lf (.c (.p (.ipt 1 (S.val (S.rwN T (0 + k)) (Int.toNat (((i : Nat) : Int) - (1 : Int))))))) .lf) .any .lf) (.c (.sl 1 0 (S.lenT N))) (.nd .lf (.c (.p (.int .i64 ((i : Nat) : Int)))) .lf)) .any (.nd (.nd .lf (.c (.p (.int .i64 (((S.lenT T) : Nat) : Int)))) .lf) .any (.nd .lf (.c (.pe 0 (0 + k) 0)) .lf))) (.c (.p (.int .i64 ((m : Nat) : Int)))) (.nd (.nd (.nd (.nd .lf (.c (.p (.int .i64 ((S.rwN T (0 + k) (Int.toNat (((i : Nat) : Int) - (1 : Int))) 0) + (1 : Int))))) .lf) (.c (.p (.int .i64 ((k : Nat) : Int)))) .lf) (.c (.p (.int .i64 ((S.rwN T (0 + k) (Int.toNat (((i : Nat) : Int) - (1 : Int))) 0) + (1 : Int))))) (.nd .lf (.c (.sl 0 0 (S.lenT T))) .lf)) (.c (.sl 0 0 (S.lenT T))) (.nd .lf .any (.nd .lf (.c (.p (.int .i64 ((i : Nat) : Int)))) .lf)))) (.c (.p (.int .i64 ((n : Nat) : Int)))) (.nd (.nd (.nd (.nd (.nd .lf (.c (.p (.int .i64 (S.rwN T (0 + k) (Int.toNat (((i : Nat) : Int) - (1 : Int))) 0)))) .lf) .any .lf) (.c (.p (.int .i64 ((k : Nat) : Int)))) (.nd .lf (.c (.p (.bool true))) .lf)) .any (.nd (.nd .lf (.c (.p (.bool true))) .lf) .any (.nd .lf (.c (.p (.isl 1 (S.lenR T (0 + k)) (S.val (S.rwN T (0 + k)))))) .lf))) .any (.nd (.nd (.nd (.nd .lf (.c (.p (.int .i64 ((S.rwN T (0 + k) (Int.toNat (((i : Nat) : Int) - (1 : Int))) 0) + (1 : Int))))) .lf) (.c (.sl 0 0 (S.lenT T))) .lf) (.c (.p (.int .i64 ((S.rwN T (0 + k) (Int.toNat (((i : Nat) : Int) - (1 : Int))) 0) + (1 : Int))))) (.nd .lf (.c (.p (.int .i64 ((k : Nat) : Int)))) .lf)) (.c (.p (.int .i64 ((i : Nat) : Int)))) (.nd .lf .any (.nd .lf (.c (.p (.int .i64 (((i : Nat) : Int) - (1 : Int))))) .lf))))), [(some (.arr 1 33 (S.lenT T) (S.tab T) [])), (some (.arr 1 33 (S.lenT N) (S.tab N) []))]⟩ (.e (.exit 4) ⟨(.nd (.nd (.nd (.nd .lf (.c (.sl 1 0 (S.lenT (S.flS n (S.setsT n i) (k + 1))))) .lf) .any .lf) (.c (.p (.int .i64 ((m : Nat) : Int)))) (.nd .lf (.c (.sl 0 0 (S.lenT (S.setsT n i)))) .lf)) (.c (.p (.int .i64 ((n : Nat) : Int)))) (.nd (.nd (.nd .lf (.c (.p (.int .i64 ((k : Nat) : Int)))) .lf) .any .lf) .any (.nd .lf (.c (.p (.int .i64 ((i : Nat) : Int)))) .lf))), [(some (.arr 1 33 (S.lenT (S.setsT n i)) (S.tab (S.setsT n i)) [])), (some (.arr 1 33 (S.lenT (S.flS n (S.setsT n i) (k + 1))) (S.tab (S.flS n (S.setsT n i) (k + 1))) []))]⟩)) ∧
   (CdP (.i64 (((k : Nat) : Int) + (1 : Int)))
   (Q .normal ⟨(.nd (.nd (.nd (.nd .lf (.c (.sl 1 0 (S.lenT (S.flS n (S.setsT n i) (k + 1))))) .lf) .any .lf) (.c (.p (.int .i64 ((m : Nat) : Int)))) (.nd .lf (.c (.sl 0 0 (S.lenT (S.setsT n i)))) (.nd (.nd .lf (.c (.p (.int .i64 ((k : Nat) : Int)))) .lf) .any .lf))) (.c (.p (.int .i64 ((n : Nat) : Int)))) (.nd (.nd (.nd .lf (.c (.p (.int .i64 (((k : Nat) : Int) + (1 : Int))))) .lf) .any .lf) .any (.nd .lf (.c (.p (.int .i64 ((i : Nat) : Int)))) (.nd (.nd .lf (.c (.p (.int .i64 (((k : Nat) : Int) + (1 : Int))))) .lf) .any .lf)))), [(some (.arr 1 33 (S.lenT (S.setsT n i)) (S.tab (S.setsT n i)) [])), (some (.arr 1 33 (S.lenT (S.flS n (S.setsT n i) (k + 1))) (S.tab (S.flS n (S.setsT n i) (k + 1))) []))]⟩))))))))
  ((LoopGo (ex (cs3 hbs) (fu + 52)) 0 m_ref01_Sets_l3 ⟨(.nd (.nd (.nd (.nd .lf (.c (.sl 1 0 (S.lenT N))) (.nd .lf (.c (.p (.int .i64 ((i : Nat) : Int)))) .lf)) .any (.nd (.nd .lf (.c (.p (.int .i64 (((S.lenT T) : Nat) : Int)))) .lf) .any .lf)) (.c (.p (.int .i64 ((m : Nat) : Int)))) (.nd (.nd (.nd .lf (.c (.p (.int .i64 ((k : Nat) : Int)))) .lf) (.c (.p (.int .i64 (0 : Int)))) .lf) (.c (.sl 0 0 (S.lenT T))) .lf)) (.c (.p (.int .i64 ((n : Nat) : Int)))) (.nd (.nd (.nd .lf (.c (.p (.int .i64 ((k : Nat) : Int)))) (.nd .lf (.c (.p (.bool false))) .lf)) .any (.nd (.nd .lf (.c (.p (.bool true))) .lf) .any .lf)) .any (.nd (.nd (.nd (.nd .lf (.c (.p (.int .i64 (0 : Int)))) .lf) (.c (.sl 0 0 (S.lenT T))) .lf) (.c (.p (.int .i64 (0 : Int)))) .lf) (.c (.p (.int .i64 ((i : Nat) : Int)))) .lf))), [(some (.arr 1 33 (S.lenT T) (S.tab T) [])), (some (.arr 1 33 (S.lenT N) (S.tab N) []))]⟩ (.e (.exit 4) ⟨(.nd (.nd (.nd (.nd .lf (.c (.sl 1 0 (S.lenT (S.flS n (S.setsT n i) (k + 1))))) .lf) .any .lf) (.c (.p (.int .i64 ((m : Nat) : Int)))) (.nd .lf (.c (.sl 0 0 (S.lenT (S.setsT n i)))) .lf)) (.c (.p (.int .i64 ((n : Nat) : Int)))) (.nd (.nd (.nd .lf (.c (.p (.int .i64 ((k : Nat) : Int)))) .lf) .any .lf) .any (.nd .lf (.c (.p (.int .i64 ((i : Nat) : Int)))) .lf))), [(some (.arr 1 33 (S.lenT (S.setsT n i)) (S.tab (S.setsT n i)) [])), (some (.arr 1 33 (S.lenT (S.flS n (S.setsT n i) (k + 1))) (S.tab (S.flS n (S.setsT n i) (k + 1))) []))]⟩)) ∧
   (CdP (.i64 (((k : Nat) : Int) + (1 : Int)))
   (Q .normal ⟨(.nd (.nd (.nd (.nd .lf (.c (.sl 1 0 (S.lenT (S.flS n (S.setsT n i) (k + 1))))) .lf) .any .lf) (.c (.p (.int .i64 ((m : Nat) : Int)))) (.nd .lf (.c (.sl 0 0 (S.lenT (S.setsT n i)))) (.nd (.nd .lf (.c (.p (.int .i64 ((k : Nat) : Int)))) .lf) .any .lf))) (.c (.p (.int .i64 ((n : Nat) : Int)))) (.nd (.nd (.nd .lf (.c (.p (.int .i64 (((k : Nat) : Int) + (1 : Int))))) .lf) .any .lf) .any (.nd .lf (.c (.p (.int .i64 ((i : Nat) : Int)))) (.nd (.nd .lf (.c (.p (.int .i64 (((k : Nat) : Int) + (1 : Int))))) .lf) .any .lf)))), [(some (.arr 1 33 (S.lenT (S.setsT n i)) (S.tab (S.setsT n i)) [])), (some (.arr 1 33 (S.lenT (S.flS n (S.setsT n i) (k + 1))) (S.tab (S.flS n (S.setsT n i) (k + 1))) []))]⟩))))
 (Q (.exit 2) ⟨(.nd (.nd (.nd (.nd .lf (.c (.sl 1 0 (S.lenT N))) .lf) .any (.nd (.nd .lf (.c (.p (.int .i64 (((S.lenT T) : Nat) : Int)))) .lf) .any .lf)) (.c (.p (.int .i64 ((m : Nat) : Int)))) (.nd (.nd (.nd .lf (.c (.p (.int .i64 ((k : Nat) : Int)))) .lf) .any .lf) (.c (.sl 0 0 (S.lenT T))) .lf)) (.c (.p (.int .i64 ((n : Nat) : Int)))) (.nd (.nd (.nd .lf (.c (.p (.int .i64 ((k : Nat) : Int)))) .lf) .any (.nd (.nd .lf (.c (.p (.bool false))) .lf) .any .lf)) .any (.nd (.nd (.nd .lf (.c (.sl 0 0 (S.lenT T))) .lf) .any .lf) (.c (.p (.int .i64 ((i : Nat) : Int)))) .lf))), [(some (.arr 1 33 (S.lenT T) (S.tab T) [])), (some (.arr 1 33 (S.lenT N) (S.tab N) []))]⟩))) = (ex (cs3 hbs) (fu + 60) 0 m_ref01_Sets_l2 ⟨setAll [(.h, .c (.p (.int .i64 n))), (.o .h, .c (.p (.int .i64 m))), (.i (.i .h), .c (.p (.int .i64 i))), (.o (.i .h), .c (.sl 0 0 (S.lenT T))), (.o (.o (.o .h)), .c (.sl 1 0 (S.lenT N))), (.i (.o (.o .h)), .c (.p (.int .i64 k)))], [some (.arr 1 t_sl_int (S.lenT T) (S.tab T) []), some (.arr 1 t_sl_int (S.lenT N) (S.tab N) [])]⟩ (fun e s => .pr (Q e s))).hold2 := by kernel_rfl
theorem vs_ref01_Sets3 (fu n m i k x : Nat) (T N : List (List Nat)) (Q : AX → St → Prop) :
 ((BrP (decide (((x : Nat) : Int) < ((n : Nat) : Int)))
 (CdP (.rng ((k : Nat) : Int) (S.lenT T))
  (CdP (.le ((0 + k) + 1) (S.lenT T))
  (CdP (.le ((S.lenR T (0 + k)) * 8) 140737488355328)
  (CdP (.le (S.lenR T (0 + k)) (S.lenR T (0 + k)))
  (CdP (.le (S.lenR T (0 + k)) (S.lenR T (0 + k)))
  (CdP (.le (((S.lenR T (0 + k)) + 1) * 8) 140737488355328)
  (CdP (.le (S.lenT N) (S.lenT N))
  (CdP (.le (S.lenT N) (S.lenT N))
  (CdP (.le (((S.lenT N) + 1) * 24) 140737488355328)
  (CdP (.i64 (((x : Nat) : Int) + (1 : Int)))
  (Q .normal ⟨(.nd (.nd (.nd (.nd (.nd .lf .any (.nd .lf (.c (.sl 3 0 1)) .lf)) (.c (.sl 6 0 ((S.lenT N) + 1))) (.nd (.nd .lf (.c (.p (.int .i64 (((x : Nat) : Int) + (1 : Int))))) .lf) .any .lf)) .any (.nd (.nd (.nd .lf (.c (.p (.int .i64 ((x : Nat) : Int)))) .lf) .any .lf) .any (.nd (.nd .lf (.c (.pe 0 (0 + k) 0)) .lf) .any .lf))) (.c (.p (.int .i64 ((m : Nat) : Int)))) (.nd (.nd (.nd .lf .any (.nd .lf (.c (.sl 5 0 1)) .lf)) .any (.nd (.nd .lf (.c (.sl 0 0 (S.lenT T))) .lf) .any .lf)) (.c (.sl 0 0 (S.lenT T))) (.nd (.nd (.nd .lf (.c (.p (.bool true))) .lf) .any .lf) .any (.nd (.nd .lf (.c (.sl 2 0 (S.lenR T (0 + k)))) .lf) .any .lf)))) (.c (.p (.int .i64 ((n : Nat) : Int)))) (.nd (.nd (.nd (.nd .lf .any (.nd .lf (.c (.sl 4 0 ((S.lenR T (0 + k)) + 1))) .lf)) (.c (.p (.int .i64 ((k : Nat) : Int)))) (.nd (.nd .lf (.c (.sl 1 0 (S.lenT N))) .lf) .any .lf)) .any (.nd (.nd (.nd .lf (.c (.p (.int .i64 ((n : Nat) : Int)))) .lf) .any .lf) .any (.nd (.nd .lf (.c (.p (.isl 1 (S.lenR T (0 + k)) (S.val (S.rwN T (0 + k)))))) .lf) .any .lf))) .any (.nd (.nd (.nd .lf .any (.nd .lf (.c (.sl 6 0 ((S.lenT N) + 1))) .lf)) (.c (.p (.int .i64 (((x : Nat) : Int) + (1 : Int))))) (.nd (.nd .lf (.c (.p (.int .i64 ((k : Nat) : Int)))) .lf) .any .lf)) (.c (.p (.int .i64 ((i : Nat) : Int)))) (.nd (.nd (.nd .lf (.c (.p (.int .i64 ((x : Nat) : Int)))) .lf) .any .lf) .any (.nd (.nd .lf (.c (.p (.int .i64 ((x : Nat) : Int)))) .lf) .any .lf))))), [(some (.arr 1 33 (S.lenT T) (S.tab T) [])), (some (.arr 1 33 (S.lenT N) (S.tab N) [])), none, (some (.arr 1 3 1 (fun x9 => (fun x10 => (List.getD [(.int .i64 ((x : Nat) : Int))] ((x9 * 1) + x10) .npt))) [])), none, (some (.arr 1 33 1 (fun x9 => (fun x10 => (List.getD [(.isl 1 ((S.lenR T (0 + k)) + 1) (fun x11 => (fun x12 => (if ((0 + x11) < (S.lenR T (0 + k))) then (.int .i64 (S.rwN T (0 + k) (0 + x11) x12)) else (List.getD [(.int .i64 ((x : Nat) : Int))] (((0 + ((0 + x11) - (S.lenR T (0 + k)))) * 1) + x12) .npt)))))] ((x9 * 1) + x10) .npt))) [])), (some (.arr 1 33 ((S.lenT N) + 1) (fun x9 => (fun x10 => (if (x9 < (S.lenT N)) then (.isl 1 (S.lenR N x9) (S.val (S.rwN N x9))) else (List.getD [(.isl 1 ((S.lenR T (0 + k)) + 1) (fun x11 => (fun x12 => (if ((0 + x11) < (S.lenR T (0 + k))) then (.int .i64 (S.rwN T (0 + k) (0 + x11) x12)) else (List.getD [(.int .i64 ((x : Nat) : Int))] (((0 + ((0 + x11) - (S.lenR T (0 + k)))) * 1) + x12) .npt)))))] (((0 + (x9 - (S.lenT N))) * 1) + x10) .npt)))) [1]))]⟩)))))))))))
 (Q (.exit 4) ⟨(.nd (.nd (.nd (.nd .lf (.c (.sl 1 0 (S.lenT N))) .lf) .any (.nd (.nd (.nd .lf (.c (.p (.int .i64 ((x : Nat) : Int)))) .lf) .any .lf) .any .lf)) (.c (.p (.int .i64 ((m : Nat) : Int)))) (.nd .lf (.c (.sl 0 0 (S.lenT T))) (.nd (.nd (.nd .lf (.c (.p (.bool false))) .lf) .any .lf) .any .lf))) (.c (.p (.int .i64 ((n : Nat) : Int)))) (.nd (.nd (.nd .lf (.c (.p (.int .i64 ((k : Nat) : Int)))) .lf) .any (.nd (.nd (.nd .lf (.c (.p (.int .i64 ((n : Nat) : Int)))) .lf) .any .lf) .any .lf)) .any (.nd (.nd .lf (.c (.p (.int .i64 ((x : Nat) : Int)))) .lf) (.c (.p (.int .i64 ((i : Nat) : Int)))) .lf))), [(some (.arr 1 33 (S.lenT T) (S.tab T) [])), (some (.arr 1 33 (S.lenT N) (S.tab N) []))]⟩))) = (ex (cs3 hbs) (fu + 60) 0 m_ref01_Sets_l3 ⟨setAll [(.h, .c (.p (.int .i64 n))), (.o .h, .c (.p (.int .i64 m))), (.i (.i .h), .c (.p (.int .i64 i))), (.o (.i .h), .c (.sl 0 0 (S.lenT T))), (.o (.o (.o .h)), .c (.sl 1 0 (S.lenT N))), (.i (.o (.o .h)), .c (.p (.int .i64 k))), (.i (.i (.o .h)), .c (.p (.int .i64 x)))], [some (.arr 1 t_sl_int (S.lenT T) (S.tab T) []), some (.arr 1 t_sl_int (S.lenT N) (S.tab N) [])]⟩ (fun e s => .pr (Q e s))).hold2 := by kernel_rfl
end
theorem tab_new {T N : List (List Nat)} {k x : Nat} {N' : List (List Nat)} (e : N' = N ++ [x :: S.nthL T k]) : S.lenT N' = S.lenT N + 1 ∧ ∀ i j, i < S.lenT N + 1 → j < 1 →
    LkP (if i < S.lenT N then PV.isl 1 (S.lenR N i) (S.val (S.rwN N i)) else ([PV.isl 1 (S.lenR T k + 1) (fun a b => if a < S.lenR T k then PV.int .i64 (S.rwN T k a b) else ([PV.int .i64 x] : List PV)[(a - S.lenR T k) * 1 + b]?.getD .npt)] : List PV)[(i - S.lenT N) * 1 + j]?.getD .npt) (S.tab N' i j) := by
  subst e
  refine ⟨by simp [S.lenT], fun i j hi hj => ?_⟩
  obtain rfl : j = 0 := by omega
  split
  · rename_i h
    have : S.nthL (N ++ [x :: S.nthL T k]) i = S.nthL N i := S.getD_app_l h
    refine LkP.of_eq ?_
    show _ = PV.isl 1 (S.lenR _ i) (S.val (S.rwN _ i))
    unfold S.lenR S.rwN
    rw [this]
  · obtain rfl : i = S.lenT N := by omega
    have : S.nthL (N ++ [x :: S.nthL T k]) (S.lenT N) = x :: S.nthL T k := by
      unfold S.nthL S.lenT
      rw [S.getD_app_r (Nat.le_refl _), Nat.sub_self]
      rfl
    rw [Nat.sub_self]
    show LkP (PV.isl 1 (S.lenR T k + 1) _) (PV.isl 1 (S.lenR _ (S.lenT N)) (S.val (S.rwN _ (S.lenT N))))
    unfold S.lenR S.rwN
    rw [this]
    refine LkP.isl fun a b ha hb => LkP.of_eq ?_
    obtain rfl : b = 0 := by omega
    split
    · rename_i h
      exact congrArg (PV.int .i64) (S.row_old h).symm
    · obtain rfl : a = (S.nthL T k).length := by omega
      rw [Nat.sub_self]
      exact congrArg (PV.int .i64) S.row_new.symm
section
variable {hbs : BsOk Tryz.prog} (hT3 : TabOk (cs3 hbs))
include hT3
theorem go_ref01_Sets3 (fu n m i k : Nat) (hn : n < 9) (hi : i < 8) (hk : k < S.lenT (S.setsT n i)) : ∀ (x : Nat) (st : St), S.frm (S.nthL (S.setsT n i) k) ≤ x ∧ x ≤ n → HasA 0 st [(.h, .c (.p (.int .i64 n))), (.o .h, .c (.p (.int .i64 m))), (.i (.i .h), .c (.p (.int .i64 i))), (.o (.i .h), .c (.sl 0 0 (S.lenT (S.setsT n i)))), (.o (.o (.o .h)), .c (.sl 1 0 (S.lenT (S.nxS n (S.setsT n i) k x)))), (.i (.o (.o .h)), .c (.p (.int .i64 k))), (.i (.i (.o .h)), .c (.p (.int .i64 x)))] [tabB (S.setsT n i), tabB (S.nxS n (S.setsT n i) k x)] →
    LoopGo (ex (cs3 hbs) (fu + 60)) 0 m_ref01_Sets_l3 st (.e (.exit 4) ⟨setAll [(.h, .c (.p (.int .i64 n))), (.o .h, .c (.p (.int .i64 m))), (.i (.i .h), .c (.p (.int .i64 i))), (.i (.o (.o .h)), .c (.p (.int .i64 k))), (.o (.i .h), .c (.sl 0 0 (S.lenT (S.setsT n i)))), (.o (.o (.o .h)), .c (.sl 1 0 (S.lenT (S.flS n (S.setsT n i) (k + 1)))))], [tabB (S.setsT n i), tabB (S.flS n (S.setsT n i) (k + 1))]⟩) :=
  loop_kA (σ := Nat) (fun x => [(.h, .c (.p (.int .i64 n))), (.o .h, .c (.p (.int .i64 m))), (.i (.i .h), .c (.p (.int .i64 i))), (.o (.i .h), .c (.sl 0 0 (S.lenT (S.setsT n i)))), (.o (.o (.o .h)), .c (.sl 1 0 (S.lenT (S.nxS n (S.setsT n i) k x)))), (.i (.o (.o .h)), .c (.p (.int .i64 k))), (.i (.i (.o .h)), .c (.p (.int .i64 x)))]) (fun x => [tabB (S.setsT n i), tabB (S.nxS n (S.setsT n i) k x)]) (fun x => S.frm (S.nthL (S.setsT n i) k) ≤ x ∧ x ≤ n) (fun x => n - x)
    (fun _ => .e (.exit 4) ⟨setAll [(.h, .c (.p (.int .i64 n))), (.o .h, .c (.p (.int .i64 m))), (.i (.i .h), .c (.p (.int .i64 i))), (.i (.o (.o .h)), .c (.p (.int .i64 k))), (.o (.i .h), .c (.sl 0 0 (S.lenT (S.setsT n i)))), (.o (.o (.o .h)), .c (.sl 1 0 (S.lenT (S.flS n (S.setsT n i) (k + 1)))))], [tabB (S.setsT n i), tabB (S.flS n (S.setsT n i) (k + 1))]⟩) _ (fun x Q => vs_ref01_Sets3 (hbs := hbs) fu n m i k x (S.setsT n i) (S.nxS n (S.setsT n i) k x) Q) fun x hx K hL X hX => by
      have hlen : S.lenR (S.setsT n i) k = i := (S.sets_all (S.nthL_mem hk)).1
      have hs1 := S.sets_small n hn (i + 1) (by omega)
      have hN : S.lenT (S.nxS n (S.setsT n i) k x) ≤ 70 := Nat.le_trans (S.nxS_le hk hx.2) hs1
      refine brP (fun h1 => ?_) fun h1 => ?_
      · have hlt : x < n := by simpa using h1
        obtain ⟨eL, eR⟩ := tab_new (S.nxS_step (n := n) hx.1)
        refine cdP (idx_ok hk) (cdP (by show 0 + k + 1 ≤ _; omega) (cdP (by show _ * 8 ≤ _; rw [Nat.zero_add, hlen]; omega) (cdP (Nat.le_refl _) (cdP (Nat.le_refl _) (cdP (by show (_ + 1) * 8 ≤ _; rw [Nat.zero_add, hlen]; omega) (cdP (Nat.le_refl _) (cdP (Nat.le_refl _) (cdP (by show (_ + 1) * 24 ≤ _; omega) (cdP (i64_of (by omega) (by omega)) ?_)))))))))
        refine hX (x + 1) _ (by omega) (by omega) ?_ hL
        rw [eL]
        refine ⟨[some 0, some 6], [(.h, .c (.p (.int .i64 n))), (.o .h, .c (.p (.int .i64 m))), (.i (.i .h), .c (.p (.int .i64 i))), (.o (.i .h), .c (.sl 0 0 (S.lenT (S.setsT n i)))), (.o (.o (.o .h)), .c (.sl 1 0 (S.lenT (S.nxS n (S.setsT n i) k x) + 1))), (.i (.o (.o .h)), .c (.p (.int .i64 k))), (.i (.i (.o .h)), .c (.p (.int .i64 (x + 1 : Nat))))], [tabB (S.setsT n i), some (.arr 1 t_sl_int (S.lenT (S.nxS n (S.setsT n i) k x) + 1) (fun a b => if a < S.lenT (S.nxS n (S.setsT n i) k x) then PV.isl 1 (S.lenR (S.nxS n (S.setsT n i) k x) a) (S.val (S.rwN (S.nxS n (S.setsT n i) k x) a)) else ([PV.isl 1 (S.lenR (S.setsT n i) k + 1) (fun a b => if a < S.lenR (S.setsT n i) k then PV.int .i64 (S.rwN (S.setsT n i) k a b) else ([PV.int .i64 x] : List PV)[(a - S.lenR (S.setsT n i) k) * 1 + b]?.getD .npt)] : List PV)[(a - S.lenT (S.nxS n (S.setsT n i) k x)) * 1 + b]?.getD .npt) [])], HasR.mk _ rfl rfl ?_ ?_, .refl _, .refl _, ?_, trivial⟩
        · simp [WH, WB, WL, WA, WC, WP', upsB, memB, tabB]
        · simp [LiveR, WA, WC, WP', Tr.get]
        · unfold tabB
          rw [eL]
          exact LkB.mk eR
      · have hlt : n ≤ x := by simpa using h1
        obtain rfl : x = n := by omega
        rw [← S.nxS_end hk] at hL
        refine HasA.out (l := [(.h, .c (.p (.int .i64 x))), (.o .h, .c (.p (.int .i64 m))), (.i (.i .h), .c (.p (.int .i64 i))), (.i (.o (.o .h)), .c (.p (.int .i64 k))), (.o (.i .h), .c (.sl 0 0 (S.lenT (S.setsT x i)))), (.o (.o (.o .h)), .c (.sl 1 0 (S.lenT (S.nxS x (S.setsT x i) k x))))]) (HasR.toA (HasR.mk (ρ := [some 0, some 1]) rfl rfl ?_ ?_)) hL
        · simp [WH, WB, WL, WA, WC, WP', upsB, memB, tabB]
        · simp [LiveR, WA, WC, WP', Tr.get]
theorem go_ref01_Sets2 (fu n m i : Nat) (hn : n < 9) (hi : i < 8) : ∀ (k : Nat) (st : St), k ≤ S.lenT (S.setsT n i) → HasA 0 st [(.h, .c (.p (.int .i64 n))), (.o .h, .c (.p (.int .i64 m))), (.i (.i .h), .c (.p (.int .i64 i))), (.o (.i .h), .c (.sl 0 0 (S.lenT (S.setsT n i)))), (.o (.o (.o .h)), .c (.sl 1 0 (S.lenT (S.flS n (S.setsT n i) k)))), (.i (.o (.o .h)), .c (.p (.int .i64 k)))] [tabB (S.setsT n i), tabB (S.flS n (S.setsT n i) k)] →
    LoopGo (ex (cs3 hbs) (fu + 8 + 60)) 0 m_ref01_Sets_l2 st (.e (.exit 2) ⟨setAll [(.h, .c (.p (.int .i64 n))), (.o .h, .c (.p (.int .i64 m))), (.i (.i .h), .c (.p (.int .i64 i))), (.o (.o (.o .h)), .c (.sl 0 0 (S.lenT (S.setsT n (i + 1)))))], [tabB (S.setsT n (i + 1))]⟩) :=
  loop_kA (σ := Nat) (fun k => [(.h, .c (.p (.int .i64 n))), (.o .h, .c (.p (.int .i64 m))), (.i (.i .h), .c (.p (.int .i64 i))), (.o (.i .h), .c (.sl 0 0 (S.lenT (S.setsT n i)))), (.o (.o (.o .h)), .c (.sl 1 0 (S.lenT (S.flS n (S.setsT n i) k)))), (.i (.o (.o .h)), .c (.p (.int .i64 k)))]) (fun k => [tabB (S.setsT n i), tabB (S.flS n (S.setsT n i) k)]) (fun k => k ≤ S.lenT (S.setsT n i)) (fun k => S.lenT (S.setsT n i) - k)
    (fun _ => .e (.exit 2) ⟨setAll [(.h, .c (.p (.int .i64 n))), (.o .h, .c (.p (.int .i64 m))), (.i (.i .h), .c (.p (.int .i64 i))), (.o (.o (.o .h)), .c (.sl 0 0 (S.lenT (S.setsT n (i + 1)))))], [tabB (S.setsT n (i + 1))]⟩) _ (fun k Q => vs_ref01_Sets2 (hbs := hbs) (fu + 8) n m i k (S.setsT n i) (S.flS n (S.setsT n i) k) Q) fun k hk K hL X hX => by
      have hs0 := S.sets_small n hn i (by omega)
      have hs0 : S.lenT (S.setsT n i) ≤ 70 := hs0
      refine brP (fun h1 => ?_) fun h1 => ?_
      · have hlt : k < S.lenT (S.setsT n i) := by simpa using h1
        obtain ⟨hlen, hfr⟩ := S.sets_all (S.nthL_mem hlt)
        have hlen' : S.lenR (S.setsT n i) k = i := hlen
        have next : ∀ s', HasA 0 s' [(.h, .c (.p (.int .i64 n))), (.o .h, .c (.p (.int .i64 m))), (.i (.i .h), .c (.p (.int .i64 i))), (.o (.i .h), .c (.sl 0 0 (S.lenT (S.setsT n i)))), (.o (.o (.o .h)), .c (.sl 1 0 (S.lenT (S.flS n (S.setsT n i) (k + 1))))), (.i (.o (.o .h)), .c (.p (.int .i64 (k + 1 : Nat))))] [tabB (S.setsT n i), tabB (S.flS n (S.setsT n i) (k + 1))] → X s' := fun s' h => hX (k + 1) s' (by omega) (by omega) h hL
        refine brP (fun h2 => ?_) fun h2 => ?_
        · have hp : 0 < i := by simp at h2; omega
          have e : S.rwN (S.setsT n i) (0 + k) (Int.toNat ((i : Int) - 1)) 0 + 1 = (S.frm (S.nthL (S.setsT n i) k) : Nat) := by
            rw [Nat.zero_add, ← S.frm_row (by omega), show Int.toNat ((i : Int) - 1) = (S.nthL (S.setsT n i) k).length - 1 by omega]
            rfl
          refine cdP (idx_ok hlt) (cdP (by show 0 + k + 1 ≤ _; omega) (cdP (i64_of (by omega) (by omega)) (cdP (by rw [Nat.zero_add, hlen']; exact ⟨by omega, by omega⟩) (cdP (by rw [e]; exact i64_of (by omega) (by omega)) ⟨go_ref01_Sets3 hT3 fu n m i k hn hi hlt (S.frm (S.nthL (S.setsT n i) k)) _ ⟨Nat.le_refl _, hfr⟩ (HasR.toA (HasR.mk (ρ := [some 0, some 1]) rfl rfl ?_ ?_)), cdP (i64_of (by omega) (by omega)) (next _ (HasR.toA (HasR.mk (ρ := [some 0, some 1]) rfl rfl ?_ ?_)))⟩))))
          · simp [WH, WB, WL, WA, WC, WP', upsB, memB, tabB, S.nxS_start]
          · rw [e]
            simp [LiveR, WA, WC, WP', Tr.get, S.nxS_start]
          · simp [WH, WB, WL, WA, WC, WP', upsB, memB, tabB]
          · simp [LiveR, WA, WC, WP', Tr.get]
        · have hp : i = 0 := by simp at h2; omega
          subst hp
          have e : S.frm (S.nthL (S.setsT n 0) k) = 0 := by rw [List.eq_nil_of_length_eq_zero hlen]; rfl
          have st := S.nxS_start (n := n) (T := S.setsT n 0) (k := k)
          rw [e] at st
          refine ⟨go_ref01_Sets3 hT3 fu n m 0 k hn hi hlt 0 _ ⟨by omega, Nat.zero_le _⟩ (HasR.toA (HasR.mk (ρ := [some 0, some 1]) rfl rfl ?_ ?_)), cdP (i64_of (by omega) (by omega)) (next _ (HasR.toA (HasR.mk (ρ := [some 0, some 1]) rfl rfl ?_ ?_)))⟩
          · simp [WH, WB, WL, WA, WC, WP', upsB, memB, tabB, st]
          · simp [LiveR, WA, WC, WP', Tr.get, st]
          · simp [WH, WB, WL, WA, WC, WP', upsB, memB, tabB]
          · simp [LiveR, WA, WC, WP', Tr.get]
      · have hlt : S.lenT (S.setsT n i) ≤ k := by simpa using h1
        obtain rfl : k = S.lenT (S.setsT n i) := by omega
        have e : S.flS n (S.setsT n i) (S.lenT (S.setsT n i)) = S.setsT n (i + 1) := S.flS_all
        refine HasA.out (l := [(.h, .c (.p (.int .i64 n))), (.o .h, .c (.p (.int .i64 m))), (.i (.i .h), .c (.p (.int .i64 i))), (.o (.o (.o .h)), .c (.sl 0 0 (S.lenT (S.setsT n (i + 1)))))]) (HasR.toA (HasR.mk (ρ := [some 1]) rfl rfl ?_ ?_)) hL
        · simp [WH, WB, WL, WA, WC, WP', upsB, memB, tabB, e]
        · simp [LiveR, WA, WC, WP', Tr.get, e]
theorem go_ref01_Sets1 (fu n m : Nat) (hn : n < 9) (hm : m < 9) : ∀ (i : Nat) (st : St), i ≤ m → HasA 0 st [(.h, .c (.p (.int .i64 n))), (.o .h, .c (.p (.int .i64 m))), (.i (.i .h), .c (.p (.int .i64 i))), (.o (.i .h), .c (.sl 0 0 (S.lenT (S.setsT n i))))] [tabB (S.setsT n i)] →
    LoopGo (ex (cs3 hbs) (fu + 8 + 8 + 60)) 0 m_ref01_Sets_l1 st (.e (.exit 0) ⟨setAll [(.o (.i .h), .c (.sl 0 0 (S.lenT (S.setsT n m))))], [tabB (S.setsT n m)]⟩) :=
  loop_kA (σ := Nat) (fun i => [(.h, .c (.p (.int .i64 n))), (.o .h, .c (.p (.int .i64 m))), (.i (.i .h), .c (.p (.int .i64 i))), (.o (.i .h), .c (.sl 0 0 (S.lenT (S.setsT n i))))]) (fun i => [tabB (S.setsT n i)]) (fun i => i ≤ m) (fun i => m - i)
    (fun _ => .e (.exit 0) ⟨setAll [(.o (.i .h), .c (.sl 0 0 (S.lenT (S.setsT n m))))], [tabB (S.setsT n m)]⟩) _ (fun i Q => vs_ref01_Sets1 (hbs := hbs) (fu + 8 + 8) n m i (S.setsT n i) Q) fun i hi K hL X hX => by
      refine brP (fun h1 => ?_) fun h1 => ?_
      · have hlt : i < m := by simpa using h1
        refine ⟨go_ref01_Sets2 hT3 fu n m i hn (by omega) 0 _ (Nat.zero_le _) (HasR.toA (HasR.mk (ρ := [some 0, none]) rfl rfl ?_ ?_)), cdP (i64_of (by omega) (by omega)) (hX (i + 1) _ (by omega) (by omega) (HasR.toA (HasR.mk (ρ := [some 0]) rfl rfl ?_ ?_)) hL)⟩
        · simp [WH, WB, WL, WA, WC, WP', upsB, memB, tabB, S.flS, S.lenT]
        · simp [LiveR, WA, WC, WP', Tr.get, S.flS, S.lenT]
        · simp [WH, WB, WL, WA, WC, WP', upsB, memB, tabB]
        · simp [LiveR, WA, WC, WP', Tr.get]
      · have hlt : m ≤ i := by simpa using h1
        obtain rfl : i = m := by omega
        refine HasA.out (l := [(.o (.i .h), .c (.sl 0 0 (S.lenT (S.setsT n i))))]) (HasR.toA (HasR.mk (ρ := [some 0]) rfl rfl ?_ ?_)) hL
        · simp [WH, WB, WL, WA, WC, WP', upsB, memB, tabB]
        · simp [LiveR, WA, WC, WP', Tr.get]
theorem fc_SetsT (n m : Nat) (hn : n < 9) (hm : m < 9) : FCall (cs3 hbs) f_ref01_Sets [.c (.p (.int .i64 n)), .c (.p (.int .i64 m))] (.c (.p (.isl 1 (S.lenT (S.setsT n m)) (S.tab (S.setsT n m))))) [] :=
  fcall_k hT3 (F := F_ref01_Sets) rfl (vc_ref01_Sets n m _) ⟨go_ref01_Sets1 hT3 918 n m hn hm 0 _ (Nat.zero_le _) ⟨[some 0], [(.h, .c (.p (.int .i64 n))), (.o .h, .c (.p (.int .i64 m))), (.i (.i .h), .c (.p (.int .i64 (0 : Nat)))), (.o (.i .h), .c (.sl 0 0 1))], [some (.arr 1 t_sl_int 1 (fun a b => ([PV.nsl] : List PV)[a * 1 + b]?.getD .npt) [])], HasR.mk _ rfl rfl (by simp [WH, WB, WL, WA, WC, WP', upsB, memB, tabB]) (by simp [LiveR, WA, WC, WP', Tr.get]), .refl _, LkB.mk (fun a b ha hb => by
      obtain rfl : a = 0 := by omega
      obtain rfl : b = 0 := by omega
      exact LkP.nsl _ _), trivial⟩, by simp [frzA, frzL, frzC]⟩
theorem fc_Sets (s : Nat) (hs : s < 9) : FCall (cs3 hbs) f_ref01_Sets [.c (.p (.int .i64 8)), .c (.p (.int .i64 s))] (.c (.p (.isl 1 (S.stN s) fun i _ => .isl 1 (S.pc (S.stX s i)) (S.val (S.bitR (S.stX s i)))))) [] := by
  obtain ⟨h1, h2⟩ := S.sets_bits s hs
  refine FCall.lk (fc_SetsT hT3 8 s (by omega) hs) ?_
  rw [show S.lenT (S.setsT 8 s) = S.stN s from h1]
  refine LkP.isl fun i j hi hj => ?_
  obtain ⟨h3, h4⟩ := h2 i hi
  show LkP (PV.isl 1 (S.lenR _ i) _) _
  rw [h3]
  refine LkP.isl fun a b ha hb => LkP.of_eq ?_
  obtain rfl : b = 0 := by omega
  exact congrArg (PV.int .i64) (h4 a ha)
end
end Go.Ab.B
namespace Go.Ab.S
theorem okL {ra le mo : Int} {n : Nat} {r : Rows} (hR : allR n r) {x : Nat} (hx : x < 256) : okQ ra le mo n r (qL (pc x) (bitR x)) = okB ra le mo n r x := by
  obtain ⟨h1, h2⟩ := kp_congr (q := qL (pc x) (bitR x)) (q' := qB x) (r := r) (n := n) fun i hi => by
    obtain ⟨a1, a2, a3⟩ := hR i hi
    have e : r i 3 = ((r i 3).toNat : Nat) := by omega
    have := hasL_bits x hx (r i 3).toNat (by omega)
    rw [← e] at this
    simp only [qL, qB, this]
  unfold okB okQ
  rw [h1, h2]
theorem pc_le (x : Nat) : pc x ≤ 8 := by unfold pc bitL; exact Nat.le_trans (List.length_filter_le _ _) (by simp)
theorem fiF_lt {p : Nat → Bool} {n : Nat} (h : fiF p n 0 < n) : p (fiF p n 0) = true := fiF_find (p := p) (k := n) (i := 0) (by unfold fiF at h; simpa using h)
end Go.Ab.S
namespace Go.Ab.B
open Go.Proofs
theorem app_kp {q : Int → Bool} {r : S.Rows} {i j c : Nat} (hq : q (r i 3) = true) (hj : j < S.kpN q r i + 1) (hc : c < 4) : (if j < S.kpN q r i then PV.int .i64 (S.kpR q r i j c) else ([PV.int .i64 (r i 0), PV.int .i64 (r i 1), PV.int .i64 (r i 2), PV.int .i64 (r i 3)] : List PV)[(j - S.kpN q r i) * 4 + c]?.getD .npt) = S.val (S.kpR q r (i + 1)) j c := by
  split
  · rename_i h
    exact congrArg (PV.int .i64) (S.kpR_old c h).symm
  · obtain rfl : j = S.kpN q r i := by omega
    rw [Nat.sub_self, Nat.zero_mul, Nat.zero_add]
    refine Eq.trans ?_ (congrArg (PV.int .i64) (S.kpR_new c hq).symm)
    match c, hc with
    | 0, _ => rfl
    | 1, _ => rfl
    | 2, _ => rfl
    | 3, _ => rfl
theorem app_bu {x s j c : Nat} (hq : S.hasB x s = true) (hj : j < S.buN x s + 1) (hc : c < 1) : (if j < S.buN x s then PV.int .i64 (S.buR x s j c) else ([PV.int .i64 s] : List PV)[(j - S.buN x s) * 1 + c]?.getD .npt) = S.val (S.buR x (s + 1)) j c := by
  split
  · rename_i h
    exact congrArg (PV.int .i64) (S.buR_old c h).symm
  · obtain rfl : j = S.buN x s := by omega
    obtain rfl : c = 0 := by omega
    rw [Nat.sub_self, Nat.zero_mul, Nat.zero_add]
    exact congrArg (PV.int .i64) (S.buR_new 0 hq).symm
def hdI (ra le mo : Int) (n : Nat) (r : S.Rows) (x i : Nat) : Heap := [some (.box t_api_Gauge (gC ra le mo n (S.val r))), some (.box t_api_Gauge [.p (.int .i64 0), .p (.int .i64 0), .p (.int .i64 0), .p .nsl]), some (.arr 4 t_api_Reading (S.kpN (S.qB x) r i) (S.val (S.kpR (S.qB x) r i)) [])]
def hdJ (ra le mo : Int) (n : Nat) (r : S.Rows) (m : Nat) (l : S.Rows) (i : Nat) : Heap := [some (.box t_api_Gauge (gC ra le mo n (S.val r))), some (.box t_api_Gauge [.p (.int .i64 0), .p (.int .i64 0), .p (.int .i64 0), .p .nsl]), some (.box t_api_Gauge [.p (.int .i64 ra), .p (.int .i64 le), .p (.int .i64 mo), .sl 3 0 (S.kpN (S.qL m l) r i)]), some (.arr 4 t_api_Reading (S.kpN (S.qL m l) r i) (S.val (S.kpR (S.qL m l) r i)) [])]
def hdU (ra le mo : Int) (n : Nat) (r : S.Rows) (x i : Nat) : Heap := [some (.box t_api_Gauge (gC ra le mo n (S.val r))), some (.arr 1 t_int (S.buN x i) (S.val (S.buR x i)) [])]
section
variable {hbs : BsOk Tryz.prog} (hT0 : TabOk (c0 hbs)) (hT2 : TabOk (cs2 hbs)) (hT3 : TabOk (cs3 hbs))
include hT0
theorem fc_has (x s : Nat) (hx : x < 256) (hs : s < 8) : FCall (cs3 hbs) f_water_sourceSet_has [.c (.p (.int .u64 x)), .c (.p (.int .i64 s))] (vB (S.hasB x s)) [] :=
  FCall.cfg (C := c0 hbs) (C' := cs3 hbs) rfl rfl (fcall_row hT0 (f := f_water_sourceSet_has) (F := F_water_sourceSet_has) rfl (S.mapR_get (S.mapR_get (run_has hbs) x hx) s hs))
theorem fc_size (x : Nat) (hx : x < 256) : FCall (cs3 hbs) f_water_sourceSet_size [.c (.p (.int .u64 x))] (vN (S.pc x)) [] :=
  FCall.cfg (C := c0 hbs) (C' := cs3 hbs) rfl rfl (fcall_row hT0 (f := f_water_sourceSet_size) (F := F_water_sourceSet_size) rfl (S.mapR_get (run_size hbs) x hx))
omit hT0
include hT3
theorem go_ref01_Has (fu m : Nat) (l : S.Rows) (x : Int) (hm : m ≤ maxLen) : ∀ (i : Nat) (st : St), i ≤ m → Has st [(.h, .c (.p (.isl 1 m (S.val l)))), (.o .h, .c (.p (.int .i64 x))), (.o (.i .h), .c (.p (.int .i64 i)))] [] →
    LoopGo (ex (cs3 hbs) (fu + 60)) 0 m_ref01_Has_l1 st (.br (S.from_ (S.neL l x) m i) (.e (.exit 0) ⟨.lf, []⟩) (.e .ret ⟨setAll [(.i (.o .h), vB true)], []⟩)) :=
  loop_k (σ := Nat) (fun i => [(.h, .c (.p (.isl 1 m (S.val l)))), (.o .h, .c (.p (.int .i64 x))), (.o (.i .h), .c (.p (.int .i64 i)))]) (fun _ => []) (fun i => i ≤ m) (fun i => m - i)
    (fun i => .br (S.from_ (S.neL l x) m i) (.e (.exit 0) ⟨.lf, []⟩) (.e .ret ⟨setAll [(.i (.o .h), vB true)], []⟩)) (fun _ => Nat.zero_le _) _ (fun i Q => vs_ref01_Has (hbs := hbs) fu i m l x Q) fun i hi' K hL X hX => by
      refine brP (fun h1 => ?_) fun h1 => ?_
      · have hlt : i < m := by simpa using h1
        refine cdP (idx_ok hlt) (brP (fun h2 => ?_) fun h2 => cdP (i64_nat hlt hm) ?_)
        · have e : S.neL l x i = false := by simp [S.neL] at h2 ⊢; omega
          rw [S.from_step hlt, e, Bool.false_and] at hL
          exact Has.out (l := [(.i (.o .h), vB true)]) (.cons (by kernel_rfl) rfl (.nil (ex := _) rfl rfl)) (Nat.zero_le _) hL
        · refine hX (i + 1) _ (by omega) (by omega) (.cons (by kernel_rfl) rfl (.cons (by kernel_rfl) rfl (.cons (by kernel_rfl) rfl (.nil (ex := _) rfl rfl)))) ?_
          have e : S.neL l x i = true := by simp [S.neL] at h2 ⊢; omega
          rw [S.from_step hlt, e, Bool.true_and] at hL
          exact hL
      · have hlt : m ≤ i := by simpa using h1
        rw [S.from_end hlt] at hL
        exact Has.out (l := []) (.nil (ex := _) rfl rfl) (Nat.zero_le _) hL
theorem fc_ref01_Has (m : Nat) (l : S.Rows) (x : Int) (hm : m ≤ maxLen) : FCall (cs3 hbs) f_ref01_Has [.c (.p (.isl 1 m (S.val l))), .c (.p (.int .i64 x))] (vB (S.hasL m l x)) [] :=
  fcall_k hT3 (F := F_ref01_Has) rfl (vc_ref01_Has m l x _) ⟨go_ref01_Has hT3 935 m l x hm 0 _ (Nat.zero_le _) (.cons (by kernel_rfl) rfl (.cons (by kernel_rfl) rfl (.cons (by kernel_rfl) rfl (.nil rfl rfl)))), brP (fun h2 => frz_b (by unfold S.hasL; rw [h2]; rfl)) fun h2 => frz_b (by unfold S.hasL; rw [h2]; rfl)⟩
theorem go_ref01_Same (fu n m : Nat) (a b : S.Rows) (hn : n ≤ maxLen) (hm : n = m) : ∀ (i : Nat) (st : St), i ≤ n → Has st [(.h, .c (.p (.isl 1 n (S.val a)))), (.o .h, .c (.p (.isl 1 m (S.val b)))), (.o (.i .h), .c (.p (.int .i64 i)))] [] →
    LoopGo (ex (cs3 hbs) (fu + 60)) 0 m_ref01_Same_l1 st (.br (S.from_ (S.eq1 a b) n i) (.e (.exit 0) ⟨.lf, []⟩) (.e .ret ⟨setAll [(.i (.o .h), vB false)], []⟩)) :=
  loop_k (σ := Nat) (fun i => [(.h, .c (.p (.isl 1 n (S.val a)))), (.o .h, .c (.p (.isl 1 m (S.val b)))), (.o (.i .h), .c (.p (.int .i64 i)))]) (fun _ => []) (fun i => i ≤ n) (fun i => n - i)
    (fun i => .br (S.from_ (S.eq1 a b) n i) (.e (.exit 0) ⟨.lf, []⟩) (.e .ret ⟨setAll [(.i (.o .h), vB false)], []⟩)) (fun _ => Nat.zero_le _) _ (fun i Q => vs_ref01_Same (hbs := hbs) fu i n m a b Q) fun i hi' K hL X hX => by
      refine brP (fun h1 => ?_) fun h1 => ?_
      · have hlt : i < n := by simpa using h1
        refine cdP (idx_ok hlt) (cdP (idx_ok (by omega)) (brP (fun h2 => ?_) fun h2 => cdP (i64_nat hlt hn) ?_))
        · have e : S.eq1 a b i = false := by simp [S.eq1] at h2 ⊢; omega
          rw [S.from_step hlt, e, Bool.false_and] at hL
          exact Has.out (l := [(.i (.o .h), vB false)]) (.cons (by kernel_rfl) rfl (.nil (ex := _) rfl rfl)) (Nat.zero_le _) hL
        · refine hX (i + 1) _ (by omega) (by omega) (.cons (by kernel_rfl) rfl (.cons (by kernel_rfl) rfl (.cons (by kernel_rfl) rfl (.nil (ex := _) rfl rfl)))) ?_
          have e : S.eq1 a b i = true := by simp [S.eq1] at h2 ⊢; omega
          rw [S.from_step hlt, e, Bool.true_and] at hL
          exact hL
      · have hlt : n ≤ i := by simpa using h1
        rw [S.from_end hlt] at hL
        exact Has.out (l := []) (.nil (ex := _) rfl rfl) (Nat.zero_le _) hL
theorem fc_ref01_Same (n m : Nat) (a b : S.Rows) (hn : n ≤ maxLen) : FCall (cs3 hbs) f_ref01_Same [.c (.p (.isl 1 n (S.val a))), .c (.p (.isl 1 m (S.val b)))] (vB (S.sm n m a b)) [] :=
  fcall_k hT3 (F := F_ref01_Same) rfl (vc_ref01_Same n m a b _) (brP (fun h1 => frz_b (by
      have h1 : decide (n = m) = false := by simp at h1; exact decide_eq_false (by omega)
      unfold S.sm; rw [h1]; rfl)) fun h1 => by
    have hm : n = m := by simp at h1; omega
    exact ⟨go_ref01_Same hT3 934 n m a b hn hm 0 _ (Nat.zero_le _) (.cons (by kernel_rfl) rfl (.cons (by kernel_rfl) rfl (.cons (by kernel_rfl) rfl (.nil rfl rfl)))), brP (fun h2 => frz_b (by unfold S.sm; rw [h2, decide_eq_true hm]; rfl)) fun h2 => frz_b (by unfold S.sm; rw [h2, Bool.and_false])⟩)
include hT0
theorem go_water_ignore (fu : Nat) (ra le mo : Int) (n : Nat) (r : S.Rows) (x : Nat) (hn : n ≤ 30) (hR : S.allR n r) (hx : x < 256) : ∀ (i : Nat) (st : St), i ≤ n → (∃ ρ, HasR 0 ρ st [(.o .h, .c (.p (.int .u64 x))), (.o (.o (.i .h)), .c (.p (.int .i64 i))), (.o (.i .h), .c (.sl 2 0 (S.kpN (S.qB x) r i))), (.o (.i (.o .h)), .c (.p (.isl 4 n (S.val r)))), (.i .h, .c (.pt 0 0)), (.i (.o .h), .c (.pt 1 0)), (.i (.i (.o .h)), .c (.p (.int .i64 n)))] (hdI ra le mo n r x i)) →
    LoopGo (ex (cs3 hbs) (fu + 60)) 0 m_water_ignore_l1 st (.e (.exit 0) ⟨setAll [(.i .h, .c (.pt 0 0)), (.i (.o .h), .c (.pt 1 0)), (.o (.i .h), .c (.sl 2 0 (S.kpN (S.qB x) r n)))], hdI ra le mo n r x n⟩) :=
  loop_kR (σ := Nat) (fun i => [(.o .h, .c (.p (.int .u64 x))), (.o (.o (.i .h)), .c (.p (.int .i64 i))), (.o (.i .h), .c (.sl 2 0 (S.kpN (S.qB x) r i))), (.o (.i (.o .h)), .c (.p (.isl 4 n (S.val r)))), (.i .h, .c (.pt 0 0)), (.i (.o .h), .c (.pt 1 0)), (.i (.i (.o .h)), .c (.p (.int .i64 n)))]) (fun i => hdI ra le mo n r x i) (fun i => i ≤ n) (fun i => n - i)
    (fun _ => .e (.exit 0) ⟨setAll [(.i .h, .c (.pt 0 0)), (.i (.o .h), .c (.pt 1 0)), (.o (.i .h), .c (.sl 2 0 (S.kpN (S.qB x) r n)))], hdI ra le mo n r x n⟩) _ (fun i Q => vs_water_ignore (hbs := hbs) fu i (S.kpN (S.qB x) r i) ra le mo n r x (S.kpR (S.qB x) r i) Q) fun i hi' K hL X hX => by
      have hn' : n ≤ maxLen := by simp [maxLen]; omega
      refine brP (fun h1 => ?_) fun h1 => ?_
      · have hlt : i < n := by simpa using h1
        obtain ⟨a1, a2, a3⟩ := hR i hlt
        have e3 : r i 3 = ((r i 3).toNat : Nat) := by omega
        have hh := fc_has hT0 x (r i 3).toNat hx (by omega)
        rw [← e3] at hh
        have hk := S.kpN_le (q := S.qB x) (r := r) (n := i)
        refine cdP (idx_ok hlt) ⟨hh, brP (fun h2 => cdP (i64_nat hlt hn') ?_) fun h2 => cdP (Nat.le_refl _) (cdP (Nat.le_refl _) (cdP (by simp [Cd.holds]; omega) (cdP (i64_nat hlt hn') ?_)))⟩
        · obtain ⟨k1, k2⟩ := S.kpN_f (q := S.qB x) (r := r) (i := i) (by simp [S.qB, h2])
          refine hX (i + 1) _ (by omega) (by omega) ⟨[some 0, some 1, some 2], HasR.mk _ rfl rfl ?_ ?_⟩ hL
          · simp [WH, WB, WL, WA, WC, WP', upsB, memB, gC, hdI, k1, k2]
          · simp [LiveR, WA, WC, WP', Tr.get, k1]
        · have hq : S.qB x (r i 3) = true := by simp [S.qB, h2]
          have k1 := S.kpN_t (q := S.qB x) (r := r) (i := i) hq
          refine hX (i + 1) _ (by omega) (by omega) ⟨[some 0, some 1, some 4], HasR.mk _ rfl rfl ?_ ?_⟩ hL
          · simp [WH, WB, WL, WA, WC, WP', upsB, memB, gC, hdI, k1]
            exact fun j c hj hc => app_kp hq hj hc
          · simp [LiveR, WA, WC, WP', Tr.get, k1]
      · have hlt : n ≤ i := by simpa using h1
        obtain rfl : i = n := by omega
        refine HasR.out (l := [(.i .h, .c (.pt 0 0)), (.i (.o .h), .c (.pt 1 0)), (.o (.i .h), .c (.sl 2 0 (S.kpN (S.qB x) r i)))]) (HasR.mk (ρ := [some 0, some 1, some 2]) rfl rfl ?_ ?_) hL
        · simp [WH, WB, WL, WA, WC, WP', upsB, memB, gC, hdI]
        · simp [LiveR, WA, WC, WP', Tr.get]
theorem fc_water_ignore (ra le mo : Int) (n : Nat) (r : S.Rows) (x : Nat) (hn : n ≤ 30) (hR : S.allR n r) (hx : x < 256) : FCall (cs3 hbs) f_water_ignore [.ag (gC ra le mo n (S.val r)), .c (.p (.int .u64 x))] (.ag (gC ra le mo (S.kpN (S.qB x) r n) (S.val (S.kpR (S.qB x) r n)))) [] :=
  fcall_k hT3 (F := F_water_ignore) rfl (vc_water_ignore ra le mo n r x _) ⟨go_water_ignore hT0 hT3 934 ra le mo n r x hn hR hx 0 _ (Nat.zero_le _) ⟨[some 0, some 1, none], HasR.mk _ rfl rfl (by simp [WH, WB, WL, WA, WC, WP', upsB, memB, gC, hdI, S.kpN, S.kpL]) (by simp [LiveR, WA, WC, WP', Tr.get, S.kpN, S.kpL])⟩, by simp [frzA, frzL, frzC, gC]⟩
omit hT0
theorem go_ref01_Ignored (fu : Nat) (ra le mo : Int) (n : Nat) (r : S.Rows) (m : Nat) (l : S.Rows) (hn : n ≤ 30) (hm : m ≤ maxLen) : ∀ (i : Nat) (st : St), i ≤ n → (∃ ρ, HasR 0 ρ st [(.o .h, .c (.p (.isl 1 m (S.val l)))), (.o (.i .h), .c (.pt 2 0)), (.i .h, .c (.pt 0 0)), (.i (.o .h), .c (.pt 1 0)), (.i (.i .h), .c (.p (.int .i64 i)))] (hdJ ra le mo n r m l i)) →
    LoopGo (ex (cs3 hbs) (fu + 60)) 0 m_ref01_Ignored_l1 st (.e (.exit 0) ⟨setAll [(.i (.o .h), .c (.pt 1 0)), (.o (.i .h), .c (.pt 2 0))], hdJ ra le mo n r m l n⟩) :=
  loop_kR (σ := Nat) (fun i => [(.o .h, .c (.p (.isl 1 m (S.val l)))), (.o (.i .h), .c (.pt 2 0)), (.i .h, .c (.pt 0 0)), (.i (.o .h), .c (.pt 1 0)), (.i (.i .h), .c (.p (.int .i64 i)))]) (fun i => hdJ ra le mo n r m l i) (fun i => i ≤ n) (fun i => n - i)
    (fun _ => .e (.exit 0) ⟨setAll [(.i (.o .h), .c (.pt 1 0)), (.o (.i .h), .c (.pt 2 0))], hdJ ra le mo n r m l n⟩) _ (fun i Q => vs_ref01_Ignored (hbs := hbs) fu i (S.kpN (S.qL m l) r i) ra le mo n r m l (S.kpR (S.qL m l) r i) Q) fun i hi' K hL X hX => by
      have hn' : n ≤ maxLen := by simp [maxLen]; omega
      refine brP (fun h1 => ?_) fun h1 => ?_
      · have hlt : i < n := by simpa using h1
        have hk := S.kpN_le (q := S.qL m l) (r := r) (n := i)
        refine cdP (idx_ok hlt) ⟨fc_ref01_Has hT3 m l (r i 3) hm, brP (fun h2 => cdP (i64_nat hlt hn') ?_) fun h2 => cdP (idx_ok hlt) (cdP (Nat.le_refl _) (cdP (Nat.le_refl _) (cdP (by simp [Cd.holds]; omega) (cdP (i64_nat hlt hn') ?_))))⟩
        · obtain ⟨k1, k2⟩ := S.kpN_f (q := S.qL m l) (r := r) (i := i) (by simp [S.qL, h2])
          refine hX (i + 1) _ (by omega) (by omega) ⟨[some 0, some 1, some 2, some 3], HasR.mk _ rfl rfl ?_ ?_⟩ hL
          · simp [WH, WB, WL, WA, WC, WP', upsB, memB, gC, hdJ, k1, k2]
          · simp [LiveR, WA, WC, WP', Tr.get, k1]
        · have hq : S.qL m l (r i 3) = true := by simp [S.qL, h2]
          have k1 := S.kpN_t (q := S.qL m l) (r := r) (i := i) hq
          refine hX (i + 1) _ (by omega) (by omega) ⟨[some 0, some 1, some 2, some 4], HasR.mk _ rfl rfl ?_ ?_⟩ hL
          · simp [WH, WB, WL, WA, WC, WP', upsB, memB, gC, hdJ, k1]
            exact fun j c hj hc => app_kp hq hj hc
          · simp [LiveR, WA, WC, WP', Tr.get, k1]
      · have hlt : n ≤ i := by simpa using h1
        obtain rfl : i = n := by omega
        refine HasR.out (l := [(.i (.o .h), .c (.pt 1 0)), (.o (.i .h), .c (.pt 2 0))]) (HasR.mk (ρ := [some 0, some 1, some 2, some 3]) rfl rfl ?_ ?_) hL
        · simp [WH, WB, WL, WA, WC, WP', upsB, memB, gC, hdJ]
        · simp [LiveR, WA, WC, WP', Tr.get]
theorem fc_ref01_Ignored (ra le mo : Int) (n : Nat) (r : S.Rows) (m : Nat) (l : S.Rows) (hn : n ≤ 30) (hm : m ≤ maxLen) : FCall (cs3 hbs) f_ref01_Ignored [.ag (gC ra le mo n (S.val r)), .c (.p (.isl 1 m (S.val l)))] (.ag (gC ra le mo (S.kpN (S.qL m l) r n) (S.val (S.kpR (S.qL m l) r n)))) [] :=
  fcall_k hT3 (F := F_ref01_Ignored) rfl (vc_ref01_Ignored ra le mo n r m l _) ⟨go_ref01_Ignored hT3 934 ra le mo n r m l hn hm 0 _ (Nat.zero_le _) ⟨[some 0, some 1, some 2, none], HasR.mk _ rfl rfl (by simp [WH, WB, WL, WA, WC, WP', upsB, memB, gC, hdJ, S.kpN, S.kpL]) (by simp [LiveR, WA, WC, WP', Tr.get, S.kpN, S.kpL])⟩, by simp [frzA, frzL, frzC, gC]⟩
include hT0 hT2
theorem go_water_leastBlame2 (fu z : Nat) (ra le mo : Int) (n : Nat) (r : S.Rows) (hn : n ≤ 30) (hR : S.allR n r) (hra : 0 ≤ ra ∧ ra ≤ 1000) (hz : z < 8) : ∀ (i : Nat) (st : St), i ≤ 256 → Has st [(.o .h, .c (.pt 0 0)), (.o (.o .h), .c (.p (.int .u64 255))), (.o (.o (.o .h)), .c (.p (.int .i64 z))), (.i (.o .h), .c (.p (.int .i64 z))), (.i (.i (.o .h)), .c (.p (.int .u64 i)))] [some (.box t_api_Gauge (gC ra le mo n (S.val r)))] →
    LoopGo (ex (cs3 hbs) (fu + 60)) 0 m_water_leastBlame_l2 st (.br (decide (S.inS (S.okB ra le mo n r) z i < 256)) (.e (.exit 0) ⟨setAll [(.o (.o .h), .c (.p (.int .u64 (S.cmp255 (S.inS (S.okB ra le mo n r) z i)))))], [some (.box t_api_Gauge (gC ra le mo n (S.val r)))]⟩) (.e (.exit 2) ⟨setAll [(.o .h, .c (.pt 0 0)), (.o (.o .h), v255), (.o (.o (.o .h)), .c (.p (.int .i64 z)))], [some (.box t_api_Gauge (gC ra le mo n (S.val r)))]⟩)) :=
  loop_k (σ := Nat) (fun i => [(.o .h, .c (.pt 0 0)), (.o (.o .h), .c (.p (.int .u64 255))), (.o (.o (.o .h)), .c (.p (.int .i64 z))), (.i (.o .h), .c (.p (.int .i64 z))), (.i (.i (.o .h)), .c (.p (.int .u64 i)))]) (fun _ => [some (.box t_api_Gauge (gC ra le mo n (S.val r)))]) (fun i => i ≤ 256) (fun i => 256 - i)
    (fun i => .br (decide (S.inS (S.okB ra le mo n r) z i < 256)) (.e (.exit 0) ⟨setAll [(.o (.o .h), .c (.p (.int .u64 (S.cmp255 (S.inS (S.okB ra le mo n r) z i)))))], [some (.box t_api_Gauge (gC ra le mo n (S.val r)))]⟩) (.e (.exit 2) ⟨setAll [(.o .h, .c (.pt 0 0)), (.o (.o .h), v255), (.o (.o (.o .h)), .c (.p (.int .i64 z)))], [some (.box t_api_Gauge (gC ra le mo n (S.val r)))]⟩)) (fun _ => Nat.zero_le _) _ (fun i Q => vs_water_leastBlame2 (hbs := hbs) fu z i ra le mo n r Q) fun i hi' K hL X hX => by
      refine brP (fun h1 => ?_) fun h1 => ?_
      · have hlt : i < 256 := by simp at h1; omega
        have ew : IntKind.wrap .u64 (255 - (i : Int)) = ((255 - i : Nat) : Int) := S.cmp255_eq hlt
        have hx : 255 - i < 256 := by omega
        have e1 : IntKind.wrap .u64 ((i : Int) + 1) = ((i + 1 : Nat) : Int) := by
          unfold IntKind.wrap
          simp [IntKind.bits, IntKind.signed]
          omega
        have g1 : FCall (cs3 hbs) f_water_sourceSet_size [.c (.p (.int .u64 (IntKind.wrap .u64 (255 - (i : Int)))))] (.c (.p (.int .i64 ((S.pc (Int.toNat (IntKind.wrap .u64 (255 - (i : Int)))) : Nat) : Int)))) [] := by
          rw [ew, Int.toNat_natCast]; exact fc_size hT0 _ hx
        have g2 : FCall (cs3 hbs) f_water_ignore [.ag (gC ra le mo n (S.val r)), .c (.p (.int .u64 (IntKind.wrap .u64 (255 - (i : Int)))))] (.ag (gC ra le mo (S.kpN (S.qB (Int.toNat (IntKind.wrap .u64 (255 - (i : Int))))) r n) (S.val (S.kpR (S.qB (Int.toNat (IntKind.wrap .u64 (255 - (i : Int))))) r n)))) [] := by
          rw [ew, Int.toNat_natCast]; exact fc_water_ignore hT0 hT3 ra le mo n r _ hn hR hx
        have hle := S.kpN_le (q := S.qB (Int.toNat (IntKind.wrap .u64 (255 - (i : Int))))) (r := r) (n := n)
        have g3 := FCall.cfg (C := cs2 hbs) (C' := cs3 hbs) rfl rfl (fc_water_hasCourse hT2 ra le mo (S.kpN (S.qB (Int.toNat (IntKind.wrap .u64 (255 - (i : Int))))) r n) (S.kpR (S.qB (Int.toNat (IntKind.wrap .u64 (255 - (i : Int))))) r n) (by simp [maxLen]; omega) (S.kp_all hR) hra)
        have next : S.inP (S.okB ra le mo n r) z i = false → ∀ s', Has s' [(.o .h, .c (.pt 0 0)), (.o (.o .h), .c (.p (.int .u64 255))), (.o (.o (.o .h)), .c (.p (.int .i64 z))), (.i (.o .h), .c (.p (.int .i64 z))), (.i (.i (.o .h)), .c (.p (.int .u64 (i + 1 : Nat))))] [some (.box t_api_Gauge (gC ra le mo n (S.val r)))] → X s' := fun e s' hs => by
          refine hX (i + 1) _ (by omega) (by omega) hs ?_
          rw [show S.inS (S.okB ra le mo n r) z i = S.inS (S.okB ra le mo n r) z (i + 1) from S.fiF_skip hlt e] at hL
          exact hL
        refine ⟨g1, brP (fun h2 => ⟨g2, g3, brP (fun h3 => ?_) fun h3 => ?_⟩) fun h2 => ?_⟩
        · have e : S.inP (S.okB ra le mo n r) z i = true := by
            rw [ew, Int.toNat_natCast] at h2 h3
            simp only [S.inP, S.okB, S.okQ, h3, Bool.and_true]
            have : S.pc (255 - i) = z := by simp at h2; omega
            rw [this]; exact Nat.beq_refl _
          rw [show S.inS (S.okB ra le mo n r) z i = i from S.fiF_hit hlt e, decide_eq_true hlt] at hL
          exact Has.out (l := [(.o (.o .h), .c (.p (.int .u64 (S.cmp255 i))))]) (.cons (by kernel_rfl) rfl (.nil (ex := _) rfl rfl)) (Nat.zero_le _) hL
        · refine next ?_ _ (.cons (by kernel_rfl) rfl (.cons (by kernel_rfl) rfl (.cons (by kernel_rfl) rfl (.cons (by kernel_rfl) rfl (.cons (congrArg (fun q => AV.c (.p (.int .u64 q))) e1) rfl (.nil (ex := _) rfl rfl))))))
          rw [ew, Int.toNat_natCast] at h3
          simp only [S.inP, S.okB, S.okQ, h3, Bool.and_false]
        · refine next ?_ _ (.cons (by kernel_rfl) rfl (.cons (by kernel_rfl) rfl (.cons (by kernel_rfl) rfl (.cons (by kernel_rfl) rfl (.cons (congrArg (fun q => AV.c (.p (.int .u64 q))) e1) rfl (.nil (ex := _) rfl rfl))))))
          rw [ew, Int.toNat_natCast] at h2
          have : ¬ S.pc (255 - i) = z := by simp at h2; omega
          have hb : Nat.beq (S.pc (255 - i)) z = false := by
            cases hb : Nat.beq (S.pc (255 - i)) z with
            | false => rfl
            | true => exact absurd (Nat.eq_of_beq_eq_true hb) this
          simp only [S.inP, hb, Bool.false_and]
      · have hlt : 256 ≤ i := by simp at h1; omega
        rw [show S.inS (S.okB ra le mo n r) z i = i from S.fiF_end hlt, decide_eq_false (by omega)] at hL
        exact Has.out (l := [(.o .h, .c (.pt 0 0)), (.o (.o .h), v255), (.o (.o (.o .h)), .c (.p (.int .i64 z)))]) (.cons (by kernel_rfl) rfl (.cons (by kernel_rfl) rfl (.cons (by kernel_rfl) rfl (.nil (ex := _) rfl rfl)))) (Nat.zero_le _) hL
theorem go_water_leastBlame1 (fu : Nat) (ra le mo : Int) (n : Nat) (r : S.Rows) (hn : n ≤ 30) (hR : S.allR n r) (hra : 0 ≤ ra ∧ ra ≤ 1000) : ∀ (z : Nat) (st : St), z ≤ 8 → Has st [(.o .h, .c (.pt 0 0)), (.o (.o .h), .c (.p (.int .u64 255))), (.o (.o (.o .h)), .c (.p (.int .i64 z)))] [some (.box t_api_Gauge (gC ra le mo n (S.val r)))] →
    LoopGo (ex (cs3 hbs) (fu + 8 + 60)) 0 m_water_leastBlame_l1 st (.br (S.blB (S.okB ra le mo n r) z) (.e (.exit 0) ⟨setAll [(.o (.o .h), .c (.p (.int .u64 (S.cmp255 (S.inS (S.okB ra le mo n r) (S.blS (S.okB ra le mo n r) z) 0)))))], [some (.box t_api_Gauge (gC ra le mo n (S.val r)))]⟩) (.e (.exit 0) ⟨setAll [(.o (.o .h), v255)], [some (.box t_api_Gauge (gC ra le mo n (S.val r)))]⟩)) :=
  loop_k (σ := Nat) (fun z => [(.o .h, .c (.pt 0 0)), (.o (.o .h), .c (.p (.int .u64 255))), (.o (.o (.o .h)), .c (.p (.int .i64 z)))]) (fun _ => [some (.box t_api_Gauge (gC ra le mo n (S.val r)))]) (fun z => z ≤ 8) (fun z => 8 - z)
    (fun z => .br (S.blB (S.okB ra le mo n r) z) (.e (.exit 0) ⟨setAll [(.o (.o .h), .c (.p (.int .u64 (S.cmp255 (S.inS (S.okB ra le mo n r) (S.blS (S.okB ra le mo n r) z) 0)))))], [some (.box t_api_Gauge (gC ra le mo n (S.val r)))]⟩) (.e (.exit 0) ⟨setAll [(.o (.o .h), v255)], [some (.box t_api_Gauge (gC ra le mo n (S.val r)))]⟩)) (fun _ => Nat.zero_le _) _ (fun z Q => vs_water_leastBlame1 (hbs := hbs) (fu + 8) z ra le mo n r Q) fun z hz' K hL X hX => by
      refine brP (fun h1 => ?_) fun h1 => ?_
      · have hlt : z < 8 := by simp at h1; omega
        refine ⟨go_water_leastBlame2 hT0 hT2 hT3 fu z ra le mo n r hn hR hra hlt 0 _ (by omega) (.cons (by kernel_rfl) rfl (.cons (by kernel_rfl) rfl (.cons (by kernel_rfl) rfl (.cons (by kernel_rfl) rfl (.cons (by kernel_rfl) rfl (.nil (ex := _) rfl rfl)))))), brP (fun h2 => ?_) fun h2 => cdP (i64_of (by omega) (by omega)) ?_⟩
        · have e : S.blS (S.okB ra le mo n r) z = z := S.fiF_hit hlt h2
          rw [e, show S.blB (S.okB ra le mo n r) z = true by unfold S.blB; rw [e]; exact decide_eq_true hlt] at hL
          exact Has.out (l := [(.o (.o .h), .c (.p (.int .u64 (S.cmp255 (S.inS (S.okB ra le mo n r) z 0)))))]) (.cons (by kernel_rfl) rfl (.nil (ex := _) rfl rfl)) (Nat.zero_le _) hL
        · refine hX (z + 1) _ (by omega) (by omega) (.cons (by kernel_rfl) rfl (.cons (by kernel_rfl) rfl (.cons (by kernel_rfl) rfl (.nil (ex := _) rfl rfl)))) ?_
          have e : S.blS (S.okB ra le mo n r) z = S.blS (S.okB ra le mo n r) (z + 1) := S.fiF_skip hlt h2
          rw [e, show S.blB (S.okB ra le mo n r) z = S.blB (S.okB ra le mo n r) (z + 1) by unfold S.blB; rw [e]] at hL
          exact hL
      · have hlt : 8 ≤ z := by simp at h1; omega
        have e : S.blS (S.okB ra le mo n r) z = z := S.fiF_end hlt
        rw [show S.blB (S.okB ra le mo n r) z = false by unfold S.blB; rw [e]; exact decide_eq_false (by omega)] at hL
        exact Has.out (l := [(.o (.o .h), v255)]) (.cons (by kernel_rfl) rfl (.nil (ex := _) rfl rfl)) (Nat.zero_le _) hL
theorem fc_water_leastBlame (ra le mo : Int) (n : Nat) (r : S.Rows) (hn : n ≤ 30) (hR : S.allR n r) (hra : 0 ≤ ra ∧ ra ≤ 1000) : FCall (cs3 hbs) f_water_leastBlame [.ag (gC ra le mo n (S.val r))] (.c (.p (.int .u64 (S.bl (S.okB ra le mo n r))))) [] :=
  fcall_k hT3 (F := F_water_leastBlame) rfl (vc_water_leastBlame ra le mo n r _) ⟨go_water_leastBlame1 hT0 hT2 hT3 925 ra le mo n r hn hR hra 0 _ (Nat.zero_le _) (.cons (by kernel_rfl) rfl (.cons (by kernel_rfl) rfl (.cons (by kernel_rfl) rfl (.nil rfl rfl)))), brP (fun h => by
      have hs : S.blS (S.okB ra le mo n r) 0 < 8 := of_decide_eq_true h
      have hi : S.inS (S.okB ra le mo n r) (S.blS (S.okB ra le mo n r) 0) 0 < 256 := of_decide_eq_true (S.fiF_lt (p := S.szB (S.okB ra le mo n r)) hs)
      rw [S.cmp255_eq hi, show S.bl (S.okB ra le mo n r) = 255 - S.inS (S.okB ra le mo n r) (S.blS (S.okB ra le mo n r) 0) 0 by unfold S.bl; rw [h]; rfl]
      rfl) fun h => by
      rw [show S.bl (S.okB ra le mo n r) = 255 by unfold S.bl; rw [h]]
      rfl⟩
omit hT2
theorem go_water_Blame (fu : Nat) (ra le mo : Int) (n : Nat) (r : S.Rows) (x : Nat) (hx : x < 256) : ∀ (z : Nat) (st : St), z ≤ 8 → (∃ ρ, HasR 0 ρ st [(.i (.o (.i .h)), .c (.p (.int .i64 z))), (.i (.o .h), .c (.sl 1 0 (S.buN x z))), (.o (.i .h), .c (.p (.int .u64 x)))] (hdU ra le mo n r x z)) →
    LoopGo (ex (cs3 hbs) (fu + 60)) 0 m_water_Blame_l1 st (.e (.exit 0) ⟨setAll [(.i (.o .h), .c (.sl 1 0 (S.buN x 8)))], hdU ra le mo n r x 8⟩) :=
  loop_kR (σ := Nat) (fun z => [(.i (.o (.i .h)), .c (.p (.int .i64 z))), (.i (.o .h), .c (.sl 1 0 (S.buN x z))), (.o (.i .h), .c (.p (.int .u64 x)))]) (fun z => hdU ra le mo n r x z) (fun z => z ≤ 8) (fun z => 8 - z)
    (fun _ => .e (.exit 0) ⟨setAll [(.i (.o .h), .c (.sl 1 0 (S.buN x 8)))], hdU ra le mo n r x 8⟩) _ (fun z Q => vs_water_Blame (hbs := hbs) fu z (S.buN x z) ra le mo n r x (S.buR x z) Q) fun z hz' K hL X hX => by
      refine brP (fun h1 => ?_) fun h1 => ?_
      · have hlt : z < 8 := by simp at h1; omega
        have hk : S.buN x z ≤ z := by unfold S.buN S.bitU; exact Nat.le_trans (List.length_filter_le _ _) (by simp)
        refine ⟨fc_has hT0 x z hx hlt, brP (fun h2 => cdP (Nat.le_refl _) (cdP (Nat.le_refl _) (cdP (by simp [Cd.holds]; omega) (cdP (i64_of (by omega) (by omega)) ?_)))) fun h2 => cdP (i64_of (by omega) (by omega)) ?_⟩
        · have k1 := S.buN_t h2
          refine hX (z + 1) _ (by omega) (by omega) ⟨[some 0, some 2], HasR.mk _ rfl rfl ?_ ?_⟩ hL
          · simp [WH, WB, WL, WA, WC, WP', upsB, memB, gC, hdU, k1]
            exact fun j hj => by simpa using app_bu (c := 0) h2 hj (by omega)
          · simp [LiveR, WA, WC, WP', Tr.get, k1]
        · obtain ⟨k1, k2⟩ := S.buN_f h2
          refine hX (z + 1) _ (by omega) (by omega) ⟨[some 0, some 1], HasR.mk _ rfl rfl ?_ ?_⟩ hL
          · simp [WH, WB, WL, WA, WC, WP', upsB, memB, gC, hdU, k1, k2]
          · simp [LiveR, WA, WC, WP', Tr.get, k1]
      · have hlt : 8 ≤ z := by simp at h1; omega
        obtain rfl : z = 8 := by omega
        refine HasR.out (l := [(.i (.o .h), .c (.sl 1 0 (S.buN x 8)))]) (HasR.mk (ρ := [some 0, some 1]) rfl rfl ?_ ?_) hL
        · simp [WH, WB, WL, WA, WC, WP', upsB, memB, gC, hdU]
        · simp [LiveR, WA, WC, WP', Tr.get]
include hT2
theorem fc_water_Blame (hk : TabOk (cs hbs)) (ra le mo : Int) (n : Nat) (r : S.Rows) (hn : n ≤ maxLen) : FCall (cs3 hbs) f_water_Blame [.ag (gC ra le mo n (S.val r))] (.tp [.c (.p (.isl 1 (S.bmN ra le mo n r) (S.val (S.bitR (S.bl (S.okB ra le mo n r)))))), .c (.p (.int .i64 (S.knE ra le mo n r)))]) [] := by
  have kn := FCall.cfg (C := cs hbs) (C' := cs3 hbs) rfl rfl (fc_water_Known hk ra le mo n r hn)
  cases hg : S.ggB ra le mo n r (-100000) 100000 with
  | false =>
    rw [S.knE_f hg, show S.bmN ra le mo n r = 0 by unfold S.bmN; rw [hg]]
    rw [S.knE_f hg] at kn
    have h : FCall (cs3 hbs) f_water_Blame [.ag (gC ra le mo n (S.val r))] (.tp [.c (.p .nsl), .c (.p (.int .i64 2))]) [] :=
      fcall_k hT3 (F := F_water_Blame) rfl (vc_water_Blame ra le mo n r _) ⟨by rw [S.knE_f hg]; exact kn, by
        rw [S.knE_f hg]
        exact brP (fun _ => rfl) fun h => absurd h (by decide)⟩
    exact h.weak [] rfl (by simp [WH]) (by simp [WAs, WA, WL, WC, WP'])
  | true =>
    have hR := S.ggB_all hg
    obtain ⟨hra, _, hn3, _⟩ := S.ggB_in hg
    have hbl : S.bl (S.okB ra le mo n r) < 256 := by unfold S.bl; split <;> (try unfold S.blX) <;> omega
    rw [S.knE_t hg, show S.bmN ra le mo n r = S.pc (S.bl (S.okB ra le mo n r)) by unfold S.bmN; rw [hg]]
    rw [S.knE_t hg] at kn
    exact fcall_k hT3 (F := F_water_Blame) rfl (vc_water_Blame ra le mo n r _) ⟨by rw [S.knE_t hg]; exact kn, by
        rw [S.knE_t hg]
        exact brP (fun h => absurd h (by decide)) fun _ => ⟨fc_water_leastBlame hT0 hT2 hT3 ra le mo n r hn3 hR hra, go_water_Blame hT0 hT3 932 ra le mo n r _ hbl 0 _ (Nat.zero_le _) ⟨[some 0, none], HasR.mk _ rfl rfl (by simp [WH, WB, WL, WA, WC, WP', upsB, memB, gC, hdU, S.buN, S.bitU]) (by simp [LiveR, WA, WC, WP', Tr.get, S.buN, S.bitU])⟩, by simp [frzA, frzAs, frzL, frzC]; exact ⟨rfl, rfl⟩⟩⟩
omit hT0
theorem go_ref01_Blame2 (fu z : Nat) (ra le mo : Int) (n : Nat) (r : S.Rows) (hn : n ≤ 30) (hR : S.allR n r) (hra : 0 ≤ ra ∧ ra ≤ 1000) (hz : z < 9) (hs : S.stN z ≤ 256) : ∀ (i : Nat) (st : St), i ≤ S.stN z → Has st [(.o .h, .c (.pt 0 0)), (.o (.o .h), .c (.p (.int .i64 z))), (.i (.o .h), .c (.p (.isl 1 (S.stN z) fun i _ => .isl 1 (S.pc (S.stX z i)) (S.val (S.bitR (S.stX z i)))))), (.o (.i .h), .c (.p (.int .i64 i)))] [some (.box t_api_Gauge (gC ra le mo n (S.val r)))] →
    LoopGo (ex (cs3 hbs) (fu + 60)) 0 m_ref01_Blame_l2 st (.br (decide (S.rI (S.okB ra le mo n r) z i < S.stN z)) (.e .ret ⟨setAll [(.i .h, bitA (S.stX z (S.rI (S.okB ra le mo n r) z i)))], [some (.box t_api_Gauge (gC ra le mo n (S.val r)))]⟩) (.e (.exit 2) ⟨setAll [(.o .h, .c (.pt 0 0)), (.o (.o .h), .c (.p (.int .i64 z)))], [some (.box t_api_Gauge (gC ra le mo n (S.val r)))]⟩)) :=
  loop_k (σ := Nat) (fun i => [(.o .h, .c (.pt 0 0)), (.o (.o .h), .c (.p (.int .i64 z))), (.i (.o .h), .c (.p (.isl 1 (S.stN z) fun i _ => .isl 1 (S.pc (S.stX z i)) (S.val (S.bitR (S.stX z i)))))), (.o (.i .h), .c (.p (.int .i64 i)))]) (fun _ => [some (.box t_api_Gauge (gC ra le mo n (S.val r)))]) (fun i => i ≤ S.stN z) (fun i => S.stN z - i)
    (fun i => .br (decide (S.rI (S.okB ra le mo n r) z i < S.stN z)) (.e .ret ⟨setAll [(.i .h, bitA (S.stX z (S.rI (S.okB ra le mo n r) z i)))], [some (.box t_api_Gauge (gC ra le mo n (S.val r)))]⟩) (.e (.exit 2) ⟨setAll [(.o .h, .c (.pt 0 0)), (.o (.o .h), .c (.p (.int .i64 z)))], [some (.box t_api_Gauge (gC ra le mo n (S.val r)))]⟩)) (fun _ => Nat.zero_le _) _ (fun i Q => vs_ref01_Blame2 (hbs := hbs) fu z i ra le mo n r Q) fun i hi' K hL X hX => by
      refine brP (fun h1 => ?_) fun h1 => ?_
      · have hlt : i < S.stN z := by simpa using h1
        have hp : S.pc (S.stX z i) ≤ 8 := by unfold S.pc S.bitL; exact Nat.le_trans (List.length_filter_le _ _) (by simp)
        have hle := S.kpN_le (q := S.qL (S.pc (S.stX z i)) (S.bitR (S.stX z i))) (r := r) (n := n)
        have eo := S.okL (ra := ra) (le := le) (mo := mo) hR (S.stX_lt (s := z) (i := i) hz)
        refine cdP (idx_ok hlt) ⟨fc_ref01_Ignored hT3 ra le mo n r _ _ hn (by simp [maxLen]; omega), FCall.cfg (C := cs2 hbs) (C' := cs3 hbs) rfl rfl (fc_ref01_Clash hT2 ra le mo (S.kpN (S.qL (S.pc (S.stX z i)) (S.bitR (S.stX z i))) r n) (S.kpR (S.qL (S.pc (S.stX z i)) (S.bitR (S.stX z i))) r n) (by simp [maxLen]; omega) (S.kp_all hR) hra), brP (fun h2 => cdP (i64_of (by omega) (by omega)) ?_) fun h2 => cdP (idx_ok hlt) ?_⟩
        · refine hX (i + 1) _ (by omega) (by omega) (.cons (by kernel_rfl) rfl (.cons (by kernel_rfl) rfl (.cons (by kernel_rfl) rfl (.cons (by kernel_rfl) rfl (.nil (ex := _) rfl rfl))))) ?_
          have e : (S.okB ra le mo n r) (S.stX z i) = false := by rw [← eo]; simp only [S.okQ, h2]; rfl
          rw [show S.rI (S.okB ra le mo n r) z i = S.rI (S.okB ra le mo n r) z (i + 1) from S.fiF_skip hlt e] at hL
          exact hL
        · have e : (S.okB ra le mo n r) (S.stX z i) = true := by rw [← eo]; simp only [S.okQ, h2]; rfl
          rw [show S.rI (S.okB ra le mo n r) z i = i from S.fiF_hit hlt e, decide_eq_true hlt] at hL
          exact Has.out (l := [(.i .h, bitA (S.stX z i))]) (.cons (by kernel_rfl) rfl (.nil (ex := _) rfl rfl)) (Nat.zero_le _) hL
      · have hlt : S.stN z ≤ i := by simpa using h1
        rw [show S.rI (S.okB ra le mo n r) z i = i from S.fiF_end hlt, decide_eq_false (by omega)] at hL
        exact Has.out (l := [(.o .h, .c (.pt 0 0)), (.o (.o .h), .c (.p (.int .i64 z)))]) (.cons (by kernel_rfl) rfl (.cons (by kernel_rfl) rfl (.nil (ex := _) rfl rfl))) (Nat.zero_le _) hL
include hT0
theorem go_ref01_Blame1 (fu : Nat) (ra le mo : Int) (n : Nat) (r : S.Rows) (hn : n ≤ 30) (hR : S.allR n r) (hra : 0 ≤ ra ∧ ra ≤ 1000) : ∀ (z : Nat) (st : St), z ≤ 8 → Has st [(.o .h, .c (.pt 0 0)), (.o (.o .h), .c (.p (.int .i64 z)))] [some (.box t_api_Gauge (gC ra le mo n (S.val r)))] →
    LoopGo (ex (cs3 hbs) (fu + 7 + 60)) 0 m_ref01_Blame_l1 st (.br (S.blB (S.okB ra le mo n r) z) (.e .ret ⟨setAll [(.i .h, bitA (S.blX (S.okB ra le mo n r) z))], [some (.box t_api_Gauge (gC ra le mo n (S.val r)))]⟩) (.e (.exit 0) ⟨.lf, [some (.box t_api_Gauge (gC ra le mo n (S.val r)))]⟩)) :=
  loop_k (σ := Nat) (fun z => [(.o .h, .c (.pt 0 0)), (.o (.o .h), .c (.p (.int .i64 z)))]) (fun _ => [some (.box t_api_Gauge (gC ra le mo n (S.val r)))]) (fun z => z ≤ 8) (fun z => 8 - z)
    (fun z => .br (S.blB (S.okB ra le mo n r) z) (.e .ret ⟨setAll [(.i .h, bitA (S.blX (S.okB ra le mo n r) z))], [some (.box t_api_Gauge (gC ra le mo n (S.val r)))]⟩) (.e (.exit 0) ⟨.lf, [some (.box t_api_Gauge (gC ra le mo n (S.val r)))]⟩)) (fun _ => Nat.zero_le _) _ (fun z Q => vs_ref01_Blame1 (hbs := hbs) (fu + 7) z ra le mo n r Q) fun z hz' K hL X hX => by
      refine brP (fun h1 => ?_) fun h1 => ?_
      · have hlt : z < 8 := by simp at h1; omega
        have hs : S.stN z ≤ 256 := S.stN_le (by omega)
        obtain ⟨b1, b2⟩ := S.both (S.okB ra le mo n r) z (by omega)
        refine ⟨fc_Sets hT3 z (by omega), go_ref01_Blame2 hT2 hT3 fu z ra le mo n r hn hR hra (by omega) hs 0 _ (by omega) (.cons (by kernel_rfl) rfl (.cons (by kernel_rfl) rfl (.cons (by kernel_rfl) rfl (.cons (by kernel_rfl) rfl (.nil (ex := _) rfl rfl))))), brP (fun h2 => ?_) fun h2 => cdP (i64_of (by omega) (by omega)) ?_⟩
        · rw [b1] at h2
          have e : S.blS (S.okB ra le mo n r) z = z := S.fiF_hit hlt h2
          rw [show S.blX (S.okB ra le mo n r) z = S.stX z (S.rI (S.okB ra le mo n r) z 0) by unfold S.blX; rw [e]; exact (b2 h2).symm, show S.blB (S.okB ra le mo n r) z = true by unfold S.blB; rw [e]; exact decide_eq_true hlt] at hL
          exact Has.out (l := [(.i .h, bitA (S.stX z (S.rI (S.okB ra le mo n r) z 0)))]) (.cons (by kernel_rfl) rfl (.nil (ex := _) rfl rfl)) (Nat.zero_le _) hL
        · rw [b1] at h2
          refine hX (z + 1) _ (by omega) (by omega) (.cons (by kernel_rfl) rfl (.cons (by kernel_rfl) rfl (.nil (ex := _) rfl rfl))) ?_
          have e : S.blS (S.okB ra le mo n r) z = S.blS (S.okB ra le mo n r) (z + 1) := S.fiF_skip hlt h2
          rw [show S.blX (S.okB ra le mo n r) z = S.blX (S.okB ra le mo n r) (z + 1) by unfold S.blX; rw [e], show S.blB (S.okB ra le mo n r) z = S.blB (S.okB ra le mo n r) (z + 1) by unfold S.blB; rw [e]] at hL
          exact hL
      · have hlt : 8 ≤ z := by simp at h1; omega
        have e : S.blS (S.okB ra le mo n r) z = z := S.fiF_end hlt
        rw [show S.blB (S.okB ra le mo n r) z = false by unfold S.blB; rw [e]; exact decide_eq_false (by omega)] at hL
        exact Has.out (l := []) (.nil (ex := _) rfl rfl) (Nat.zero_le _) hL
theorem fc_ref01_Blame (ra le mo : Int) (n : Nat) (r : S.Rows) (hn : n ≤ 30) (hR : S.allR n r) (hra : 0 ≤ ra ∧ ra ≤ 1000) : FCall (cs3 hbs) f_ref01_Blame [.ag (gC ra le mo n (S.val r))] (.c (.p (.isl 1 (S.pc (S.bl (S.okB ra le mo n r))) (S.val (S.bitR (S.bl (S.okB ra le mo n r))))))) [] :=
  fcall_k hT3 (F := F_ref01_Blame) rfl (vc_ref01_Blame ra le mo n r _) ⟨go_ref01_Blame1 hT0 hT2 hT3 928 ra le mo n r hn hR hra 0 _ (Nat.zero_le _) (.cons (by kernel_rfl) rfl (.cons (by kernel_rfl) rfl (.nil rfl rfl))), brP (fun h => by
      rw [show S.bl (S.okB ra le mo n r) = S.blX (S.okB ra le mo n r) 0 by unfold S.bl; rw [h]]
      rfl) fun h => ⟨fc_Sets hT3 8 (by omega), by
      rw [show S.bl (S.okB ra le mo n r) = 255 by unfold S.bl; rw [h], show S.stX 8 0 = 255 by kernel_rfl]
      rfl⟩⟩
theorem fc_law01_WaterBounds (hT1 : TabOk (cs hbs)) (hk : FCall (cs3 hbs) f_law01_known [] (vB true) []) (ra le mo : Int) (n : Nat) (r : S.Rows) (hn : n ≤ maxLen) : FCall (cs3 hbs) f_law01_WaterBounds [.ag (gC ra le mo n (S.val r))] (vB true) [] := by
  have z1 := FCall.cfg (C := cs2 hbs) (C' := cs3 hbs) rfl rfl (fc_water_Bounds hT2 hT1 ra le mo n r hn)
  have z2 := FCall.cfg (C := cs2 hbs) (C' := cs3 hbs) rfl rfl (fc_water_Clash hT2 hT1 ra le mo n r hn)
  have z3 := fc_water_Blame hT0 hT2 hT3 hT1 ra le mo n r hn
  have z4 := FCall.cfg (C := cs hbs) (C' := cs3 hbs) rfl rfl (fc_ref01_Gauge hT1 ra le mo n r hn)
  refine fcall_k hT3 (F := F_law01_WaterBounds) rfl (vc_law01_WaterBounds ra le mo n r _) (brP (fun _ => ⟨z1, z2, z3, z4, ?_⟩) fun _ => ⟨hk, frz_b rfl⟩)
  refine brP (fun hg => ?_) fun hg => ?_
  · have hR := S.ggB_all hg
    obtain ⟨hra, _, hn3, _⟩ := S.ggB_in hg
    have e1 : S.bmN ra le mo n r = S.pc (S.bl (S.okB ra le mo n r)) := by unfold S.bmN; rw [hg]
    rw [S.knE_t hg]
    refine brP (fun h => absurd h (by decide)) fun _ => ⟨fc_ref01_Blame hT0 hT2 hT3 ra le mo n r hn3 hR hra, fc_ref01_Same hT3 _ _ _ _ (by rw [e1]; exact Nat.le_trans (S.pc_le _) (by simp [maxLen])), brP (fun _ => ?_) fun h => absurd h (by rw [e1, S.sm_same]; decide)⟩
    refine ⟨FCall.cfg (C := cs2 hbs) (C' := cs3 hbs) rfl rfl (fc_ref01_Clash hT2 ra le mo n r hn hR hra), brP (fun hc => ?_) fun hc => ?_⟩
    · rw [show S.bE ra le mo n r = 5 by unfold S.bE; rw [hg, hc], show S.bN ra le mo n r = 0 by unfold S.bN; rw [hg, hc]; rfl, show S.cE ra le mo n r = 0 by unfold S.cE; rw [hg, hc], show S.cX ra le mo n r = S.clX ra le mo r n by unfold S.cX; rw [hg], show S.cY ra le mo n r = S.clY ra le mo r n by unfold S.cY; rw [hg]]
      exact brP (fun _ => brP (fun _ => brP (fun _ => brP (fun _ => brP (fun _ => ⟨hk, frz_b rfl⟩) fun h => absurd h (by simp)) fun h => absurd h (by simp)) fun h => absurd h (by decide)) fun h => absurd h (by decide)) fun h => absurd h (by decide)
    · rw [show S.bE ra le mo n r = 0 by unfold S.bE; rw [hg, hc], show S.bN ra le mo n r = 1441 by unfold S.bN; rw [hg, hc]; rfl, show S.cE ra le mo n r = 6 by unfold S.cE; rw [hg, hc], show S.cX ra le mo n r = 0 by unfold S.cX S.clX; rw [hg, hc], show S.cY ra le mo n r = 0 by unfold S.cY S.clY; rw [hg, hc]]
      have hs : (decide (1441 = 1441) && S.from_ (S.eq2 (S.bdR ra le mo n r) (S.bdR ra le mo n r)) 1441 0) = true := by
        rw [decide_eq_true rfl, Bool.true_and]
        exact S.from_iff.2 fun j _ _ => by simp [S.eq2]
      exact brP (fun _ => ⟨FCall.cfg (C := cs2 hbs) (C' := cs3 hbs) rfl rfl (fc_ref01_Bounds hT2 ra le mo n r hn hR hra), FCall.cfg (C := cs2 hbs) (C' := cs3 hbs) rfl rfl (fc_ref01_SameSpans hT2 1441 1441 _ _ (by simp [maxLen])), brP (fun _ => brP (fun _ => brP (fun _ => brP (fun _ => ⟨hk, frz_b rfl⟩) fun h => absurd h (by decide)) fun h => absurd h (by decide)) fun h => absurd h (by decide)) fun h => absurd h (by rw [hs]; decide)⟩) fun h => absurd h (by decide)
  · rw [show S.bE ra le mo n r = 2 by unfold S.bE; rw [hg], show S.bN ra le mo n r = 0 by unfold S.bN; rw [hg]; rfl, show S.cE ra le mo n r = 2 by unfold S.cE; rw [hg], show S.cX ra le mo n r = 0 by unfold S.cX; rw [hg], show S.cY ra le mo n r = 0 by unfold S.cY; rw [hg], show S.bmN ra le mo n r = 0 by unfold S.bmN; rw [hg], S.knE_f hg]
    exact brP (fun _ => brP (fun _ => brP (fun _ => cdP (i64_of (by decide) (by decide)) (brP (fun _ => brP (fun _ => brP (fun _ => ⟨hk, frz_b rfl⟩) fun h => absurd h (by decide)) fun h => absurd h (by decide)) fun h => absurd h (by decide))) fun h => absurd h (by decide)) fun h => absurd h (by decide)) fun h => absurd h (by decide)
end
end Go.Ab.B
