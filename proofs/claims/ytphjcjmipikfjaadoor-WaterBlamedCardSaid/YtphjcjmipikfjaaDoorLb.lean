/- A part of the proof. -/
import Derived.Test.YtphjcjmipikfjaaDoorLa
import Derived.Test.YtphjcjmipikfjaaDoorVd
import Derived.Test.YtphjcjmipikfjaaDoorKd
set_option linter.all false
set_option maxRecDepth 100000
namespace Go.Ab.B
open Go.Proofs
section
variable {hbs : BsOk Tryd.prog}
theorem vc_ref01_Has (m : Nat) (l : S.Rows) (x : Int) (Q : AV → Heap → Prop) :
 (((LoopGo (ex (cs3 hbs) 995) 0 m_ref01_Has_l1 ⟨(.nd (.nd .lf (.c (.p (.int .i64 x))) (.nd .lf (.c (.p (.int .i64 (0 : Int)))) .lf)) (.c (.p (.isl 1 m (S.val l)))) (.nd (.nd .lf (.c (.p (.bool false))) .lf) .any .lf)), []⟩ (.br (S.from_ (S.neL l x) m 0) (.e (.exit 0) ⟨.lf, []⟩) (.e .ret ⟨(.nd .lf .any (.nd (.nd .lf (.c (.p (.bool true))) .lf) .any .lf)), []⟩))) ∧
 (BrP (S.from_ (S.neL l x) m 0)
 (Q (.c (.p (.bool false))) [])
 (Q (.c (.p (.bool true))) [])))) = (ex (cs3 hbs) 1000 0 m_ref01_Has ⟨ofL 0 [.c (.p (.isl 1 m (S.val l))), .c (.p (.int .i64 x))] .lf, []⟩ (endK F_ref01_Has.rs (fun r H => .pr (Q r H)) fun _ _ => .no)).hold2 := by kernel_rfl
theorem vs_ref01_Has (fu i : Nat) (m : Nat) (l : S.Rows) (x : Int) (Q : AX → St → Prop) :
 ((BrP (decide (((i : Nat) : Int) < ((m : Nat) : Int)))
 (CdP (.rng ((i : Nat) : Int) m)
  (BrP ((l i 0) == x)
  (Q .ret ⟨(.nd (.nd (.nd (.nd (.nd .lf (.c (.p (.int .i64 (l i 0)))) .lf) (.c (.p (.isl 1 m (S.val l)))) .lf) .any .lf) (.c (.p (.int .i64 x))) (.nd (.nd (.nd .lf (.c (.p (.bool true))) .lf) (.c (.p (.bool true))) .lf) (.c (.p (.int .i64 ((i : Nat) : Int)))) (.nd .lf (.c (.p (.int .i64 ((i : Nat) : Int)))) .lf))) (.c (.p (.isl 1 m (S.val l)))) (.nd (.nd (.nd (.nd .lf (.c (.p (.int .i64 x))) .lf) (.c (.p (.int .i64 ((m : Nat) : Int)))) .lf) (.c (.p (.bool true))) (.nd .lf (.c (.p (.isl 1 m (S.val l)))) .lf)) .any (.nd .lf (.c (.p (.int .i64 ((i : Nat) : Int)))) (.nd .lf (.c (.p (.ipt 1 (S.val l i)))) .lf)))), []⟩)
  (CdP (.i64 (((i : Nat) : Int) + (1 : Int)))
   (Q .normal ⟨(.nd (.nd (.nd (.nd (.nd .lf (.c (.p (.int .i64 (l i 0)))) .lf) (.c (.p (.isl 1 m (S.val l)))) .lf) .any (.nd .lf (.c (.p (.int .i64 (((i : Nat) : Int) + (1 : Int))))) .lf)) (.c (.p (.int .i64 x))) (.nd (.nd (.nd .lf (.c (.p (.bool false))) .lf) (.c (.p (.bool true))) .lf) (.c (.p (.int .i64 (((i : Nat) : Int) + (1 : Int))))) (.nd .lf (.c (.p (.int .i64 ((i : Nat) : Int)))) .lf))) (.c (.p (.isl 1 m (S.val l)))) (.nd (.nd (.nd (.nd .lf (.c (.p (.int .i64 x))) .lf) (.c (.p (.int .i64 ((m : Nat) : Int)))) .lf) .any (.nd .lf (.c (.p (.isl 1 m (S.val l)))) .lf)) .any (.nd (.nd .lf (.c (.p (.int .i64 ((i : Nat) : Int)))) .lf) (.c (.p (.int .i64 ((i : Nat) : Int)))) (.nd .lf (.c (.p (.ipt 1 (S.val l i)))) .lf)))), []⟩))))
 (Q (.exit 0) ⟨(.nd (.nd (.nd (.nd .lf (.c (.p (.isl 1 m (S.val l)))) .lf) .any .lf) (.c (.p (.int .i64 x))) (.nd (.nd .lf (.c (.p (.bool false))) .lf) (.c (.p (.int .i64 ((i : Nat) : Int)))) .lf)) (.c (.p (.isl 1 m (S.val l)))) (.nd (.nd (.nd .lf (.c (.p (.int .i64 ((m : Nat) : Int)))) .lf) .any .lf) .any (.nd .lf (.c (.p (.int .i64 ((i : Nat) : Int)))) .lf))), []⟩))) = (ex (cs3 hbs) (fu + 60) 0 m_ref01_Has_l1 ⟨setAll [(.h, .c (.p (.isl 1 m (S.val l)))), (.o .h, .c (.p (.int .i64 x))), (.o (.i .h), .c (.p (.int .i64 i)))], []⟩ (fun e s => .pr (Q e s))).hold2 := by kernel_rfl
theorem vc_water_ignore (ra le mo : Int) (n : Nat) (r : S.Rows) (x : Nat) (Q : AV → Heap → Prop) :
 (((LoopGo (ex (cs3 hbs) 994) 0 m_water_ignore_l1 ⟨(.nd (.nd (.nd .lf .any (.nd .lf (.c (.p (.int .i64 (0 : Int)))) .lf)) (.c (.p (.int .u64 ((x : Nat) : Int)))) (.nd (.nd .lf (.c (.p (.isl 4 n (S.val r)))) .lf) (.c (.p .nsl)) .lf)) (.ag [(.p (.int .i64 ra)), (.p (.int .i64 le)), (.p (.int .i64 mo)), (.p (.isl 4 n (S.val r)))]) (.nd (.nd (.nd .lf (.c (.pt 0 3)) .lf) (.c (.pt 1 0)) .lf) (.c (.pt 0 0)) (.nd (.nd .lf (.c (.p (.int .i64 ((n : Nat) : Int)))) .lf) .any .lf))), [(some (.box t_api_Gauge [(.p (.int .i64 ra)), (.p (.int .i64 le)), (.p (.int .i64 mo)), (.p (.isl 4 n (S.val r)))])), (some (.box t_api_Gauge [(.p (.int .i64 (0 : Int))), (.p (.int .i64 (0 : Int))), (.p (.int .i64 (0 : Int))), (.p .nsl)]))]⟩ (.e (.exit 0) ⟨(.nd (.nd .lf .any (.nd .lf (.c (.sl 2 0 (S.kpN (S.qB x) r n))) .lf)) .any (.nd (.nd .lf (.c (.pt 1 0)) .lf) (.c (.pt 0 0)) .lf)), [(some (.box t_api_Gauge [(.p (.int .i64 ra)), (.p (.int .i64 le)), (.p (.int .i64 mo)), (.p (.isl 4 n (S.val r)))])), (some (.box t_api_Gauge [(.p (.int .i64 (0 : Int))), (.p (.int .i64 (0 : Int))), (.p (.int .i64 (0 : Int))), (.p .nsl)])), (some (.arr 4 40 (S.kpN (S.qB x) r n) (S.val (S.kpR (S.qB x) r n)) []))]⟩)) ∧
 (Q (.ag [(.p (.int .i64 ra)), (.p (.int .i64 le)), (.p (.int .i64 mo)), (.sl 2 0 (S.kpN (S.qB x) r n))]) [(some (.box t_api_Gauge [(.p (.int .i64 ra)), (.p (.int .i64 le)), (.p (.int .i64 mo)), (.sl 2 0 (S.kpN (S.qB x) r n))])), (some (.box t_api_Gauge [(.p (.int .i64 ra)), (.p (.int .i64 le)), (.p (.int .i64 mo)), (.sl 2 0 (S.kpN (S.qB x) r n))])), (some (.arr 4 40 (S.kpN (S.qB x) r n) (S.val (S.kpR (S.qB x) r n)) []))]))) = (ex (cs3 hbs) 1000 0 m_water_ignore ⟨ofL 0 [.ag (gC ra le mo n (S.val r)), .c (.p (.int .u64 x))] .lf, []⟩ (endK F_water_ignore.rs (fun r H => .pr (Q r H)) fun _ _ => .no)).hold2 := by kernel_rfl
theorem vs_water_ignore (fu i k : Nat) (ra le mo : Int) (n : Nat) (r : S.Rows) (x : Nat) (g : S.Rows) (Q : AX → St → Prop) :
 ((BrP (decide (((i : Nat) : Int) < ((n : Nat) : Int)))
 (CdP (.rng ((i : Nat) : Int) n)
  ((FCall (cs3 hbs) f_water_sourceSet_has [(.c (.p (.int .u64 ((x : Nat) : Int)))), (.c (.p (.int .i64 (r i 3))))] (.c (.p (.bool (S.hasB x (Int.toNat (r i 3)))))) []) ∧
  (BrP (S.hasB x (Int.toNat (r i 3)))
  (CdP (.i64 (((i : Nat) : Int) + (1 : Int)))
   (Q .normal ⟨(.nd (.nd (.nd (.nd (.nd .lf (.c (.p (.int .u64 ((x : Nat) : Int)))) .lf) (.c (.pt 3 0)) .lf) .any (.nd (.nd .lf (.c (.p (.bool false))) .lf) (.c (.p (.int .i64 (((i : Nat) : Int) + (1 : Int))))) .lf)) (.c (.p (.int .u64 ((x : Nat) : Int)))) (.nd (.nd (.nd .lf (.c (.p (.int .i64 (r i 3)))) .lf) (.c (.p (.isl 4 n (S.val r)))) .lf) (.c (.sl 2 0 k)) (.nd .lf (.c (.p (.ipt 4 (S.val r i)))) .lf))) .any (.nd (.nd (.nd (.nd .lf (.c (.pt 3 3)) .lf) .any (.nd .lf (.c (.p (.int .i64 (((i : Nat) : Int) + (1 : Int))))) .lf)) (.c (.pt 1 0)) (.nd .lf (.c (.p (.bool true))) .lf)) (.c (.pt 0 0)) (.nd (.nd (.nd .lf (.c (.p (.bool true))) .lf) (.c (.p (.int .i64 ((n : Nat) : Int)))) .lf) .any (.nd .lf (.ag [(.p (.int .i64 (r i 0))), (.p (.int .i64 (r i 1))), (.p (.int .i64 (r i 2))), (.p (.int .i64 (r i 3)))]) .lf)))), [(some (.box t_api_Gauge [(.p (.int .i64 ra)), (.p (.int .i64 le)), (.p (.int .i64 mo)), (.p (.isl 4 n (S.val r)))])), (some (.box t_api_Gauge [(.p (.int .i64 (0 : Int))), (.p (.int .i64 (0 : Int))), (.p (.int .i64 (0 : Int))), (.p .nsl)])), (some (.arr 4 40 k (S.val g) [])), (some (.box t_api_Reading [(.p (.int .i64 (r i 0))), (.p (.int .i64 (r i 1))), (.p (.int .i64 (r i 2))), (.p (.int .i64 (r i 3)))]))]⟩))
  (CdP (.le k k)
   (CdP (.le k k)
   (CdP (.le ((k + 1) * 32) 140737488355328)
   (CdP (.i64 (((i : Nat) : Int) + (1 : Int)))
   (Q .normal ⟨(.nd (.nd (.nd (.nd (.nd .lf (.c (.p (.int .u64 ((x : Nat) : Int)))) .lf) (.c (.pt 3 0)) (.nd .lf (.c (.sl 4 0 (k + 1))) .lf)) .any (.nd (.nd .lf (.c (.p (.bool true))) .lf) (.c (.p (.int .i64 (((i : Nat) : Int) + (1 : Int))))) .lf)) (.c (.p (.int .u64 ((x : Nat) : Int)))) (.nd (.nd (.nd .lf (.c (.p (.int .i64 (r i 3)))) .lf) (.c (.p (.isl 4 n (S.val r)))) .lf) (.c (.sl 4 0 (k + 1))) (.nd (.nd .lf (.ag [(.p (.int .i64 (r i 0))), (.p (.int .i64 (r i 1))), (.p (.int .i64 (r i 2))), (.p (.int .i64 (r i 3)))]) .lf) (.c (.p (.ipt 4 (S.val r i)))) .lf))) .any (.nd (.nd (.nd (.nd .lf (.c (.pt 3 3)) .lf) .any (.nd .lf (.c (.p (.int .i64 (((i : Nat) : Int) + (1 : Int))))) .lf)) (.c (.pt 1 0)) (.nd (.nd .lf (.c (.sl 2 0 k)) .lf) (.c (.p (.bool true))) .lf)) (.c (.pt 0 0)) (.nd (.nd (.nd .lf (.c (.p (.bool false))) .lf) (.c (.p (.int .i64 ((n : Nat) : Int)))) .lf) .any (.nd (.nd .lf (.c (.p (.isl 4 1 (fun x11 => (fun x12 => (List.getD [(.int .i64 (r i 0)), (.int .i64 (r i 1)), (.int .i64 (r i 2)), (.int .i64 (r i 3))] ((x11 * 4) + x12) .npt)))))) .lf) (.ag [(.p (.int .i64 (r i 0))), (.p (.int .i64 (r i 1))), (.p (.int .i64 (r i 2))), (.p (.int .i64 (r i 3)))]) .lf)))), [(some (.box t_api_Gauge [(.p (.int .i64 ra)), (.p (.int .i64 le)), (.p (.int .i64 mo)), (.p (.isl 4 n (S.val r)))])), (some (.box t_api_Gauge [(.p (.int .i64 (0 : Int))), (.p (.int .i64 (0 : Int))), (.p (.int .i64 (0 : Int))), (.p .nsl)])), (some (.arr 4 40 k (S.val g) [])), (some (.box t_api_Reading [(.p (.int .i64 (r i 0))), (.p (.int .i64 (r i 1))), (.p (.int .i64 (r i 2))), (.p (.int .i64 (r i 3)))])), (some (.arr 4 40 (k + 1) (fun x11 => (fun x12 => (if (x11 < k) then (.int .i64 (g x11 x12)) else (List.getD [(.int .i64 (r i 0)), (.int .i64 (r i 1)), (.int .i64 (r i 2)), (.int .i64 (r i 3))] (((x11 - k) * 4) + x12) .npt)))) [2]))]⟩))))))))
 (Q (.exit 0) ⟨(.nd (.nd (.nd .lf .any (.nd .lf (.c (.p (.int .i64 ((i : Nat) : Int)))) .lf)) (.c (.p (.int .u64 ((x : Nat) : Int)))) (.nd (.nd .lf (.c (.p (.isl 4 n (S.val r)))) .lf) (.c (.sl 2 0 k)) .lf)) .any (.nd (.nd .lf (.c (.pt 1 0)) (.nd .lf (.c (.p (.bool false))) .lf)) (.c (.pt 0 0)) (.nd (.nd .lf (.c (.p (.int .i64 ((n : Nat) : Int)))) .lf) .any .lf))), [(some (.box t_api_Gauge [(.p (.int .i64 ra)), (.p (.int .i64 le)), (.p (.int .i64 mo)), (.p (.isl 4 n (S.val r)))])), (some (.box t_api_Gauge [(.p (.int .i64 (0 : Int))), (.p (.int .i64 (0 : Int))), (.p (.int .i64 (0 : Int))), (.p .nsl)])), (some (.arr 4 40 k (S.val g) []))]⟩))) = (ex (cs3 hbs) (fu + 60) 0 m_water_ignore_l1 ⟨setAll [(.o .h, .c (.p (.int .u64 x))), (.o (.o (.i .h)), .c (.p (.int .i64 i))), (.o (.i .h), .c (.sl 2 0 k)), (.o (.i (.o .h)), .c (.p (.isl 4 n (S.val r)))), (.i .h, .c (.pt 0 0)), (.i (.o .h), .c (.pt 1 0)), (.i (.i (.o .h)), .c (.p (.int .i64 n)))], [some (.box t_api_Gauge (gC ra le mo n (S.val r))), some (.box t_api_Gauge [.p (.int .i64 0), .p (.int .i64 0), .p (.int .i64 0), .p .nsl]), some (.arr 4 t_api_Reading k (S.val g) [])]⟩ (fun e s => .pr (Q e s))).hold2 := by kernel_rfl
theorem vc_ref01_Ignored (ra le mo : Int) (n : Nat) (r : S.Rows) (m : Nat) (l : S.Rows) (Q : AV → Heap → Prop) :
 (((LoopGo (ex (cs3 hbs) 994) 0 m_ref01_Ignored_l1 ⟨(.nd (.nd (.nd (.nd .lf (.c (.pt 0 0)) .lf) .any (.nd .lf (.c (.pt 0 2)) .lf)) (.c (.p (.isl 1 m (S.val l)))) (.nd (.nd .lf (.c (.pt 0 1)) .lf) (.c (.pt 2 0)) (.nd .lf (.ag [(.p (.int .i64 ra)), (.p (.int .i64 le)), (.p (.int .i64 mo)), (.p .nsl)]) .lf))) (.ag [(.p (.int .i64 ra)), (.p (.int .i64 le)), (.p (.int .i64 mo)), (.p (.isl 4 n (S.val r)))]) (.nd (.nd (.nd .lf (.c (.p (.int .i64 ra))) .lf) (.c (.pt 1 0)) (.nd .lf (.c (.p (.int .i64 mo))) .lf)) (.c (.pt 0 0)) (.nd (.nd .lf (.c (.p (.int .i64 le))) .lf) (.c (.p (.int .i64 (0 : Int)))) .lf))), [(some (.box t_api_Gauge [(.p (.int .i64 ra)), (.p (.int .i64 le)), (.p (.int .i64 mo)), (.p (.isl 4 n (S.val r)))])), (some (.box t_api_Gauge [(.p (.int .i64 (0 : Int))), (.p (.int .i64 (0 : Int))), (.p (.int .i64 (0 : Int))), (.p .nsl)])), (some (.box t_api_Gauge [(.p (.int .i64 ra)), (.p (.int .i64 le)), (.p (.int .i64 mo)), (.p .nsl)]))]⟩ (.e (.exit 0) ⟨(.nd (.nd .lf .any (.nd .lf (.c (.pt 2 0)) .lf)) .any (.nd (.nd .lf (.c (.pt 1 0)) .lf) .any .lf)), [(some (.box t_api_Gauge [(.p (.int .i64 ra)), (.p (.int .i64 le)), (.p (.int .i64 mo)), (.p (.isl 4 n (S.val r)))])), (some (.box t_api_Gauge [(.p (.int .i64 (0 : Int))), (.p (.int .i64 (0 : Int))), (.p (.int .i64 (0 : Int))), (.p .nsl)])), (some (.box t_api_Gauge [(.p (.int .i64 ra)), (.p (.int .i64 le)), (.p (.int .i64 mo)), (.sl 3 0 (S.kpN (S.qL m l) r n))])), (some (.arr 4 40 (S.kpN (S.qL m l) r n) (S.val (S.kpR (S.qL m l) r n)) []))]⟩)) ∧
 (Q (.ag [(.p (.int .i64 ra)), (.p (.int .i64 le)), (.p (.int .i64 mo)), (.sl 3 0 (S.kpN (S.qL m l) r n))]) [(some (.box t_api_Gauge [(.p (.int .i64 ra)), (.p (.int .i64 le)), (.p (.int .i64 mo)), (.p (.isl 4 n (S.val r)))])), (some (.box t_api_Gauge [(.p (.int .i64 ra)), (.p (.int .i64 le)), (.p (.int .i64 mo)), (.sl 3 0 (S.kpN (S.qL m l) r n))])), (some (.box t_api_Gauge [(.p (.int .i64 ra)), (.p (.int .i64 le)), (.p (.int .i64 mo)), (.sl 3 0 (S.kpN (S.qL m l) r n))])), (some (.arr 4 40 (S.kpN (S.qL m l) r n) (S.val (S.kpR (S.qL m l) r n)) []))]))) = (ex (cs3 hbs) 1000 0 m_ref01_Ignored ⟨ofL 0 [.ag (gC ra le mo n (S.val r)), .c (.p (.isl 1 m (S.val l)))] .lf, []⟩ (endK F_ref01_Ignored.rs (fun r H => .pr (Q r H)) fun _ _ => .no)).hold2 := by kernel_rfl
theorem vs_ref01_Ignored (fu i k : Nat) (ra le mo : Int) (n : Nat) (r : S.Rows) (m : Nat) (l : S.Rows) (g : S.Rows) (Q : AX → St → Prop) :
 ((BrP (decide (((i : Nat) : Int) < ((n : Nat) : Int)))
 (CdP (.rng ((i : Nat) : Int) n)
  ((FCall (cs3 hbs) f_ref01_Has [(.c (.p (.isl 1 m (S.val l)))), (.c (.p (.int .i64 (r i 3))))] (.c (.p (.bool (S.hasL m l (r i 3))))) []) ∧
  (BrP (S.hasL m l (r i 3))
  (CdP (.i64 (((i : Nat) : Int) + (1 : Int)))
   (Q .normal ⟨(.nd (.nd (.nd (.nd (.nd .lf (.c (.pt 0 3)) .lf) .any (.nd .lf (.c (.p (.isl 4 n (S.val r)))) .lf)) .any (.nd (.nd .lf (.c (.p (.int .i64 ((i : Nat) : Int)))) .lf) .any (.nd .lf (.c (.p (.int .i64 (r i 3)))) .lf))) (.c (.p (.isl 1 m (S.val l)))) (.nd (.nd (.nd .lf (.c (.p (.int .i64 ((n : Nat) : Int)))) .lf) .any (.nd .lf (.c (.p (.ipt 4 (S.val r i)))) .lf)) (.c (.pt 2 0)) (.nd (.nd .lf (.c (.p (.isl 1 m (S.val l)))) .lf) .any (.nd .lf (.c (.p (.bool false))) .lf)))) .any (.nd (.nd (.nd (.nd .lf (.c (.p (.isl 4 n (S.val r)))) .lf) .any (.nd .lf (.c (.p (.int .i64 ((i : Nat) : Int)))) .lf)) (.c (.pt 1 0)) (.nd (.nd .lf (.c (.p (.int .i64 (((i : Nat) : Int) + (1 : Int))))) .lf) .any (.nd .lf (.c (.p (.bool true))) .lf))) (.c (.pt 0 0)) (.nd (.nd (.nd .lf (.c (.p (.bool true))) .lf) .any (.nd .lf (.c (.p (.ipt 1 (fun x12 => (.int .i64 (r i (3 + x12))))))) .lf)) (.c (.p (.int .i64 (((i : Nat) : Int) + (1 : Int))))) (.nd (.nd .lf (.c (.pt 0 3)) .lf) (.c (.p (.int .i64 ((i : Nat) : Int)))) .lf)))), [(some (.box t_api_Gauge [(.p (.int .i64 ra)), (.p (.int .i64 le)), (.p (.int .i64 mo)), (.p (.isl 4 n (S.val r)))])), (some (.box t_api_Gauge [(.p (.int .i64 (0 : Int))), (.p (.int .i64 (0 : Int))), (.p (.int .i64 (0 : Int))), (.p .nsl)])), (some (.box t_api_Gauge [(.p (.int .i64 ra)), (.p (.int .i64 le)), (.p (.int .i64 mo)), (.sl 3 0 k)])), (some (.arr 4 40 k (S.val g) []))]⟩))
  (CdP (.rng ((i : Nat) : Int) n)
   (CdP (.le k k)
   (CdP (.le k k)
   (CdP (.le ((k + 1) * 32) 140737488355328)
   (CdP (.i64 (((i : Nat) : Int) + (1 : Int)))
   (Q .normal ⟨(.nd (.nd (.nd (.nd (.nd (.nd .lf (.c (.sl 3 0 k)) .lf) (.c (.pt 0 3)) .lf) .any (.nd (.nd .lf (.c (.pt 2 3)) .lf) (.c (.p (.isl 4 n (S.val r)))) .lf)) .any (.nd (.nd (.nd .lf (.c (.p (.ipt 4 (S.val r i)))) .lf) (.c (.p (.int .i64 ((i : Nat) : Int)))) .lf) .any (.nd .lf (.c (.p (.int .i64 (r i 3)))) .lf))) (.c (.p (.isl 1 m (S.val l)))) (.nd (.nd (.nd (.nd .lf (.c (.p (.isl 4 n (S.val r)))) .lf) (.c (.p (.int .i64 ((n : Nat) : Int)))) .lf) .any (.nd .lf (.c (.p (.ipt 4 (S.val r i)))) .lf)) (.c (.pt 2 0)) (.nd (.nd (.nd .lf (.c (.p (.isl 4 1 (fun x12 => (fun x13 => (List.getD [(.int .i64 (r i 0)), (.int .i64 (r i 1)), (.int .i64 (r i 2)), (.int .i64 (r i 3))] ((x12 * 4) + x13) .npt)))))) .lf) (.c (.p (.isl 1 m (S.val l)))) .lf) .any (.nd .lf (.c (.p (.bool true))) .lf)))) .any (.nd (.nd (.nd (.nd (.nd .lf (.c (.pt 0 3)) .lf) (.c (.p (.isl 4 n (S.val r)))) .lf) .any (.nd .lf (.c (.p (.int .i64 ((i : Nat) : Int)))) .lf)) (.c (.pt 1 0)) (.nd (.nd (.nd .lf (.ag [(.p (.int .i64 (r i 0))), (.p (.int .i64 (r i 1))), (.p (.int .i64 (r i 2))), (.p (.int .i64 (r i 3)))]) .lf) (.c (.p (.int .i64 (((i : Nat) : Int) + (1 : Int))))) .lf) .any (.nd .lf (.c (.p (.bool false))) .lf))) (.c (.pt 0 0)) (.nd (.nd (.nd (.nd .lf (.c (.p (.int .i64 ((i : Nat) : Int)))) .lf) (.c (.p (.bool true))) .lf) .any (.nd .lf (.c (.p (.ipt 1 (fun x12 => (.int .i64 (r i (3 + x12))))))) .lf)) (.c (.p (.int .i64 (((i : Nat) : Int) + (1 : Int))))) (.nd (.nd (.nd .lf (.c (.sl 4 0 (k + 1))) .lf) (.c (.pt 0 3)) .lf) (.c (.p (.int .i64 ((i : Nat) : Int)))) (.nd .lf (.c (.pt 2 3)) .lf))))), [(some (.box t_api_Gauge [(.p (.int .i64 ra)), (.p (.int .i64 le)), (.p (.int .i64 mo)), (.p (.isl 4 n (S.val r)))])), (some (.box t_api_Gauge [(.p (.int .i64 (0 : Int))), (.p (.int .i64 (0 : Int))), (.p (.int .i64 (0 : Int))), (.p .nsl)])), (some (.box t_api_Gauge [(.p (.int .i64 ra)), (.p (.int .i64 le)), (.p (.int .i64 mo)), (.sl 4 0 (k + 1))])), (some (.arr 4 40 k (S.val g) [])), (some (.arr 4 40 (k + 1) (fun x12 => (fun x13 => (if (x12 < k) then (.int .i64 (g x12 x13)) else (List.getD [(.int .i64 (r i 0)), (.int .i64 (r i 1)), (.int .i64 (r i 2)), (.int .i64 (r i 3))] (((x12 - k) * 4) + x13) .npt)))) [3]))]⟩)))))))))
 (Q (.exit 0) ⟨(.nd (.nd (.nd (.nd (.nd .lf (.c (.pt 0 3)) .lf) .any .lf) .any .lf) (.c (.p (.isl 1 m (S.val l)))) (.nd (.nd (.nd .lf (.c (.p (.int .i64 ((n : Nat) : Int)))) .lf) .any .lf) (.c (.pt 2 0)) .lf)) .any (.nd (.nd (.nd (.nd .lf (.c (.p (.isl 4 n (S.val r)))) .lf) .any .lf) (.c (.pt 1 0)) .lf) (.c (.pt 0 0)) (.nd (.nd (.nd .lf (.c (.p (.bool false))) .lf) .any .lf) (.c (.p (.int .i64 ((i : Nat) : Int)))) (.nd .lf (.c (.p (.int .i64 ((i : Nat) : Int)))) .lf)))), [(some (.box t_api_Gauge [(.p (.int .i64 ra)), (.p (.int .i64 le)), (.p (.int .i64 mo)), (.p (.isl 4 n (S.val r)))])), (some (.box t_api_Gauge [(.p (.int .i64 (0 : Int))), (.p (.int .i64 (0 : Int))), (.p (.int .i64 (0 : Int))), (.p .nsl)])), (some (.box t_api_Gauge [(.p (.int .i64 ra)), (.p (.int .i64 le)), (.p (.int .i64 mo)), (.sl 3 0 k)])), (some (.arr 4 40 k (S.val g) []))]⟩))) = (ex (cs3 hbs) (fu + 60) 0 m_ref01_Ignored_l1 ⟨setAll [(.o .h, .c (.p (.isl 1 m (S.val l)))), (.o (.i .h), .c (.pt 2 0)), (.i .h, .c (.pt 0 0)), (.i (.o .h), .c (.pt 1 0)), (.i (.i .h), .c (.p (.int .i64 i)))], [some (.box t_api_Gauge (gC ra le mo n (S.val r))), some (.box t_api_Gauge [.p (.int .i64 0), .p (.int .i64 0), .p (.int .i64 0), .p .nsl]), some (.box t_api_Gauge [.p (.int .i64 ra), .p (.int .i64 le), .p (.int .i64 mo), .sl 3 0 k]), some (.arr 4 t_api_Reading k (S.val g) [])]⟩ (fun e s => .pr (Q e s))).hold2 := by kernel_rfl
theorem vc_water_leastBlame (ra le mo : Int) (n : Nat) (r : S.Rows) (Q : AV → Heap → Prop) :
 (((LoopGo (ex (cs3 hbs) 993) 0 m_water_leastBlame_l1 ⟨(.nd (.nd (.nd (.nd .lf (.c (.p (.int .i64 (0 : Int)))) .lf) (.c (.p (.int .u64 (255 : Int)))) .lf) (.c (.pt 0 0)) .lf) (.ag [(.p (.int .i64 ra)), (.p (.int .i64 le)), (.p (.int .i64 mo)), (.p (.isl 4 n (S.val r)))]) (.nd .lf (.c (.p (.int .u64 (0 : Int)))) .lf)), [(some (.box t_api_Gauge [(.p (.int .i64 ra)), (.p (.int .i64 le)), (.p (.int .i64 mo)), (.p (.isl 4 n (S.val r)))]))]⟩ (.br (S.blB (S.okB ra le mo n r) 0) (.e (.exit 0) ⟨(.nd (.nd (.nd .lf (.c (.p (.int .u64 (S.cmp255 (S.inS (S.okB ra le mo n r) (S.blS (S.okB ra le mo n r) 0) 0))))) .lf) .any .lf) .any .lf), [(some (.box t_api_Gauge [(.p (.int .i64 ra)), (.p (.int .i64 le)), (.p (.int .i64 mo)), (.p (.isl 4 n (S.val r)))]))]⟩) (.e (.exit 0) ⟨(.nd (.nd (.nd .lf (.c (.p (.int .u64 (255 : Int)))) .lf) .any .lf) .any .lf), [(some (.box t_api_Gauge [(.p (.int .i64 ra)), (.p (.int .i64 le)), (.p (.int .i64 mo)), (.p (.isl 4 n (S.val r)))]))]⟩))) ∧
 (BrP (S.blB (S.okB ra le mo n r) 0)
 (Q (.c (.p (.int .u64 (S.cmp255 (S.inS (S.okB ra le mo n r) (S.blS (S.okB ra le mo n r) 0) 0))))) [(some (.box t_api_Gauge [(.p (.int .i64 ra)), (.p (.int .i64 le)), (.p (.int .i64 mo)), (.p (.isl 4 n (S.val r)))]))])
 (Q (.c (.p (.int .u64 (255 : Int)))) [(some (.box t_api_Gauge [(.p (.int .i64 ra)), (.p (.int .i64 le)), (.p (.int .i64 mo)), (.p (.isl 4 n (S.val r)))]))])))) = (ex (cs3 hbs) 1000 0 m_water_leastBlame ⟨ofL 0 [.ag (gC ra le mo n (S.val r))] .lf, []⟩ (endK F_water_leastBlame.rs (fun r H => .pr (Q r H)) fun _ _ => .no)).hold2 := by kernel_rfl
theorem vs_water_leastBlame1 (fu z : Nat) (ra le mo : Int) (n : Nat) (r : S.Rows) (Q : AX → St → Prop) :
 ((BrP (decide (((z : Nat) : Int) < (8 : Int)))
 ((LoopGo (ex (cs3 hbs) (fu + 52)) 0 m_water_leastBlame_l2 ⟨(.nd (.nd (.nd (.nd .lf (.c (.p (.int .i64 ((z : Nat) : Int)))) .lf) (.c (.p (.int .u64 (255 : Int)))) .lf) (.c (.pt 0 0)) (.nd (.nd .lf (.c (.p (.int .i64 ((z : Nat) : Int)))) .lf) .any .lf)) .any (.nd (.nd (.nd .lf (.c (.p (.bool true))) .lf) (.c (.p (.int .i64 ((z : Nat) : Int)))) .lf) .any (.nd (.nd .lf (.c (.p (.int .u64 (0 : Int)))) .lf) .any .lf))), [(some (.box t_api_Gauge [(.p (.int .i64 ra)), (.p (.int .i64 le)), (.p (.int .i64 mo)), (.p (.isl 4 n (S.val r)))]))]⟩ (.br (decide ((S.inS (S.okB ra le mo n r) z 0) < 256)) (.e (.exit 0) ⟨(.nd (.nd (.nd .lf (.c (.p (.int .u64 (S.cmp255 (S.inS (S.okB ra le mo n r) z 0))))) .lf) .any .lf) .any .lf), [(some (.box t_api_Gauge [(.p (.int .i64 ra)), (.p (.int .i64 le)), (.p (.int .i64 mo)), (.p (.isl 4 n (S.val r)))]))]⟩) (.e (.exit 2) ⟨(.nd (.nd (.nd (.nd .lf (.c (.p (.int .i64 ((z : Nat) : Int)))) .lf) (.c (.p (.int .u64 (255 : Int)))) .lf) (.c (.pt 0 0)) .lf) .any .lf), [(some (.box t_api_Gauge [(.p (.int .i64 ra)), (.p (.int .i64 le)), (.p (.int .i64 mo)), (.p (.isl 4 n (S.val r)))]))]⟩))) ∧
  (BrP (decide ((S.inS (S.okB ra le mo n r) z 0) < 256))
  (Q (.exit 0) ⟨(.nd (.nd (.nd .lf (.c (.p (.int .u64 (S.cmp255 (S.inS (S.okB ra le mo n r) z 0))))) .lf) .any .lf) .any .lf), [(some (.box t_api_Gauge [(.p (.int .i64 ra)), (.p (.int .i64 le)), (.p (.int .i64 mo)), (.p (.isl 4 n (S.val r)))]))]⟩)
  (CdP (.i64 (((z : Nat) : Int) + (1 : Int)))
   (Q .normal ⟨(.nd (.nd (.nd (.nd .lf (.c (.p (.int .i64 (((z : Nat) : Int) + (1 : Int))))) .lf) (.c (.p (.int .u64 (255 : Int)))) (.nd .lf .any (.nd .lf (.c (.p (.int .i64 (((z : Nat) : Int) + (1 : Int))))) .lf))) (.c (.pt 0 0)) .lf) .any .lf), [(some (.box t_api_Gauge [(.p (.int .i64 ra)), (.p (.int .i64 le)), (.p (.int .i64 mo)), (.p (.isl 4 n (S.val r)))]))]⟩))))
 (Q (.exit 0) ⟨(.nd (.nd (.nd (.nd .lf (.c (.p (.int .i64 ((z : Nat) : Int)))) .lf) (.c (.p (.int .u64 (255 : Int)))) .lf) (.c (.pt 0 0)) .lf) .any (.nd (.nd (.nd .lf (.c (.p (.bool false))) .lf) .any .lf) .any .lf)), [(some (.box t_api_Gauge [(.p (.int .i64 ra)), (.p (.int .i64 le)), (.p (.int .i64 mo)), (.p (.isl 4 n (S.val r)))]))]⟩))) = (ex (cs3 hbs) (fu + 60) 0 m_water_leastBlame_l1 ⟨setAll [(.o .h, .c (.pt 0 0)), (.o (.o .h), .c (.p (.int .u64 255))), (.o (.o (.o .h)), .c (.p (.int .i64 z)))], [some (.box t_api_Gauge (gC ra le mo n (S.val r)))]⟩ (fun e s => .pr (Q e s))).hold2 := by kernel_rfl
theorem vs_water_leastBlame2 (fu z i : Nat) (ra le mo : Int) (n : Nat) (r : S.Rows) (Q : AX → St → Prop) :
 ((BrP (decide (((i : Nat) : Int) < (256 : Int)))
 ((FCall (cs3 hbs) f_water_sourceSet_size [(.c (.p (.int .u64 (IntKind.wrap .u64 ((255 : Int) - ((i : Nat) : Int))))))] (.c (.p (.int .i64 (((S.pc (Int.toNat (IntKind.wrap .u64 ((255 : Int) - ((i : Nat) : Int))))) : Nat) : Int)))) []) ∧
  (BrP ((((S.pc (Int.toNat (IntKind.wrap .u64 ((255 : Int) - ((i : Nat) : Int))))) : Nat) : Int) == ((z : Nat) : Int))
  ((FCall (cs3 hbs) f_water_ignore [(.ag [(.p (.int .i64 ra)), (.p (.int .i64 le)), (.p (.int .i64 mo)), (.p (.isl 4 n (S.val r)))]), (.c (.p (.int .u64 (IntKind.wrap .u64 ((255 : Int) - ((i : Nat) : Int))))))] (.ag [(.p (.int .i64 ra)), (.p (.int .i64 le)), (.p (.int .i64 mo)), (.p (.isl 4 (S.kpN (S.qB (Int.toNat (IntKind.wrap .u64 ((255 : Int) - ((i : Nat) : Int))))) r n) (S.val (S.kpR (S.qB (Int.toNat (IntKind.wrap .u64 ((255 : Int) - ((i : Nat) : Int))))) r n))))]) []) ∧
   ((FCall (cs3 hbs) f_water_hasCourse [(.ag [(.p (.int .i64 ra)), (.p (.int .i64 le)), (.p (.int .i64 mo)), (.p (.isl 4 (S.kpN (S.qB (Int.toNat (IntKind.wrap .u64 ((255 : Int) - ((i : Nat) : Int))))) r n) (S.val (S.kpR (S.qB (Int.toNat (IntKind.wrap .u64 ((255 : Int) - ((i : Nat) : Int))))) r n))))])] (.c (.p (.bool (!(S.clF ra le mo (S.kpR (S.qB (Int.toNat (IntKind.wrap .u64 ((255 : Int) - ((i : Nat) : Int))))) r n) (S.kpN (S.qB (Int.toNat (IntKind.wrap .u64 ((255 : Int) - ((i : Nat) : Int))))) r n)))))) []) ∧
   (BrP (!(S.clF ra le mo (S.kpR (S.qB (Int.toNat (IntKind.wrap .u64 ((255 : Int) - ((i : Nat) : Int))))) r n) (S.kpN (S.qB (Int.toNat (IntKind.wrap .u64 ((255 : Int) - ((i : Nat) : Int))))) r n)))
   (Q (.exit 0) ⟨(.nd (.nd (.nd (.nd (.nd .lf (.c (.p (.int .u64 (IntKind.wrap .u64 ((255 : Int) - ((i : Nat) : Int)))))) .lf) (.c (.p (.int .i64 ((z : Nat) : Int)))) (.nd .lf (.c (.p (.bool true))) .lf)) (.c (.p (.int .u64 (IntKind.wrap .u64 ((255 : Int) - ((i : Nat) : Int)))))) (.nd (.nd .lf (.c (.p (.bool true))) .lf) (.c (.p (.bool true))) .lf)) (.c (.pt 0 0)) (.nd (.nd (.nd .lf (.c (.p (.int .i64 ((z : Nat) : Int)))) .lf) .any (.nd .lf (.c (.p (.int .u64 (IntKind.wrap .u64 ((255 : Int) - ((i : Nat) : Int)))))) .lf)) (.c (.p (.int .u64 ((i : Nat) : Int)))) (.nd (.nd .lf (.c (.p (.int .u64 (IntKind.wrap .u64 ((255 : Int) - ((i : Nat) : Int)))))) .lf) (.c (.p (.int .u64 ((i : Nat) : Int)))) .lf))) .any (.nd (.nd (.nd (.nd .lf (.c (.p (.int .i64 (((S.pc (Int.toNat (IntKind.wrap .u64 ((255 : Int) - ((i : Nat) : Int))))) : Nat) : Int)))) .lf) .any (.nd .lf (.c (.p (.bool true))) .lf)) (.c (.p (.int .i64 ((z : Nat) : Int)))) (.nd (.nd .lf (.ag [(.p (.int .i64 ra)), (.p (.int .i64 le)), (.p (.int .i64 mo)), (.p (.isl 4 n (S.val r)))]) .lf) (.c (.p (.int .u64 ((i : Nat) : Int)))) .lf)) .any (.nd (.nd (.nd .lf (.c (.p (.bool true))) .lf) (.c (.p (.int .u64 ((i : Nat) : Int)))) .lf) (.c (.p (.int .u64 (IntKind.wrap .u64 ((255 : Int) - ((i : Nat) : Int)))))) (.nd (.nd .lf (.ag [(.p (.int .i64 ra)), (.p (.int .i64 le)), (.p (.int .i64 mo)), (.p (.isl 4 (S.kpN (S.qB (Int.toNat (IntKind.wrap .u64 ((255 : Int) - ((i : Nat) : Int))))) r n) (S.val (S.kpR (S.qB (Int.toNat (IntKind.wrap .u64 ((255 : Int) - ((i : Nat) : Int))))) r n))))]) .lf) (.c (.p (.int .u64 (IntKind.wrap .u64 ((255 : Int) - ((i : Nat) : Int)))))) .lf)))), [(some (.box t_api_Gauge [(.p (.int .i64 ra)), (.p (.int .i64 le)), (.p (.int .i64 mo)), (.p (.isl 4 n (S.val r)))]))]⟩)
   (Q .normal ⟨(.nd (.nd (.nd (.nd (.nd .lf (.c (.p (.int .u64 (IntKind.wrap .u64 ((255 : Int) - ((i : Nat) : Int)))))) .lf) (.c (.p (.int .i64 ((z : Nat) : Int)))) (.nd .lf (.c (.p (.bool false))) .lf)) (.c (.p (.int .u64 (255 : Int)))) (.nd (.nd .lf (.c (.p (.bool true))) .lf) (.c (.p (.bool true))) .lf)) (.c (.pt 0 0)) (.nd (.nd (.nd .lf (.c (.p (.int .i64 ((z : Nat) : Int)))) .lf) .any .lf) (.c (.p (.int .u64 ((i : Nat) : Int)))) (.nd (.nd .lf (.c (.p (.int .u64 (IntKind.wrap .u64 ((255 : Int) - ((i : Nat) : Int)))))) .lf) (.c (.p (.int .u64 ((i : Nat) : Int)))) .lf))) .any (.nd (.nd (.nd (.nd .lf (.c (.p (.int .i64 (((S.pc (Int.toNat (IntKind.wrap .u64 ((255 : Int) - ((i : Nat) : Int))))) : Nat) : Int)))) .lf) .any (.nd .lf (.c (.p (.bool false))) .lf)) (.c (.p (.int .i64 ((z : Nat) : Int)))) (.nd (.nd .lf (.ag [(.p (.int .i64 ra)), (.p (.int .i64 le)), (.p (.int .i64 mo)), (.p (.isl 4 n (S.val r)))]) .lf) (.c (.p (.int .u64 ((i : Nat) : Int)))) .lf)) .any (.nd (.nd (.nd .lf (.c (.p (.bool true))) .lf) (.c (.p (.int .u64 (IntKind.wrap .u64 (((i : Nat) : Int) + (1 : Int)))))) (.nd .lf (.c (.p (.int .u64 (IntKind.wrap .u64 (((i : Nat) : Int) + (1 : Int)))))) .lf)) (.c (.p (.int .u64 (IntKind.wrap .u64 ((255 : Int) - ((i : Nat) : Int)))))) (.nd (.nd .lf (.ag [(.p (.int .i64 ra)), (.p (.int .i64 le)), (.p (.int .i64 mo)), (.p (.isl 4 (S.kpN (S.qB (Int.toNat (IntKind.wrap .u64 ((255 : Int) - ((i : Nat) : Int))))) r n) (S.val (S.kpR (S.qB (Int.toNat (IntKind.wrap .u64 ((255 : Int) - ((i : Nat) : Int))))) r n))))]) .lf) (.c (.p (.int .u64 (IntKind.wrap .u64 ((255 : Int) - ((i : Nat) : Int)))))) .lf)))), [(some (.box t_api_Gauge [(.p (.int .i64 ra)), (.p (.int .i64 le)), (.p (.int .i64 mo)), (.p (.isl 4 n (S.val r)))]))]⟩))))
  (Q .normal ⟨(.nd (.nd (.nd (.nd (.nd .lf (.c (.p (.int .u64 (IntKind.wrap .u64 ((255 : Int) - ((i : Nat) : Int)))))) .lf) (.c (.p (.int .i64 ((z : Nat) : Int)))) (.nd .lf (.tp []) .lf)) (.c (.p (.int .u64 (255 : Int)))) (.nd (.nd .lf (.c (.p (.bool false))) .lf) (.c (.p (.bool true))) .lf)) (.c (.pt 0 0)) (.nd (.nd (.nd .lf (.c (.p (.int .i64 ((z : Nat) : Int)))) .lf) .any .lf) (.c (.p (.int .u64 ((i : Nat) : Int)))) (.nd (.nd .lf (.tp []) .lf) (.c (.p (.int .u64 ((i : Nat) : Int)))) .lf))) .any (.nd (.nd (.nd (.nd .lf (.c (.p (.int .i64 (((S.pc (Int.toNat (IntKind.wrap .u64 ((255 : Int) - ((i : Nat) : Int))))) : Nat) : Int)))) .lf) .any (.nd .lf (.c (.p (.bool false))) .lf)) (.c (.p (.int .i64 ((z : Nat) : Int)))) (.nd (.nd .lf (.tp []) .lf) (.c (.p (.int .u64 ((i : Nat) : Int)))) .lf)) .any (.nd (.nd (.nd .lf (.c (.p (.bool false))) .lf) (.c (.p (.int .u64 (IntKind.wrap .u64 (((i : Nat) : Int) + (1 : Int)))))) (.nd .lf (.c (.p (.int .u64 (IntKind.wrap .u64 (((i : Nat) : Int) + (1 : Int)))))) .lf)) (.c (.p (.int .u64 (IntKind.wrap .u64 ((255 : Int) - ((i : Nat) : Int)))))) (.nd (.nd .lf (.tp []) .lf) (.c (.p (.int .u64 (IntKind.wrap .u64 ((255 : Int) - ((i : Nat) : Int)))))) .lf)))), [(some (.box t_api_Gauge [(.p (.int .i64 ra)), (.p (.int .i64 le)), (.p (.int .i64 mo)), (.p (.isl 4 n (S.val r)))]))]⟩)))
 (Q (.exit 2) ⟨(.nd (.nd (.nd (.nd .lf (.c (.p (.int .i64 ((z : Nat) : Int)))) .lf) (.c (.p (.int .u64 (255 : Int)))) (.nd .lf (.c (.p (.bool false))) .lf)) (.c (.pt 0 0)) .lf) .any (.nd (.nd .lf (.c (.p (.int .i64 ((z : Nat) : Int)))) .lf) .any (.nd (.nd .lf (.c (.p (.int .u64 ((i : Nat) : Int)))) .lf) .any .lf))), [(some (.box t_api_Gauge [(.p (.int .i64 ra)), (.p (.int .i64 le)), (.p (.int .i64 mo)), (.p (.isl 4 n (S.val r)))]))]⟩))) = (ex (cs3 hbs) (fu + 60) 0 m_water_leastBlame_l2 ⟨setAll [(.o .h, .c (.pt 0 0)), (.o (.o .h), .c (.p (.int .u64 255))), (.o (.o (.o .h)), .c (.p (.int .i64 z))), (.i (.o .h), .c (.p (.int .i64 z))), (.i (.i (.o .h)), .c (.p (.int .u64 i)))], [some (.box t_api_Gauge (gC ra le mo n (S.val r)))]⟩ (fun e s => .pr (Q e s))).hold2 := by kernel_rfl
theorem vc_water_Blame (ra le mo : Int) (n : Nat) (r : S.Rows) (Q : AV → Heap → Prop) :
 (((FCall (cs3 hbs) f_water_Known [(.ag [(.p (.int .i64 ra)), (.p (.int .i64 le)), (.p (.int .i64 mo)), (.p (.isl 4 n (S.val r)))])] (.c (.p (.int .i64 (S.knE ra le mo n r)))) []) ∧
 (BrP ((S.knE ra le mo n r) != (0 : Int))
 (Q (.tp [(.c (.p .nsl)), (.c (.p (.int .i64 (2 : Int))))]) [(some (.box t_api_Gauge [(.p (.int .i64 ra)), (.p (.int .i64 le)), (.p (.int .i64 mo)), (.p (.isl 4 n (S.val r)))]))])
 ((FCall (cs3 hbs) f_water_leastBlame [(.ag [(.p (.int .i64 ra)), (.p (.int .i64 le)), (.p (.int .i64 mo)), (.p (.isl 4 n (S.val r)))])] (.c (.p (.int .u64 (((S.bl (S.okB ra le mo n r)) : Nat) : Int)))) []) ∧
  ((LoopGo (ex (cs3 hbs) 992) 0 m_water_Blame_l1 ⟨(.nd (.nd (.nd (.nd .lf (.ag [(.p (.int .i64 ra)), (.p (.int .i64 le)), (.p (.int .i64 mo)), (.p (.isl 4 n (S.val r)))]) .lf) (.c (.p (.int .i64 (0 : Int)))) (.nd .lf (.c (.p (.int .u64 (((S.bl (S.okB ra le mo n r)) : Nat) : Int)))) .lf)) (.c (.pt 0 0)) (.nd (.nd .lf (.c (.p (.bool false))) .lf) (.c (.p (.int .u64 (((S.bl (S.okB ra le mo n r)) : Nat) : Int)))) .lf)) (.ag [(.p (.int .i64 ra)), (.p (.int .i64 le)), (.p (.int .i64 mo)), (.p (.isl 4 n (S.val r)))]) (.nd (.nd (.nd .lf (.c (.p (.int .i64 (S.knE ra le mo n r)))) .lf) (.c (.p .nsl)) (.nd .lf (.c (.p (.int .i64 (0 : Int)))) .lf)) (.c (.p .nsl)) (.nd (.nd .lf (.ag [(.p (.int .i64 ra)), (.p (.int .i64 le)), (.p (.int .i64 mo)), (.p (.isl 4 n (S.val r)))]) .lf) .any .lf))), [(some (.box t_api_Gauge [(.p (.int .i64 ra)), (.p (.int .i64 le)), (.p (.int .i64 mo)), (.p (.isl 4 n (S.val r)))]))]⟩ (.e (.exit 0) ⟨(.nd .lf .any (.nd (.nd .lf (.c (.sl 1 0 (S.buN (S.bl (S.okB ra le mo n r)) 8))) .lf) .any .lf)), [(some (.box t_api_Gauge [(.p (.int .i64 ra)), (.p (.int .i64 le)), (.p (.int .i64 mo)), (.p (.isl 4 n (S.val r)))])), (some (.arr 1 3 (S.buN (S.bl (S.okB ra le mo n r)) 8) (S.val (S.buR (S.bl (S.okB ra le mo n r)) 8)) []))]⟩)) ∧
  (Q (.tp [(.c (.sl 1 0 (S.buN (S.bl (S.okB ra le mo n r)) 8))), (.c (.p (.int .i64 (0 : Int))))]) [(some (.box t_api_Gauge [(.p (.int .i64 ra)), (.p (.int .i64 le)), (.p (.int .i64 mo)), (.p (.isl 4 n (S.val r)))])), (some (.arr 1 3 (S.buN (S.bl (S.okB ra le mo n r)) 8) (S.val (S.buR (S.bl (S.okB ra le mo n r)) 8)) []))])))))) = (ex (cs3 hbs) 1000 0 m_water_Blame ⟨ofL 0 [.ag (gC ra le mo n (S.val r))] .lf, []⟩ (endK F_water_Blame.rs (fun r H => .pr (Q r H)) fun _ _ => .no)).hold2 := by kernel_rfl
theorem vs_water_Blame (fu z k : Nat) (ra le mo : Int) (n : Nat) (r : S.Rows) (x : Nat) (g : S.Rows) (Q : AX → St → Prop) :
 ((BrP (decide (((z : Nat) : Int) < (8 : Int)))
 ((FCall (cs3 hbs) f_water_sourceSet_has [(.c (.p (.int .u64 ((x : Nat) : Int)))), (.c (.p (.int .i64 ((z : Nat) : Int))))] (.c (.p (.bool (S.hasB x z)))) []) ∧
  (BrP (S.hasB x z)
  (CdP (.le k k)
   (CdP (.le k k)
   (CdP (.le ((k + 1) * 8) 140737488355328)
   (CdP (.i64 (((z : Nat) : Int) + (1 : Int)))
   (Q .normal ⟨(.nd (.nd (.nd (.nd (.nd .lf (.c (.p (.int .u64 ((x : Nat) : Int)))) .lf) .any .lf) .any (.nd (.nd .lf (.c (.p (.int .i64 ((z : Nat) : Int)))) .lf) .any .lf)) .any (.nd (.nd (.nd .lf (.c (.p (.bool true))) .lf) .any .lf) (.c (.p (.int .u64 ((x : Nat) : Int)))) (.nd (.nd .lf (.c (.sl 2 0 (k + 1))) .lf) (.c (.p (.bool true))) .lf))) .any (.nd (.nd (.nd (.nd .lf (.c (.p (.int .i64 ((z : Nat) : Int)))) .lf) .any .lf) (.c (.sl 2 0 (k + 1))) (.nd (.nd .lf (.c (.p (.isl 1 1 (fun x11 => (fun x12 => (List.getD [(.int .i64 ((z : Nat) : Int))] ((x11 * 1) + x12) .npt)))))) .lf) (.c (.p (.int .i64 (((z : Nat) : Int) + (1 : Int))))) .lf)) .any (.nd (.nd (.nd .lf (.c (.sl 1 0 k)) .lf) .any .lf) (.c (.p (.int .i64 ((z : Nat) : Int)))) (.nd (.nd .lf (.c (.p (.int .i64 (((z : Nat) : Int) + (1 : Int))))) .lf) (.c (.p (.int .i64 ((z : Nat) : Int)))) .lf)))), [(some (.box t_api_Gauge [(.p (.int .i64 ra)), (.p (.int .i64 le)), (.p (.int .i64 mo)), (.p (.isl 4 n (S.val r)))])), (some (.arr 1 3 k (S.val g) [])), (some (.arr 1 3 (k + 1) (fun x11 => (fun x12 => (if (x11 < k) then (.int .i64 (g x11 x12)) else (List.getD [(.int .i64 ((z : Nat) : Int))] (((x11 - k) * 1) + x12) .npt)))) [1]))]⟩)))))
  (CdP (.i64 (((z : Nat) : Int) + (1 : Int)))
   (Q .normal ⟨(.nd (.nd (.nd (.nd (.nd .lf (.c (.p (.int .u64 ((x : Nat) : Int)))) .lf) .any .lf) .any .lf) .any (.nd (.nd (.nd .lf (.c (.p (.bool false))) .lf) .any .lf) (.c (.p (.int .u64 ((x : Nat) : Int)))) (.nd .lf (.c (.p (.bool true))) .lf))) .any (.nd (.nd (.nd (.nd .lf (.c (.p (.int .i64 ((z : Nat) : Int)))) .lf) .any .lf) (.c (.sl 1 0 k)) (.nd .lf (.c (.p (.int .i64 (((z : Nat) : Int) + (1 : Int))))) .lf)) .any (.nd .lf (.c (.p (.int .i64 ((z : Nat) : Int)))) (.nd (.nd .lf (.c (.p (.int .i64 (((z : Nat) : Int) + (1 : Int))))) .lf) (.c (.p (.int .i64 ((z : Nat) : Int)))) .lf)))), [(some (.box t_api_Gauge [(.p (.int .i64 ra)), (.p (.int .i64 le)), (.p (.int .i64 mo)), (.p (.isl 4 n (S.val r)))])), (some (.arr 1 3 k (S.val g) []))]⟩))))
 (Q (.exit 0) ⟨(.nd (.nd .lf .any (.nd .lf (.c (.p (.int .u64 ((x : Nat) : Int)))) (.nd .lf (.c (.p (.bool false))) .lf))) .any (.nd (.nd .lf (.c (.sl 1 0 k)) (.nd .lf (.c (.p (.int .i64 ((z : Nat) : Int)))) .lf)) .any .lf)), [(some (.box t_api_Gauge [(.p (.int .i64 ra)), (.p (.int .i64 le)), (.p (.int .i64 mo)), (.p (.isl 4 n (S.val r)))])), (some (.arr 1 3 k (S.val g) []))]⟩))) = (ex (cs3 hbs) (fu + 60) 0 m_water_Blame_l1 ⟨setAll [(.i (.o (.i .h)), .c (.p (.int .i64 z))), (.i (.o .h), .c (.sl 1 0 k)), (.o (.i .h), .c (.p (.int .u64 x)))], [some (.box t_api_Gauge (gC ra le mo n (S.val r))), some (.arr 1 t_int k (S.val g) [])]⟩ (fun e s => .pr (Q e s))).hold2 := by kernel_rfl
theorem vc_ref01_Same (n m : Nat) (a b : S.Rows) (Q : AV → Heap → Prop) :
 ((BrP (((n : Nat) : Int) != ((m : Nat) : Int))
 (Q (.c (.p (.bool false))) [])
 ((LoopGo (ex (cs3 hbs) 994) 0 m_ref01_Same_l1 ⟨(.nd (.nd (.nd (.nd .lf (.c (.p (.int .i64 ((n : Nat) : Int)))) .lf) .any .lf) (.c (.p (.isl 1 m (S.val b)))) (.nd (.nd .lf (.c (.p (.int .i64 ((m : Nat) : Int)))) .lf) (.c (.p (.int .i64 (0 : Int)))) .lf)) (.c (.p (.isl 1 n (S.val a)))) (.nd (.nd (.nd .lf (.c (.p (.isl 1 m (S.val b)))) .lf) (.c (.p (.bool false))) .lf) .any (.nd (.nd .lf (.c (.p (.bool false))) .lf) (.c (.p (.isl 1 n (S.val a)))) .lf))), []⟩ (.br (S.from_ (S.eq1 a b) n 0) (.e (.exit 0) ⟨.lf, []⟩) (.e .ret ⟨(.nd .lf .any (.nd (.nd .lf (.c (.p (.bool false))) .lf) .any .lf)), []⟩))) ∧
  (BrP (S.from_ (S.eq1 a b) n 0)
  (Q (.c (.p (.bool true))) [])
  (Q (.c (.p (.bool false))) []))))) = (ex (cs3 hbs) 1000 0 m_ref01_Same ⟨ofL 0 [.c (.p (.isl 1 n (S.val a))), .c (.p (.isl 1 m (S.val b)))] .lf, []⟩ (endK F_ref01_Same.rs (fun r H => .pr (Q r H)) fun _ _ => .no)).hold2 := by kernel_rfl
theorem vs_ref01_Same (fu i n m : Nat) (a b : S.Rows) (Q : AX → St → Prop) :
 ((BrP (decide (((i : Nat) : Int) < ((n : Nat) : Int)))
 (CdP (.rng ((i : Nat) : Int) n)
  (CdP (.rng ((i : Nat) : Int) m)
  (BrP ((a i 0) != (b i 0))
  (Q .ret ⟨(.nd (.nd (.nd (.nd .lf .any (.nd .lf (.c (.p (.ipt 1 (S.val b i)))) .lf)) .any (.nd (.nd .lf (.c (.p (.ipt 1 (S.val a i)))) .lf) (.c (.p (.int .i64 ((i : Nat) : Int)))) .lf)) (.c (.p (.isl 1 m (S.val b)))) (.nd (.nd (.nd .lf (.c (.p (.isl 1 n (S.val a)))) .lf) .any (.nd .lf (.c (.p (.bool true))) .lf)) (.c (.p (.int .i64 ((i : Nat) : Int)))) (.nd (.nd .lf (.c (.p (.isl 1 m (S.val b)))) .lf) (.c (.p (.int .i64 ((n : Nat) : Int)))) .lf))) (.c (.p (.isl 1 n (S.val a)))) (.nd (.nd (.nd .lf .any (.nd .lf (.c (.p (.int .i64 (b i 0)))) .lf)) (.c (.p (.bool false))) (.nd (.nd .lf (.c (.p (.int .i64 (a i 0)))) .lf) (.c (.p (.isl 1 n (S.val a)))) .lf)) .any (.nd (.nd (.nd .lf (.c (.p (.int .i64 ((i : Nat) : Int)))) .lf) .any .lf) .any (.nd (.nd .lf (.c (.p (.int .i64 ((i : Nat) : Int)))) .lf) (.c (.p (.bool true))) .lf)))), []⟩)
  (CdP (.i64 (((i : Nat) : Int) + (1 : Int)))
   (Q .normal ⟨(.nd (.nd (.nd (.nd (.nd .lf (.c (.p (.int .i64 ((i : Nat) : Int)))) .lf) .any (.nd .lf (.c (.p (.ipt 1 (S.val b i)))) .lf)) .any (.nd (.nd .lf (.c (.p (.ipt 1 (S.val a i)))) .lf) (.c (.p (.int .i64 ((i : Nat) : Int)))) .lf)) (.c (.p (.isl 1 m (S.val b)))) (.nd (.nd (.nd .lf (.c (.p (.isl 1 n (S.val a)))) .lf) .any (.nd .lf (.c (.p (.bool false))) .lf)) (.c (.p (.int .i64 (((i : Nat) : Int) + (1 : Int))))) (.nd (.nd .lf (.c (.p (.isl 1 m (S.val b)))) .lf) (.c (.p (.int .i64 ((n : Nat) : Int)))) .lf))) (.c (.p (.isl 1 n (S.val a)))) (.nd (.nd (.nd (.nd .lf (.c (.p (.int .i64 (((i : Nat) : Int) + (1 : Int))))) .lf) .any (.nd .lf (.c (.p (.int .i64 (b i 0)))) .lf)) .any (.nd (.nd .lf (.c (.p (.int .i64 (a i 0)))) .lf) (.c (.p (.isl 1 n (S.val a)))) .lf)) .any (.nd (.nd (.nd .lf (.c (.p (.int .i64 ((i : Nat) : Int)))) .lf) .any .lf) .any (.nd (.nd .lf (.c (.p (.int .i64 ((i : Nat) : Int)))) .lf) (.c (.p (.bool true))) .lf)))), []⟩)))))
 (Q (.exit 0) ⟨(.nd (.nd (.nd .lf .any (.nd .lf (.c (.p (.int .i64 ((i : Nat) : Int)))) .lf)) (.c (.p (.isl 1 m (S.val b)))) (.nd .lf (.c (.p (.int .i64 ((i : Nat) : Int)))) (.nd .lf (.c (.p (.int .i64 ((n : Nat) : Int)))) .lf))) (.c (.p (.isl 1 n (S.val a)))) (.nd (.nd .lf .any (.nd .lf (.c (.p (.isl 1 n (S.val a)))) .lf)) .any (.nd .lf .any (.nd .lf (.c (.p (.bool false))) .lf)))), []⟩))) = (ex (cs3 hbs) (fu + 60) 0 m_ref01_Same_l1 ⟨setAll [(.h, .c (.p (.isl 1 n (S.val a)))), (.o .h, .c (.p (.isl 1 m (S.val b)))), (.o (.i .h), .c (.p (.int .i64 i)))], []⟩ (fun e s => .pr (Q e s))).hold2 := by kernel_rfl
end
section
variable {hbs : BsOk Tryd.prog}
end
theorem tab_new {T N : List (List Nat)} {k x : Nat} {N' : List (List Nat)} (e : N' = N ++ [x :: S.nthL T k]) : S.lenT N' = S.lenT N + 1 ∧ ∀ i j, i < S.lenT N + 1 → j < 1 →
    LkP (if i < S.lenT N then PV.isl 1 (S.lenR N i) (S.val (S.rwN N i)) else ([PV.isl 1 (S.lenR T k + 1) (fun a b => if a < S.lenR T k then PV.int .i64 (S.rwN T k a b) else ([PV.int .i64 x] : List PV)[(a - S.lenR T k) * 1 + b]?.getD .npt)] : List PV)[(i - S.lenT N) * 1 + j]?.getD .npt) (S.tab N' i j) := by
  subst e
  refine ⟨by simp [S.lenT], fun i j hi hj => ?_⟩
  obtain rfl : j = 0 := by omega
  split
  · rename_i h
    have : S.nthL (N ++ [x :: S.nthL T k]) i = S.nthL N i := S.getD_app_l h
    refine LkP.of_eq ?_
    show _ = PV.isl 1 (S.lenR _ i) (S.val (S.rwN _ i))
    unfold S.lenR S.rwN
    rw [this]
  · obtain rfl : i = S.lenT N := by omega
    have : S.nthL (N ++ [x :: S.nthL T k]) (S.lenT N) = x :: S.nthL T k := by
      unfold S.nthL S.lenT
      rw [S.getD_app_r (Nat.le_refl _), Nat.sub_self]
      rfl
    rw [Nat.sub_self]
    show LkP (PV.isl 1 (S.lenR T k + 1) _) (PV.isl 1 (S.lenR _ (S.lenT N)) (S.val (S.rwN _ (S.lenT N))))
    unfold S.lenR S.rwN
    rw [this]
    refine LkP.isl fun a b ha hb => LkP.of_eq ?_
    obtain rfl : b = 0 := by omega
    split
    · rename_i h
      exact congrArg (PV.int .i64) (S.row_old h).symm
    · obtain rfl : a = (S.nthL T k).length := by omega
      rw [Nat.sub_self]
      exact congrArg (PV.int .i64) S.row_new.symm
section
variable {hbs : BsOk Tryd.prog} (hT3 : TabOk (cs3 hbs))
include hT3
end
end Go.Ab.B
namespace Go.Ab.S
theorem okL {ra le mo : Int} {n : Nat} {r : Rows} (hR : allR n r) {x : Nat} (hx : x < 256) : okQ ra le mo n r (qL (pc x) (bitR x)) = okB ra le mo n r x := by
  obtain ⟨h1, h2⟩ := kp_congr (q := qL (pc x) (bitR x)) (q' := qB x) (r := r) (n := n) fun i hi => by
    obtain ⟨a1, a2, a3⟩ := hR i hi
    have e : r i 3 = ((r i 3).toNat : Nat) := by omega
    have := hasL_bits x hx (r i 3).toNat (by omega)
    rw [← e] at this
    simp only [qL, qB, this]
  unfold okB okQ
  rw [h1, h2]
theorem pc_le (x : Nat) : pc x ≤ 8 := by unfold pc bitL; exact Nat.le_trans (List.length_filter_le _ _) (by simp)
theorem fiF_lt {p : Nat → Bool} {n : Nat} (h : fiF p n 0 < n) : p (fiF p n 0) = true := fiF_find (p := p) (k := n) (i := 0) (by unfold fiF at h; simpa using h)
end Go.Ab.S
namespace Go.Ab.B
open Go.Proofs
theorem app_kp {q : Int → Bool} {r : S.Rows} {i j c : Nat} (hq : q (r i 3) = true) (hj : j < S.kpN q r i + 1) (hc : c < 4) : (if j < S.kpN q r i then PV.int .i64 (S.kpR q r i j c) else ([PV.int .i64 (r i 0), PV.int .i64 (r i 1), PV.int .i64 (r i 2), PV.int .i64 (r i 3)] : List PV)[(j - S.kpN q r i) * 4 + c]?.getD .npt) = S.val (S.kpR q r (i + 1)) j c := by
  split
  · rename_i h
    exact congrArg (PV.int .i64) (S.kpR_old c h).symm
  · obtain rfl : j = S.kpN q r i := by omega
    rw [Nat.sub_self, Nat.zero_mul, Nat.zero_add]
    refine Eq.trans ?_ (congrArg (PV.int .i64) (S.kpR_new c hq).symm)
    match c, hc with
    | 0, _ => rfl
    | 1, _ => rfl
    | 2, _ => rfl
    | 3, _ => rfl
theorem app_bu {x s j c : Nat} (hq : S.hasB x s = true) (hj : j < S.buN x s + 1) (hc : c < 1) : (if j < S.buN x s then PV.int .i64 (S.buR x s j c) else ([PV.int .i64 s] : List PV)[(j - S.buN x s) * 1 + c]?.getD .npt) = S.val (S.buR x (s + 1)) j c := by
  split
  · rename_i h
    exact congrArg (PV.int .i64) (S.buR_old c h).symm
  · obtain rfl : j = S.buN x s := by omega
    obtain rfl : c = 0 := by omega
    rw [Nat.sub_self, Nat.zero_mul, Nat.zero_add]
    exact congrArg (PV.int .i64) (S.buR_new 0 hq).symm
def hdI (ra le mo : Int) (n : Nat) (r : S.Rows) (x i : Nat) : Heap := [some (.box t_api_Gauge (gC ra le mo n (S.val r))), some (.box t_api_Gauge [.p (.int .i64 0), .p (.int .i64 0), .p (.int .i64 0), .p .nsl]), some (.arr 4 t_api_Reading (S.kpN (S.qB x) r i) (S.val (S.kpR (S.qB x) r i)) [])]
def hdJ (ra le mo : Int) (n : Nat) (r : S.Rows) (m : Nat) (l : S.Rows) (i : Nat) : Heap := [some (.box t_api_Gauge (gC ra le mo n (S.val r))), some (.box t_api_Gauge [.p (.int .i64 0), .p (.int .i64 0), .p (.int .i64 0), .p .nsl]), some (.box t_api_Gauge [.p (.int .i64 ra), .p (.int .i64 le), .p (.int .i64 mo), .sl 3 0 (S.kpN (S.qL m l) r i)]), some (.arr 4 t_api_Reading (S.kpN (S.qL m l) r i) (S.val (S.kpR (S.qL m l) r i)) [])]
def hdU (ra le mo : Int) (n : Nat) (r : S.Rows) (x i : Nat) : Heap := [some (.box t_api_Gauge (gC ra le mo n (S.val r))), some (.arr 1 t_int (S.buN x i) (S.val (S.buR x i)) [])]
section
variable {hbs : BsOk Tryd.prog} (hT0 : TabOk (c0 hbs)) (hT2 : TabOk (cs2 hbs)) (hT3 : TabOk (cs3 hbs))
include hT0
theorem fc_has (x s : Nat) (hx : x < 256) (hs : s < 8) : FCall (cs3 hbs) f_water_sourceSet_has [.c (.p (.int .u64 x)), .c (.p (.int .i64 s))] (vB (S.hasB x s)) [] :=
  FCall.cfg (C := c0 hbs) (C' := cs3 hbs) rfl rfl (fcall_row hT0 (f := f_water_sourceSet_has) (F := F_water_sourceSet_has) rfl (S.mapR_get (S.mapR_get (run_has hbs) x hx) s hs))
theorem fc_size (x : Nat) (hx : x < 256) : FCall (cs3 hbs) f_water_sourceSet_size [.c (.p (.int .u64 x))] (vN (S.pc x)) [] :=
  FCall.cfg (C := c0 hbs) (C' := cs3 hbs) rfl rfl (fcall_row hT0 (f := f_water_sourceSet_size) (F := F_water_sourceSet_size) rfl (S.mapR_get (run_size hbs) x hx))
omit hT0
include hT3
theorem go_ref01_Has (fu m : Nat) (l : S.Rows) (x : Int) (hm : m ≤ maxLen) : ∀ (i : Nat) (st : St), i ≤ m → Has st [(.h, .c (.p (.isl 1 m (S.val l)))), (.o .h, .c (.p (.int .i64 x))), (.o (.i .h), .c (.p (.int .i64 i)))] [] →
    LoopGo (ex (cs3 hbs) (fu + 60)) 0 m_ref01_Has_l1 st (.br (S.from_ (S.neL l x) m i) (.e (.exit 0) ⟨.lf, []⟩) (.e .ret ⟨setAll [(.i (.o .h), vB true)], []⟩)) :=
  loop_k (σ := Nat) (fun i => [(.h, .c (.p (.isl 1 m (S.val l)))), (.o .h, .c (.p (.int .i64 x))), (.o (.i .h), .c (.p (.int .i64 i)))]) (fun _ => []) (fun i => i ≤ m) (fun i => m - i)
    (fun i => .br (S.from_ (S.neL l x) m i) (.e (.exit 0) ⟨.lf, []⟩) (.e .ret ⟨setAll [(.i (.o .h), vB true)], []⟩)) (fun _ => Nat.zero_le _) _ (fun i Q => vs_ref01_Has (hbs := hbs) fu i m l x Q) fun i hi' K hL X hX => by
      refine brP (fun h1 => ?_) fun h1 => ?_
      · have hlt : i < m := by simpa using h1
        refine cdP (idx_ok hlt) (brP (fun h2 => ?_) fun h2 => cdP (i64_nat hlt hm) ?_)
        · have e : S.neL l x i = false := by simp [S.neL] at h2 ⊢; omega
          rw [S.from_step hlt, e, Bool.false_and] at hL
          exact Has.out (l := [(.i (.o .h), vB true)]) (.cons (by kernel_rfl) rfl (.nil (ex := _) rfl rfl)) (Nat.zero_le _) hL
        · refine hX (i + 1) _ (by omega) (by omega) (.cons (by kernel_rfl) rfl (.cons (by kernel_rfl) rfl (.cons (by kernel_rfl) rfl (.nil (ex := _) rfl rfl)))) ?_
          have e : S.neL l x i = true := by simp [S.neL] at h2 ⊢; omega
          rw [S.from_step hlt, e, Bool.true_and] at hL
          exact hL
      · have hlt : m ≤ i := by simpa using h1
        rw [S.from_end hlt] at hL
        exact Has.out (l := []) (.nil (ex := _) rfl rfl) (Nat.zero_le _) hL
theorem fc_ref01_Has (m : Nat) (l : S.Rows) (x : Int) (hm : m ≤ maxLen) : FCall (cs3 hbs) f_ref01_Has [.c (.p (.isl 1 m (S.val l))), .c (.p (.int .i64 x))] (vB (S.hasL m l x)) [] :=
  fcall_k hT3 (F := F_ref01_Has) rfl (vc_ref01_Has m l x _) ⟨go_ref01_Has hT3 935 m l x hm 0 _ (Nat.zero_le _) (.cons (by kernel_rfl) rfl (.cons (by kernel_rfl) rfl (.cons (by kernel_rfl) rfl (.nil rfl rfl)))), brP (fun h2 => frz_b (by unfold S.hasL; rw [h2]; rfl)) fun h2 => frz_b (by unfold S.hasL; rw [h2]; rfl)⟩
theorem go_ref01_Same (fu n m : Nat) (a b : S.Rows) (hn : n ≤ maxLen) (hm : n = m) : ∀ (i : Nat) (st : St), i ≤ n → Has st [(.h, .c (.p (.isl 1 n (S.val a)))), (.o .h, .c (.p (.isl 1 m (S.val b)))), (.o (.i .h), .c (.p (.int .i64 i)))] [] →
    LoopGo (ex (cs3 hbs) (fu + 60)) 0 m_ref01_Same_l1 st (.br (S.from_ (S.eq1 a b) n i) (.e (.exit 0) ⟨.lf, []⟩) (.e .ret ⟨setAll [(.i (.o .h), vB false)], []⟩)) :=
  loop_k (σ := Nat) (fun i => [(.h, .c (.p (.isl 1 n (S.val a)))), (.o .h, .c (.p (.isl 1 m (S.val b)))), (.o (.i .h), .c (.p (.int .i64 i)))]) (fun _ => []) (fun i => i ≤ n) (fun i => n - i)
    (fun i => .br (S.from_ (S.eq1 a b) n i) (.e (.exit 0) ⟨.lf, []⟩) (.e .ret ⟨setAll [(.i (.o .h), vB false)], []⟩)) (fun _ => Nat.zero_le _) _ (fun i Q => vs_ref01_Same (hbs := hbs) fu i n m a b Q) fun i hi' K hL X hX => by
      refine brP (fun h1 => ?_) fun h1 => ?_
      · have hlt : i < n := by simpa using h1
        refine cdP (idx_ok hlt) (cdP (idx_ok (by omega)) (brP (fun h2 => ?_) fun h2 => cdP (i64_nat hlt hn) ?_))
        · have e : S.eq1 a b i = false := by simp [S.eq1] at h2 ⊢; omega
          rw [S.from_step hlt, e, Bool.false_and] at hL
          exact Has.out (l := [(.i (.o .h), vB false)]) (.cons (by kernel_rfl) rfl (.nil (ex := _) rfl rfl)) (Nat.zero_le _) hL
        · refine hX (i + 1) _ (by omega) (by omega) (.cons (by kernel_rfl) rfl (.cons (by kernel_rfl) rfl (.cons (by kernel_rfl) rfl (.nil (ex := _) rfl rfl)))) ?_
          have e : S.eq1 a b i = true := by simp [S.eq1] at h2 ⊢; omega
          rw [S.from_step hlt, e, Bool.true_and] at hL
          exact hL
      · have hlt : n ≤ i := by simpa using h1
        rw [S.from_end hlt] at hL
        exact Has.out (l := []) (.nil (ex := _) rfl rfl) (Nat.zero_le _) hL
theorem fc_ref01_Same (n m : Nat) (a b : S.Rows) (hn : n ≤ maxLen) : FCall (cs3 hbs) f_ref01_Same [.c (.p (.isl 1 n (S.val a))), .c (.p (.isl 1 m (S.val b)))] (vB (S.sm n m a b)) [] :=
  fcall_k hT3 (F := F_ref01_Same) rfl (vc_ref01_Same n m a b _) (brP (fun h1 => frz_b (by
      have h1 : decide (n = m) = false := by simp at h1; exact decide_eq_false (by omega)
      unfold S.sm; rw [h1]; rfl)) fun h1 => by
    have hm : n = m := by simp at h1; omega
    exact ⟨go_ref01_Same hT3 934 n m a b hn hm 0 _ (Nat.zero_le _) (.cons (by kernel_rfl) rfl (.cons (by kernel_rfl) rfl (.cons (by kernel_rfl) rfl (.nil rfl rfl)))), brP (fun h2 => frz_b (by unfold S.sm; rw [h2, decide_eq_true hm]; rfl)) fun h2 => frz_b (by unfold S.sm; rw [h2, Bool.and_false])⟩)
include hT0
theorem go_water_ignore (fu : Nat) (ra le mo : Int) (n : Nat) (r : S.Rows) (x : Nat) (hn : n ≤ 30) (hR : S.allR n r) (hx : x < 256) : ∀ (i : Nat) (st : St), i ≤ n → (∃ ρ, HasR 0 ρ st [(.o .h, .c (.p (.int .u64 x))), (.o (.o (.i .h)), .c (.p (.int .i64 i))), (.o (.i .h), .c (.sl 2 0 (S.kpN (S.qB x) r i))), (.o (.i (.o .h)), .c (.p (.isl 4 n (S.val r)))), (.i .h, .c (.pt 0 0)), (.i (.o .h), .c (.pt 1 0)), (.i (.i (.o .h)), .c (.p (.int .i64 n)))] (hdI ra le mo n r x i)) →
    LoopGo (ex (cs3 hbs) (fu + 60)) 0 m_water_ignore_l1 st (.e (.exit 0) ⟨setAll [(.i .h, .c (.pt 0 0)), (.i (.o .h), .c (.pt 1 0)), (.o (.i .h), .c (.sl 2 0 (S.kpN (S.qB x) r n)))], hdI ra le mo n r x n⟩) :=
  loop_kR (σ := Nat) (fun i => [(.o .h, .c (.p (.int .u64 x))), (.o (.o (.i .h)), .c (.p (.int .i64 i))), (.o (.i .h), .c (.sl 2 0 (S.kpN (S.qB x) r i))), (.o (.i (.o .h)), .c (.p (.isl 4 n (S.val r)))), (.i .h, .c (.pt 0 0)), (.i (.o .h), .c (.pt 1 0)), (.i (.i (.o .h)), .c (.p (.int .i64 n)))]) (fun i => hdI ra le mo n r x i) (fun i => i ≤ n) (fun i => n - i)
    (fun _ => .e (.exit 0) ⟨setAll [(.i .h, .c (.pt 0 0)), (.i (.o .h), .c (.pt 1 0)), (.o (.i .h), .c (.sl 2 0 (S.kpN (S.qB x) r n)))], hdI ra le mo n r x n⟩) _ (fun i Q => vs_water_ignore (hbs := hbs) fu i (S.kpN (S.qB x) r i) ra le mo n r x (S.kpR (S.qB x) r i) Q) fun i hi' K hL X hX => by
      have hn' : n ≤ maxLen := by simp [maxLen]; omega
      refine brP (fun h1 => ?_) fun h1 => ?_
      · have hlt : i < n := by simpa using h1
        obtain ⟨a1, a2, a3⟩ := hR i hlt
        have e3 : r i 3 = ((r i 3).toNat : Nat) := by omega
        have hh := fc_has hT0 x (r i 3).toNat hx (by omega)
        rw [← e3] at hh
        have hk := S.kpN_le (q := S.qB x) (r := r) (n := i)
        refine cdP (idx_ok hlt) ⟨hh, brP (fun h2 => cdP (i64_nat hlt hn') ?_) fun h2 => cdP (Nat.le_refl _) (cdP (Nat.le_refl _) (cdP (by simp [Cd.holds]; omega) (cdP (i64_nat hlt hn') ?_)))⟩
        · obtain ⟨k1, k2⟩ := S.kpN_f (q := S.qB x) (r := r) (i := i) (by simp [S.qB, h2])
          refine hX (i + 1) _ (by omega) (by omega) ⟨[some 0, some 1, some 2], HasR.mk _ rfl rfl ?_ ?_⟩ hL
          · simp [WH, WB, WL, WA, WC, WP', upsB, memB, gC, hdI, k1, k2]
          · simp [LiveR, WA, WC, WP', Tr.get, k1]
        · have hq : S.qB x (r i 3) = true := by simp [S.qB, h2]
          have k1 := S.kpN_t (q := S.qB x) (r := r) (i := i) hq
          refine hX (i + 1) _ (by omega) (by omega) ⟨[some 0, some 1, some 4], HasR.mk _ rfl rfl ?_ ?_⟩ hL
          · simp [WH, WB, WL, WA, WC, WP', upsB, memB, gC, hdI, k1]
            exact fun j c hj hc => app_kp hq hj hc
          · simp [LiveR, WA, WC, WP', Tr.get, k1]
      · have hlt : n ≤ i := by simpa using h1
        obtain rfl : i = n := by omega
        refine HasR.out (l := [(.i .h, .c (.pt 0 0)), (.i (.o .h), .c (.pt 1 0)), (.o (.i .h), .c (.sl 2 0 (S.kpN (S.qB x) r i)))]) (HasR.mk (ρ := [some 0, some 1, some 2]) rfl rfl ?_ ?_) hL
        · simp [WH, WB, WL, WA, WC, WP', upsB, memB, gC, hdI]
        · simp [LiveR, WA, WC, WP', Tr.get]
theorem fc_water_ignore (ra le mo : Int) (n : Nat) (r : S.Rows) (x : Nat) (hn : n ≤ 30) (hR : S.allR n r) (hx : x < 256) : FCall (cs3 hbs) f_water_ignore [.ag (gC ra le mo n (S.val r)), .c (.p (.int .u64 x))] (.ag (gC ra le mo (S.kpN (S.qB x) r n) (S.val (S.kpR (S.qB x) r n)))) [] :=
  fcall_k hT3 (F := F_water_ignore) rfl (vc_water_ignore ra le mo n r x _) ⟨go_water_ignore hT0 hT3 934 ra le mo n r x hn hR hx 0 _ (Nat.zero_le _) ⟨[some 0, some 1, none], HasR.mk _ rfl rfl (by simp [WH, WB, WL, WA, WC, WP', upsB, memB, gC, hdI, S.kpN, S.kpL]) (by simp [LiveR, WA, WC, WP', Tr.get, S.kpN, S.kpL])⟩, by simp [frzA, frzL, frzC, gC]⟩
omit hT0
theorem go_ref01_Ignored (fu : Nat) (ra le mo : Int) (n : Nat) (r : S.Rows) (m : Nat) (l : S.Rows) (hn : n ≤ 30) (hm : m ≤ maxLen) : ∀ (i : Nat) (st : St), i ≤ n → (∃ ρ, HasR 0 ρ st [(.o .h, .c (.p (.isl 1 m (S.val l)))), (.o (.i .h), .c (.pt 2 0)), (.i .h, .c (.pt 0 0)), (.i (.o .h), .c (.pt 1 0)), (.i (.i .h), .c (.p (.int .i64 i)))] (hdJ ra le mo n r m l i)) →
    LoopGo (ex (cs3 hbs) (fu + 60)) 0 m_ref01_Ignored_l1 st (.e (.exit 0) ⟨setAll [(.i (.o .h), .c (.pt 1 0)), (.o (.i .h), .c (.pt 2 0))], hdJ ra le mo n r m l n⟩) :=
  loop_kR (σ := Nat) (fun i => [(.o .h, .c (.p (.isl 1 m (S.val l)))), (.o (.i .h), .c (.pt 2 0)), (.i .h, .c (.pt 0 0)), (.i (.o .h), .c (.pt 1 0)), (.i (.i .h), .c (.p (.int .i64 i)))]) (fun i => hdJ ra le mo n r m l i) (fun i => i ≤ n) (fun i => n - i)
    (fun _ => .e (.exit 0) ⟨setAll [(.i (.o .h), .c (.pt 1 0)), (.o (.i .h), .c (.pt 2 0))], hdJ ra le mo n r m l n⟩) _ (fun i Q => vs_ref01_Ignored (hbs := hbs) fu i (S.kpN (S.qL m l) r i) ra le mo n r m l (S.kpR (S.qL m l) r i) Q) fun i hi' K hL X hX => by
      have hn' : n ≤ maxLen := by simp [maxLen]; omega
      refine brP (fun h1 => ?_) fun h1 => ?_
      · have hlt : i < n := by simpa using h1
        have hk := S.kpN_le (q := S.qL m l) (r := r) (n := i)
        refine cdP (idx_ok hlt) ⟨fc_ref01_Has hT3 m l (r i 3) hm, brP (fun h2 => cdP (i64_nat hlt hn') ?_) fun h2 => cdP (idx_ok hlt) (cdP (Nat.le_refl _) (cdP (Nat.le_refl _) (cdP (by simp [Cd.holds]; omega) (cdP (i64_nat hlt hn') ?_))))⟩
        · obtain ⟨k1, k2⟩ := S.kpN_f (q := S.qL m l) (r := r) (i := i) (by simp [S.qL, h2])
          refine hX (i + 1) _ (by omega) (by omega) ⟨[some 0, some 1, some 2, some 3], HasR.mk _ rfl rfl ?_ ?_⟩ hL
          · simp [WH, WB, WL, WA, WC, WP', upsB, memB, gC, hdJ, k1, k2]
          · simp [LiveR, WA, WC, WP', Tr.get, k1]
        · have hq : S.qL m l (r i 3) = true := by simp [S.qL, h2]
          have k1 := S.kpN_t (q := S.qL m l) (r := r) (i := i) hq
          refine hX (i + 1) _ (by omega) (by omega) ⟨[some 0, some 1, some 2, some 4], HasR.mk _ rfl rfl ?_ ?_⟩ hL
          · simp [WH, WB, WL, WA, WC, WP', upsB, memB, gC, hdJ, k1]
            exact fun j c hj hc => app_kp hq hj hc
          · simp [LiveR, WA, WC, WP', Tr.get, k1]
      · have hlt : n ≤ i := by simpa using h1
        obtain rfl : i = n := by omega
        refine HasR.out (l := [(.i (.o .h), .c (.pt 1 0)), (.o (.i .h), .c (.pt 2 0))]) (HasR.mk (ρ := [some 0, some 1, some 2, some 3]) rfl rfl ?_ ?_) hL
        · simp [WH, WB, WL, WA, WC, WP', upsB, memB, gC, hdJ]
        · simp [LiveR, WA, WC, WP', Tr.get]
theorem fc_ref01_Ignored (ra le mo : Int) (n : Nat) (r : S.Rows) (m : Nat) (l : S.Rows) (hn : n ≤ 30) (hm : m ≤ maxLen) : FCall (cs3 hbs) f_ref01_Ignored [.ag (gC ra le mo n (S.val r)), .c (.p (.isl 1 m (S.val l)))] (.ag (gC ra le mo (S.kpN (S.qL m l) r n) (S.val (S.kpR (S.qL m l) r n)))) [] :=
  fcall_k hT3 (F := F_ref01_Ignored) rfl (vc_ref01_Ignored ra le mo n r m l _) ⟨go_ref01_Ignored hT3 934 ra le mo n r m l hn hm 0 _ (Nat.zero_le _) ⟨[some 0, some 1, some 2, none], HasR.mk _ rfl rfl (by simp [WH, WB, WL, WA, WC, WP', upsB, memB, gC, hdJ, S.kpN, S.kpL]) (by simp [LiveR, WA, WC, WP', Tr.get, S.kpN, S.kpL])⟩, by simp [frzA, frzL, frzC, gC]⟩
include hT0 hT2
theorem go_water_leastBlame2 (fu z : Nat) (ra le mo : Int) (n : Nat) (r : S.Rows) (hn : n ≤ 30) (hR : S.allR n r) (hra : 0 ≤ ra ∧ ra ≤ 1000) (hz : z < 8) : ∀ (i : Nat) (st : St), i ≤ 256 → Has st [(.o .h, .c (.pt 0 0)), (.o (.o .h), .c (.p (.int .u64 255))), (.o (.o (.o .h)), .c (.p (.int .i64 z))), (.i (.o .h), .c (.p (.int .i64 z))), (.i (.i (.o .h)), .c (.p (.int .u64 i)))] [some (.box t_api_Gauge (gC ra le mo n (S.val r)))] →
    LoopGo (ex (cs3 hbs) (fu + 60)) 0 m_water_leastBlame_l2 st (.br (decide (S.inS (S.okB ra le mo n r) z i < 256)) (.e (.exit 0) ⟨setAll [(.o (.o .h), .c (.p (.int .u64 (S.cmp255 (S.inS (S.okB ra le mo n r) z i)))))], [some (.box t_api_Gauge (gC ra le mo n (S.val r)))]⟩) (.e (.exit 2) ⟨setAll [(.o .h, .c (.pt 0 0)), (.o (.o .h), v255), (.o (.o (.o .h)), .c (.p (.int .i64 z)))], [some (.box t_api_Gauge (gC ra le mo n (S.val r)))]⟩)) :=
  loop_k (σ := Nat) (fun i => [(.o .h, .c (.pt 0 0)), (.o (.o .h), .c (.p (.int .u64 255))), (.o (.o (.o .h)), .c (.p (.int .i64 z))), (.i (.o .h), .c (.p (.int .i64 z))), (.i (.i (.o .h)), .c (.p (.int .u64 i)))]) (fun _ => [some (.box t_api_Gauge (gC ra le mo n (S.val r)))]) (fun i => i ≤ 256) (fun i => 256 - i)
    (fun i => .br (decide (S.inS (S.okB ra le mo n r) z i < 256)) (.e (.exit 0) ⟨setAll [(.o (.o .h), .c (.p (.int .u64 (S.cmp255 (S.inS (S.okB ra le mo n r) z i)))))], [some (.box t_api_Gauge (gC ra le mo n (S.val r)))]⟩) (.e (.exit 2) ⟨setAll [(.o .h, .c (.pt 0 0)), (.o (.o .h), v255), (.o (.o (.o .h)), .c (.p (.int .i64 z)))], [some (.box t_api_Gauge (gC ra le mo n (S.val r)))]⟩)) (fun _ => Nat.zero_le _) _ (fun i Q => vs_water_leastBlame2 (hbs := hbs) fu z i ra le mo n r Q) fun i hi' K hL X hX => by
      refine brP (fun h1 => ?_) fun h1 => ?_
      · have hlt : i < 256 := by simp at h1; omega
        have ew : IntKind.wrap .u64 (255 - (i : Int)) = ((255 - i : Nat) : Int) := S.cmp255_eq hlt
        have hx : 255 - i < 256 := by omega
        have e1 : IntKind.wrap .u64 ((i : Int) + 1) = ((i + 1 : Nat) : Int) := by
          unfold IntKind.wrap
          simp [IntKind.bits, IntKind.signed]
          omega
        have g1 : FCall (cs3 hbs) f_water_sourceSet_size [.c (.p (.int .u64 (IntKind.wrap .u64 (255 - (i : Int)))))] (.c (.p (.int .i64 ((S.pc (Int.toNat (IntKind.wrap .u64 (255 - (i : Int)))) : Nat) : Int)))) [] := by
          rw [ew, Int.toNat_natCast]; exact fc_size hT0 _ hx
        have g2 : FCall (cs3 hbs) f_water_ignore [.ag (gC ra le mo n (S.val r)), .c (.p (.int .u64 (IntKind.wrap .u64 (255 - (i : Int)))))] (.ag (gC ra le mo (S.kpN (S.qB (Int.toNat (IntKind.wrap .u64 (255 - (i : Int))))) r n) (S.val (S.kpR (S.qB (Int.toNat (IntKind.wrap .u64 (255 - (i : Int))))) r n)))) [] := by
          rw [ew, Int.toNat_natCast]; exact fc_water_ignore hT0 hT3 ra le mo n r _ hn hR hx
        have hle := S.kpN_le (q := S.qB (Int.toNat (IntKind.wrap .u64 (255 - (i : Int))))) (r := r) (n := n)
        have g3 := FCall.cfg (C := cs2 hbs) (C' := cs3 hbs) rfl rfl (fc_water_hasCourse hT2 ra le mo (S.kpN (S.qB (Int.toNat (IntKind.wrap .u64 (255 - (i : Int))))) r n) (S.kpR (S.qB (Int.toNat (IntKind.wrap .u64 (255 - (i : Int))))) r n) (by simp [maxLen]; omega) (S.kp_all hR) hra)
        have next : S.inP (S.okB ra le mo n r) z i = false → ∀ s', Has s' [(.o .h, .c (.pt 0 0)), (.o (.o .h), .c (.p (.int .u64 255))), (.o (.o (.o .h)), .c (.p (.int .i64 z))), (.i (.o .h), .c (.p (.int .i64 z))), (.i (.i (.o .h)), .c (.p (.int .u64 (i + 1 : Nat))))] [some (.box t_api_Gauge (gC ra le mo n (S.val r)))] → X s' := fun e s' hs => by
          refine hX (i + 1) _ (by omega) (by omega) hs ?_
          rw [show S.inS (S.okB ra le mo n r) z i = S.inS (S.okB ra le mo n r) z (i + 1) from S.fiF_skip hlt e] at hL
          exact hL
        refine ⟨g1, brP (fun h2 => ⟨g2, g3, brP (fun h3 => ?_) fun h3 => ?_⟩) fun h2 => ?_⟩
        · have e : S.inP (S.okB ra le mo n r) z i = true := by
            rw [ew, Int.toNat_natCast] at h2 h3
            simp only [S.inP, S.okB, S.okQ, h3, Bool.and_true]
            have : S.pc (255 - i) = z := by simp at h2; omega
            rw [this]; exact Nat.beq_refl _
          rw [show S.inS (S.okB ra le mo n r) z i = i from S.fiF_hit hlt e, decide_eq_true hlt] at hL
          exact Has.out (l := [(.o (.o .h), .c (.p (.int .u64 (S.cmp255 i))))]) (.cons (by kernel_rfl) rfl (.nil (ex := _) rfl rfl)) (Nat.zero_le _) hL
        · refine next ?_ _ (.cons (by kernel_rfl) rfl (.cons (by kernel_rfl) rfl (.cons (by kernel_rfl) rfl (.cons (by kernel_rfl) rfl (.cons (congrArg (fun q => AV.c (.p (.int .u64 q))) e1) rfl (.nil (ex := _) rfl rfl))))))
          rw [ew, Int.toNat_natCast] at h3
          simp only [S.inP, S.okB, S.okQ, h3, Bool.and_false]
        · refine next ?_ _ (.cons (by kernel_rfl) rfl (.cons (by kernel_rfl) rfl (.cons (by kernel_rfl) rfl (.cons (by kernel_rfl) rfl (.cons (congrArg (fun q => AV.c (.p (.int .u64 q))) e1) rfl (.nil (ex := _) rfl rfl))))))
          rw [ew, Int.toNat_natCast] at h2
          have : ¬ S.pc (255 - i) = z := by simp at h2; omega
          have hb : Nat.beq (S.pc (255 - i)) z = false := by
            cases hb : Nat.beq (S.pc (255 - i)) z with
            | false => rfl
            | true => exact absurd (Nat.eq_of_beq_eq_true hb) this
          simp only [S.inP, hb, Bool.false_and]
      · have hlt : 256 ≤ i := by simp at h1; omega
        rw [show S.inS (S.okB ra le mo n r) z i = i from S.fiF_end hlt, decide_eq_false (by omega)] at hL
        exact Has.out (l := [(.o .h, .c (.pt 0 0)), (.o (.o .h), v255), (.o (.o (.o .h)), .c (.p (.int .i64 z)))]) (.cons (by kernel_rfl) rfl (.cons (by kernel_rfl) rfl (.cons (by kernel_rfl) rfl (.nil (ex := _) rfl rfl)))) (Nat.zero_le _) hL
theorem go_water_leastBlame1 (fu : Nat) (ra le mo : Int) (n : Nat) (r : S.Rows) (hn : n ≤ 30) (hR : S.allR n r) (hra : 0 ≤ ra ∧ ra ≤ 1000) : ∀ (z : Nat) (st : St), z ≤ 8 → Has st [(.o .h, .c (.pt 0 0)), (.o (.o .h), .c (.p (.int .u64 255))), (.o (.o (.o .h)), .c (.p (.int .i64 z)))] [some (.box t_api_Gauge (gC ra le mo n (S.val r)))] →
    LoopGo (ex (cs3 hbs) (fu + 8 + 60)) 0 m_water_leastBlame_l1 st (.br (S.blB (S.okB ra le mo n r) z) (.e (.exit 0) ⟨setAll [(.o (.o .h), .c (.p (.int .u64 (S.cmp255 (S.inS (S.okB ra le mo n r) (S.blS (S.okB ra le mo n r) z) 0)))))], [some (.box t_api_Gauge (gC ra le mo n (S.val r)))]⟩) (.e (.exit 0) ⟨setAll [(.o (.o .h), v255)], [some (.box t_api_Gauge (gC ra le mo n (S.val r)))]⟩)) :=
  loop_k (σ := Nat) (fun z => [(.o .h, .c (.pt 0 0)), (.o (.o .h), .c (.p (.int .u64 255))), (.o (.o (.o .h)), .c (.p (.int .i64 z)))]) (fun _ => [some (.box t_api_Gauge (gC ra le mo n (S.val r)))]) (fun z => z ≤ 8) (fun z => 8 - z)
    (fun z => .br (S.blB (S.okB ra le mo n r) z) (.e (.exit 0) ⟨setAll [(.o (.o .h), .c (.p (.int .u64 (S.cmp255 (S.inS (S.okB ra le mo n r) (S.blS (S.okB ra le mo n r) z) 0)))))], [some (.box t_api_Gauge (gC ra le mo n (S.val r)))]⟩) (.e (.exit 0) ⟨setAll [(.o (.o .h), v255)], [some (.box t_api_Gauge (gC ra le mo n (S.val r)))]⟩)) (fun _ => Nat.zero_le _) _ (fun z Q => vs_water_leastBlame1 (hbs := hbs) (fu + 8) z ra le mo n r Q) fun z hz' K hL X hX => by
      refine brP (fun h1 => ?_) fun h1 => ?_
      · have hlt : z < 8 := by simp at h1; omega
        refine ⟨go_water_leastBlame2 hT0 hT2 hT3 fu z ra le mo n r hn hR hra hlt 0 _ (by omega) (.cons (by kernel_rfl) rfl (.cons (by kernel_rfl) rfl (.cons (by kernel_rfl) rfl (.cons (by kernel_rfl) rfl (.cons (by kernel_rfl) rfl (.nil (ex := _) rfl rfl)))))), brP (fun h2 => ?_) fun h2 => cdP (i64_of (by omega) (by omega)) ?_⟩
        · have e : S.blS (S.okB ra le mo n r) z = z := S.fiF_hit hlt h2
          rw [e, show S.blB (S.okB ra le mo n r) z = true by unfold S.blB; rw [e]; exact decide_eq_true hlt] at hL
          exact Has.out (l := [(.o (.o .h), .c (.p (.int .u64 (S.cmp255 (S.inS (S.okB ra le mo n r) z 0)))))]) (.cons (by kernel_rfl) rfl (.nil (ex := _) rfl rfl)) (Nat.zero_le _) hL
        · refine hX (z + 1) _ (by omega) (by omega) (.cons (by kernel_rfl) rfl (.cons (by kernel_rfl) rfl (.cons (by kernel_rfl) rfl (.nil (ex := _) rfl rfl)))) ?_
          have e : S.blS (S.okB ra le mo n r) z = S.blS (S.okB ra le mo n r) (z + 1) := S.fiF_skip hlt h2
          rw [e, show S.blB (S.okB ra le mo n r) z = S.blB (S.okB ra le mo n r) (z + 1) by unfold S.blB; rw [e]] at hL
          exact hL
      · have hlt : 8 ≤ z := by simp at h1; omega
        have e : S.blS (S.okB ra le mo n r) z = z := S.fiF_end hlt
        rw [show S.blB (S.okB ra le mo n r) z = false by unfold S.blB; rw [e]; exact decide_eq_false (by omega)] at hL
        exact Has.out (l := [(.o (.o .h), v255)]) (.cons (by kernel_rfl) rfl (.nil (ex := _) rfl rfl)) (Nat.zero_le _) hL
theorem fc_water_leastBlame (ra le mo : Int) (n : Nat) (r : S.Rows) (hn : n ≤ 30) (hR : S.allR n r) (hra : 0 ≤ ra ∧ ra ≤ 1000) : FCall (cs3 hbs) f_water_leastBlame [.ag (gC ra le mo n (S.val r))] (.c (.p (.int .u64 (S.bl (S.okB ra le mo n r))))) [] :=
  fcall_k hT3 (F := F_water_leastBlame) rfl (vc_water_leastBlame ra le mo n r _) ⟨go_water_leastBlame1 hT0 hT2 hT3 925 ra le mo n r hn hR hra 0 _ (Nat.zero_le _) (.cons (by kernel_rfl) rfl (.cons (by kernel_rfl) rfl (.cons (by kernel_rfl) rfl (.nil rfl rfl)))), brP (fun h => by
      have hs : S.blS (S.okB ra le mo n r) 0 < 8 := of_decide_eq_true h
      have hi : S.inS (S.okB ra le mo n r) (S.blS (S.okB ra le mo n r) 0) 0 < 256 := of_decide_eq_true (S.fiF_lt (p := S.szB (S.okB ra le mo n r)) hs)
      rw [S.cmp255_eq hi, show S.bl (S.okB ra le mo n r) = 255 - S.inS (S.okB ra le mo n r) (S.blS (S.okB ra le mo n r) 0) 0 by unfold S.bl; rw [h]; rfl]
      rfl) fun h => by
      rw [show S.bl (S.okB ra le mo n r) = 255 by unfold S.bl; rw [h]]
      rfl⟩
omit hT2
theorem go_water_Blame (fu : Nat) (ra le mo : Int) (n : Nat) (r : S.Rows) (x : Nat) (hx : x < 256) : ∀ (z : Nat) (st : St), z ≤ 8 → (∃ ρ, HasR 0 ρ st [(.i (.o (.i .h)), .c (.p (.int .i64 z))), (.i (.o .h), .c (.sl 1 0 (S.buN x z))), (.o (.i .h), .c (.p (.int .u64 x)))] (hdU ra le mo n r x z)) →
    LoopGo (ex (cs3 hbs) (fu + 60)) 0 m_water_Blame_l1 st (.e (.exit 0) ⟨setAll [(.i (.o .h), .c (.sl 1 0 (S.buN x 8)))], hdU ra le mo n r x 8⟩) :=
  loop_kR (σ := Nat) (fun z => [(.i (.o (.i .h)), .c (.p (.int .i64 z))), (.i (.o .h), .c (.sl 1 0 (S.buN x z))), (.o (.i .h), .c (.p (.int .u64 x)))]) (fun z => hdU ra le mo n r x z) (fun z => z ≤ 8) (fun z => 8 - z)
    (fun _ => .e (.exit 0) ⟨setAll [(.i (.o .h), .c (.sl 1 0 (S.buN x 8)))], hdU ra le mo n r x 8⟩) _ (fun z Q => vs_water_Blame (hbs := hbs) fu z (S.buN x z) ra le mo n r x (S.buR x z) Q) fun z hz' K hL X hX => by
      refine brP (fun h1 => ?_) fun h1 => ?_
      · have hlt : z < 8 := by simp at h1; omega
        have hk : S.buN x z ≤ z := by unfold S.buN S.bitU; exact Nat.le_trans (List.length_filter_le _ _) (by simp)
        refine ⟨fc_has hT0 x z hx hlt, brP (fun h2 => cdP (Nat.le_refl _) (cdP (Nat.le_refl _) (cdP (by simp [Cd.holds]; omega) (cdP (i64_of (by omega) (by omega)) ?_)))) fun h2 => cdP (i64_of (by omega) (by omega)) ?_⟩
        · have k1 := S.buN_t h2
          refine hX (z + 1) _ (by omega) (by omega) ⟨[some 0, some 2], HasR.mk _ rfl rfl ?_ ?_⟩ hL
          · simp [WH, WB, WL, WA, WC, WP', upsB, memB, gC, hdU, k1]
            exact fun j hj => by simpa using app_bu (c := 0) h2 hj (by omega)
          · simp [LiveR, WA, WC, WP', Tr.get, k1]
        · obtain ⟨k1, k2⟩ := S.buN_f h2
          refine hX (z + 1) _ (by omega) (by omega) ⟨[some 0, some 1], HasR.mk _ rfl rfl ?_ ?_⟩ hL
          · simp [WH, WB, WL, WA, WC, WP', upsB, memB, gC, hdU, k1, k2]
          · simp [LiveR, WA, WC, WP', Tr.get, k1]
      · have hlt : 8 ≤ z := by simp at h1; omega
        obtain rfl : z = 8 := by omega
        refine HasR.out (l := [(.i (.o .h), .c (.sl 1 0 (S.buN x 8)))]) (HasR.mk (ρ := [some 0, some 1]) rfl rfl ?_ ?_) hL
        · simp [WH, WB, WL, WA, WC, WP', upsB, memB, gC, hdU]
        · simp [LiveR, WA, WC, WP', Tr.get]
include hT2
theorem fc_water_Blame (hk : TabOk (cs hbs)) (ra le mo : Int) (n : Nat) (r : S.Rows) (hn : n ≤ maxLen) : FCall (cs3 hbs) f_water_Blame [.ag (gC ra le mo n (S.val r))] (.tp [.c (.p (.isl 1 (S.bmN ra le mo n r) (S.val (S.bitR (S.bl (S.okB ra le mo n r)))))), .c (.p (.int .i64 (S.knE ra le mo n r)))]) [] := by
  have kn := FCall.cfg (C := cs hbs) (C' := cs3 hbs) rfl rfl (fc_water_Known hk ra le mo n r hn)
  cases hg : S.ggB ra le mo n r (-100000) 100000 with
  | false =>
    rw [S.knE_f hg, show S.bmN ra le mo n r = 0 by unfold S.bmN; rw [hg]]
    rw [S.knE_f hg] at kn
    have h : FCall (cs3 hbs) f_water_Blame [.ag (gC ra le mo n (S.val r))] (.tp [.c (.p .nsl), .c (.p (.int .i64 2))]) [] :=
      fcall_k hT3 (F := F_water_Blame) rfl (vc_water_Blame ra le mo n r _) ⟨by rw [S.knE_f hg]; exact kn, by
        rw [S.knE_f hg]
        exact brP (fun _ => rfl) fun h => absurd h (by decide)⟩
    exact h.weak [] rfl (by simp [WH]) (by simp [WAs, WA, WL, WC, WP'])
  | true =>
    have hR := S.ggB_all hg
    obtain ⟨hra, _, hn3, _⟩ := S.ggB_in hg
    have hbl : S.bl (S.okB ra le mo n r) < 256 := by unfold S.bl; split <;> (try unfold S.blX) <;> omega
    rw [S.knE_t hg, show S.bmN ra le mo n r = S.pc (S.bl (S.okB ra le mo n r)) by unfold S.bmN; rw [hg]]
    rw [S.knE_t hg] at kn
    exact fcall_k hT3 (F := F_water_Blame) rfl (vc_water_Blame ra le mo n r _) ⟨by rw [S.knE_t hg]; exact kn, by
        rw [S.knE_t hg]
        exact brP (fun h => absurd h (by decide)) fun _ => ⟨fc_water_leastBlame hT0 hT2 hT3 ra le mo n r hn3 hR hra, go_water_Blame hT0 hT3 932 ra le mo n r _ hbl 0 _ (Nat.zero_le _) ⟨[some 0, none], HasR.mk _ rfl rfl (by simp [WH, WB, WL, WA, WC, WP', upsB, memB, gC, hdU, S.buN, S.bitU]) (by simp [LiveR, WA, WC, WP', Tr.get, S.buN, S.bitU])⟩, by simp [frzA, frzAs, frzL, frzC]; exact ⟨rfl, rfl⟩⟩⟩
omit hT0
end
section
variable {hbs : BsOk Tryd.prog}
theorem vs_law01_WaterBlamed1 (fu t : Nat) (ra le mo : Int) (n : Nat) (r : S.Rows) (nu : Nat) (u : S.Rows) (b v : Int) (c : S.Rows) (Q : AX → St → Prop) :
 ((BrP (decide (((t : Nat) : Int) ≤ (1440 : Int)))
 (CdP (.le t t)
  (CdP (.le t t)
  (CdP (.le ((t + 1) * 8) 140737488355328)
  (BrP (decide (((nu : Nat) : Int) > (0 : Int)))
  (CdP (.i64 ((0 : Int) - ra))
   (CdP (.ne ((nu : Nat) : Int))
   (CdP (.rng (Int.tmod ((t : Nat) : Int) ((nu : Nat) : Int)) nu)
   (CdP (.i64 (v + (S.mx ((0 : Int) - ra) (S.mn ra (u (Int.toNat (Int.tmod ((t : Nat) : Int) ((nu : Nat) : Int))) 0)))))
   (CdP (.i64 (((t : Nat) : Int) + (1 : Int)))
   (Q .normal ⟨(.nd (.nd (.nd (.nd (.nd (.nd (.nd .lf (.c (.p (.int .i64 (Int.tmod ((t : Nat) : Int) ((nu : Nat) : Int))))) .lf) .any .lf) .any (.nd .lf (.c (.sl 1 0 t)) .lf)) .any (.nd (.nd (.nd .lf (.c (.p (.int .i64 mo))) .lf) .any .lf) .any (.nd .lf (.c (.p (.int .i64 ra))) .lf))) (.c (.p (.int .i64 b))) (.nd (.nd (.nd (.nd .lf (.c (.p (.int .i64 (S.mx ((0 : Int) - ra) (S.mn ra (u (Int.toNat (Int.tmod ((t : Nat) : Int) ((nu : Nat) : Int))) 0)))))) .lf) .any .lf) .any (.nd .lf (.c (.p (.isl 1 nu (S.val u)))) .lf)) (.c (.p (.int .i64 (((t : Nat) : Int) + (1 : Int))))) (.nd (.nd (.nd .lf (.c (.p (.int .i64 (S.mn mo (v + (S.mx ((0 : Int) - ra) (S.mn ra (u (Int.toNat (Int.tmod ((t : Nat) : Int) ((nu : Nat) : Int))) 0)))))))) .lf) (.c (.p (.int .i64 ((t : Nat) : Int)))) .lf) .any (.nd .lf (.c (.p (.isl 1 nu (S.val u)))) .lf)))) .any (.nd (.nd (.nd (.nd (.nd .lf (.c (.p (.int .i64 (u (Int.toNat (Int.tmod ((t : Nat) : Int) ((nu : Nat) : Int))) 0)))) .lf) .any .lf) .any (.nd .lf (.c (.p (.isl 1 1 (fun x13 => (fun x14 => (List.getD [(.int .i64 v)] ((x13 * 1) + x14) .npt)))))) .lf)) (.c (.sl 2 0 (t + 1))) (.nd (.nd (.nd .lf (.c (.p (.int .i64 (S.mx ((0 : Int) - ra) (S.mn ra (u (Int.toNat (Int.tmod ((t : Nat) : Int) ((nu : Nat) : Int))) 0)))))) .lf) .any .lf) .any (.nd .lf (.c (.pt 0 0)) .lf))) .any (.nd (.nd (.nd (.nd .lf (.c (.p (.int .i64 le))) .lf) .any .lf) .any (.nd .lf (.c (.p (.bool true))) .lf)) .any (.nd (.nd .lf (.c (.p (.int .i64 ((t : Nat) : Int)))) .lf) .any (.nd .lf (.c (.p (.isl 1 nu (S.val u)))) .lf))))) .any (.nd (.nd (.nd (.nd (.nd (.nd .lf (.c (.p (.ipt 1 (S.val u (Int.toNat (Int.tmod ((t : Nat) : Int) ((nu : Nat) : Int))))))) .lf) .any .lf) .any (.nd .lf (.c (.p (.int .i64 v))) .lf)) .any (.nd (.nd (.nd .lf (.c (.p (.int .i64 v))) .lf) .any .lf) .any (.nd .lf (.c (.p (.int .i64 ((0 : Int) - ra)))) .lf))) (.c (.pt 0 0)) (.nd (.nd (.nd (.nd .lf (.c (.pt 0 1)) .lf) .any .lf) .any (.nd .lf (.c (.p (.int .i64 ((nu : Nat) : Int)))) .lf)) (.c (.p (.int .i64 (S.mx ((0 : Int) - ra) (S.mn ra (u (Int.toNat (Int.tmod ((t : Nat) : Int) ((nu : Nat) : Int))) 0)))))) (.nd (.nd (.nd .lf (.c (.p (.int .i64 (S.mx le (S.mn mo (v + (S.mx ((0 : Int) - ra) (S.mn ra (u (Int.toNat (Int.tmod ((t : Nat) : Int) ((nu : Nat) : Int))) 0))))))))) .lf) (.c (.p (.bool true))) .lf) .any (.nd .lf (.c (.p (.int .i64 ((t : Nat) : Int)))) .lf)))) (.c (.p (.isl 1 nu (S.val u)))) (.nd (.nd (.nd (.nd (.nd .lf (.c (.p (.int .i64 (S.mn ra (u (Int.toNat (Int.tmod ((t : Nat) : Int) ((nu : Nat) : Int))) 0))))) .lf) .any .lf) .any (.nd .lf (.c (.sl 2 0 (t + 1))) .lf)) (.c (.p (.int .i64 (S.mx le (S.mn mo (v + (S.mx ((0 : Int) - ra) (S.mn ra (u (Int.toNat (Int.tmod ((t : Nat) : Int) ((nu : Nat) : Int))) 0))))))))) (.nd (.nd (.nd .lf (.c (.p (.int .i64 (v + (S.mx ((0 : Int) - ra) (S.mn ra (u (Int.toNat (Int.tmod ((t : Nat) : Int) ((nu : Nat) : Int))) 0))))))) .lf) .any .lf) .any (.nd .lf (.c (.p (.int .i64 ra))) .lf))) .any (.nd (.nd (.nd (.nd .lf (.c (.pt 0 2)) .lf) .any .lf) .any (.nd .lf (.c (.pt 0 0)) .lf)) .any (.nd (.nd .lf (.c (.p (.int .i64 (((t : Nat) : Int) + (1 : Int))))) .lf) .any (.nd .lf (.c (.p (.int .i64 ((nu : Nat) : Int)))) .lf)))))), [(some (.box t_api_Gauge [(.p (.int .i64 ra)), (.p (.int .i64 le)), (.p (.int .i64 mo)), (.p (.isl 4 n (S.val r)))])), (some (.arr 1 3 t (S.val c) [])), (some (.arr 1 3 (t + 1) (fun x13 => (fun x14 => (if (x13 < t) then (.int .i64 (c x13 x14)) else (List.getD [(.int .i64 v)] (((x13 - t) * 1) + x14) .npt)))) [1]))]⟩))))))
  (CdP (.i64 (v + (0 : Int)))
   (CdP (.i64 (((t : Nat) : Int) + (1 : Int)))
   (Q .normal ⟨(.nd (.nd (.nd (.nd (.nd .lf .any (.nd .lf (.c (.sl 1 0 t)) .lf)) .any (.nd (.nd (.nd .lf (.c (.p (.int .i64 mo))) .lf) .any .lf) .any .lf)) (.c (.p (.int .i64 b))) (.nd (.nd .lf .any (.nd .lf (.c (.p (.isl 1 nu (S.val u)))) .lf)) (.c (.p (.int .i64 (((t : Nat) : Int) + (1 : Int))))) (.nd (.nd (.nd .lf (.c (.p (.int .i64 (S.mn mo (v + (0 : Int)))))) .lf) (.c (.p (.int .i64 ((t : Nat) : Int)))) .lf) .any .lf))) .any (.nd (.nd (.nd .lf .any (.nd .lf (.c (.p (.isl 1 1 (fun x13 => (fun x14 => (List.getD [(.int .i64 v)] ((x13 * 1) + x14) .npt)))))) .lf)) (.c (.sl 2 0 (t + 1))) (.nd (.nd (.nd .lf (.c (.p (.int .i64 (0 : Int)))) .lf) .any .lf) .any .lf)) .any (.nd (.nd (.nd (.nd .lf (.c (.p (.int .i64 le))) .lf) .any .lf) .any (.nd .lf (.c (.p (.bool false))) .lf)) .any (.nd (.nd .lf (.c (.p (.int .i64 ((t : Nat) : Int)))) .lf) .any .lf)))) .any (.nd (.nd (.nd (.nd .lf .any (.nd .lf (.c (.p (.int .i64 v))) .lf)) .any (.nd (.nd (.nd .lf (.c (.p (.int .i64 v))) .lf) .any .lf) .any .lf)) (.c (.pt 0 0)) (.nd (.nd (.nd (.nd .lf (.c (.pt 0 1)) .lf) .any .lf) .any (.nd .lf (.c (.p (.int .i64 ((nu : Nat) : Int)))) .lf)) (.c (.p (.int .i64 (0 : Int)))) (.nd (.nd (.nd .lf (.c (.p (.int .i64 (S.mx le (S.mn mo (v + (0 : Int))))))) .lf) (.c (.p (.bool true))) .lf) .any .lf))) (.c (.p (.isl 1 nu (S.val u)))) (.nd (.nd (.nd .lf .any (.nd .lf (.c (.sl 2 0 (t + 1))) .lf)) (.c (.p (.int .i64 (S.mx le (S.mn mo (v + (0 : Int))))))) (.nd (.nd (.nd .lf (.c (.p (.int .i64 (v + (0 : Int))))) .lf) .any .lf) .any .lf)) .any (.nd (.nd (.nd (.nd .lf (.c (.pt 0 2)) .lf) .any .lf) .any .lf) .any (.nd (.nd .lf (.c (.p (.int .i64 (((t : Nat) : Int) + (1 : Int))))) .lf) .any .lf))))), [(some (.box t_api_Gauge [(.p (.int .i64 ra)), (.p (.int .i64 le)), (.p (.int .i64 mo)), (.p (.isl 4 n (S.val r)))])), (some (.arr 1 3 t (S.val c) [])), (some (.arr 1 3 (t + 1) (fun x13 => (fun x14 => (if (x13 < t) then (.int .i64 (c x13 x14)) else (List.getD [(.int .i64 v)] (((x13 - t) * 1) + x14) .npt)))) [1]))]⟩)))))))
 (Q (.exit 0) ⟨(.nd (.nd (.nd .lf (.c (.p (.int .i64 b))) (.nd .lf (.c (.p (.int .i64 ((t : Nat) : Int)))) (.nd (.nd .lf (.c (.p (.int .i64 ((t : Nat) : Int)))) .lf) .any .lf))) .any (.nd (.nd .lf (.c (.sl 1 0 t)) .lf) .any .lf)) .any (.nd (.nd .lf (.c (.pt 0 0)) (.nd .lf .any (.nd (.nd .lf (.c (.p (.bool false))) .lf) .any .lf))) (.c (.p (.isl 1 nu (S.val u)))) (.nd (.nd .lf (.c (.p (.int .i64 v))) .lf) .any .lf))), [(some (.box t_api_Gauge [(.p (.int .i64 ra)), (.p (.int .i64 le)), (.p (.int .i64 mo)), (.p (.isl 4 n (S.val r)))])), (some (.arr 1 3 t (S.val c) []))]⟩))) = (ex (cs4 hbs) (fu + 60) 0 m_law01_WaterBlamed_l1 ⟨setAll [(.o (.o .h), .c (.p (.int .i64 b))), (.o (.o (.i .h)), .c (.p (.int .i64 t))), (.o (.i (.o .h)), .c (.sl 1 0 t)), (.i .h, .c (.p (.isl 1 nu (S.val u)))), (.i (.o .h), .c (.pt 0 0)), (.i (.i (.o .h)), .c (.p (.int .i64 v)))], [some (.box t_api_Gauge (gC ra le mo n (S.val r))), some (.arr 1 t_int t (S.val c) [])]⟩ (fun e s => .pr (Q e s))).hold2 := by kernel_rfl
theorem vs_law01_WaterBlamed2 (fu i k b : Nat) (ra le mo : Int) (n : Nat) (r : S.Rows) (c l : S.Rows) (Q : AX → St → Prop) :
 ((BrP (decide (((i : Nat) : Int) < (8 : Int)))
 (BrP ((bitsI .and .i64 (Int.fdiv ((b : Nat) : Int) ((2 : Int) ^ (min i 64))) (1 : Int)) == (1 : Int))
  (CdP (.le k k)
   (CdP (.le k k)
   (CdP (.le ((k + 1) * 8) 140737488355328)
   (CdP (.i64 (((i : Nat) : Int) + (1 : Int)))
   (Q .normal ⟨(.nd (.nd (.nd (.nd (.nd .lf .any (.nd (.nd .lf (.c (.p (.int .i64 ((i : Nat) : Int)))) .lf) .any .lf)) .any (.nd .lf .any (.nd (.nd .lf (.c (.p (.int .i64 ((i : Nat) : Int)))) .lf) .any .lf))) (.c (.p (.int .i64 ((b : Nat) : Int)))) (.nd (.nd .lf .any (.nd (.nd .lf (.c (.p (.int .i64 (Int.fdiv ((b : Nat) : Int) ((2 : Int) ^ (min i 64)))))) .lf) .any .lf)) .any .lf)) .any (.nd (.nd (.nd .lf .any (.nd (.nd .lf (.c (.p (.int .i64 ((b : Nat) : Int)))) .lf) .any .lf)) (.c (.sl 1 0 1441)) (.nd .lf .any (.nd (.nd .lf (.c (.sl 3 0 (k + 1))) .lf) .any .lf))) .any (.nd (.nd .lf .any (.nd (.nd .lf (.c (.p (.bool true))) .lf) .any .lf)) (.c (.sl 3 0 (k + 1))) (.nd (.nd (.nd .lf (.c (.p (.int .i64 ((i : Nat) : Int)))) .lf) .any .lf) .any .lf)))) .any (.nd (.nd (.nd (.nd .lf .any (.nd (.nd .lf (.c (.p (.int .i64 (((i : Nat) : Int) + (1 : Int))))) .lf) .any .lf)) .any (.nd .lf .any (.nd (.nd .lf (.c (.p (.isl 1 1 (fun x12 => (fun x13 => (List.getD [(.int .i64 ((i : Nat) : Int))] ((x12 * 1) + x13) .npt)))))) .lf) .any .lf))) (.c (.pt 0 0)) (.nd (.nd .lf .any (.nd (.nd .lf (.c (.p (.int .i64 (bitsI .and .i64 (Int.fdiv ((b : Nat) : Int) ((2 : Int) ^ (min i 64))) (1 : Int))))) .lf) .any .lf)) .any .lf)) .any (.nd (.nd (.nd .lf .any (.nd (.nd .lf (.c (.p (.int .i64 ((i : Nat) : Int)))) .lf) .any .lf)) .any .lf) .any (.nd (.nd .lf .any (.nd (.nd .lf (.c (.sl 2 0 k)) .lf) .any .lf)) (.c (.p (.int .i64 (((i : Nat) : Int) + (1 : Int))))) (.nd (.nd (.nd .lf (.c (.p (.bool true))) .lf) .any .lf) .any .lf))))), [(some (.box t_api_Gauge [(.p (.int .i64 ra)), (.p (.int .i64 le)), (.p (.int .i64 mo)), (.p (.isl 4 n (S.val r)))])), (some (.arr 1 3 1441 (S.val c) [])), (some (.arr 1 3 k (S.val l) [])), (some (.arr 1 3 (k + 1) (fun x12 => (fun x13 => (if (x12 < k) then (.int .i64 (l x12 x13)) else (List.getD [(.int .i64 ((i : Nat) : Int))] (((x12 - k) * 1) + x13) .npt)))) [2]))]⟩)))))
  (CdP (.i64 (((i : Nat) : Int) + (1 : Int)))
   (Q .normal ⟨(.nd (.nd (.nd (.nd (.nd .lf .any (.nd (.nd .lf (.c (.p (.int .i64 ((i : Nat) : Int)))) .lf) .any .lf)) .any .lf) (.c (.p (.int .i64 ((b : Nat) : Int)))) (.nd (.nd .lf .any (.nd (.nd .lf (.c (.p (.int .i64 (Int.fdiv ((b : Nat) : Int) ((2 : Int) ^ (min i 64)))))) .lf) .any .lf)) .any .lf)) .any (.nd (.nd (.nd .lf .any (.nd (.nd .lf (.c (.p (.int .i64 ((b : Nat) : Int)))) .lf) .any .lf)) (.c (.sl 1 0 1441)) .lf) .any (.nd (.nd .lf .any (.nd (.nd .lf (.c (.p (.bool false))) .lf) .any .lf)) (.c (.sl 2 0 k)) (.nd (.nd (.nd .lf (.c (.p (.int .i64 ((i : Nat) : Int)))) .lf) .any .lf) .any .lf)))) .any (.nd (.nd (.nd (.nd .lf .any (.nd (.nd .lf (.c (.p (.int .i64 (((i : Nat) : Int) + (1 : Int))))) .lf) .any .lf)) .any .lf) (.c (.pt 0 0)) (.nd (.nd .lf .any (.nd (.nd .lf (.c (.p (.int .i64 (bitsI .and .i64 (Int.fdiv ((b : Nat) : Int) ((2 : Int) ^ (min i 64))) (1 : Int))))) .lf) .any .lf)) .any .lf)) .any (.nd (.nd (.nd .lf .any (.nd (.nd .lf (.c (.p (.int .i64 ((i : Nat) : Int)))) .lf) .any .lf)) .any .lf) .any (.nd .lf (.c (.p (.int .i64 (((i : Nat) : Int) + (1 : Int))))) (.nd (.nd (.nd .lf (.c (.p (.bool true))) .lf) .any .lf) .any .lf))))), [(some (.box t_api_Gauge [(.p (.int .i64 ra)), (.p (.int .i64 le)), (.p (.int .i64 mo)), (.p (.isl 4 n (S.val r)))])), (some (.arr 1 3 1441 (S.val c) [])), (some (.arr 1 3 k (S.val l) []))]⟩)))
 (Q (.exit 2) ⟨(.nd (.nd (.nd .lf (.c (.p (.int .i64 ((b : Nat) : Int)))) .lf) .any (.nd (.nd .lf (.c (.sl 1 0 1441)) .lf) .any (.nd .lf (.c (.sl 2 0 k)) (.nd (.nd (.nd .lf (.c (.p (.int .i64 ((i : Nat) : Int)))) .lf) .any .lf) .any .lf)))) .any (.nd (.nd .lf (.c (.pt 0 0)) .lf) .any (.nd .lf .any (.nd .lf (.c (.p (.int .i64 ((i : Nat) : Int)))) (.nd (.nd (.nd .lf (.c (.p (.bool false))) .lf) .any .lf) .any .lf))))), [(some (.box t_api_Gauge [(.p (.int .i64 ra)), (.p (.int .i64 le)), (.p (.int .i64 mo)), (.p (.isl 4 n (S.val r)))])), (some (.arr 1 3 1441 (S.val c) [])), (some (.arr 1 3 k (S.val l) []))]⟩))) = (ex (cs4 hbs) (fu + 60) 0 m_law01_WaterBlamed_l2 ⟨setAll [(.i (.i (.i .h)), .c (.p (.int .i64 i))), (.i (.o .h), .c (.pt 0 0)), (.o (.i (.i .h)), .c (.sl 2 0 k)), (.o (.i (.o .h)), .c (.sl 1 0 1441)), (.o (.o .h), .c (.p (.int .i64 b)))], [some (.box t_api_Gauge (gC ra le mo n (S.val r))), some (.arr 1 t_int 1441 (S.val c) []), some (.arr 1 t_int k (S.val l) [])]⟩ (fun e s => .pr (Q e s))).hold2 := by kernel_rfl
theorem vc_law01_WaterBlamed (ra le mo : Int) (n : Nat) (r : S.Rows) (fr : Int) (nu : Nat) (u : S.Rows) (b : Int) (Q : AV → Heap → Prop) :
 (((FCall (cs4 hbs) f_ref01_Gauge [(.ag [(.p (.int .i64 ra)), (.p (.int .i64 le)), (.p (.int .i64 mo)), (.p (.isl 4 n (S.val r)))])] (.c (.p (.bool (S.ggB ra le mo n r (-(100000 : Int)) (100000 : Int))))) []) ∧
 (BrP (S.ggB ra le mo n r (-(100000 : Int)) (100000 : Int))
 (BrP (decide (((nu : Nat) : Int) > (50 : Int)))
  ((FCall (cs4 hbs) f_law01_known [] (.c (.p (.bool true))) []) ∧
   (Q (.c (.p (.bool true))) [(some (.box t_api_Gauge [(.p (.int .i64 ra)), (.p (.int .i64 le)), (.p (.int .i64 mo)), (.p (.isl 4 n (S.val r)))]))]))
  (BrP (decide (b < (0 : Int)))
   ((FCall (cs4 hbs) f_law01_known [] (.c (.p (.bool true))) []) ∧
    (Q (.c (.p (.bool true))) [(some (.box t_api_Gauge [(.p (.int .i64 ra)), (.p (.int .i64 le)), (.p (.int .i64 mo)), (.p (.isl 4 n (S.val r)))]))]))
   (BrP (decide (b > (255 : Int)))
    ((FCall (cs4 hbs) f_law01_known [] (.c (.p (.bool true))) []) ∧
     (Q (.c (.p (.bool true))) [(some (.box t_api_Gauge [(.p (.int .i64 ra)), (.p (.int .i64 le)), (.p (.int .i64 mo)), (.p (.isl 4 n (S.val r)))]))]))
    ((LoopGo (ex (cs4 hbs) 992) 0 m_law01_WaterBlamed_l1 ⟨(.nd (.nd (.nd (.nd (.nd (.nd .lf (.c (.p (.bool false))) .lf) .any .lf) .any (.nd (.nd .lf (.c (.p (.int .i64 mo))) .lf) (.c (.p (.isl 1 nu (S.val u)))) .lf)) (.c (.p (.int .i64 b))) (.nd (.nd .lf (.ag [(.p (.int .i64 ra)), (.p (.int .i64 le)), (.p (.int .i64 mo)), (.p (.isl 4 n (S.val r)))]) .lf) (.c (.p (.int .i64 (0 : Int)))) (.nd .lf (.c (.p (.bool false))) .lf))) (.c (.p (.int .i64 fr))) (.nd (.nd (.nd (.nd .lf (.c (.p (.bool false))) .lf) .any .lf) (.c (.p .nsl)) (.nd (.nd .lf (.c (.p (.int .i64 (S.mn mo fr)))) .lf) (.c (.p (.bool false))) .lf)) .any (.nd (.nd (.nd .lf (.c (.p (.int .i64 le))) .lf) (.c (.p (.bool false))) .lf) .any (.nd .lf (.c (.p (.bool false))) .lf)))) (.ag [(.p (.int .i64 ra)), (.p (.int .i64 le)), (.p (.int .i64 mo)), (.p (.isl 4 n (S.val r)))]) (.nd (.nd (.nd (.nd (.nd .lf (.c (.p (.int .i64 b))) .lf) .any .lf) (.c (.p (.bool false))) (.nd (.nd .lf (.c (.p (.int .i64 fr))) .lf) (.c (.p (.int .i64 ((nu : Nat) : Int)))) .lf)) (.c (.pt 0 0)) (.nd (.nd (.nd .lf (.c (.pt 0 1)) .lf) (.c (.p (.bool true))) .lf) .any (.nd .lf (.c (.p (.int .i64 b))) .lf))) (.c (.p (.isl 1 nu (S.val u)))) (.nd (.nd (.nd (.nd .lf (.c (.p (.bool false))) .lf) .any .lf) (.c (.p (.int .i64 (S.mx le (S.mn mo fr))))) (.nd (.nd .lf (.c (.p (.int .i64 (S.mx le (S.mn mo fr))))) .lf) (.c (.p (.bool false))) .lf)) .any (.nd (.nd (.nd .lf (.c (.pt 0 2)) .lf) (.c (.p (.bool false))) .lf) .any (.nd .lf (.c (.p (.bool false))) .lf))))), [(some (.box t_api_Gauge [(.p (.int .i64 ra)), (.p (.int .i64 le)), (.p (.int .i64 mo)), (.p (.isl 4 n (S.val r)))]))]⟩ (.e (.exit 0) ⟨(.nd (.nd (.nd .lf (.c (.p (.int .i64 b))) .lf) .any (.nd (.nd .lf (.c (.sl 1 0 1441)) .lf) .any .lf)) .any (.nd (.nd .lf (.c (.pt 0 0)) .lf) .any .lf)), [(some (.box t_api_Gauge [(.p (.int .i64 ra)), (.p (.int .i64 le)), (.p (.int .i64 mo)), (.p (.isl 4 n (S.val r)))])), (some (.arr 1 3 1441 (S.val (S.crs ra le mo nu u (S.mx le (S.mn mo fr)))) []))]⟩)) ∧
     ((LoopGo (ex (cs4 hbs) 990) 0 m_law01_WaterBlamed_l2 ⟨(.nd (.nd (.nd .lf (.c (.p (.int .i64 b))) .lf) .any (.nd (.nd .lf (.c (.sl 1 0 1441)) .lf) .any (.nd .lf (.c (.p .nsl)) .lf))) .any (.nd (.nd .lf (.c (.pt 0 0)) .lf) .any (.nd .lf .any (.nd .lf (.c (.p (.int .i64 (0 : Int)))) .lf)))), [(some (.box t_api_Gauge [(.p (.int .i64 ra)), (.p (.int .i64 le)), (.p (.int .i64 mo)), (.p (.isl 4 n (S.val r)))])), (some (.arr 1 3 1441 (S.val (S.crs ra le mo nu u (S.mx le (S.mn mo fr)))) []))]⟩ (.e (.exit 2) ⟨(.nd (.nd .lf .any (.nd (.nd .lf (.c (.sl 1 0 1441)) .lf) .any (.nd .lf (.c (.p (.isl 1 (S.buN (S.rv (Int.toNat b)) 8) (S.val (S.buR (S.rv (Int.toNat b)) 8))))) .lf))) .any (.nd (.nd .lf (.c (.pt 0 0)) .lf) .any .lf)), [(some (.box t_api_Gauge [(.p (.int .i64 ra)), (.p (.int .i64 le)), (.p (.int .i64 mo)), (.p (.isl 4 n (S.val r)))])), (some (.arr 1 3 1441 (S.val (S.crs ra le mo nu u (S.mx le (S.mn mo fr)))) [])), none]⟩)) ∧
     ((FCall (cs4 hbs) f_ref01_Ignored [(.ag [(.p (.int .i64 ra)), (.p (.int .i64 le)), (.p (.int .i64 mo)), (.p (.isl 4 n (S.val r)))]), (.c (.p (.isl 1 (S.buN (S.rv (Int.toNat b)) 8) (S.val (S.buR (S.rv (Int.toNat b)) 8)))))] (.ag [(.p (.int .i64 ra)), (.p (.int .i64 le)), (.p (.int .i64 mo)), (.p (.isl 4 (S.kpN (S.qL (S.buN (S.rv (Int.toNat b)) 8) (S.buR (S.rv (Int.toNat b)) 8)) r n) (S.val (S.kpR (S.qL (S.buN (S.rv (Int.toNat b)) 8) (S.buR (S.rv (Int.toNat b)) 8)) r n))))]) []) ∧
     ((FCall (cs4 hbs) f_ref01_Fits [(.ag [(.p (.int .i64 ra)), (.p (.int .i64 le)), (.p (.int .i64 mo)), (.p (.isl 4 (S.kpN (S.qL (S.buN (S.rv (Int.toNat b)) 8) (S.buR (S.rv (Int.toNat b)) 8)) r n) (S.val (S.kpR (S.qL (S.buN (S.rv (Int.toNat b)) 8) (S.buR (S.rv (Int.toNat b)) 8)) r n))))]), (.c (.p (.isl 1 1441 (fun x10 => (fun x11 => (.int .i64 (S.crs ra le mo nu u (S.mx le (S.mn mo fr)) (0 + x10) x11)))))))] (.c (.p (.bool (S.fit ra le mo (S.kpN (S.qL (S.buN (S.rv (Int.toNat b)) 8) (S.buR (S.rv (Int.toNat b)) 8)) r n) (S.kpR (S.qL (S.buN (S.rv (Int.toNat b)) 8) (S.buR (S.rv (Int.toNat b)) 8)) r n) 1441 (S.num (fun x10 => (fun x11 => (.int .i64 (S.crs ra le mo nu u (S.mx le (S.mn mo fr)) (0 + x10) x11))))))))) []) ∧
     (BrP (S.fit ra le mo (S.kpN (S.qL (S.buN (S.rv (Int.toNat b)) 8) (S.buR (S.rv (Int.toNat b)) 8)) r n) (S.kpR (S.qL (S.buN (S.rv (Int.toNat b)) 8) (S.buR (S.rv (Int.toNat b)) 8)) r n) 1441 (S.num (fun x10 => (fun x11 => (.int .i64 (S.crs ra le mo nu u (S.mx le (S.mn mo fr)) (0 + x10) x11))))))
     ((FCall (cs4 hbs) f_water_Blame [(.ag [(.p (.int .i64 ra)), (.p (.int .i64 le)), (.p (.int .i64 mo)), (.p (.isl 4 n (S.val r)))])] (.tp [(.c (.p (.isl 1 (S.bmN ra le mo n r) (S.val (S.bitR (S.bl (S.okB ra le mo n r))))))), (.c (.p (.int .i64 (S.knE ra le mo n r))))]) []) ∧
      (BrP ((S.knE ra le mo n r) != (0 : Int))
      (Q (.c (.p (.bool false))) [(some (.box t_api_Gauge [(.p (.int .i64 ra)), (.p (.int .i64 le)), (.p (.int .i64 mo)), (.p (.isl 4 n (S.val r)))])), (some (.arr 1 3 1441 (S.val (S.crs ra le mo nu u (S.mx le (S.mn mo fr)))) [])), none])
      (BrP (decide ((((S.bmN ra le mo n r) : Nat) : Int) > (((S.buN (S.rv (Int.toNat b)) 8) : Nat) : Int)))
       (Q (.c (.p (.bool false))) [(some (.box t_api_Gauge [(.p (.int .i64 ra)), (.p (.int .i64 le)), (.p (.int .i64 mo)), (.p (.isl 4 n (S.val r)))])), (some (.arr 1 3 1441 (S.val (S.crs ra le mo nu u (S.mx le (S.mn mo fr)))) [])), none])
       ((FCall (cs4 hbs) f_ref01_Ignored [(.ag [(.p (.int .i64 ra)), (.p (.int .i64 le)), (.p (.int .i64 mo)), (.p (.isl 4 n (S.val r)))]), (.c (.p (.isl 1 (S.bmN ra le mo n r) (S.val (S.bitR (S.bl (S.okB ra le mo n r)))))))] (.ag [(.p (.int .i64 ra)), (.p (.int .i64 le)), (.p (.int .i64 mo)), (.p (.isl 4 (S.kpN (S.qL (S.bmN ra le mo n r) (S.bitR (S.bl (S.okB ra le mo n r)))) r n) (S.val (S.kpR (S.qL (S.bmN ra le mo n r) (S.bitR (S.bl (S.okB ra le mo n r)))) r n))))]) []) ∧
        ((FCall (cs4 hbs) f_water_Bounds [(.ag [(.p (.int .i64 ra)), (.p (.int .i64 le)), (.p (.int .i64 mo)), (.p (.isl 4 (S.kpN (S.qL (S.bmN ra le mo n r) (S.bitR (S.bl (S.okB ra le mo n r)))) r n) (S.val (S.kpR (S.qL (S.bmN ra le mo n r) (S.bitR (S.bl (S.okB ra le mo n r)))) r n))))])] (.tp [(.c (.p (.isl 2 (S.bN ra le mo (S.kpN (S.qL (S.bmN ra le mo n r) (S.bitR (S.bl (S.okB ra le mo n r)))) r n) (S.kpR (S.qL (S.bmN ra le mo n r) (S.bitR (S.bl (S.okB ra le mo n r)))) r n)) (S.val (S.bdR ra le mo (S.kpN (S.qL (S.bmN ra le mo n r) (S.bitR (S.bl (S.okB ra le mo n r)))) r n) (S.kpR (S.qL (S.bmN ra le mo n r) (S.bitR (S.bl (S.okB ra le mo n r)))) r n)))))), (.c (.p (.int .i64 (S.bE ra le mo (S.kpN (S.qL (S.bmN ra le mo n r) (S.bitR (S.bl (S.okB ra le mo n r)))) r n) (S.kpR (S.qL (S.bmN ra le mo n r) (S.bitR (S.bl (S.okB ra le mo n r)))) r n)))))]) []) ∧
        (BrP ((S.bE ra le mo (S.kpN (S.qL (S.bmN ra le mo n r) (S.bitR (S.bl (S.okB ra le mo n r)))) r n) (S.kpR (S.qL (S.bmN ra le mo n r) (S.bitR (S.bl (S.okB ra le mo n r)))) r n)) == (0 : Int))
        (BrP ((((S.bN ra le mo (S.kpN (S.qL (S.bmN ra le mo n r) (S.bitR (S.bl (S.okB ra le mo n r)))) r n) (S.kpR (S.qL (S.bmN ra le mo n r) (S.bitR (S.bl (S.okB ra le mo n r)))) r n)) : Nat) : Int) == (1441 : Int))
         ((FCall (cs4 hbs) f_law01_known [] (.c (.p (.bool true))) []) ∧
          (Q (.c (.p (.bool true))) [(some (.box t_api_Gauge [(.p (.int .i64 ra)), (.p (.int .i64 le)), (.p (.int .i64 mo)), (.p (.isl 4 n (S.val r)))])), (some (.arr 1 3 1441 (S.val (S.crs ra le mo nu u (S.mx le (S.mn mo fr)))) [])), none]))
         (Q (.c (.p (.bool false))) [(some (.box t_api_Gauge [(.p (.int .i64 ra)), (.p (.int .i64 le)), (.p (.int .i64 mo)), (.p (.isl 4 n (S.val r)))])), (some (.arr 1 3 1441 (S.val (S.crs ra le mo nu u (S.mx le (S.mn mo fr)))) [])), none]))
        (Q (.c (.p (.bool false))) [(some (.box t_api_Gauge [(.p (.int .i64 ra)), (.p (.int .i64 le)), (.p (.int .i64 mo)), (.p (.isl 4 n (S.val r)))])), (some (.arr 1 3 1441 (S.val (S.crs ra le mo nu u (S.mx le (S.mn mo fr)))) [])), none])))))))
     ((FCall (cs4 hbs) f_law01_known [] (.c (.p (.bool true))) []) ∧
      (Q (.c (.p (.bool true))) [(some (.box t_api_Gauge [(.p (.int .i64 ra)), (.p (.int .i64 le)), (.p (.int .i64 mo)), (.p (.isl 4 n (S.val r)))])), (some (.arr 1 3 1441 (S.val (S.crs ra le mo nu u (S.mx le (S.mn mo fr)))) [])), none]))))))))))
 ((FCall (cs4 hbs) f_law01_known [] (.c (.p (.bool true))) []) ∧
  (Q (.c (.p (.bool true))) [(some (.box t_api_Gauge [(.p (.int .i64 ra)), (.p (.int .i64 le)), (.p (.int .i64 mo)), (.p (.isl 4 n (S.val r)))]))]))))) = (ex (cs4 hbs) 1000 0 m_law01_WaterBlamed ⟨ofL 0 [.ag (gC ra le mo n (S.val r)), .c (.p (.int .i64 fr)), .c (.p (.isl 1 nu (S.val u))), .c (.p (.int .i64 b))] .lf, []⟩ (endK F_law01_WaterBlamed.rs (fun r H => .pr (Q r H)) fun _ _ => .no)).hold2 := by kernel_rfl
end
theorem app_crs {ra le mo v : Int} {nu : Nat} {u : S.Rows} {i j c : Nat} (hj : j < i + 1) (hc : c < 1) : (if j < i then PV.int .i64 ((S.crs ra le mo nu u v) j c) else ([PV.int .i64 (S.nowF ra le mo nu u v i)] : List PV)[(j - i) * 1 + c]?.getD .npt) = S.val (S.crs ra le mo nu u v) j c := by
  split
  · rfl
  · obtain rfl : j = i := by omega
    obtain rfl : c = 0 := by omega
    rw [Nat.sub_self]
    rfl
section
variable {hbs : BsOk Tryd.prog} (hT0 : TabOk (c0 hbs)) (hT2 : TabOk (cs2 hbs)) (hT3 : TabOk (cs3 hbs)) (hT4 : TabOk (cs4 hbs))
include hT4
theorem go_law01_WaterBlamed1 (fu : Nat) (ra le mo : Int) (n : Nat) (r : S.Rows) (nu : Nat) (u : S.Rows) (b v : Int) (hra : 0 ≤ ra ∧ ra ≤ 1000) (hle : -100000 ≤ le ∧ le ≤ mo ∧ mo ≤ 100000) (hv : le ≤ v ∧ v ≤ mo) : ∀ (t : Nat) (st : St), t ≤ 1441 → (∃ ρ, HasR 0 ρ st [(.o (.o .h), .c (.p (.int .i64 b))), (.o (.o (.i .h)), .c (.p (.int .i64 t))), (.o (.i (.o .h)), .c (.sl 1 0 t)), (.i .h, .c (.p (.isl 1 nu (S.val u)))), (.i (.o .h), .c (.pt 0 0)), (.i (.i (.o .h)), .c (.p (.int .i64 (S.nowF ra le mo nu u v t))))] [some (.box t_api_Gauge (gC ra le mo n (S.val r))), some (.arr 1 t_int t (S.val (S.crs ra le mo nu u v)) [])]) →
    LoopGo (ex (cs4 hbs) (fu + 60)) 0 m_law01_WaterBlamed_l1 st (.e (.exit 0) ⟨setAll [(.i (.o .h), .c (.pt 0 0)), (.o (.i (.o .h)), .c (.sl 1 0 1441)), (.o (.o .h), .c (.p (.int .i64 b)))], [some (.box t_api_Gauge (gC ra le mo n (S.val r))), some (.arr 1 t_int 1441 (S.val (S.crs ra le mo nu u v)) [])]⟩) :=
  loop_kR (σ := Nat) (fun t => [(.o (.o .h), .c (.p (.int .i64 b))), (.o (.o (.i .h)), .c (.p (.int .i64 t))), (.o (.i (.o .h)), .c (.sl 1 0 t)), (.i .h, .c (.p (.isl 1 nu (S.val u)))), (.i (.o .h), .c (.pt 0 0)), (.i (.i (.o .h)), .c (.p (.int .i64 (S.nowF ra le mo nu u v t))))]) (fun t => [some (.box t_api_Gauge (gC ra le mo n (S.val r))), some (.arr 1 t_int t (S.val (S.crs ra le mo nu u v)) [])]) (fun t => t ≤ 1441) (fun t => 1441 - t)
    (fun _ => .e (.exit 0) ⟨setAll [(.i (.o .h), .c (.pt 0 0)), (.o (.i (.o .h)), .c (.sl 1 0 1441)), (.o (.o .h), .c (.p (.int .i64 b)))], [some (.box t_api_Gauge (gC ra le mo n (S.val r))), some (.arr 1 t_int 1441 (S.val (S.crs ra le mo nu u v)) [])]⟩) _ (fun t Q => vs_law01_WaterBlamed1 (hbs := hbs) fu t ra le mo n r nu u b (S.nowF ra le mo nu u v t) (S.crs ra le mo nu u v) Q) fun t ht K hL X hX => by
      have hb := S.now_in (ra := ra) (nu := nu) (u := u) hle.2.1 hv t
      refine brP (fun h1 => ?_) fun h1 => ?_
      · have hlt : t < 1441 := by simp at h1; omega
        refine cdP (Nat.le_refl _) (cdP (Nat.le_refl _) (cdP (by simp [Cd.holds]; omega) (brP (fun h2 => ?_) fun h2 => ?_)))
        · have hn : 0 < nu := by simp at h2; omega
          have ed : S.ddF ra nu u t = S.mx (0 - ra) (S.mn ra (u (Int.toNat (Int.tmod t nu)) 0)) := by
            unfold S.ddF
            split
            · omega
            · rw [Int.zero_sub]
          have e : S.nowF ra le mo nu u v (t + 1) = S.mx le (S.mn mo (S.nowF ra le mo nu u v t + S.mx (0 - ra) (S.mn ra (u (Int.toNat (Int.tmod t nu)) 0)))) := by
            rw [← ed]; rfl
          have hd := S.dd_in (nu := nu) (u := u) (t := t) hra.1
          rw [ed] at hd
          refine cdP (i64_of (by omega) (by omega)) (cdP (by show (nu : Int) ≠ 0; omega) (cdP ?_ (cdP (i64_of (by omega) (by omega)) (cdP (i64_of (by omega) (by omega)) ?_))))
          · have : Int.tmod (t : Int) nu = ((t % nu : Nat) : Int) := by
              rw [Int.tmod_eq_emod_of_nonneg (by omega)]
              norm_cast
            rw [this]
            exact idx_ok (Nat.mod_lt _ hn)
          refine hX (t + 1) _ (by omega) (by omega) ⟨[some 0, some 2], HasR.mk _ rfl rfl ?_ ?_⟩ hL
          · simp [WH, WB, WL, WA, WC, WP', upsB, memB, gC]
            exact fun j hj => by simpa using app_crs (c := 0) (ra := ra) (le := le) (mo := mo) (v := v) (nu := nu) (u := u) hj (by omega)
          · rw [e]
            simp [LiveR, WA, WC, WP', Tr.get]
        · have hn : nu = 0 := by simp at h2; omega
          have e : S.nowF ra le mo nu u v (t + 1) = S.mx le (S.mn mo (S.nowF ra le mo nu u v t + 0)) := by subst hn; rfl
          refine cdP (i64_of (by omega) (by omega)) (cdP (i64_of (by omega) (by omega)) ?_)
          refine hX (t + 1) _ (by omega) (by omega) ⟨[some 0, some 2], HasR.mk _ rfl rfl ?_ ?_⟩ hL
          · simp [WH, WB, WL, WA, WC, WP', upsB, memB, gC]
            exact fun j hj => by simpa using app_crs (c := 0) (ra := ra) (le := le) (mo := mo) (v := v) (nu := nu) (u := u) hj (by omega)
          · rw [e]
            simp [LiveR, WA, WC, WP', Tr.get]
      · have hlt : 1441 ≤ t := by simp at h1; omega
        obtain rfl : t = 1441 := by omega
        refine HasR.out (l := [(.i (.o .h), .c (.pt 0 0)), (.o (.i (.o .h)), .c (.sl 1 0 1441)), (.o (.o .h), .c (.p (.int .i64 b)))]) (HasR.mk (ρ := [some 0, some 1]) rfl rfl ?_ ?_) hL
        · simp [WH, WB, WL, WA, WC, WP', upsB, memB, gC]
        · simp [LiveR, WA, WC, WP', Tr.get]
theorem go_law01_WaterBlamed2 (fu b : Nat) (ra le mo : Int) (n : Nat) (r : S.Rows) (c : S.Rows) (hb : b < 256) : ∀ (i : Nat) (st : St), i ≤ 8 → (∃ ρ, HasR 0 ρ st [(.i (.i (.i .h)), .c (.p (.int .i64 i))), (.i (.o .h), .c (.pt 0 0)), (.o (.i (.i .h)), .c (.sl 2 0 (S.buN (S.rv b) i))), (.o (.i (.o .h)), .c (.sl 1 0 1441)), (.o (.o .h), .c (.p (.int .i64 b)))] [some (.box t_api_Gauge (gC ra le mo n (S.val r))), some (.arr 1 t_int 1441 (S.val c) []), some (.arr 1 t_int (S.buN (S.rv b) i) (S.val (S.buR (S.rv b) i)) [])]) →
    LoopGo (ex (cs4 hbs) (fu + 60)) 0 m_law01_WaterBlamed_l2 st (.e (.exit 2) ⟨setAll [(.i (.o .h), .c (.pt 0 0)), (.o (.i (.o .h)), .c (.sl 1 0 1441)), (.o (.i (.i .h)), .c (.p (.isl 1 (S.buN (S.rv b) 8) (S.val (S.buR (S.rv b) 8)))))], [some (.box t_api_Gauge (gC ra le mo n (S.val r))), some (.arr 1 t_int 1441 (S.val c) []), none]⟩) :=
  loop_kR (σ := Nat) (fun i => [(.i (.i (.i .h)), .c (.p (.int .i64 i))), (.i (.o .h), .c (.pt 0 0)), (.o (.i (.i .h)), .c (.sl 2 0 (S.buN (S.rv b) i))), (.o (.i (.o .h)), .c (.sl 1 0 1441)), (.o (.o .h), .c (.p (.int .i64 b)))]) (fun i => [some (.box t_api_Gauge (gC ra le mo n (S.val r))), some (.arr 1 t_int 1441 (S.val c) []), some (.arr 1 t_int (S.buN (S.rv b) i) (S.val (S.buR (S.rv b) i)) [])]) (fun i => i ≤ 8) (fun i => 8 - i)
    (fun _ => .e (.exit 2) ⟨setAll [(.i (.o .h), .c (.pt 0 0)), (.o (.i (.o .h)), .c (.sl 1 0 1441)), (.o (.i (.i .h)), .c (.p (.isl 1 (S.buN (S.rv b) 8) (S.val (S.buR (S.rv b) 8)))))], [some (.box t_api_Gauge (gC ra le mo n (S.val r))), some (.arr 1 t_int 1441 (S.val c) []), none]⟩) _ (fun i Q => vs_law01_WaterBlamed2 (hbs := hbs) fu i (S.buN (S.rv b) i) b ra le mo n r c (S.buR (S.rv b) i) Q) fun i hi K hL X hX => by
      refine brP (fun h1 => ?_) fun h1 => ?_
      · have hlt : i < 8 := by simp at h1; omega
        have hk : S.buN (S.rv b) i ≤ i := by unfold S.buN S.bitU; exact Nat.le_trans (List.length_filter_le _ _) (by simp)
        have eb := S.bitC_eq b hb i hlt
        refine brP (fun h2 => cdP (Nat.le_refl _) (cdP (Nat.le_refl _) (cdP (by simp [Cd.holds]; omega) (cdP (i64_of (by omega) (by omega)) ?_)))) fun h2 => cdP (i64_of (by omega) (by omega)) ?_
        · have h3 : S.hasB (S.rv b) i = true := eb.symm.trans h2
          have k1 := S.buN_t h3
          refine hX (i + 1) _ (by omega) (by omega) ⟨[some 0, some 1, some 3], HasR.mk _ rfl rfl ?_ ?_⟩ hL
          · simp [WH, WB, WL, WA, WC, WP', upsB, memB, gC, k1]
            exact fun j hj => by simpa using app_bu (c := 0) h3 hj (by omega)
          · simp [LiveR, WA, WC, WP', Tr.get, k1]
        · have h3 : S.hasB (S.rv b) i = false := eb.symm.trans h2
          obtain ⟨k1, k2⟩ := S.buN_f h3
          refine hX (i + 1) _ (by omega) (by omega) ⟨[some 0, some 1, some 2], HasR.mk _ rfl rfl ?_ ?_⟩ hL
          · simp [WH, WB, WL, WA, WC, WP', upsB, memB, gC, k1, k2]
          · simp [LiveR, WA, WC, WP', Tr.get, k1]
      · have hlt : 8 ≤ i := by simp at h1; omega
        obtain rfl : i = 8 := by omega
        refine HasF.out (l := [(.i (.o .h), .c (.pt 0 0)), (.o (.i (.o .h)), .c (.sl 1 0 1441)), (.o (.i (.i .h)), .c (.p (.isl 1 (S.buN (S.rv b) 8) (S.val (S.buR (S.rv b) 8)))))]) (H := [some (.box t_api_Gauge (gC ra le mo n (S.val r))), some (.arr 1 t_int 1441 (S.val c) []), none]) ⟨[some 0, some 1, some 2], [(.i (.o .h), .c (.pt 0 0)), (.o (.i (.o .h)), .c (.sl 1 0 1441)), (.o (.i (.i .h)), .c (.sl 2 0 (S.buN (S.rv b) 8)))], [some (.box t_api_Gauge (gC ra le mo n (S.val r))), some (.arr 1 t_int 1441 (S.val c) []), some (.arr 1 t_int (S.buN (S.rv b) 8) (S.val (S.buR (S.rv b) 8)) [])], HasR.mk _ rfl rfl ?_ ?_, 2, 1, t_int, S.buN (S.rv b) 8, S.val (S.buR (S.rv b) 8), [], rfl, rfl, ⟨rfl, .inl rfl, rfl, .inl rfl, rfl, .inr ⟨0, _, _, rfl, rfl, LkP.of_eq ?_⟩, trivial⟩⟩ hL
        · simp [WH, WB, WL, WA, WC, WP', upsB, memB, gC]
        · simp [LiveR, WA, WC, WP', Tr.get]
        · simp only [Nat.zero_add]
include hT0 hT2 hT3
theorem fc_law01_WaterBlamed (hT1 : TabOk (cs hbs)) (hk : FCall (cs4 hbs) f_law01_known [] (vB true) []) (ra le mo : Int) (n : Nat) (r : S.Rows) (fr : Int) (nu : Nat) (u : S.Rows) (b : Int) (hn : n ≤ maxLen) : FCall (cs4 hbs) f_law01_WaterBlamed [.ag (gC ra le mo n (S.val r)), .c (.p (.int .i64 fr)), .c (.p (.isl 1 nu (S.val u))), .c (.p (.int .i64 b))] (vB true) [] := by
  have z3 := FCall.cfg (C := cs3 hbs) (C' := cs4 hbs) rfl rfl (fc_water_Blame hT0 hT2 hT3 hT1 ra le mo n r hn)
  have z4 := FCall.cfg (C := cs hbs) (C' := cs4 hbs) rfl rfl (fc_ref01_Gauge hT1 ra le mo n r hn)
  refine fcall_k hT4 (F := F_law01_WaterBlamed) rfl (vc_law01_WaterBlamed ra le mo n r fr nu u b _) ⟨z4, brP (fun hg => ?_) fun _ => ⟨hk, frz_b rfl⟩⟩
  have hR := S.ggB_all hg
  obtain ⟨hra, hle, hn3, _⟩ := S.ggB_in hg
  refine brP (fun _ => ⟨hk, frz_b rfl⟩) fun h2 => brP (fun _ => ⟨hk, frz_b rfl⟩) fun h3 => brP (fun _ => ⟨hk, frz_b rfl⟩) fun h4 => ?_
  obtain ⟨b, rfl⟩ : ∃ x : Nat, b = x := ⟨b.toNat, by simp at h3; omega⟩
  have hb : b < 256 := by simp at h4; omega
  rw [Int.toNat_natCast]
  have hv : le ≤ S.mx le (S.mn mo fr) ∧ S.mx le (S.mn mo fr) ≤ mo := by unfold S.mx S.mn; split <;> split <;> omega
  have hx := S.rv_lt b hb
  have eC : S.num (fun i j => PV.int .i64 (S.crs ra le mo nu u (S.mx le (S.mn mo fr)) (0 + i) j)) = S.crs ra le mo nu u (S.mx le (S.mn mo fr)) := by
    funext i j
    show S.crs ra le mo nu u (S.mx le (S.mn mo fr)) (0 + i) j = _
    rw [Nat.zero_add]
  have eV : (fun i j => PV.int .i64 (S.crs ra le mo nu u (S.mx le (S.mn mo fr)) (0 + i) j)) = S.val (S.crs ra le mo nu u (S.mx le (S.mn mo fr))) := by
    funext i j
    show PV.int .i64 (S.crs ra le mo nu u (S.mx le (S.mn mo fr)) (0 + i) j) = _
    rw [Nat.zero_add]
    rfl
  have eN : S.buN (S.rv b) 8 = S.pc (S.rv b) := rfl
  have eR : S.buR (S.rv b) 8 = S.bitR (S.rv b) := rfl
  have p8 := S.pc_le (S.rv b)
  have gk := S.gg_kp (q := S.qL (S.buN (S.rv b) 8) (S.buR (S.rv b) 8)) hg
  refine ⟨go_law01_WaterBlamed1 hT4 932 ra le mo n r nu u b _ hra hle hv 0 _ (by omega) ⟨[some 0, none], HasR.mk _ rfl rfl (by simp [WH, WB, WL, WA, WC, WP', upsB, memB, gC]) (by simp [LiveR, WA, WC, WP', Tr.get, S.nowF])⟩,
    go_law01_WaterBlamed2 hT4 930 b ra le mo n r _ hb 0 _ (by omega) ⟨[some 0, some 1, none], HasR.mk _ rfl rfl (by simp [WH, WB, WL, WA, WC, WP', upsB, memB, gC, S.buN, S.bitU]) (by simp [LiveR, WA, WC, WP', Tr.get, S.buN, S.bitU])⟩,
    FCall.cfg (C := cs3 hbs) (C' := cs4 hbs) rfl rfl (fc_ref01_Ignored hT3 ra le mo n r _ _ hn3 (by rw [eN]; exact Nat.le_trans p8 (by simp [maxLen]))),
    by rw [eC, eV]; exact FCall.cfg (C := cs hbs) (C' := cs4 hbs) rfl rfl (fc_ref01_Fits hT1 ra le mo _ _ 1441 _ gk), brP (fun hf => ⟨z3, ?_⟩) fun _ => ⟨hk, frz_b rfl⟩⟩
  rw [eC] at hf
  have hcl := S.fit_cl (S.kp_all hR) hf
  have hok : S.okB ra le mo n r (S.rv b) = true := by
    rw [← S.okL hR hx]
    unfold S.okQ
    rw [eN, eR] at hcl
    rw [hcl]
    rfl
  have hpc := S.bl_pc hx hok
  have e1 : S.bmN ra le mo n r = S.pc (S.bl (S.okB ra le mo n r)) := by unfold S.bmN; rw [hg]
  have hok2 : S.okQ ra le mo n r (S.qL (S.bmN ra le mo n r) (S.bitR (S.bl (S.okB ra le mo n r)))) = true := by
    rw [e1, S.okL hR S.bl_lt]
    exact S.bl_ok hR
  have hc2 : S.clF ra le mo (S.kpR (S.qL (S.bmN ra le mo n r) (S.bitR (S.bl (S.okB ra le mo n r)))) r n) (S.kpN (S.qL (S.bmN ra le mo n r) (S.bitR (S.bl (S.okB ra le mo n r)))) r n) = false := by
    unfold S.okQ at hok2
    simpa using hok2
  have gk2 := S.gg_kp (q := S.qL (S.bmN ra le mo n r) (S.bitR (S.bl (S.okB ra le mo n r)))) hg
  have hle2 := S.kpN_le (q := S.qL (S.bmN ra le mo n r) (S.bitR (S.bl (S.okB ra le mo n r)))) (r := r) (n := n)
  refine brP (fun h => absurd h (by rw [S.knE_t hg]; decide)) fun _ => brP (fun h => ?_) fun _ => ?_
  · exfalso
    rw [e1, eN] at h
    simp at h
    omega
  · refine ⟨FCall.cfg (C := cs3 hbs) (C' := cs4 hbs) rfl rfl (fc_ref01_Ignored hT3 ra le mo n r _ _ hn3 (by rw [e1]; exact Nat.le_trans (S.pc_le _) (by simp [maxLen]))),
      FCall.cfg (C := cs2 hbs) (C' := cs4 hbs) rfl rfl (fc_water_Bounds hT2 hT1 ra le mo _ _ (Nat.le_trans hle2 hn)), ?_⟩
    rw [show S.bE ra le mo (S.kpN (S.qL (S.bmN ra le mo n r) (S.bitR (S.bl (S.okB ra le mo n r)))) r n) (S.kpR (S.qL (S.bmN ra le mo n r) (S.bitR (S.bl (S.okB ra le mo n r)))) r n) = 0 by unfold S.bE; rw [gk2, hc2],
      show S.bN ra le mo (S.kpN (S.qL (S.bmN ra le mo n r) (S.bitR (S.bl (S.okB ra le mo n r)))) r n) (S.kpR (S.qL (S.bmN ra le mo n r) (S.bitR (S.bl (S.okB ra le mo n r)))) r n) = 1441 by unfold S.bN; rw [gk2, hc2]; rfl]
    exact brP (fun _ => brP (fun _ => ⟨hk, frz_b rfl⟩) fun h => absurd h (by decide)) fun h => absurd h (by decide)
end
end Go.Ab.B
