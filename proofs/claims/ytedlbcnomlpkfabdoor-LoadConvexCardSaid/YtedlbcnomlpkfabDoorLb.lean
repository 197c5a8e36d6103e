/- A part of the proof: an evaluator of the program over plain values, proved sound, and what it gives. -/
import Derived.Test.YtedlbcnomlpkfabDoorLa
set_option linter.all false
set_option maxRecDepth 100000
namespace Go.Ab.B
open Go.Proofs
section
variable {hbs : BsOk Tryd.prog}
theorem vc3 (e m t l : Int) (nc : Nat) (c : S.Rows) (ns : Nat) (s : S.Rows) (ta tm r : Int) (nf : Nat) (f : S.Rows) (w mo : Int) (Q : AV → Heap → Prop) :
 ((BrP (decide (((nc : Nat) : Int) ≤ (20 : Int)))
 (BrP (decide (((ns : Nat) : Int) ≤ (20 : Int)))
  (BrP (decide (((nf : Nat) : Int) ≤ (10 : Int)))
   ((FCall (cs hbs) 27 [(.ag [(.p (.int .i64 e)), (.p (.int .i64 m)), (.p (.int .i64 t)), (.p (.int .i64 l)), (.p (.isl 2 nc (S.val c))), (.p (.isl 2 ns (S.val s))), (.p (.int .i64 ta)), (.p (.int .i64 tm)), (.p (.int .i64 r)), (.p (.isl 2 nf (S.val f)))])] (.c (.p (.bool (S.plane e m t l nc c ns s ta tm r nf f)))) []) ∧
    (BrP (S.plane e m t l nc c ns s ta tm r nf f)
    ((FCall (cs hbs) 27 [(.ag [(.p (.int .i64 e)), (.p (.int .i64 m)), (.p (.int .i64 t)), (.p (.int .i64 l)), (.p (.isl 2 nc (S.val c))), (.p (.isl 2 ns (S.val s))), (.p (.int .i64 ta)), (.p (.int .i64 tm)), (.p (.int .i64 r)), (.p (.isl 2 nf (S.val f)))])] (.c (.p (.bool (S.plane e m t l nc c ns s ta tm r nf f)))) []) ∧
     (BrP (S.plane e m t l nc c ns s ta tm r nf f)
     ((FCall (cs hbs) 29 [(.ag [(.p (.int .i64 (-(800000 : Int)))), (.p (.int .i64 (800000 : Int)))]), (.c (.p (.int .i64 w)))] (.c (.p (.bool (S.inB (-(800000 : Int)) w (800000 : Int))))) []) ∧
      (BrP (S.inB (-(800000 : Int)) w (800000 : Int))
      ((FCall (cs hbs) 29 [(.ag [(.p (.int .i64 (-(800000000 : Int)))), (.p (.int .i64 (800000000 : Int)))]), (.c (.p (.int .i64 mo)))] (.c (.p (.bool (S.inB (-(800000000 : Int)) mo (800000000 : Int))))) []) ∧
       (BrP (S.inB (-(800000000 : Int)) mo (800000000 : Int))
       ((FCall (cs hbs) 30 [(.c (.p (.isl 2 nc (S.val c)))), (.c (.p (.int .i64 w))), (.c (.p (.int .i64 mo)))] (.c (.p (.bool (S.ins nc c w mo)))) []) ∧
        (BrP (S.ins nc c w mo)
        ((FCall (cs hbs) 11 [(.ag [(.p (.int .i64 e)), (.p (.int .i64 m)), (.p (.int .i64 t)), (.p (.int .i64 l)), (.p (.isl 2 nc (S.val c))), (.p (.isl 2 ns (S.val s))), (.p (.int .i64 ta)), (.p (.int .i64 tm)), (.p (.int .i64 r)), (.p (.isl 2 nf (S.val f)))])] (.c (.p (.bool (S.plane e m t l nc c ns s ta tm r nf f)))) []) ∧
         (BrP (S.plane e m t l nc c ns s ta tm r nf f)
         (BrP (decide (w < (-(800000 : Int))))
          (Q (.c (.p (.bool false))) [(some (.box 27 [(.p (.int .i64 e)), (.p (.int .i64 m)), (.p (.int .i64 t)), (.p (.int .i64 l)), (.p (.isl 2 nc (S.val c))), (.p (.isl 2 ns (S.val s))), (.p (.int .i64 ta)), (.p (.int .i64 tm)), (.p (.int .i64 r)), (.p (.isl 2 nf (S.val f)))]))])
          (BrP (decide (w > (800000 : Int)))
           (Q (.c (.p (.bool false))) [(some (.box 27 [(.p (.int .i64 e)), (.p (.int .i64 m)), (.p (.int .i64 t)), (.p (.int .i64 l)), (.p (.isl 2 nc (S.val c))), (.p (.isl 2 ns (S.val s))), (.p (.int .i64 ta)), (.p (.int .i64 tm)), (.p (.int .i64 r)), (.p (.isl 2 nf (S.val f)))]))])
           (BrP (decide (mo < (-(800000000 : Int))))
            (Q (.c (.p (.bool false))) [(some (.box 27 [(.p (.int .i64 e)), (.p (.int .i64 m)), (.p (.int .i64 t)), (.p (.int .i64 l)), (.p (.isl 2 nc (S.val c))), (.p (.isl 2 ns (S.val s))), (.p (.int .i64 ta)), (.p (.int .i64 tm)), (.p (.int .i64 r)), (.p (.isl 2 nf (S.val f)))]))])
            (BrP (decide (mo > (800000000 : Int)))
             (Q (.c (.p (.bool false))) [(some (.box 27 [(.p (.int .i64 e)), (.p (.int .i64 m)), (.p (.int .i64 t)), (.p (.int .i64 l)), (.p (.isl 2 nc (S.val c))), (.p (.isl 2 ns (S.val s))), (.p (.int .i64 ta)), (.p (.int .i64 tm)), (.p (.int .i64 r)), (.p (.isl 2 nf (S.val f)))]))])
             ((FCall (cs hbs) 12 [(.ag [(.p (.int .i64 e)), (.p (.int .i64 m)), (.p (.int .i64 t)), (.p (.int .i64 l)), (.p (.isl 2 nc (S.val c))), (.p (.isl 2 ns (S.val s))), (.p (.int .i64 ta)), (.p (.int .i64 tm)), (.p (.int .i64 r)), (.p (.isl 2 nf (S.val f)))]), (.c (.p (.int .i64 w))), (.c (.p (.int .i64 mo)))] (.c (.p (.bool (S.ins nc c w mo)))) []) ∧
              (BrP (S.ins nc c w mo)
              ((FCall (cs hbs) 8 [] (.c (.p (.bool true))) []) ∧
               (Q (.c (.p (.bool true))) [(some (.box 27 [(.p (.int .i64 e)), (.p (.int .i64 m)), (.p (.int .i64 t)), (.p (.int .i64 l)), (.p (.isl 2 nc (S.val c))), (.p (.isl 2 ns (S.val s))), (.p (.int .i64 ta)), (.p (.int .i64 tm)), (.p (.int .i64 r)), (.p (.isl 2 nf (S.val f)))]))]))
              (Q (.c (.p (.bool false))) [(some (.box 27 [(.p (.int .i64 e)), (.p (.int .i64 m)), (.p (.int .i64 t)), (.p (.int .i64 l)), (.p (.isl 2 nc (S.val c))), (.p (.isl 2 ns (S.val s))), (.p (.int .i64 ta)), (.p (.int .i64 tm)), (.p (.int .i64 r)), (.p (.isl 2 nf (S.val f)))]))])))))))
         (Q (.c (.p (.bool false))) [(some (.box 27 [(.p (.int .i64 e)), (.p (.int .i64 m)), (.p (.int .i64 t)), (.p (.int .i64 l)), (.p (.isl 2 nc (S.val c))), (.p (.isl 2 ns (S.val s))), (.p (.int .i64 ta)), (.p (.int .i64 tm)), (.p (.int .i64 r)), (.p (.isl 2 nf (S.val f)))]))])))
        ((FCall (cs hbs) 11 [(.ag [(.p (.int .i64 e)), (.p (.int .i64 m)), (.p (.int .i64 t)), (.p (.int .i64 l)), (.p (.isl 2 nc (S.val c))), (.p (.isl 2 ns (S.val s))), (.p (.int .i64 ta)), (.p (.int .i64 tm)), (.p (.int .i64 r)), (.p (.isl 2 nf (S.val f)))])] (.c (.p (.bool (S.plane e m t l nc c ns s ta tm r nf f)))) []) ∧
         (BrP (S.plane e m t l nc c ns s ta tm r nf f)
         (BrP (decide (w < (-(800000 : Int))))
          (Q (.c (.p (.bool false))) [(some (.box 27 [(.p (.int .i64 e)), (.p (.int .i64 m)), (.p (.int .i64 t)), (.p (.int .i64 l)), (.p (.isl 2 nc (S.val c))), (.p (.isl 2 ns (S.val s))), (.p (.int .i64 ta)), (.p (.int .i64 tm)), (.p (.int .i64 r)), (.p (.isl 2 nf (S.val f)))]))])
          (BrP (decide (w > (800000 : Int)))
           (Q (.c (.p (.bool false))) [(some (.box 27 [(.p (.int .i64 e)), (.p (.int .i64 m)), (.p (.int .i64 t)), (.p (.int .i64 l)), (.p (.isl 2 nc (S.val c))), (.p (.isl 2 ns (S.val s))), (.p (.int .i64 ta)), (.p (.int .i64 tm)), (.p (.int .i64 r)), (.p (.isl 2 nf (S.val f)))]))])
           (BrP (decide (mo < (-(800000000 : Int))))
            (Q (.c (.p (.bool false))) [(some (.box 27 [(.p (.int .i64 e)), (.p (.int .i64 m)), (.p (.int .i64 t)), (.p (.int .i64 l)), (.p (.isl 2 nc (S.val c))), (.p (.isl 2 ns (S.val s))), (.p (.int .i64 ta)), (.p (.int .i64 tm)), (.p (.int .i64 r)), (.p (.isl 2 nf (S.val f)))]))])
            (BrP (decide (mo > (800000000 : Int)))
             (Q (.c (.p (.bool false))) [(some (.box 27 [(.p (.int .i64 e)), (.p (.int .i64 m)), (.p (.int .i64 t)), (.p (.int .i64 l)), (.p (.isl 2 nc (S.val c))), (.p (.isl 2 ns (S.val s))), (.p (.int .i64 ta)), (.p (.int .i64 tm)), (.p (.int .i64 r)), (.p (.isl 2 nf (S.val f)))]))])
             ((FCall (cs hbs) 12 [(.ag [(.p (.int .i64 e)), (.p (.int .i64 m)), (.p (.int .i64 t)), (.p (.int .i64 l)), (.p (.isl 2 nc (S.val c))), (.p (.isl 2 ns (S.val s))), (.p (.int .i64 ta)), (.p (.int .i64 tm)), (.p (.int .i64 r)), (.p (.isl 2 nf (S.val f)))]), (.c (.p (.int .i64 w))), (.c (.p (.int .i64 mo)))] (.c (.p (.bool (S.ins nc c w mo)))) []) ∧
              (BrP (S.ins nc c w mo)
              (Q (.c (.p (.bool false))) [(some (.box 27 [(.p (.int .i64 e)), (.p (.int .i64 m)), (.p (.int .i64 t)), (.p (.int .i64 l)), (.p (.isl 2 nc (S.val c))), (.p (.isl 2 ns (S.val s))), (.p (.int .i64 ta)), (.p (.int .i64 tm)), (.p (.int .i64 r)), (.p (.isl 2 nf (S.val f)))]))])
              ((FCall (cs hbs) 8 [] (.c (.p (.bool true))) []) ∧
               (Q (.c (.p (.bool true))) [(some (.box 27 [(.p (.int .i64 e)), (.p (.int .i64 m)), (.p (.int .i64 t)), (.p (.int .i64 l)), (.p (.isl 2 nc (S.val c))), (.p (.isl 2 ns (S.val s))), (.p (.int .i64 ta)), (.p (.int .i64 tm)), (.p (.int .i64 r)), (.p (.isl 2 nf (S.val f)))]))]))))))))
         (Q (.c (.p (.bool false))) [(some (.box 27 [(.p (.int .i64 e)), (.p (.int .i64 m)), (.p (.int .i64 t)), (.p (.int .i64 l)), (.p (.isl 2 nc (S.val c))), (.p (.isl 2 ns (S.val s))), (.p (.int .i64 ta)), (.p (.int .i64 tm)), (.p (.int .i64 r)), (.p (.isl 2 nf (S.val f)))]))])))))
       ((FCall (cs hbs) 11 [(.ag [(.p (.int .i64 e)), (.p (.int .i64 m)), (.p (.int .i64 t)), (.p (.int .i64 l)), (.p (.isl 2 nc (S.val c))), (.p (.isl 2 ns (S.val s))), (.p (.int .i64 ta)), (.p (.int .i64 tm)), (.p (.int .i64 r)), (.p (.isl 2 nf (S.val f)))])] (.c (.p (.bool (S.plane e m t l nc c ns s ta tm r nf f)))) []) ∧
        (BrP (S.plane e m t l nc c ns s ta tm r nf f)
        (BrP (decide (w < (-(800000 : Int))))
         ((FCall (cs hbs) 8 [] (.c (.p (.bool true))) []) ∧
          (Q (.c (.p (.bool true))) [(some (.box 27 [(.p (.int .i64 e)), (.p (.int .i64 m)), (.p (.int .i64 t)), (.p (.int .i64 l)), (.p (.isl 2 nc (S.val c))), (.p (.isl 2 ns (S.val s))), (.p (.int .i64 ta)), (.p (.int .i64 tm)), (.p (.int .i64 r)), (.p (.isl 2 nf (S.val f)))]))]))
         (BrP (decide (w > (800000 : Int)))
          ((FCall (cs hbs) 8 [] (.c (.p (.bool true))) []) ∧
           (Q (.c (.p (.bool true))) [(some (.box 27 [(.p (.int .i64 e)), (.p (.int .i64 m)), (.p (.int .i64 t)), (.p (.int .i64 l)), (.p (.isl 2 nc (S.val c))), (.p (.isl 2 ns (S.val s))), (.p (.int .i64 ta)), (.p (.int .i64 tm)), (.p (.int .i64 r)), (.p (.isl 2 nf (S.val f)))]))]))
          (BrP (decide (mo < (-(800000000 : Int))))
           ((FCall (cs hbs) 8 [] (.c (.p (.bool true))) []) ∧
            (Q (.c (.p (.bool true))) [(some (.box 27 [(.p (.int .i64 e)), (.p (.int .i64 m)), (.p (.int .i64 t)), (.p (.int .i64 l)), (.p (.isl 2 nc (S.val c))), (.p (.isl 2 ns (S.val s))), (.p (.int .i64 ta)), (.p (.int .i64 tm)), (.p (.int .i64 r)), (.p (.isl 2 nf (S.val f)))]))]))
           (BrP (decide (mo > (800000000 : Int)))
            ((FCall (cs hbs) 8 [] (.c (.p (.bool true))) []) ∧
             (Q (.c (.p (.bool true))) [(some (.box 27 [(.p (.int .i64 e)), (.p (.int .i64 m)), (.p (.int .i64 t)), (.p (.int .i64 l)), (.p (.isl 2 nc (S.val c))), (.p (.isl 2 ns (S.val s))), (.p (.int .i64 ta)), (.p (.int .i64 tm)), (.p (.int .i64 r)), (.p (.isl 2 nf (S.val f)))]))]))
            (Q (.c (.p (.bool false))) [(some (.box 27 [(.p (.int .i64 e)), (.p (.int .i64 m)), (.p (.int .i64 t)), (.p (.int .i64 l)), (.p (.isl 2 nc (S.val c))), (.p (.isl 2 ns (S.val s))), (.p (.int .i64 ta)), (.p (.int .i64 tm)), (.p (.int .i64 r)), (.p (.isl 2 nf (S.val f)))]))])))))
        (Q (.c (.p (.bool false))) [(some (.box 27 [(.p (.int .i64 e)), (.p (.int .i64 m)), (.p (.int .i64 t)), (.p (.int .i64 l)), (.p (.isl 2 nc (S.val c))), (.p (.isl 2 ns (S.val s))), (.p (.int .i64 ta)), (.p (.int .i64 tm)), (.p (.int .i64 r)), (.p (.isl 2 nf (S.val f)))]))])))))
      ((FCall (cs hbs) 11 [(.ag [(.p (.int .i64 e)), (.p (.int .i64 m)), (.p (.int .i64 t)), (.p (.int .i64 l)), (.p (.isl 2 nc (S.val c))), (.p (.isl 2 ns (S.val s))), (.p (.int .i64 ta)), (.p (.int .i64 tm)), (.p (.int .i64 r)), (.p (.isl 2 nf (S.val f)))])] (.c (.p (.bool (S.plane e m t l nc c ns s ta tm r nf f)))) []) ∧
       (BrP (S.plane e m t l nc c ns s ta tm r nf f)
       (BrP (decide (w < (-(800000 : Int))))
        ((FCall (cs hbs) 8 [] (.c (.p (.bool true))) []) ∧
         (Q (.c (.p (.bool true))) [(some (.box 27 [(.p (.int .i64 e)), (.p (.int .i64 m)), (.p (.int .i64 t)), (.p (.int .i64 l)), (.p (.isl 2 nc (S.val c))), (.p (.isl 2 ns (S.val s))), (.p (.int .i64 ta)), (.p (.int .i64 tm)), (.p (.int .i64 r)), (.p (.isl 2 nf (S.val f)))]))]))
        (BrP (decide (w > (800000 : Int)))
         ((FCall (cs hbs) 8 [] (.c (.p (.bool true))) []) ∧
          (Q (.c (.p (.bool true))) [(some (.box 27 [(.p (.int .i64 e)), (.p (.int .i64 m)), (.p (.int .i64 t)), (.p (.int .i64 l)), (.p (.isl 2 nc (S.val c))), (.p (.isl 2 ns (S.val s))), (.p (.int .i64 ta)), (.p (.int .i64 tm)), (.p (.int .i64 r)), (.p (.isl 2 nf (S.val f)))]))]))
         (BrP (decide (mo < (-(800000000 : Int))))
          ((FCall (cs hbs) 8 [] (.c (.p (.bool true))) []) ∧
           (Q (.c (.p (.bool true))) [(some (.box 27 [(.p (.int .i64 e)), (.p (.int .i64 m)), (.p (.int .i64 t)), (.p (.int .i64 l)), (.p (.isl 2 nc (S.val c))), (.p (.isl 2 ns (S.val s))), (.p (.int .i64 ta)), (.p (.int .i64 tm)), (.p (.int .i64 r)), (.p (.isl 2 nf (S.val f)))]))]))
          (BrP (decide (mo > (800000000 : Int)))
           ((FCall (cs hbs) 8 [] (.c (.p (.bool true))) []) ∧
            (Q (.c (.p (.bool true))) [(some (.box 27 [(.p (.int .i64 e)), (.p (.int .i64 m)), (.p (.int .i64 t)), (.p (.int .i64 l)), (.p (.isl 2 nc (S.val c))), (.p (.isl 2 ns (S.val s))), (.p (.int .i64 ta)), (.p (.int .i64 tm)), (.p (.int .i64 r)), (.p (.isl 2 nf (S.val f)))]))]))
           (Q (.c (.p (.bool false))) [(some (.box 27 [(.p (.int .i64 e)), (.p (.int .i64 m)), (.p (.int .i64 t)), (.p (.int .i64 l)), (.p (.isl 2 nc (S.val c))), (.p (.isl 2 ns (S.val s))), (.p (.int .i64 ta)), (.p (.int .i64 tm)), (.p (.int .i64 r)), (.p (.isl 2 nf (S.val f)))]))])))))
       (Q (.c (.p (.bool false))) [(some (.box 27 [(.p (.int .i64 e)), (.p (.int .i64 m)), (.p (.int .i64 t)), (.p (.int .i64 l)), (.p (.isl 2 nc (S.val c))), (.p (.isl 2 ns (S.val s))), (.p (.int .i64 ta)), (.p (.int .i64 tm)), (.p (.int .i64 r)), (.p (.isl 2 nf (S.val f)))]))])))))
     ((FCall (cs hbs) 11 [(.ag [(.p (.int .i64 e)), (.p (.int .i64 m)), (.p (.int .i64 t)), (.p (.int .i64 l)), (.p (.isl 2 nc (S.val c))), (.p (.isl 2 ns (S.val s))), (.p (.int .i64 ta)), (.p (.int .i64 tm)), (.p (.int .i64 r)), (.p (.isl 2 nf (S.val f)))])] (.c (.p (.bool (S.plane e m t l nc c ns s ta tm r nf f)))) []) ∧
      (BrP (S.plane e m t l nc c ns s ta tm r nf f)
      (BrP (decide (w < (-(800000 : Int))))
       ((FCall (cs hbs) 8 [] (.c (.p (.bool true))) []) ∧
        (Q (.c (.p (.bool true))) [(some (.box 27 [(.p (.int .i64 e)), (.p (.int .i64 m)), (.p (.int .i64 t)), (.p (.int .i64 l)), (.p (.isl 2 nc (S.val c))), (.p (.isl 2 ns (S.val s))), (.p (.int .i64 ta)), (.p (.int .i64 tm)), (.p (.int .i64 r)), (.p (.isl 2 nf (S.val f)))]))]))
       (BrP (decide (w > (800000 : Int)))
        ((FCall (cs hbs) 8 [] (.c (.p (.bool true))) []) ∧
         (Q (.c (.p (.bool true))) [(some (.box 27 [(.p (.int .i64 e)), (.p (.int .i64 m)), (.p (.int .i64 t)), (.p (.int .i64 l)), (.p (.isl 2 nc (S.val c))), (.p (.isl 2 ns (S.val s))), (.p (.int .i64 ta)), (.p (.int .i64 tm)), (.p (.int .i64 r)), (.p (.isl 2 nf (S.val f)))]))]))
        (BrP (decide (mo < (-(800000000 : Int))))
         ((FCall (cs hbs) 8 [] (.c (.p (.bool true))) []) ∧
          (Q (.c (.p (.bool true))) [(some (.box 27 [(.p (.int .i64 e)), (.p (.int .i64 m)), (.p (.int .i64 t)), (.p (.int .i64 l)), (.p (.isl 2 nc (S.val c))), (.p (.isl 2 ns (S.val s))), (.p (.int .i64 ta)), (.p (.int .i64 tm)), (.p (.int .i64 r)), (.p (.isl 2 nf (S.val f)))]))]))
         (BrP (decide (mo > (800000000 : Int)))
          ((FCall (cs hbs) 8 [] (.c (.p (.bool true))) []) ∧
           (Q (.c (.p (.bool true))) [(some (.box 27 [(.p (.int .i64 e)), (.p (.int .i64 m)), (.p (.int .i64 t)), (.p (.int .i64 l)), (.p (.isl 2 nc (S.val c))), (.p (.isl 2 ns (S.val s))), (.p (.int .i64 ta)), (.p (.int .i64 tm)), (.p (.int .i64 r)), (.p (.isl 2 nf (S.val f)))]))]))
          (Q (.c (.p (.bool false))) [(some (.box 27 [(.p (.int .i64 e)), (.p (.int .i64 m)), (.p (.int .i64 t)), (.p (.int .i64 l)), (.p (.isl 2 nc (S.val c))), (.p (.isl 2 ns (S.val s))), (.p (.int .i64 ta)), (.p (.int .i64 tm)), (.p (.int .i64 r)), (.p (.isl 2 nf (S.val f)))]))])))))
      (Q (.c (.p (.bool false))) [(some (.box 27 [(.p (.int .i64 e)), (.p (.int .i64 m)), (.p (.int .i64 t)), (.p (.int .i64 l)), (.p (.isl 2 nc (S.val c))), (.p (.isl 2 ns (S.val s))), (.p (.int .i64 ta)), (.p (.int .i64 tm)), (.p (.int .i64 r)), (.p (.isl 2 nf (S.val f)))]))])))))
    ((FCall (cs hbs) 27 [(.ag [(.p (.int .i64 e)), (.p (.int .i64 m)), (.p (.int .i64 t)), (.p (.int .i64 l)), (.p (.isl 2 nc (S.val c))), (.p (.isl 2 ns (S.val s))), (.p (.int .i64 ta)), (.p (.int .i64 tm)), (.p (.int .i64 r)), (.p (.isl 2 nf (S.val f)))])] (.c (.p (.bool (S.plane e m t l nc c ns s ta tm r nf f)))) []) ∧
     (BrP (S.plane e m t l nc c ns s ta tm r nf f)
     ((FCall (cs hbs) 29 [(.ag [(.p (.int .i64 (-(800000 : Int)))), (.p (.int .i64 (800000 : Int)))]), (.c (.p (.int .i64 w)))] (.c (.p (.bool (S.inB (-(800000 : Int)) w (800000 : Int))))) []) ∧
      (BrP (S.inB (-(800000 : Int)) w (800000 : Int))
      ((FCall (cs hbs) 29 [(.ag [(.p (.int .i64 (-(800000000 : Int)))), (.p (.int .i64 (800000000 : Int)))]), (.c (.p (.int .i64 mo)))] (.c (.p (.bool (S.inB (-(800000000 : Int)) mo (800000000 : Int))))) []) ∧
       (BrP (S.inB (-(800000000 : Int)) mo (800000000 : Int))
       ((FCall (cs hbs) 30 [(.c (.p (.isl 2 nc (S.val c)))), (.c (.p (.int .i64 w))), (.c (.p (.int .i64 mo)))] (.c (.p (.bool (S.ins nc c w mo)))) []) ∧
        (BrP (S.ins nc c w mo)
        ((FCall (cs hbs) 11 [(.ag [(.p (.int .i64 e)), (.p (.int .i64 m)), (.p (.int .i64 t)), (.p (.int .i64 l)), (.p (.isl 2 nc (S.val c))), (.p (.isl 2 ns (S.val s))), (.p (.int .i64 ta)), (.p (.int .i64 tm)), (.p (.int .i64 r)), (.p (.isl 2 nf (S.val f)))])] (.c (.p (.bool (S.plane e m t l nc c ns s ta tm r nf f)))) []) ∧
         (BrP (S.plane e m t l nc c ns s ta tm r nf f)
         (BrP (decide (w < (-(800000 : Int))))
          (Q (.c (.p (.bool false))) [(some (.box 27 [(.p (.int .i64 e)), (.p (.int .i64 m)), (.p (.int .i64 t)), (.p (.int .i64 l)), (.p (.isl 2 nc (S.val c))), (.p (.isl 2 ns (S.val s))), (.p (.int .i64 ta)), (.p (.int .i64 tm)), (.p (.int .i64 r)), (.p (.isl 2 nf (S.val f)))]))])
          (BrP (decide (w > (800000 : Int)))
           (Q (.c (.p (.bool false))) [(some (.box 27 [(.p (.int .i64 e)), (.p (.int .i64 m)), (.p (.int .i64 t)), (.p (.int .i64 l)), (.p (.isl 2 nc (S.val c))), (.p (.isl 2 ns (S.val s))), (.p (.int .i64 ta)), (.p (.int .i64 tm)), (.p (.int .i64 r)), (.p (.isl 2 nf (S.val f)))]))])
           (BrP (decide (mo < (-(800000000 : Int))))
            (Q (.c (.p (.bool false))) [(some (.box 27 [(.p (.int .i64 e)), (.p (.int .i64 m)), (.p (.int .i64 t)), (.p (.int .i64 l)), (.p (.isl 2 nc (S.val c))), (.p (.isl 2 ns (S.val s))), (.p (.int .i64 ta)), (.p (.int .i64 tm)), (.p (.int .i64 r)), (.p (.isl 2 nf (S.val f)))]))])
            (BrP (decide (mo > (800000000 : Int)))
             (Q (.c (.p (.bool false))) [(some (.box 27 [(.p (.int .i64 e)), (.p (.int .i64 m)), (.p (.int .i64 t)), (.p (.int .i64 l)), (.p (.isl 2 nc (S.val c))), (.p (.isl 2 ns (S.val s))), (.p (.int .i64 ta)), (.p (.int .i64 tm)), (.p (.int .i64 r)), (.p (.isl 2 nf (S.val f)))]))])
             (Q (.c (.p (.bool false))) [(some (.box 27 [(.p (.int .i64 e)), (.p (.int .i64 m)), (.p (.int .i64 t)), (.p (.int .i64 l)), (.p (.isl 2 nc (S.val c))), (.p (.isl 2 ns (S.val s))), (.p (.int .i64 ta)), (.p (.int .i64 tm)), (.p (.int .i64 r)), (.p (.isl 2 nf (S.val f)))]))])))))
         (Q (.c (.p (.bool false))) [(some (.box 27 [(.p (.int .i64 e)), (.p (.int .i64 m)), (.p (.int .i64 t)), (.p (.int .i64 l)), (.p (.isl 2 nc (S.val c))), (.p (.isl 2 ns (S.val s))), (.p (.int .i64 ta)), (.p (.int .i64 tm)), (.p (.int .i64 r)), (.p (.isl 2 nf (S.val f)))]))])))
        ((FCall (cs hbs) 11 [(.ag [(.p (.int .i64 e)), (.p (.int .i64 m)), (.p (.int .i64 t)), (.p (.int .i64 l)), (.p (.isl 2 nc (S.val c))), (.p (.isl 2 ns (S.val s))), (.p (.int .i64 ta)), (.p (.int .i64 tm)), (.p (.int .i64 r)), (.p (.isl 2 nf (S.val f)))])] (.c (.p (.bool (S.plane e m t l nc c ns s ta tm r nf f)))) []) ∧
         (BrP (S.plane e m t l nc c ns s ta tm r nf f)
         (BrP (decide (w < (-(800000 : Int))))
          (Q (.c (.p (.bool false))) [(some (.box 27 [(.p (.int .i64 e)), (.p (.int .i64 m)), (.p (.int .i64 t)), (.p (.int .i64 l)), (.p (.isl 2 nc (S.val c))), (.p (.isl 2 ns (S.val s))), (.p (.int .i64 ta)), (.p (.int .i64 tm)), (.p (.int .i64 r)), (.p (.isl 2 nf (S.val f)))]))])
          (BrP (decide (w > (800000 : Int)))
           (Q (.c (.p (.bool false))) [(some (.box 27 [(.p (.int .i64 e)), (.p (.int .i64 m)), (.p (.int .i64 t)), (.p (.int .i64 l)), (.p (.isl 2 nc (S.val c))), (.p (.isl 2 ns (S.val s))), (.p (.int .i64 ta)), (.p (.int .i64 tm)), (.p (.int .i64 r)), (.p (.isl 2 nf (S.val f)))]))])
           (BrP (decide (mo < (-(800000000 : Int))))
            (Q (.c (.p (.bool false))) [(some (.box 27 [(.p (.int .i64 e)), (.p (.int .i64 m)), (.p (.int .i64 t)), (.p (.int .i64 l)), (.p (.isl 2 nc (S.val c))), (.p (.isl 2 ns (S.val s))), (.p (.int .i64 ta)), (.p (.int .i64 tm)), (.p (.int .i64 r)), (.p (.isl 2 nf (S.val f)))]))])
            (BrP (decide (mo > (800000000 : Int)))
             (Q (.c (.p (.bool false))) [(some (.box 27 [(.p (.int .i64 e)), (.p (.int .i64 m)), (.p (.int .i64 t)), (.p (.int .i64 l)), (.p (.isl 2 nc (S.val c))), (.p (.isl 2 ns (S.val s))), (.p (.int .i64 ta)), (.p (.int .i64 tm)), (.p (.int .i64 r)), (.p (.isl 2 nf (S.val f)))]))])
             (Q (.c (.p (.bool false))) [(some (.box 27 [(.p (.int .i64 e)), (.p (.int .i64 m)), (.p (.int .i64 t)), (.p (.int .i64 l)), (.p (.isl 2 nc (S.val c))), (.p (.isl 2 ns (S.val s))), (.p (.int .i64 ta)), (.p (.int .i64 tm)), (.p (.int .i64 r)), (.p (.isl 2 nf (S.val f)))]))])))))
         (Q (.c (.p (.bool false))) [(some (.box 27 [(.p (.int .i64 e)), (.p (.int .i64 m)), (.p (.int .i64 t)), (.p (.int .i64 l)), (.p (.isl 2 nc (S.val c))), (.p (.isl 2 ns (S.val s))), (.p (.int .i64 ta)), (.p (.int .i64 tm)), (.p (.int .i64 r)), (.p (.isl 2 nf (S.val f)))]))])))))
       ((FCall (cs hbs) 11 [(.ag [(.p (.int .i64 e)), (.p (.int .i64 m)), (.p (.int .i64 t)), (.p (.int .i64 l)), (.p (.isl 2 nc (S.val c))), (.p (.isl 2 ns (S.val s))), (.p (.int .i64 ta)), (.p (.int .i64 tm)), (.p (.int .i64 r)), (.p (.isl 2 nf (S.val f)))])] (.c (.p (.bool (S.plane e m t l nc c ns s ta tm r nf f)))) []) ∧
        (BrP (S.plane e m t l nc c ns s ta tm r nf f)
        (BrP (decide (w < (-(800000 : Int))))
         (Q (.c (.p (.bool false))) [(some (.box 27 [(.p (.int .i64 e)), (.p (.int .i64 m)), (.p (.int .i64 t)), (.p (.int .i64 l)), (.p (.isl 2 nc (S.val c))), (.p (.isl 2 ns (S.val s))), (.p (.int .i64 ta)), (.p (.int .i64 tm)), (.p (.int .i64 r)), (.p (.isl 2 nf (S.val f)))]))])
         (BrP (decide (w > (800000 : Int)))
          (Q (.c (.p (.bool false))) [(some (.box 27 [(.p (.int .i64 e)), (.p (.int .i64 m)), (.p (.int .i64 t)), (.p (.int .i64 l)), (.p (.isl 2 nc (S.val c))), (.p (.isl 2 ns (S.val s))), (.p (.int .i64 ta)), (.p (.int .i64 tm)), (.p (.int .i64 r)), (.p (.isl 2 nf (S.val f)))]))])
          (BrP (decide (mo < (-(800000000 : Int))))
           (Q (.c (.p (.bool false))) [(some (.box 27 [(.p (.int .i64 e)), (.p (.int .i64 m)), (.p (.int .i64 t)), (.p (.int .i64 l)), (.p (.isl 2 nc (S.val c))), (.p (.isl 2 ns (S.val s))), (.p (.int .i64 ta)), (.p (.int .i64 tm)), (.p (.int .i64 r)), (.p (.isl 2 nf (S.val f)))]))])
           (BrP (decide (mo > (800000000 : Int)))
            (Q (.c (.p (.bool false))) [(some (.box 27 [(.p (.int .i64 e)), (.p (.int .i64 m)), (.p (.int .i64 t)), (.p (.int .i64 l)), (.p (.isl 2 nc (S.val c))), (.p (.isl 2 ns (S.val s))), (.p (.int .i64 ta)), (.p (.int .i64 tm)), (.p (.int .i64 r)), (.p (.isl 2 nf (S.val f)))]))])
            (Q (.c (.p (.bool false))) [(some (.box 27 [(.p (.int .i64 e)), (.p (.int .i64 m)), (.p (.int .i64 t)), (.p (.int .i64 l)), (.p (.isl 2 nc (S.val c))), (.p (.isl 2 ns (S.val s))), (.p (.int .i64 ta)), (.p (.int .i64 tm)), (.p (.int .i64 r)), (.p (.isl 2 nf (S.val f)))]))])))))
        ((FCall (cs hbs) 8 [] (.c (.p (.bool true))) []) ∧
         (Q (.c (.p (.bool true))) [(some (.box 27 [(.p (.int .i64 e)), (.p (.int .i64 m)), (.p (.int .i64 t)), (.p (.int .i64 l)), (.p (.isl 2 nc (S.val c))), (.p (.isl 2 ns (S.val s))), (.p (.int .i64 ta)), (.p (.int .i64 tm)), (.p (.int .i64 r)), (.p (.isl 2 nf (S.val f)))]))]))))))
      ((FCall (cs hbs) 11 [(.ag [(.p (.int .i64 e)), (.p (.int .i64 m)), (.p (.int .i64 t)), (.p (.int .i64 l)), (.p (.isl 2 nc (S.val c))), (.p (.isl 2 ns (S.val s))), (.p (.int .i64 ta)), (.p (.int .i64 tm)), (.p (.int .i64 r)), (.p (.isl 2 nf (S.val f)))])] (.c (.p (.bool (S.plane e m t l nc c ns s ta tm r nf f)))) []) ∧
       (BrP (S.plane e m t l nc c ns s ta tm r nf f)
       (BrP (decide (w < (-(800000 : Int))))
        (Q (.c (.p (.bool false))) [(some (.box 27 [(.p (.int .i64 e)), (.p (.int .i64 m)), (.p (.int .i64 t)), (.p (.int .i64 l)), (.p (.isl 2 nc (S.val c))), (.p (.isl 2 ns (S.val s))), (.p (.int .i64 ta)), (.p (.int .i64 tm)), (.p (.int .i64 r)), (.p (.isl 2 nf (S.val f)))]))])
        (BrP (decide (w > (800000 : Int)))
         (Q (.c (.p (.bool false))) [(some (.box 27 [(.p (.int .i64 e)), (.p (.int .i64 m)), (.p (.int .i64 t)), (.p (.int .i64 l)), (.p (.isl 2 nc (S.val c))), (.p (.isl 2 ns (S.val s))), (.p (.int .i64 ta)), (.p (.int .i64 tm)), (.p (.int .i64 r)), (.p (.isl 2 nf (S.val f)))]))])
         (BrP (decide (mo < (-(800000000 : Int))))
          (Q (.c (.p (.bool false))) [(some (.box 27 [(.p (.int .i64 e)), (.p (.int .i64 m)), (.p (.int .i64 t)), (.p (.int .i64 l)), (.p (.isl 2 nc (S.val c))), (.p (.isl 2 ns (S.val s))), (.p (.int .i64 ta)), (.p (.int .i64 tm)), (.p (.int .i64 r)), (.p (.isl 2 nf (S.val f)))]))])
          (BrP (decide (mo > (800000000 : Int)))
           (Q (.c (.p (.bool false))) [(some (.box 27 [(.p (.int .i64 e)), (.p (.int .i64 m)), (.p (.int .i64 t)), (.p (.int .i64 l)), (.p (.isl 2 nc (S.val c))), (.p (.isl 2 ns (S.val s))), (.p (.int .i64 ta)), (.p (.int .i64 tm)), (.p (.int .i64 r)), (.p (.isl 2 nf (S.val f)))]))])
           (Q (.c (.p (.bool false))) [(some (.box 27 [(.p (.int .i64 e)), (.p (.int .i64 m)), (.p (.int .i64 t)), (.p (.int .i64 l)), (.p (.isl 2 nc (S.val c))), (.p (.isl 2 ns (S.val s))), (.p (.int .i64 ta)), (.p (.int .i64 tm)), (.p (.int .i64 r)), (.p (.isl 2 nf (S.val f)))]))])))))
       ((FCall (cs hbs) 8 [] (.c (.p (.bool true))) []) ∧
        (Q (.c (.p (.bool true))) [(some (.box 27 [(.p (.int .i64 e)), (.p (.int .i64 m)), (.p (.int .i64 t)), (.p (.int .i64 l)), (.p (.isl 2 nc (S.val c))), (.p (.isl 2 ns (S.val s))), (.p (.int .i64 ta)), (.p (.int .i64 tm)), (.p (.int .i64 r)), (.p (.isl 2 nf (S.val f)))]))]))))))
     ((FCall (cs hbs) 11 [(.ag [(.p (.int .i64 e)), (.p (.int .i64 m)), (.p (.int .i64 t)), (.p (.int .i64 l)), (.p (.isl 2 nc (S.val c))), (.p (.isl 2 ns (S.val s))), (.p (.int .i64 ta)), (.p (.int .i64 tm)), (.p (.int .i64 r)), (.p (.isl 2 nf (S.val f)))])] (.c (.p (.bool (S.plane e m t l nc c ns s ta tm r nf f)))) []) ∧
      (BrP (S.plane e m t l nc c ns s ta tm r nf f)
      (BrP (decide (w < (-(800000 : Int))))
       (Q (.c (.p (.bool false))) [(some (.box 27 [(.p (.int .i64 e)), (.p (.int .i64 m)), (.p (.int .i64 t)), (.p (.int .i64 l)), (.p (.isl 2 nc (S.val c))), (.p (.isl 2 ns (S.val s))), (.p (.int .i64 ta)), (.p (.int .i64 tm)), (.p (.int .i64 r)), (.p (.isl 2 nf (S.val f)))]))])
       (BrP (decide (w > (800000 : Int)))
        (Q (.c (.p (.bool false))) [(some (.box 27 [(.p (.int .i64 e)), (.p (.int .i64 m)), (.p (.int .i64 t)), (.p (.int .i64 l)), (.p (.isl 2 nc (S.val c))), (.p (.isl 2 ns (S.val s))), (.p (.int .i64 ta)), (.p (.int .i64 tm)), (.p (.int .i64 r)), (.p (.isl 2 nf (S.val f)))]))])
        (BrP (decide (mo < (-(800000000 : Int))))
         (Q (.c (.p (.bool false))) [(some (.box 27 [(.p (.int .i64 e)), (.p (.int .i64 m)), (.p (.int .i64 t)), (.p (.int .i64 l)), (.p (.isl 2 nc (S.val c))), (.p (.isl 2 ns (S.val s))), (.p (.int .i64 ta)), (.p (.int .i64 tm)), (.p (.int .i64 r)), (.p (.isl 2 nf (S.val f)))]))])
         (BrP (decide (mo > (800000000 : Int)))
          (Q (.c (.p (.bool false))) [(some (.box 27 [(.p (.int .i64 e)), (.p (.int .i64 m)), (.p (.int .i64 t)), (.p (.int .i64 l)), (.p (.isl 2 nc (S.val c))), (.p (.isl 2 ns (S.val s))), (.p (.int .i64 ta)), (.p (.int .i64 tm)), (.p (.int .i64 r)), (.p (.isl 2 nf (S.val f)))]))])
          (Q (.c (.p (.bool false))) [(some (.box 27 [(.p (.int .i64 e)), (.p (.int .i64 m)), (.p (.int .i64 t)), (.p (.int .i64 l)), (.p (.isl 2 nc (S.val c))), (.p (.isl 2 ns (S.val s))), (.p (.int .i64 ta)), (.p (.int .i64 tm)), (.p (.int .i64 r)), (.p (.isl 2 nf (S.val f)))]))])))))
      ((FCall (cs hbs) 8 [] (.c (.p (.bool true))) []) ∧
       (Q (.c (.p (.bool true))) [(some (.box 27 [(.p (.int .i64 e)), (.p (.int .i64 m)), (.p (.int .i64 t)), (.p (.int .i64 l)), (.p (.isl 2 nc (S.val c))), (.p (.isl 2 ns (S.val s))), (.p (.int .i64 ta)), (.p (.int .i64 tm)), (.p (.int .i64 r)), (.p (.isl 2 nf (S.val f)))]))]))))))))
   ((FCall (cs hbs) 8 [] (.c (.p (.bool true))) []) ∧
    (Q (.c (.p (.bool true))) [(some (.box 27 [(.p (.int .i64 e)), (.p (.int .i64 m)), (.p (.int .i64 t)), (.p (.int .i64 l)), (.p (.isl 2 nc (S.val c))), (.p (.isl 2 ns (S.val s))), (.p (.int .i64 ta)), (.p (.int .i64 tm)), (.p (.int .i64 r)), (.p (.isl 2 nf (S.val f)))]))])))
  ((FCall (cs hbs) 8 [] (.c (.p (.bool true))) []) ∧
   (Q (.c (.p (.bool true))) [(some (.box 27 [(.p (.int .i64 e)), (.p (.int .i64 m)), (.p (.int .i64 t)), (.p (.int .i64 l)), (.p (.isl 2 nc (S.val c))), (.p (.isl 2 ns (S.val s))), (.p (.int .i64 ta)), (.p (.int .i64 tm)), (.p (.int .i64 r)), (.p (.isl 2 nf (S.val f)))]))])))
 ((FCall (cs hbs) 8 [] (.c (.p (.bool true))) []) ∧
  (Q (.c (.p (.bool true))) [(some (.box 27 [(.p (.int .i64 e)), (.p (.int .i64 m)), (.p (.int .i64 t)), (.p (.int .i64 l)), (.p (.isl 2 nc (S.val c))), (.p (.isl 2 ns (S.val s))), (.p (.int .i64 ta)), (.p (.int .i64 tm)), (.p (.int .i64 r)), (.p (.isl 2 nf (S.val f)))]))])))) = (ex (cs hbs) 1000 0 m3 ⟨ofL 0 [.ag (plC e m t l nc (S.val c) ns (S.val s) ta tm r nf (S.val f)), .c (.p (.int .i64 w)), .c (.p (.int .i64 mo))] .lf, []⟩ (endK F3.rs (fun r H => .pr (Q r H)) fun _ _ => .no)).hold2 := by kernel_rfl
end
end Go.Ab.B
set_option linter.all false
set_option maxRecDepth 100000
namespace Go.Ab.S
theorem plane_cor {e m t l : Int} {nc : Nat} {c : Rows} {ns : Nat} {s : Rows} {ta tm r : Int} {nf : Nat} {f : Rows} (h : plane e m t l nc c ns s ta tm r nf f = true) : cor nc c = true := by
  simp only [plane, corners, Bool.and_eq_true] at h
  exact h.1.1.1.1.1.2.1.2
end Go.Ab.S
namespace Go.Ab.B
open Go.Proofs
section
variable {hbs : BsOk Tryd.prog} (hT : TabOk (cs hbs)) (h8 : FCall (cs hbs) 8 [] (vB true) [])
include hT h8
theorem fc3 {e m t l : Int} {nc : Nat} {c : S.Rows} {ns : Nat} {s : S.Rows} {ta tm r : Int} {nf : Nat} {f : S.Rows} (hnc : nc ≤ maxLen) (hns : ns ≤ maxLen) (hnf : nf ≤ maxLen) (w mo : Int) :
    FCall (cs hbs) 3 [.ag (plC e m t l nc (S.val c) ns (S.val s) ta tm r nf (S.val f)), .c (.p (.int .i64 w)), .c (.p (.int .i64 mo))] (vB true) [] := by
  refine fcall_k hT (F := F3) rfl (vc3 e m t l nc c ns s ta tm r nf f w mo _) ?_
  repeat' first
    | refine ⟨h8, ?_⟩
    | refine ⟨fc27 hT hnc hns hnf, ?_⟩
    | refine ⟨fc29 hT _ _ _, ?_⟩
    | refine ⟨fc30 hT nc c w mo hnc ?_ ?_ ?_ ?_ ?_, ?_⟩
    | refine ⟨fc11 hT hnc hns hnf, ?_⟩
    | refine ⟨fc12 hT hnc ?_ ?_ ?_ ?_ ?_, ?_⟩
    | refine brP (fun _ => ?_) (fun _ => ?_)
  all_goals first
    | rfl
    | (exfalso; simp_all; done)
    | (exact S.plane_cor ‹_›)
    | (simp only [S.inB, Bool.and_eq_true, Bool.and_eq_false_iff, decide_eq_true_eq, decide_eq_false_iff_not] at *; omega)
end
end Go.Ab.B
