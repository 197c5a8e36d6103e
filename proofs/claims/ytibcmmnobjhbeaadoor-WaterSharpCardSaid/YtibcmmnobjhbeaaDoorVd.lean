/- A part of the proof: an evaluator of the program over plain values, proved sound, and what it gives. -/
import Derived.Test.YtibcmmnobjhbeaaDoorVe
import Derived.Lib.ItoaNum
import Derived.Deep.Slices
import Derived.DataReads
import Derived.ChangeSame
import Derived.OpenShut
import Derived.Carry
import Derived.Shelf.Strings.Builder1
import Derived.Shelf.Strconv.Itoa3
import Derived.ProofKit
import Derived.LaidMore
import Derived.Stop.Joined
set_option linter.all false
namespace Go.Ab
open Go.RowKit
def eqPB : PV → PV → Bool
  | .int k n, q => match q with
    | .int k' n' => match kEq k k' with | true => (match iLe n n' with | true => iLe n' n | false => false) | false => false
    | _ => false
  | .bool b, q => match q with
    | .bool b' => eqB b b'
    | _ => false
  | .str l, q => match q with
    | .str l' => l == l'
    | _ => false
  | .nsl, q => match q with
    | .nsl => true
    | .isl _ n _ => Nat.beq n 0
    | _ => false
  | .npt, q => match q with
    | .npt => true
    | _ => false
  | .isl e n f, q => match q with
    | .isl e' n' f' => match Nat.beq e e' with
      | true => match Nat.beq n n' with
        | true => allB n fun i => allB e fun j => eqPB (f i j) (f' i j)
        | false => false
      | false => false
    | _ => false
  | .ipt n f, q => match q with
    | .ipt n' f' => match Nat.beq n n' with
      | true => allB n fun j => eqPB (f j) (f' j)
      | false => false
    | _ => false
  | _, _ => false
theorem eqB_spec {a b : Bool} (h : eqB a b = true) : a = b := by cases a <;> cases b <;> first | rfl | cases h
theorem eqPB_rep {w : World} {Z : Nat → Prop} : ∀ {v v' : PV} {u : Value}, eqPB v v' = true → RepP w Z v u → RepP w Z v' u := by
  intro v
  induction v with
  | int k n =>
    intro v' u h hr
    cases v' <;> simp only [eqPB] at h <;> try cases h
    rename_i k' n'
    split at h <;> try cases h
    rename_i hk
    split at h <;> try cases h
    rename_i h1
    have := kEq_spec hk
    have h1 := iLe_spec h1
    have h2 := iLe_spec h
    have e : n = n' := by omega
    subst this e
    exact hr
  | bool b =>
    intro v' u h hr
    cases v' <;> simp only [eqPB] at h <;> try cases h
    rw [← eqB_spec h]; exact hr
  | str l =>
    intro v' u h hr
    cases v' <;> simp only [eqPB] at h <;> try cases h
    rw [← eq_of_beq h]; exact hr
  | nsl =>
    intro v' u h hr
    cases v' <;> simp only [eqPB] at h <;> try first | exact hr | cases h
    have hn := Nat.eq_of_beq_eq_true h
    subst hn
    cases hr
    exact .isl0 _ _ _ _
  | npt => intro v' u h hr; cases v' <;> simp only [eqPB] at h <;> first | exact hr | cases h
  | isl e n f ih =>
    intro v' u h hr
    cases v' <;> simp only [eqPB] at h <;> try cases h
    rename_i e' n' f'
    split at h <;> try cases h
    rename_i he
    split at h <;> try cases h
    rename_i hn
    have he := Nat.eq_of_beq_eq_true he
    have hn := Nat.eq_of_beq_eq_true hn
    subst he hn
    have h := fun i hi j hj => allB_spec (allB_spec h i hi) j hj
    cases hr with
    | isl0 a cap => exact .isl0 _ _ _ _
    | isl _ _ _ ad cap u hn hz hc hr => exact .isl _ _ _ ad cap u hn hz hc fun i j hi hj => ih i j (h i hi j hj) (hr i j hi hj)
  | ipt n f ih =>
    intro v' u h hr
    cases v' <;> simp only [eqPB] at h <;> try cases h
    rename_i n' f'
    split at h <;> try cases h
    rename_i hn
    have hn := Nat.eq_of_beq_eq_true hn
    subst hn
    have h := fun j hj => allB_spec h j hj
    cases hr with
    | ipt _ _ ad u hz hc hr => exact .ipt _ _ ad u hz hc fun j hj => ih j (h j hj) (hr j hj)
  | _ => intro v' u h; simp [eqPB] at h
def eqCB (c c' : CV) : Bool := match c, c' with
  | .p v, .p v' => eqPB v v'
  | _, _ => false
def eqLB : List CV → List CV → Bool
  | [], q => match q with | [] => true | _ => false
  | c :: l, q => match q with
    | c' :: l' => match eqCB c c' with | true => eqLB l l' | false => false
    | [] => false
mutual
def eqAB : AV → AV → Bool
  | .c c, q => match q with
    | .c c' => eqCB c c'
    | _ => false
  | .ag l, q => match q with
    | .ag l' => eqLB l l'
    | _ => false
  | .tp l, q => match q with
    | .tp l' => eqAs l l'
    | _ => false
  | .any, _ => false
def eqAs : List AV → List AV → Bool
  | [], q => match q with | [] => true | _ => false
  | a :: l, q => match q with
    | a' :: l' => match eqAB a a' with | true => eqAs l l' | false => false
    | [] => false
end
section
variable {w : World} {Z : Nat → Prop} {H : Heap} {φ : Nat → Value}
theorem eqCB_rep {c c' : CV} {u : Value} (h : eqCB c c' = true) (hr : RepC w Z H φ c u) : RepC w Z H φ c' u := by
  unfold eqCB at h
  split at h
  · exact eqPB_rep h hr
  · cases h
theorem eqLB_rep : ∀ {l l' : List CV} {us : List Value}, eqLB l l' = true → RepL w Z H φ l us → RepL w Z H φ l' us
  | [], l', us, h, hr => by
    cases l' with
    | nil => exact hr
    | cons _ _ => simp [eqLB] at h
  | c :: l, [], us, h, hr => by simp [eqLB] at h
  | c :: l, c' :: l', us, h, hr => by
    simp only [eqLB] at h
    split at h
    · rename_i hc
      obtain ⟨hlen, hall⟩ := hr
      match us, hlen with
      | u :: us, hlen =>
        have ih := eqLB_rep (l := l) (l' := l') (us := us) h ⟨by simpa using hlen, fun i c hi => by obtain ⟨x, hx, hr⟩ := hall (i + 1) c (by simpa using hi); exact ⟨x, by simpa using hx, hr⟩⟩
        refine ⟨by simpa using ih.1, fun i c2 hi => ?_⟩
        cases i with
        | zero =>
          obtain ⟨x, hx, hr⟩ := hall 0 c rfl
          simp at hi hx
          subst hi hx
          exact ⟨u, rfl, eqCB_rep hc hr⟩
        | succ i => obtain ⟨x, hx, hr⟩ := ih.2 i c2 (by simpa using hi); exact ⟨x, by simpa using hx, hr⟩
    · cases h
mutual
theorem eqAB_rep : ∀ {a a' : AV} {u : Value}, eqAB a a' = true → RepA w Z H φ a u → RepA w Z H φ a' u
  | .c c, a', u, h, hr => by
    cases a' <;> simp only [eqAB] at h <;> try cases h
    simp only [RepA] at hr ⊢; exact eqCB_rep h hr
  | .ag l, a', u, h, hr => by
    cases a' <;> simp only [eqAB] at h <;> try cases h
    simp only [RepA] at hr ⊢
    obtain ⟨us, e, hl⟩ := hr
    exact ⟨us, e, eqLB_rep h hl⟩
  | .tp l, a', u, h, hr => by
    cases a' <;> simp only [eqAB] at h <;> try cases h
    simp only [RepA] at hr ⊢
    obtain ⟨us, e, hl⟩ := hr
    exact ⟨us, e, eqAs_rep h hl⟩
  | .any, a', u, h, hr => by simp [eqAB] at h
theorem eqAs_rep : ∀ {l l' : List AV} {us : List Value}, eqAs l l' = true → RepAs w Z H φ l us → RepAs w Z H φ l' us
  | [], l', us, h, hr => by
    cases l' with
    | nil => exact hr
    | cons _ _ => simp [eqAs] at h
  | a :: l, [], us, h, hr => by simp [eqAs] at h
  | a :: l, a' :: l', us, h, hr => by
    simp only [eqAs] at h
    split at h
    · rename_i ha
      simp only [RepAs] at hr ⊢
      obtain ⟨u, us', e, h1, h2⟩ := hr
      exact ⟨u, us', e, eqAB_rep ha h1, eqAs_rep h h2⟩
    · cases h
end
end
theorem FCall.alike {C : Cfg} {f : FuncId} {args args' : List AV} {r r' : AV} {Hr : Heap} (h : FCall C f args' r' Hr) (ha : eqAs args args' = true) (hr : eqAB r' r = true) : FCall C f args r Hr :=
  fun w Z vs hz hg hv => (h w Z vs hz hg (eqAs_rep ha hv)).mono fun e w' ⟨u, Z', φ', h1, h2, h3, h4, h5, h6⟩ => ⟨u, Z', φ', h1, h2, h3, h4, h5, eqAB_rep hr h6⟩
theorem FCall.cfg {C C' : Cfg} (hP : C.P = C'.P) (hG : C.G = C'.G) {f : FuncId} {args : List AV} {r : AV} {Hr : Heap} (h : FCall C f args r Hr) : FCall C' f args r Hr := by
  intro w Z vs hz hg hv
  rw [← hG] at hg
  have := h w Z vs hz hg hv
  rw [hP] at this
  refine this.mono fun e w' ⟨u, Z', φ', h1, h2, h3, h4, h5, h6⟩ => ⟨u, Z', φ', h1, h2, h3, h4, ⟨h5.zlt, fun k b hk => ?_, h5.own, h5.sep, h5.inj⟩, h6⟩
  have := h5.blk k b hk
  cases b <;> try exact this
  rename_i nt t ps a b st
  obtain ⟨l, L, e1, g1, g2, g3, g4, g5, g6⟩ := this
  exact ⟨l, L, e1, g1, g2, g3, hP ▸ g4, hP ▸ g5, g6⟩
theorem fcall_sp {C : Cfg} (hT : TabOk C) {f : FuncId} {F : Fn} (hf : C.T f = some F) {args : List AV} {fuel : Nat} {r : AV} {Hr : Heap} {V : VC}
    (hV : ex C fuel 0 F.mc ⟨ofL 0 args .lf, []⟩ (endK F.rs (fun r' Hr' => .pr (r' = r ∧ Hr' = Hr)) fun _ _ => .no) = V) (h : V.holds) : FCall C f args r Hr := by
  obtain ⟨r', H', ⟨rfl, rfl⟩, h⟩ := fcall_ex hT hf (Q := fun r' Hr' => r' = r ∧ Hr' = Hr) (hV ▸ h)
  exact h
theorem iter_of {σ : Type} {n0 : Nat} {step : St → KT → VC} {K : KT} (S : σ → St → Prop) (m : σ → Nat)
    (h : ∀ i s, S i s → ∀ X : St → Prop, (∀ j s', m j < m i → S j s' → X s') → ∃ s', Wk n0 s s' ∧ (step s' (lpX X K)).holds) : ∀ i s, S i s → Iter n0 step K s := by
  intro i s hs X hX
  have key : ∀ (k : Nat) i s, m i = k → S i s → X s := by
    intro k
    induction k using Nat.strongRecOn with
    | _ k ih =>
      intro i s hm hs
      obtain ⟨s', hw, hst⟩ := h i s hs X fun j s' hj hs' => ih (m j) (hm ▸ hj) j s' rfl hs'
      exact hX s s' hw hst
  exact key _ i s rfl hs
theorem fcall_p {C : Cfg} (hT : TabOk C) {f : FuncId} {F : Fn} (hf : C.T f = some F) {args : List AV} {fuel : Nat} {r : AV} {Hr : Heap} {p : Prop}
    (hV : p = (ex C fuel 0 F.mc ⟨ofL 0 args .lf, []⟩ (endK F.rs (fun r' Hr' => .pr (r' = r ∧ Hr' = Hr)) fun _ _ => .no)).hold2) (h : p) : FCall C f args r Hr := by
  obtain ⟨r', H', ⟨rfl, rfl⟩, h⟩ := fcall_ex hT hf (Q := fun r' Hr' => r' = r ∧ Hr' = Hr) (hold2_holds (hV ▸ h))
  exact h
def setAll : List (Ps × AV) → Tr
  | [] => .lf
  | (p, v) :: l => Tr.set p v (setAll l)
theorem setAll_get {t : Tr} : ∀ (l : List (Ps × AV)), (∀ p v, (p, v) ∈ l → Tr.get p t = v) → ∀ p, Tr.get p (setAll l) = .any ∨ Tr.get p (setAll l) = Tr.get p t
  | [], _, p => .inl (Tr.get_lf p)
  | (q, v) :: l, h, p => by
    simp only [setAll, Tr.get_set]
    split
    · rename_i hp; subst hp; exact .inr (h p v (by simp)).symm
    · exact setAll_get l (fun p v hm => h p v (List.mem_cons_of_mem _ hm)) p
def refC (n : Nat) : CV → Bool
  | .p _ => true
  | .sl k _ _ => Nat.blt k n
  | .pt k _ => Nat.blt k n
  | .pe k _ _ => Nat.blt k n
  | .ref k => Nat.blt k n
  | .unk => true
def refL (n : Nat) : List CV → Bool
  | [] => true
  | c :: l => match refC n c with | true => refL n l | false => false
mutual
def refA (n : Nat) : AV → Bool
  | .c c => refC n c
  | .ag l => refL n l
  | .tp l => refAs n l
  | .any => true
def refAs (n : Nat) : List AV → Bool
  | [] => true
  | a :: l => match refA n a with | true => refAs n l | false => false
end
def refT (n : Nat) : Tr → Bool
  | .lf => true
  | .nd l v r => match refT n l with | true => (match refA n v with | true => refT n r | false => false) | false => false
def refB (n : Nat) : Blk → Bool
  | .arr _ _ _ _ _ => true
  | .box _ l => refL n l
  | .clo _ fs cs => match refAs n fs with | true => refAs n cs | false => false
  | .lp _ t _ _ _ _ => refT n t
  | _ => false
def refH (n : Nat) : Heap → Bool
  | [] => true
  | none :: l => refH n l
  | some b :: l => match refB n b with | true => refH n l | false => false
def idR (n : Nat) : List (Option Nat) := (List.range n).map some
theorem idR_get {n k : Nat} (h : k < n) : (idR n)[k]? = some (some k) := by simp [idR, h]
theorem blt_lt {k n : Nat} (h : Nat.blt k n = true) : k < n := Nat.le_of_ble_eq_true h
theorem refC_wc {n : Nat} {c : CV} (h : refC n c = true) : WC (idR n) c c := by
  cases c <;> simp only [refC] at h <;> simp only [WC]
  · exact .inl rfl
  · exact ⟨idR_get (blt_lt h), by simp⟩
  · exact ⟨idR_get (blt_lt h), by simp⟩
  · exact ⟨idR_get (blt_lt h), by simp⟩
  · exact idR_get (blt_lt h)
theorem refL_wl {n : Nat} : ∀ {l : List CV}, refL n l = true → WL (idR n) l l
  | [], _ => trivial
  | c :: l, h => by
    simp only [refL] at h
    split at h
    · rename_i hc; exact ⟨refC_wc hc, refL_wl h⟩
    · cases h
mutual
theorem refA_wa {n : Nat} : ∀ {a : AV}, refA n a = true → WA (idR n) a a
  | .c c, h => by simp only [refA] at h; simp only [WA]; exact refC_wc h
  | .ag l, h => by simp only [refA] at h; simp only [WA]; exact refL_wl h
  | .tp l, h => by simp only [refA] at h; simp only [WA]; exact refAs_wa h
  | .any, _ => by simp only [WA]
theorem refAs_wa {n : Nat} : ∀ {l : List AV}, refAs n l = true → WAs (idR n) l l
  | [], _ => by simp only [WAs]
  | a :: l, h => by
    simp only [refAs] at h
    split at h
    · rename_i ha; simp only [WAs]; exact ⟨refA_wa ha, refAs_wa h⟩
    · cases h
end
theorem refT_wt {n : Nat} : ∀ {t : Tr}, refT n t = true → WT (idR n) t t
  | .lf, _ => by simp only [WT]
  | .nd l v r, h => by
    simp only [refT] at h
    split at h
    · rename_i h1
      split at h
      · rename_i h2; simp only [WT]; exact ⟨refT_wt h1, refA_wa h2, refT_wt h⟩
      · cases h
    · cases h
theorem upsB_id (ups : List Nat) : ∀ (n k : Nat), upsB ups ups k ((List.range' k n).map some) = true
  | 0, k => by simp [upsB]
  | n + 1, k => by
    simp only [List.range'_succ, List.map_cons, upsB]
    split
    · exact upsB_id ups n (k + 1)
    · exact upsB_id ups n (k + 1)
theorem refB_wb {n : Nat} {b : Blk} (h : refB n b = true) : WB (idR n) b b := by
  cases b with
  | arr e t m f ups => exact ⟨rfl, rfl, rfl, fun _ _ _ _ => rfl, by have := upsB_id ups n 0; rwa [← List.range_eq_range'] at this⟩
  | box t l => exact ⟨rfl, refL_wl h⟩
  | clo f fs cs =>
    simp only [refB] at h
    split at h
    · rename_i h1; exact ⟨rfl, refAs_wa h1, refAs_wa h⟩
    · cases h
  | lp nt t ps a b st => exact ⟨rfl, rfl, rfl, rfl, rfl, refT_wt h⟩
  | mp l => cases h
  | mpi l => cases h
  | sit => cases h
  | mpp => cases h
  | unb => cases h
theorem refH_wh {n : Nat} (H : Heap) : ∀ (l : Heap) (k : Nat), refH n l = true → (∀ (i : Nat) (b : Option Blk), l[i]? = some b → H[k + i]? = some b) → WH H (idR n) ((List.range' k l.length).map some) l
  | [], k, _, _ => by simp [WH]
  | b :: l, k, h, hH => by
    simp only [List.length_cons, List.range'_succ, List.map_cons, WH]
    have h0 := hH 0 b rfl
    cases b with
    | none =>
      simp only [refH] at h
      exact ⟨trivial, refH_wh H l (k + 1) h fun i b hb => by have := hH (i + 1) b (by simpa using hb); rwa [show k + 1 + i = k + (i + 1) by omega]⟩
    | some b =>
      simp only [refH] at h
      split at h
      · rename_i hb
        refine ⟨?_, refH_wh H l (k + 1) h fun i b hb => by have := hH (i + 1) b (by simpa using hb); rwa [show k + 1 + i = k + (i + 1) by omega]⟩
        simp only [Nat.add_zero] at h0
        simp only [h0]
        exact refB_wb hb
      · cases h
theorem WT_setAll {ρ : List (Option Nat)} {t : Tr} : ∀ {t' : Tr}, (∀ p, Tr.get p t' = .any ∨ WA ρ (Tr.get p t) (Tr.get p t')) → WT ρ t t'
  | .lf, _ => by cases t <;> simp only [WT]
  | .nd l' v' r', h => by
    have h0 := h .h
    have hl := fun p => h (.o p)
    have hr := fun p => h (.i p)
    simp only [Tr.get] at h0 hl hr
    cases t with
    | lf =>
      simp only [WT]
      refine ⟨WT_setAll fun p => (hl p).imp id fun h => by rwa [Tr.get_lf], ?_, WT_setAll fun p => (hr p).imp id fun h => by rwa [Tr.get_lf]⟩
      rcases h0 with h0 | h0
      · rw [h0]; simp only [WA]
      · exact h0
    | nd l v r =>
      simp only [WT]
      refine ⟨WT_setAll hl, ?_, WT_setAll hr⟩
      rcases h0 with h0 | h0
      · rw [h0]; simp only [WA]
      · exact h0
theorem nodup_id : ∀ (n k : Nat), nodupB ((List.range' k n).map some) = true
  | 0, k => rfl
  | n + 1, k => by
    simp only [List.range'_succ, List.map_cons, nodupB, Bool.and_eq_true, Bool.not_eq_true', nodup_id n (k + 1), and_true]
    rw [Bool.eq_false_iff]
    intro h
    have := List.contains_iff_mem.1 h
    simp at this
    omega
theorem still_id (H : Heap) : ∀ (n : Nat), n ≤ H.length → stillB (idR H.length) H n = true
  | 0, _ => rfl
  | n + 1, h => by
    simp only [stillB]
    have : H[n]? = some H[n] := List.getElem?_eq_getElem (by omega)
    rw [this]
    cases H[n] with
    | none => exact still_id H n (by omega)
    | some b =>
      simp only [idR_get (show n < H.length by omega)]
      rw [show Nat.beq n n = true from Nat.beq_refl n]
      exact still_id H n (by omega)
def Has (s : St) (l : List (Ps × AV)) (H : Heap) : Prop := (∃ ex, s.h = H ++ ex) ∧ refH H.length H = true ∧ ∀ p v, (p, v) ∈ l → Tr.get p s.t = v ∧ refA H.length v = true
theorem Has.wk {s : St} {l : List (Ps × AV)} {H : Heap} (h : Has s l H) {n0 : Nat} (hn : n0 ≤ H.length) : Wk n0 s ⟨setAll l, H⟩ := by
  obtain ⟨⟨ex, he⟩, hH, hl⟩ := h
  refine .inr (.inl ⟨idR H.length, by have := nodup_id H.length 0; rwa [← List.range_eq_range'] at this, still_id H n0 hn, WT_setAll fun p => ?_, ?_⟩)
  · have key : ∀ l : List (Ps × AV), (∀ p v, (p, v) ∈ l → Tr.get p s.t = v ∧ refA H.length v = true) → Tr.get p (setAll l) = .any ∨ WA (idR H.length) (Tr.get p s.t) (Tr.get p (setAll l)) := by
      intro l
      induction l with
      | nil => intro _; exact .inl (Tr.get_lf p)
      | cons x l ih =>
        intro hl
        obtain ⟨q, v⟩ := x
        simp only [setAll, Tr.get_set]
        split
        · rename_i hp
          subst hp
          obtain ⟨h1, h2⟩ := hl p v (by simp)
          rw [h1]
          exact .inr (refA_wa h2)
        · exact ih fun p v hm => hl p v (List.mem_cons_of_mem _ hm)
    exact key l hl
  · have := refH_wh s.h H 0 hH fun i b hb => by
      rw [he, Nat.zero_add, List.getElem?_append_left (List.getElem?_eq_some_iff.1 hb).1]
      exact hb
    rwa [← List.range_eq_range'] at this
theorem Has.nil {s : St} {H ex : Heap} (h : s.h = H ++ ex) (hr : refH H.length H = true) : Has s [] H := ⟨⟨ex, h⟩, hr, fun _ _ h => by cases h⟩
theorem Has.cons {s : St} {p : Ps} {v : AV} {l : List (Ps × AV)} {H : Heap} (h1 : Tr.get p s.t = v) (h2 : refA H.length v = true) (h : Has s l H) : Has s ((p, v) :: l) H :=
  ⟨h.1, h.2.1, fun q u hm => by
    rcases List.mem_cons.1 hm with e | hm
    · cases e; exact ⟨h1, h2⟩
    · exact h.2.2 q u hm⟩
theorem up_end {n0 : Nat} {K : KT} {e : AX} {s s' : St} (hf : UpR n0 e s s') (h : (K e s').holds) : (upK n0 K e s).holds := ⟨s', hf, h⟩
theorem loop_go {σ : Type} {E : Ev} {n0 : Nat} {a : MC} (live : σ → List (Ps × AV)) (H : σ → Heap) (Ok : σ → Prop) (m : σ → Nat) (L : σ → LTree) (hn : ∀ i, n0 ≤ (H i).length)
    (h : ∀ i, Ok i → ∀ (K : KT), ((L i).run K).holds → ∀ X : St → Prop, (∀ j s', m j < m i → Ok j → Has s' (live j) (H j) → (((L j).run K).holds) → X s') → (E n0 a ⟨setAll (live i), H i⟩ (lpX X (upK n0 K))).holds) :
    ∀ i s, Ok i → Has s (live i) (H i) → LoopGo E n0 a s (L i) := by
  intro i s hi hs K hK
  exact iter_of (K := upK n0 K) (fun j s => Ok j ∧ Has s (live j) (H j) ∧ ((L j).run K).holds) m (fun i s hs X hX =>
    ⟨⟨setAll (live i), H i⟩, hs.2.1.wk (hn i), h i hs.1 K hs.2.2 X fun j s' hm ho hh hl => hX j s' hm ⟨ho, hh, hl⟩⟩) i s ⟨hi, hs, hK⟩
end Go.Ab
namespace Go.Ab
open Go.RowKit
def digs : Nat → Nat → List UInt8 → List UInt8
  | 0, _, acc => acc
  | f + 1, n, acc => match Nat.ble 10 n with
    | true => digs f (n / 10) (UInt8.ofNat (48 + n % 10) :: acc)
    | false => UInt8.ofNat (48 + n) :: acc
theorem digs_eq : ∀ {f n : Nat} {acc : List UInt8}, n < 10 ^ f → 0 < f → digs f n acc = Lib.decDigits n ++ acc
  | 0, _, _, _, h => by omega
  | f + 1, n, acc, h, _ => by
    simp only [digs]
    split
    · rename_i hb
      have hb := Nat.le_of_ble_eq_true hb
      have hf : 0 < f := by
        rcases Nat.eq_zero_or_pos f with rfl | h0
        · simp at h; omega
        · exact h0
      have h1 : n / 10 < 10 ^ f := by
        rw [Nat.pow_succ] at h
        omega
      rw [digs_eq h1 hf]
      conv => rhs; rw [Lib.decDigits]
      rw [dif_neg (by omega)]
      simp
    · rename_i hb
      have hb : n < 10 := by
        rcases Nat.lt_or_ge n 10 with h | h
        · exact h
        · rw [Nat.ble_eq_true_of_le h] at hb; cases hb
      conv => rhs; rw [Lib.decDigits]
      rw [dif_pos hb]
      simp
def itoaB : Int → List UInt8
  | .ofNat n => digs 20 n []
  | .negSucc n => 45 :: digs 20 (n + 1) []
theorem itoaB_eq {n : Int} (h0 : -9223372036854775808 ≤ n) (h1 : n ≤ 9223372036854775807) : itoaB n = Lib.itoa n := by
  cases n with
  | ofNat n =>
    simp only [Int.ofNat_eq_natCast] at h0 h1
    simp only [itoaB, Lib.itoa, Int.ofNat_eq_natCast]
    rw [digs_eq (by have : n ≤ 9223372036854775807 := by omega
                    exact Nat.lt_of_le_of_lt this (by decide)) (by decide)]
    rw [if_neg (by omega)]
    simp
  | negSucc n =>
    simp only [itoaB, Lib.itoa]
    rw [digs_eq (by have : n + 1 ≤ 9223372036854775808 := by omega
                    exact Nat.lt_of_le_of_lt this (by decide)) (by decide)]
    rw [if_pos (by omega)]
    simp
def gItoa (args : List AV) : Option AV :=
  match args with
  | [.c (.p (.int .i64 n))] => match iLe (-9223372036854775808) n with
    | true => match iLe n 9223372036854775807 with
      | true => some (vP (.str (itoaB n)))
      | false => none
    | false => none
  | _ => none
theorem gItoa_some {args : List AV} {r : AV} (h : gItoa args = some r) : ∃ n : Int, args = [.c (.p (.int .i64 n))] ∧ -9223372036854775808 ≤ n ∧ n ≤ 9223372036854775807 ∧ r = vP (.str (Lib.itoa n)) := by
  unfold gItoa at h
  split at h
  · rename_i n
    split at h
    · rename_i h1
      split at h
      · rename_i h2
        cases h
        exact ⟨n, rfl, iLe_spec h1, iLe_spec h2, by rw [itoaB_eq (iLe_spec h1) (iLe_spec h2)]⟩
      · cases h
    · cases h
  · cases h
end Go.Ab
namespace Go.Ab
open Go.RowKit
inductive TS where
  | int (k : IntKind)
  | bool
  | str
  | sl (l : List TS)
def intOf : PV → Int
  | .int _ n => n
  | _ => 0
def boolOf : PV → Bool
  | .bool b => b
  | _ => false
def strOf : PV → List UInt8
  | .str l => l
  | _ => []
def lenOf : PV → Nat
  | .isl _ n _ => n
  | _ => 0
def rowOf : PV → Nat → Nat → PV
  | .isl _ _ f => f
  | _ => fun _ _ => .npt
mutual
def cnv : TS → PV → PV
  | .int k, v => .int k (intOf v)
  | .bool, v => .bool (boolOf v)
  | .str, v => .str (strOf v)
  | .sl l, v => .isl l.length (lenOf v) fun i j => cnvL l (rowOf v i) 0 j
def cnvL : List TS → (Nat → PV) → Nat → Nat → PV
  | [], _, _, _ => .npt
  | t :: l, g, b, j => match j with
    | 0 => cnv t (g b)
    | j + 1 => cnvL l g (b + 1) j
end
mutual
def Wf : TS → PV → Prop
  | .int k, v => (Lit.int k (intOf v)).wf = true
  | .bool, _ => True
  | .str, v => (strOf v).length ≤ maxLen
  | .sl l, v => lenOf v ≤ maxLen ∧ ∀ i, i < lenOf v → WfL l (rowOf v i) 0
def WfL : List TS → (Nat → PV) → Nat → Prop
  | [], _, _ => True
  | t :: l, g, b => Wf t (g b) ∧ WfL l g (b + 1)
end
theorem cnvL_get : ∀ {l : List TS} {g : Nat → PV} {b j : Nat} {t : TS}, l[j]? = some t → cnvL l g b j = cnv t (g (b + j))
  | [], _, _, _, _, h => by simp at h
  | t' :: l, g, b, 0, t, h => by simp at h; subst h; simp [cnvL]
  | t' :: l, g, b, j + 1, t, h => by
    simp only [cnvL]
    rw [cnvL_get (l := l) (t := t) (by simpa using h)]
    congr 2; omega
theorem wfL_of : ∀ {l : List TS} {g : Nat → PV} {b : Nat}, (∀ j t, l[j]? = some t → Wf t (g (b + j))) → WfL l g b
  | [], _, _, _ => by simp only [WfL]
  | t :: l, g, b, h => by
    simp only [WfL]
    refine ⟨h 0 t rfl, wfL_of fun j t' hj => ?_⟩
    have := h (j + 1) t' (by simpa using hj)
    rwa [show b + 1 + j = b + (j + 1) by omega]
def flatFs (P : Program) (F : TypeId → Option (List TS)) : List Field → Nat → Option (List TS)
  | [], _ => some []
  | f :: fs, off => match Nat.beq f.offset off with
    | true => match F f.type with
      | some a => match flatFs P F fs (off + P.cellsOf f.type) with
        | some b => match Nat.beq a.length (P.cellsOf f.type) with
          | true => some (a ++ b)
          | false => none
        | none => none
      | none => none
    | false => none
def flatTS (P : Program) : Nat → TypeId → Option (List TS)
  | 0, _ => none
  | f + 1, t => match P.underlying t with
    | some .bool => some [.bool]
    | some (.int k) => some [.int k]
    | some .string => some [.str]
    | some (.slice e) => match flatTS P f e with
      | some l => match (Nat.beq l.length (P.cellsOf e) && Nat.ble 1 l.length) with
        | true => some [.sl l]
        | false => none
      | none => none
    | some (.struct fs) => match flatFs P (flatTS P f) fs.toList 0 with
      | some l => match Nat.beq l.length (P.cellsOf t) with
        | true => some l
        | false => none
      | none => none
    | _ => none
def Cells (w : World) (l : List TS) (cs : List Value) : Prop :=
  cs.length = l.length ∧ ∃ g : Nat → PV, ∀ j t, l[j]? = some t → ∃ u, cs[j]? = some u ∧ RepP w (fun b => b < w.heap.size) (cnv t (g j)) u ∧ Wf t (g j)
section
variable {H : Type} {enc : TypeId × Value → H} {P : Program} {w : World} {base : Nat} {spare : Nat → Bool} {held : Bool}
theorem cell_lt {w : World} {a : Addr} {v : Value} (h : w.cell? a = some v) : a.block < w.heap.size := by
  unfold World.cell? at h
  split at h
  · rename_i hb; exact (Array.getElem?_eq_some_iff.1 hb).1
  · cases h
theorem Cells.one {t : TS} {v : PV} {u : Value} (h : RepP w (fun b => b < w.heap.size) (cnv t v) u) (hw : Wf t v) : Cells w [t] [u] :=
  ⟨rfl, fun _ => v, fun j t' hj => by
    match j, hj with
    | 0, hj => cases hj; exact ⟨u, rfl, h, hw⟩⟩
theorem Cells.append {l l' : List TS} {cs cs' : List Value} (h : Cells w l cs) (h' : Cells w l' cs') : Cells w (l ++ l') (cs ++ cs') := by
  obtain ⟨h1, g, h2⟩ := h
  obtain ⟨h1', g', h2'⟩ := h'
  refine ⟨by simp [h1, h1'], fun j => if j < l.length then g j else g' (j - l.length), fun j t hj => ?_⟩
  by_cases hjl : j < l.length
  · rw [List.getElem?_append_left hjl] at hj
    obtain ⟨u, hu, hr, hw⟩ := h2 j t hj
    refine ⟨u, by rw [List.getElem?_append_left (by omega)]; exact hu, ?_, ?_⟩ <;> simp only [hjl, if_true] <;> assumption
  · rw [List.getElem?_append_right (by omega)] at hj
    obtain ⟨u, hu, hr, hw⟩ := h2' (j - l.length) t hj
    refine ⟨u, by rw [List.getElem?_append_right (by omega), h1]; exact hu, ?_, ?_⟩ <;> simp only [hjl, if_false] <;> assumption
theorem flatFs_cells {F : TypeId → Option (List TS)} {T : TypeId → List Value → Option (DataW H × List MemPlace)} (hF : ∀ t l cs x, F t = some l → T t cs = some x → Cells w l cs) :
    ∀ {fs : List Field} {off : Nat} {l : List TS} {cs : List Value} {r : List (DataW H × List MemPlace)}, flatFs P F fs off = some l → (fs.mapM fun f => T f.type ((cs.drop f.offset).take (P.cellsOf f.type))) = some r → Cells w l ((cs.drop off).take l.length)
  | [], off, l, cs, r, h, _ => by
    simp only [flatFs] at h
    cases h
    exact ⟨by simp, fun _ => .npt, fun j t hj => by simp at hj⟩
  | f :: fs, off, l, cs, r, h, hr => by
    simp only [flatFs] at h
    split at h <;> try cases h
    rename_i ho
    have ho := Nat.eq_of_beq_eq_true ho
    split at h <;> try cases h
    rename_i a ha
    split at h <;> try cases h
    rename_i b hb
    split at h <;> try cases h
    rename_i hl
    have hl := Nat.eq_of_beq_eq_true hl
    simp only [List.mapM_cons, Option.pure_def, Option.bind_eq_bind, Option.bind_eq_some_iff] at hr
    obtain ⟨x, hx, r', hr', _⟩ := hr
    have h1 := hF _ _ _ _ ha hx
    have h2 := flatFs_cells hF hb hr'
    have e : (cs.drop off).take (a ++ b).length = (cs.drop f.offset).take (P.cellsOf f.type) ++ (cs.drop (off + P.cellsOf f.type)).take b.length := by
      rw [ho, List.length_append, hl, List.take_add, List.drop_drop]
    rw [e]
    exact h1.append h2
theorem trod_cells : ∀ (k fuel : Nat) (t : TypeId) (l : List TS) (cs : List Value) (x : DataW H × List MemPlace), flatTS P k t = some l → DataW.trod enc P w base spare held fuel t cs = some x → Cells w l cs := by
  intro k
  induction k with
  | zero => intro fuel t l cs x hk; simp [flatTS] at hk
  | succ k ihn =>
    intro fuel t l cs x hk h
    cases fuel with
    | zero => simp [DataW.trod] at h
    | succ fuel =>
      simp only [flatTS] at hk
      split at hk
      · rename_i hu
        cases hk
        obtain ⟨b, rfl, _⟩ := DataW.trod_bool hu h
        exact Cells.one (v := .bool b) (by simp only [cnv, boolOf]; exact .bool _) (by simp only [Wf])
      · rename_i kk hu
        cases hk
        obtain ⟨n, rfl, _, hw⟩ := DataW.trod_int hu h
        exact Cells.one (v := .int kk n) (by simp only [cnv, intOf]; exact .int _ _) (by simp only [Wf, intOf]; exact hw)
      · rename_i hu
        cases hk
        obtain ⟨s, rfl, _, hs⟩ := DataW.trod_string hu h
        refine Cells.one (v := .str s.data.toList) (by simp only [cnv, strOf]; exact .str _) (by simp only [Wf, strOf]; simpa using hs)
      · rename_i e hu
        split at hk <;> try cases hk
        rename_i le hle
        split at hk <;> try cases hk
        rename_i hlen
        simp only [Bool.and_eq_true] at hlen
        have hl0 := Nat.le_of_ble_eq_true hlen.2
        have hlen := Nat.eq_of_beq_eq_true hlen.1
        rcases Deep.open_slice hu h with ⟨rfl, _⟩ | ⟨a, len, cap, m, n, D, Pl, rfl, hb, hl, hm, hmm, _, hx⟩
        · exact Cells.one (v := .isl le.length 0 fun _ _ => .npt) (by simp only [cnv, lenOf]; exact .isl0 _ _ _ _) (by simp only [Wf, lenOf]; exact ⟨Nat.zero_le _, fun i hi => by omega⟩)
        · have hlm : len ≤ m := by rw [hmm]; split <;> omega
          have hrow : ∀ i, i < len → ∃ q : List Value × (Nat → PV), w.cells? base (a.add (i * P.cellsOf e)) (P.cellsOf e) = some q.1 ∧ q.1.length = le.length ∧ ∀ j t, le[j]? = some t → ∃ u, q.1[j]? = some u ∧ RepP w (fun b => b < w.heap.size) (cnv t (q.2 j)) u ∧ Wf t (q.2 j) := fun i hi => by
            obtain ⟨cs', h1, h2⟩ := hx i (by omega)
            obtain ⟨hcl, g, hg⟩ := ihn n e le cs' _ hle h2
            exact ⟨(cs', g), h1, hcl, hg⟩
          haveI : Inhabited (List Value × (Nat → PV)) := ⟨([], fun _ => .npt)⟩
          obtain ⟨q, hq⟩ := Deep.choose_lt (α := List Value × (Nat → PV)) hrow
          refine Cells.one (v := .isl le.length len fun i j => (q i).2 j) ?_ ?_
          · simp only [cnv, lenOf, rowOf]
            rcases Nat.eq_zero_or_pos len with rfl | hpos
            · exact .isl0 _ _ _ _
            have hcell : ∀ i j, i < len → j < le.length → ∃ u t, w.cell? (a.add (i * le.length + j)) = some u ∧ le[j]? = some t ∧ (q i).1[j]? = some u ∧ RepP w (fun b => b < w.heap.size) (cnv t ((q i).2 j)) u := fun i j hi hj => by
              obtain ⟨h1, h2, h3⟩ := hq i hi
              obtain ⟨_, _, h4⟩ := World.cells?_some h1
              obtain ⟨u, hu, hr, _⟩ := h3 j le[j] (by simp [hj])
              refine ⟨u, le[j], ?_, by simp [hj], hu, hr⟩
              rw [← hu, ← h4 j (by omega), Addr.add_add, hlen]
            refine .isl _ _ _ a cap (fun i j => (q i).1.getD j undef) hl ?_ (fun i j hi hj => ?_) (fun i j hi hj => ?_)
            · obtain ⟨u, t, h1, _⟩ := hcell 0 0 hpos hl0
              have := cell_lt h1
              rwa [add_block] at this
            · obtain ⟨u, t, h1, _, h3, _⟩ := hcell i j hi hj
              rw [h1]
              simp [List.getD, h3]
            · obtain ⟨u, t, h1, h2, h3, h4⟩ := hcell i j hi hj
              rw [cnvL_get h2]
              simpa [List.getD, h3] using h4
          · simp only [Wf, lenOf, rowOf]
            refine ⟨by omega, fun i hi => wfL_of fun j t hj => ?_⟩
            obtain ⟨_, _, h3⟩ := hq i hi
            obtain ⟨u, _, _, hw⟩ := h3 j t hj
            rwa [Nat.zero_add]
      · rename_i fs hu
        split at hk <;> try cases hk
        rename_i l' hfs
        split at hk <;> try cases hk
        rename_i hlen
        have hlen := Nat.eq_of_beq_eq_true hlen
        simp only [DataW.trod, hu] at h
        split at h
        · rename_i hcl
          rw [Option.map_eq_some_iff] at h
          obtain ⟨r, hr, _⟩ := h
          have := flatFs_cells (F := flatTS P k) (T := DataW.trod enc P w base spare held fuel) (fun t l cs x h1 h2 => ihn fuel t l cs x h1 h2) hfs hr
          rwa [List.drop_zero, hlen, ← hcl, List.take_length] at this
        · cases h
      · cases hk
def argA : List TS → Bool → (Nat → PV) → AV
  | l, agg, g => match agg with
    | true => .ag (l.zipIdx.map fun p => .p (cnv p.1 (g p.2)))
    | false => match l with
      | t :: _ => .c (.p (cnv t (g 0)))
      | [] => .any
theorem trod_agg {k fuel : Nat} {t : TypeId} {l : List TS} {cs : Array Value} {x : DataW H × List MemPlace} (hl : flatTS P k t = some l) (h : DataW.trod enc P w base spare held fuel t (Value.agg cs).cells.toList = some x) {H' : Heap} {φ : Nat → Value} :
    ∃ g, RepA w (fun b => b < w.heap.size) H' φ (argA l true g) (.agg cs) ∧ ∀ j t, l[j]? = some t → Wf t (g j) := by
  obtain ⟨hlen, g, hg⟩ := trod_cells k fuel t l _ _ hl h
  have hlen : cs.toList.length = l.length := hlen
  refine ⟨g, ?_, fun j t hj => let ⟨_, _, _, hw⟩ := hg j t hj; hw⟩
  simp only [argA, RepA]
  refine ⟨cs.toList, by simp, by simp [hlen], fun i c hc => ?_⟩
  simp only [List.getElem?_map, Option.map_eq_some_iff, List.getElem?_zipIdx] at hc
  obtain ⟨p, ⟨t, ht, rfl⟩, rfl⟩ := hc
  obtain ⟨u, hu, hr, _⟩ := hg i t ht
  refine ⟨u, hu, ?_⟩
  simpa [RepC] using hr
theorem trod_one {k fuel : Nat} {t : TypeId} {ts : TS} {v : Value} {x : DataW H × List MemPlace} (hl : flatTS P k t = some [ts]) (hv : v.cells.toList = [v]) (h : DataW.trod enc P w base spare held fuel t v.cells.toList = some x) {H' : Heap} {φ : Nat → Value} :
    ∃ g, RepA w (fun b => b < w.heap.size) H' φ (argA [ts] false g) v ∧ Wf ts (g 0) := by
  obtain ⟨hlen, g, hg⟩ := trod_cells k fuel t [ts] _ _ hl h
  obtain ⟨u, hu, hr, hw⟩ := hg 0 ts rfl
  rw [hv] at hu
  cases hu
  exact ⟨g, by simp only [argA, RepA]; exact hr, hw⟩
end
end Go.Ab
namespace Go.Ab
open Go.RowKit Go.Shelf Go.Proofs
variable {P : Program} {ρ : Ren}
set_option maxHeartbeats 1000000 in
set_option maxRecDepth 100000 in
theorem cc_fresh (L : Lays.n240 P ρ) (X : Builder.X72 P ρ) (b t n : Nat) (w : World) (h0 : w.cell? ⟨b, 0, none⟩ = some (.pointer none)) (hsh : w.shape? b = some (t, n)) (hn : 0 < n) (hlies : liesAt P P.depth t (n / P.cellsOf t) 0 (ρ.t 72) 1 = true) (hfz : w.frozen? ⟨b, 0, none⟩ = false) :
    Calls P (ρ.f 240) #[.pointer (some ⟨b, 0, none⟩)] w fun e w' => e = .returned (.tuple #[]) ∧ w' = w.setCell ⟨b, 0, none⟩ (.pointer (some ⟨b, 0, none⟩)) := by
  obtain ⟨j, hj, hjs⟩ := Option.map_eq_some_iff.1 X.sizeBuilder
  have hto := Lib.run_to_unsafe w ⟨b, 0, none⟩ L.t70 L.t164 hj (by rw [hjs]; decide) hsh hn
  have hfrom := Lib.run_from_unsafe w ⟨b, 0, none⟩ L.t164 L.t70 hj hsh hlies
  clear hlies hsh hn
  have mixed := L.mixed
  have t72 := L.t72; have a72 := L.a72; have z72 := L.z72; have v72 := L.v72; have u72 := run_underlying L.t72
  have t70 := L.t70; have a70 := L.a70; have z70 := L.z70; have v70 := L.v70; have u70 := run_underlying L.t70
  have t9 := L.t9; have a9 := L.a9; have z9 := L.z9; have v9 := L.v9; have u9 := run_underlying L.t9
  have t4 := L.t4; have a4 := L.a4; have z4 := L.z4; have v4 := L.v4; have u4 := run_underlying L.t4
  have t164 := L.t164; have a164 := L.a164; have z164 := L.z164; have v164 := L.v164; have u164 := run_underlying L.t164
  go_enter L.f240, Body.n240_ntmps ρ
  go_wp2
  rw [run_callFunc_extern L.f276 (by kernel_rfl) (by kernel_rfl) (by kernel_rfl) (e := Extern.AbiNoEscape.same) (by kernel_rfl)]
  rw [Lib.run_noEscape]
  simp only [Result.andThen]
  rw [Oper.upon_value]
  go_wp2
  go_end0
  exact ⟨rfl, rfl⟩
set_option maxHeartbeats 2000000 in
set_option maxRecDepth 100000 in
theorem bs_nil (L : Lays.n169 P ρ) (X : Builder.Extra P ρ) (b : Nat) (w : World) (c0 : w.cell? ⟨b, 1, none⟩ = some (.slice none 0 0)) :
    Calls P (ρ.f 169) #[.pointer (some ⟨b, 0, none⟩)] w fun e w' => e = .returned (.string ⟨#[]⟩) ∧ w' = w.drew := by
  have hUS := Any.unsafeString_none L X
  have c1 : w.drew.cell? ⟨b, 1, none⟩ = some (.slice none 0 0) := c0
  have hSD : (Builtin.unsafeSliceData_ #[(ρ.t 37)] (ρ.t 127) #[.slice none 0 0]).run P w.drew = .ok (.pointer none) w.drew := rfl
  have mixed := L.mixed
  have t72 := L.t72; have a72 := L.a72; have z72 := L.z72; have v72 := L.v72; have u72 := run_underlying L.t72
  have t70 := L.t70; have a70 := L.a70; have z70 := L.z70; have v70 := L.v70; have u70 := run_underlying L.t70
  have t37 := L.t37; have a37 := L.a37; have z37 := L.z37; have v37 := L.v37; have u37 := run_underlying L.t37
  have t127 := L.t127; have a127 := L.a127; have z127 := L.z127; have v127 := L.v127; have u127 := run_underlying L.t127
  have t3 := L.t3; have a3 := L.a3; have z3 := L.z3; have v3 := L.v3; have u3 := run_underlying L.t3
  have t9 := L.t9; have a9 := L.a9; have z9 := L.z9; have v9 := L.v9; have u9 := run_underlying L.t9
  have t5 := X.t5; have a5 := X.a5; have z5 := X.z5; have v5 := X.v5; have u5 := run_underlying X.t5
  go_enter L.f169, Body.n169_ntmps ρ
  go_wp2
  go_region_o
  all_goals (go_wp2; go_ret; exact ⟨rfl, rfl⟩)
set_option maxHeartbeats 2000000 in
set_option maxRecDepth 100000 in
theorem bs_some (L : Lays.n169 P ρ) (X : Builder.Extra P ρ) (b g cap : Nat) (l : List UInt8) (cur : Array Value) (w : World) (c0 : w.cell? ⟨b, 1, none⟩ = some (.slice (some ⟨g, 0, none⟩) l.length cap)) (h0 : l ≠ [])
    (hg : w.heap[g]? = some (.cells cur (ρ.t 5) (0, 0))) (hnc : l.length ≤ cap) (hcs : l.length ≤ cur.size) (hcm : l.length ≤ maxLen) (hcell : ∀ j x, l[j]? = some x → w.cell? ((⟨g, 0, none⟩ : Addr).add j) = some (.int .u8 x.toNat)) :
    Calls P (ρ.f 169) #[.pointer (some ⟨b, 0, none⟩)] w fun e w' => e = .returned (.string ⟨l.toArray⟩) ∧ w' = w.drew.freeze ⟨g, 0, none⟩ l.length := by
  have hl0 : l.length ≠ 0 := by simpa using h0
  have c1 : w.drew.cell? ⟨b, 1, none⟩ = some (.slice (some ⟨g, 0, none⟩) l.length cap) := c0
  have hSD : (Builtin.unsafeSliceData_ #[(ρ.t 37)] (ρ.t 127) #[.slice (some ⟨g, 0, none⟩) l.length cap]).run P w.drew = .ok (.pointer (some ⟨g, 0, none⟩)) w.drew :=
    Lib.run_unsafeSliceData_row _ _ _ _ _ _ (by omega)
  have hUS : (Builtin.unsafeString_ #[(ρ.t 127), (ρ.t 3)] (ρ.t 9) #[.pointer (some ⟨g, 0, none⟩), .int .i64 l.length]).run P w.drew = .ok (.string ⟨l.toArray⟩) (w.drew.freeze ⟨g, 0, none⟩ l.length) := by
    refine Lib.run_unsafeString_row w.drew (ρ.t 127) (ρ.t 3) (ρ.t 9) (ρ.t 5) L.t127 X.cellsByte g cur.size (by have hg' : w.drew.heap[g]? = some (.cells cur (ρ.t 5) (0, 0)) := hg; simp [World.shape?, hg']) l h0 (by omega) (by unfold maxLen at hcm; omega) ?_
    intro j x hx
    exact hcell j x hx
  clear hcell hg hnc hcs hcm
  have mixed := L.mixed
  have t72 := L.t72; have a72 := L.a72; have z72 := L.z72; have v72 := L.v72; have u72 := run_underlying L.t72
  have t70 := L.t70; have a70 := L.a70; have z70 := L.z70; have v70 := L.v70; have u70 := run_underlying L.t70
  have t37 := L.t37; have a37 := L.a37; have z37 := L.z37; have v37 := L.v37; have u37 := run_underlying L.t37
  have t127 := L.t127; have a127 := L.a127; have z127 := L.z127; have v127 := L.v127; have u127 := run_underlying L.t127
  have t3 := L.t3; have a3 := L.a3; have z3 := L.z3; have v3 := L.v3; have u3 := run_underlying L.t3
  have t9 := L.t9; have a9 := L.a9; have z9 := L.z9; have v9 := L.v9; have u9 := run_underlying L.t9
  have t5 := X.t5; have a5 := X.a5; have z5 := X.z5; have v5 := X.v5; have u5 := run_underlying X.t5
  go_enter L.f169, Body.n169_ntmps ρ
  go_wp2
  go_region_o
  all_goals (go_wp2; go_ret; exact ⟨rfl, rfl⟩)
end Go.Ab
namespace Go.Ab
open Go.RowKit Go.Shelf Go.Proofs
variable {P : Program} {ρ : Ren}
theorem bsOk_of (L : Lays.n169 P ρ) (X : Builder.Extra P ρ) (hf : ∀ f, isBs P f = true → f = ρ.f 169) (he : ∀ e, u8Of P = some e → e = ρ.t 5) : BsOk P := by
  intro f e _ hb hu
  obtain rfl := hf f hb
  obtain rfl := he e hu
  exact ⟨fun b w h => bs_nil L X b w h, fun b g cap l cur w h0 hl hg hc hcs hm hcell => bs_some L X b g cap l cur w h0 hl hg hc hcs hm hcell⟩
theorem tabOk_mk {C : Cfg} (hfn : ∀ f F, C.T f = some F → FOk C.P f F) (hb : ∀ (f : FuncId) (g : List AV → Option AV) (args : List AV) (r : AV), C.B f = some g → g args = some r → FCall C f args r [])
    (L : Lays.n240 C.P ρ) (X : Builder.X72 C.P ρ) (hcc : ∀ f, C.cc f = true → f = ρ.f 240) (hok : okFn C.P (ρ.f 240) = true)
    (hbT : ∀ t n, (t, n) ∈ C.bT → 0 < n ∧ liesAt C.P C.P.depth t (n / C.P.cellsOf t) 0 (ρ.t 72) 1 = true) : TabOk C where
  fn f F h := let ⟨fn, c, md, h1⟩ := hfn f F h; ⟨fn, c, md, h1⟩
  b := hb
  cc f h := by
    obtain rfl := hcc f h
    refine ⟨hok, fun b w h0 => Any.Builder_copyCheck_used L X b w h0, fun b w h0 ⟨t, n, htn, hsh⟩ hfz => ?_⟩
    obtain ⟨hn, hl⟩ := hbT t n htn
    exact cc_fresh L X b t n w h0 hsh hn hl hfz
def pow10P (j : Nat) : PV := .int .u64 (((10 ^ j : Nat) : Nat) : Int)
theorem tabIs_of_grep {C : Cfg} {w : World} {Z : Nat → Prop} (hg : GRep C.G w Z) {g : Nat} (hn : C.P.globalNamed "internal/strconv.uint64pow10" = some g) (hG : C.G g = some (20, pow10P)) : Lib.TabIs C.P w "internal/strconv.uint64pow10" .u64 Lib.pow10Tab := by
  obtain ⟨hr, _, cs, t, fr, hh, hs⟩ := hg g 20 pow10P hG
  unfold Lib.TabIs World.var?
  rw [hn]
  simp only [Option.bind_some, hh, Option.some.injEq]
  have hc : ∀ j, j < 20 → cs[j]? = some (.int .u64 ((10 ^ j : Nat) : Int)) := fun j hj => by
    cases hr with
    | ipt _ _ ad u hz hc hr =>
      have h1 := hc j hj
      have h2 := hr j hj
      have e : Value.int .u64 ((10 ^ j : Nat) : Int) = u j := by
        generalize u j = x at h2
        unfold pow10P at h2
        cases h2
        rfl
      have hcell : w.cell? ((⟨g, 0, none⟩ : Addr).add j) = cs[j]? := by
        have : (⟨g, 0, none⟩ : Addr).add j = ⟨g, j, none⟩ := by simp [Addr.add]; exact fun h => h.symm
        rw [this]
        simp [World.cell?, hh]
      rw [← hcell, h1, e]
  apply Array.ext_getElem?
  intro i
  by_cases hi : i < 20
  · rw [hc i hi]
    simp [Lib.pow10Tab, hi]
  · rw [Array.getElem?_eq_none (by omega), Array.getElem?_eq_none (by simp [Lib.pow10Tab]; omega)]
theorem drewN_same (w : World) (k : Nat) : (w.drewN k).os = w.os ∧ (w.drewN k).tape = w.tape ∧ (w.drewN k).output = w.output := by
  induction k generalizing w with
  | zero => exact ⟨rfl, rfl, rfl⟩
  | succ k ih => exact ih w.drew
theorem itoa_fcall {C : Cfg} (L : LaysM.n171 C.P ρ) {g : Nat} (hn : C.P.globalNamed "internal/strconv.uint64pow10" = some g) (hG : C.G g = some (20, pow10P)) {args : List AV} {r : AV} (h : gItoa args = some r) : FCall C (ρ.f 171) args r [] := by
  obtain ⟨n, rfl, h0, h1, rfl⟩ := gItoa_some h
  intro w Z vs hz hg hv
  simp only [RepAs] at hv
  obtain ⟨u, us', rfl, hu, rfl⟩ := hv
  simp only [RepA] at hu
  have hu : RepP w Z (.int .i64 n) u := hu
  cases hu
  refine (Any.strconv_Itoa L n h0 h1 w (tabIs_of_grep hg hn hG)).mono fun e w' ⟨he, k, os, hw⟩ => ?_
  subst he hw
  have hst : Stays w (Go.Sort.grow (w.drewN k) os) := ⟨(drewN_same w k).1, (drewN_same w k).2.1, (drewN_same w k).2.2, by simp [Go.Sort.grow], fun i hi => by
    simp only [Go.Sort.grow]
    rw [Array.getElem?_append_left (by simpa using hi)]
    simp⟩
  refine ⟨_, Z, noφ, rfl, hst, fun _ h => h, fun _ h => .inl h, ⟨fun b hb => Nat.lt_of_lt_of_le (hz b hb) hst.size, by simp, by simp, by simp, by simp⟩, ?_⟩
  simp only [RepA]
  exact .str _
structure Row where
  f : Nat
  args : List AV
  r : AV
def rowsG (f : Nat) : List Row → List AV → Option AV
  | [], _ => none
  | x :: l, args => match Nat.beq x.f f with
    | true => match eqAs args x.args with
      | true => some x.r
      | false => rowsG f l args
    | false => rowsG f l args
def rowsHas (f : Nat) : List Row → Bool
  | [] => false
  | x :: l => match Nat.beq x.f f with
    | true => true
    | false => rowsHas f l
theorem rowsG_ok {C : Cfg} {f : Nat} : ∀ {l : List Row} {args : List AV} {r : AV}, (∀ x, x ∈ l → FCall C x.f x.args x.r []) → rowsG f l args = some r → FCall C f args r []
  | [], _, _, _, h => by cases h
  | x :: l, args, r, hx, h => by
    simp only [rowsG] at h
    split at h
    · rename_i hf
      have hf := Nat.eq_of_beq_eq_true hf
      subst hf
      split at h
      · rename_i ha
        cases h
        have h1 := hx x (by simp)
        intro w Z vs hz hg hv
        exact h1 w Z vs hz hg (eqAs_rep ha hv)
      · exact rowsG_ok (fun y hy => hx y (List.mem_cons_of_mem _ hy)) h
    · exact rowsG_ok (fun y hy => hx y (List.mem_cons_of_mem _ hy)) h
theorem FCall.freeze {C : Cfg} {f : FuncId} {args : List AV} {r r' : AV} {Hr : Heap} (h : FCall C f args r Hr) (hf : frzA Hr r = some r') : FCall C f args r' [] :=
  fun w Z vs hz hg hv => (h w Z vs hz hg hv).mono fun e w' ⟨u, Z', φ', h1, h2, h3, h4, h5, h6⟩ => ⟨u, fun b => Z' b ∨ ∃ k b', Hr[k]? = some (some b') ∧ own? (φ' k) = some b, noφ, h1, h2, fun b hb => .inl (h3 b hb),
    fun b hb => hb.elim (h4 b) fun ⟨k, b', hk, ho⟩ => .inr (h5.own k b' b hk ho), ⟨fun b hb => hb.elim (h5.zlt b) fun ⟨k, b', hk, ho⟩ => own_lt h5 hk ho, by simp, by simp, by simp, by simp⟩,
    frzA_sound h5 (fun k b g h1 h2 => .inr ⟨k, b, h1, h2⟩) hf (.inl fun p u hp => hp.keep (fun b hb => .inl hb) fun _ _ => rfl) h6⟩
def chkK (r : AV) (r' : AV) (Hr : Heap) : VC := match frzA Hr r' with
  | some q => match eqAB q r with
    | true => .pr True
    | false => .no
  | none => .no
theorem fcall_row {C : Cfg} (hT : TabOk C) {f : FuncId} {F : Fn} (hf : C.T f = some F) {args : List AV} {fuel : Nat} {r : AV}
    (h : (ex C fuel 0 F.mc ⟨ofL 0 args .lf, []⟩ (endK F.rs (chkK r) fun _ _ => .no)).end = some True) : FCall C f args r [] := by
  obtain ⟨r', Hr, hq, h⟩ := (ev_calls (det_ex C fuel) (sound_ex C hT fuel) hT).2 f F args (chkK r) hf (end_holds h trivial)
  unfold chkK at hq
  split at hq
  · rename_i q hq'
    split at hq
    · rename_i he
      have h2 := h.freeze hq'
      exact fun w Z vs hz hg hv => (h2 w Z vs hz hg hv).mono fun e w' ⟨u, Z', φ', h1, h2, h3, h4, h5, h6⟩ => ⟨u, Z', φ', h1, h2, h3, h4, h5, eqAB_rep he h6⟩
    · exact False.elim hq
  · exact False.elim hq
end Go.Ab
namespace Go.Ab
open Go.RowKit
def gPow (g n : Nat) : Option (Nat × (Nat → PV)) := bif Nat.beq n g then some (20, pow10P) else none
theorem grep_of_tab {P : Program} {W : World} {g : Nat} (hn : P.globalNamed "internal/strconv.uint64pow10" = some g) (h : Lib.TabIs P W "internal/strconv.uint64pow10" .u64 Lib.pow10Tab) : GRep (gPow g) W (fun b => b < W.heap.size) := by
  intro g' n f hg
  unfold gPow at hg
  cases hb : Nat.beq g' g with
  | false => rw [hb] at hg; cases hg
  | true =>
    have := Nat.eq_of_beq_eq_true hb
    subst this
    rw [hb] at hg
    cases hg
    have hv := h
    unfold Lib.TabIs World.var? at hv
    rw [hn] at hv
    simp only [Option.bind_some] at hv
    split at hv
    · rename_i cs t fr hh
      simp only [Option.some.injEq] at hv
      have hlt : g' < W.heap.size := (Array.getElem?_eq_some_iff.1 hh).1
      refine ⟨.ipt _ _ _ (fun j => .int .u64 ((10 ^ j : Nat) : Int)) hlt (fun j hj => ?_) (fun j _ => .int _ _), hlt, cs, t, fr, hh, by rw [hv]; simp [Lib.pow10Tab]⟩
      have := h.cell hn j (by simpa [Lib.pow10Tab] using hj)
      rw [Lib.pow10Tab_at j hj] at this
      rw [show (⟨g', 0, none⟩ : Addr).add j = ⟨g', j, none⟩ by simp [Addr.add]; exact fun h => h.symm]
      exact this
    · cases hv
theorem law_row {C : Cfg} {f : FuncId} {args : List AV} {Hr : Heap} (h : FCall C f args (vB true) Hr) {w : World} (hg : GRep C.G w (fun b => b < w.heap.size)) {vs : List Value} (hv : RepAs w (fun b => b < w.heap.size) [] noφ args vs) :
    Calls C.P f vs.toArray w fun e w' => e = .returned (.bool true) ∧ Below w.heap.size w w' :=
  (h w _ vs (fun _ h => h) hg hv).mono fun e w' ⟨u, Z', φ', h1, h2, _, _, _, h6⟩ => by
    simp only [RepA] at h6
    have h6 : RepP w' Z' (.bool true) u := h6
    cases h6
    exact ⟨h1, h2⟩
end Go.Ab
namespace Go.Ab
open Go.RowKit
def keyP : OP → Nat
  | .mv _ => 1 | .pick _ _ _ => 2 | .load _ _ => 3 | .fadr n _ => 4 + 64 * n | .iadr n _ _ => 5 + 64 * n | .iada _ _ _ _ => 6 | .fld n _ _ => 7 + 64 * n | .idx _ _ _ _ _ => 8 | .sidx _ _ => 9 | .nilck _ => 10
  | .bin _ _ _ => 11 | .un _ _ => 12 | .cvi _ _ => 13 | .ext _ n => 14 + 64 * n | .len _ _ => 15 | .call f _ => 16 + 64 * f | .build _ _ => 17 | .beq _ _ _ _ => 18 | .nln _ _ => 19 | .bslp _ n _ _ => 20 + 64 * n | .sls _ _ _ => 21 | .slx _ _ _ _ => 22
  | .mm _ _ => 23 | .sdata _ => 24 | .mif _ => 25 | .mget _ _ _ _ _ => 26
def keyO : OO → Nat
  | .a p => keyP p
  | .m p => match p with
    | .alloc t _ => 27 + 64 * t | .box t _ => 28 + 64 * t | .store n _ _ => 29 + 64 * n | .app _ _ _ _ _ => 30 | .bsl _ n _ _ _ => 31 + 64 * n | .mks _ _ _ _ _ _ => 32 | .clo f _ _ => 33 + 64 * f | .aps _ _ _ => 34 | .ustr _ _ _ => 35 | .cpy _ _ _ => 36 | .bstr _ _ => 37 | .mkm => 38 | .mset _ _ _ _ => 39 | .rng _ => 43 | .nxs _ => 44 | .frz _ => 45
  | .x p => match p with
    | .hc f _ => 40 + 64 * f | .vc _ _ => 41 | .pan _ => 42
def keyS (h k : Nat) : Nat := (h * 8191 + k) % 1000000007
def keyL : List MOp → Nat → Nat
  | [], h => h
  | m :: l, h => keyL l (keyS h (keyO m.op))
def keyD : List DOp → Nat → Nat
  | [], h => h
  | m :: l, h => keyD l (keyS h (keyO m.m.op))
def keyM : MC → Nat → Nat
  | .kill _, h => keyS h 50
  | .skip, h => keyS h 51
  | .ret, h => keyS h 52
  | .exit i, h => keyS h (53 + 64 * i)
  | .reg l, h => keyL l (keyS h 54)
  | .drw _ l ml, h => keyL ml (keyD l (keyS h 55))
  | .drw2 _ p u v l ml, h => keyL ml (keyD l (keyD [u, v] (keyD p (keyS h 56))))
  | .seq a b, h => keyM b (keyM a (keyS h 56))
  | .cond _ a b, h => keyM b (keyM a (keyS h 57))
  | .block i a, h => keyM a (keyS h (58 + 64 * i))
  | .loop a, h => keyM a (keyS h 59)
  | .rf _ _ _ a b, h => keyM b (keyM a (keyS h 60))
theorem RepP.isl_ext {w : World} {Z : Nat → Prop} {e n : Nat} {f g : Nat → Nat → PV} {u : Value} (h : ∀ i j, i < n → j < e → f i j = g i j) (hr : RepP w Z (.isl e n f) u) : RepP w Z (.isl e n g) u := by
  cases hr with
  | isl0 a cap => exact .isl0 _ _ _ _
  | isl _ _ _ ad cap u hn hz hc hr => exact .isl _ _ _ ad cap u hn hz hc fun i j hi hj => h i j hi hj ▸ hr i j hi hj
def LikeC (c c' : CV) : Prop := c = c' ∨ match c, c' with
  | .p (.isl e n f), .p (.isl e' n' g) => e = e' ∧ n = n' ∧ ∀ i j, i < n → j < e → f i j = g i j
  | _, _ => False
def LikeL : List CV → List CV → Prop
  | [], [] => True
  | c :: l, c' :: l' => LikeC c c' ∧ LikeL l l'
  | _, _ => False
def LikeA (a a' : AV) : Prop := match a, a' with
  | .c c, .c c' => LikeC c c'
  | .ag l, .ag l' => LikeL l l'
  | _, _ => False
def LikeAs : List AV → List AV → Prop
  | [], [] => True
  | a :: l, a' :: l' => LikeA a a' ∧ LikeAs l l'
  | _, _ => False
section
variable {w : World} {Z : Nat → Prop} {H : Heap} {φ : Nat → Value}
theorem LikeC.rep {c c' : CV} {u : Value} (h : LikeC c c') (hr : RepC w Z H φ c u) : RepC w Z H φ c' u := by
  rcases h with rfl | h
  · exact hr
  · split at h
    · obtain ⟨rfl, rfl, h⟩ := h
      exact RepP.isl_ext h hr
    · exact h.elim
theorem LikeL.rep : ∀ {l l' : List CV} {us : List Value}, LikeL l l' → RepL w Z H φ l us → RepL w Z H φ l' us
  | [], [], us, _, hr => hr
  | [], _ :: _, _, h, _ => h.elim
  | _ :: _, [], _, h, _ => h.elim
  | c :: l, c' :: l', us, h, hr => by
    obtain ⟨hlen, hall⟩ := hr
    match us, hlen with
    | u :: us, hlen =>
      have ih := LikeL.rep (l := l) (l' := l') (us := us) h.2 ⟨by simpa using hlen, fun i c hi => by obtain ⟨x, hx, hr⟩ := hall (i + 1) c (by simpa using hi); exact ⟨x, by simpa using hx, hr⟩⟩
      refine ⟨by simpa using ih.1, fun i c2 hi => ?_⟩
      cases i with
      | zero =>
        obtain ⟨x, hx, hr⟩ := hall 0 c rfl
        simp at hi hx
        subst hi hx
        exact ⟨u, rfl, h.1.rep hr⟩
      | succ i => obtain ⟨x, hx, hr⟩ := ih.2 i c2 (by simpa using hi); exact ⟨x, by simpa using hx, hr⟩
theorem LikeA.rep {a a' : AV} {u : Value} (h : LikeA a a') (hr : RepA w Z H φ a u) : RepA w Z H φ a' u := by
  unfold LikeA at h
  split at h
  · simp only [RepA] at hr ⊢; exact h.rep hr
  · simp only [RepA] at hr ⊢
    obtain ⟨us, e, hl⟩ := hr
    exact ⟨us, e, h.rep hl⟩
  · exact h.elim
theorem LikeAs.rep : ∀ {l l' : List AV} {us : List Value}, LikeAs l l' → RepAs w Z H φ l us → RepAs w Z H φ l' us
  | [], [], us, _, hr => hr
  | [], _ :: _, _, h, _ => h.elim
  | _ :: _, [], _, h, _ => h.elim
  | a :: l, a' :: l', us, h, hr => by
    simp only [RepAs] at hr ⊢
    obtain ⟨u, us', e, h1, h2⟩ := hr
    exact ⟨u, us', e, h.1.rep h1, h.2.rep h2⟩
end
theorem FCall.like {C : Cfg} {f : FuncId} {args args' : List AV} {r : AV} {Hr : Heap} (h : FCall C f args' r Hr) (ha : LikeAs args args') : FCall C f args r Hr :=
  fun w Z vs hz hg hv => h w Z vs hz hg (ha.rep hv)
theorem likeL_refl : ∀ l : List CV, LikeL l l
  | [] => trivial
  | c :: l => ⟨.inl rfl, likeL_refl l⟩
theorem mul_in {a b A B : Int} (h1 : -A ≤ a) (h2 : a ≤ A) (h3 : -B ≤ b) (h4 : b ≤ B) : -(A * B) ≤ a * b ∧ a * b ≤ A * B := by
  have hA : 0 ≤ A := by omega
  have hB : 0 ≤ B := by omega
  have n1 : a * b ≤ A * B := by
    rcases Int.le_total 0 b with hb | hb
    · exact Int.le_trans (Int.mul_le_mul_of_nonneg_right h2 hb) (Int.mul_le_mul_of_nonneg_left h4 hA)
    · have := Int.mul_le_mul_of_nonneg_right (show -a ≤ A by omega) (show 0 ≤ -b by omega)
      have h5 := Int.mul_le_mul_of_nonneg_left (show -b ≤ B by omega) hA
      have : -a * -b = a * b := by rw [Int.neg_mul_neg]
      omega
  have n2 : -(A * B) ≤ a * b := by
    rcases Int.le_total 0 b with hb | hb
    · have := Int.mul_le_mul_of_nonneg_right (show -a ≤ A by omega) hb
      have h5 := Int.mul_le_mul_of_nonneg_left h4 hA
      have : -a * b = -(a * b) := by rw [Int.neg_mul]
      omega
    · have := Int.mul_le_mul_of_nonneg_right h2 (show 0 ≤ -b by omega)
      have h5 := Int.mul_le_mul_of_nonneg_left (show -b ≤ B by omega) hA
      have : a * -b = -(a * b) := by rw [Int.mul_neg]
      omega
  exact ⟨n2, n1⟩
end Go.Ab
namespace Go.Ab
open Go.RowKit
theorem fcall_k {C : Cfg} (hT : TabOk C) {f : FuncId} {F : Fn} (hf : C.T f = some F) {args : List AV} {fuel : Nat} {R : AV} {p : Prop}
    (hV : p = (ex C fuel 0 F.mc ⟨ofL 0 args .lf, []⟩ (endK F.rs (fun r H => .pr (frzA H r = some R)) fun _ _ => .no)).hold2) (h : p) : FCall C f args R [] := by
  obtain ⟨r', H', h1, h2⟩ := fcall_ex hT hf (Q := fun r H => frzA H r = some R) (hold2_holds (hV ▸ h))
  exact h2.freeze h1
theorem fcall_kH {C : Cfg} (hT : TabOk C) {f : FuncId} {F : Fn} (hf : C.T f = some F) {args : List AV} {fuel : Nat} {R : AV} {Hr : Heap} {p : Prop}
    (hV : p = (ex C fuel 0 F.mc ⟨ofL 0 args .lf, []⟩ (endK F.rs (fun r H => .pr (r = R ∧ H = Hr)) fun _ _ => .no)).hold2) (h : p) : FCall C f args R Hr := by
  obtain ⟨r', H', ⟨rfl, rfl⟩, h2⟩ := fcall_ex hT hf (Q := fun r H => r = R ∧ H = Hr) (hold2_holds (hV ▸ h))
  exact h2
def lpQ (n0 : Nat) (X : St → Prop) (K : KT) : AX → St → Prop := fun e s => match e with
  | .normal => X s
  | .ret => ∃ s', Wk n0 s s' ∧ (K .ret s').holds
  | .exit i => ∃ s', Wk n0 s s' ∧ (K (.exit i) s').holds
  | .panic v => ∃ s', Fgt s s' ∧ (K (.panic v) s').holds
theorem lpQ_eq (n0 : Nat) (X : St → Prop) (K : KT) : lpX X (upK n0 K) = fun e s => .pr (lpQ n0 X K e s) := by
  funext e s
  cases e <;> rfl
theorem loop_k {σ : Type} {E : Ev} {n0 : Nat} {a : MC} (live : σ → List (Ps × AV)) (H : σ → Heap) (Ok : σ → Prop) (m : σ → Nat) (L : σ → LTree) (hn : ∀ i, n0 ≤ (H i).length)
    (P : σ → (AX → St → Prop) → Prop) (hP : ∀ i Q, P i Q = (E n0 a ⟨setAll (live i), H i⟩ (fun e s => .pr (Q e s))).hold2)
    (h : ∀ i, Ok i → ∀ (K : KT), ((L i).run K).holds → ∀ X : St → Prop, (∀ j s', m j < m i → Ok j → Has s' (live j) (H j) → (((L j).run K).holds) → X s') → P i (lpQ n0 X K)) :
    ∀ i s, Ok i → Has s (live i) (H i) → LoopGo E n0 a s (L i) :=
  loop_go live H Ok m L hn fun i hi K hL X hX => by
    rw [lpQ_eq]
    exact hold2_holds (hP i _ ▸ h i hi K hL X hX)
theorem Has.out {s : St} {l : List (Ps × AV)} {H : Heap} {n0 : Nat} {K : KT} {e : AX} (h : Has s l H) (hn : n0 ≤ H.length) (hK : (K e ⟨setAll l, H⟩).holds) : ∃ s', Wk n0 s s' ∧ (K e s').holds := ⟨_, h.wk hn, hK⟩
end Go.Ab
namespace Go.Ab
def memN (n : Nat) : List Nat → Bool
  | [] => false
  | k :: l => match Nat.beq n k with
    | true => true
    | false => memN n l
def mdOf (l1 l2 : List Nat) (f : Nat) : Nat := match memN f l1 with
  | true => 1
  | false => match memN f l2 with
    | true => 2
    | false => 0
def mdPf (l1 l2 : List Nat) (f : Nat) : Nat := match Nat.beq f 1000000 with
  | true => 1
  | false => mdOf l1 l2 f
end Go.Ab
namespace Go.Ab
open Go.RowKit
def HasR (n0 : Nat) (ρ : List (Option Nat)) (s : St) (l : List (Ps × AV)) (H : Heap) : Prop :=
  nodupB ρ = true ∧ stillB ρ H n0 = true ∧ WH s.h ρ ρ H ∧ ∀ p v, (p, v) ∈ l → WA ρ (Tr.get p s.t) v
theorem HasR.wk {n0 : Nat} {ρ : List (Option Nat)} {s : St} {l : List (Ps × AV)} {H : Heap} (h : HasR n0 ρ s l H) : Wk n0 s ⟨setAll l, H⟩ := by
  obtain ⟨h1, h2, h3, hl⟩ := h
  refine .inr (.inl ⟨ρ, h1, h2, WT_setAll fun p => ?_, h3⟩)
  have key : ∀ l : List (Ps × AV), (∀ p v, (p, v) ∈ l → WA ρ (Tr.get p s.t) v) → Tr.get p (setAll l) = .any ∨ WA ρ (Tr.get p s.t) (Tr.get p (setAll l)) := by
    intro l
    induction l with
    | nil => intro _; exact .inl (Tr.get_lf p)
    | cons x l ih =>
      intro hl
      obtain ⟨q, v⟩ := x
      simp only [setAll, Tr.get_set]
      split
      · rename_i hp
        subst hp
        exact .inr (hl p v (by simp))
      · exact ih fun p v hm => hl p v (List.mem_cons_of_mem _ hm)
  exact key l hl
def LiveR (ρ : List (Option Nat)) (t : Tr) : List (Ps × AV) → Prop
  | [] => True
  | (p, v) :: l => WA ρ (Tr.get p t) v ∧ LiveR ρ t l
theorem LiveR.all {ρ : List (Option Nat)} {t : Tr} : ∀ {l : List (Ps × AV)}, LiveR ρ t l → ∀ p v, (p, v) ∈ l → WA ρ (Tr.get p t) v
  | [], _, p, v, h => by cases h
  | (q, u) :: l, h, p, v, hm => by
    rcases List.mem_cons.1 hm with e | hm
    · cases e; exact h.1
    · exact h.2.all p v hm
theorem HasR.mk {n0 : Nat} {s : St} {l : List (Ps × AV)} {H : Heap} (ρ : List (Option Nat)) (h1 : nodupB ρ = true) (h2 : stillB ρ H n0 = true) (h3 : WH s.h ρ ρ H) (h4 : LiveR ρ s.t l) : HasR n0 ρ s l H := ⟨h1, h2, h3, h4.all⟩
theorem loop_goR {σ : Type} {E : Ev} {n0 : Nat} {a : MC} (live : σ → List (Ps × AV)) (H : σ → Heap) (Ok : σ → Prop) (m : σ → Nat) (L : σ → LTree)
    (h : ∀ i, Ok i → ∀ (K : KT), ((L i).run K).holds → ∀ X : St → Prop, (∀ j s', m j < m i → Ok j → (∃ ρ, HasR n0 ρ s' (live j) (H j)) → (((L j).run K).holds) → X s') → (E n0 a ⟨setAll (live i), H i⟩ (lpX X (upK n0 K))).holds) :
    ∀ i s, Ok i → (∃ ρ, HasR n0 ρ s (live i) (H i)) → LoopGo E n0 a s (L i) := by
  intro i s hi hs K hK
  exact iter_of (K := upK n0 K) (fun j s => Ok j ∧ (∃ ρ, HasR n0 ρ s (live j) (H j)) ∧ ((L j).run K).holds) m (fun i s hs X hX => by
    obtain ⟨ho, ⟨ρ, hr⟩, hl⟩ := hs
    exact ⟨⟨setAll (live i), H i⟩, hr.wk, h i ho K hl X fun j s' hm ho hh hl => hX j s' hm ⟨ho, hh, hl⟩⟩) i s ⟨hi, hs, hK⟩
theorem loop_kR {σ : Type} {E : Ev} {n0 : Nat} {a : MC} (live : σ → List (Ps × AV)) (H : σ → Heap) (Ok : σ → Prop) (m : σ → Nat) (L : σ → LTree)
    (P : σ → (AX → St → Prop) → Prop) (hP : ∀ i Q, P i Q = (E n0 a ⟨setAll (live i), H i⟩ (fun e s => .pr (Q e s))).hold2)
    (h : ∀ i, Ok i → ∀ (K : KT), ((L i).run K).holds → ∀ X : St → Prop, (∀ j s', m j < m i → Ok j → (∃ ρ, HasR n0 ρ s' (live j) (H j)) → (((L j).run K).holds) → X s') → P i (lpQ n0 X K)) :
    ∀ i s, Ok i → (∃ ρ, HasR n0 ρ s (live i) (H i)) → LoopGo E n0 a s (L i) :=
  loop_goR live H Ok m L fun i hi K hL X hX => by
    rw [lpQ_eq]
    exact hold2_holds (hP i _ ▸ h i hi K hL X hX)
theorem HasR.out {ρ : List (Option Nat)} {s : St} {l : List (Ps × AV)} {H : Heap} {n0 : Nat} {K : KT} {e : AX} (h : HasR n0 ρ s l H) (hK : (K e ⟨setAll l, H⟩).holds) : ∃ s', Wk n0 s s' ∧ (K e s').holds := ⟨_, h.wk, hK⟩
end Go.Ab
namespace Go.Ab
open Go.RowKit
theorem LkP.refl (v : PV) : LkP v v := fun _ _ _ h => h
theorem LkP.of_eq {v v' : PV} (h : v = v') : LkP v v' := h ▸ LkP.refl v
theorem LkP.nsl (e : Nat) (f : Nat → Nat → PV) : LkP .nsl (.isl e 0 f) := fun _ _ _ h => by cases h; exact .isl0 _ _ _ _
theorem LkP.isl {e n : Nat} {f f' : Nat → Nat → PV} (h : ∀ i j, i < n → j < e → LkP (f i j) (f' i j)) : LkP (.isl e n f) (.isl e n f') := fun w Z u hr => by
  cases hr with
  | isl0 a cap => exact .isl0 _ _ _ _
  | isl _ _ _ ad cap u hn hz hc hr => exact .isl _ _ _ ad cap u hn hz hc fun i j hi hj => h i j hi hj _ _ _ (hr i j hi hj)
theorem LkP.trans {a b c : PV} (h : LkP a b) (k : LkP b c) : LkP a c := fun w Z u r => k w Z u (h w Z u r)
def LkL : List (Ps × AV) → List (Ps × AV) → Prop
  | [], [] => True
  | (p, v) :: l, (q, u) :: l' => p = q ∧ LkA v u ∧ LkL l l'
  | _, _ => False
def LkHs : Heap → Heap → Prop
  | [], [] => True
  | b :: l, b' :: l' => LkB b b' ∧ LkHs l l'
  | _, _ => False
theorem LkA.refl (a : AV) : LkA a a := .inl rfl
theorem LkB.refl (b : Option Blk) : LkB b b := .inl rfl
theorem LkL.refl : ∀ (l : List (Ps × AV)), LkL l l
  | [] => trivial
  | (_, _) :: l => ⟨rfl, .refl _, LkL.refl l⟩
theorem LkHs.refl : ∀ (H : Heap), LkHs H H
  | [] => trivial
  | _ :: H => ⟨.refl _, LkHs.refl H⟩
theorem LkB.mk {e n : Nat} {t : TypeId} {f f' : Nat → Nat → PV} {ups : List Nat} (h : ∀ i j, i < n → j < e → LkP (f i j) (f' i j)) : LkB (some (.arr e t n f ups)) (some (.arr e t n f' ups)) := .inr ⟨e, t, n, f, f', ups, rfl, rfl, h⟩
theorem lkL_get : ∀ {l l' : List (Ps × AV)}, LkL l l' → ∀ p, LkA (Tr.get p (setAll l)) (Tr.get p (setAll l'))
  | [], [], _, p => .refl _
  | (q, v) :: l, (q', u) :: l', h, p => by
    obtain ⟨rfl, h1, h2⟩ := h
    simp only [setAll, Tr.get_set]
    split
    · exact h1
    · exact lkL_get h2 p
  | [], _ :: _, h, _ => h.elim
  | _ :: _, [], h, _ => h.elim
theorem lkHs_get : ∀ {H H' : Heap}, LkHs H H' → H.length = H'.length ∧ ∀ (k : Nat) (b b' : Option Blk), H[k]? = some b → H'[k]? = some b' → LkB b b'
  | [], [], _ => ⟨rfl, fun k b b' h => by cases h⟩
  | b0 :: H, b0' :: H', h => by
    obtain ⟨h1, h2⟩ := h
    obtain ⟨h3, h4⟩ := lkHs_get h2
    refine ⟨by simp [h3], fun k b b' hk hk' => ?_⟩
    cases k with
    | zero =>
      simp at hk hk'
      subst hk hk'
      exact h1
    | succ k => exact h4 k b b' (by simpa using hk) (by simpa using hk')
  | [], _ :: _, h => h.elim
  | _ :: _, [], h => h.elim
theorem alk_of {l l' : List (Ps × AV)} {H H' : Heap} (h1 : LkL l l') (h2 : LkHs H H') : Alk ⟨setAll l, H⟩ ⟨setAll l', H'⟩ :=
  ⟨(lkHs_get h2).1, (lkHs_get h2).2, lkL_get h1⟩
def HasA (n0 : Nat) (s : St) (l : List (Ps × AV)) (H : Heap) : Prop := ∃ ρ l1 H1, HasR n0 ρ s l1 H1 ∧ LkL l1 l ∧ LkHs H1 H
theorem HasR.weak {n0 : Nat} {ρ : List (Option Nat)} {s : St} {l : List (Ps × AV)} {H : Heap} (h : HasR n0 ρ s l H) : Weak n0 s ⟨setAll l, H⟩ := by
  obtain ⟨h1, h2, h3, hl⟩ := h
  refine ⟨ρ, h1, h2, WT_setAll fun p => ?_, h3⟩
  have key : ∀ l : List (Ps × AV), (∀ p v, (p, v) ∈ l → WA ρ (Tr.get p s.t) v) → Tr.get p (setAll l) = .any ∨ WA ρ (Tr.get p s.t) (Tr.get p (setAll l)) := by
    intro l
    induction l with
    | nil => intro _; exact .inl (Tr.get_lf p)
    | cons x l ih =>
      intro hl
      obtain ⟨q, v⟩ := x
      simp only [setAll, Tr.get_set]
      split
      · rename_i hp
        subst hp
        exact .inr (hl p v (by simp))
      · exact ih fun p v hm => hl p v (List.mem_cons_of_mem _ hm)
  exact key l hl
theorem HasA.wk {n0 : Nat} {s : St} {l : List (Ps × AV)} {H : Heap} (h : HasA n0 s l H) : Wk n0 s ⟨setAll l, H⟩ := by
  obtain ⟨ρ, l1, H1, h1, h2, h3⟩ := h
  exact .inr (.inr (.inr (.inl ⟨_, h1.weak, alk_of h2 h3⟩)))
theorem HasR.toA {n0 : Nat} {ρ : List (Option Nat)} {s : St} {l : List (Ps × AV)} {H : Heap} (h : HasR n0 ρ s l H) : HasA n0 s l H := ⟨ρ, l, H, h, .refl _, .refl _⟩
theorem loop_kA {σ : Type} {E : Ev} {n0 : Nat} {a : MC} (live : σ → List (Ps × AV)) (H : σ → Heap) (Ok : σ → Prop) (m : σ → Nat) (L : σ → LTree)
    (P : σ → (AX → St → Prop) → Prop) (hP : ∀ i Q, P i Q = (E n0 a ⟨setAll (live i), H i⟩ (fun e s => .pr (Q e s))).hold2)
    (h : ∀ i, Ok i → ∀ (K : KT), ((L i).run K).holds → ∀ X : St → Prop, (∀ j s', m j < m i → Ok j → HasA n0 s' (live j) (H j) → (((L j).run K).holds) → X s') → P i (lpQ n0 X K)) :
    ∀ i s, Ok i → HasA n0 s (live i) (H i) → LoopGo E n0 a s (L i) := by
  intro i s hi hs K hK
  exact iter_of (K := upK n0 K) (fun j s => Ok j ∧ HasA n0 s (live j) (H j) ∧ ((L j).run K).holds) m (fun i s hs X hX => by
    obtain ⟨ho, hr, hl⟩ := hs
    refine ⟨⟨setAll (live i), H i⟩, hr.wk, ?_⟩
    rw [lpQ_eq]
    exact hold2_holds (hP i _ ▸ h i ho K hl X fun j s' hm ho hh hl => hX j s' hm ⟨ho, hh, hl⟩)) i s ⟨hi, hs, hK⟩
theorem HasA.out {s : St} {l : List (Ps × AV)} {H : Heap} {n0 : Nat} {K : KT} {e : AX} (h : HasA n0 s l H) (hK : (K e ⟨setAll l, H⟩).holds) : ∃ s', Wk n0 s s' ∧ (K e s').holds := ⟨_, h.wk, hK⟩
def FzL (k e : Nat) (f : Nat → Nat → PV) : List (Ps × AV) → List (Ps × AV) → Prop
  | [], [] => True
  | (p, v) :: l, (q, u) :: l' => p = q ∧ (v = u ∨ ∃ off len v', v = .c (.sl k off len) ∧ u = .c (.p v') ∧ LkP (.isl e len fun i j => f (off + i) j) v') ∧ FzL k e f l l'
  | _, _ => False
theorem fzL_get {k e : Nat} {f : Nat → Nat → PV} : ∀ {l l' : List (Ps × AV)}, FzL k e f l l' → ∀ p, Tr.get p (setAll l') = .any ∨ Tr.get p (setAll l') = Tr.get p (setAll l) ∨ ∃ off len v', Tr.get p (setAll l) = .c (.sl k off len) ∧ Tr.get p (setAll l') = .c (.p v') ∧ LkP (.isl e len fun i j => f (off + i) j) v'
  | [], [], _, p => .inr (.inl rfl)
  | (q, v) :: l, (q', u) :: l', h, p => by
    obtain ⟨rfl, h1, h2⟩ := h
    simp only [setAll, Tr.get_set]
    split
    · rcases h1 with rfl | h1
      · exact .inr (.inl rfl)
      · exact .inr (.inr h1)
    · exact fzL_get h2 p
  | [], _ :: _, h, _ => h.elim
  | _ :: _, [], h, _ => h.elim
def HasF (n0 : Nat) (s : St) (l : List (Ps × AV)) (H : Heap) : Prop := ∃ ρ l1 H1, HasR n0 ρ s l1 H1 ∧ ∃ (k e : Nat) (t : TypeId) (n : Nat) (f : Nat → Nat → PV) (ups : List Nat), H1[k]? = some (some (.arr e t n f ups)) ∧ H = (killR k ups 0 H1).set k none ∧ FzL k e f l1 l
theorem HasF.wk {n0 : Nat} {s : St} {l : List (Ps × AV)} {H : Heap} (h : HasF n0 s l H) : Wk n0 s ⟨setAll l, H⟩ := by
  obtain ⟨ρ, l1, H1, h1, k, e, t, n, f, ups, h2, h3, h4⟩ := h
  exact .inr (.inr (.inr (.inr ⟨_, h1.weak, k, e, t, n, f, ups, h2, h3, fzL_get h4⟩)))
theorem HasF.out {s : St} {l : List (Ps × AV)} {H : Heap} {n0 : Nat} {K : KT} {e : AX} (h : HasF n0 s l H) (hK : (K e ⟨setAll l, H⟩).holds) : ∃ s', Wk n0 s s' ∧ (K e s').holds := ⟨_, h.wk, hK⟩
theorem FCall.lk {C : Cfg} {f : FuncId} {args : List AV} {v v' : PV} {Hr : Heap} (h : FCall C f args (.c (.p v)) Hr) (hl : LkP v v') : FCall C f args (.c (.p v')) Hr :=
  fun w Z vs hz hg hv => (h w Z vs hz hg hv).mono fun e w' ⟨u, Z', φ', h1, h2, h3, h4, h5, h6⟩ => ⟨u, Z', φ', h1, h2, h3, h4, h5, by simp only [RepA, RepC] at h6 ⊢; exact hl _ _ _ h6⟩
end Go.Ab
namespace Go.Ab.S
open Go.Ab
def inB (lo x hi : Int) : Bool := decide (lo ≤ x) && decide (x ≤ hi)
theorem inB_iff {lo x hi : Int} : inB lo x hi = true ↔ lo ≤ x ∧ x ≤ hi := by simp [inB]
def allF (p : Nat → Bool) : Nat → Nat → Bool
  | 0, _ => true
  | k + 1, i => p i && allF p k (i + 1)
theorem allF_iff {p : Nat → Bool} : ∀ {k i : Nat}, allF p k i = true ↔ ∀ j, i ≤ j → j < i + k → p j = true
  | 0, i => by simp [allF]; intro j h1 h2; omega
  | k + 1, i => by
    simp only [allF, Bool.and_eq_true, allF_iff (k := k)]
    constructor
    · intro ⟨h1, h2⟩ j h3 h4
      by_cases h : j = i
      · subst h; exact h1
      · exact h2 j (by omega) (by omega)
    · intro h
      exact ⟨h i (by omega) (by omega), fun j h3 h4 => h j (by omega) (by omega)⟩
def from_ (p : Nat → Bool) (n i : Nat) : Bool := allF p (n - i) i
theorem from_iff {p : Nat → Bool} {n i : Nat} : from_ p n i = true ↔ ∀ j, i ≤ j → j < n → p j = true := by
  unfold from_
  rw [allF_iff]
  constructor
  · intro h j h1 h2; exact h j h1 (by omega)
  · intro h j h1 h2; exact h j h1 (by omega)
theorem from_end {p : Nat → Bool} {n i : Nat} (h : n ≤ i) : from_ p n i = true := from_iff.2 fun j h1 h2 => by omega
theorem from_step {p : Nat → Bool} {n i : Nat} (h : i < n) : from_ p n i = (p i && from_ p n (i + 1)) := by
  unfold from_
  rw [show n - i = (n - (i + 1)) + 1 by omega]
  rfl
abbrev Rows := Nat → Nat → Int
def val (c : Rows) : Nat → Nat → PV := fun i j => .int .i64 (c i j)
def num (f : Nat → Nat → PV) : Rows := fun i j => intOf (f i j)
def stOk (arm most : Int) : Bool := inB (-1000) arm 1000 && inB 0 most 20000
def stnAt (s : Rows) (i : Nat) : Bool := stOk (s i 0) (s i 1)
def corAt (c : Rows) (i : Nat) : Bool := inB 0 (c i 0) 20000 && inB (-20000000) (c i 1) 20000000
def nxt (n e : Nat) : Nat := (e + 1) % n
def sd (n : Nat) (c : Rows) (e : Nat) (w m : Int) : Int := (c (nxt n e) 0 - c e 0) * (m - c e 1) - (c (nxt n e) 1 - c e 1) * (w - c e 0)
def cvxAt (n : Nat) (c : Rows) (e k : Nat) : Bool := decide (k = e) || decide (k = nxt n e) || decide (0 < sd n c e (c k 0) (c k 1))
def cvxRow (n : Nat) (c : Rows) (e : Nat) : Bool := from_ (cvxAt n c e) n 0
def cvx (n : Nat) (c : Rows) : Bool := from_ (cvxRow n c) n 0
def insAt (n : Nat) (c : Rows) (w m : Int) (e : Nat) : Bool := decide (0 ≤ sd n c e w m)
def ins (n : Nat) (c : Rows) (w m : Int) : Bool := from_ (insAt n c w m) n 0
def stn (n : Nat) (s : Rows) : Bool := from_ (stnAt s) n 0
def cor (n : Nat) (c : Rows) : Bool := from_ (corAt c) n 0
def corners (n : Nat) (c : Rows) : Bool := inB 3 n 12 && cor n c && cvx n c
def plane (e m t l : Int) (nc : Nat) (c : Rows) (ns : Nat) (s : Rows) (ta tm r : Int) (nf : Nat) (f : Rows) : Bool :=
  inB 1 e 20000 && inB (-20000000) m 20000000 && (inB 0 t 20000 && inB 0 l 20000 && inB 0 r 20000) && corners nc c && decide ((ns : Int) ≤ 8) && decide ((nf : Int) ≤ 2) && stOk ta tm && stn ns s && stn nf f
theorem nxt_tmod {n e : Nat} (h : 0 < n) : Int.tmod ((e : Int) + 1) (n : Int) = (nxt n e : Int) := by
  unfold nxt
  rw [Int.tmod_eq_emod_of_nonneg (by omega)]
  norm_cast
theorem nxt_lt {n e : Nat} (h : 0 < n) : nxt n e < n := Nat.mod_lt _ h
theorem sd_in {n : Nat} {c : Rows} {e : Nat} {w m : Int} (hc : cor n c = true) (he : e < n) (hw1 : -1000000 ≤ w) (hw2 : w ≤ 1000000) (hm1 : -1000000000 ≤ m) (hm2 : m ≤ 1000000000) :
    (0 ≤ c e 0 ∧ c e 0 ≤ 20000) ∧ (-20000000 ≤ c e 1 ∧ c e 1 ≤ 20000000) ∧ (0 ≤ c (nxt n e) 0 ∧ c (nxt n e) 0 ≤ 20000) ∧ (-20000000 ≤ c (nxt n e) 1 ∧ c (nxt n e) 1 ≤ 20000000) ∧
    (-(20000 * 1020000000) ≤ (c (nxt n e) 0 - c e 0) * (m - c e 1) ∧ (c (nxt n e) 0 - c e 0) * (m - c e 1) ≤ 20000 * 1020000000) ∧
    (-(40000000 * 1020000) ≤ (c (nxt n e) 1 - c e 1) * (w - c e 0) ∧ (c (nxt n e) 1 - c e 1) * (w - c e 0) ≤ 40000000 * 1020000) := by
  have h1 := from_iff.1 hc e (Nat.zero_le _) he
  have h2 := from_iff.1 hc (nxt n e) (Nat.zero_le _) (nxt_lt (by omega))
  simp only [corAt, Bool.and_eq_true, inB_iff] at h1 h2
  obtain ⟨h1, h1'⟩ := h1
  obtain ⟨h2, h2'⟩ := h2
  exact ⟨h1, h1', h2, h2', mul_in (by omega) (by omega) (by omega) (by omega), mul_in (by omega) (by omega) (by omega) (by omega)⟩
end Go.Ab.S
