/- A part of the proof: an evaluator of the program over plain values, proved sound, and what it gives. -/
import Derived.Test.YtibcmmnobjhbeaaDoorVb
import Derived.RangeFuncNested
set_option linter.all false
namespace Go.Ab
open Go.RowKit
variable {C : Cfg} {E : Ev} {md : Nat → Bool}
def cnt : Nat → (Nat → Bool) → Nat
  | 0, _ => 0
  | n + 1, f => cnt n f + (if f n then 1 else 0)
theorem cnt_congr {f g : Nat → Bool} : ∀ {n : Nat}, (∀ i, i < n → f i = g i) → cnt n f = cnt n g
  | 0, _ => rfl
  | n + 1, h => by simp only [cnt]; rw [cnt_congr (n := n) fun i hi => h i (by omega), h n (by omega)]
theorem cnt_less {f g : Nat → Bool} {i : Nat} : ∀ {n : Nat}, i < n → f i = true → g i = false → (∀ j, j ≠ i → g j = f j) → cnt n g + 1 = cnt n f
  | 0, h, _, _, _ => by omega
  | n + 1, h, hf, hg, hj => by
    simp only [cnt]
    by_cases hin : i = n
    · subst hin
      rw [cnt_congr (n := i) fun j hji => hj j (by omega), hf, hg]
      simp
    · have := cnt_less (n := n) (by omega) hf hg hj
      rw [hj n (fun e => hin e.symm)]
      omega
theorem cnt_zero {f : Nat → Bool} : ∀ {n : Nat}, cnt n f = 0 → ∀ i, i < n → f i = false
  | 0, _, i, hi => by omega
  | n + 1, h, i, hi => by
    simp only [cnt] at h
    by_cases hin : i = n
    · subst hin
      by_cases hf : f i = true
      · rw [hf] at h; simp at h
      · simpa using hf
    · exact cnt_zero (n := n) (by omega) i (by omega)
theorem cnt_all : ∀ (n : Nat), cnt n (fun _ => true) = n
  | 0 => rfl
  | n + 1 => by simp only [cnt]; rw [cnt_all n]; simp
inductive Reach (ops : Array Oper) : Nat → Nat → Prop
  | one {i j : Nat} {o : Oper} {e : Edge} (ho : ops[j]? = some o) (he : e ∈ o.after) (hb : Region.binds .any e = true) (hi : e.on = i) : Reach ops i j
  | more {i k j : Nat} {o : Oper} {e : Edge} (ho : ops[j]? = some o) (he : e ∈ o.after) (hb : Region.binds .any e = true) (hk : e.on = k) (h : Reach ops i k) : Reach ops i j
theorem cloOne_mem {acc : List (List Nat)} {i : Nat} : ∀ {l : List Edge}, i ∈ cloOne acc l → ∃ e ∈ l, Region.binds .any e = true ∧ (e.on = i ∨ i ∈ acc.getD e.on [])
  | [], h => by simp [cloOne] at h
  | e :: l, h => by
    simp only [cloOne] at h
    split at h
    · rename_i hb
      rcases List.mem_append.1 h with h | h
      · rcases List.mem_cons.1 h with h | h
        · exact ⟨e, by simp, hb, .inl h.symm⟩
        · exact ⟨e, by simp, hb, .inr h⟩
      · obtain ⟨e', h1, h2⟩ := cloOne_mem h
        exact ⟨e', List.mem_cons_of_mem _ h1, h2⟩
    · obtain ⟨e', h1, h2⟩ := cloOne_mem h
      exact ⟨e', List.mem_cons_of_mem _ h1, h2⟩
theorem clo_reach {ops : Array Oper} : ∀ {l : List Oper} {acc : List (List Nat)}, (∀ (q : Nat), l[q]? = ops[acc.length + q]?) → (∀ j i, i ∈ acc.getD j [] → Reach ops i j) → ∀ j i, i ∈ (clo l acc).getD j [] → Reach ops i j
  | [], acc, _, h => h
  | o :: l, acc, hl, h => by
    simp only [clo]
    refine clo_reach (l := l) (acc := acc ++ [_]) (fun q => ?_) fun j i hi => ?_
    · have := hl (q + 1)
      simp only [List.getElem?_cons_succ] at this
      rw [this]
      simp [Nat.add_assoc, Nat.add_comm 1 q]
    · rcases Nat.lt_trichotomy j acc.length with hj | hj | hj
      · rw [List.getD, List.getElem?_append_left hj] at hi
        exact h j i (by simpa [List.getD] using hi)
      · subst hj
        have ho : ops[acc.length]? = some o := by have := hl 0; simpa using this.symm
        simp only [List.getD, List.getElem?_concat_length, Option.getD_some, List.mem_eraseDups] at hi
        obtain ⟨e, he, hb, h1⟩ := cloOne_mem hi
        rcases h1 with h1 | h1
        · exact .one ho (by simpa using he) hb h1
        · exact .more ho (by simpa using he) hb rfl (h _ _ h1)
      · rw [List.getD, List.getElem?_eq_none (by simp; omega)] at hi
        simp at hi
structure DrawOk (ops : Array Oper) (ml : List MOp) (nA : Nat) : Prop where
  le : nA ≤ ops.size
  lt : ∀ i o e, ops[i]? = some o → e ∈ o.after → Region.binds .any e = true → e.on < i
  isA : ∀ i, i < nA → ∃ m o, ml[i]? = some m ∧ ops[i]? = some o ∧ isA m = true
  dst : ∀ (i j : Nat) (o q : Oper) (d : Nat), i < nA → j < nA → ops[i]? = some o → ops[j]? = some q → q.dst = some d →
    (d ∈ o.looksAt ops → (j < i ∧ Reach ops j i) ∨ (i < j ∧ Reach ops i j)) ∧ (j = i ∨ o.dst ≠ some d)
  wait : ∀ i j, nA ≤ i → i < ops.size → j < i → Reach ops j i
theorem drawOk_spec {ops : Array Oper} {ml : List MOp} {nA : Nat} (h : drawOk ops nA ml = true) : DrawOk ops ml nA := by
  unfold drawOk at h
  simp only [Bool.and_eq_true, List.all_eq_true, decide_eq_true_eq, List.mem_range] at h
  obtain ⟨⟨h1, h2⟩, h3⟩ := h
  have hcl : ∀ j i, i ∈ (clo ops.toList []).getD j [] → Reach ops i j := clo_reach (fun q => by simp) (fun j i hi => by simp at hi)
  refine ⟨h1, fun i o e ho he hb => ?_, fun i hi => ?_, fun i j o q d hi hj ho hq hd => ?_, fun i j hi hin hj => ?_⟩
  · have hlt : i < ops.size := (Array.getElem?_eq_some_iff.1 ho).1
    have := h2 i hlt
    rw [ho] at this
    simp only [List.all_eq_true, Bool.or_eq_true, Bool.not_eq_true', decide_eq_true_eq] at this
    rcases this e (by simpa using he) with h | h
    · rw [hb] at h; cases h
    · exact h
  · have := h3 i (by omega)
    rw [if_pos hi] at this
    split at this
    · rename_i m o hm ho
      simp only [Bool.and_eq_true] at this
      exact ⟨m, o, hm, ho, this.1⟩
    · cases this
  · have := h3 i (by omega)
    rw [if_pos hi] at this
    split at this
    · rename_i m o' hm ho'
      rw [ho] at ho'
      cases ho'
      simp only [Bool.and_eq_true, List.all_eq_true, List.mem_range] at this
      have := this.2 j hj
      rw [hq] at this
      simp only [hd, Bool.and_eq_true, Bool.or_eq_true, Bool.not_eq_true', beq_iff_eq, bne_iff_ne] at this
      refine ⟨fun hmem => ?_, ?_⟩
      · rcases this.1 with h | h
        · have : (o.looksAt ops).contains d = true := by simpa using hmem
          rw [h] at this; cases this
        · split at h
          · rename_i hji
            exact .inl ⟨hji, hcl _ _ (by simpa using h)⟩
          · split at h
            · rename_i hij
              exact .inr ⟨hij, hcl _ _ (by simpa using h)⟩
            · cases h
      · rcases this.2 with h | h
        · exact .inl h
        · exact .inr fun e => h e.symm
    · cases this
  · have := h3 i hin
    rw [if_neg (by omega)] at this
    simp only [List.all_eq_true, List.mem_range] at this
    exact hcl _ _ (by simpa using this j hj)
def L (listed : Array Bool) (i : Nat) : Prop := listed.getD i false = true
theorem L_set {listed : Array Bool} {i j : Nat} : L (listed.setIfInBounds i true) j ↔ (j = i ∧ i < listed.size) ∨ L listed j := by
  unfold L
  by_cases h : j = i
  · subst h
    by_cases hlt : j < listed.size
    · simp [hlt]
    · simp [hlt, Array.getElem?_eq_none (Nat.le_of_not_lt hlt)]
  · rw [getD_set_ne false (fun e => h e.symm)]
    simp [h]
def Closed (ops : Array Oper) (listed : Array Bool) : Prop :=
  ∀ j o e, L listed j → ops[j]? = some o → e ∈ o.after → Region.binds .any e = true → L listed e.on
theorem closed_reach {ops : Array Oper} {listed : Array Bool} (h : Closed ops listed) {i j : Nat} (hr : Reach ops i j) : L listed j → L listed i := by
  induction hr with
  | one ho he hb hi => intro hj; rw [← hi]; exact h _ _ _ hj ho he hb
  | more ho he hb hk _ ih => intro hj; exact ih (hk ▸ h _ _ _ hj ho he hb)
theorem ready_reach {ops : Array Oper} {listed : Array Bool} (h : Closed ops listed) {i j : Nat} (hr : Reach ops i j) (hj : j ∈ Region.ready .any ops listed) : L listed i := by
  obtain ⟨_, o, ho, hall⟩ := mem_ready.1 hj
  cases hr with
  | one ho' he hb hi =>
    rw [ho] at ho'
    cases ho'
    rw [← hi]
    exact hall _ he hb
  | more ho' he hb hk h' =>
    rw [ho] at ho'
    cases ho'
    exact closed_reach h h' (hk ▸ hall _ he hb)
def StepOK (C : Cfg) (ops : Array Oper) (H : Heap) (i : Nat) (gd : Option (Ps × Bool)) (t : Tr) (v : AV) : Prop :=
  (guardB t gd = some true ∧ ∃ o, ops[i]? = some o ∧ OpGoal C o H (evT C.G t) v) ∨ (guardB t gd = some false ∧ v = .tp [])
structure Canon (C : Cfg) (ops : Array Oper) (ml : List MOp) (s : St) (n : Nat) (vs : Nat → AV) (T : Nat → Tr) : Prop where
  zero : T 0 = s.t
  step : ∀ i, i < n → ∃ m, ml[i]? = some m ∧ T (i + 1) = putT (T i) m.dst (vs i) ∧ StepOK C ops s.h i m.gd (T i) (vs i)
theorem canon (hE : EvCalls C E) {nt : Nat} {ops : Array Oper} {ml : List MOp} (hc : compOs C.P md nt ops ops.toList = some ml) {s : St} {K : KT} (h : (runOps C E ml s K).holds) {nA : Nat} (hA : ∀ i, i < nA → ∃ m o, ml[i]? = some m ∧ ops[i]? = some o ∧ isA m = true) :
    ∀ n, n ≤ nA → ∃ vs T, Canon C ops ml s n vs T ∧ (runOps C E (ml.drop n) ⟨T n, s.h⟩ K).holds
  | 0, _ => ⟨fun _ => .any, fun _ => s.t, ⟨rfl, fun i hi => by omega⟩, by simpa using h⟩
  | n + 1, hn => by
    obtain ⟨vs, T, hcan, hr⟩ := canon hE hc h hA n (by omega)
    obtain ⟨m, o, hm, ho, hi⟩ := hA n (by omega)
    have hd : ml.drop n = m :: ml.drop (n + 1) := by
      obtain ⟨h1, h2⟩ := List.getElem?_eq_some_iff.1 hm
      rw [List.drop_eq_getElem_cons h1, h2]
    rw [hd] at hr
    have hcm : compO C.P md nt ops o = some m := by
      obtain ⟨m', hm', hc'⟩ := (compOs_get hc).2 n o (by simpa using ho)
      rw [hm] at hm'
      cases hm'
      exact hc'
    obtain ⟨_, _, e3⟩ := compO_spec hcm
    have fin : ∀ v, StepOK C ops s.h n m.gd (T n) v → (runOps C E (ml.drop (n + 1)) ⟨putT (T n) m.dst v, s.h⟩ K).holds →
        ∃ vs T, Canon C ops ml s (n + 1) vs T ∧ (runOps C E (ml.drop (n + 1)) ⟨T (n + 1), s.h⟩ K).holds := fun v hv hr' => by
      refine ⟨fun i => if i = n then v else vs i, fun i => if i = n + 1 then putT (T n) m.dst v else T i, ⟨by simp [hcan.zero], fun i hi => ?_⟩, by simpa using hr'⟩
      by_cases hin : i = n
      · subst hin
        exact ⟨m, hm, by simp, by simpa using hv⟩
      · obtain ⟨m', h1, h2, h3⟩ := hcan.step i (by omega)
        refine ⟨m', h1, ?_, ?_⟩
        · rw [if_neg (show ¬ i + 1 = n + 1 by omega), if_neg (show ¬ i = n + 1 by omega), if_neg hin]
          exact h2
        · rw [if_neg (show ¬ i = n + 1 by omega), if_neg hin]
          exact h3
    rcases hg : guardB (T n) m.gd with _ | _ | _
    · simp only [runOps, hg] at hr
      exact False.elim hr
    · simp only [runOps, hg] at hr
      exact fin _ (.inr ⟨hg, rfl⟩) hr
    · unfold isA at hi
      split at hi
      · rename_i p hp
        simp only [runOps, hg, hp] at hr
        rw [hp] at e3
        obtain ⟨v, hK, hgoal⟩ := opA_sound hE (fun _ => rfl) e3 hr
        have hK := brR_holds hK
        exact fin v (.inl ⟨hg, o, ho, hgoal⟩) hK
      · cases hi
theorem T_char {nt : Nat} {ops : Array Oper} {ml : List MOp} (hcomp : compOs C.P md nt ops ops.toList = some ml) {s : St} {n : Nat} {vs : Nat → AV} {T : Nat → Tr} (hc : Canon C ops ml s n vs T) : ∀ m, m ≤ n → ∀ j,
    (∃ i o, i < m ∧ ops[i]? = some o ∧ o.dst = some j ∧ Tr.get (ofN j) (T m) = vs i) ∨ ((∀ i o, i < m → ops[i]? = some o → o.dst ≠ some j) ∧ Tr.get (ofN j) (T m) = Tr.get (ofN j) s.t)
  | 0, _, j => .inr ⟨fun i o hi => by omega, by rw [hc.zero]⟩
  | m + 1, hm, j => by
    obtain ⟨q, hq, hT, _⟩ := hc.step m (by omega)
    have hlt : m < ops.size := by
      have h1 := (List.getElem?_eq_some_iff.1 hq).1
      have h2 := (compOs_get hcomp).1
      simp at h2
      omega
    have ho : ops[m]? = some ops[m] := Array.getElem?_eq_getElem hlt
    obtain ⟨q', hq', hcm⟩ := (compOs_get hcomp).2 m ops[m] (by simp)
    rw [hq] at hq'
    cases hq'
    have hd := (compO_spec hcm).1
    rw [hT, put_get hd]
    by_cases hj : ops[m].dst = some j
    · rw [if_pos hj]
      exact .inl ⟨m, _, by omega, ho, hj, rfl⟩
    · rw [if_neg hj]
      rcases T_char hcomp hc m (by omega) j with ⟨i, o, hi, ho', h3, h4⟩ | ⟨h3, h4⟩
      · exact .inl ⟨i, o, by omega, ho', h3, h4⟩
      · refine .inr ⟨fun i o hi ho' => ?_, h4⟩
        by_cases him : i = m
        · subst him
          rw [ho] at ho'
          cases ho'
          exact hj
        · exact h3 i o (by omega) ho'
structure Core (C : Cfg) (En : Ent) (nt : Nat) (ops : Array Oper) (nA : Nat) (vs : Nat → AV) (s : St) (LL : Nat → Prop) (Z : Nat → Prop) (φ : Nat → Value) (a : Act) (w : World) : Prop where
  h : SimH C En.O Z φ s.h w
  g : GRep C.G w Z
  b : ∀ b, w.heap.size ≤ b → En.O b
  sz : nt ≤ a.tmps.size
  S : Since En Z s.h φ w
  d : Marks En.w.heap.size Z w a.defers
  new : ∀ (i : Nat) (o : Oper) (j : Nat), i < nA → LL i → ops[i]? = some o → o.dst = some j → RepA w Z s.h φ (vs i) (a.tmps.getD j undef)
  old : ∀ j, (∀ (i : Nat) (o : Oper), i < nA → LL i → ops[i]? = some o → o.dst ≠ some j) → RepA w Z s.h φ (Tr.get (ofN j) s.t) (a.tmps.getD j undef)
theorem core_looks {En : Ent} {nt : Nat} {ops : Array Oper} {ml : List MOp} {nA : Nat} (hcomp : compOs C.P md nt ops ops.toList = some ml) (hd : DrawOk ops ml nA) {s : St} {vs : Nat → AV} {T : Nat → Tr} (hc : Canon C ops ml s nA vs T) {listed : Array Bool} (hcl : Closed ops listed)
    {Z : Nat → Prop} {φ : Nat → Value} {a : Act} {w : World} (hcore : Core C En nt ops nA vs s (L listed) Z φ a w) {m : Nat} (hm : m < nA) {o : Oper} (ho : ops[m]? = some o) (hr : m ∈ Region.ready .any ops listed) {j : Nat} (hj : j ∈ o.looksAt ops) :
    RepA w Z s.h φ (Tr.get (ofN j) (T m)) (a.tmps.getD j undef) := by
  have hnot : ¬ L listed m := by
    have := (mem_ready.1 hr).1
    unfold L
    rcases Nat.lt_or_ge m listed.size with h | h
    · simp [h] at this ⊢; exact this
    · simp [Array.getElem?_eq_none h]
  rcases T_char hcomp hc m (by omega) j with ⟨i, q, hi, hq, hqd, hx⟩ | ⟨h1, h2⟩
  · rw [hx]
    have := (hd.dst m i o q j hm (by omega) ho hq hqd).1 hj
    rcases this with ⟨_, hreach⟩ | ⟨h, _⟩
    · exact hcore.new i q j (by omega) (ready_reach hcl hreach hr) hq hqd
    · omega
  · rw [h2]
    refine hcore.old j (fun i q hi hLi hq hqd => ?_)
    have := (hd.dst m i o q j hm hi ho hq hqd).1 hj
    rcases this with ⟨h, _⟩ | ⟨_, hreach⟩
    · exact h1 i q h hq hqd
    · exact hnot (closed_reach hcl hreach hLi)
section
variable {F : Fence} {n : Nat} {En : Ent} {nt : Nat}
theorem core_step (hF : WF F) {ops : Array Oper} {ml : List MOp} {nA : Nat} (hcomp : compOs C.P md nt ops ops.toList = some ml) (hd : DrawOk ops ml nA) {s : St} {vs : Nat → AV} {T : Nat → Tr} (hc : Canon C ops ml s nA vs T) {listed : Array Bool} (hcl : Closed ops listed) (hsize : listed.size = ops.size)
    {Z : Nat → Prop} {φ : Nat → Value} {a : Act} {w : World} (hcore : Core C En nt ops nA vs s (L listed) Z φ a w) {m : Nat} (hm : m < nA) (hr : m ∈ Region.ready .any ops listed) (Q : Exit → Act → World → Prop) :
    wpOpIn F n C.P ops Q m (fun a' w' => ∃ Z', Core C En nt ops nA vs s (L (listed.setIfInBounds m true)) Z' φ a' w') a w := by
  obtain ⟨mm, o, hmm, ho, _⟩ := hd.isA m hm
  have hlook : ∀ j, j ∈ o.looksAt ops → RepA w Z s.h φ (Tr.get (ofN j) (T m)) (a.tmps.getD j undef) := fun j hj => core_looks hcomp hd hc hcl hcore hm ho hr hj
  obtain ⟨m', hm', hT, hstep⟩ := hc.step m hm
  rw [hmm] at hm'
  cases hm'
  have hcm : compO C.P md nt ops o = some mm := by
    obtain ⟨m', hm', hc'⟩ := (compOs_get hcomp).2 m o (by simpa using ho)
    rw [hmm] at hm'
    cases hm'
    exact hc'
  obtain ⟨e1, e2, _⟩ := compO_spec hcm
  have hguard : ∀ b, guardB (T m) mm.gd = some b → Region.wanted o (yielded ops a.tmps) = b := fun b hb =>
    guard_spec e2 (fun j want hg q hq => ⟨hlook q (by
      refine List.mem_append_right _ ?_
      rw [hg]
      simp [hq]), by
      refine Nat.lt_of_lt_of_le ?_ hcore.sz
      cases hoj : ops[j]? with
      | none => rw [hoj] at hq; cases hq
      | some oj => rw [hoj] at hq; exact compOs_dst hcomp j oj q hoj hq⟩) hb
  have next : ∀ (Z' : Nat → Prop) (u : Value) (w' : World), RepA w' Z' s.h φ (vs m) u → Stays w w' → (∀ b, Z b → Z' b) → (∀ b, Z' b → Z b ∨ (w.heap.size ≤ b ∧ b < w'.heap.size)) →
      Core C En nt ops nA vs s (L (listed.setIfInBounds m true)) Z' φ (a.put o.dst u) w' := by
    intro Z' u w' hu hst hz hn
    have W := Way.stays hcore.h hcore.b hst hz hn
    refine ⟨hcore.h.stays hst hz hn, hcore.g.go W.z1 W.o, fun b hb => hcore.b b (Nat.le_trans hst.size hb), by rw [size_put]; exact hcore.sz, hcore.S.way W, by rw [defers_put]; exact hcore.d.go W.z1 W.o, fun i q j hi hLi hq hqd => ?_, fun j hno => ?_⟩
    · rw [getD_put]
      by_cases him : i = m
      · subst him
        rw [ho] at hq
        cases hq
        rw [if_pos ⟨hqd, Nat.lt_of_lt_of_le (compOs_dst hcomp _ _ _ ho hqd) hcore.sz⟩]
        exact hu
      · rw [if_neg (fun h => by
          rcases (hd.dst m i o q j hm hi ho hq hqd).2 with h' | h'
          · exact him h'
          · exact h' h.1)]
        have hLi' : L listed i := by
          rcases L_set.1 hLi with h | h
          · exact absurd h.1 him
          · exact h
        exact (hcore.new i q j hi hLi' hq hqd).tra W.t
    · rw [getD_put]
      rw [if_neg (fun h => hno m o hm (L_set.2 (.inl ⟨rfl, by rw [hsize]; exact (Array.getElem?_eq_some_iff.1 ho).1⟩)) ho h.1)]
      exact (hcore.old j (fun i q hi hLi hq => hno i q hi (L_set.2 (.inr hLi)) hq)).tra W.t
  unfold wpOpIn
  rw [ho]
  dsimp only
  rcases hstep with ⟨hg, o', ho', hgoal⟩ | ⟨hg, hv⟩
  · rw [ho] at ho'
    cases ho'
    rw [hguard _ hg, if_pos rfl]
    refine hgoal En.O Z φ a w hcore.h hcore.g (fun x hx X hX => opd_rep hcore.g (fun j hj => hlook j ?_) hX) F n hF _ Q fun u w' Z' hu hst hz hn => ⟨Z', next Z' u w' hu hst hz hn⟩
    subst hj
    exact List.mem_append_left _ (List.mem_filterMap.2 ⟨.tmp j, by simpa using hx, rfl⟩)
  · rw [hguard _ hg, if_neg (by simp)]
    exact ⟨fun f _ => hF.fn f, Z, next Z undef w (by rw [hv]; exact undef_rep) (Below.refl _ _) (fun _ h => h) fun _ h => .inl h⟩
theorem core_sim {ops : Array Oper} {ml : List MOp} {nA : Nat} (hcomp : compOs C.P md nt ops ops.toList = some ml) {s : St} {vs : Nat → AV} {T : Nat → Tr} (hc : Canon C ops ml s nA vs T) {LL : Nat → Prop} (hall : ∀ i, i < nA → LL i)
    {Z : Nat → Prop} {φ : Nat → Value} {a : Act} {w : World} (hcore : Core C En nt ops nA vs s LL Z φ a w) : Inv C En nt ⟨T nA, s.h⟩ a w := by
  refine ⟨Z, φ, ⟨hcore.h, hcore.g, hcore.b, hcore.sz, fun j => ?_⟩, hcore.S, hcore.d⟩
  rcases T_char hcomp hc nA (Nat.le_refl _) j with ⟨i, q, hi, hq, hqd, hx⟩ | ⟨h1, h2⟩
  · rw [hx]; exact hcore.new i q j hi (hall i hi) hq hqd
  · rw [h2]; exact hcore.old j (fun i q hi _ hq => h1 i q hi hq)
def JJ (C : Cfg) (E : Ev) (En : Ent) (nt : Nat) (ops : Array Oper) (ml : List MOp) (nA : Nat) (vs : Nat → AV) (s : St) (K : KT) (listed : Array Bool) (a : Act) (w : World) : Prop :=
  ((∀ i, nA ≤ i → ¬ L listed i) ∧ ∃ Z φ, Core C En nt ops nA vs s (L listed) Z φ a w) ∨
  (∃ k, nA ≤ k ∧ (∀ i, L listed i ↔ i < k) ∧ ∃ s', (runOps C E (ml.drop k) s' K).holds ∧ Inv C En nt s' a w)
theorem closed_set {ops : Array Oper} {listed : Array Bool} (h : Closed ops listed) {i : Nat} (hr : i ∈ Region.ready .any ops listed) : Closed ops (listed.setIfInBounds i true) := by
  intro j o e hj ho he hb
  rcases L_set.1 hj with ⟨rfl, _⟩ | hj
  · obtain ⟨_, o', ho', hall⟩ := mem_ready.1 hr
    rw [ho] at ho'
    cases ho'
    exact L_set.2 (.inr (hall e he hb))
  · exact L_set.2 (.inr (h j o e hj ho he hb))
theorem draw_any (hF : WF F) (hE : EvCalls C E) (hX : XGoal C E) (hR : ∀ l, F.round = some l → ∃ r, En.w.heap[l]? = some (.loop r)) {ops : Array Oper} {ml : List MOp} {nA : Nat} (hcomp : compOs C.P md nt ops ops.toList = some ml) (hd : DrawOk ops ml nA) {s : St} {vs : Nat → AV} {T : Nat → Tr} (hc : Canon C ops ml s nA vs T) {K : KT}
    (hrest : (runOps C E (ml.drop nA) ⟨T nA, s.h⟩ K).holds) :
    ∀ (fuel : Nat) (listed : Array Bool) (a : Act) (w : World), listed.size = ops.size → Closed ops listed → cnt ops.size (fun i => !listed.getD i false) = fuel → JJ C E En nt ops ml nA vs s K listed a w → wpAnyIn F n C.P .any ops (PostK C En nt K) fuel listed a w := by
  have hml := (compOs_get hcomp).1
  have done : ∀ (listed : Array Bool) (a : Act) (w : World), (∀ i, i < ops.size → L listed i) → listed.size = ops.size → JJ C E En nt ops ml nA vs s K listed a w → PostK C En nt K .normal a w := by
    intro listed a w hall hsz hj
    rcases hj with ⟨hno, Z, φ, hcore⟩ | ⟨k, hk, hlk, s', hr, hv⟩
    · have hn : nA = ops.size := by
        rcases Nat.lt_or_ge nA ops.size with h | h
        · exact absurd (hall nA h) (hno nA (Nat.le_refl _))
        · have := hd.le; omega
      have hv := core_sim hcomp hc (fun i hi => hall i (by omega)) hcore
      rw [List.drop_eq_nil_of_le (by simp at hml; omega)] at hrest
      exact PostK.normal hrest hv
    · have hkn : ops.size ≤ k := by
        rcases Nat.lt_or_ge k ops.size with h | h
        · have := (hlk k).1 (hall k h); omega
        · exact h
      rw [List.drop_eq_nil_of_le (by simp at hml; omega)] at hr
      exact PostK.normal hr hv
  have noready : ∀ (listed : Array Bool), listed.size = ops.size → Region.ready .any ops listed = [] → ∀ i, i < ops.size → L listed i := by
    intro listed hsz hnil i
    induction i using Nat.strongRecOn with
    | _ i ih =>
      intro hi
      rcases Classical.em (L listed i) with h | h
      · exact h
      · exfalso
        have : i ∈ Region.ready .any ops listed := by
          refine mem_ready.2 ⟨?_, ops[i], Array.getElem?_eq_getElem hi, fun e he hb => ?_⟩
          · unfold L at h
            have hlt : i < listed.size := by omega
            simp [hlt] at h ⊢
            exact h
          · have := hd.lt i ops[i] e (Array.getElem?_eq_getElem hi) he hb
            exact ih e.on this (by omega)
        rw [hnil] at this
        cases this
  intro fuel
  induction fuel with
  | zero =>
    intro listed a w hsz hcl hcnt hj
    have hall : ∀ i, i < ops.size → L listed i := fun i hi => by
      have := cnt_zero hcnt i hi
      unfold L
      simpa using this
    refine ⟨?_, done listed a w hall hsz hj⟩
    cases hr : Region.ready .any ops listed with
    | nil => rfl
    | cons i l =>
      exfalso
      have hi : i ∈ Region.ready .any ops listed := by rw [hr]; simp
      obtain ⟨h0, o, ho, _⟩ := mem_ready.1 hi
      have hlt := (Array.getElem?_eq_some_iff.1 ho).1
      have := hall i hlt
      unfold L at this
      have hlt' : i < listed.size := by omega
      simp [hlt'] at h0 this
      rw [h0] at this
      cases this
  | succ fuel ih =>
    intro listed a w hsz hcl hcnt hj
    refine ⟨fun hnil => done listed a w (noready listed hsz hnil) hsz hj, fun i hi => ?_⟩
    obtain ⟨h0, o, ho, _⟩ := mem_ready.1 hi
    have hlt := (Array.getElem?_eq_some_iff.1 ho).1
    have hnot : ¬ L listed i := by
      unfold L
      have hlt' : i < listed.size := by omega
      simp [hlt'] at h0 ⊢
      exact h0
    have hcnt' : cnt ops.size (fun j => !(listed.setIfInBounds i true).getD j false) = fuel := by
      have := cnt_less (f := fun j => !listed.getD j false) (g := fun j => !(listed.setIfInBounds i true).getD j false) (i := i) (n := ops.size) hlt (by unfold L at hnot; simpa using hnot) (by
        have : L (listed.setIfInBounds i true) i := L_set.2 (.inl ⟨rfl, by omega⟩)
        unfold L at this
        rw [this]
        rfl) (fun j hj => by rw [getD_set_ne false (fun e => hj e.symm)])
      omega
    have go : ∀ a' w', JJ C E En nt ops ml nA vs s K (listed.setIfInBounds i true) a' w' → wpAnyIn F n C.P .any ops (PostK C En nt K) fuel (listed.setIfInBounds i true) a' w' := fun a' w' hj' =>
      ih _ a' w' (by simp [hsz]) (closed_set hcl hi) hcnt' hj'
    have hcomp_i : ∃ m, ml[i]? = some m ∧ compO C.P md nt ops o = some m := (compOs_get hcomp).2 i o (by simpa using ho)
    obtain ⟨m, hm, hcm⟩ := hcomp_i
    have hdrop : ml.drop i = m :: ml.drop (i + 1) := by
      obtain ⟨h1, h2⟩ := List.getElem?_eq_some_iff.1 hm
      rw [List.drop_eq_getElem_cons h1, h2]
    rcases hj with ⟨hno, Z, φ, hcore⟩ | ⟨k, hk, hlk, s', hr, hv⟩
    · rcases Nat.lt_or_ge i nA with hiA | hiA
      · refine wpOpIn_mono (fun a' w' h' => go a' w' ?_) (core_step hF hcomp hd hc hcl hsz hcore hiA hi (PostK C En nt K))
        obtain ⟨Z', h'⟩ := h'
        refine .inl ⟨fun j hj hLj => ?_, Z', φ, h'⟩
        rcases L_set.1 hLj with ⟨h, _⟩ | h
        · omega
        · exact hno j hj h
      · have hall : ∀ j, j < i → L listed j := fun j hj => ready_reach hcl (hd.wait i j hiA hlt hj) hi
        have hin : i = nA := by
          rcases Nat.lt_or_ge nA i with h | h
          · exact absurd (hall nA h) (hno nA (Nat.le_refl _))
          · omega
        subst hin
        have hv := core_sim hcomp hc (fun j hj => hall j hj) hcore
        rw [hdrop] at hrest
        refine wpOpIn_mono (fun a' w' h' => go a' w' ?_) (step_op hF hE hX hR (compOs_dst hcomp) ho hcm hrest hv)
        refine .inr ⟨i + 1, by omega, fun j => ?_, h'⟩
        rw [L_set]
        constructor
        · rintro (⟨h, _⟩ | h)
          · omega
          · rcases Nat.lt_or_ge j i with h' | h'
            · omega
            · exact absurd h (hno j h')
        · intro h
          rcases Nat.lt_or_ge j i with h' | h'
          · exact .inr (hall j h')
          · exact .inl ⟨by omega, by omega⟩
    · have hik : i = k := by
        have h1 : ¬ i < k := fun h => hnot ((hlk i).2 h)
        rcases Nat.lt_or_ge k i with h | h
        · have := ready_reach hcl (hd.wait i k (by omega) hlt h) hi
          have := (hlk k).1 this
          omega
        · omega
      subst hik
      rw [hdrop] at hr
      refine wpOpIn_mono (fun a' w' h' => go a' w' ?_) (step_op hF hE hX hR (compOs_dst hcomp) ho hcm hr hv)
      refine .inr ⟨i + 1, by omega, fun j => ?_, h'⟩
      rw [L_set, hlk]
      constructor
      · rintro (⟨h, _⟩ | h) <;> omega
      · intro h
        rcases Nat.lt_or_ge j i with h' | h'
        · exact .inr (by omega)
        · exact .inl ⟨by omega, by omega⟩
theorem region_draw (hF : WF F) (hE : EvCalls C E) (hX : XGoal C E) (hR : ∀ l, F.round = some l → ∃ r, En.w.heap[l]? = some (.loop r)) {ops : Array Oper} {ml : List MOp} {id nA : Nat} (hf : C.P.follows .mixedOrders = true) (hcomp : compOs C.P md nt ops ops.toList = some ml) (hd : drawOk ops nA ml = true) {s : St} {K : KT} (h : (runOps C E ml s K).holds) {a : Act} {w : World} (hv : Inv C En nt s a w) :
    (Code.region id ops true).wpIn F n C.P (PostK C En nt K) a w := by
  have hd := drawOk_spec hd
  obtain ⟨vs, T, hcan, hrest⟩ := canon hE hcomp h hd.isA nA (Nat.le_refl _)
  have empty : ∀ i, ¬ L (Array.replicate ops.size false) i := fun i hi => by
    unfold L at hi
    rcases Nat.lt_or_ge i ops.size with h | h
    · simp [h] at hi
    · simp [h] at hi
  refine wpIn_region_any hf (draw_any hF hE hX hR hcomp hd hcan hrest ops.size _ a _ (by simp) (fun j o e hj => absurd hj (empty j)) ?_ (.inl ⟨fun i _ hi => empty i hi, ?_⟩))
  · rw [cnt_congr (g := fun _ => true) fun i hi => by simp [hi]]
    exact cnt_all _
  · obtain ⟨Z, φ, hs, hS, hm⟩ := hv
    have hst : Stays w { w with drawn := w.drawn + 1 } := (Below.refl _ _).drew
    have W := Way.stays (Z' := Z) hs.h hs.b hst (fun _ h => h) (fun _ h => .inl h)
    exact ⟨Z, φ, ⟨hs.h.stays hst (fun _ h => h) (fun _ h => .inl h), hs.g.go W.z1 W.o, hs.b, hs.sz, hS.way W, hm.go W.z1 W.o,
      fun i q j _ hi => absurd hi (empty i), fun j _ => (hs.t j).tra W.t⟩⟩
end
end Go.Ab
namespace Go.Ab
open Go.RowKit
variable {C : Cfg} {E : Ev}
def HLe (H H' : Heap) : Prop := ∀ (k : Nat) (b : Blk), b ≠ .unb → H[k]? = some (some b) → H'[k]? = some (some b)
section
variable {H H' : Heap}
theorem viewPt_le (hH : HLe H H') {c : CV} {p : PV} (h : viewPt H c = some p) : viewPt H' c = some p := by
  cases c with
  | sl k off len =>
    simp only [viewPt] at h ⊢
    split at h
    · rename_i e t n f ups hk
      rw [hH _ _ (by simp) hk]
      exact h
    · cases h
  | pe k i j =>
    simp only [viewPt] at h ⊢
    split at h
    · rename_i e t n f ups hk
      rw [hH _ _ (by simp) hk]
      exact h
    · cases h
  | _ => exact h
theorem viewLs_le (hH : HLe H H') : ∀ {l : List CV} {q : List PV}, viewLs H l = some q → viewLs H' l = some q
  | [], q, h => h
  | c :: l, q, h => by
    simp only [viewLs] at h ⊢
    split at h
    · rename_i a b ha hb
      rw [viewPt_le hH ha, viewLs_le hH hb]
      exact h
    · cases h
theorem viewC_le (hH : HLe H H') {c : CV} {p : PV} (h : viewC H c = some p) : viewC H' c = some p := by
  cases c with
  | pt k off =>
    simp only [viewC] at h ⊢
    split at h
    · rename_i l hk
      rw [hH _ _ (by simp) hk]
      dsimp only
      split at h
      · rename_i q hq
        rw [viewLs_le hH hq]
        exact h
      · cases h
    · cases h
  | _ => simp only [viewC] at h ⊢; exact viewPt_le hH h
theorem viewL_le (hH : HLe H H') : ∀ {l : List CV} {q : List PV}, viewL H l = some q → viewL H' l = some q
  | [], q, h => h
  | c :: l, q, h => by
    simp only [viewL] at h ⊢
    split at h
    · rename_i a b ha hb
      rw [viewC_le hH ha, viewL_le hH hb]
      exact h
    · cases h
theorem viewA_le (hH : HLe H H') {a : AV} {p : AV} (h : viewA H a = some p) : viewA H' a = some p := by
  cases a with
  | c c =>
    simp only [viewA, Option.map_eq_some_iff] at h ⊢
    obtain ⟨q, h1, h2⟩ := h
    exact ⟨q, viewC_le hH h1, h2⟩
  | ag l =>
    simp only [viewA, Option.map_eq_some_iff] at h ⊢
    obtain ⟨q, h1, h2⟩ := h
    exact ⟨q, viewL_le hH h1, h2⟩
  | _ => exact h
theorem viewAs_le (hH : HLe H H') : ∀ {l : List AV} {q : List AV}, viewAs H l = some q → viewAs H' l = some q
  | [], q, h => h
  | c :: l, q, h => by
    simp only [viewAs] at h ⊢
    split at h
    · rename_i a b ha hb
      rw [viewA_le hH ha, viewAs_le hH hb]
      exact h
    · cases h
end
theorem bound_congr {ev ev' : Opd → AV} {d : Int} {x : Option Opd} (h : ∀ X ∈ opdXo x, ev X = ev' X) : bound ev d x = bound ev' d x := by
  cases x with
  | none => rfl
  | some X => simp only [bound, h X (by simp [opdXo])]
theorem fillA_congr {ev ev' : Opd → AV} : ∀ {ps : List (Nat × Nat × Opd)} {l : List CV}, (∀ p ∈ ps, ev p.2.2 = ev' p.2.2) → fillA ev l ps = fillA ev' l ps
  | [], l, _ => rfl
  | (off, n, X) :: ps, l, h => by
    have e : ev X = ev' X := h (off, n, X) (by simp)
    simp only [fillA, e]
    cases cellsA (ev' X) with
    | none => rfl
    | some vs =>
      dsimp only
      split
      · exact fillA_congr fun p hp => h p (List.mem_cons_of_mem _ hp)
      · rfl
theorem map_congr' {ev ev' : Opd → AV} {xs : List Opd} (h : ∀ X ∈ xs, ev X = ev' X) : xs.map ev = xs.map ev' := List.map_congr_left h
theorem opA_congr {H : Heap} {ev ev' : Opd → AV} {m : OP} (hev : ∀ X ∈ opdsA m, ev X = ev' X) (K : AV → VC) : opA C E H ev m K = opA C E H ev' m K := by
  cases m <;> simp only [opdsA, List.mem_cons, List.mem_append, List.not_mem_nil, or_false, forall_eq_or_imp, forall_eq] at hev <;> simp only [opA]
  case mv => rw [hev]
  case pick => rw [hev.1, hev.2.1, hev.2.2]
  case load => rw [hev]
  case fadr => rw [hev]
  case iadr => rw [hev.1, hev.2]
  case iada => rw [hev.1, hev.2]
  case fld => rw [hev]
  case idx => rw [hev.1, hev.2]
  case sidx => rw [hev.1, hev.2]
  case nilck => rw [hev]
  case bin => rw [hev.1, hev.2]
  case un => rw [hev]
  case cvi => rw [hev]
  case ext => rw [hev]
  case len => rw [hev]
  case call f xs => rw [map_congr' hev]
  case build => rw [fillA_congr fun p hp => hev _ (List.mem_map.2 ⟨p, hp, rfl⟩)]
  case beq => rw [hev.1, hev.2]
  case sls x lo hi => simp only [hev.1, bound_congr fun X hX => hev.2 X (.inl hX), bound_congr fun X hX => hev.2 X (.inr hX)]
  case slx e x lo hi => simp only [hev.1, bound_congr fun X hX => hev.2 X (.inl hX), bound_congr fun X hX => hev.2 X (.inr hX)]
  case mm => rw [map_congr' hev]
  case nln => rw [hev]
  case bslp => rw [fillA_congr fun p hp => hev _ (List.mem_map.2 ⟨p, hp, rfl⟩)]
  case sdata => rw [hev]
  case mget => rw [hev.1, hev.2]
theorem opA_T {m : OP} (h : isT m = true) (H H' : Heap) (ev : Opd → AV) (K : AV → VC) : opA C E H ev m K = opA C E H' ev m K := by
  cases m <;> first | rfl | cases h
theorem opA_le {H H' : Heap} (hH : HLe H H') {ev : Opd → AV} {m : OP} {K : AV → VC} (h : (opA C E H ev m K).holds) : (opA C E H' ev m K).holds := by
  cases m <;> first | exact h | skip
  case load sz x =>
    simp only [opA] at h ⊢
    split at h
    · exact h
    · rename_i k off hx
      split at h
      · rename_i l hk; rw [hH _ _ (by simp) hk]; exact h
      · exact False.elim h
    · rename_i k i j hx
      split at h
      · rename_i hk; rw [hH _ _ (by simp) hk]; exact h
      · exact False.elim h
    · exact False.elim h
  case fadr off x =>
    simp only [opA] at h ⊢
    split at h
    · exact h
    · rename_i k o hx
      split at h
      · rename_i hk; rw [hH _ _ (by simp) hk]; exact h
      · exact False.elim h
    · rename_i k o hx
      split at h
      · rename_i hk; rw [hH _ _ (by simp) hk]; exact h
      · exact False.elim h
    · exact False.elim h
  case iadr e x i =>
    simp only [opA] at h ⊢
    split at h
    · exact h
    · rename_i k off len _ q hx hi
      split at h
      · rename_i hk; rw [hH _ _ (by simp) hk]; exact h
      · exact False.elim h
    · exact False.elim h
  case iada len e x i =>
    simp only [opA] at h ⊢
    split at h
    · exact h
    · rename_i k o _ q hx hi
      split at h
      · rename_i hk; rw [hH _ _ (by simp) hk]; exact h
      · exact False.elim h
    · exact False.elim h
  case nilck x =>
    simp only [opA] at h ⊢
    split at h
    · exact h
    · rename_i k o hx
      split at h
      · rename_i hk; rw [hH _ _ (by simp) hk]; exact h
      · exact False.elim h
    · exact False.elim h
  case len s x =>
    simp only [opA] at h ⊢
    split at h
    · exact h
    · exact h
    · exact h
    · rename_i k off len hs hx
      split at h
      · rename_i hk; rw [hH _ _ (by simp) hk]; exact h
      · exact False.elim h
    · exact False.elim h
  case call f xs =>
    simp only [opA] at h ⊢
    split at h
    · rename_i args hargs
      rw [viewAs_le hH hargs]
      exact h
    · exact False.elim h
  case slx e x lo hi =>
    simp only [opA] at h ⊢
    split at h
    · exact h
    · rename_i k off len hx
      split at h
      · rename_i hk; rw [hH _ _ (by simp) hk]; exact h
      · exact False.elim h
    · exact False.elim h
  case nln ng x =>
    simp only [opA] at h ⊢
    split at h
    · exact h
    · exact h
    · split at h
      · rename_i hk; rw [hH _ _ (by simp) hk]; exact h
      · exact False.elim h
    · exact h
    · exact False.elim h
  case sdata x =>
    simp only [opA] at h ⊢
    split at h
    · exact h
    · split at h
      · rename_i hk; rw [hH _ _ (by simp) hk]; exact h
      · exact False.elim h
    · exact False.elim h
  case mget ks z ok x i =>
    simp only [opA] at h ⊢
    split at h
    · split at h
      · rename_i hk; rw [hH _ _ (by simp) hk]; exact h
      · rename_i hk; rw [hH _ _ (by simp) hk]; exact h
      · rename_i hk; rw [hH _ _ (by simp) hk]; exact h
      · exact False.elim h
    · exact False.elim h
theorem opM_congr {H : Heap} {ev ev' : Opd → AV} {m : OM} (hev : ∀ X ∈ opdsM m, ev X = ev' X) (K : AV → Heap → VC) : opM H ev m K = opM H ev' m K := by
  cases m <;> simp only [opdsM, List.mem_cons, List.mem_append, List.not_mem_nil, or_false, forall_eq_or_imp, forall_eq] at hev <;> simp only [opM]
  case box => rw [hev]
  case store => rw [hev.1, hev.2]
  case app => rw [hev.1, hev.2]
  case bsl => rw [fillA_congr fun p hp => hev _ (List.mem_map.2 ⟨p, hp, rfl⟩)]
  case mks => rw [hev.1, hev.2]
  case aps => rw [hev.1, hev.2]
  case bstr => rw [hev]
  case ustr => rw [hev.1, hev.2]
  case cpy => rw [hev.1, hev.2]
  case mset => rw [hev.1, hev.2.1, hev.2.2]
  case rng => rw [hev]
  case nxs => rw [hev]
  case frz => rw [hev]
  case clo f fs cs => simp only [evs, map_congr' fun X hX => hev X (.inl hX), map_congr' fun X hX => hev X (.inr hX)]
def lblC (N : Nat) : CV → Prop
  | .sl k _ _ => k < N
  | .pt k _ => k < N
  | .pe k _ _ => k < N
  | .ref k => k < N
  | _ => True
mutual
def lblA (N : Nat) : AV → Prop
  | .c c => lblC N c
  | .ag l => ∀ c ∈ l, lblC N c
  | .tp l => lblAs N l
  | .any => True
def lblAs (N : Nat) : List AV → Prop
  | [] => True
  | a :: l => lblA N a ∧ lblAs N l
end
def lblB (N : Nat) : Blk → Prop
  | .box _ l => ∀ c ∈ l, lblC N c
  | .clo _ fs cs => lblAs N fs ∧ lblAs N cs
  | .lp _ t _ _ _ _ => ∀ j, lblA N (Tr.get (ofN j) t)
  | .mp l => ∀ (p : PV) (c : CV), (p, c) ∈ l → lblC N c
  | .mpp l => ∀ (p : PV) (c : CV), (p, c) ∈ l → lblC N c
  | _ => True
section
variable {w : World} {Z : Nat → Prop} {H : Heap} {φ : Nat → Value}
theorem rep_lblC {c : CV} {u : Value} (h : RepC w Z H φ c u) : lblC H.length c := by
  cases c <;> first | exact h.1.1 | trivial
theorem rep_lblL {l : List CV} {us : List Value} (h : RepL w Z H φ l us) : ∀ c ∈ l, lblC H.length c := fun c hc => by
  obtain ⟨i, hi, rfl⟩ := List.getElem_of_mem hc
  obtain ⟨u, _, hr⟩ := h.2 i l[i] (by simp [hi])
  exact rep_lblC hr
mutual
theorem rep_lblA : ∀ {a : AV} {u : Value}, RepA w Z H φ a u → lblA H.length a
  | .c c, u, h => by simp only [RepA] at h; simp only [lblA]; exact rep_lblC h
  | .ag l, u, h => by
    simp only [RepA] at h
    obtain ⟨us, _, h⟩ := h
    simp only [lblA]
    exact rep_lblL h
  | .tp l, u, h => by
    simp only [RepA] at h
    obtain ⟨us, _, h⟩ := h
    simp only [lblA]
    exact rep_lblAs h
  | .any, u, h => by simp only [lblA]
theorem rep_lblAs : ∀ {l : List AV} {us : List Value}, RepAs w Z H φ l us → lblAs H.length l
  | [], us, h => by simp only [lblAs]
  | a :: l, us, h => by
    simp only [RepAs] at h
    obtain ⟨u, us', rfl, h1, h2⟩ := h
    simp only [lblAs]
    exact ⟨rep_lblA h1, rep_lblAs h2⟩
end
theorem rep_lblB {k : Nat} {b : Blk} (h : RepB C w Z H φ k b) : lblB H.length b := by
  cases b with
  | box bt l => obtain ⟨_, _, _, _, _, h⟩ := h; exact rep_lblL h
  | clo f fs cs => obtain ⟨_, _, _, h1, h2⟩ := h; exact ⟨rep_lblAs h1, rep_lblAs h2⟩
  | lp nt t ps a b st => obtain ⟨_, _, _, _, _, _, _, _, _, h, _⟩ := h; exact fun j => rep_lblA (h j)
  | mp l =>
    obtain ⟨r, es, clock, _, _, _, h⟩ := h
    intro p c hm
    obtain ⟨i, hi, hx⟩ := List.getElem_of_mem hm
    obtain ⟨e, _, _, hc⟩ := h i p c (by rw [List.getElem?_eq_getElem hi, hx])
    exact rep_lblC hc
  | mpp l =>
    obtain ⟨l0, q1, _, r, es, clock, _, _, _, h⟩ := h
    intro p c hm
    obtain ⟨i, hi, hx⟩ := List.getElem_of_mem (q1.mem_iff.2 hm)
    obtain ⟨e, _, _, hc⟩ := h i p c (by rw [List.getElem?_eq_getElem hi, hx])
    exact rep_lblC hc
  | _ => trivial
end
section
variable {w : World} {Z O : Nat → Prop} {H0 : Heap} {b1 : Blk} {k : Nat} {φ : Nat → Value}
theorem snoc_get {q : Nat} (h : q < H0.length) : (H0 ++ [some b1])[q]? = H0[q]? := List.getElem?_append_left h
theorem set_get {q : Nat} (h : q ≠ k) : (H0.set k (some b1))[q]? = H0[q]? := by rw [List.getElem?_set]; rw [if_neg (fun e => h e.symm)]
theorem fillC (hk : H0[k]? = some (some .unb)) {c : CV} {u : Value} (hl : lblC H0.length c) (h : RepC w Z (H0 ++ [some b1]) φ c u) : RepC w Z (H0.set k (some b1)) (upd φ k (φ H0.length)) c u := by
  have hkl := (List.getElem?_eq_some_iff.1 hk).1
  have ne : ∀ q, q < H0.length → born (H0 ++ [some b1]) q → q ≠ k := fun q hq hb e => hb.2 (by rw [e, snoc_get hkl]; exact hk)
  have bo : ∀ q, q < H0.length → born (H0 ++ [some b1]) q → born (H0.set k (some b1)) q := fun q hq hb => ⟨by simpa using hq, by rw [set_get (ne q hq hb)]; have := hb.2; rwa [snoc_get hq] at this⟩
  have ph : ∀ q, q ≠ k → upd φ k (φ H0.length) q = φ q := fun q hq => by simp [upd, hq]
  cases c with
  | p v => exact h
  | unk => exact h
  | sl q off len =>
    have hq := ne q hl h.1
    refine ⟨bo q hl h.1, h.2.1, fun e t n f ups hh => ?_⟩
    rw [set_get hq] at hh
    rw [ph q hq]
    exact h.2.2 e t n f ups (by rw [snoc_get hl]; exact hh)
  | pt q off =>
    have hq := ne q hl h.1
    refine ⟨bo q hl h.1, h.2.1, fun bt l hh => ?_⟩
    rw [set_get hq] at hh
    rw [ph q hq]
    exact h.2.2 bt l (by rw [snoc_get hl]; exact hh)
  | pe q i j =>
    have hq := ne q hl h.1
    refine ⟨bo q hl h.1, h.2.1, fun e t n f ups hh => ?_⟩
    rw [set_get hq] at hh
    rw [ph q hq]
    exact h.2.2 e t n f ups (by rw [snoc_get hl]; exact hh)
  | ref q =>
    have hq := ne q hl h.1
    refine ⟨bo q hl h.1, h.2.1, fun b hh => ?_⟩
    rw [set_get hq] at hh
    rw [ph q hq]
    exact h.2.2 b (by rw [snoc_get hl]; exact hh)
theorem fillL (hk : H0[k]? = some (some .unb)) {l : List CV} {us : List Value} (hl : ∀ c ∈ l, lblC H0.length c) (h : RepL w Z (H0 ++ [some b1]) φ l us) : RepL w Z (H0.set k (some b1)) (upd φ k (φ H0.length)) l us :=
  ⟨h.1, fun i c hc => let ⟨u, hu, hr⟩ := h.2 i c hc; ⟨u, hu, fillC hk (hl c (List.mem_of_getElem? hc)) hr⟩⟩
mutual
theorem fillV (hk : H0[k]? = some (some .unb)) : ∀ {a : AV} {u : Value}, lblA H0.length a → RepA w Z (H0 ++ [some b1]) φ a u → RepA w Z (H0.set k (some b1)) (upd φ k (φ H0.length)) a u
  | .c c, u, hl, h => by
    simp only [lblA] at hl
    simp only [RepA] at h ⊢
    exact fillC hk hl h
  | .ag l, u, hl, h => by
    simp only [lblA] at hl
    simp only [RepA] at h ⊢
    obtain ⟨us, e, h⟩ := h
    exact ⟨us, e, fillL hk hl h⟩
  | .tp l, u, hl, h => by
    simp only [lblA] at hl
    simp only [RepA] at h ⊢
    obtain ⟨us, e, h⟩ := h
    exact ⟨us, e, fillVs hk hl h⟩
  | .any, u, hl, h => by simp only [RepA]
theorem fillVs (hk : H0[k]? = some (some .unb)) : ∀ {l : List AV} {us : List Value}, lblAs H0.length l → RepAs w Z (H0 ++ [some b1]) φ l us → RepAs w Z (H0.set k (some b1)) (upd φ k (φ H0.length)) l us
  | [], us, hl, h => by simpa only [RepAs] using h
  | a :: l, us, hl, h => by
    simp only [lblAs] at hl
    simp only [RepAs] at h ⊢
    obtain ⟨u, us', e, h1, h2⟩ := h
    exact ⟨u, us', e, fillV hk hl.1 h1, fillVs hk hl.2 h2⟩
end
theorem fillB (hk : H0[k]? = some (some .unb)) {q q' : Nat} {b : Blk} (hl : lblB H0.length b) (hφ : upd φ k (φ H0.length) q' = φ q) (h : RepB C w Z (H0 ++ [some b1]) φ q b) : RepB C w Z (H0.set k (some b1)) (upd φ k (φ H0.length)) q' b := by
  cases b with
  | arr e t n f ups =>
    obtain ⟨xs, ho, hr⟩ := h
    exact ⟨xs, by rw [hφ]; exact ho, hr⟩
  | box bt l =>
    obtain ⟨g, t, us, e1, h1, h2⟩ := h
    exact ⟨g, t, us, hφ.trans e1, h1, fillL hk hl h2⟩
  | clo f fs cs =>
    obtain ⟨us, vs, e1, h1, h2⟩ := h
    exact ⟨us, vs, hφ.trans e1, fillVs hk hl.1 h1, fillVs hk hl.2 h2⟩
  | lp nt t ps a b st =>
    obtain ⟨l, L, e1, h1, h2, h3, h4, h5, h6, h7, h8⟩ := h
    exact ⟨l, L, hφ.trans e1, h1, h2, h3, h4, h5, h6, fun j => fillV hk (hl j) (h7 j), h8⟩
  | mp l =>
    obtain ⟨r, es, clock, e1, h1, h2, h3⟩ := h
    exact ⟨r, es, clock, hφ.trans e1, h1, h2, fun i p c hi => let ⟨e, he, hp, hc⟩ := h3 i p c hi; ⟨e, he, hp, fillC hk (hl p c (List.mem_of_getElem? hi)) hc⟩⟩
  | mpi f =>
    obtain ⟨r, es, clock, e1, h1, h2⟩ := h
    exact ⟨r, es, clock, hφ.trans e1, h1, h2⟩
  | sit l pos =>
    obtain ⟨r, s, e1, h1⟩ := h
    exact ⟨r, s, hφ.trans e1, h1⟩
  | mpp l =>
    obtain ⟨l0, q1, q2, r, es, clock, e1, h1, h2, h3⟩ := h
    exact ⟨l0, q1, q2, r, es, clock, hφ.trans e1, h1, h2, fun i p c hi => let ⟨e, he, hp, hc⟩ := h3 i p c hi; ⟨e, he, hp, fillC hk (hl p c (q1.mem_iff.1 (List.mem_of_getElem? hi))) hc⟩⟩
  | unb => exact hφ.trans h
theorem fill_sim (hk : H0[k]? = some (some .unb)) (hs : SimH C O Z φ (H0 ++ [some b1]) w) (hl : ∀ (q : Nat) (b : Blk), H0[q]? = some (some b) → lblB H0.length b) (hl1 : lblB H0.length b1)
    (hN : ∀ (q : Nat) (b : Blk) (g : Nat), q < H0.length → H0[q]? = some (some b) → own? (φ q) = some g → own? (φ H0.length) = some g → ∃ e t n f ups n1 f1 ups1, b1 = .arr e t n f ups ∧ b = .arr e t n1 f1 ups1 ∧ n1 ≤ n ∧ q ∈ ups) :
    SimH C O Z (upd φ k (φ H0.length)) (H0.set k (some b1)) w := by
  have hkl := (List.getElem?_eq_some_iff.1 hk).1
  have ph : ∀ q, q ≠ k → upd φ k (φ H0.length) q = φ q := fun q hq => by simp [upd, hq]
  have sp : ∀ (q : Nat) (b : Blk), (H0.set k (some b1))[q]? = some (some b) → (q = k ∧ b = b1) ∨ (q ≠ k ∧ q < H0.length ∧ H0[q]? = some (some b)) := fun q b hq => by
    by_cases e : q = k
    · subst e
      rw [List.getElem?_set, if_pos rfl, if_pos hkl] at hq
      injection hq with hq
      injection hq with hq
      exact .inl ⟨rfl, hq.symm⟩
    · rw [set_get e] at hq
      exact .inr ⟨e, (List.getElem?_eq_some_iff.1 hq).1, hq⟩
  have hnew : (H0 ++ [some b1])[H0.length]? = some (some b1) := by simp
  refine ⟨hs.zlt, fun q b hq => ?_, fun q b g hq hg => ?_, fun q b g hq hg => ?_, fun q q' b b' g hq hq' hg hg' => ?_⟩
  · rcases sp q b hq with ⟨rfl, rfl⟩ | ⟨h1, h2, h3⟩
    · exact fillB hk hl1 upd_at (hs.blk _ _ hnew)
    · exact fillB hk (hl q b h3) (ph q h1) (hs.blk q b (by rw [snoc_get h2]; exact h3))
  · rcases sp q b hq with ⟨rfl, rfl⟩ | ⟨h1, h2, h3⟩
    · rw [upd_at] at hg; exact hs.own _ _ g hnew hg
    · rw [ph q h1] at hg; exact hs.own q b g (by rw [snoc_get h2]; exact h3) hg
  · rcases sp q b hq with ⟨rfl, rfl⟩ | ⟨h1, h2, h3⟩
    · rw [upd_at] at hg; exact hs.sep _ _ g hnew hg
    · rw [ph q h1] at hg; exact hs.sep q b g (by rw [snoc_get h2]; exact h3) hg
  · rcases sp q b hq with ⟨e1, e2⟩ | ⟨h1, h2, h3⟩ <;> rcases sp q' b' hq' with ⟨e1', e2'⟩ | ⟨h1', h2', h3'⟩
    · exact .inl (by omega)
    · rw [e1, upd_at] at hg
      rw [ph q' h1'] at hg'
      obtain ⟨e, t, n, f, ups, n1, f1, ups1, r1, r2, r3, r4⟩ := hN q' b' g h2' h3' hg' hg
      rw [e2, r1, r2]
      exact .inr ⟨rfl, rfl, .inr ⟨r4, r3⟩⟩
    · rw [e1', upd_at] at hg'
      rw [ph q h1] at hg
      obtain ⟨e, t, n, f, ups, n1, f1, ups1, r1, r2, r3, r4⟩ := hN q b g h2 h3 hg hg'
      rw [e2', r1, r2]
      exact .inr ⟨rfl, rfl, .inl ⟨r4, r3⟩⟩
    · rw [ph q h1] at hg
      rw [ph q' h1'] at hg'
      exact hs.inj q q' b b' g (by rw [snoc_get h2]; exact h3) (by rw [snoc_get h2']; exact h3') hg hg'
end
def isMk : OM → Bool
  | .store _ _ _ => false
  | .bstr _ _ => false
  | .ustr _ _ _ => false
  | .cpy _ _ _ => false
  | .mset _ _ _ _ => false
  | .rng _ => false
  | .nxs _ => false
  | .frz _ => false
  | _ => true
def killO (kk : Option Nat) (H : Heap) : Heap := match kk with
  | none => H
  | some k => killD k H
theorem killO_len {kk : Option Nat} {H : Heap} : (killO kk H).length = H.length := by cases kk <;> simp [killO, killD_len]
theorem killO_sub {kk : Option Nat} {H : Heap} {q : Nat} {b : Blk} (h : (killO kk H)[q]? = some (some b)) : H[q]? = some (some b) := by
  cases kk with
  | none => exact h
  | some k => exact (killD_get h).1
inductive Made (ev : Opd → AV) (p : OM) (N : Nat) : AV → Blk → Prop
  | box (t : TypeId) (z : List PV) : Made ev p N (.c (.pt N 0)) (.box t (z.map .p))
  | boxX (t : TypeId) (X : Opd) (l : List CV) (hp : p = .box t X) (hl : cellsA (ev X) = some l) : Made ev p N (.c (.pt N 0)) (.box t l)
  | arr (e : Nat) (t : TypeId) (n : Nat) (f : Nat → Nat → PV) (ups : List Nat) : Made ev p N (.c (.sl N 0 n)) (.arr e t n f ups)
  | clo (f : FuncId) (fs cs : List Opd) (hp : p = .clo f fs cs) : Made ev p N (.c (.ref N)) (.clo f (evs ev fs) (evs ev cs))
  | mp : Made ev p N (.c (.ref N)) (.mp [])
def killsOf (H : Heap) (ev : Opd → AV) : OM → Option Nat
  | .app _ _ _ s _ => match ev s with
    | .c (.sl k _ _) => some k
    | _ => none
  | .aps _ s _ => match ev s with
    | .c (.sl k _ _) => some k
    | _ => none
  | _ => none
def isAp : OM → Bool
  | .app _ _ _ _ _ => true
  | .aps _ _ _ => true
  | _ => false
theorem made {H : Heap} {ev : Opd → AV} {p : OM} (hp : isMk p = true) {K : AV → Heap → VC} (h : (opM H ev p K).holds) :
    ∃ v b, (K v (killO (killsOf H ev p) H ++ [some b])).holds ∧ Made ev p H.length v b ∧ (∀ K' : AV → Heap → VC, (K' v (killO (killsOf H ev p) H ++ [some b])).holds → (opM H ev p K').holds) ∧
      (killsOf H ev p = none → isAp p = false → ∀ (H' : Heap), ∃ v', Made ev p H'.length v' b ∧ (∀ k, relab k v' = relab k v) ∧ ∀ K' : AV → Heap → VC, (K' v' (H' ++ [some b])).holds → (opM H' ev p K').holds) := by
  cases p with
  | alloc t z =>
    simp only [opM] at h ⊢
    exact ⟨_, _, h, .box t z, fun K' h' => h', fun _ _ H' => ⟨_, .box t z, fun k => rfl, fun K' h' => h'⟩⟩
  | box t x =>
    simp only [opM] at h ⊢
    split at h
    · rename_i l hl
      exact ⟨_, _, h, .boxX t x l rfl hl, fun K' h' => by exact h', fun _ _ H' => ⟨_, .boxX t x l rfl hl, fun k => rfl, fun K' h' => by exact h'⟩⟩
    · exact False.elim h
  | store => cases hp
  | app e t bytes s x =>
    simp only [opM] at h ⊢
    split at h
    · rename_i m g hsrc
      split at h
      · rename_i hs
        refine ⟨_, _, by simp only [killsOf, hs, killO]; exact h.2, .arr .., fun K' h' => ?_, fun _ hn => (by cases hn)⟩
        simp only [killsOf, hs, killO] at h'
        exact ⟨h.1, h'⟩
      · rename_i k off len hs
        split at h
        · rename_i e' t' n f ups hk
          split at h
          · rename_i hd
            refine ⟨_, _, by simp only [killsOf, hs, killO]; exact h.2.2.2, .arr .., fun K' h' => ?_, fun _ hn => (by cases hn)⟩
            simp only [killsOf, hs, killO] at h'
            exact ⟨h.1, h.2.1, h.2.2.1, h'⟩
          · exact False.elim h
        · exact False.elim h
      · exact False.elim h
    · exact False.elim h
  | bsl e n t z ps =>
    simp only [opM] at h ⊢
    split at h
    · rename_i l hl
      split at h
      · rename_i q hq
        exact ⟨_, _, h, .arr .., fun K' h' => by exact h', fun _ _ H' => ⟨_, .arr .., fun k => rfl, fun K' h' => by exact h'⟩⟩
      · exact False.elim h
    · exact False.elim h
  | mks e t bytes z l c =>
    simp only [opM] at h ⊢
    split at h
    · rename_i h1 h2
      exact ⟨_, _, h.2.2, .arr .., fun K' h' => by exact ⟨h.1, h.2.1, h'⟩, fun _ _ H' => ⟨_, .arr .., fun k => rfl, fun K' h' => by exact ⟨h.1, h.2.1, h'⟩⟩⟩
    · exact False.elim h
  | clo f fs cs =>
    simp only [opM] at h ⊢
    exact ⟨_, _, h, .clo f fs cs rfl, fun K' h' => h', fun _ _ H' => ⟨_, .clo f fs cs rfl, fun k => rfl, fun K' h' => h'⟩⟩
  | mkm =>
    simp only [opM] at h ⊢
    exact ⟨_, _, h, .mp, fun K' h' => h', fun _ _ H' => ⟨_, .mp, fun k => rfl, fun K' h' => h'⟩⟩
  | aps t s x =>
    simp only [opM] at h ⊢
    split at h
    · rename_i l hx
      split at h
      · rename_i hs
        refine ⟨_, _, by simp only [killsOf, hs, killO]; exact h.2, .arr .., fun K' h' => ?_, fun _ hn => (by cases hn)⟩
        simp only [killsOf, hs, killO] at h'
        exact ⟨h.1, h'⟩
      · rename_i k off len hs
        split at h
        · rename_i e' t' n f ups hk
          split at h
          · rename_i hd
            refine ⟨_, _, by simp only [killsOf, hs, killO]; exact h.2.2.2, .arr .., fun K' h' => ?_, fun _ hn => (by cases hn)⟩
            simp only [killsOf, hs, killO] at h'
            exact ⟨h.1, h.2.1, h.2.2.1, h'⟩
          · exact False.elim h
        · exact False.elim h
      · exact False.elim h
    · exact False.elim h
  | bstr => cases hp
  | ustr => cases hp
  | cpy => cases hp
  | mset => cases hp
  | rng => cases hp
  | nxs => cases hp
  | frz => cases hp
end Go.Ab
namespace Go.Ab
open Go.RowKit
variable {C : Cfg} {E : Ev} {md : Nat → Bool}
theorem compM_box {P : Program} {o : Oper} {t : TypeId} {X : Opd} (h : compM P o = some (.box t X)) : ∃ t x, o.op = .box t x ∧ compX x = some X := by
  unfold compM at h
  split at h
  all_goals first
    | (rename_i t x ho; simp only [Option.map_eq_some_iff] at h; obtain ⟨Y, hY, e⟩ := h; cases e; exact ⟨t, x, ho, hY⟩)
    | (exfalso; repeat' (split at h)); all_goals simp at h
theorem compM_clo {P : Program} {o : Oper} {f : Nat} {Fs Cs : List Opd} (h : compM P o = some (.clo f Fs Cs)) : ∃ fs cs : Array Operand, o.op = .makeFunc (.func f) fs cs ∧ compXs fs.toList = some Fs ∧ compXs cs.toList = some Cs := by
  unfold compM at h
  split at h
  all_goals first
    | (rename_i f' fs cs ho; split at h <;> first | (rename_i h1 h2; simp only [Option.some.injEq, OM.clo.injEq] at h; obtain ⟨rfl, rfl, rfl⟩ := h; exact ⟨fs, cs, ho, h1, h2⟩) | cases h)
    | (exfalso; repeat' (split at h)); all_goals simp at h
theorem killD_unb {k : Nat} : ∀ {H : Heap} {q : Nat}, H[q]? = some (some .unb) → (killD k H)[q]? = some (some .unb)
  | [], q, h => by simp at h
  | x :: H, 0, h => by
    simp only [List.getElem?_cons_zero, Option.some.injEq] at h
    subst h
    simp [killD]
  | x :: H, q + 1, h => by
    have : (killD k (x :: H))[q + 1]? = (killD k H)[q]? := by
      cases x with
      | none => simp [killD]
      | some x => cases x <;> simp [killD]
    rw [this]
    exact killD_unb (by simpa using h)
theorem killR_unb {k : Nat} {us : List Nat} : ∀ {H : Heap} {q0 q : Nat}, H[q]? = some (some .unb) → (killR k us q0 H)[q]? = some (some .unb)
  | [], q0, q, h => by simp at h
  | x :: H, q0, 0, h => by
    simp only [List.getElem?_cons_zero, Option.some.injEq] at h
    subst h
    simp [killR]
  | x :: H, q0, q + 1, h => by
    have : (killR k us q0 (x :: H))[q + 1]? = (killR k us (q0 + 1) H)[q]? := by
      cases x with
      | none => simp [killR]
      | some x => cases x <;> simp [killR]
    rw [this]
    exact killR_unb (by simpa using h)
theorem killO_unb {kk : Option Nat} {H : Heap} {q : Nat} (h : H[q]? = some (some .unb)) : (killO kk H)[q]? = some (some .unb) := by
  cases kk with
  | none => exact h
  | some k => exact killD_unb h
theorem refill_snoc {H0 : Heap} {b : Blk} {k : Nat} : refill k (H0 ++ [some b]) = H0.set k (some b) := by
  simp [refill]
theorem bstr_heap {H : Heap} {ev : Opd → AV} {t : TypeId} {x : Opd} {K : AV → Heap → VC} (h : (opM H ev (.bstr t x) K).holds) : ∃ u h', (K u h').holds ∧ h'.length = H.length ∧ (∀ k : Nat, H[k]? = some (some Blk.unb) → h'[k]? = some (some Blk.unb)) ∧ ∀ (k : Nat) (b : Blk), h'[k]? = some (some b) → H[k]? = some (some b) := by
  simp only [opM] at h
  split at h
  · split at h
    · split at h
      · exact ⟨_, _, h, rfl, fun _ h => h, fun _ _ h => h⟩
      · split at h
        · rename_i hk2
          split at h
          · split at h
            · refine ⟨_, _, h.2.2, by simp [killR_len], fun q hq => ?_, fun q b hq => ?_⟩
              · rw [List.getElem?_set]
                split
                · rename_i e
                  subst e
                  rw [hk2] at hq
                  cases hq
                · exact killR_unb hq
              · rw [List.getElem?_set] at hq
                split at hq
                · split at hq <;> cases hq
                · exact (killR_get hq).1
            · exact False.elim h
          · exact False.elim h
        · exact False.elim h
      · exact False.elim h
    · exact False.elim h
  · exact False.elim h
theorem store_miss {H : Heap} {ev : Opd → AV} {n : Nat} {x v : Opd} {K : AV → Heap → VC} (h : (opM H ev (.store n x v) K).holds) : ∃ u h', (K u h').holds ∧ ∀ (k : Nat) (b : Blk), blkOf (ev x) ≠ some k → h'[k]? = some (some b) → H[k]? = some (some b) := by
  simp only [opM] at h
  split at h
  · rename_i k0 off vs hx _
    split at h
    · split at h
      · refine ⟨_, _, h.2, fun q b hn hq => ?_⟩
        rw [List.getElem?_set, if_neg (fun e => hn (by rw [hx, ← e]; rfl))] at hq
        exact hq
      · exact False.elim h
    · exact False.elim h
  · rename_i k0 i j vs hx _
    split at h
    · split at h
      · refine ⟨_, _, h.2.2, fun q b hn hq => ?_⟩
        rw [List.getElem?_set, if_neg (fun e => hn (by rw [hx, ← e]; rfl))] at hq
        exact (killR_get hq).1
      · exact False.elim h
    · exact False.elim h
  · exact False.elim h
theorem store_heap {H : Heap} {ev : Opd → AV} {n : Nat} {x v : Opd} {K : AV → Heap → VC} (h : (opM H ev (.store n x v) K).holds) : ∃ u h', (K u h').holds ∧ h'.length = H.length ∧ ∀ k : Nat, H[k]? = some (some Blk.unb) → h'[k]? = some (some Blk.unb) := by
  simp only [opM] at h
  split at h
  · split at h
    · rename_i l hk
      split at h
      · refine ⟨_, _, h.2, by simp, fun q hq => ?_⟩
        rw [List.getElem?_set]
        split
        · rename_i e
          subst e
          rw [hk] at hq
          cases hq
        · exact hq
      · exact False.elim h
    · exact False.elim h
  · split at h
    · rename_i hk _
      split at h
      · refine ⟨_, _, h.2.2, by simp [killR_len], fun q hq => ?_⟩
        rw [List.getElem?_set]
        split
        · rename_i e
          subst e
          rw [hk] at hq
          cases hq
        · exact killR_unb hq
      · exact False.elim h
    · exact False.elim h
  · exact False.elim h
def isW : OM → Bool
  | .store _ _ _ => true
  | .cpy _ _ _ => true
  | .mset _ _ _ _ => true
  | _ => false
theorem w_heap {H : Heap} {ev : Opd → AV} {p : OM} (hp : isW p = true) {K : AV → Heap → VC} (h : (opM H ev p K).holds) : ∃ u h', (K u h').holds ∧ h'.length = H.length ∧ ∀ k : Nat, H[k]? = some (some Blk.unb) → h'[k]? = some (some Blk.unb) := by
  cases p with
  | store n x v => exact store_heap h
  | cpy e x y =>
    simp only [opM] at h
    split at h
    · split at h
      · rename_i hk _
        split at h
        · refine ⟨_, _, h.2, by simp [killR_len], fun q hq => ?_⟩
          rw [List.getElem?_set]
          split
          · rename_i e
            subst e
            rw [hk] at hq
            cases hq
          · exact killR_unb hq
        · exact False.elim h
      · exact False.elim h
    · exact False.elim h
  | mset ks x i v =>
    simp only [opM] at h
    split at h
    · split at h
      · rename_i hk
        split at h
        · split at h
          · refine ⟨_, _, h, by simp, fun q hq => ?_⟩
            rw [List.getElem?_set]
            split
            · rename_i e
              subst e
              rw [hk] at hq
              cases hq
            · exact hq
          · exact False.elim h
        · exact False.elim h
      · rename_i hk
        split at h
        · refine ⟨_, _, h, by simp, fun q hq => ?_⟩
          rw [List.getElem?_set]
          split
          · rename_i e
            subst e
            rw [hk] at hq
            cases hq
          · exact hq
        · exact False.elim h
      · exact False.elim h
    · exact False.elim h
  | _ => cases hp
section
variable {F : Fence} {n : Nat} {En : Ent} {nt : Nat}
theorem Made.ne {ev : Opd → AV} {p : OM} {N : Nat} {v : AV} {b : Blk} (h : Made ev p N v b) : b ≠ .unb := by cases h <;> simp
theorem step_mk (hF : WF F) {ops : Array Oper} {i : Nat} {o : Oper} {m : MOp} (hdo : DstOk nt ops) (hi : ops[i]? = some o) (hc : compO C.P md nt ops o = some m) {p : OM} (hp : m.op = .m p) {s : St} {k : Nat} (hk : s.h[k]? = some (some .unb)) (hg : guardB s.t m.gd = some true)
    {v0 : AV} {b : Blk} (hM : Made (evT C.G s.t) p s.h.length v0 b) {kk : Option Nat} (h : ∀ K' : AV → Heap → VC, (K' v0 (killO kk s.h ++ [some b])).holds → (opM s.h (evT C.G s.t) p K').holds) {a : Act} {w : World} (hv : Inv C En nt s a w) {Q : Exit → Act → World → Prop} :
    wpOpIn F n C.P ops Q i (fun a' w' => Inv C En nt ⟨putT s.t m.dst (relab k v0), (killO kk s.h).set k (some b)⟩ a' w') a w := by
  obtain ⟨e1, e2, e3⟩ := compO_spec hc
  rw [hp] at e3
  obtain ⟨Z, φ, hs, hS, hm⟩ := hv
  have hguard : Region.wanted o (yielded ops a.tmps) = true := guard_spec (w := w) (Z := Z) (H := s.h) (φ := φ) e2 (fun j want hj q hq => ⟨hs.t q, by
    refine Nat.lt_of_lt_of_le ?_ hs.sz
    cases hoj : ops[j]? with
    | none => rw [hoj] at hq; cases hq
    | some oj => rw [hoj] at hq; exact hdo j oj q hoj hq⟩) hg
  unfold wpOpIn
  rw [hi]
  dsimp only
  rw [hguard, if_pos rfl]
  obtain ⟨v, H', hK, hgoal⟩ := opM_sound e3 (h (fun v h => .pr (v = v0 ∧ h = killO kk s.h ++ [some b])) ⟨rfl, rfl⟩)
  obtain ⟨rfl, rfl⟩ := hK
  refine hgoal En.O Z φ a w hs.h hs.b (opdRep hs _) F n hF _ Q fun u w' φ' hh hkk hob hv T N => ?_
  have hlen : (killO kk s.h).length = s.h.length := killO_len
  have hk0 : (killO kk s.h)[k]? = some (some .unb) := killO_unb hk
  have hkl := (List.getElem?_eq_some_iff.1 hk0).1
  have hlb : lblB (killO kk s.h).length b := by
    rw [hlen]
    cases hM with
    | box t z =>
      intro c hc
      simp only [List.mem_map] at hc
      obtain ⟨p, _, rfl⟩ := hc
      trivial
    | boxX t X l hp' hl =>
      subst hp'
      obtain ⟨t, x, ho, hx⟩ := compM_box e3
      have := opd_rep hs.g (fun j _ => hs.t j) hx
      exact rep_lblL (cellsA_rep hl this).1
    | arr => trivial
    | mp => intro p c hm; cases hm
    | clo f fs cs hp' =>
      subst hp'
      obtain ⟨fs', cs', ho, h1, h2⟩ := compM_clo e3
      exact ⟨rep_lblAs (opds_rep (a := a) h1 fun x _ X hX => opd_rep hs.g (fun j _ => hs.t j) hX), rep_lblAs (opds_rep (a := a) h2 fun x _ X hX => opd_rep hs.g (fun j _ => hs.t j) hX)⟩
  have S := fill_sim hk0 hh (fun q b' hq => by rw [hlen]; exact rep_lblB (hs.h.blk q b' (killO_sub hq))) hlb (fun q b' g hq hb' hg1 hg2 => by
    refine N q b' b g (by omega) (by rw [snoc_get hq]; exact hb') (by rw [← hlen]; simp) hg1 ?_
    rw [← hlen]; exact hg2)
  have T2 : Tra w w' Z Z s.h ((killO kk s.h).set k (some b)) φ (upd φ' k (φ' (killO kk s.h).length)) := ⟨by simp [hlen], fun c u hc => fillC hk0 (by rw [hlen]; exact rep_lblC hc) (T.2 c u hc)⟩
  have hkk' : ((killO kk s.h).set k (some b))[k]? = some (some b) := by rw [List.getElem?_set, if_pos rfl, if_pos hkl]
  have hbk : born ((killO kk s.h).set k (some b)) k := ⟨by simpa using hkl, by rw [hkk']; intro e; injection e with e; injection e with e; exact hM.ne e⟩
  have hlast : (killO kk s.h ++ [some b])[s.h.length]? = some (some b) := by rw [← hlen]; simp
  refine Inv.put hs hS hm S ⟨hkk, fun _ h => h, fun _ h => .inl h, T2, hob⟩ ?_ e1
  have r := hv
  cases hM with
  | box t z =>
    simp only [RepA] at r
    simp only [relab, RepA]
    refine ⟨hbk, r.2.1, fun t0 l hl => ?_⟩
    rw [hkk'] at hl
    rw [upd_at, hlen]
    exact r.2.2 t0 l (by rw [hlast]; exact hl)
  | boxX t X l hp' hl' =>
    simp only [RepA] at r
    simp only [relab, RepA]
    refine ⟨hbk, r.2.1, fun t0 l hl => ?_⟩
    rw [hkk'] at hl
    rw [upd_at, hlen]
    exact r.2.2 t0 l (by rw [hlast]; exact hl)
  | arr e t n f ups =>
    simp only [RepA] at r
    simp only [relab, RepA]
    refine ⟨hbk, r.2.1, fun e' t' n' f' ups' hl => ?_⟩
    rw [hkk'] at hl
    rw [upd_at, hlen]
    exact r.2.2 e' t' n' f' ups' (by rw [hlast]; exact hl)
  | mp =>
    simp only [RepA] at r
    simp only [relab, RepA]
    refine ⟨hbk, r.2.1, fun b' hl => ?_⟩
    rw [hkk'] at hl
    rw [upd_at, hlen]
    exact r.2.2 b' (by rw [hlast]; exact hl)
  | clo f fs cs hp' =>
    simp only [RepA] at r
    simp only [relab, RepA]
    refine ⟨hbk, r.2.1, fun b' hl => ?_⟩
    rw [hkk'] at hl
    rw [upd_at, hlen]
    exact r.2.2 b' (by rw [hlast]; exact hl)
end
def Msk (d d' : DOp) : Prop := ∀ r, r ∈ d.slots → r ∈ d'.mask
def Wmk (d d' : DOp) : Prop := ∃ n p v, d.m.op = .m (.store n (.t p) v) ∧ p ∈ d'.wm
def ClsOk (A M W : Prop) : Cls → Cls → Prop
  | .t, _ => True
  | _, .t => True
  | .r, .r => True
  | .r, .m => True
  | .r, .x => True
  | .m, .x => True
  | .x, .m => True
  | .x, .x => True
  | .x, .r => A ∨ M
  | .m, .m => True
  | .m, .r => A ∨ M
  | .a, .r => A ∨ M
  | .q, .r => True
  | .w, .r => A ∨ W
  | _, _ => A
structure PairOk (R : Nat → Nat → Prop) (d d' : DOp) : Prop where
  ne : d.i ≠ d'.i
  dst : ∀ p, d.m.dst = some p → d'.m.dst ≠ some p
  d1 : ∀ p, d.m.dst = some p → looksP p d'.m = true → R d.i d'.i
  d2 : ∀ p, d'.m.dst = some p → looksP p d.m = true → R d.i d'.i
  slot : ∀ r, r ∈ d.slots → ¬ r ∈ d'.slots
  cls : ∃ c c', clsOf d.m = some c ∧ clsOf d'.m = some c' ∧ ClsOk (R d.i d'.i) (Msk d d') (Wmk d d') c c'
  keep : ∀ n p v, d.m.op = .m (.store n (.t p) v) → d'.m.dst ≠ some p
def SlotOk (d : DOp) : Prop := ∃ c, clsOf d.m = some c ∧ match c with
  | .m => ∃ r, d.slots = [r]
  | .a => ∃ r, d.slots = [r]
  | .x => ∃ r, d.slots = [r, r + 1]
  | _ => d.slots = []
structure DrwOk (ops : Array Oper) (R : Nat → Nat → Prop) (ml : List MOp) (nA tot : Nat) (l : List DOp) : Prop where
  le : nA ≤ ops.size
  lt : ∀ i o e, ops[i]? = some o → e ∈ o.after → Region.binds .any e = true → e.on < i
  wait : ∀ i j, nA ≤ i → i < ops.size → j < i → Reach ops j i
  self : ∀ (q : Nat) (d : DOp), l[q]? = some d → d.i < nA ∧ (∀ p, d.m.dst = some p → looksP p d.m = false) ∧ (∀ r, r ∈ d.slots → r < tot) ∧ ml[d.i]? = some d.m ∧ SlotOk d
  pair : ∀ (q q' : Nat) (d d' : DOp), q < q' → l[q]? = some d → l[q']? = some d' → PairOk R d d'
theorem mkD_spec {an : List (List Nat)} {ml : List MOp} : ∀ {ord : List Nat} {c : Nat} {mk : List (Nat × Nat)} {mw : List (Nat × Ps)} {l : List DOp} {t : Nat}, mkD an ml ord c mk mw = some (l, t) → ∀ d ∈ l, ml[d.i]? = some d.m ∧ SlotOk d
  | [], c, mk, mw, l, t, h => by
    simp only [mkD, Option.some.injEq, Prod.mk.injEq] at h
    obtain ⟨rfl, _⟩ := h
    intro d hd
    cases hd
  | i :: ord, c, mk, mw, l, t, h => by
    simp only [mkD] at h
    split at h
    · cases h
    · rename_i m hm
      split at h
      · cases h
      all_goals
        rename_i hcl
        split at h
        · rename_i q t' hq
          simp only [Option.some.injEq, Prod.mk.injEq] at h
          obtain ⟨rfl, _⟩ := h
          intro d hd
          rcases List.mem_cons.1 hd with rfl | hd
          · refine ⟨hm, _, hcl, ?_⟩
            first | exact rfl | exact ⟨_, rfl⟩
          · exact mkD_spec hq d hd
        · cases h
theorem all_get {α : Type} {f : α → Bool} {l : List α} (h : l.all f = true) {q : Nat} {d : α} (hq : l[q]? = some d) : f d = true := List.all_eq_true.1 h d (List.mem_of_getElem? hq)
theorem pairs_spec {an : List (List Nat)} : ∀ {l : List DOp}, pairsB an l = true → ∀ (q q' : Nat) (d d' : DOp), q < q' → l[q]? = some d → l[q']? = some d' → pairB an d d' = true
  | [], _, q, q', d, d', _, hq, _ => by simp at hq
  | x :: l, h, q, q', d, d', hlt, hq, hq' => by
    simp only [pairsB, Bool.and_eq_true] at h
    cases q' with
    | zero => omega
    | succ q' =>
      cases q with
      | zero =>
        simp only [List.getElem?_cons_zero, Option.some.injEq] at hq
        subst hq
        exact all_get h.1 (by simpa using hq')
      | succ q => exact pairs_spec h.2 q q' d d' (by omega) (by simpa using hq) (by simpa using hq')
theorem pair_spec {an : List (List Nat)} {R : Nat → Nat → Prop} (hcl : ∀ j i, i ∈ an.getD j [] → R i j) {d d' : DOp} (h : pairB an d d' = true) : PairOk R d d' := by
  unfold pairB at h
  simp only [Bool.and_eq_true] at h
  obtain ⟨⟨⟨⟨⟨⟨_, h1⟩, h2⟩, h3⟩, h4⟩, h5⟩, h6⟩ := h
  have hA : (an.getD d'.i []).contains d.i = true → R d.i d'.i := fun hh => hcl _ _ (by simpa using hh)
  have data : (∀ p, d.m.dst = some p → looksP p d'.m = true → R d.i d'.i) ∧ (∀ p, d'.m.dst = some p → looksP p d.m = true → R d.i d'.i) := by
    rw [Bool.or_eq_true] at h3
    rcases h3 with h3 | h3
    · exact ⟨fun _ _ _ => hA h3, fun _ _ _ => hA h3⟩
    · simp only [Bool.and_eq_true, Bool.not_eq_true'] at h3
      refine ⟨fun p hp hl => ?_, fun p hp hl => ?_⟩
      · have := h3.1
        rw [hp] at this
        simp only [looksD] at this
        rw [hl] at this
        cases this
      · have := h3.2
        rw [hp] at this
        simp only [looksD] at this
        rw [hl] at this
        cases this
  refine ⟨by simpa using h1, fun p hp hp' => ?_, data.1, data.2, fun r hr hr' => ?_, ?_, fun n p v hop hp => ?_⟩
  · rw [hp, hp'] at h2
    simp only [Bool.not_eq_true'] at h2
    rw [psEq_spec.2 rfl] at h2
    cases h2
  · have := List.all_eq_true.1 (List.all_eq_true.1 h4 r hr) r hr'
    simp at this
  · unfold clsB at h5
    have hM : d.slots.all (d'.mask.contains ·) = true → Msk d d' := fun hh r hr => by
      have := List.all_eq_true.1 hh r hr
      simpa using this
    have hW : wmB d d' = true → Wmk d d' := fun hh => by
      unfold wmB at hh
      split at hh
      · rename_i n p v ho
        simp only [List.any_eq_true] at hh
        obtain ⟨q, hq, e⟩ := hh
        rw [psEq_spec] at e
        subst e
        exact ⟨n, p, v, ho, hq⟩
      · cases hh
    cases hc : clsOf d.m with
    | none => rw [hc] at h5; cases hc' : clsOf d'.m <;> rw [hc'] at h5 <;> simp at h5
    | some c =>
      cases hc' : clsOf d'.m with
      | none => rw [hc, hc'] at h5; cases c <;> simp at h5
      | some c' =>
        rw [hc, hc'] at h5
        refine ⟨c, c', rfl, rfl, ?_⟩
        cases c <;> cases c' <;> simp only [ClsOk] <;> first
          | trivial
          | exact hA h5
          | (dsimp only at h5; rw [Bool.or_eq_true] at h5; exact h5.elim (fun h => .inl (hA h)) (fun h => .inr (hM h)))
          | (dsimp only at h5; rw [Bool.or_eq_true] at h5; exact h5.elim (fun h => .inl (hA h)) (fun h => .inr (hW h)))
  · unfold keepB at h6
    rw [hop, hp] at h6
    simp only [Bool.not_eq_true'] at h6
    rw [psEq_spec.2 rfl] at h6
    cases h6
theorem drw_spec {ops : Array Oper} {ml : List MOp} {nA tot : Nat} {l : List DOp} (h : drwOk ops ml nA tot l = true) {ord : List Nat} (hm : mkD (clo ops.toList []) ml ord 0 [] [] = some (l, tot)) : DrwOk ops (Reach ops) ml nA tot l ∧ ∀ i, i < nA → ∃ (q : Nat) (d : DOp), l[q]? = some d ∧ d.i = i := by
  have hcl : ∀ j i, i ∈ (clo ops.toList []).getD j [] → Reach ops i j := clo_reach (fun q => by simp) (fun j i hi => by simp at hi)
  unfold drwOk at h
  simp only [Bool.and_eq_true, decide_eq_true_eq] at h
  obtain ⟨⟨⟨⟨⟨h1, h2⟩, h3⟩, h4⟩, h5⟩, h6⟩ := h
  refine ⟨⟨h1, fun i o e ho he hb => ?_, fun i j hi hin hj => ?_, fun q d hq => ?_, fun q q' d d' hlt hq hq' => pair_spec hcl (pairs_spec h6 q q' d d' hlt hq hq')⟩, fun i hi => ?_⟩
  · have hlt : i < ops.size := (Array.getElem?_eq_some_iff.1 ho).1
    have := List.all_eq_true.1 h2 i (List.mem_range.2 hlt)
    rw [ho] at this
    simp only [List.all_eq_true, Bool.or_eq_true, Bool.not_eq_true', decide_eq_true_eq] at this
    rcases this e (by simpa using he) with h | h
    · rw [hb] at h; cases h
    · exact h
  · have := List.all_eq_true.1 h3 i (List.mem_range.2 hin)
    simp only [Bool.or_eq_true, decide_eq_true_eq] at this
    rcases this with h | h
    · omega
    · have := List.all_eq_true.1 h j (List.mem_range.2 hj)
      exact hcl _ _ (by simpa using this)
  · have hs := all_get h5 hq
    unfold selfB at hs
    simp only [Bool.and_eq_true, decide_eq_true_eq, Bool.not_eq_true'] at hs
    have hmm := mkD_spec hm d (List.mem_of_getElem? hq)
    refine ⟨hs.1.1, fun p hp => ?_, fun r hr => ?_, hmm.1, hmm.2⟩
    · have := hs.1.2
      rw [hp] at this
      exact this
    · simpa using List.all_eq_true.1 hs.2 r hr
  · have := List.all_eq_true.1 h4 i (List.mem_range.2 hi)
    simp only [List.any_eq_true, beq_iff_eq] at this
    obtain ⟨d, hd, rfl⟩ := this
    obtain ⟨q, hq, rfl⟩ := List.getElem_of_mem hd
    exact ⟨q, _, by simp [hq], rfl⟩
end Go.Ab
namespace Go.Ab
open Go.RowKit
variable {C : Cfg} {E : Ev}
def StepD (C : Cfg) (E : Ev) (base : Nat) (s : St) (d : DOp) (v : AV) (h' : Heap) : Prop :=
  (guardB s.t d.m.gd = some false ∧ v = .tp [] ∧ h' = s.h) ∨
  (guardB s.t d.m.gd = some true ∧
    ((∃ p, d.m.op = .a p ∧ (opA C E (maskW s.t d.wm (maskH base d.mask s.h)) (evT C.G s.t) p fun x => .pr (x = v)).holds ∧ h' = s.h) ∨
     (∃ p r, d.m.op = .m p ∧ d.slots = [r] ∧ (opM s.h (evT C.G s.t) p fun x h => .pr (v = relab (base + r) x ∧ h' = refill (base + r) h)).holds) ∨
     (∃ p, d.m.op = .m p ∧ d.slots = [] ∧ (opM s.h (evT C.G s.t) p fun x h => .pr (v = x ∧ h' = h)).holds) ∨
     (∃ f xs r r2 args v0 Hr, d.m.op = .x (.hc f xs) ∧ d.slots = [r, r2] ∧ xOf C f (evs (evT C.G s.t) xs) = some (args, v0, Hr) ∧ FCall C f args v0 Hr ∧ v = shA (base + r) v0 ∧ h' = setX (base + r) Hr s.h)))
structure CanD (C : Cfg) (E : Ev) (base : Nat) (l : List DOp) (s0 : St) (vs : Nat → AV) (S : Nat → St) : Prop where
  zero : S 0 = s0
  step : ∀ (q : Nat) (d : DOp), l[q]? = some d → (S (q + 1)).t = putT (S q).t d.m.dst (vs q) ∧ StepD C E base (S q) d (vs q) (S (q + 1)).h
theorem canD (hD : DetE E) {base : Nat} : ∀ (l : List DOp) (s : St) (K : St → VC), (runD C E base l s K).holds → ∃ vs S, CanD C E base l s vs S ∧ (K (S l.length)).holds
  | [], s, K, h => ⟨fun _ => .any, fun _ => s, ⟨rfl, fun q d hq => by simp at hq⟩, h⟩
  | d :: l, s, K, h => by
    have fin : ∀ v h', StepD C E base s d v h' → (runD C E base l ⟨putT s.t d.m.dst v, h'⟩ K).holds → ∃ vs S, CanD C E base (d :: l) s vs S ∧ (K (S (d :: l).length)).holds := fun v h' hst hr => by
      obtain ⟨vs, S, hc, hk⟩ := canD hD l _ K hr
      refine ⟨fun q => match q with | 0 => v | q + 1 => vs q, fun q => match q with | 0 => s | q + 1 => S q, ⟨rfl, fun q d' hq => ?_⟩, hk⟩
      cases q with
      | zero =>
        simp only [List.getElem?_cons_zero, Option.some.injEq] at hq
        subst hq
        refine ⟨?_, ?_⟩
        · show (S 0).t = _
          rw [hc.zero]
        · show StepD C E base s d v (S 0).h
          rw [hc.zero]
          exact hst
      | succ q => exact hc.step q d' (by simpa using hq)
    rcases hg : guardB s.t d.m.gd with _ | _ | _
    · simp only [runD, hg] at h
      exact False.elim h
    · simp only [runD, hg] at h
      exact fin _ _ (.inl ⟨hg, rfl, rfl⟩) h
    · cases hp : d.m.op with
      | a p =>
        simp only [runD, hg, hp] at h
        obtain ⟨v, h1, h2⟩ := det_opA hD _ _ _ _ h
        have h1 := brR_holds h1
        exact fin v _ (.inr ⟨hg, .inl ⟨p, hp, h2 (fun x => .pr (x = v)) rfl, rfl⟩⟩) h1
      | m p =>
        rcases hs : d.slots with _ | ⟨r, _ | ⟨r2, l2⟩⟩
        rotate_left
        · simp only [runD, hg, hp, hs] at h
          obtain ⟨v, h', h1, h2⟩ := det_opM _ _ _ _ h
          exact fin _ _ (.inr ⟨hg, .inr (.inl ⟨p, r, hp, hs, h2 (fun x hh => .pr (relab (base + r) v = relab (base + r) x ∧ refill (base + r) h' = refill (base + r) hh)) ⟨rfl, rfl⟩⟩)⟩) h1
        · simp only [runD, hg, hp, hs] at h
          exact False.elim h
        · simp only [runD, hg, hp, hs] at h
          obtain ⟨v, h', h1, h2⟩ := det_opM _ _ _ _ h
          exact fin _ _ (.inr ⟨hg, .inr (.inr (.inl ⟨p, hp, hs, h2 (fun x hh => .pr (v = x ∧ h' = hh)) ⟨rfl, rfl⟩⟩))⟩) h1
      | x p =>
        cases p with
        | hc f xs =>
          rcases hs : d.slots with _ | ⟨r, _ | ⟨r2, _ | ⟨r3, l2⟩⟩⟩
          · simp only [runD, hg, hp, hs] at h
            exact False.elim h
          · simp only [runD, hg, hp, hs] at h
            exact False.elim h
          · rcases hx : xOf C f (evs (evT C.G s.t) xs) with _ | ⟨args, v, Hr⟩
            · simp only [runD, hg, hp, hs, hx] at h
              exact False.elim h
            · simp only [runD, hg, hp, hs, hx] at h
              exact fin _ _ (.inr ⟨hg, .inr (.inr (.inr ⟨f, xs, r, r2, args, v, Hr, hp, hs, hx, h.1, rfl, rfl⟩))⟩) h.2
          · simp only [runD, hg, hp, hs] at h
            exact False.elim h
        | vc x xs =>
          simp only [runD, hg, hp] at h
          exact False.elim h
        | pan x =>
          simp only [runD, hg, hp] at h
          exact False.elim h
theorem cls_inv {m : MOp} {c : Cls} (h : clsOf m = some c) : match c with
    | .t => ∃ p, m.op = .a p ∧ isT p = true
    | .r => ∃ p, m.op = .a p
    | .m => ∃ p, m.op = .m p ∧ isMk p = true ∧ isAp p = false
    | .a => ∃ p, m.op = .m p ∧ isMk p = true
    | .w => ∃ p, m.op = .m p ∧ isW p = true
    | .q => ∃ t x, m.op = .m (.bstr t x)
    | .x => ∃ f xs, m.op = .x (.hc f xs) := by
  unfold clsOf at h
  cases ho : m.op with
  | a p =>
    rw [ho] at h
    dsimp only at h
    split at h
    · rename_i ht; cases h; exact ⟨p, rfl, ht⟩
    · cases h; exact ⟨p, rfl⟩
  | m p =>
    rw [ho] at h
    cases p <;> cases h <;> first | exact ⟨_, rfl, rfl⟩ | exact ⟨_, _, rfl⟩ | exact ⟨_, rfl, rfl, rfl⟩ | exact ⟨_, rfl, rfl⟩
  | x p =>
    rw [ho] at h
    cases p <;> cases h
    exact ⟨_, _, rfl⟩
theorem setX_len {k : Nat} {Hr H : Heap} : (setX k Hr H).length = H.length := by
  unfold setX; split <;> simp
theorem setX_ne {k j : Nat} {Hr H : Heap} (h1 : j ≠ k) (h2 : j ≠ k + 1) : (setX k Hr H)[j]? = H[j]? := by
  unfold setX
  split
  · rw [List.getElem?_set, if_neg (fun e => h2 e.symm), List.getElem?_set, if_neg (fun e => h1 e.symm)]
  · rfl
theorem xOf_spec {C : Cfg} {f : FuncId} {as args : List AV} {v : AV} {Hr : Heap} (h : xOf C f as = some (args, v, Hr)) : as.all plainA = true ∧ viewAs [] as = some args ∧ okXA v = true ∧ okXH Hr = true := by
  unfold xOf at h
  split at h
  · rename_i h1
    split at h
    · rename_i h2 _
      split at h
      · split at h
        · split at h
          · cases h
            exact ⟨h1, h2, by assumption, by assumption⟩
          · cases h
        · cases h
      · cases h
    · cases h
  · cases h
theorem okXH_two {Hr : Heap} (h : okXH Hr = true) : ∃ e t n f e' t' n' f', Hr = [some (.arr e t n f []), some (.arr e' t' n' f' [])] := by
  unfold okXH at h
  split at h
  · exact ⟨_, _, _, _, _, _, _, _, rfl⟩
  · cases h
theorem xOf_two {C : Cfg} {f : FuncId} {as args : List AV} {v : AV} {Hr : Heap} (h : xOf C f as = some (args, v, Hr)) : ∃ b0 b1, Hr = [b0, b1] := by
  obtain ⟨_, _, _, h4⟩ := xOf_spec h
  obtain ⟨_, _, _, _, _, _, _, _, e⟩ := okXH_two h4
  exact ⟨_, _, e⟩
theorem hslot_x {d : DOp} (h : SlotOk d) {f : Nat} {xs : List Opd} (hp : d.m.op = .x (.hc f xs)) {r r2 : Nat} (hs : d.slots = [r, r2]) : clsOf d.m = some .x ∧ r2 = r + 1 := by
  obtain ⟨c, hcl, hslot⟩ := h
  have h1 : clsOf d.m = some .x := by unfold clsOf; rw [hp]
  rw [h1] at hcl
  cases hcl
  obtain ⟨r', e⟩ := hslot
  rw [hs] at e
  simp only [List.cons.injEq] at e
  refine ⟨h1, by omega⟩
theorem kills_none {H : Heap} {ev : Opd → AV} {p : OM} (h : isAp p = false) : killsOf H ev p = none := by
  cases p <;> first | rfl | cases h
def wrD (d : DOp) : Prop := clsOf d.m = some .a ∨ clsOf d.m = some .w ∨ clsOf d.m = some .q
theorem get_putT {t : Tr} {d : Option Ps} {v : AV} {p : Ps} : Tr.get p (putT t d v) = if d = some p then v else Tr.get p t := by
  cases d with
  | none => simp [putT]
  | some q =>
    simp only [putT, Tr.get_set, Option.some.injEq]
    by_cases h : p = q
    · subst h; simp
    · rw [if_neg h, if_neg (fun e => h e.symm)]
section
variable {ops : Array Oper} {R : Nat → Nat → Prop} {ml : List MOp} {nA tot base : Nat} {l : List DOp} {s0 : St} {vs : Nat → AV} {S : Nat → St}
def Miss (d : DOp) (t : Tr) (k : Nat) : Prop := ∃ n p v, d.m.op = .m (.store n (.t p) v) ∧ blkOf (Tr.get p t) ≠ some k
theorem hstep (hd : DrwOk ops R ml nA tot l) (hc : CanD C E base l s0 vs S) {q : Nat} {d : DOp} (hq : l[q]? = some d) :
    (S (q + 1)).h.length = (S q).h.length ∧ (∀ k : Nat, (∀ r, r ∈ d.slots → k ≠ base + r) → (S q).h[k]? = some (some Blk.unb) → (S (q + 1)).h[k]? = some (some Blk.unb)) ∧
    (¬ wrD d → ∀ k : Nat, (∀ r, r ∈ d.slots → k ≠ base + r) → (S (q + 1)).h[k]? = (S q).h[k]?) ∧
    (∀ (k : Nat) (b : Blk), clsOf d.m ≠ some .w ∨ Miss d (S q).t k → (∀ r, r ∈ d.slots → k ≠ base + r) → (S (q + 1)).h[k]? = some (some b) → (S q).h[k]? = some (some b)) := by
  have same : (S (q + 1)).h = (S q).h → _ := fun (e : (S (q + 1)).h = (S q).h) => (⟨by rw [e], fun k _ hk => by rw [e]; exact hk, fun _ k _ => by rw [e], fun k b _ _ hk => by rw [← e]; exact hk⟩ :
    (S (q + 1)).h.length = (S q).h.length ∧ (∀ k : Nat, (∀ r, r ∈ d.slots → k ≠ base + r) → (S q).h[k]? = some (some Blk.unb) → (S (q + 1)).h[k]? = some (some Blk.unb)) ∧
    (¬ wrD d → ∀ k : Nat, (∀ r, r ∈ d.slots → k ≠ base + r) → (S (q + 1)).h[k]? = (S q).h[k]?) ∧
    (∀ (k : Nat) (b : Blk), clsOf d.m ≠ some .w ∨ Miss d (S q).t k → (∀ r, r ∈ d.slots → k ≠ base + r) → (S (q + 1)).h[k]? = some (some b) → (S q).h[k]? = some (some b)))
  obtain ⟨c, hcl, hslot⟩ := (hd.self q d hq).2.2.2.2
  have hinv := cls_inv hcl
  rcases (hc.step q d hq).2 with ⟨_, _, e⟩ | ⟨_, ⟨p, hp, _, e⟩ | ⟨p, r, hp, hs, h⟩ | ⟨p, hp, hs, h⟩ | ⟨f, xs, r, r2, args, v0, Hr, hp, hs, hx, _, _, e⟩⟩
  · exact same e
  · exact same e
  · have hmk : isMk p = true ∧ (c = .m → isAp p = false) ∧ (c = .m ∨ c = .a) := by
      cases c with
      | t => obtain ⟨p', h', _⟩ := hinv; rw [hp] at h'; cases h'
      | r => obtain ⟨p', h'⟩ := hinv; rw [hp] at h'; cases h'
      | m => obtain ⟨p', h', h1, h2⟩ := hinv; rw [hp] at h'; cases h'; exact ⟨h1, fun _ => h2, .inl rfl⟩
      | a => obtain ⟨p', h', h1⟩ := hinv; rw [hp] at h'; cases h'; exact ⟨h1, (fun h => by cases h), .inr rfl⟩
      | w => dsimp only at hslot; rw [hs] at hslot; cases hslot
      | q => dsimp only at hslot; rw [hs] at hslot; cases hslot
      | x => obtain ⟨_, _, h'⟩ := hinv; rw [hp] at h'; cases h'
    obtain ⟨v, b, ⟨_, hh⟩, _⟩ := made hmk.1 h
    rw [refill_snoc] at hh
    have hne : ∀ k, (∀ r, r ∈ d.slots → k ≠ base + r) → (S (q + 1)).h[k]? = (killO (killsOf (S q).h (evT C.G (S q).t) p) (S q).h)[k]? := fun k hk => by
      rw [hh, List.getElem?_set, if_neg (fun e => hk r (by rw [hs]; simp) e.symm)]
    refine ⟨by rw [hh]; simp [killO_len], fun k hk hu => by rw [hne k hk]; exact killO_unb hu, fun hw k hk => ?_, fun k b _ hk hb => ?_⟩
    · rw [hne k hk]
      rcases hmk.2.2 with rfl | rfl
      · rw [kills_none (hmk.2.1 rfl)]; rfl
      · exact absurd (.inl hcl) hw
    · rw [hne k hk] at hb
      exact killO_sub hb
  · have hw : c = .w ∨ c = .q := by
      cases c with
      | t => obtain ⟨p', h', _⟩ := hinv; rw [hp] at h'; cases h'
      | r => obtain ⟨p', h'⟩ := hinv; rw [hp] at h'; cases h'
      | m => obtain ⟨r, hr⟩ := hslot; rw [hs] at hr; cases hr
      | a => obtain ⟨r, hr⟩ := hslot; rw [hs] at hr; cases hr
      | w => exact .inl rfl
      | q => exact .inr rfl
      | x => obtain ⟨_, _, h'⟩ := hinv; rw [hp] at h'; cases h'
    rcases hw with hw | hw
    · subst hw
      obtain ⟨p', h', hw⟩ := hinv
      rw [hp] at h'
      cases h'
      obtain ⟨u, h', ⟨_, e⟩, h1, h2⟩ := w_heap hw h
      rw [e]
      refine ⟨h1, fun k _ hk => h2 k hk, fun hw => absurd (.inr (.inl hcl)) hw, fun k b hn _ hb => ?_⟩
      rcases hn with hn | ⟨n, x, y, ho, hmiss⟩
      · exact absurd hcl hn
      · rw [hp] at ho
        cases ho
        obtain ⟨u', h'', ⟨_, e'⟩, hm⟩ := store_miss h
        refine hm k b hmiss ?_
        rw [← e', e]
        exact hb
    · subst hw
      obtain ⟨t, x, h'⟩ := hinv
      rw [hp] at h'
      cases h'
      obtain ⟨u, h', ⟨_, e⟩, h1, h2, h3⟩ := bstr_heap h
      rw [e]
      exact ⟨h1, fun k _ hk => h2 k hk, fun hw => absurd (.inr (.inr hcl)) hw, fun k b _ _ hb => h3 k b hb⟩
  · obtain ⟨_, e2⟩ := hslot_x (hd.self q d hq).2.2.2.2 hp hs
    obtain ⟨b0, b1, rfl⟩ := xOf_two hx
    have hne : ∀ k : Nat, (∀ r, r ∈ d.slots → k ≠ base + r) → (S (q + 1)).h[k]? = (S q).h[k]? := fun k hk => by
      have h1 := hk r (by rw [hs]; simp)
      have h2 := hk r2 (by rw [hs]; simp)
      rw [e]
      exact setX_ne (by omega) (by omega)
    exact ⟨by rw [e]; exact setX_len, fun k hk hu => by rw [hne k hk]; exact hu, fun _ k hk => hne k hk, fun k b _ hk hb => by rw [← hne k hk]; exact hb⟩
theorem clen (hd : DrwOk ops R ml nA tot l) (hc : CanD C E base l s0 vs S) (h0 : s0.h.length = base + tot) : ∀ q, q ≤ l.length → (S q).h.length = base + tot
  | 0, _ => by rw [hc.zero]; exact h0
  | q + 1, h => by
    have hq : l[q]? = some l[q] := List.getElem?_eq_getElem (by omega)
    rw [(hstep hd hc hq).1]
    exact clen hd hc h0 q (by omega)
theorem cunb (hd : DrwOk ops R ml nA tot l) (hc : CanD C E base l s0 vs S) (h0 : ∀ r, r < tot → s0.h[base + r]? = some (some Blk.unb)) : ∀ q, q ≤ l.length → ∀ (q' : Nat) (d' : DOp) (r : Nat), q ≤ q' → l[q']? = some d' → r ∈ d'.slots → (S q).h[base + r]? = some (some Blk.unb)
  | 0, _, q', d', r, _, hq', hr => by rw [hc.zero]; exact h0 r ((hd.self q' d' hq').2.2.1 r hr)
  | q + 1, h, q', d', r, hle, hq', hr => by
    have hq : l[q]? = some l[q] := List.getElem?_eq_getElem (by omega)
    refine (hstep hd hc hq).2.1 _ (fun r' hr' e => ?_) (cunb hd hc h0 q (by omega) q' d' r (by omega) hq' hr)
    have : r = r' := by omega
    subst this
    exact (hd.pair q q' _ _ (by omega) hq hq').slot r hr' hr
theorem cstay (hd : DrwOk ops R ml nA tot l) (hc : CanD C E base l s0 vs S) {k : Nat} : ∀ (j q : Nat), q + j ≤ l.length → (∀ (q' : Nat) (d' : DOp), q ≤ q' → q' < q + j → l[q']? = some d' → ¬ wrD d' ∧ ∀ r, r ∈ d'.slots → k ≠ base + r) → (S (q + j)).h[k]? = (S q).h[k]?
  | 0, q, _, _ => rfl
  | j + 1, q, h, hh => by
    have hq : l[q + j]? = some l[q + j] := List.getElem?_eq_getElem (by omega)
    obtain ⟨h1, h2⟩ := hh (q + j) _ (by omega) (by omega) hq
    have := (hstep hd hc hq).2.2.1 h1 k h2
    rw [show q + (j + 1) = q + j + 1 by omega, this]
    exact cstay hd hc j q (by omega) fun q' d' h3 h4 => hh q' d' h3 (by omega)
theorem cback (hd : DrwOk ops R ml nA tot l) (hc : CanD C E base l s0 vs S) {k : Nat} {b : Blk} : ∀ (j q : Nat), q + j ≤ l.length → (∀ (q' : Nat) (d' : DOp), q ≤ q' → q' < q + j → l[q']? = some d' → (clsOf d'.m ≠ some .w ∨ Miss d' (S q').t k) ∧ ∀ r, r ∈ d'.slots → k ≠ base + r) → (S (q + j)).h[k]? = some (some b) → (S q).h[k]? = some (some b)
  | 0, q, _, _, hb => hb
  | j + 1, q, h, hh, hb => by
    have hq : l[q + j]? = some l[q + j] := List.getElem?_eq_getElem (by omega)
    obtain ⟨h1, h2⟩ := hh (q + j) _ (by omega) (by omega) hq
    exact cback hd hc j q (by omega) (fun q' d' h3 h4 => hh q' d' h3 (by omega)) ((hstep hd hc hq).2.2.2 k b h1 h2 hb)
theorem T_chD (hd : DrwOk ops R ml nA tot l) (hc : CanD C E base l s0 vs S) : ∀ q, q ≤ l.length → (∀ (q' : Nat) (d' : DOp) (p : Ps), q' < q → l[q']? = some d' → d'.m.dst = some p → Tr.get p (S q).t = vs q') ∧
    (∀ p, (∀ (q' : Nat) (d' : DOp), q' < q → l[q']? = some d' → d'.m.dst ≠ some p) → Tr.get p (S q).t = Tr.get p s0.t)
  | 0, _ => ⟨fun q' d' p h => by omega, fun p _ => by rw [hc.zero]⟩
  | q + 1, h => by
    have hq : l[q]? = some l[q] := List.getElem?_eq_getElem (by omega)
    obtain ⟨i1, i2⟩ := T_chD hd hc q (by omega)
    have e := (hc.step q _ hq).1
    refine ⟨fun q' d' p hlt hq' hp => ?_, fun p hno => ?_⟩
    · rw [e, get_putT]
      by_cases hqq : q' = q
      · subst hqq
        rw [hq] at hq'
        cases hq'
        rw [if_pos hp]
      · rw [if_neg (fun h => (hd.pair q' q d' _ (by omega) hq' hq).dst p hp h)]
        exact i1 q' d' p (by omega) hq' hp
    · rw [e, get_putT, if_neg (hno q _ (by omega) hq)]
      exact i2 p fun q' d' hlt hq' => hno q' d' (by omega) hq'
structure TmOk (l : List DOp) (s0 : St) (vs : Nat → AV) (LL : Nat → Prop) (t : Tr) : Prop where
  new : ∀ (q : Nat) (d : DOp) (p : Ps), l[q]? = some d → LL d.i → d.m.dst = some p → Tr.get p t = vs q
  old : ∀ p, (∀ (q : Nat) (d : DOp), l[q]? = some d → LL d.i → d.m.dst ≠ some p) → Tr.get p t = Tr.get p s0.t
theorem agreeD (hd : DrwOk ops R ml nA tot l) (hc : CanD C E base l s0 vs S) {LL : Nat → Prop} (hcl : ∀ i j, R i j → LL j → LL i) {t : Tr} (ht : TmOk l s0 vs LL t) {q : Nat} {d : DOp} (hq : l[q]? = some d) (hr : ∀ j, R j d.i → LL j) (hn : ¬ LL d.i) {p : Ps} (hp : looksP p d.m = true) : Tr.get p t = Tr.get p (S q).t := by
  have hlt := (List.getElem?_eq_some_iff.1 hq).1
  obtain ⟨i1, i2⟩ := T_chD hd hc q (by omega)
  by_cases h : ∃ (q' : Nat) (d' : DOp), q' < q ∧ l[q']? = some d' ∧ d'.m.dst = some p
  · obtain ⟨q', d', h1, h2, h3⟩ := h
    rw [i1 q' d' p h1 h2 h3]
    exact ht.new q' d' p h2 (hr _ ((hd.pair q' q d' d h1 h2 hq).d1 p h3 hp)) h3
  · rw [i2 p fun q' d' h1 h2 h3 => h ⟨q', d', h1, h2, h3⟩]
    refine ht.old p fun q' d' h2 hL h3 => ?_
    rcases Nat.lt_trichotomy q' q with h1 | h1 | h1
    · exact h ⟨q', d', h1, h2, h3⟩
    · subst h1
      rw [hq] at h2
      cases h2
      exact hn hL
    · exact hn (hcl _ _ ((hd.pair q q' d d' h1 hq h2).d2 p h3 hp) hL)
theorem tm_step (hd : DrwOk ops R ml nA tot l) {LL LL' : Nat → Prop} {q : Nat} {d : DOp} (hq : l[q]? = some d) (hLL : ∀ j, LL' j ↔ j = d.i ∨ LL j) {t : Tr} (ht : TmOk l s0 vs LL t) : TmOk l s0 vs LL' (putT t d.m.dst (vs q)) := by
  have uniq : ∀ (q' : Nat) (d' : DOp), l[q']? = some d' → d'.i = d.i → q' = q := fun q' d' hq' e => by
    rcases Nat.lt_trichotomy q' q with h1 | h1 | h1
    · exact absurd e (hd.pair q' q d' d h1 hq' hq).ne
    · exact h1
    · exact absurd e.symm (hd.pair q q' d d' h1 hq hq').ne
  refine ⟨fun q' d' p hq' hL hp => ?_, fun p hno => ?_⟩
  · rw [get_putT]
    by_cases hqq : q' = q
    · subst hqq
      rw [hq] at hq'
      cases hq'
      rw [if_pos hp]
    · have hne : d.m.dst ≠ some p := fun h => by
        rcases Nat.lt_or_ge q' q with h1 | h1
        · exact (hd.pair q' q d' d h1 hq' hq).dst p hp h
        · exact (hd.pair q q' d d' (by omega) hq hq').dst p h hp
      rw [if_neg hne]
      refine ht.new q' d' p hq' ?_ hp
      rcases (hLL _).1 hL with h | h
      · exact absurd (uniq q' d' hq' h) hqq
      · exact h
  · rw [get_putT, if_neg (hno q d hq ((hLL _).2 (.inl rfl)))]
    exact ht.old p fun q' d' hq' hL => hno q' d' hq' ((hLL _).2 (.inr hL))
def Unx (l : List DOp) (base : Nat) (LL : Nat → Prop) (k : Nat) : Prop := ∃ (q : Nat) (d : DOp) (r : Nat), l[q]? = some d ∧ r ∈ d.slots ∧ base + r = k ∧ ¬ LL d.i
structure HpOk (l : List DOp) (base tot : Nat) (S : Nat → St) (LL : Nat → Prop) (h : Heap) : Prop where
  len : h.length = base + tot
  at' : ∃ μ, μ ≤ l.length ∧ (∀ (q : Nat) (d : DOp), l[q]? = some d → wrD d → (q < μ ↔ LL d.i)) ∧ (μ = l.length ∨ ∃ d, l[μ]? = some d ∧ wrD d) ∧
    ∀ k : Nat, k < base + tot → (Unx l base LL k → h[k]? = some (some Blk.unb)) ∧ (¬ Unx l base LL k → h[k]? = (S μ).h[k]?)
theorem maskH_get {base : Nat} : ∀ {ms : List Nat} {H : Heap} {k : Nat} {b : Blk}, b ≠ .unb → (maskH base ms H)[k]? = some (some b) → H[k]? = some (some b) ∧ ∀ r ∈ ms, k ≠ base + r
  | [], H, k, b, _, h => ⟨h, fun r hr => by cases hr⟩
  | r :: ms, H, k, b, hb, h => by
    simp only [maskH] at h
    obtain ⟨h1, h2⟩ := maskH_get hb h
    rw [List.getElem?_set] at h1
    split at h1
    · split at h1
      · injection h1 with h1
        injection h1 with h1
        exact absurd h1.symm hb
      · cases h1
    · rename_i hne
      refine ⟨h1, fun r' hr' => ?_⟩
      rcases List.mem_cons.1 hr' with rfl | hr'
      · exact fun e => hne e.symm
      · exact h2 r' hr'
theorem maskW_get {t : Tr} : ∀ {ps : List Ps} {H : Heap} {k : Nat} {b : Blk}, b ≠ .unb → (maskW t ps H)[k]? = some (some b) → H[k]? = some (some b) ∧ ∀ p ∈ ps, blkOf (Tr.get p t) ≠ some k
  | [], H, k, b, _, h => ⟨h, fun r hr => by cases hr⟩
  | p :: ps, H, k, b, hb, h => by
    simp only [maskW] at h
    obtain ⟨h1, h2⟩ := maskW_get hb h
    split at h1
    · rename_i k0 hk0
      rw [List.getElem?_set] at h1
      split at h1
      · split at h1
        · injection h1 with h1
          injection h1 with h1
          exact absurd h1.symm hb
        · cases h1
      · rename_i hne
        refine ⟨h1, fun q hq => ?_⟩
        rcases List.mem_cons.1 hq with rfl | hq
        · rw [hk0]
          intro e
          exact hne (Option.some.inj e)
        · exact h2 q hq
    · rename_i hk0
      refine ⟨h1, fun q hq => ?_⟩
      rcases List.mem_cons.1 hq with rfl | hq
      · rw [hk0]; intro e; cases e
      · exact h2 q hq
theorem tstay (hc : CanD C E base l s0 vs S) {p : Ps} : ∀ (j q : Nat), q + j ≤ l.length → (∀ (q' : Nat) (d' : DOp), q ≤ q' → q' < q + j → l[q']? = some d' → d'.m.dst ≠ some p) → Tr.get p (S (q + j)).t = Tr.get p (S q).t
  | 0, q, _, _ => rfl
  | j + 1, q, h, hh => by
    have hq : l[q + j]? = some l[q + j] := List.getElem?_eq_getElem (by omega)
    have e := (hc.step (q + j) _ hq).1
    rw [show q + (j + 1) = q + j + 1 by omega, e, get_putT, if_neg (hh (q + j) _ (by omega) (by omega) hq)]
    exact tstay hc j q (by omega) fun q' d' h1 h2 => hh q' d' h1 (by omega)
theorem heap_le (hd : DrwOk ops R ml nA tot l) (hc : CanD C E base l s0 vs S) (h0 : ∀ r, r < tot → s0.h[base + r]? = some (some Blk.unb)) (h00 : s0.h.length = base + tot) {LL : Nat → Prop} (hcl : ∀ i j, R i j → LL j → LL i) {h : Heap} (hh : HpOk l base tot S LL h) {q : Nat} {d : DOp} (hq : l[q]? = some d) (hcls : clsOf d.m = some .r) (hr : ∀ j, R j d.i → LL j) (hn : ¬ LL d.i) :
    HLe (maskW (S q).t d.wm (maskH base d.mask (S q).h)) h := by
  intro k b hb hk
  obtain ⟨hk, hmw⟩ := maskW_get hb hk
  obtain ⟨hk, hms⟩ := maskH_get hb hk
  have hql := (List.getElem?_eq_some_iff.1 hq).1
  have hkl : k < base + tot := by
    have := (List.getElem?_eq_some_iff.1 hk).1
    rw [clen hd hc h00 q (by omega)] at this
    exact this
  obtain ⟨μ, hμ, hw, hμw, hat⟩ := hh.at'
  have hnu : ¬ Unx l base LL k := by
    rintro ⟨q', d', r, hq', hs, rfl, hL⟩
    rcases Nat.lt_or_ge q' q with h1 | h1
    · obtain ⟨c, c', e1, e2, e3⟩ := (hd.pair q' q d' d h1 hq' hq).cls
      rw [hcls] at e2
      cases e2
      obtain ⟨c'', e4, e5⟩ := (hd.self q' d' hq').2.2.2.2
      rw [e1] at e4
      cases e4
      have key : R d'.i d.i ∨ Msk d' d → False := fun hh => by
        rcases hh with hh | hm
        · exact hL (hr _ hh)
        · exact hms r (hm r hs) rfl
      cases c <;> dsimp only at e5 <;> simp only [ClsOk] at e3
      · rw [e5] at hs; cases hs
      · rw [e5] at hs; cases hs
      · exact key e3
      · exact key e3
      · rw [e5] at hs; cases hs
      · rw [e5] at hs; cases hs
      · exact key e3
    · rw [cunb hd hc h0 q (by omega) q' d' r h1 hq' hs] at hk
      injection hk with hk
      injection hk with hk
      exact hb hk.symm
  rw [(hat k hkl).2 hnu]
  -- between the two places
  rcases Nat.lt_or_ge q μ with h1 | h1
  · have := cstay hd hc (k := k) (μ - q) q (by omega) fun q' d' h2 h3 hq' => ⟨fun hwd => ?_, fun r hs e => ?_⟩
    · rw [show q + (μ - q) = μ by omega] at this
      rw [this]; exact hk
    · have hL := (hw q' d' hq' hwd).1 (by omega)
      rcases Nat.lt_or_ge q q' with h4 | h4
      · obtain ⟨c, c', e1, e2, e3⟩ := (hd.pair q q' d d' h4 hq hq').cls
        rw [hcls] at e1
        cases e1
        rcases hwd with hwd | hwd | hwd <;> rw [hwd] at e2 <;> cases e2 <;> exact hn (hcl _ _ e3 hL)
      · have : q' = q := by omega
        subst this
        rw [hq] at hq'
        cases hq'
        rcases hwd with hwd | hwd | hwd <;> rw [hcls] at hwd <;> cases hwd
    · rw [e] at hk
      rw [cunb hd hc h0 q (by omega) q' d' r (by omega) hq' hs] at hk
      injection hk with hk
      injection hk with hk
      exact hb hk.symm
  · refine cback hd hc (q - μ) μ (by omega) (fun q' d' h2 h3 hq' => ⟨?_, fun r hs e => ?_⟩) (by rw [show μ + (q - μ) = q by omega]; exact hk)
    · obtain ⟨c, c', e1, e2, e3⟩ := (hd.pair q' q d' d (by omega) hq' hq).cls
      rw [hcls] at e2
      cases e2
      rcases Classical.em (clsOf d'.m = some .w) with hwd | hwd
      · rw [hwd] at e1
        cases e1
        simp only [ClsOk] at e3
        rcases e3 with e3 | ⟨n, p, v, ho, hp⟩
        · have := (hw q' d' hq' (.inr (.inl hwd))).2 (hr _ e3)
          omega
        · right
          refine ⟨n, p, v, ho, ?_⟩
          have hlo : looksP p d'.m = true := by
            unfold looksP
            rw [Bool.or_eq_true]
            left
            rw [List.any_eq_true]
            refine ⟨.t p, ?_, psEq_spec.2 rfl⟩
            rw [ho]
            exact List.mem_cons_self
          have := tstay hc (p := p) (q - q') q' (by omega) fun q2 d2 h4 h5 hq2 => by
            rcases Nat.lt_or_ge q' q2 with h6 | h6
            · exact (hd.pair q' q2 d' d2 h6 hq' hq2).keep n p v ho
            · have : q2 = q' := by omega
              subst this
              rw [hq'] at hq2
              cases hq2
              intro hdst
              have := (hd.self q2 d' hq').2.1 p hdst
              rw [hlo] at this
              cases this
          rw [show q' + (q - q') = q by omega] at this
          rw [← this]
          exact hmw p hp
      · exact .inl hwd
    · -- what is made at or behind the first writer that waits has not been made
      have hμl : μ < l.length := by omega
      rcases hμw with h4 | ⟨dμ, hdμ, hwμ⟩
      · omega
      · have hLμ : ¬ LL dμ.i := fun hL => by have := (hw μ dμ hdμ hwμ).2 hL; omega
        have hLq' : LL d'.i := by
          rcases Classical.em (LL d'.i) with h | h
          · exact h
          · exact absurd ⟨q', d', r, hq', hs, e.symm, h⟩ hnu
        rcases Nat.lt_or_ge μ q' with h5 | h5
        · obtain ⟨c, c', e1, e2, e3⟩ := (hd.pair μ q' dμ d' h5 hdμ hq').cls
          obtain ⟨c'', e4, e5⟩ := (hd.self q' d' hq').2.2.2.2
          rw [e2] at e4
          cases e4
          have : R dμ.i d'.i := by
            rcases hwμ with hwμ | hwμ | hwμ <;> rw [hwμ] at e1 <;> cases e1 <;> cases c' <;> dsimp only at e5 <;> first | exact e3 | (rw [e5] at hs; cases hs)
          exact hLμ (hcl _ _ this hLq')
        · have : q' = μ := by omega
          subst this
          rw [hdμ] at hq'
          cases hq'
          exact hLμ hLq'
end
end Go.Ab
namespace Go.Ab
open Go.RowKit
variable {C : Cfg} {E : Ev} {md : Nat → Bool}
section
variable {F : Fence} {n : Nat} {En : Ent} {nt : Nat}
theorem guard_inv {ops : Array Oper} {o : Oper} {m : MOp} (hdo : DstOk nt ops) (hc : compO C.P md nt ops o = some m) {s : St} {a : Act} {w : World} (hv : Inv C En nt s a w) {b : Bool} (hg : guardB s.t m.gd = some b) : Region.wanted o (yielded ops a.tmps) = b := by
  obtain ⟨Z, φ, hs, hS, hm⟩ := hv
  exact guard_spec (w := w) (Z := Z) (H := s.h) (φ := φ) (compO_spec hc).2.1 (fun j want hj q hq => ⟨hs.t q, by
    refine Nat.lt_of_lt_of_le ?_ hs.sz
    cases hoj : ops[j]? with
    | none => rw [hoj] at hq; cases hq
    | some oj => rw [hoj] at hq; exact hdo j oj q hoj hq⟩) hg
theorem step_no (hF : WF F) {ops : Array Oper} {i : Nat} {o : Oper} {m : MOp} (hdo : DstOk nt ops) (hi : ops[i]? = some o) (hc : compO C.P md nt ops o = some m) {s : St} (hg : guardB s.t m.gd = some false) {a : Act} {w : World} (hv : Inv C En nt s a w) {Q : Exit → Act → World → Prop} :
    wpOpIn F n C.P ops Q i (fun a' w' => Inv C En nt ⟨putT s.t m.dst (.tp []), s.h⟩ a' w') a w := by
  unfold wpOpIn
  rw [hi]
  dsimp only
  rw [guard_inv hdo hc hv hg, if_neg (by simp)]
  exact ⟨fun f _ => hF.fn f, inv_skip hv (compO_spec hc).1⟩
theorem step_a (hF : WF F) (hE : EvCalls C E) {ops : Array Oper} {i : Nat} {o : Oper} {m : MOp} (hdo : DstOk nt ops) (hi : ops[i]? = some o) (hc : compO C.P md nt ops o = some m) {p : OP} (hp : m.op = .a p) {s : St} (hg : guardB s.t m.gd = some true) {v : AV}
    (h : (opA C E s.h (evT C.G s.t) p fun x => .pr (x = v)).holds) {a : Act} {w : World} (hv : Inv C En nt s a w) {Q : Exit → Act → World → Prop} :
    wpOpIn F n C.P ops Q i (fun a' w' => Inv C En nt ⟨putT s.t m.dst v, s.h⟩ a' w') a w := by
  unfold wpOpIn
  rw [hi]
  dsimp only
  rw [guard_inv hdo hc hv hg, if_pos rfl]
  obtain ⟨e1, e2, e3⟩ := compO_spec hc
  rw [hp] at e3
  obtain ⟨v', hK, hgoal⟩ := opA_sound hE (fun _ => rfl) e3 h
  have hK : v' = v := hK
  subst hK
  obtain ⟨Z, φ, hs, hS, hm⟩ := hv
  exact hgoal En.O Z φ a w hs.h hs.g (opdRep hs _) F n hF _ _ fun u w' Z' hv hst hz hn => Inv.put hs hS hm (hs.h.stays hst hz hn) (Way.stays hs.h hs.b hst hz hn) hv e1
theorem step_s (hF : WF F) {ops : Array Oper} {i : Nat} {o : Oper} {m : MOp} (hdo : DstOk nt ops) (hi : ops[i]? = some o) (hc : compO C.P md nt ops o = some m) {p : OM} (hp : m.op = .m p) {s : St} (hg : guardB s.t m.gd = some true) {v : AV} {h1 : Heap}
    (h : (opM s.h (evT C.G s.t) p fun x h' => .pr (v = x ∧ h1 = h')).holds) {a : Act} {w : World} (hv : Inv C En nt s a w) {Q : Exit → Act → World → Prop} :
    wpOpIn F n C.P ops Q i (fun a' w' => Inv C En nt ⟨putT s.t m.dst v, h1⟩ a' w') a w := by
  unfold wpOpIn
  rw [hi]
  dsimp only
  rw [guard_inv hdo hc hv hg, if_pos rfl]
  obtain ⟨e1, e2, e3⟩ := compO_spec hc
  rw [hp] at e3
  obtain ⟨v', H', hK, hgoal⟩ := opM_sound e3 h
  obtain ⟨rfl, rfl⟩ := hK
  obtain ⟨Z, φ, hs, hS, hm⟩ := hv
  exact hgoal En.O Z φ a w hs.h hs.b (opdRep hs _) F n hF _ _ fun u w' φ' hh hk hob hv T _ => Inv.put hs hS hm hh ⟨hk, fun _ h => h, fun _ h => .inl h, T, hob⟩ hv e1
theorem compX_hc {P : Program} {md : Nat → Bool} {o : Oper} {f : FuncId} {xs : List Opd} (h : compXC P md o = some (.hc f xs)) : ∃ c : Call, o.op = .call c ∧ c.callee = .value (.func f) ∧ okFn P f = true ∧ compXs c.args.toList = some xs := by
  unfold compXC at h
  split at h
  · rename_i c ho
    split at h
    · rename_i f' hcal
      split at h
      · rename_i hok
        simp only [Bool.and_eq_true] at hok
        obtain ⟨xs', hxs, e⟩ := Option.map_eq_some_iff.1 h
        cases e
        exact ⟨c, ho, hcal, hok.1, hxs⟩
      · cases h
    · obtain ⟨_, _, e⟩ := Option.map_eq_some_iff.1 h
      cases e
    · split at h
      · obtain ⟨_, _, e⟩ := Option.map_eq_some_iff.1 h
        cases e
      · cases h
    · cases h
  · obtain ⟨_, _, e⟩ := Option.map_eq_some_iff.1 h
    cases e
  · cases h
theorem tra_x {w w' : World} {Z Z' : Nat → Prop} {H H' : Heap} {φ φ' : Nat → Value} (hz : ∀ b, Z b → Z' b) (hc : ∀ p : Addr, Z p.block → w'.cell? p = w.cell? p) (hlen : H'.length = H.length) (hq : ∀ q, q < H.length → H[q]? ≠ some (some .unb) → H'[q]? = H[q]? ∧ φ' q = φ q) : Tra w w' Z Z' H H' φ φ' := by
  refine ⟨by omega, fun c u h => ?_⟩
  have bo : ∀ q, born H q → born H' q := fun q hb => ⟨by rw [hlen]; exact hb.1, by rw [(hq q hb.1 hb.2).1]; exact hb.2⟩
  cases c with
  | p v => exact RepP.keep hz hc h
  | unk => exact h
  | sl q off len =>
    obtain ⟨e1, e2⟩ := hq q h.1.1 h.1.2
    exact ⟨bo q h.1, h.2.1, fun e t n f ups hh => by rw [e1] at hh; rw [e2]; exact h.2.2 e t n f ups hh⟩
  | pt q off =>
    obtain ⟨e1, e2⟩ := hq q h.1.1 h.1.2
    exact ⟨bo q h.1, h.2.1, fun t l hh => by rw [e1] at hh; rw [e2]; exact h.2.2 t l hh⟩
  | pe q i j =>
    obtain ⟨e1, e2⟩ := hq q h.1.1 h.1.2
    exact ⟨bo q h.1, h.2.1, fun e t n f ups hh => by rw [e1] at hh; rw [e2]; exact h.2.2 e t n f ups hh⟩
  | ref q =>
    obtain ⟨e1, e2⟩ := hq q h.1.1 h.1.2
    exact ⟨bo q h.1, h.2.1, fun b hh => by rw [e1] at hh; rw [e2]; exact h.2.2 b hh⟩
theorem step_x (hF : WF F) {ops : Array Oper} {i : Nat} {o : Oper} {m : MOp} (hdo : DstOk nt ops) (hi : ops[i]? = some o) (hc : compO C.P md nt ops o = some m) {f : FuncId} {xs : List Opd} (hp : m.op = .x (.hc f xs)) {s : St} {k : Nat} (hk0 : s.h[k]? = some (some .unb)) (hk1 : s.h[k + 1]? = some (some .unb)) (hg : guardB s.t m.gd = some true)
    {args : List AV} {v0 : AV} {Hr : Heap} (hx : xOf C f (evs (evT C.G s.t) xs) = some (args, v0, Hr)) (hcall : FCall C f args v0 Hr) {a : Act} {w : World} (hv : Inv C En nt s a w) {Q : Exit → Act → World → Prop} :
    wpOpIn F n C.P ops Q i (fun a' w' => Inv C En nt ⟨putT s.t m.dst (shA k v0), setX k Hr s.h⟩ a' w') a w := by
  unfold wpOpIn
  rw [hi]
  dsimp only
  rw [guard_inv hdo hc hv hg, if_pos rfl]
  obtain ⟨e1, e2, e3⟩ := compO_spec hc
  rw [hp] at e3
  obtain ⟨c, ho, hcal, hok, hxs⟩ := compX_hc e3
  obtain ⟨x1, x2, x3, x4⟩ := xOf_spec hx
  obtain ⟨eb, tb, nb, fb, ec, tc, nc, fc, rfl⟩ := okXH_two x4
  obtain ⟨Z, φ, hs, hS, hm⟩ := hv
  have hargs : RepAs w Z s.h φ (evs (evT C.G s.t) xs) (c.args.toList.map a.eval) := opds_rep hxs fun x hx X hX => opd_rep hs.g (fun j _ => hs.t j) hX
  have hview : viewAs s.h (evs (evT C.G s.t) xs) = some args := viewAs_le (fun k b _ h => by simp at h) x2
  have hpl := (viewAs_sound hs.h hview hargs).2 x1
  have eargs : c.args.map a.eval = (c.args.toList.map a.eval).toArray := by apply Array.ext'; simp
  have nd : ∀ c0, o.op ≠ .defer c0 := fun c0 h0 => by rw [ho] at h0; cases h0
  refine ⟨fun f _ => hF.fn f, ?_⟩
  have hrun : (execOp a.eval o).run C.P w = .ok (.enter f (c.args.map a.eval)) w := by
    simp [execOp, ho, resolve, hcal, Deferred.ofValue, invoke, enter_run hok, Act.eval]
  rw [Oper.semAt_eq _ _ _ nd, hrun, eargs]
  simp only [Oper.uponIn]
  refine ⟨fun h => by rw [hF.dp] at h; simp at h, hF.calls ((hcall w Z _ hs.h.zlt hs.g hpl).mono fun e w' hh => ?_)⟩
  obtain ⟨u, Z', φ', rfl, hst, hz1, hz2, hs', hru⟩ := hh
  have hkl0 := (List.getElem?_eq_some_iff.1 hk0).1
  have hkl1 := (List.getElem?_eq_some_iff.1 hk1).1
  have hcell : ∀ p : Addr, Z p.block → w'.cell? p = w.cell? p := fun p hp => hst.cell (hs.h.zlt _ hp)
  have hsS : SimH C En.O Z' φ s.h w' := hs.h.stays hst hz1 fun b hb => (hz2 b hb).elim .inl fun h => .inr ⟨h, hs'.zlt b hb⟩
  let φ2 : Nat → Value := fun q => if q = k then φ' 0 else if q = k + 1 then φ' 1 else φ q
  let b0 : Blk := .arr eb tb nb fb []
  let b1 : Blk := .arr ec tc nc fc []
  let H' : Heap := setX k [some b0, some b1] s.h
  have p0 : φ2 k = φ' 0 := by simp [φ2]
  have p1 : φ2 (k + 1) = φ' 1 := by simp [φ2]
  have pn : ∀ q, q ≠ k → q ≠ k + 1 → φ2 q = φ q := fun q h1 h2 => by simp [φ2, h1, h2]
  have g0 : H'[k]? = some (some b0) := by
    show ((s.h.set k (some b0)).set (k + 1) (some b1))[k]? = _
    rw [List.getElem?_set, if_neg (by omega), List.getElem?_set, if_pos rfl, if_pos hkl0]
  have g1 : H'[k + 1]? = some (some b1) := by
    show ((s.h.set k (some b0)).set (k + 1) (some b1))[k + 1]? = _
    rw [List.getElem?_set, if_pos rfl, if_pos (by simpa using hkl1)]
  have gn : ∀ q, q ≠ k → q ≠ k + 1 → H'[q]? = s.h[q]? := fun q h1 h2 => setX_ne h1 h2
  have hlen : H'.length = s.h.length := setX_len
  have hlive : ∀ q, q < s.h.length → s.h[q]? ≠ some (some .unb) → H'[q]? = s.h[q]? ∧ φ2 q = φ q := fun q _ hq => by
    have n0 : q ≠ k := fun e => hq (by rw [e]; exact hk0)
    have n1 : q ≠ k + 1 := fun e => hq (by rw [e]; exact hk1)
    exact ⟨gn q n0 n1, pn q n0 n1⟩
  have T2 : Tra w' w' Z' Z' s.h H' φ φ2 := tra_x (fun _ h => h) (fun _ _ => rfl) hlen hlive
  have T : Tra w w' Z Z' s.h H' φ φ2 := tra_x hz1 hcell hlen hlive
  have a0 := hs'.blk 0 b0 rfl
  have a1 := hs'.blk 1 b1 rfl
  have sp : ∀ (q : Nat) (b : Blk), H'[q]? = some (some b) → (q = k ∧ b = b0) ∨ (q = k + 1 ∧ b = b1) ∨ (q ≠ k ∧ q ≠ k + 1 ∧ s.h[q]? = some (some b)) := fun q b hq => by
    by_cases n0 : q = k
    · subst n0
      rw [g0] at hq
      cases hq
      exact .inl ⟨rfl, rfl⟩
    · by_cases n1 : q = k + 1
      · subst n1
        rw [g1] at hq
        cases hq
        exact .inr (.inl ⟨rfl, rfl⟩)
      · rw [gn q n0 n1] at hq
        exact .inr (.inr ⟨n0, n1, hq⟩)
  have SIM : SimH C En.O Z' φ2 H' w' := by
    refine ⟨hs'.zlt, fun q b hq => ?_, fun q b g hq hg => ?_, fun q b g hq hg => ?_, fun q q' b b' g hq hq' hg hg' => ?_⟩
    · rcases sp q b hq with ⟨rfl, rfl⟩ | ⟨rfl, rfl⟩ | ⟨n0, n1, h⟩
      · show ∃ xs : List Value, w'.ownsRow 0 tb eb (φ2 q) nb xs ∧ _
        rw [p0]; exact a0
      · show ∃ xs : List Value, w'.ownsRow 0 tc ec (φ2 (k + 1)) nc xs ∧ _
        rw [p1]; exact a1
      · exact (hsS.blk q b h).turn T2 (fun _ h => h) (fun _ _ => rfl) (pn q n0 n1) fun _ _ => rfl
    · rcases sp q b hq with ⟨rfl, rfl⟩ | ⟨rfl, rfl⟩ | ⟨n0, n1, h⟩
      · rw [p0] at hg; exact hs.b g (hs'.own 0 b0 g rfl hg)
      · rw [p1] at hg; exact hs.b g (hs'.own 1 b1 g rfl hg)
      · rw [pn q n0 n1] at hg; exact hsS.own q b g h hg
    · rcases sp q b hq with ⟨rfl, rfl⟩ | ⟨rfl, rfl⟩ | ⟨n0, n1, h⟩
      · rw [p0] at hg; exact hs'.sep 0 b0 g rfl hg
      · rw [p1] at hg; exact hs'.sep 1 b1 g rfl hg
      · rw [pn q n0 n1] at hg; exact hsS.sep q b g h hg
    · have old : ∀ (q : Nat) (b : Blk) (g : Nat), s.h[q]? = some (some b) → own? (φ q) = some g → g < w.heap.size := fun q b g h hg => own_lt hs.h h hg
      have new0 : ∀ g, own? (φ' 0) = some g → w.heap.size ≤ g := fun g hg => hs'.own 0 b0 g rfl hg
      have new1 : ∀ g, own? (φ' 1) = some g → w.heap.size ≤ g := fun g hg => hs'.own 1 b1 g rfl hg
      have n01 : ∀ g, own? (φ' 0) = some g → own? (φ' 1) = some g → False := fun g h0 h1 => by
        rcases hs'.inj 0 1 b0 b1 g rfl rfl h0 h1 with h | h
        · cases h
        · rcases h.2.2 with h | h
          · cases h.1
          · cases h.1
      rcases sp q b hq with ⟨rfl, rfl⟩ | ⟨rfl, rfl⟩ | ⟨n0, n1, h⟩ <;> rcases sp q' b' hq' with ⟨e', rfl⟩ | ⟨e', rfl⟩ | ⟨n0', n1', h'⟩
      · exact .inl e'.symm
      · subst e'; rw [p0] at hg; rw [p1] at hg'; exact (n01 g hg hg').elim
      · rw [p0] at hg; rw [pn q' n0' n1'] at hg'
        have := old q' b' g h' hg'; have := new0 g hg; omega
      · subst e'; rw [p1] at hg; rw [p0] at hg'; exact (n01 g hg' hg).elim
      · exact .inl e'.symm
      · rw [p1] at hg; rw [pn q' n0' n1'] at hg'
        have := old q' b' g h' hg'; have := new1 g hg; omega
      · subst e'; rw [pn q n0 n1] at hg; rw [p0] at hg'
        have := old q b g h hg; have := new0 g hg'; omega
      · subst e'; rw [pn q n0 n1] at hg; rw [p1] at hg'
        have := old q b g h hg; have := new1 g hg'; omega
      · rw [pn q n0 n1] at hg; rw [pn q' n0' n1'] at hg'
        exact hsS.inj q q' b b' g h h' hg hg'
  have hC : ∀ (c : CV) (u : Value), okXC c = true → RepC w' Z' [some b0, some b1] φ' c u → RepC w' Z' H' φ2 (shC k c) u := fun c u hc h => by
    cases c with
    | p v => exact h
    | sl j off len =>
      have hj : j ≤ 1 := Nat.le_of_ble_eq_true hc
      have ej : H'[k + j]? = ([some b0, some b1] : Heap)[j]? ∧ φ2 (k + j) = φ' j ∧ ∃ e t n f, ([some b0, some b1] : Heap)[j]? = some (some (.arr e t n f [])) := by
        match j, hj with
        | 0, _ => exact ⟨g0, p0, _, _, _, _, rfl⟩
        | 1, _ => exact ⟨g1, p1, _, _, _, _, rfl⟩
      obtain ⟨j1, j2, e, t, n, f, j3⟩ := ej
      refine ⟨⟨by rw [hlen]; omega, by rw [j1, j3]; simp⟩, h.2.1, fun e t n f ups hh => ?_⟩
      rw [j1] at hh
      show off + len ≤ n ∧ _
      rw [j2]
      exact h.2.2 e t n f ups hh
    | pt => cases hc
    | pe => cases hc
    | ref => cases hc
    | unk => cases hc
  have HV : RepA w' Z' H' φ2 (shA k v0) u := by
    cases v0 with
    | c c => exact hC c u x3 hru
    | ag l =>
      simp only [RepA, shA] at hru ⊢
      obtain ⟨us, rfl, hl, hall⟩ := hru
      refine ⟨us, rfl, by simpa using hl, fun i c hi => ?_⟩
      simp only [List.getElem?_map, Option.map_eq_some_iff] at hi
      obtain ⟨c0, hc0, rfl⟩ := hi
      obtain ⟨x, hx, hr⟩ := hall i c0 hc0
      exact ⟨x, hx, hC c0 x (List.all_eq_true.1 x3 c0 (List.mem_of_getElem? hc0)) hr⟩
    | tp l => cases x3
    | any => cases x3
  exact Inv.put hs hS hm SIM ⟨Keeps.of_stays hst, hz1, fun b hb => (hz2 b hb).imp id (hs.b b), T, fun b hb => hst.block b (hs.h.zlt b hb)⟩ HV e1
theorem pad_inv : ∀ (tot : Nat) {s : St} {a : Act} {w : World}, Inv C En nt s a w → Inv C En nt ⟨s.t, s.h ++ List.replicate tot (some .unb)⟩ a w
  | 0, s, a, w, h => by simpa using h
  | tot + 1, s, a, w, h => by
    obtain ⟨Z, φ, hs, hS, hm⟩ := h
    obtain ⟨S, T, _⟩ := push_sim (b1 := .unb) (u := .nilFunc) hs.h (Below.refl _ w) hs.b (fun g hg => by simp [own?] at hg) (fun _ => upd_at)
    have W : Way En.O w w Z Z s.h (s.h ++ [some .unb]) φ (upd φ s.h.length .nilFunc) := ⟨Keeps.refl _ _, fun _ h => h, fun _ h => .inl h, T, fun _ _ => rfl⟩
    have := pad_inv tot (s := ⟨s.t, s.h ++ [some .unb]⟩) ⟨Z, _, ⟨S, hs.g, hs.b, hs.sz, hs.t.tra T⟩, hS.way W, hm⟩
    simpa [List.replicate_succ] using this
end
section
variable {ops : Array Oper} {R : Nat → Nat → Prop} {ml : List MOp} {nA tot base : Nat} {l : List DOp} {s0 : St} {vs : Nat → AV} {S : Nat → St}
theorem heap_eq (hd : DrwOk ops R ml nA tot l) (hc : CanD C E base l s0 vs S) (h0 : ∀ r, r < tot → s0.h[base + r]? = some (some Blk.unb)) (h00 : s0.h.length = base + tot) {LL : Nat → Prop} {h : Heap} (hh : HpOk l base tot S LL h) {q : Nat} {d : DOp} (hq : l[q]? = some d) (hwd : wrD d) (hr : ∀ j, R j d.i → LL j) (hn : ¬ LL d.i) :
    h = (S q).h ∧ (∀ (q' : Nat) (d' : DOp), l[q']? = some d' → wrD d' → (q' < q ↔ LL d'.i)) := by
  have hql := (List.getElem?_eq_some_iff.1 hq).1
  obtain ⟨μ, hμ, hw, hμw, hat⟩ := hh.at'
  have anc : ∀ (q' : Nat) (d' : DOp), q' < q → l[q']? = some d' → (wrD d' ∨ ∃ r, r ∈ d'.slots) → LL d'.i := fun q' d' hlt hq' hk => by
    obtain ⟨c, c', e1, e2, e3⟩ := (hd.pair q' q d' d hlt hq' hq).cls
    obtain ⟨c'', e4, e5⟩ := (hd.self q' d' hq').2.2.2.2
    rw [e1] at e4
    cases e4
    have : R d'.i d.i := by
      rcases hk with hk | ⟨r, hs⟩
      · rcases hk with hk | hk | hk <;> rw [hk] at e1 <;> cases e1 <;> rcases hwd with hwd | hwd | hwd <;> rw [hwd] at e2 <;> cases e2 <;> exact e3
      · cases c <;> dsimp only at e5 <;> first | (rw [e5] at hs; cases hs; done) | (rcases hwd with hwd | hwd | hwd <;> rw [hwd] at e2 <;> cases e2 <;> exact e3)
    exact hr _ this
  have hμq : μ = q := by
    rcases Nat.lt_trichotomy μ q with h1 | h1 | h1
    · rcases hμw with h2 | ⟨dμ, hdμ, hwμ⟩
      · omega
      · have := (hw μ dμ hdμ hwμ).2 (anc μ dμ h1 hdμ (.inl hwμ))
        omega
    · exact h1
    · exact absurd ((hw q d hq hwd).1 h1) hn
  subst hμq
  refine ⟨List.ext_getElem? fun k => ?_, hw⟩
  rcases Nat.lt_or_ge k (base + tot) with hk | hk
  · by_cases hu : Unx l base LL k
    · rw [(hat k hk).1 hu]
      obtain ⟨q', d', r, hq', hs, rfl, hL⟩ := hu
      rcases Nat.lt_or_ge q' μ with h1 | h1
      · exact absurd (anc q' d' h1 hq' (.inr ⟨r, hs⟩)) hL
      · exact (cunb hd hc h0 μ hμ q' d' r h1 hq' hs).symm
    · exact (hat k hk).2 hu
  · rw [List.getElem?_eq_none (by rw [hh.len]; exact hk), List.getElem?_eq_none (by rw [clen hd hc h00 μ hμ]; exact hk)]
theorem next_wr (l : List DOp) : ∀ (j q : Nat), q + j = l.length → ∃ μ, q ≤ μ ∧ μ ≤ l.length ∧ (μ = l.length ∨ ∃ d, l[μ]? = some d ∧ wrD d) ∧ ∀ (q' : Nat) (d' : DOp), q ≤ q' → q' < μ → l[q']? = some d' → ¬ wrD d'
  | 0, q, h => ⟨q, Nat.le_refl _, by omega, .inl (by omega), fun q' d' h1 h2 => by omega⟩
  | j + 1, q, h => by
    have hq : l[q]? = some l[q] := List.getElem?_eq_getElem (by omega)
    by_cases hw : wrD l[q]
    · exact ⟨q, Nat.le_refl _, by omega, .inr ⟨_, hq, hw⟩, fun q' d' h1 h2 => by omega⟩
    · obtain ⟨μ, h1, h2, h3, h4⟩ := next_wr l j (q + 1) (by omega)
      refine ⟨μ, by omega, h2, h3, fun q' d' h5 h6 hq' => ?_⟩
      rcases Nat.lt_or_ge q q' with h7 | h7
      · exact h4 q' d' (by omega) h6 hq'
      · have : q' = q := by omega
        subst this
        rw [hq] at hq'
        cases hq'
        exact hw
theorem hp_writer (hd : DrwOk ops R ml nA tot l) (hc : CanD C E base l s0 vs S) (h0 : ∀ r, r < tot → s0.h[base + r]? = some (some Blk.unb)) (h00 : s0.h.length = base + tot) {LL LL' : Nat → Prop} (hcl : ∀ i j, R i j → LL j → LL i) {q : Nat} {d : DOp} (hq : l[q]? = some d) (hwd : wrD d) (hr : ∀ j, R j d.i → LL j) (hn : ¬ LL d.i) (hLL : ∀ j, LL' j ↔ j = d.i ∨ LL j)
    (hw : ∀ (q' : Nat) (d' : DOp), l[q']? = some d' → wrD d' → (q' < q ↔ LL d'.i)) : HpOk l base tot S LL' (S (q + 1)).h := by
  have hql := (List.getElem?_eq_some_iff.1 hq).1
  obtain ⟨μ, h1, h2, h3, h4⟩ := next_wr l (l.length - (q + 1)) (q + 1) (by omega)
  have uniq : ∀ (q' : Nat) (d' : DOp), l[q']? = some d' → d'.i = d.i → q' = q := fun q' d' hq' e => by
    rcases Nat.lt_trichotomy q' q with h1 | h1 | h1
    · exact absurd e (hd.pair q' q d' d h1 hq' hq).ne
    · exact h1
    · exact absurd e.symm (hd.pair q q' d d' h1 hq hq').ne
  have later : ∀ (q' : Nat) (d' : DOp) (r : Nat), q < q' → l[q']? = some d' → r ∈ d'.slots → ¬ LL' d'.i := fun q' d' r hlt hq' hs hL => by
    rcases (hLL _).1 hL with h | h
    · have := uniq q' d' hq' h
      omega
    · obtain ⟨c, c', e1, e2, e3⟩ := (hd.pair q q' d d' hlt hq hq').cls
      obtain ⟨c'', e4, e5⟩ := (hd.self q' d' hq').2.2.2.2
      rw [e2] at e4
      cases e4
      have : R d.i d'.i := by
        rcases hwd with hwd | hwd | hwd <;> rw [hwd] at e1 <;> cases e1 <;> cases c' <;> dsimp only at e5 <;> first | exact e3 | (rw [e5] at hs; cases hs)
      exact hn (hcl _ _ this h)
  refine ⟨clen hd hc h00 _ (by omega), μ, h2, fun q' d' hq' hwd' => ?_, h3, fun k hk => ⟨fun hu => ?_, fun hu => ?_⟩⟩
  · rw [hLL, ← hw q' d' hq' hwd']
    constructor
    · intro hlt
      rcases Nat.lt_trichotomy q' q with h5 | h5 | h5
      · exact .inr h5
      · subst h5
        rw [hq] at hq'
        cases hq'
        exact .inl rfl
      · exact absurd hwd' (h4 q' d' (by omega) hlt hq')
    · rintro (h5 | h5)
      · have := uniq q' d' hq' h5
        omega
      · omega
  · obtain ⟨q', d', r, hq', hs, rfl, hL⟩ := hu
    rcases Nat.lt_or_ge q q' with h5 | h5
    · exact cunb hd hc h0 (q + 1) (by omega) q' d' r (by omega) hq' hs
    · exfalso
      rcases Nat.lt_or_ge q' q with h6 | h6
      · -- a maker ahead of a writer that is ready has come up
        obtain ⟨c, c', e1, e2, e3⟩ := (hd.pair q' q d' d h6 hq' hq).cls
        obtain ⟨c'', e4, e5⟩ := (hd.self q' d' hq').2.2.2.2
        rw [e1] at e4
        cases e4
        have : R d'.i d.i := by
          rcases hwd with hwd | hwd | hwd <;> rw [hwd] at e2 <;> cases e2 <;> cases c <;> dsimp only at e5 <;> first | exact e3 | (rw [e5] at hs; cases hs)
        exact hL ((hLL _).2 (.inr (hr _ this)))
      · have : q' = q := by omega
        subst this
        rw [hq] at hq'
        cases hq'
        exact hL ((hLL _).2 (.inl rfl))
  · have := cstay hd hc (k := k) (μ - (q + 1)) (q + 1) (by omega) fun q' d' h5 h6 hq' => ⟨h4 q' d' h5 (by omega) hq', fun r hs e => hu ⟨q', d', r, hq', hs, e.symm, later q' d' r (by omega) hq' hs⟩⟩
    rw [show q + 1 + (μ - (q + 1)) = μ by omega] at this
    exact this.symm
theorem hp_other (hd : DrwOk ops R ml nA tot l) (hc : CanD C E base l s0 vs S) (h0 : ∀ r, r < tot → s0.h[base + r]? = some (some Blk.unb)) (h00 : s0.h.length = base + tot) {LL LL' : Nat → Prop} (hcl : ∀ i j, R i j → LL j → LL i) {h : Heap} (hh : HpOk l base tot S LL h) {q : Nat} {d : DOp} (hq : l[q]? = some d) (hwd : ¬ wrD d) (hr : ∀ j, R j d.i → LL j) (hn : ¬ LL d.i) (hLL : ∀ j, LL' j ↔ j = d.i ∨ LL j)
    {h' : Heap} (hlen : h'.length = h.length) (hoth : ∀ k : Nat, (∀ r, r ∈ d.slots → k ≠ base + r) → h'[k]? = h[k]?) (hat' : ∀ r, r ∈ d.slots → h'[base + r]? = (S (q + 1)).h[base + r]?) : HpOk l base tot S LL' h' := by
  have hql := (List.getElem?_eq_some_iff.1 hq).1
  obtain ⟨μ, hμ, hw, hμw, hat⟩ := hh.at'
  have uniq : ∀ (q' : Nat) (d' : DOp), l[q']? = some d' → d'.i = d.i → q' = q := fun q' d' hq' e => by
    rcases Nat.lt_trichotomy q' q with h1 | h1 | h1
    · exact absurd e (hd.pair q' q d' d h1 hq' hq).ne
    · exact h1
    · exact absurd e.symm (hd.pair q q' d d' h1 hq hq').ne
  refine ⟨by rw [hlen]; exact hh.len, μ, hμ, fun q' d' hq' hwd' => ?_, hμw, fun k hk => ⟨fun hu => ?_, fun hu => ?_⟩⟩
  · rw [hLL, hw q' d' hq' hwd']
    constructor
    · exact .inr
    · rintro (h5 | h5)
      · have := uniq q' d' hq' h5
        subst this
        rw [hq] at hq'
        cases hq'
        exact absurd hwd' hwd
      · exact h5
  · obtain ⟨q', d', r, hq', hs, rfl, hL⟩ := hu
    rw [hoth _ fun r' hs' e => ?_]
    · exact (hat _ hk).1 ⟨q', d', r, hq', hs, rfl, fun h => hL ((hLL _).2 (.inr h))⟩
    · have hrr : r = r' := by omega
      subst hrr
      rcases Nat.lt_trichotomy q' q with h1 | h1 | h1
      · exact (hd.pair q' q d' d h1 hq' hq).slot r hs hs'
      · subst h1
        rw [hq] at hq'
        cases hq'
        exact hL ((hLL _).2 (.inl rfl))
      · exact (hd.pair q q' d d' h1 hq hq').slot r hs' hs
  · by_cases hk' : ∃ r, r ∈ d.slots ∧ k = base + r
    · obtain ⟨r, hs, rfl⟩ := hk'
      rw [hat' r hs]
      -- it was made ahead of all writers that wait
      obtain ⟨c0, hc0, hc1⟩ := (hd.self q d hq).2.2.2.2
      have hm0 : clsOf d.m = some .m ∨ clsOf d.m = some .x := by
        cases c0 <;> dsimp only at hc1 <;> first | exact .inl hc0 | exact .inr hc0 | (rw [hc1] at hs; cases hs; done) | exact absurd (.inl hc0) hwd
      have hqμ : q < μ := by
        rcases Nat.lt_or_ge q μ with h1 | h1
        · exact h1
        · exfalso
          rcases hμw with h2 | ⟨dμ, hdμ, hwμ⟩
          · omega
          · have hLμ : ¬ LL dμ.i := fun hL => by have := (hw μ dμ hdμ hwμ).2 hL; omega
            rcases Nat.lt_or_ge μ q with h3 | h3
            · obtain ⟨c, c', e1, e2, e3⟩ := (hd.pair μ q dμ d h3 hdμ hq).cls
              rcases hm0 with hm0 | hm0 <;> rw [hm0] at e2 <;> cases e2 <;> rcases hwμ with hwμ | hwμ | hwμ <;> rw [hwμ] at e1 <;> cases e1 <;> exact hLμ (hr _ e3)
            · have : μ = q := by omega
              subst this
              rw [hdμ] at hq
              cases hq
              exact hwd hwμ
      have := cstay hd hc (k := base + r) (μ - (q + 1)) (q + 1) (by omega) fun q' d' h5 h6 hq' => ⟨fun hwd' => ?_, fun r' hs' e => ?_⟩
      · rw [show q + 1 + (μ - (q + 1)) = μ by omega] at this
        exact this.symm
      · have hL' := (hw q' d' hq' hwd').1 (by omega)
        obtain ⟨c, c', e1, e2, e3⟩ := (hd.pair q q' d d' (by omega) hq hq').cls
        rcases hm0 with hm0 | hm0 <;> rw [hm0] at e1 <;> cases e1 <;> rcases hwd' with hwd' | hwd' | hwd' <;> rw [hwd'] at e2 <;> cases e2 <;> exact hn (hcl _ _ e3 hL')
      · have hrr : r = r' := by omega
        subst hrr
        exact (hd.pair q q' d d' (by omega) hq hq').slot r hs hs'
    · rw [hoth k fun r hs e => hk' ⟨r, hs, e⟩]
      refine (hat k hk).2 ?_
      rintro ⟨q', d', r, hq', hs, rfl, hL⟩
      refine hu ⟨q', d', r, hq', hs, rfl, fun h => ?_⟩
      rcases (hLL _).1 h with h | h
      · have := uniq q' d' hq' h
        subst this
        rw [hq] at hq'
        cases hq'
        exact hk' ⟨r, hs, rfl⟩
      · exact hL h
theorem looks_gd {m : MOp} {g : Ps} {w : Bool} (h : m.gd = some (g, w)) : looksP g m = true := by
  unfold looksP
  rw [h]
  simp [psEq_spec.2 rfl]
theorem looks_op {m : MOp} {p : Ps} (h : Opd.t p ∈ opdsO m.op) : looksP p m = true := by
  unfold looksP
  rw [Bool.or_eq_true]
  left
  rw [List.any_eq_true]
  exact ⟨_, h, psEq_spec.2 rfl⟩
variable {F : Fence} {n : Nat} {En : Ent} {nt : Nat}
theorem step_drw (hF : WF F) (hE : EvCalls C E) (hcomp : compOs C.P md nt ops ops.toList = some ml) (hd : DrwOk ops R ml nA tot l) (hc : CanD C E base l s0 vs S) (h0 : ∀ r, r < tot → s0.h[base + r]? = some (some Blk.unb)) (h00 : s0.h.length = base + tot) {LL LL' : Nat → Prop} (hcl : ∀ i j, R i j → LL j → LL i)
    {t : Tr} {h : Heap} (ht : TmOk l s0 vs LL t) (hh : HpOk l base tot S LL h) {q : Nat} {d : DOp} (hq : l[q]? = some d) (hr : ∀ j, R j d.i → LL j) (hn : ¬ LL d.i) (hLL : ∀ j, LL' j ↔ j = d.i ∨ LL j) {a : Act} {w : World} (hv : Inv C En nt ⟨t, h⟩ a w) {Q : Exit → Act → World → Prop} :
    wpOpIn F n C.P ops Q d.i (fun a' w' => ∃ t' h', Inv C En nt ⟨t', h'⟩ a' w' ∧ TmOk l s0 vs LL' t' ∧ HpOk l base tot S LL' h') a w := by
  have hql := (List.getElem?_eq_some_iff.1 hq).1
  obtain ⟨hi, hself, hsl, hml, c, hcls, hslot⟩ := hd.self q d hq
  have hlt : d.i < ops.size := by have := hd.le; omega
  obtain ⟨m', hm', hco⟩ := (compOs_get hcomp).2 d.i ops[d.i] (by simp [hlt])
  rw [hml] at hm'
  cases hm'
  have hio : ops[d.i]? = some ops[d.i] := Array.getElem?_eq_getElem hlt
  have hdo := compOs_dst hcomp
  have ag : ∀ p, looksP p d.m = true → Tr.get p t = Tr.get p (S q).t := fun p hp => agreeD hd hc hcl ht hq hr hn hp
  have hg : guardB t d.m.gd = guardB (S q).t d.m.gd := by
    cases hgd : d.m.gd with
    | none => rfl
    | some g =>
      obtain ⟨g, w⟩ := g
      simp only [guardB, ag g (looks_gd hgd)]
  have hev : ∀ X ∈ opdsO d.m.op, evT C.G (S q).t X = evT C.G t X := fun X hX => by
    cases X with
    | t p => simp only [evT]; exact (ag p (looks_op hX)).symm
    | k v => rfl
    | g x => rfl
  have htm := tm_step (vs := vs) hd hq hLL ht
  have hinv := cls_inv hcls
  have nowr : c ≠ .a → c ≠ .w → c ≠ .q → ¬ wrD d := fun h1 h2 h3 hw => by rcases hw with hw | hw | hw <;> rw [hcls] at hw <;> cases hw <;> contradiction
  have other : ¬ wrD d → d.slots = [] → HpOk l base tot S LL' h := fun hw hs => hp_other hd hc h0 h00 hcl hh hq hw hr hn hLL rfl (fun _ _ => rfl) (fun r hr' => by rw [hs] at hr'; cases hr')
  rcases (hc.step q d hq).2 with ⟨hgf, hvq, e⟩ | ⟨hgt, hrest⟩
  · -- not wanted
    rw [← hg] at hgf
    refine wpOpIn_mono (fun a' w' hv' => ⟨_, _, hv', by rw [← hvq]; exact htm, ?_⟩) (step_no hF hdo hio hco hgf hv)
    show HpOk l base tot S LL' h
    by_cases hwd : wrD d
    · obtain ⟨e1, e2⟩ := heap_eq hd hc h0 h00 hh hq hwd hr hn
      rw [e1, ← e]
      exact hp_writer hd hc h0 h00 hcl hq hwd hr hn hLL e2
    · refine hp_other hd hc h0 h00 hcl hh hq hwd hr hn hLL rfl (fun _ _ => rfl) fun r hs => ?_
      rw [e, cunb hd hc h0 q (by omega) q d r (Nat.le_refl _) hq hs]
      obtain ⟨μ, hμ, hw, hμw, hat⟩ := hh.at'
      exact (hat _ (by have := hsl r hs; omega)).1 ⟨q, d, r, hq, hs, rfl, hn⟩
  · rw [← hg] at hgt
    rcases hrest with ⟨p, hp, hop, e⟩ | ⟨p, r, hp, hs, hop⟩ | ⟨p, hp, hs, hop⟩ | ⟨f, xs, r, r2, args, v0, Hr, hp, hs, hx, hfc, hvq, hhq⟩
    · -- it looks
      have hct : (c = .t ∧ isT p = true) ∨ c = .r := by
        cases c with
        | t => obtain ⟨p', h', h2⟩ := hinv; rw [hp] at h'; cases h'; exact .inl ⟨rfl, h2⟩
        | r => exact .inr rfl
        | m => obtain ⟨p', h', _⟩ := hinv; rw [hp] at h'; cases h'
        | a => obtain ⟨p', h', _⟩ := hinv; rw [hp] at h'; cases h'
        | w => obtain ⟨_, h', _⟩ := hinv; rw [hp] at h'; cases h'
        | q => obtain ⟨_, _, h'⟩ := hinv; rw [hp] at h'; cases h'
        | x => obtain ⟨_, _, h'⟩ := hinv; rw [hp] at h'; cases h'
      have hop' : (opA C E h (evT C.G t) p fun x => .pr (x = vs q)).holds := by
        rw [opA_congr (H := maskW (S q).t d.wm (maskH base d.mask (S q).h)) (ev' := evT C.G t) (fun X hX => hev X (by rw [hp]; exact hX))] at hop
        rcases hct with ⟨rfl, h2⟩ | rfl
        · rw [opA_T h2 _ h] at hop; exact hop
        · exact opA_le (heap_le hd hc h0 h00 hcl hh hq hcls hr hn) hop
      have hs : d.slots = [] := by rcases hct with ⟨rfl, _⟩ | rfl <;> exact hslot
      exact wpOpIn_mono (fun a' w' hv' => ⟨_, _, hv', htm, other (by rcases hct with ⟨rfl, _⟩ | rfl <;> exact nowr (by simp) (by simp) (by simp)) hs⟩) (step_a hF hE hdo hio hco hp hgt hop' hv)
    · -- it makes something
      have hmk : isMk p = true ∧ ((c = .m ∧ isAp p = false) ∨ c = .a) := by
        cases c with
        | t => obtain ⟨p', h', _⟩ := hinv; rw [hp] at h'; cases h'
        | r => obtain ⟨p', h'⟩ := hinv; rw [hp] at h'; cases h'
        | m => obtain ⟨p', h', h1, h2⟩ := hinv; rw [hp] at h'; cases h'; exact ⟨h1, .inl ⟨rfl, h2⟩⟩
        | a => obtain ⟨p', h', h1⟩ := hinv; rw [hp] at h'; cases h'; exact ⟨h1, .inr rfl⟩
        | w => dsimp only at hslot; rw [hs] at hslot; cases hslot
        | q => dsimp only at hslot; rw [hs] at hslot; cases hslot
        | x => obtain ⟨_, _, h'⟩ := hinv; rw [hp] at h'; cases h'
      have hsr : r ∈ d.slots := by rw [hs]; simp
      rw [opM_congr (ev' := evT C.G t) (fun X hX => hev X (by rw [hp]; exact hX))] at hop
      obtain ⟨v, b, ⟨hvq, hhq⟩, hM, hK, hre⟩ := made hmk.1 hop
      rw [refill_snoc] at hhq
      obtain ⟨μ, hμ, hw, hμw, hat⟩ := hh.at'
      have hunb : h[base + r]? = some (some Blk.unb) := (hat _ (by have := hsl r hsr; omega)).1 ⟨q, d, r, hq, hsr, rfl, hn⟩
      rcases hmk.2 with ⟨rfl, hna⟩ | rfl
      · have hkn := kills_none (H := (S q).h) (ev := evT C.G t) hna
        obtain ⟨v', hM', hrl, hK'⟩ := hre hkn hna h
        rw [hkn] at hhq
        refine wpOpIn_mono (fun a' w' hv' => ⟨_, _, hv', by rw [hrl, ← hvq]; exact htm, ?_⟩) (step_mk hF hdo hio hco hp (s := ⟨t, h⟩) (kk := none) hunb hgt hM' hK' hv)
        refine hp_other hd hc h0 h00 hcl hh hq (nowr (by simp) (by simp) (by simp)) hr hn hLL (by simp [killO]) (fun k hk => ?_) fun r' hs' => ?_
        · simp only [killO]
          rw [List.getElem?_set, if_neg (fun e => hk r hsr e.symm)]
        · rw [hs] at hs'
          obtain rfl : r' = r := by simpa using hs'
          have h1 := (List.getElem?_eq_some_iff.1 hunb).1
          have h2 : base + r' < (S q).h.length := by rw [clen hd hc h00 q (by omega)]; have := hsl r' (by rw [hs]; simp); omega
          rw [hhq]
          simp only [killO]
          rw [List.getElem?_set, List.getElem?_set, if_pos rfl, if_pos rfl, if_pos h1, if_pos h2]
      · have hwd : wrD d := .inl hcls
        obtain ⟨e1, e2⟩ := heap_eq hd hc h0 h00 hh hq hwd hr hn
        subst e1
        refine wpOpIn_mono (fun a' w' hv' => ⟨_, _, hv', by rw [← hvq]; exact htm, ?_⟩) (step_mk hF hdo hio hco hp (s := ⟨t, (S q).h⟩) hunb hgt hM hK hv)
        rw [← hhq]
        exact hp_writer hd hc h0 h00 hcl hq hwd hr hn hLL e2
    · -- it writes
      have hcw : c = .w ∨ c = .q := by
        cases c with
        | t => obtain ⟨p', h', _⟩ := hinv; rw [hp] at h'; cases h'
        | r => obtain ⟨p', h'⟩ := hinv; rw [hp] at h'; cases h'
        | m => obtain ⟨r, hr⟩ := hslot; rw [hs] at hr; cases hr
        | a => obtain ⟨r, hr⟩ := hslot; rw [hs] at hr; cases hr
        | w => exact .inl rfl
        | q => exact .inr rfl
        | x => obtain ⟨_, _, h'⟩ := hinv; rw [hp] at h'; cases h'
      have hwd : wrD d := by
        rcases hcw with rfl | rfl
        · exact .inr (.inl hcls)
        · exact .inr (.inr hcls)
      obtain ⟨e1, e2⟩ := heap_eq hd hc h0 h00 hh hq hwd hr hn
      rw [opM_congr (ev' := evT C.G t) (fun X hX => hev X (by rw [hp]; exact hX)), ← e1] at hop
      refine wpOpIn_mono (fun a' w' hv' => ⟨_, _, hv', htm, ?_⟩) (step_s hF hdo hio hco hp (s := ⟨t, h⟩) hgt hop hv)
      exact hp_writer hd hc h0 h00 hcl hq hwd hr hn hLL e2
    · -- it calls
      obtain ⟨hcx, hr2⟩ := hslot_x ⟨c, hcls, hslot⟩ hp hs
      subst hr2
      rw [hcls] at hcx
      cases hcx
      obtain ⟨b0, b1, hHr⟩ := xOf_two hx
      have m0 : r ∈ d.slots := by rw [hs]; simp
      have m1 : r + 1 ∈ d.slots := by rw [hs]; simp
      obtain ⟨μ, hμ, hw, hμw, hat⟩ := hh.at'
      have u0 : h[base + r]? = some (some Blk.unb) := (hat _ (by have := hsl r m0; omega)).1 ⟨q, d, r, hq, m0, rfl, hn⟩
      have u1 : h[base + r + 1]? = some (some Blk.unb) := (hat _ (by have := hsl _ m1; omega)).1 ⟨q, d, r + 1, hq, m1, rfl, hn⟩
      have hex : evs (evT C.G (S q).t) xs = evs (evT C.G t) xs := List.map_congr_left fun X hX => hev X (by rw [hp]; exact hX)
      rw [hex] at hx
      refine wpOpIn_mono (fun a' w' hv' => ⟨_, _, hv', by rw [← hvq]; exact htm, ?_⟩) (step_x hF hdo hio hco hp (s := ⟨t, h⟩) u0 u1 hgt hx hfc hv)
      refine hp_other hd hc h0 h00 hcl hh hq (nowr (by simp) (by simp) (by simp)) hr hn hLL setX_len (fun k hk => ?_) fun r' hs' => ?_
      · have h1 := hk r m0
        have h2 := hk (r + 1) m1
        exact setX_ne h1 (by omega)
      · have h1 := (List.getElem?_eq_some_iff.1 u0).1
        have h2 := (List.getElem?_eq_some_iff.1 u1).1
        have h3 : base + r + 1 < (S q).h.length := by rw [clen hd hc h00 q (by omega)]; have := hsl _ m1; omega
        rw [hhq, hHr]
        simp only [setX]
        rw [hs] at hs'
        rcases (by simpa using hs' : r' = r ∨ r' = r + 1) with rfl | rfl
        · rw [List.getElem?_set, if_neg (by omega), List.getElem?_set, if_pos rfl, if_pos h1, List.getElem?_set, if_neg (by omega), List.getElem?_set, if_pos rfl, if_pos (by omega)]
        · rw [← Nat.add_assoc, List.getElem?_set, if_pos rfl, if_pos (by simpa using h2), List.getElem?_set, if_pos rfl, if_pos (by simpa using h3)]
theorem all_drw (hd : DrwOk ops R ml nA tot l) (hc : CanD C E base l s0 vs S) (h00 : s0.h.length = base + tot) {LL : Nat → Prop} (hall : ∀ i, i < nA → LL i) {t : Tr} {h : Heap} (ht : TmOk l s0 vs LL t) (hh : HpOk l base tot S LL h) {a : Act} {w : World} (hv : Inv C En nt ⟨t, h⟩ a w) : Inv C En nt (S l.length) a w := by
  have hx : ∀ (q : Nat) (d : DOp), l[q]? = some d → LL d.i := fun q d hq => hall _ (hd.self q d hq).1
  obtain ⟨μ, hμ, hw, hμw, hat⟩ := hh.at'
  have e1 : μ = l.length := by
    rcases hμw with h1 | ⟨d, hdq, hwd⟩
    · exact h1
    · have := (hw μ d hdq hwd).2 (hx μ d hdq)
      omega
  subst e1
  have e2 : h = (S l.length).h := List.ext_getElem? fun k => by
    rcases Nat.lt_or_ge k (base + tot) with hk | hk
    · refine (hat k hk).2 ?_
      rintro ⟨q, d, r, hq, _, _, hL⟩
      exact hL (hx q d hq)
    · rw [List.getElem?_eq_none (by rw [hh.len]; exact hk), List.getElem?_eq_none (by rw [clen hd hc h00 _ (Nat.le_refl _)]; exact hk)]
  subst e2
  obtain ⟨i1, i2⟩ := T_chD hd hc l.length (Nat.le_refl _)
  have e3 : ∀ p, Tr.get p t = Tr.get p (S l.length).t := fun p => by
    by_cases h : ∃ (q : Nat) (d : DOp), l[q]? = some d ∧ d.m.dst = some p
    · obtain ⟨q, d, hq, hp⟩ := h
      rw [ht.new q d p hq (hx q d hq) hp, i1 q d p (List.getElem?_eq_some_iff.1 hq).1 hq hp]
    · rw [ht.old p fun q d hq _ hp => h ⟨q, d, hq, hp⟩, i2 p fun q d _ hq hp => h ⟨q, d, hq, hp⟩]
  obtain ⟨Z, φ, hs, hS, hm⟩ := hv
  exact ⟨Z, φ, ⟨hs.h, hs.g, hs.b, hs.sz, fun j => by rw [← e3]; exact hs.t j⟩, hS, hm⟩
end
end Go.Ab
namespace Go.Ab
open Go.RowKit
variable {C : Cfg} {E : Ev} {md : Nat → Bool}
section
variable {F : Fence} {n : Nat} {En : Ent} {nt : Nat} {ops : Array Oper} {ml : List MOp} {nA tot base : Nat} {l : List DOp} {s0 : St} {vs : Nat → AV} {S : Nat → St}
def JD (C : Cfg) (E : Ev) (En : Ent) (nt : Nat) (ml : List MOp) (nA base tot : Nat) (l : List DOp) (s0 : St) (vs : Nat → AV) (S : Nat → St) (K : KT) (listed : Array Bool) (a : Act) (w : World) : Prop :=
  ((∀ i, nA ≤ i → ¬ L listed i) ∧ ∃ t h, Inv C En nt ⟨t, h⟩ a w ∧ TmOk l s0 vs (L listed) t ∧ HpOk l base tot S (L listed) h) ∨
  (∃ k, nA ≤ k ∧ (∀ i, L listed i ↔ i < k) ∧ ∃ s', (runOps C E (ml.drop k) s' K).holds ∧ Inv C En nt s' a w)
theorem drw_any (hF : WF F) (hE : EvCalls C E) (hX : XGoal C E) (hR : ∀ l, F.round = some l → ∃ r, En.w.heap[l]? = some (.loop r)) (hcomp : compOs C.P md nt ops ops.toList = some ml) (hd : DrwOk ops (Reach ops) ml nA tot l) (hdall : ∀ i, i < nA → ∃ (q : Nat) (d : DOp), l[q]? = some d ∧ d.i = i) (hc : CanD C E base l s0 vs S) (hu0 : ∀ r, r < tot → s0.h[base + r]? = some (some Blk.unb)) (h00 : s0.h.length = base + tot) {K : KT}
    (hrest : (runOps C E (ml.drop nA) (S l.length) K).holds) :
    ∀ (fuel : Nat) (listed : Array Bool) (a : Act) (w : World), listed.size = ops.size → Closed ops listed → cnt ops.size (fun i => !listed.getD i false) = fuel → JD C E En nt ml nA base tot l s0 vs S K listed a w → wpAnyIn F n C.P .any ops (PostK C En nt K) fuel listed a w := by
  have hml := (compOs_get hcomp).1
  have done : ∀ (listed : Array Bool) (a : Act) (w : World), (∀ i, i < ops.size → L listed i) → listed.size = ops.size → JD C E En nt ml nA base tot l s0 vs S K listed a w → PostK C En nt K .normal a w := by
    intro listed a w hall hsz hj
    rcases hj with ⟨hno, t, h, hv, htm, hhp⟩ | ⟨k, hk, hlk, s', hr, hv⟩
    · have hn : nA = ops.size := by
        rcases Nat.lt_or_ge nA ops.size with h | h
        · exact absurd (hall nA h) (hno nA (Nat.le_refl _))
        · have := hd.le; omega
      have hv := all_drw hd hc h00 (fun i hi => hall i (by omega)) htm hhp hv
      rw [List.drop_eq_nil_of_le (by simp at hml; omega)] at hrest
      exact PostK.normal hrest hv
    · have hkn : ops.size ≤ k := by
        rcases Nat.lt_or_ge k ops.size with h | h
        · have := (hlk k).1 (hall k h); omega
        · exact h
      rw [List.drop_eq_nil_of_le (by simp at hml; omega)] at hr
      exact PostK.normal hr hv
  have noready : ∀ (listed : Array Bool), listed.size = ops.size → Region.ready .any ops listed = [] → ∀ i, i < ops.size → L listed i := by
    intro listed hsz hnil i
    induction i using Nat.strongRecOn with
    | _ i ih =>
      intro hi
      rcases Classical.em (L listed i) with h | h
      · exact h
      · exfalso
        have : i ∈ Region.ready .any ops listed := by
          refine mem_ready.2 ⟨?_, ops[i], Array.getElem?_eq_getElem hi, fun e he hb => ?_⟩
          · unfold L at h
            have hlt : i < listed.size := by omega
            simp [hlt] at h ⊢
            exact h
          · have := hd.lt i ops[i] e (Array.getElem?_eq_getElem hi) he hb
            exact ih e.on this (by omega)
        rw [hnil] at this
        cases this
  intro fuel
  induction fuel with
  | zero =>
    intro listed a w hsz hcl hcnt hj
    have hall : ∀ i, i < ops.size → L listed i := fun i hi => by
      have := cnt_zero hcnt i hi
      unfold L
      simpa using this
    refine ⟨?_, done listed a w hall hsz hj⟩
    cases hr : Region.ready .any ops listed with
    | nil => rfl
    | cons i l =>
      exfalso
      have hi : i ∈ Region.ready .any ops listed := by rw [hr]; simp
      obtain ⟨h0, o, ho, _⟩ := mem_ready.1 hi
      have hlt := (Array.getElem?_eq_some_iff.1 ho).1
      have := hall i hlt
      unfold L at this
      have hlt' : i < listed.size := by omega
      simp [hlt'] at h0 this
      rw [h0] at this
      cases this
  | succ fuel ih =>
    intro listed a w hsz hcl hcnt hj
    refine ⟨fun hnil => done listed a w (noready listed hsz hnil) hsz hj, fun i hi => ?_⟩
    obtain ⟨h0, o, ho, _⟩ := mem_ready.1 hi
    have hlt := (Array.getElem?_eq_some_iff.1 ho).1
    have hnot : ¬ L listed i := by
      unfold L
      have hlt' : i < listed.size := by omega
      simp [hlt'] at h0 ⊢
      exact h0
    have hcnt' : cnt ops.size (fun j => !(listed.setIfInBounds i true).getD j false) = fuel := by
      have := cnt_less (f := fun j => !listed.getD j false) (g := fun j => !(listed.setIfInBounds i true).getD j false) (i := i) (n := ops.size) hlt (by unfold L at hnot; simpa using hnot) (by
        have : L (listed.setIfInBounds i true) i := L_set.2 (.inl ⟨rfl, by omega⟩)
        unfold L at this
        rw [this]
        rfl) (fun j hj => by rw [getD_set_ne false (fun e => hj e.symm)])
      omega
    have go : ∀ a' w', JD C E En nt ml nA base tot l s0 vs S K (listed.setIfInBounds i true) a' w' → wpAnyIn F n C.P .any ops (PostK C En nt K) fuel (listed.setIfInBounds i true) a' w' := fun a' w' hj' =>
      ih _ a' w' (by simp [hsz]) (closed_set hcl hi) hcnt' hj'
    have hcomp_i : ∃ m, ml[i]? = some m ∧ compO C.P md nt ops o = some m := (compOs_get hcomp).2 i o (by simpa using ho)
    obtain ⟨m, hm, hcm⟩ := hcomp_i
    have hdrop : ml.drop i = m :: ml.drop (i + 1) := by
      obtain ⟨h1, h2⟩ := List.getElem?_eq_some_iff.1 hm
      rw [List.drop_eq_getElem_cons h1, h2]
    rcases hj with ⟨hno, t, h, hv, htm, hhp⟩ | ⟨k, hk, hlk, s', hr, hv⟩
    · rcases Nat.lt_or_ge i nA with hiA | hiA
      · obtain ⟨q, d, hq, hqi⟩ := hdall i hiA
        subst hqi
        refine wpOpIn_mono (fun a' w' h' => go a' w' ?_) (step_drw (LL' := L (listed.setIfInBounds d.i true)) hF hE hcomp hd hc hu0 h00 (fun i j hr hL => closed_reach hcl hr hL) htm hhp hq (fun j hr => ready_reach hcl hr hi) hnot (fun j => by
          rw [L_set]
          constructor
          · rintro (⟨h, _⟩ | h)
            · exact .inl h
            · exact .inr h
          · rintro (h | h)
            · exact .inl ⟨h, by omega⟩
            · exact .inr h) hv)
        obtain ⟨t', h2, hv', ht', hh'⟩ := h'
        refine .inl ⟨fun j hj hLj => ?_, t', h2, hv', ht', hh'⟩
        rcases L_set.1 hLj with ⟨h, _⟩ | h
        · omega
        · exact hno j hj h
      · have hall : ∀ j, j < i → L listed j := fun j hj => ready_reach hcl (hd.wait i j hiA hlt hj) hi
        have hin : i = nA := by
          rcases Nat.lt_or_ge nA i with h | h
          · exact absurd (hall nA h) (hno nA (Nat.le_refl _))
          · omega
        subst hin
        have hv := all_drw hd hc h00 (fun j hj => hall j hj) htm hhp hv
        rw [hdrop] at hrest
        refine wpOpIn_mono (fun a' w' h' => go a' w' ?_) (step_op hF hE hX hR (compOs_dst hcomp) ho hcm hrest hv)
        refine .inr ⟨i + 1, by omega, fun j => ?_, h'⟩
        rw [L_set]
        constructor
        · rintro (⟨h, _⟩ | h)
          · omega
          · rcases Nat.lt_or_ge j i with h' | h'
            · omega
            · exact absurd h (hno j h')
        · intro h
          rcases Nat.lt_or_ge j i with h' | h'
          · exact .inr (hall j h')
          · exact .inl ⟨by omega, by omega⟩
    · have hik : i = k := by
        have h1 : ¬ i < k := fun h => hnot ((hlk i).2 h)
        rcases Nat.lt_or_ge k i with h | h
        · have := ready_reach hcl (hd.wait i k (by omega) hlt h) hi
          have := (hlk k).1 this
          omega
        · omega
      subst hik
      rw [hdrop] at hr
      refine wpOpIn_mono (fun a' w' h' => go a' w' ?_) (step_op hF hE hX hR (compOs_dst hcomp) ho hcm hr hv)
      refine .inr ⟨i + 1, by omega, fun j => ?_, h'⟩
      rw [L_set, hlk]
      constructor
      · rintro (⟨h, _⟩ | h) <;> omega
      · intro h
        rcases Nat.lt_or_ge j i with h' | h'
        · exact .inr (by omega)
        · exact .inl ⟨by omega, by omega⟩
theorem region_drw (hF : WF F) (hD : DetE E) (hE : EvCalls C E) (hX : XGoal C E) (hR : ∀ l, F.round = some l → ∃ r, En.w.heap[l]? = some (.loop r)) {id : Nat} (hf : C.P.follows .mixedOrders = true) (hcomp : compOs C.P md nt ops ops.toList = some ml) {mc : MC} (hm : compDrw ops ml = some mc) {n0 : Nat} {s : St} {K : KT} (h : (exB C E n0 mc s K).holds) {a : Act} {w : World} (hv : Inv C En nt s a w) :
    (Code.region id ops true).wpIn F n C.P (PostK C En nt K) a w := by
  unfold compDrw at hm
  dsimp only at hm
  split at hm
  · rename_i l tot hmk
    split at hm
    · rename_i hok
      cases hm
      obtain ⟨hd, hdall⟩ := drw_spec hok hmk
      simp only [exB] at h
      obtain ⟨vs, S, hcan, hrest⟩ := canD hD l _ _ h
      have empty : ∀ i, ¬ L (Array.replicate ops.size false) i := fun i hi => by
        unfold L at hi
        rcases Nat.lt_or_ge i ops.size with h | h
        · simp [h] at hi
        · simp [h] at hi
      have h00 : (s.h ++ List.replicate tot (some Blk.unb)).length = s.h.length + tot := by simp
      have h0 : ∀ r, r < tot → (s.h ++ List.replicate tot (some Blk.unb))[s.h.length + r]? = some (some Blk.unb) := fun r hr => by
        rw [List.getElem?_append_right (by omega), show s.h.length + r - s.h.length = r by omega]
        simp [hr]
      refine wpIn_region_any hf (drw_any hF hE hX hR hcomp hd hdall hcan h0 h00 hrest ops.size _ a _ (by simp) (fun j o e hj => absurd hj (empty j)) ?_ (.inl ⟨fun i _ hi => empty i hi, s.t, s.h ++ List.replicate tot (some Blk.unb), ?_, ⟨fun q d p _ hL => absurd hL (empty _), fun p _ => rfl⟩, ?_⟩))
      · rw [cnt_congr (g := fun _ => true) fun i hi => by simp [hi]]
        exact cnt_all _
      · obtain ⟨Z, φ, hs, hS, hm⟩ := hv
        have hst : Stays w { w with drawn := w.drawn + 1 } := (Below.refl _ _).drew
        have W := Way.stays (Z' := Z) hs.h hs.b hst (fun _ h => h) (fun _ h => .inl h)
        exact pad_inv tot (s := s) ⟨Z, φ, ⟨hs.h.stays hst (fun _ h => h) (fun _ h => .inl h), hs.g.go W.z1 W.o, hs.b, hs.sz, fun j => (hs.t j).tra W.t⟩, hS.way W, hm.go W.z1 W.o⟩
      · obtain ⟨μ, h1, h2, h3, h4⟩ := next_wr l l.length 0 (by omega)
        refine ⟨h00, μ, h2, fun q d hq hw => ⟨fun hlt => absurd hw (h4 q d (by omega) hlt hq), fun hL => absurd hL (empty _)⟩, h3, fun k hk => ⟨?_, fun hu => ?_⟩⟩
        · rintro ⟨q, d, r, hq, hs, rfl, _⟩
          exact h0 r ((hd.self q d hq).2.2.1 r hs)
        · have := cstay hd hcan (k := k) μ 0 (by omega) fun q' d' h5 h6 hq' => ⟨h4 q' d' h5 (by omega) hq', fun r hs e => hu ⟨q', d', r, hq', hs, e.symm, empty _⟩⟩
          rw [Nat.zero_add] at this
          rw [this, hcan.zero]
    · cases hm
  · cases hm
end
end Go.Ab
namespace Go.Ab
open Go.RowKit
variable {C : Cfg} {E : Ev} {md : Nat → Bool}
abbrev insM (p : Ps) (s : List UInt8) (v : Ps) : MOp := ⟨none, none, .m (.mset true (.t p) (.k (.c (.p (.str s)))) (.t v))⟩
theorem insU_spec {m : MOp} {p v : Ps} {s : List UInt8} (h : insU m = some (p, s, v)) : m = insM p s v := by
  unfold insU at h
  split at h
  · cases h; rfl
  · cases h
theorem insU_ins (p v : Ps) (s : List UInt8) : insU (insM p s v) = some (p, s, v) := rfl
theorem isMkm_spec {p : Ps} {d : DOp} (h : isMkm p d = true) : d.m = ⟨some p, none, .m .mkm⟩ := by
  unfold isMkm at h
  split at h
  · rename_i q hm
    rw [psEq_spec] at h
    subst h
    exact hm
  · cases h
theorem insOps_mem {ml : List MOp} : ∀ {us : List Nat} {m : MOp}, m ∈ insOps ml us → ∃ u ∈ us, ml[u]? = some m
  | [], m, h => by cases h
  | i :: l, m, h => by
    simp only [insOps] at h
    split at h
    · rename_i m' hm
      rcases List.mem_cons.1 h with rfl | h
      · exact ⟨i, by simp, hm⟩
      · obtain ⟨u, hu, e⟩ := insOps_mem h
        exact ⟨u, List.mem_cons_of_mem _ hu, e⟩
    · obtain ⟨u, hu, e⟩ := insOps_mem h
      exact ⟨u, List.mem_cons_of_mem _ hu, e⟩
theorem nodupK_spec : ∀ {l : List (List UInt8)}, nodupK l = true → l.Nodup
  | [], _ => List.nodup_nil
  | s :: l, h => by
    simp only [nodupK, Bool.and_eq_true, Bool.not_eq_true'] at h
    refine List.nodup_cons.2 ⟨fun hm => ?_, nodupK_spec h.2⟩
    have := h.1
    rw [List.contains_iff_mem.2 hm] at this
    cases this
structure InsOk (ops : Array Oper) (ml : List MOp) (nA tot : Nat) (l : List DOp) (us : List Nat) (p : Ps) (r0 q0 : Nat) (d0 : DOp) : Prop where
  d : DrwOk ops (Reach ops) ml nA tot l
  all : ∀ i, i < nA → i ∈ us ∨ ∃ (q : Nat) (d : DOp), l[q]? = some d ∧ d.i = i
  q0 : l[q0]? = some d0
  m0 : d0.m = ⟨some p, none, .m .mkm⟩
  s0 : d0.slots = [r0]
  cls : ∀ (q : Nat) (d : DOp), l[q]? = some d → ¬ wrD d ∧ (clsOf d.m = some .r → r0 ∈ d.mask)
  ins : ∀ u ∈ us, u < nA ∧ (∀ (q : Nat) (d : DOp), l[q]? = some d → d.i ≠ u) ∧ ∃ s v, ml[u]? = some (insM p s v) ∧ ∀ (q : Nat) (d : DOp), l[q]? = some d → (d.m.dst = some v ∨ d.m.dst = some p) → Reach ops d.i u
  keys : (insKeys (insOps ml us)).Nodup
theorem ins_spec {ops : Array Oper} {ml : List MOp} {nA tot : Nat} {l : List DOp} {us : List Nat} {p : Ps} (h : insOk ops ml nA tot l us p = true) {ord : List Nat} (hm : mkD (clo ops.toList []) ml ord 0 [] [] = some (l, tot)) : ∃ r0 q0 d0, InsOk ops ml nA tot l us p r0 q0 d0 := by
  have hcl : ∀ j i, i ∈ (clo ops.toList []).getD j [] → Reach ops i j := clo_reach (fun q => by simp) (fun j i hi => by simp at hi)
  unfold insOk at h
  simp only [Bool.and_eq_true, decide_eq_true_eq] at h
  obtain ⟨⟨⟨⟨⟨⟨⟨⟨h1, h2⟩, h3⟩, h5⟩, h6⟩, h4⟩, h7⟩, h8⟩, h9⟩ := h
  have hd : DrwOk ops (Reach ops) ml nA tot l := by
    refine ⟨h1, fun i o e ho he hb => ?_, fun i j hi hin hj => ?_, fun q d hq => ?_, fun q q' d d' hlt hq hq' => pair_spec hcl (pairs_spec h6 q q' d d' hlt hq hq')⟩
    · have hlt : i < ops.size := (Array.getElem?_eq_some_iff.1 ho).1
      have := List.all_eq_true.1 h2 i (List.mem_range.2 hlt)
      rw [ho] at this
      simp only [List.all_eq_true, Bool.or_eq_true, Bool.not_eq_true', decide_eq_true_eq] at this
      rcases this e (by simpa using he) with h | h
      · rw [hb] at h; cases h
      · exact h
    · have := List.all_eq_true.1 h3 i (List.mem_range.2 hin)
      simp only [Bool.or_eq_true, decide_eq_true_eq] at this
      rcases this with h | h
      · omega
      · have := List.all_eq_true.1 h j (List.mem_range.2 hj)
        exact hcl _ _ (by simpa using this)
    · have hs := all_get h5 hq
      unfold selfB at hs
      simp only [Bool.and_eq_true, decide_eq_true_eq, Bool.not_eq_true'] at hs
      have hmm := mkD_spec hm d (List.mem_of_getElem? hq)
      refine ⟨hs.1.1, fun p hp => ?_, fun r hr => ?_, hmm.1, hmm.2⟩
      · have := hs.1.2
        rw [hp] at this
        exact this
      · simpa using List.all_eq_true.1 hs.2 r hr
  split at h9
  · rename_i d0 hf
    split at h9
    · rename_i r0 hs0
      have hd0 := isMkm_spec (List.find?_some hf)
      obtain ⟨q0, hq0, hq0'⟩ := List.getElem_of_mem (List.mem_of_find?_eq_some hf)
      refine ⟨r0, q0, d0, hd, fun i hi => ?_, by rw [List.getElem?_eq_getElem hq0, hq0'], hd0, hs0, fun q d hq => ?_, fun u hu => ?_, nodupK_spec h8⟩
      · have := List.all_eq_true.1 h4 i (List.mem_range.2 hi)
        simp only [Bool.or_eq_true, List.any_eq_true, beq_iff_eq] at this
        rcases this with h | ⟨d, hd, rfl⟩
        · exact .inl (by simpa using h)
        · obtain ⟨q, hq, rfl⟩ := List.getElem_of_mem hd
          exact .inr ⟨q, _, by simp [hq], rfl⟩
      · have := all_get h9 hq
        refine ⟨fun hw => ?_, fun hc => ?_⟩
        · rcases hw with hw | hw | hw <;> rw [hw] at this <;> cases this
        · rw [hc] at this
          simpa using this
      · have := List.all_eq_true.1 h7 u hu
        simp only [Bool.and_eq_true, decide_eq_true_eq] at this
        obtain ⟨⟨g1, g2⟩, g3⟩ := this
        refine ⟨g1, fun q d hq => by simpa using all_get g2 hq, ?_⟩
        split at g3
        · rename_i m hm
          split at g3
          · rename_i q s v hi
            simp only [Bool.and_eq_true] at g3
            obtain ⟨e, g4⟩ := g3
            rw [psEq_spec] at e
            subst e
            refine ⟨s, v, by rw [hm, insU_spec hi], fun q' d hq hx => ?_⟩
            have := all_get g4 hq
            rcases hx with hx | hx <;> rw [hx] at this <;> simp only [Bool.or_eq_true, Bool.and_eq_true, Bool.not_eq_true'] at this <;> rcases this with ⟨e1, e2⟩ | e
            · rw [psEq_spec.2 rfl] at e1; cases e1
            · exact hcl _ _ (by simpa using e)
            · rw [psEq_spec.2 rfl] at e2; cases e2
            · exact hcl _ _ (by simpa using e)
          · cases g3
        · cases g3
    · cases h9
  · cases h9
theorem put_new {s : List UInt8} {c : CV} : ∀ {l : List (PV × CV)}, (∀ x ∈ l, ∃ b, x.1 = .str b ∧ b ≠ s) → mpPut (.str s) c l = some (l ++ [(.str s, c)])
  | [], _ => rfl
  | (q, c0) :: l, h => by
    obtain ⟨b, e, hne⟩ := h (q, c0) (by simp)
    simp only at e
    subst e
    have hb : (s == b) = false := by simpa using fun e => hne e.symm
    simp only [mpPut, keyEq, hb, put_new (l := l) fun x hx => h x (List.mem_cons_of_mem _ hx), List.cons_append]
theorem opMz_ins {H : Heap} {ev : Opd → AV} {x i v : Opd} {K : AV → Heap → VC} : opMz H ev (.mset true x i v) K = opM H ev (.mset true x i v) K := rfl
theorem opMz_frz {H : Heap} {ev : Opd → AV} {x : Opd} {K : AV → Heap → VC} : opMz H ev (.frz x) K = opM H ev (.frz x) K := rfl
theorem ins_chain {p : Ps} {k0 : Nat} {t : Tr} {K : KT} {rest : List MOp} (hp : Tr.get p t = .c (.ref k0)) : ∀ (um : List MOp) (la : List (PV × CV)) (H : Heap), (∀ m ∈ um, ∃ s v, m = insM p s v) → H[k0]? = some (some (.mp la)) →
    (∀ x ∈ la, ∃ b, x.1 = .str b ∧ ∀ s ∈ insKeys um, b ≠ s) → (insKeys um).Nodup → (runOps C E (um ++ rest) ⟨t, H⟩ K).holds →
    ∃ le : List (PV × CV), le.map (·.1) = (insKeys um).map .str ∧ (∀ m ∈ um, ∃ s v c, m = insM p s v ∧ (.str s, c) ∈ le ∧ Tr.get v t = .c c) ∧ (runOps C E rest ⟨t, H.set k0 (some (.mp (la ++ le)))⟩ K).holds
  | [], la, H, _, hk, _, _, h => by
      refine ⟨[], rfl, (fun m hm => by cases hm), ?_⟩
      have e : H.set k0 (some (.mp (la ++ []))) = H := by
        rw [List.append_nil]
        refine List.ext_getElem? fun q => ?_
        rw [List.getElem?_set]
        split
        · rename_i e
          subst e
          rw [hk, if_pos (List.getElem?_eq_some_iff.1 hk).1]
        · rfl
      rw [e]; exact h
  | m :: um, la, H, hm, hk, hl, hn, h => by
    obtain ⟨s, v, rfl⟩ := hm m (by simp)
    have hkeys : insKeys (insM p s v :: um) = s :: insKeys um := rfl
    rw [hkeys] at hl hn
    rw [List.nodup_cons] at hn
    rw [List.cons_append] at h
    have hput : ∀ c, mpPut (.str s) c la = some (la ++ [(.str s, c)]) := fun c => put_new fun x hx => let ⟨b, e, h⟩ := hl x hx; ⟨b, e, h s (by simp)⟩
    have hv : ∃ c, Tr.get v t = .c c ∧ (runOps C E (um ++ rest) ⟨t, H.set k0 (some (.mp (la ++ [(.str s, c)])))⟩ K).holds := by
      have h : (opMz H (evT C.G t) (.mset true (.t p) (.k (.c (.p (.str s)))) (.t v)) fun x h => runOps C E (um ++ rest) ⟨putT t none x, h⟩ K).holds := h
      rw [opMz_ins] at h
      simp only [opM, evT, hp] at h
      cases hg : Tr.get v t with
      | c c =>
        rw [hg] at h
        simp only [hk, keyOk, hput] at h
        exact ⟨c, rfl, h⟩
      | ag l => rw [hg] at h; exact False.elim h
      | tp l => rw [hg] at h; exact False.elim h
      | any => rw [hg] at h; exact False.elim h
    obtain ⟨c, hc, h⟩ := hv
    have hlt := (List.getElem?_eq_some_iff.1 hk).1
    obtain ⟨le, h1, h2, h3⟩ := ins_chain hp um (la ++ [(.str s, c)]) (H.set k0 (some (.mp (la ++ [(.str s, c)])))) (fun m hx => hm m (List.mem_cons_of_mem _ hx)) (by rw [List.getElem?_set, if_pos rfl, if_pos hlt])
      (fun x hx => by
        rcases List.mem_append.1 hx with hx | hx
        · obtain ⟨b, e, hb⟩ := hl x hx
          exact ⟨b, e, fun s' hs => hb s' (List.mem_cons_of_mem _ hs)⟩
        · simp only [List.mem_singleton] at hx
          subst hx
          exact ⟨s, rfl, fun s' hs e => hn.1 (e ▸ hs)⟩) hn.2 h
    refine ⟨(.str s, c) :: le, by rw [List.map_cons, h1]; rfl, fun m' hm' => ?_, ?_⟩
    · rcases List.mem_cons.1 hm' with rfl | hm'
      · exact ⟨s, v, c, rfl, by simp, hc⟩
      · obtain ⟨s', v', c', e1, e2, e3⟩ := h2 m' hm'
        exact ⟨s', v', c', e1, List.mem_cons_of_mem _ e2, e3⟩
    · rw [List.set_set, List.append_assoc] at h3
      exact h3
section
variable {F : Fence} {n : Nat} {En : Ent} {nt : Nat}
theorem mpp_close {t : Tr} {H : Heap} {a : Act} {w : World} {k0 : Nat} {l0 lb : List (PV × CV)} (hv : Inv C En nt ⟨t, H⟩ a w) (hk : H[k0]? = some (some (.mp l0))) (hp : l0.Perm lb) (hS : StrK lb) : Inv C En nt ⟨t, H.set k0 (some (.mpp lb))⟩ a w := by
  obtain ⟨Z, φ, hs, hS', hm⟩ := hv
  obtain ⟨r, es, clock, e1, hh, hsz, hall⟩ := hs.h.blk k0 _ hk
  have hgo : own? (φ k0) = some r := by rw [e1]; rfl
  obtain ⟨S, T⟩ := set_sim (H0 := H) (b1 := .mpp lb) (w' := w) hs.h hk hgo rfl (fun _ _ h => h) (Nat.le_refl _) (fun j hj => rfl) ⟨fun _ _ _ _ _ h => (by cases h), fun _ _ h => (by cases h), (fun h => by cases h)⟩
    (fun q b' hq hb' hg => by
      rcases hs.h.inj q k0 b' _ r hb' hk hg hgo with h | h
      · exact hq h
      · cases b' <;> exact h)
    (fun T => ⟨l0, hp, hS, r, es, clock, e1, hh, hsz, fun i p c hi => let ⟨e, he, q1, q2⟩ := hall i p c hi; ⟨e, he, q1, T.2 _ _ q2⟩⟩)
  have W : Way En.O w w Z Z H (H.set k0 (some (.mpp lb))) φ φ := ⟨Keeps.refl _ _, fun _ h => h, fun _ h => .inl h, T, fun _ _ => rfl⟩
  exact ⟨Z, φ, ⟨S, hs.g, hs.b, hs.sz, hs.t.tra T⟩, hS'.way W, hm⟩
end
theorem insKeys_mem : ∀ {um : List MOp} {s : List UInt8}, s ∈ insKeys um → ∃ p v, insM p s v ∈ um
  | [], s, h => by cases h
  | m :: um, s, h => by
    simp only [insKeys] at h
    split at h
    · rename_i p s' v hm
      rcases List.mem_cons.1 h with rfl | h
      · exact ⟨p, v, by rw [insU_spec hm]; simp⟩
      · obtain ⟨p, v, hh⟩ := insKeys_mem h
        exact ⟨p, v, List.mem_cons_of_mem _ hh⟩
    · obtain ⟨p, v, hh⟩ := insKeys_mem h
      exact ⟨p, v, List.mem_cons_of_mem _ hh⟩
theorem mem_insKeys {p v : Ps} {s : List UInt8} : ∀ {um : List MOp}, insM p s v ∈ um → s ∈ insKeys um
  | [], h => by cases h
  | m :: um, h => by
    simp only [insKeys]
    rcases List.mem_cons.1 h with e | h
    · subst e; simp [insU_ins]
    · have := mem_insKeys h
      split
      · exact List.mem_cons_of_mem _ this
      · exact this
theorem mem_insOps {ml : List MOp} {m : MOp} : ∀ {us : List Nat} {u : Nat}, u ∈ us → ml[u]? = some m → m ∈ insOps ml us
  | [], u, h, _ => by cases h
  | i :: l, u, h, hm => by
    simp only [insOps]
    rcases List.mem_cons.1 h with rfl | h
    · rw [hm]; simp
    · have := mem_insOps h hm
      split
      · exact List.mem_cons_of_mem _ this
      · exact this
theorem keys_inj {ml : List MOp} {p p' v v' : Ps} {s : List UInt8} : ∀ {us : List Nat}, (insKeys (insOps ml us)).Nodup → ∀ {u u' : Nat}, u ∈ us → u' ∈ us → ml[u]? = some (insM p s v) → ml[u']? = some (insM p' s v') → u = u'
  | [], _, u, u', h, _, _, _ => by cases h
  | i :: l, hn, u, u', h, h', hm, hm' => by
    have tail : (insKeys (insOps ml l)).Nodup := by
      simp only [insOps] at hn
      split at hn
      · simp only [insKeys] at hn
        split at hn
        · exact (List.nodup_cons.1 hn).2
        · exact hn
      · exact hn
    have head : ∀ {q w : Ps} {x : Nat}, ml[i]? = some (insM q s w) → x ∈ l → ∀ {q' w' : Ps}, ml[x]? = some (insM q' s w') → False := fun {q w x} hi hx {q' w'} hxm => by
      simp only [insOps, hi, insKeys, insU_ins] at hn
      exact (List.nodup_cons.1 hn).1 (mem_insKeys (mem_insOps hx hxm))
    rcases List.mem_cons.1 h with e | hx <;> rcases List.mem_cons.1 h' with e' | hx'
    · rw [e, e']
    · exact (head (e ▸ hm) hx' hm').elim
    · exact (head (e' ▸ hm') hx hm).elim
    · exact keys_inj tail hx hx' hm hm'
section
variable {F : Fence} {n : Nat} {En : Ent} {nt : Nat}
variable {ops : Array Oper} {ml : List MOp} {nA tot base : Nat} {l : List DOp} {s0 : St} {vs : Nat → AV} {S : Nat → St} {us : List Nat} {p : Ps} {r0 q0 : Nat} {d0 : DOp}
theorem set_swap {H : Heap} {i j : Nat} {x y : Option Blk} (h : i ≠ j) : (H.set i x).set j y = (H.set j y).set i x := List.set_comm x y h
theorem ins_mk (hi : InsOk ops ml nA tot l us p r0 q0 d0) (hc : CanD C E base l s0 vs S) (h00 : s0.h.length = base + tot) : vs q0 = .c (.ref (base + r0)) ∧ (S l.length).h[base + r0]? = some (some (.mp [])) ∧ base + r0 < base + tot := by
  have hql := (List.getElem?_eq_some_iff.1 hi.q0).1
  have hr : r0 < tot := (hi.d.self q0 d0 hi.q0).2.2.1 r0 (by rw [hi.s0]; simp)
  have hlen := clen hi.d hc h00 q0 (by omega)
  have hst := (hc.step q0 d0 hi.q0).2
  have hk : vs q0 = .c (.ref (base + r0)) ∧ (S (q0 + 1)).h = (S q0).h.set (base + r0) (some (.mp [])) := by
    rcases hst with ⟨hg, _⟩ | ⟨_, ⟨p', hp, _⟩ | ⟨p', r, hp, hs, h⟩ | ⟨p', hp, hs, h⟩ | ⟨f, xs, r, r2, args, v0, Hr, hp, _⟩⟩
    · rw [hi.m0] at hg; cases hg
    · rw [hi.m0] at hp; cases hp
    · rw [hi.m0] at hp
      cases hp
      rw [hi.s0] at hs
      cases hs
      obtain ⟨e1, e2⟩ := h
      exact ⟨e1, by rw [e2, refill_snoc]⟩
    · rw [hi.s0] at hs; cases hs
    · rw [hi.m0] at hp; cases hp
  refine ⟨hk.1, ?_, by omega⟩
  have := cstay hi.d hc (k := base + r0) (l.length - (q0 + 1)) (q0 + 1) (by omega) fun q' d' h5 h6 hq' => ⟨(hi.cls q' d' hq').1, fun r hs e => by
    have : r0 = r := by omega
    subst this
    exact (hi.d.pair q0 q' d0 d' (by omega) hi.q0 hq').slot r0 (by rw [hi.s0]; simp) hs⟩
  rw [show q0 + 1 + (l.length - (q0 + 1)) = l.length by omega] at this
  rw [this, hk.2, List.getElem?_set, if_pos rfl, if_pos (by omega)]
theorem step_drwT (hF : WF F) (hE : EvCalls C E) (hcomp : compOs C.P md nt ops ops.toList = some ml) (hi : InsOk ops ml nA tot l us p r0 q0 d0) (hc : CanD C E base l s0 vs S) (h0 : ∀ r, r < tot → s0.h[base + r]? = some (some Blk.unb)) (h00 : s0.h.length = base + tot) {LL LL' : Nat → Prop} (hcl : ∀ i j, Reach ops i j → LL j → LL i)
    {t : Tr} {h : Heap} (ht : TmOk l s0 vs LL t) (hh : HpOk l base tot S LL h) {q : Nat} {d : DOp} (hq : l[q]? = some d) (hr : ∀ j, Reach ops j d.i → LL j) (hn : ¬ LL d.i) (hLL : ∀ j, LL' j ↔ j = d.i ∨ LL j) (hL0 : LL d0.i) {la : List (PV × CV)} {a : Act} {w : World} (hv : Inv C En nt ⟨t, h.set (base + r0) (some (.mp la))⟩ a w) {Q : Exit → Act → World → Prop} :
    wpOpIn F n C.P ops Q d.i (fun a' w' => ∃ t' h', Inv C En nt ⟨t', h'.set (base + r0) (some (.mp la))⟩ a' w' ∧ TmOk l s0 vs LL' t' ∧ HpOk l base tot S LL' h') a w := by
  have hd := hi.d
  have hql := (List.getElem?_eq_some_iff.1 hq).1
  obtain ⟨hin, hself, hsl, hml, c, hcls, hslot⟩ := hd.self q d hq
  have hlt : d.i < ops.size := by have := hd.le; omega
  obtain ⟨m', hm', hco⟩ := (compOs_get hcomp).2 d.i ops[d.i] (by simp [hlt])
  rw [hml] at hm'
  cases hm'
  have hio : ops[d.i]? = some ops[d.i] := Array.getElem?_eq_getElem hlt
  have hdo := compOs_dst hcomp
  have hwd := (hi.cls q d hq).1
  have apart : ∀ r, r ∈ d.slots → r ≠ r0 := fun r hs e => by
    subst e
    rcases Nat.lt_trichotomy q q0 with h1 | h1 | h1
    · exact (hd.pair q q0 d d0 h1 hq hi.q0).slot r hs (by rw [hi.s0]; simp)
    · subst h1
      rw [hi.q0] at hq
      cases hq
      exact hn hL0
    · exact (hd.pair q0 q d0 d h1 hi.q0 hq).slot r (by rw [hi.s0]; simp) hs
  have ag : ∀ p, looksP p d.m = true → Tr.get p t = Tr.get p (S q).t := fun p hp => agreeD hd hc hcl ht hq hr hn hp
  have hg : guardB t d.m.gd = guardB (S q).t d.m.gd := by
    cases hgd : d.m.gd with
    | none => rfl
    | some g =>
      obtain ⟨g, w⟩ := g
      simp only [guardB, ag g (looks_gd hgd)]
  have hev : ∀ X ∈ opdsO d.m.op, evT C.G (S q).t X = evT C.G t X := fun X hX => by
    cases X with
    | t p => simp only [evT]; exact (ag p (looks_op hX)).symm
    | k v => rfl
    | g x => rfl
  have htm := tm_step (vs := vs) hd hq hLL ht
  have hinv := cls_inv hcls
  have other : d.slots = [] → HpOk l base tot S LL' h := fun hs => hp_other hd hc h0 h00 hcl hh hq hwd hr hn hLL rfl (fun _ _ => rfl) (fun r hr' => by rw [hs] at hr'; cases hr')
  obtain ⟨μ, hμ, hw, hμw, hat⟩ := hh.at'
  have unb : ∀ r, r ∈ d.slots → h[base + r]? = some (some Blk.unb) := fun r hs => (hat _ (by have := hsl r hs; omega)).1 ⟨q, d, r, hq, hs, rfl, hn⟩
  have unbT : ∀ r, r ∈ d.slots → (h.set (base + r0) (some (.mp la)))[base + r]? = some (some Blk.unb) := fun r hs => by
    have := apart r hs
    rw [List.getElem?_set, if_neg (by omega)]
    exact unb r hs
  rcases (hc.step q d hq).2 with ⟨hgf, hvq, e⟩ | ⟨hgt, hrest⟩
  · rw [← hg] at hgf
    refine wpOpIn_mono (fun a' w' hv' => ⟨_, _, hv', by rw [← hvq]; exact htm, ?_⟩) (step_no hF hdo hio hco hgf hv)
    refine hp_other hd hc h0 h00 hcl hh hq hwd hr hn hLL rfl (fun _ _ => rfl) fun r hs => ?_
    rw [e, cunb hd hc h0 q (by omega) q d r (Nat.le_refl _) hq hs]
    exact unb r hs
  · rw [← hg] at hgt
    rcases hrest with ⟨p', hp, hop, e⟩ | ⟨p', r, hp, hs, hop⟩ | ⟨p', hp, hs, hop⟩ | ⟨f, xs, r, r2, args, v0, Hr, hp, hs, hx, hfc, hvq, hhq⟩
    · have hct : (c = .t ∧ isT p' = true) ∨ c = .r := by
        cases c with
        | t => obtain ⟨p', h', h2⟩ := hinv; rw [hp] at h'; cases h'; exact .inl ⟨rfl, h2⟩
        | r => exact .inr rfl
        | m => obtain ⟨p', h', _⟩ := hinv; rw [hp] at h'; cases h'
        | a => obtain ⟨p', h', _⟩ := hinv; rw [hp] at h'; cases h'
        | w => obtain ⟨_, h', _⟩ := hinv; rw [hp] at h'; cases h'
        | q => obtain ⟨_, _, h'⟩ := hinv; rw [hp] at h'; cases h'
        | x => obtain ⟨_, _, h'⟩ := hinv; rw [hp] at h'; cases h'
      have hop' : (opA C E (h.set (base + r0) (some (.mp la))) (evT C.G t) p' fun x => .pr (x = vs q)).holds := by
        rw [opA_congr (H := maskW (S q).t d.wm (maskH base d.mask (S q).h)) (ev' := evT C.G t) (fun X hX => hev X (by rw [hp]; exact hX))] at hop
        rcases hct with ⟨rfl, h2⟩ | rfl
        · rw [opA_T h2 _ (h.set (base + r0) (some (.mp la)))] at hop; exact hop
        · refine opA_le (fun k b hb hk => ?_) hop
          have h1 := heap_le hd hc h0 h00 hcl hh hq hcls hr hn k b hb hk
          have h2 := (maskH_get hb (maskW_get hb hk).1).2 r0 ((hi.cls q d hq).2 hcls)
          rw [List.getElem?_set, if_neg (fun e => h2 e.symm)]
          exact h1
      have hs : d.slots = [] := by rcases hct with ⟨rfl, _⟩ | rfl <;> exact hslot
      exact wpOpIn_mono (fun a' w' hv' => ⟨_, h, hv', htm, other hs⟩) (step_a hF hE hdo hio hco hp hgt hop' hv)
    · have hsr : r ∈ d.slots := by rw [hs]; simp
      have hmk : isMk p' = true ∧ c = .m ∧ isAp p' = false := by
        cases c with
        | t => obtain ⟨p', h', _⟩ := hinv; rw [hp] at h'; cases h'
        | r => obtain ⟨p', h'⟩ := hinv; rw [hp] at h'; cases h'
        | m => obtain ⟨p', h', h1, h2⟩ := hinv; rw [hp] at h'; cases h'; exact ⟨h1, rfl, h2⟩
        | a => exact absurd (.inl hcls) hwd
        | w => dsimp only at hslot; rw [hs] at hslot; cases hslot
        | q => dsimp only at hslot; rw [hs] at hslot; cases hslot
        | x => obtain ⟨_, _, h'⟩ := hinv; rw [hp] at h'; cases h'
      rw [opM_congr (ev' := evT C.G t) (fun X hX => hev X (by rw [hp]; exact hX))] at hop
      obtain ⟨v, b, ⟨hvq, hhq⟩, hM, hK, hre⟩ := made hmk.1 hop
      rw [refill_snoc] at hhq
      have hkn := kills_none (H := (S q).h) (ev := evT C.G t) hmk.2.2
      obtain ⟨v', hM', hrl, hK'⟩ := hre hkn hmk.2.2 (h.set (base + r0) (some (.mp la)))
      rw [hkn] at hhq
      have hne := apart r hsr
      refine wpOpIn_mono (fun a' w' hv' => ⟨putT t d.m.dst (vs q), h.set (base + r) (some b), ?_, htm, ?_⟩) (step_mk hF hdo hio hco hp (s := ⟨t, h.set (base + r0) (some (.mp la))⟩) (kk := none) (unbT r hsr) hgt hM' hK' hv)
      · rw [hrl, ← hvq] at hv'
        rw [set_swap (show base + r ≠ base + r0 by omega)]
        exact hv'
      · refine hp_other hd hc h0 h00 hcl hh hq hwd hr hn hLL (by simp) (fun k hk => ?_) fun r' hs' => ?_
        · rw [List.getElem?_set, if_neg (fun e => hk r hsr e.symm)]
        · rw [hs] at hs'
          obtain rfl : r' = r := by simpa using hs'
          have h1 := (List.getElem?_eq_some_iff.1 (unb r' hsr)).1
          have h2 : base + r' < (S q).h.length := by rw [clen hd hc h00 q (by omega)]; have := hsl r' hsr; omega
          rw [hhq]
          simp only [killO]
          rw [List.getElem?_set, List.getElem?_set, if_pos rfl, if_pos rfl, if_pos h1, if_pos h2]
    · exfalso
      cases c with
      | t => obtain ⟨p', h', _⟩ := hinv; rw [hp] at h'; cases h'
      | r => obtain ⟨p', h'⟩ := hinv; rw [hp] at h'; cases h'
      | m => obtain ⟨r, hr⟩ := hslot; rw [hs] at hr; cases hr
      | a => obtain ⟨r, hr⟩ := hslot; rw [hs] at hr; cases hr
      | w => exact hwd (.inr (.inl hcls))
      | q => exact hwd (.inr (.inr hcls))
      | x => obtain ⟨_, _, h'⟩ := hinv; rw [hp] at h'; cases h'
    · obtain ⟨hcx, hr2⟩ := hslot_x ⟨c, hcls, hslot⟩ hp hs
      subst hr2
      rw [hcls] at hcx
      cases hcx
      obtain ⟨b0, b1, hHr⟩ := xOf_two hx
      have m0 : r ∈ d.slots := by rw [hs]; simp
      have m1 : r + 1 ∈ d.slots := by rw [hs]; simp
      have n0 := apart r m0
      have n1 := apart (r + 1) m1
      have hex : evs (evT C.G (S q).t) xs = evs (evT C.G t) xs := List.map_congr_left fun X hX => hev X (by rw [hp]; exact hX)
      rw [hex] at hx
      refine wpOpIn_mono (fun a' w' hv' => ⟨putT t d.m.dst (vs q), setX (base + r) Hr h, ?_, htm, ?_⟩) (step_x hF hdo hio hco hp (s := ⟨t, h.set (base + r0) (some (.mp la))⟩) (unbT r m0) (unbT (r + 1) m1) hgt hx hfc hv)
      · have e : setX (base + r) Hr (h.set (base + r0) (some (.mp la))) = (setX (base + r) Hr h).set (base + r0) (some (.mp la)) := by
          rw [hHr]
          simp only [setX]
          rw [set_swap (show base + r0 ≠ base + r by omega), set_swap (show base + r0 ≠ base + r + 1 by omega)]
        rw [e, ← hvq] at hv'
        exact hv'
      · refine hp_other hd hc h0 h00 hcl hh hq hwd hr hn hLL setX_len (fun k hk => ?_) fun r' hs' => ?_
        · have h1 := hk r m0
          have h2 := hk (r + 1) m1
          exact setX_ne h1 (by omega)
        · have h1 := (List.getElem?_eq_some_iff.1 (unb r m0)).1
          have h2 := (List.getElem?_eq_some_iff.1 (unb (r + 1) m1)).1
          have h3 : base + r + 1 < (S q).h.length := by rw [clen hd hc h00 q (by omega)]; have := hsl _ m1; omega
          rw [hhq, hHr]
          simp only [setX]
          rw [hs] at hs'
          rcases (by simpa using hs' : r' = r ∨ r' = r + 1) with rfl | rfl
          · rw [List.getElem?_set, if_neg (by omega), List.getElem?_set, if_pos rfl, if_pos h1, List.getElem?_set, if_neg (by omega), List.getElem?_set, if_pos rfl, if_pos (by omega)]
          · rw [← Nat.add_assoc, List.getElem?_set, if_pos rfl, if_pos (by simp; omega), List.getElem?_set, if_pos rfl, if_pos (by simpa using h3)]
theorem nodup_of_map {α β : Type} {f : α → β} {l : List α} (h : (l.map f).Nodup) : l.Nodup := (List.pairwise_map.1 h).imp fun {a b} (hne : f a ≠ f b) (e : a = b) => hne (congrArg f e)
def Ent1 (ml : List MOp) (p : Ps) (t : Tr) (u : Nat) (e : PV × CV) : Prop := ∃ s v c, ml[u]? = some (insM p s v) ∧ Tr.get v t = .c c ∧ e = (.str s, c)
def JI (C : Cfg) (E : Ev) (En : Ent) (nt : Nat) (ml : List MOp) (nA base tot : Nat) (l : List DOp) (s0 : St) (vs : Nat → AV) (S : Nat → St) (us : List Nat) (p : Ps) (r0 : Nat) (d0 : DOp) (K : KT) (listed : Array Bool) (a : Act) (w : World) : Prop :=
  ((∀ i, nA ≤ i → ¬ L listed i) ∧ ∃ t h, TmOk l s0 vs (L listed) t ∧ HpOk l base tot S (L listed) h ∧
    ((¬ L listed d0.i ∧ Inv C En nt ⟨t, h⟩ a w) ∨ (L listed d0.i ∧ ∃ la : List (PV × CV), (la.map (·.1)).Nodup ∧ (∀ e, e ∈ la ↔ ∃ u ∈ us, L listed u ∧ Ent1 ml p (S l.length).t u e) ∧ Inv C En nt ⟨t, h.set (base + r0) (some (.mp la))⟩ a w))) ∨
  (∃ k, nA ≤ k ∧ (∀ i, L listed i ↔ i < k) ∧ ∃ s', (runOps C E (ml.drop k) s' K).holds ∧ Inv C En nt s' a w)
theorem ins_any (hF : WF F) (hE : EvCalls C E) (hX : XGoal C E) (hR : ∀ l, F.round = some l → ∃ r, En.w.heap[l]? = some (.loop r)) (hcomp : compOs C.P md nt ops ops.toList = some ml) (hi : InsOk ops ml nA tot l us p r0 q0 d0) (hne : us ≠ []) (hc : CanD C E base l s0 vs S) (hu0 : ∀ r, r < tot → s0.h[base + r]? = some (some Blk.unb)) (h00 : s0.h.length = base + tot) {K : KT} {le : List (PV × CV)}
    (hle : (le.map (·.1)).Nodup) (hle1 : ∀ x ∈ le, ∃ s, x.1 = .str s) (hle2 : ∀ e, e ∈ le ↔ ∃ u ∈ us, Ent1 ml p (S l.length).t u e) (hval : ∀ u ∈ us, ∀ s v, ml[u]? = some (insM p s v) → ∃ c, Tr.get v (S l.length).t = .c c)
    (hrest : (runOps C E (ml.drop nA) ⟨(S l.length).t, (S l.length).h.set (base + r0) (some (.mpp le))⟩ K).holds) :
    ∀ (fuel : Nat) (listed : Array Bool) (a : Act) (w : World), listed.size = ops.size → Closed ops listed → cnt ops.size (fun i => !listed.getD i false) = fuel → JI C E En nt ml nA base tot l s0 vs S us p r0 d0 K listed a w → wpAnyIn F n C.P .any ops (PostK C En nt K) fuel listed a w := by
  have hd := hi.d
  have hml := (compOs_get hcomp).1
  obtain ⟨hv0, hend, hr0⟩ := ins_mk hi hc h00
  have hqt : ∀ q, q ≤ l.length → _ := fun q hq => T_chD hd hc q hq
  -- all of the part that is drawn has come up
  have full : ∀ (listed : Array Bool) (a : Act) (w : World), (∀ i, i < nA → L listed i) → (∀ i, nA ≤ i → ¬ L listed i) → (∃ t h, TmOk l s0 vs (L listed) t ∧ HpOk l base tot S (L listed) h ∧
      ((¬ L listed d0.i ∧ Inv C En nt ⟨t, h⟩ a w) ∨ (L listed d0.i ∧ ∃ la : List (PV × CV), (la.map (·.1)).Nodup ∧ (∀ e, e ∈ la ↔ ∃ u ∈ us, L listed u ∧ Ent1 ml p (S l.length).t u e) ∧ Inv C En nt ⟨t, h.set (base + r0) (some (.mp la))⟩ a w))) →
      Inv C En nt ⟨(S l.length).t, (S l.length).h.set (base + r0) (some (.mpp le))⟩ a w := by
    rintro listed a w hall hno ⟨t, h, htm, hhp, hx⟩
    have hx0 : L listed d0.i := hall _ (hd.self q0 d0 hi.q0).1
    rcases hx with ⟨hno0, _⟩ | ⟨_, la, hla, hmem, hv⟩
    · exact absurd hx0 hno0
    · have hx : ∀ (q : Nat) (d : DOp), l[q]? = some d → L listed d.i := fun q d hq => hall _ (hd.self q d hq).1
      obtain ⟨μ, hμ, hw, hμw, hat⟩ := hhp.at'
      have e1 : μ = l.length := by
        rcases hμw with h1 | ⟨d, hdq, hwd⟩
        · exact h1
        · exact absurd hwd (hi.cls μ d hdq).1
      subst e1
      have e2 : h = (S l.length).h := List.ext_getElem? fun k => by
        rcases Nat.lt_or_ge k (base + tot) with hk | hk
        · refine (hat k hk).2 ?_
          rintro ⟨q, d, r, hq, _, _, hL⟩
          exact hL (hx q d hq)
        · rw [List.getElem?_eq_none (by rw [hhp.len]; exact hk), List.getElem?_eq_none (by rw [clen hd hc h00 _ (Nat.le_refl _)]; exact hk)]
      subst e2
      obtain ⟨i1, i2⟩ := hqt l.length (Nat.le_refl _)
      have e3 : ∀ p, Tr.get p t = Tr.get p (S l.length).t := fun p => by
        by_cases h : ∃ (q : Nat) (d : DOp), l[q]? = some d ∧ d.m.dst = some p
        · obtain ⟨q, d, hq, hp⟩ := h
          rw [htm.new q d p hq (hx q d hq) hp, i1 q d p (List.getElem?_eq_some_iff.1 hq).1 hq hp]
        · rw [htm.old p fun q d hq _ hp => h ⟨q, d, hq, hp⟩, i2 p fun q d _ hq hp => h ⟨q, d, hq, hp⟩]
      have hperm : la.Perm le := (List.perm_ext_iff_of_nodup (nodup_of_map hla) (nodup_of_map hle)).2 fun e => by
        rw [hmem, hle2]
        constructor
        · rintro ⟨u, hu, _, he⟩; exact ⟨u, hu, he⟩
        · rintro ⟨u, hu, he⟩; exact ⟨u, hu, hall _ (hi.ins u hu).1, he⟩
      have hlt := (List.getElem?_eq_some_iff.1 hend).1
      have hv2 := mpp_close (lb := le) hv (by rw [List.getElem?_set, if_pos rfl, if_pos hlt]) hperm ⟨hle1, hle⟩
      rw [List.set_set] at hv2
      obtain ⟨Z, φ, hs, hS, hm⟩ := hv2
      exact ⟨Z, φ, ⟨hs.h, hs.g, hs.b, hs.sz, fun j => by rw [← e3]; exact hs.t j⟩, hS, hm⟩
  have done : ∀ (listed : Array Bool) (a : Act) (w : World), (∀ i, i < ops.size → L listed i) → listed.size = ops.size → JI C E En nt ml nA base tot l s0 vs S us p r0 d0 K listed a w → PostK C En nt K .normal a w := by
    intro listed a w hall hsz hj
    rcases hj with ⟨hno, hj⟩ | ⟨k, hk, hlk, s', hr, hv⟩
    · have hn : nA = ops.size := by
        rcases Nat.lt_or_ge nA ops.size with h | h
        · exact absurd (hall nA h) (hno nA (Nat.le_refl _))
        · have := hd.le; omega
      have hv := full listed a w (fun i hi => hall i (by omega)) hno hj
      rw [List.drop_eq_nil_of_le (by simp at hml; omega)] at hrest
      exact PostK.normal hrest hv
    · have hkn : ops.size ≤ k := by
        rcases Nat.lt_or_ge k ops.size with h | h
        · have := (hlk k).1 (hall k h); omega
        · exact h
      rw [List.drop_eq_nil_of_le (by simp at hml; omega)] at hr
      exact PostK.normal hr hv
  have noready : ∀ (listed : Array Bool), listed.size = ops.size → Region.ready .any ops listed = [] → ∀ i, i < ops.size → L listed i := by
    intro listed hsz hnil i
    induction i using Nat.strongRecOn with
    | _ i ih =>
      intro hi
      rcases Classical.em (L listed i) with h | h
      · exact h
      · exfalso
        have : i ∈ Region.ready .any ops listed := by
          refine mem_ready.2 ⟨?_, ops[i], Array.getElem?_eq_getElem hi, fun e he hb => ?_⟩
          · unfold L at h
            have hlt : i < listed.size := by omega
            simp [hlt] at h ⊢
            exact h
          · have := hd.lt i ops[i] e (Array.getElem?_eq_getElem hi) he hb
            exact ih e.on this (by omega)
        rw [hnil] at this
        cases this
  intro fuel
  induction fuel with
  | zero =>
    intro listed a w hsz hcl hcnt hj
    have hall : ∀ i, i < ops.size → L listed i := fun i hi => by
      have := cnt_zero hcnt i hi
      unfold L
      simpa using this
    refine ⟨?_, done listed a w hall hsz hj⟩
    cases hr : Region.ready .any ops listed with
    | nil => rfl
    | cons i l =>
      exfalso
      have hi : i ∈ Region.ready .any ops listed := by rw [hr]; simp
      obtain ⟨h0, o, ho, _⟩ := mem_ready.1 hi
      have hlt := (Array.getElem?_eq_some_iff.1 ho).1
      have := hall i hlt
      unfold L at this
      have hlt' : i < listed.size := by omega
      simp [hlt'] at h0 this
      rw [h0] at this
      cases this
  | succ fuel ih =>
    intro listed a w hsz hcl hcnt hj
    refine ⟨fun hnil => done listed a w (noready listed hsz hnil) hsz hj, fun i hir => ?_⟩
    obtain ⟨h0, o, ho, _⟩ := mem_ready.1 hir
    have hlt := (Array.getElem?_eq_some_iff.1 ho).1
    have hnot : ¬ L listed i := by
      unfold L
      have hlt' : i < listed.size := by omega
      simp [hlt'] at h0 ⊢
      exact h0
    have hcnt' : cnt ops.size (fun j => !(listed.setIfInBounds i true).getD j false) = fuel := by
      have := cnt_less (f := fun j => !listed.getD j false) (g := fun j => !(listed.setIfInBounds i true).getD j false) (i := i) (n := ops.size) hlt (by unfold L at hnot; simpa using hnot) (by
        have : L (listed.setIfInBounds i true) i := L_set.2 (.inl ⟨rfl, by omega⟩)
        unfold L at this
        rw [this]
        rfl) (fun j hj => by rw [getD_set_ne false (fun e => hj e.symm)])
      omega
    have go : ∀ a' w', JI C E En nt ml nA base tot l s0 vs S us p r0 d0 K (listed.setIfInBounds i true) a' w' → wpAnyIn F n C.P .any ops (PostK C En nt K) fuel (listed.setIfInBounds i true) a' w' := fun a' w' hj' =>
      ih _ a' w' (by simp [hsz]) (closed_set hcl hir) hcnt' hj'
    have hcomp_i : ∃ m, ml[i]? = some m ∧ compO C.P md nt ops o = some m := (compOs_get hcomp).2 i o (by simpa using ho)
    obtain ⟨m, hm, hcm⟩ := hcomp_i
    have hdrop : ml.drop i = m :: ml.drop (i + 1) := by
      obtain ⟨h1, h2⟩ := List.getElem?_eq_some_iff.1 hm
      rw [List.drop_eq_getElem_cons h1, h2]
    have hL' : ∀ j, L (listed.setIfInBounds i true) j ↔ j = i ∨ L listed j := fun j => by
      rw [L_set]
      constructor
      · rintro (⟨h, _⟩ | h)
        · exact .inl h
        · exact .inr h
      · rintro (h | h)
        · exact .inl ⟨h, by omega⟩
        · exact .inr h
    have hreach : ∀ j, Reach ops j i → L listed j := fun j hr => ready_reach hcl hr hir
    rcases hj with ⟨hno, t, h, htm, hhp, hx⟩ | ⟨k, hk, hlk, s', hr, hv⟩
    · rcases Nat.lt_or_ge i nA with hiA | hiA
      · have hno' : ∀ j, nA ≤ j → ¬ L (listed.setIfInBounds i true) j := fun j hj hLj => by
          rcases (hL' j).1 hLj with h | h
          · omega
          · exact hno j hj h
        rcases hi.all i hiA with hus | ⟨q, d, hq, hqi⟩
        · -- an entry is written down
          obtain ⟨_, hnl, s, v, hmu, hanc⟩ := hi.ins i hus
          have hL0 : L listed d0.i := hreach _ (hanc q0 d0 hi.q0 (.inr (by rw [hi.m0])))
          rcases hx with ⟨hno0, _⟩ | ⟨_, la, hla, hmem, hv⟩
          · exact absurd hL0 hno0
          · rw [hm] at hmu
            cases hmu
            obtain ⟨c, hcv⟩ := hval i hus s v hm
            have hlen : base + r0 < h.length := by rw [hhp.len]; exact hr0
            have hpt : Tr.get p t = .c (.ref (base + r0)) := by rw [htm.new q0 d0 p hi.q0 hL0 (by rw [hi.m0]), hv0]
            have hvt : Tr.get v t = .c c := by
              rw [← hcv]
              obtain ⟨i1, i2⟩ := hqt l.length (Nat.le_refl _)
              by_cases hex : ∃ (q : Nat) (d : DOp), l[q]? = some d ∧ d.m.dst = some v
              · obtain ⟨q, d, hq, hp⟩ := hex
                rw [htm.new q d v hq (hreach _ (hanc q d hq (.inl hp))) hp, i1 q d v (List.getElem?_eq_some_iff.1 hq).1 hq hp]
              · rw [htm.old v fun q d hq _ hp => hex ⟨q, d, hq, hp⟩, i2 v fun q d _ hq hp => hex ⟨q, d, hq, hp⟩]
            have hkey : ∀ x ∈ la, ∃ b, x.1 = .str b ∧ b ≠ s := fun x hx => by
              obtain ⟨u, hu, hLu, s', v', c', e1, e2, e3⟩ := (hmem x).1 hx
              refine ⟨s', by rw [e3], fun e => ?_⟩
              subst e
              have := keys_inj hi.keys hu hus e1 hm
              subst this
              exact hnot hLu
            have hop : (opM (h.set (base + r0) (some (.mp la))) (evT C.G t) (.mset true (.t p) (.k (.c (.p (.str s)))) (.t v)) fun x h' => .pr (.tp [] = x ∧ h.set (base + r0) (some (.mp (la ++ [(.str s, c)]))) = h')).holds := by
              simp only [opM, evT, hpt, hvt]
              rw [List.getElem?_set, if_pos rfl, if_pos hlen]
              simp only [keyOk, put_new hkey, List.set_set]
              constructor <;> first | trivial | rfl
            refine wpOpIn_mono (fun a' w' hv' => go a' w' (.inl ⟨hno', t, h, ?_, ?_, .inr ⟨(hL' _).2 (.inr hL0), la ++ [(.str s, c)], ?_, fun e => ?_, hv'⟩⟩)) (step_s hF (compOs_dst hcomp) ho hcm (p := .mset true (.t p) (.k (.c (.p (.str s)))) (.t v)) rfl (s := ⟨t, h.set (base + r0) (some (.mp la))⟩) rfl hop hv)
            · refine ⟨fun q d x hq hL hx => htm.new q d x hq ?_ hx, fun x hno => htm.old x fun q d hq hL => hno q d hq ((hL' _).2 (.inr hL))⟩
              rcases (hL' _).1 hL with h | h
              · exact absurd h (hnl q d hq)
              · exact h
            · obtain ⟨μ, hμ, hw, hμw, hat⟩ := hhp.at'
              refine ⟨hhp.len, μ, hμ, fun q d hq hwd => absurd hwd (hi.cls q d hq).1, hμw, fun k hk => ?_⟩
              have hU : Unx l base (L (listed.setIfInBounds i true)) k ↔ Unx l base (L listed) k := by
                constructor
                · rintro ⟨q, d, r, hq, hs, e, hL⟩
                  exact ⟨q, d, r, hq, hs, e, fun h => hL ((hL' _).2 (.inr h))⟩
                · rintro ⟨q, d, r, hq, hs, e, hL⟩
                  refine ⟨q, d, r, hq, hs, e, fun h => ?_⟩
                  rcases (hL' _).1 h with h | h
                  · exact hnl q d hq h
                  · exact hL h
              rw [hU]
              exact hat k hk
            · rw [List.map_append, List.map_cons, List.map_nil]
              refine List.nodup_append.2 ⟨hla, by simp, fun a ha b hb e => ?_⟩
              simp only [List.mem_singleton] at hb
              subst hb
              subst e
              obtain ⟨x, hx, ex⟩ := List.mem_map.1 ha
              obtain ⟨b, e1, e2⟩ := hkey x hx
              rw [e1] at ex
              cases ex
              exact e2 rfl
            · rw [List.mem_append, hmem, List.mem_singleton]
              constructor
              · rintro (⟨u, hu, hLu, he⟩ | rfl)
                · exact ⟨u, hu, (hL' _).2 (.inr hLu), he⟩
                · exact ⟨i, hus, (hL' _).2 (.inl rfl), s, v, c, hm, hcv, rfl⟩
              · rintro ⟨u, hu, hLu, he⟩
                rcases (hL' _).1 hLu with e | h
                · subst e
                  right
                  obtain ⟨s', v', c', e1, e2, e3⟩ := he
                  rw [hm] at e1
                  cases e1
                  rw [hcv] at e2
                  cases e2
                  exact e3
                · exact .inl ⟨u, hu, h, he⟩
        · subst hqi
          have hnu : d.i ∉ us := fun hu => (hi.ins _ hu).2.1 q d hq rfl
          have memU : ∀ {la : List (PV × CV)}, (∀ e, e ∈ la ↔ ∃ u ∈ us, L listed u ∧ Ent1 ml p (S l.length).t u e) → ∀ e, e ∈ la ↔ ∃ u ∈ us, L (listed.setIfInBounds d.i true) u ∧ Ent1 ml p (S l.length).t u e := fun hmem e => by
            rw [hmem]
            constructor
            · rintro ⟨u, hu, hLu, he⟩; exact ⟨u, hu, (hL' _).2 (.inr hLu), he⟩
            · rintro ⟨u, hu, hLu, he⟩
              rcases (hL' _).1 hLu with e | h
              · exact absurd (e ▸ hu) hnu
              · exact ⟨u, hu, h, he⟩
          rcases hx with ⟨hno0, hv⟩ | ⟨hL0, la, hla, hmem, hv⟩
          · refine wpOpIn_mono (fun a' w' h' => go a' w' ?_) (step_drw (LL' := L (listed.setIfInBounds d.i true)) hF hE hcomp hd hc hu0 h00 (fun i j hr hL => closed_reach hcl hr hL) htm hhp hq hreach hnot hL' hv)
            obtain ⟨t', h2, hv', ht', hh'⟩ := h'
            refine .inl ⟨hno', t', h2, ht', hh', ?_⟩
            by_cases hd0 : L (listed.setIfInBounds d.i true) d0.i
            · have hat := hh'.at'
              obtain ⟨μ, hμ, hw, hμw, hat⟩ := hat
              have e1 : μ = l.length := by
                rcases hμw with h1 | ⟨d, hdq, hwd⟩
                · exact h1
                · exact absurd hwd (hi.cls μ d hdq).1
              subst e1
              have hk0 : h2[base + r0]? = some (some (.mp [])) := by
                rw [(hat _ hr0).2 ?_, hend]
                rintro ⟨q', d', r, hq', hs, e, hL⟩
                have : r = r0 := by omega
                subst this
                rcases Nat.lt_trichotomy q' q0 with h1 | h1 | h1
                · exact (hd.pair q' q0 d' d0 h1 hq' hi.q0).slot r hs (by rw [hi.s0]; simp)
                · subst h1
                  rw [hi.q0] at hq'
                  cases hq'
                  exact hL hd0
                · exact (hd.pair q0 q' d0 d' h1 hi.q0 hq').slot r (by rw [hi.s0]; simp) hs
              refine .inr ⟨hd0, [], List.nodup_nil, fun e => ⟨fun h => (by cases h), ?_⟩, ?_⟩
              · rintro ⟨u, hu, hLu, he⟩
                rcases (hL' _).1 hLu with e | h
                · exact absurd (e ▸ hu) hnu
                · exact absurd (closed_reach hcl ((hi.ins u hu).2.2.elim fun s h => h.elim fun v h => h.2 q0 d0 hi.q0 (.inr (by rw [hi.m0]))) h) hno0
              · have e : h2.set (base + r0) (some (.mp [])) = h2 := by
                  refine List.ext_getElem? fun q => ?_
                  rw [List.getElem?_set]
                  split
                  · rename_i e
                    subst e
                    rw [hk0, if_pos (List.getElem?_eq_some_iff.1 hk0).1]
                  · rfl
                rw [e]; exact hv'
            · exact .inl ⟨hd0, hv'⟩
          · refine wpOpIn_mono (fun a' w' h' => go a' w' ?_) (step_drwT (LL' := L (listed.setIfInBounds d.i true)) hF hE hcomp hi hc hu0 h00 (fun i j hr hL => closed_reach hcl hr hL) htm hhp hq hreach hnot hL' hL0 hv)
            obtain ⟨t', h2, hv', ht', hh'⟩ := h'
            exact .inl ⟨hno', t', h2, ht', hh', .inr ⟨(hL' _).2 (.inr hL0), la, hla, memU hmem, hv'⟩⟩
      · have hall : ∀ j, j < i → L listed j := fun j hj => ready_reach hcl (hd.wait i j hiA hlt hj) hir
        have hin : i = nA := by
          rcases Nat.lt_or_ge nA i with h | h
          · exact absurd (hall nA h) (hno nA (Nat.le_refl _))
          · omega
        subst hin
        have hv := full listed a w (fun j hj => hall j hj) hno ⟨t, h, htm, hhp, hx⟩
        rw [hdrop] at hrest
        refine wpOpIn_mono (fun a' w' h' => go a' w' ?_) (step_op hF hE hX hR (compOs_dst hcomp) ho hcm hrest hv)
        refine .inr ⟨i + 1, by omega, fun j => ?_, h'⟩
        rw [L_set]
        constructor
        · rintro (⟨h, _⟩ | h)
          · omega
          · rcases Nat.lt_or_ge j i with h' | h'
            · omega
            · exact absurd h (hno j h')
        · intro h
          rcases Nat.lt_or_ge j i with h' | h'
          · exact .inr (hall j h')
          · exact .inl ⟨by omega, by omega⟩
    · have hik : i = k := by
        have h1 : ¬ i < k := fun h => hnot ((hlk i).2 h)
        rcases Nat.lt_or_ge k i with h | h
        · have := ready_reach hcl (hd.wait i k (by omega) hlt h) hir
          have := (hlk k).1 this
          omega
        · omega
      subst hik
      rw [hdrop] at hr
      refine wpOpIn_mono (fun a' w' h' => go a' w' ?_) (step_op hF hE hX hR (compOs_dst hcomp) ho hcm hr hv)
      refine .inr ⟨i + 1, by omega, fun j => ?_, h'⟩
      rw [L_set, hlk]
      constructor
      · rintro (⟨h, _⟩ | h) <;> omega
      · intro h
        rcases Nat.lt_or_ge j i with h' | h'
        · exact .inr (by omega)
        · exact .inl ⟨by omega, by omega⟩
theorem region_ins (hF : WF F) (hD : DetE E) (hE : EvCalls C E) (hX : XGoal C E) (hR : ∀ l, F.round = some l → ∃ r, En.w.heap[l]? = some (.loop r)) {id : Nat} (hf : C.P.follows .mixedOrders = true) (hcomp : compOs C.P md nt ops ops.toList = some ml) {mc : MC} (hm : compIns ops ml = some mc) {n0 : Nat} {s : St} {K : KT} (h : (exB C E n0 mc s K).holds) {a : Act} {w : World} (hv : Inv C En nt s a w) :
    (Code.region id ops true).wpIn F n C.P (PostK C En nt K) a w := by
  unfold compIns at hm
  dsimp only at hm
  split at hm
  · cases hm
  · rename_i m0 um hum
    split at hm
    · rename_i p s1 v1 hu1
      split at hm
      · rename_i l tot hmk
        split at hm
        · rename_i hok
          cases hm
          obtain ⟨r0, q0, d0, hi⟩ := ins_spec hok hmk
          generalize hus : (List.range (sufN (clo ops.toList []) ops.size)).filter (isIns ml) = us at *
          generalize sufN (clo ops.toList []) ops.size = nA at *
          simp only [exB] at h
          obtain ⟨vs, S, hcan, hrest⟩ := canD hD l _ _ h
          have hd := hi.d
          have h00 : (s.h ++ List.replicate tot (some Blk.unb)).length = s.h.length + tot := by simp
          have h0 : ∀ r, r < tot → (s.h ++ List.replicate tot (some Blk.unb))[s.h.length + r]? = some (some Blk.unb) := fun r hr => by
            rw [List.getElem?_append_right (by omega), show s.h.length + r - s.h.length = r by omega]
            simp [hr]
          obtain ⟨hv0, hend, hr0⟩ := ins_mk hi hcan h00
          have hp : Tr.get p (S l.length).t = .c (.ref (s.h.length + r0)) := by
            rw [(T_chD hd hcan l.length (Nat.le_refl _)).1 q0 d0 p (List.getElem?_eq_some_iff.1 hi.q0).1 hi.q0 (by rw [hi.m0]), hv0]
          have hform : ∀ m ∈ insOps ml us, ∃ s v, m = insM p s v := fun m hm => by
            obtain ⟨u, hu, e⟩ := insOps_mem hm
            obtain ⟨_, _, s, v, e2, _⟩ := hi.ins u hu
            rw [e] at e2
            exact ⟨s, v, Option.some.inj e2⟩
          obtain ⟨le, k1, k2, k3⟩ := ins_chain (rest := (⟨none, none, .m (.frz (.t p))⟩ :: ml.drop nA : List MOp)) hp (insOps ml us) [] (S l.length).h hform hend (fun x hx => by cases hx) hi.keys (by cases hS : S l.length; rw [hS] at hrest; exact hrest)
          rw [List.nil_append] at k3
          have k4 : (opMz ((S l.length).h.set (s.h.length + r0) (some (.mp le))) (evT C.G (S l.length).t) (.frz (.t p)) fun x h => runOps C E (ml.drop nA) ⟨putT (S l.length).t none x, h⟩ K).holds := k3
          rw [opMz_frz] at k4
          have hlt := (List.getElem?_eq_some_iff.1 hend).1
          simp only [opM, evT, hp] at k4
          rw [List.getElem?_set, if_pos rfl, if_pos hlt] at k4
          simp only [List.set_set] at k4
          have hkn : (le.map (·.1)).Nodup := by
            rw [k1]
            exact List.pairwise_map.2 (hi.keys.imp fun hne e => hne (by cases e; rfl))
          have hks : ∀ x ∈ le, ∃ s, x.1 = .str s := fun x hx => by
            have : x.1 ∈ le.map (·.1) := List.mem_map_of_mem hx
            rw [k1] at this
            obtain ⟨s, _, e⟩ := List.mem_map.1 this
            exact ⟨s, e.symm⟩
          have hmem : ∀ e, e ∈ le ↔ ∃ u ∈ us, Ent1 ml p (S l.length).t u e := fun e => by
            constructor
            · intro he
              have : e.1 ∈ le.map (·.1) := List.mem_map_of_mem he
              rw [k1] at this
              obtain ⟨s, hs, e1⟩ := List.mem_map.1 this
              obtain ⟨p', v', hm'⟩ := insKeys_mem hs
              obtain ⟨u, hu, e2⟩ := insOps_mem hm'
              obtain ⟨s', v, c, g1, g2, g3⟩ := k2 _ hm'
              cases g1
              refine ⟨u, hu, s, v', c, e2, g3, ?_⟩
              obtain ⟨x, y⟩ := e
              simp only at e1
              subst e1
              rw [key_uniq hkn he g2]
            · rintro ⟨u, hu, s, v, c, e1, e2, rfl⟩
              obtain ⟨s', v', c', g1, g2, g3⟩ := k2 _ (mem_insOps hu e1)
              cases g1
              rw [e2] at g3
              cases g3
              exact g2
          have hval : ∀ u ∈ us, ∀ s v, ml[u]? = some (insM p s v) → ∃ c, Tr.get v (S l.length).t = .c c := fun u hu s v e1 => by
            obtain ⟨s', v', c', g1, g2, g3⟩ := k2 _ (mem_insOps hu e1)
            cases g1
            exact ⟨c', g3⟩
          have hne : us ≠ [] := fun e => by rw [e] at hum; cases hum
          have empty : ∀ i, ¬ L (Array.replicate ops.size false) i := fun i hi => by
            unfold L at hi
            rcases Nat.lt_or_ge i ops.size with h | h
            · simp [h] at hi
            · simp [h] at hi
          refine wpIn_region_any hf (ins_any hF hE hX hR hcomp hi hne hcan h0 h00 hkn hks hmem hval k4 ops.size _ a _ (by simp) (fun j o e hj => absurd hj (empty j)) ?_ (.inl ⟨fun i _ hi => empty i hi, s.t, s.h ++ List.replicate tot (some Blk.unb), ⟨fun q d p _ hL => absurd hL (empty _), fun p _ => rfl⟩, ?_, .inl ⟨empty _, ?_⟩⟩))
          · rw [cnt_congr (g := fun _ => true) fun i hi => by simp [hi]]
            exact cnt_all _
          · obtain ⟨μ, h1, h2, h3, h4⟩ := next_wr l l.length 0 (by omega)
            refine ⟨h00, μ, h2, fun q d hq hw => ⟨fun hlt => absurd hw (h4 q d (by omega) hlt hq), fun hL => absurd hL (empty _)⟩, h3, fun k hk => ⟨?_, fun hu => ?_⟩⟩
            · rintro ⟨q, d, r, hq, hs, rfl, _⟩
              exact h0 r ((hd.self q d hq).2.2.1 r hs)
            · have := cstay hd hcan (k := k) μ 0 (by omega) fun q' d' h5 h6 hq' => ⟨h4 q' d' h5 (by omega) hq', fun r hs e => hu ⟨q', d', r, hq', hs, e.symm, empty _⟩⟩
              rw [Nat.zero_add] at this
              rw [this, hcan.zero]
          · obtain ⟨Z, φ, hs, hS, hm⟩ := hv
            have hst : Stays w { w with drawn := w.drawn + 1 } := (Below.refl _ _).drew
            have W := Way.stays (Z' := Z) hs.h hs.b hst (fun _ h => h) (fun _ h => .inl h)
            exact pad_inv tot (s := s) ⟨Z, φ, ⟨hs.h.stays hst (fun _ h => h) (fun _ h => .inl h), hs.g.go W.z1 W.o, hs.b, hs.sz, fun j => (hs.t j).tra W.t⟩, hS.way W, hm.go W.z1 W.o⟩
        · cases hm
      · cases hm
    · cases hm
end
end Go.Ab
namespace Go.Ab
open Go.RowKit
variable {C : Cfg} {E : Ev} {md : Nat → Bool}
def RuU (ops : Array Oper) (u v : Nat) (i j : Nat) : Prop := Reach ops i j ∨ ((i = u ∨ Reach ops i u) ∧ (j = v ∨ Reach ops v j))
theorem anU_reach {ops : Array Oper} {an : List (List Nat)} {u v : Nat} (hcl : ∀ j i, i ∈ an.getD j [] → Reach ops i j) : ∀ j i, i ∈ (anU an u v).getD j [] → RuU ops u v i j := by
  intro j i hi
  unfold anU at hi
  rw [List.getD_eq_getElem?_getD, List.getElem?_map] at hi
  cases hj : (List.range an.length)[j]? with
  | none => rw [hj] at hi; simp at hi
  | some q =>
    have hq : q = j := by
      have hlt : j < an.length := by have := (List.getElem?_eq_some_iff.1 hj).1; simpa using this
      rw [List.getElem?_range hlt] at hj
      exact (Option.some.inj hj).symm
    subst hq
    rw [hj] at hi
    simp only [Option.map_some, Option.getD_some] at hi
    split at hi
    · rename_i hc
      rw [Bool.or_eq_true] at hc
      have hv : q = v ∨ Reach ops v q := by
        rcases hc with hc | hc
        · exact .inl (by simpa using hc)
        · exact .inr (hcl q v (by simpa using hc))
      rcases List.mem_append.1 hi with hi | hi
      · exact .inl (hcl q i hi)
      · rcases List.mem_cons.1 hi with rfl | hi
        · exact .inr ⟨.inl rfl, hv⟩
        · exact .inr ⟨.inr (hcl u i hi), hv⟩
    · exact .inl (hcl q i hi)
theorem mkD2_spec {an : List (List Nat)} {ml : List MOp} : ∀ {ord : List Nat} {mk : List (Nat × Nat)} {mw : List (Nat × Ps)} {l : List DOp}, mkD2 an ml ord mk mw = some l → ∀ d ∈ l, ml[d.i]? = some d.m ∧ SlotOk d
  | [], mk, mw, l, h => by
    simp only [mkD2, Option.some.injEq] at h
    subst h
    intro d hd
    cases hd
  | i :: ord, mk, mw, l, h => by
    simp only [mkD2] at h
    split at h
    · cases h
    · rename_i m hm
      split at h
      · cases h
      · rename_i c hcl
        split at h
        · rename_i q hq
          cases h
          intro d hd
          rcases List.mem_cons.1 hd with rfl | hd
          · refine ⟨hm, c, hcl, ?_⟩
            cases c <;> first | exact rfl | exact ⟨_, rfl⟩
          · exact mkD2_spec hq d hd
        · cases h
theorem drwA_spec {ops : Array Oper} {ml : List MOp} {nA tot : Nat} {l : List DOp} {an' : List (List Nat)} {R : Nat → Nat → Prop} (hR : ∀ j i, i ∈ an'.getD j [] → R i j) (h : drwOkA an' ops nA tot l = true) (hm : ∀ d ∈ l, ml[d.i]? = some d.m ∧ SlotOk d) : DrwOk ops R ml nA tot l ∧ ∀ i, i < nA → ∃ (q : Nat) (d : DOp), l[q]? = some d ∧ d.i = i := by
  have hcl : ∀ j i, i ∈ (clo ops.toList []).getD j [] → Reach ops i j := clo_reach (fun q => by simp) (fun j i hi => by simp at hi)
  unfold drwOkA at h
  simp only [Bool.and_eq_true, decide_eq_true_eq] at h
  obtain ⟨⟨⟨⟨⟨h1, h2⟩, h3⟩, h4⟩, h5⟩, h6⟩ := h
  refine ⟨⟨h1, fun i o e ho he hb => ?_, fun i j hi hin hj => ?_, fun q d hq => ?_, fun q q' d d' hlt hq hq' => pair_spec hR (pairs_spec h6 q q' d d' hlt hq hq')⟩, fun i hi => ?_⟩
  · have hlt : i < ops.size := (Array.getElem?_eq_some_iff.1 ho).1
    have := List.all_eq_true.1 h2 i (List.mem_range.2 hlt)
    rw [ho] at this
    simp only [List.all_eq_true, Bool.or_eq_true, Bool.not_eq_true', decide_eq_true_eq] at this
    rcases this e (by simpa using he) with h | h
    · rw [hb] at h; cases h
    · exact h
  · have := List.all_eq_true.1 h3 i (List.mem_range.2 hin)
    simp only [Bool.or_eq_true, decide_eq_true_eq] at this
    rcases this with h | h
    · omega
    · have := List.all_eq_true.1 h j (List.mem_range.2 hj)
      exact hcl _ _ (by simpa using this)
  · have hs := all_get h5 hq
    unfold selfB at hs
    simp only [Bool.and_eq_true, decide_eq_true_eq, Bool.not_eq_true'] at hs
    have hmm := hm d (List.mem_of_getElem? hq)
    refine ⟨hs.1.1, fun p hp => ?_, fun r hr => ?_, hmm.1, hmm.2⟩
    · have := hs.1.2
      rw [hp] at this
      exact this
    · simpa using List.all_eq_true.1 hs.2 r hr
  · have := List.all_eq_true.1 h4 i (List.mem_range.2 hi)
    simp only [List.any_eq_true, beq_iff_eq] at this
    obtain ⟨d, hd, rfl⟩ := this
    obtain ⟨q, hq, rfl⟩ := List.getElem_of_mem hd
    exact ⟨q, _, by simp [hq], rfl⟩
def catF {α : Type} (n : Nat) (f g : Nat → α) (q : Nat) : α := if q < n then f q else g (q - n)
theorem canD_cat {base : Nat} {l l' : List DOp} {s0 : St} {vs vs' : Nat → AV} {S S' : Nat → St} (h : CanD C E base l s0 vs S) (h' : CanD C E base l' (S l.length) vs' S') : CanD C E base (l ++ l') s0 (catF l.length vs vs') (catF l.length S S') := by
  have e0 : ∀ q, q ≤ l.length → catF l.length S S' q = S q := fun q hq => by
    unfold catF
    rcases Nat.lt_or_ge q l.length with h1 | h1
    · rw [if_pos h1]
    · rw [if_neg (by omega), show q = l.length by omega, Nat.sub_self, h'.zero]
  have e1 : ∀ q, l.length ≤ q → catF l.length S S' q = S' (q - l.length) := fun q hq => by
    unfold catF
    rw [if_neg (by omega)]
  refine ⟨(e0 0 (Nat.zero_le _)).trans h.zero, fun q d hq => ?_⟩
  rcases Nat.lt_or_ge q l.length with h1 | h1
  · rw [List.getElem?_append_left h1] at hq
    rw [e0 q (by omega), e0 (q + 1) (by omega), show catF l.length vs vs' q = vs q by unfold catF; rw [if_pos h1]]
    exact h.step q d hq
  · rw [List.getElem?_append_right h1] at hq
    rw [e1 q h1, e1 (q + 1) (by omega), show catF l.length vs vs' q = vs' (q - l.length) by unfold catF; rw [if_neg (by omega)], show q + 1 - l.length = q - l.length + 1 by omega]
    exact h'.step _ d hq
section
variable {p d : List DOp} {u v : DOp} {base tot : Nat} {s0 : St} {vs1 vs2 : Nat → AV} {S1 S2 : Nat → St}
theorem swap_get {LL : Nat → Prop} (hu : ¬ LL u.i) (hv : ¬ LL v.i) {q : Nat} {x : DOp} (hq : (p ++ v :: u :: d)[q]? = some x) (hL : LL x.i) : (p ++ u :: v :: d)[q]? = some x ∧ (q < p.length ∨ p.length + 2 ≤ q) := by
  rcases Nat.lt_or_ge q p.length with h | h
  · rw [List.getElem?_append_left h] at hq ⊢
    exact ⟨hq, .inl h⟩
  · rw [List.getElem?_append_right h] at hq ⊢
    match hq2 : q - p.length with
    | 0 => rw [hq2] at hq; simp at hq; subst hq; exact absurd hL hv
    | 1 => rw [hq2] at hq; simp at hq; subst hq; exact absurd hL hu
    | k + 2 =>
      rw [hq2] at hq
      exact ⟨by simpa using hq, .inr (by omega)⟩
theorem swap_mem {x : DOp} : x ∈ p ++ v :: u :: d ↔ x ∈ p ++ u :: v :: d := by
  simp only [List.mem_append, List.mem_cons]
  constructor <;> (rintro (h | h | h | h) <;> simp [h])
theorem tm_conv (hvs : ∀ q, q < p.length ∨ p.length + 2 ≤ q → vs1 q = vs2 q) {LL : Nat → Prop} (hu : ¬ LL u.i) (hv : ¬ LL v.i) {t : Tr} (h : TmOk (p ++ u :: v :: d) s0 vs1 LL t) : TmOk (p ++ v :: u :: d) s0 vs2 LL t :=
  ⟨fun q x pp hq hL hd => by
    obtain ⟨h1, h2⟩ := swap_get hu hv hq hL
    rw [h.new q x pp h1 hL hd, hvs q h2], fun pp hp => h.old pp fun q x hq hL => by
    obtain ⟨h1, _⟩ := swap_get (u := v) (v := u) hv hu hq hL
    exact hp q x h1 hL⟩
theorem unx_mem {l : List DOp} {LL : Nat → Prop} {k : Nat} : Unx l base LL k ↔ ∃ x ∈ l, ∃ r ∈ x.slots, base + r = k ∧ ¬ LL x.i := by
  constructor
  · rintro ⟨q, x, r, hq, hr, e, hn⟩
    exact ⟨x, List.mem_of_getElem? hq, r, hr, e, hn⟩
  · rintro ⟨x, hx, r, hr, e, hn⟩
    obtain ⟨q, hq, rfl⟩ := List.getElem_of_mem hx
    exact ⟨q, _, r, by simp [hq], hr, e, hn⟩
theorem hp_conv (hwu : wrD u) (hwv : wrD v) (hS : ∀ q, q ≤ p.length → S1 q = S2 q) {LL : Nat → Prop} (hu : ¬ LL u.i) (hv : ¬ LL v.i) {h : Heap} (hh : HpOk (p ++ u :: v :: d) base tot S1 LL h) : HpOk (p ++ v :: u :: d) base tot S2 LL h := by
  obtain ⟨hlen, μ, hμ, hw, hμw, hat⟩ := hh
  have hle : μ ≤ p.length := by
    rcases Nat.lt_or_ge p.length μ with h1 | h1
    · exact absurd ((hw p.length u (by rw [List.getElem?_append_right (Nat.le_refl _)]; simp) hwu).1 h1) hu
    · exact h1
  refine ⟨hlen, μ, by simp; omega, fun q x hq hwx => ?_, ?_, fun k hk => ?_⟩
  · rcases Nat.lt_or_ge q p.length with h1 | h1
    · rw [List.getElem?_append_left h1] at hq
      exact hw q x (by rw [List.getElem?_append_left h1]; exact hq) hwx
    · rw [List.getElem?_append_right h1] at hq
      match hq2 : q - p.length with
      | 0 =>
        rw [hq2] at hq; simp at hq; subst hq
        exact ⟨fun h => by omega, fun h => absurd h hv⟩
      | 1 =>
        rw [hq2] at hq; simp at hq; subst hq
        exact ⟨fun h => by omega, fun h => absurd h hu⟩
      | k + 2 =>
        rw [hq2] at hq
        exact hw q x (by rw [List.getElem?_append_right h1, hq2]; simpa using hq) hwx
  · refine .inr ?_
    rcases Nat.lt_or_ge μ p.length with h1 | h1
    · rcases hμw with h2 | ⟨x, hx, hwx⟩
      · simp at h2; omega
      · rw [List.getElem?_append_left h1] at hx
        exact ⟨x, by rw [List.getElem?_append_left h1]; exact hx, hwx⟩
    · have : μ = p.length := by omega
      subst this
      exact ⟨v, by rw [List.getElem?_append_right (Nat.le_refl _)]; simp, hwv⟩
  · have hun : Unx (p ++ v :: u :: d) base LL k ↔ Unx (p ++ u :: v :: d) base LL k := by
      rw [unx_mem, unx_mem]
      constructor
      · rintro ⟨x, hx, h⟩; exact ⟨x, swap_mem.1 hx, h⟩
      · rintro ⟨x, hx, h⟩; exact ⟨x, swap_mem.2 hx, h⟩
    rw [hun, ← hS μ hle]
    exact hat k hk
end
section
variable {F : Fence} {n : Nat} {En : Ent} {nt : Nat} {ops : Array Oper} {ml : List MOp} {nA tot base : Nat} {s0 : St}
def JR (C : Cfg) (En : Ent) (nt : Nat) (nA base tot : Nat) (s0 : St) (R : Nat → Nat → Prop) (l : List DOp) (vs : Nat → AV) (S : Nat → St) (listed : Array Bool) (a : Act) (w : World) : Prop :=
  (∀ i j, R i j → L listed j → L listed i) ∧ (∀ i, nA ≤ i → ¬ L listed i) ∧ ∃ t h, Inv C En nt ⟨t, h⟩ a w ∧ TmOk l s0 vs (L listed) t ∧ HpOk l base tot S (L listed) h
def JT (C : Cfg) (E : Ev) (En : Ent) (nt : Nat) (ml : List MOp) (nA : Nat) (K : KT) (listed : Array Bool) (a : Act) (w : World) : Prop :=
  ∃ k, nA ≤ k ∧ (∀ i, L listed i ↔ i < k) ∧ ∃ s', (runOps C E (ml.drop k) s' K).holds ∧ Inv C En nt s' a w
theorem step_jr (hF : WF F) (hE : EvCalls C E) (hX : XGoal C E) (hRr : ∀ l, F.round = some l → ∃ r, En.w.heap[l]? = some (.loop r)) (hcomp : compOs C.P md nt ops ops.toList = some ml) {R : Nat → Nat → Prop} {l : List DOp} {vs : Nat → AV} {S : Nat → St}
    (hd : DrwOk ops R ml nA tot l) (hdall : ∀ i, i < nA → ∃ (q : Nat) (d : DOp), l[q]? = some d ∧ d.i = i) (hc : CanD C E base l s0 vs S) (hu0 : ∀ r, r < tot → s0.h[base + r]? = some (some Blk.unb)) (h00 : s0.h.length = base + tot) {K : KT}
    (hrest : (runOps C E (ml.drop nA) (S l.length) K).holds) {listed : Array Bool} {a : Act} {w : World} (hsz : listed.size = ops.size) (hcl : Closed ops listed) {i : Nat} (hi : i ∈ Region.ready .any ops listed) (hRi : ∀ j, R j i → L listed j) (hj : JR C En nt nA base tot s0 R l vs S listed a w) :
    wpOpIn F n C.P ops (PostK C En nt K) i (fun a' w' => JR C En nt nA base tot s0 R l vs S (listed.setIfInBounds i true) a' w' ∨ JT C E En nt ml nA K (listed.setIfInBounds i true) a' w') a w := by
  obtain ⟨hR, hno, t, h, hv, htm, hhp⟩ := hj
  obtain ⟨h0, o, ho, _⟩ := mem_ready.1 hi
  have hlt := (Array.getElem?_eq_some_iff.1 ho).1
  have hnot : ¬ L listed i := by
    unfold L
    have hlt' : i < listed.size := by omega
    simp [hlt'] at h0 ⊢
    exact h0
  rcases Nat.lt_or_ge i nA with hiA | hiA
  · obtain ⟨q, d, hq, hqi⟩ := hdall i hiA
    subst hqi
    refine wpOpIn_mono (fun a' w' h' => ?_) (step_drw (LL' := L (listed.setIfInBounds d.i true)) hF hE hcomp hd hc hu0 h00 hR htm hhp hq hRi hnot (fun j => by
      rw [L_set]
      constructor
      · rintro (⟨h, _⟩ | h)
        · exact .inl h
        · exact .inr h
      · rintro (h | h)
        · exact .inl ⟨h, by omega⟩
        · exact .inr h) hv)
    obtain ⟨t', h2, hv', ht', hh'⟩ := h'
    refine .inl ⟨fun i' j' hr hL => ?_, fun j hj hLj => ?_, t', h2, hv', ht', hh'⟩
    · rcases L_set.1 hL with ⟨rfl, _⟩ | hL
      · exact L_set.2 (.inr (hRi i' hr))
      · exact L_set.2 (.inr (hR i' j' hr hL))
    · rcases L_set.1 hLj with ⟨h, _⟩ | h
      · omega
      · exact hno j hj h
  · have hall : ∀ j, j < i → L listed j := fun j hj => ready_reach hcl (hd.wait i j hiA hlt hj) hi
    have hin : i = nA := by
      rcases Nat.lt_or_ge nA i with h | h
      · exact absurd (hall nA h) (hno nA (Nat.le_refl _))
      · omega
    subst hin
    have hv := all_drw hd hc h00 (fun j hj => hall j hj) htm hhp hv
    obtain ⟨m, hm, hcm⟩ : ∃ m, ml[i]? = some m ∧ compO C.P md nt ops o = some m := (compOs_get hcomp).2 i o (by simpa using ho)
    have hdrop : ml.drop i = m :: ml.drop (i + 1) := by
      obtain ⟨h1, h2⟩ := List.getElem?_eq_some_iff.1 hm
      rw [List.drop_eq_getElem_cons h1, h2]
    rw [hdrop] at hrest
    refine wpOpIn_mono (fun a' w' h' => ?_) (step_op hF hE hX hRr (compOs_dst hcomp) ho hcm hrest hv)
    refine .inr ⟨i + 1, by omega, fun j => ?_, h'⟩
    rw [L_set]
    constructor
    · rintro (⟨h, _⟩ | h)
      · omega
      · rcases Nat.lt_or_ge j i with h' | h'
        · omega
        · exact absurd h (hno j h')
    · intro h
      rcases Nat.lt_or_ge j i with h' | h'
      · exact .inr (hall j h')
      · exact .inl ⟨by omega, by omega⟩
theorem drw_any2 (hF : WF F) (hE : EvCalls C E) (hX : XGoal C E) (hRr : ∀ l, F.round = some l → ∃ r, En.w.heap[l]? = some (.loop r)) (hcomp : compOs C.P md nt ops ops.toList = some ml) {p d : List DOp} {u v : DOp} {vs1 vs2 : Nat → AV} {S1 S2 : Nat → St}
    (hd1 : DrwOk ops (RuU ops u.i v.i) ml nA tot (p ++ u :: v :: d)) (ha1 : ∀ i, i < nA → ∃ (q : Nat) (x : DOp), (p ++ u :: v :: d)[q]? = some x ∧ x.i = i) (hc1 : CanD C E base (p ++ u :: v :: d) s0 vs1 S1)
    (hd2 : DrwOk ops (RuU ops v.i u.i) ml nA tot (p ++ v :: u :: d)) (ha2 : ∀ i, i < nA → ∃ (q : Nat) (x : DOp), (p ++ v :: u :: d)[q]? = some x ∧ x.i = i) (hc2 : CanD C E base (p ++ v :: u :: d) s0 vs2 S2)
    (hwu : wrD u) (hwv : wrD v) (hvs : ∀ q, q < p.length ∨ p.length + 2 ≤ q → vs1 q = vs2 q) (hS : ∀ q, q ≤ p.length → S1 q = S2 q)
    (hu0 : ∀ r, r < tot → s0.h[base + r]? = some (some Blk.unb)) (h00 : s0.h.length = base + tot) {K : KT}
    (hr1 : (runOps C E (ml.drop nA) (S1 (p ++ u :: v :: d).length) K).holds) (hr2 : (runOps C E (ml.drop nA) (S2 (p ++ v :: u :: d).length) K).holds) :
    ∀ (fuel : Nat) (listed : Array Bool) (a : Act) (w : World), listed.size = ops.size → Closed ops listed → cnt ops.size (fun i => !listed.getD i false) = fuel →
      (JR C En nt nA base tot s0 (RuU ops u.i v.i) (p ++ u :: v :: d) vs1 S1 listed a w ∨ JR C En nt nA base tot s0 (RuU ops v.i u.i) (p ++ v :: u :: d) vs2 S2 listed a w ∨ JT C E En nt ml nA K listed a w) → wpAnyIn F n C.P .any ops (PostK C En nt K) fuel listed a w := by
  have hml := (compOs_get hcomp).1
  have done1 : ∀ {R : Nat → Nat → Prop} {l : List DOp} {vs : Nat → AV} {S : Nat → St}, DrwOk ops R ml nA tot l → CanD C E base l s0 vs S → (runOps C E (ml.drop nA) (S l.length) K).holds → ∀ (listed : Array Bool) (a : Act) (w : World), (∀ i, i < ops.size → L listed i) → JR C En nt nA base tot s0 R l vs S listed a w → PostK C En nt K .normal a w := by
    intro R l vs S hd hc hrest listed a w hall ⟨_, hno, t, h, hv, htm, hhp⟩
    have hn : nA = ops.size := by
      rcases Nat.lt_or_ge nA ops.size with h | h
      · exact absurd (hall nA h) (hno nA (Nat.le_refl _))
      · have := hd.le; omega
    have hv := all_drw hd hc h00 (fun i hi => hall i (by omega)) htm hhp hv
    rw [List.drop_eq_nil_of_le (by simp at hml; omega)] at hrest
    exact PostK.normal hrest hv
  have done : ∀ (listed : Array Bool) (a : Act) (w : World), (∀ i, i < ops.size → L listed i) → (JR C En nt nA base tot s0 (RuU ops u.i v.i) (p ++ u :: v :: d) vs1 S1 listed a w ∨ JR C En nt nA base tot s0 (RuU ops v.i u.i) (p ++ v :: u :: d) vs2 S2 listed a w ∨ JT C E En nt ml nA K listed a w) → PostK C En nt K .normal a w := by
    intro listed a w hall hj
    rcases hj with hj | hj | ⟨k, hk, hlk, s', hr, hv⟩
    · exact done1 hd1 hc1 hr1 listed a w hall hj
    · exact done1 hd2 hc2 hr2 listed a w hall hj
    · have hkn : ops.size ≤ k := by
        rcases Nat.lt_or_ge k ops.size with h | h
        · have := (hlk k).1 (hall k h); omega
        · exact h
      rw [List.drop_eq_nil_of_le (by simp at hml; omega)] at hr
      exact PostK.normal hr hv
  have noready : ∀ (listed : Array Bool), listed.size = ops.size → Region.ready .any ops listed = [] → ∀ i, i < ops.size → L listed i := by
    intro listed hsz hnil i
    induction i using Nat.strongRecOn with
    | _ i ih =>
      intro hi
      rcases Classical.em (L listed i) with h | h
      · exact h
      · exfalso
        have : i ∈ Region.ready .any ops listed := by
          refine mem_ready.2 ⟨?_, ops[i], Array.getElem?_eq_getElem hi, fun e he hb => ?_⟩
          · unfold L at h
            have hlt : i < listed.size := by omega
            simp [hlt] at h ⊢
            exact h
          · have := hd1.lt i ops[i] e (Array.getElem?_eq_getElem hi) he hb
            exact ih e.on this (by omega)
        rw [hnil] at this
        cases this
  -- a list that is closed goes over to the other order
  have ready_R : ∀ {x y : Nat} {listed : Array Bool} {i : Nat}, Closed ops listed → i ∈ Region.ready .any ops listed → (∀ i j, RuU ops x y i j → L listed j → L listed i) → (i = y → L listed x) → ∀ j, RuU ops x y j i → L listed j := by
    intro x y listed i hcl hi hR hy j hr
    rcases hr with hr | ⟨hjx, hiy⟩
    · exact ready_reach hcl hr hi
    · have hx : L listed x := by
        rcases hiy with hiy | hiy
        · exact hy hiy
        · exact hR x y (.inr ⟨.inl rfl, .inl rfl⟩) (ready_reach hcl hiy hi)
      rcases hjx with rfl | hjx
      · exact hx
      · exact closed_reach hcl hjx hx
  have clo_R : ∀ {x y : Nat} {listed : Array Bool}, Closed ops listed → ¬ L listed y → ∀ i j, RuU ops x y i j → L listed j → L listed i := by
    intro x y listed hcl hy i j hr hL
    rcases hr with hr | ⟨_, hj⟩
    · exact closed_reach hcl hr hL
    · rcases hj with rfl | hj
      · exact absurd hL hy
      · exact absurd (closed_reach hcl hj hL) hy
  intro fuel
  induction fuel with
  | zero =>
    intro listed a w hsz hcl hcnt hj
    have hall : ∀ i, i < ops.size → L listed i := fun i hi => by
      have := cnt_zero hcnt i hi
      unfold L
      simpa using this
    refine ⟨?_, done listed a w hall hj⟩
    cases hr : Region.ready .any ops listed with
    | nil => rfl
    | cons i l =>
      exfalso
      have hi : i ∈ Region.ready .any ops listed := by rw [hr]; simp
      obtain ⟨h0, o, ho, _⟩ := mem_ready.1 hi
      have hlt := (Array.getElem?_eq_some_iff.1 ho).1
      have := hall i hlt
      unfold L at this
      have hlt' : i < listed.size := by omega
      simp [hlt'] at h0 this
      rw [h0] at this
      cases this
  | succ fuel ih =>
    intro listed a w hsz hcl hcnt hj
    refine ⟨fun hnil => done listed a w (noready listed hsz hnil) hj, fun i hi => ?_⟩
    obtain ⟨h0, o, ho, _⟩ := mem_ready.1 hi
    have hlt := (Array.getElem?_eq_some_iff.1 ho).1
    have hnot : ¬ L listed i := by
      unfold L
      have hlt' : i < listed.size := by omega
      simp [hlt'] at h0 ⊢
      exact h0
    have hcnt' : cnt ops.size (fun j => !(listed.setIfInBounds i true).getD j false) = fuel := by
      have := cnt_less (f := fun j => !listed.getD j false) (g := fun j => !(listed.setIfInBounds i true).getD j false) (i := i) (n := ops.size) hlt (by unfold L at hnot; simpa using hnot) (by
        have : L (listed.setIfInBounds i true) i := L_set.2 (.inl ⟨rfl, by omega⟩)
        unfold L at this
        rw [this]
        rfl) (fun j hj => by rw [getD_set_ne false (fun e => hj e.symm)])
      omega
    have go : ∀ a' w', (JR C En nt nA base tot s0 (RuU ops u.i v.i) (p ++ u :: v :: d) vs1 S1 (listed.setIfInBounds i true) a' w' ∨ JR C En nt nA base tot s0 (RuU ops v.i u.i) (p ++ v :: u :: d) vs2 S2 (listed.setIfInBounds i true) a' w' ∨ JT C E En nt ml nA K (listed.setIfInBounds i true) a' w') → wpAnyIn F n C.P .any ops (PostK C En nt K) fuel (listed.setIfInBounds i true) a' w' := fun a' w' hj' =>
      ih _ a' w' (by simp [hsz]) (closed_set hcl hi) hcnt' hj'
    have go1 : (i = v.i → L listed u.i) → JR C En nt nA base tot s0 (RuU ops u.i v.i) (p ++ u :: v :: d) vs1 S1 listed a w → wpOpIn F n C.P ops (PostK C En nt K) i (fun a' w' => wpAnyIn F n C.P .any ops (PostK C En nt K) fuel (listed.setIfInBounds i true) a' w') a w := fun hy hj =>
      wpOpIn_mono (fun a' w' h' => go a' w' (h'.elim .inl fun h => .inr (.inr h))) (step_jr hF hE hX hRr hcomp hd1 ha1 hc1 hu0 h00 hr1 hsz hcl hi (ready_R hcl hi hj.1 hy) hj)
    have go2 : (i = u.i → L listed v.i) → JR C En nt nA base tot s0 (RuU ops v.i u.i) (p ++ v :: u :: d) vs2 S2 listed a w → wpOpIn F n C.P ops (PostK C En nt K) i (fun a' w' => wpAnyIn F n C.P .any ops (PostK C En nt K) fuel (listed.setIfInBounds i true) a' w') a w := fun hy hj =>
      wpOpIn_mono (fun a' w' h' => go a' w' (h'.elim (fun h => .inr (.inl h)) fun h => .inr (.inr h))) (step_jr hF hE hX hRr hcomp hd2 ha2 hc2 hu0 h00 hr2 hsz hcl hi (ready_R hcl hi hj.1 hy) hj)
    have hne : u.i ≠ v.i := (hd1.pair p.length (p.length + 1) u v (by omega) (by rw [List.getElem?_append_right (Nat.le_refl _)]; simp) (by rw [List.getElem?_append_right (by omega)]; simp)).ne
    rcases hj with hj | hj | ⟨k, hk, hlk, s', hr, hv⟩
    · by_cases hc : i = v.i ∧ ¬ L listed u.i
      · obtain ⟨rfl, hnu⟩ := hc
        obtain ⟨_, hno, t, h, hv, htm, hhp⟩ := hj
        exact go2 (fun e => absurd e.symm hne) ⟨clo_R hcl hnu, hno, t, h, hv, tm_conv hvs hnu hnot htm, hp_conv hwu hwv hS hnu hnot hhp⟩
      · exact go1 (fun e => by
          rcases Classical.em (L listed u.i) with h | h
          · exact h
          · exact absurd ⟨e, h⟩ hc) hj
    · by_cases hc : i = u.i ∧ ¬ L listed v.i
      · obtain ⟨rfl, hnv⟩ := hc
        obtain ⟨_, hno, t, h, hv, htm, hhp⟩ := hj
        exact go1 (fun e => absurd e hne) ⟨clo_R hcl hnv, hno, t, h, hv, tm_conv (fun q hq => (hvs q hq).symm) hnv hnot htm, hp_conv hwv hwu (fun q hq => (hS q hq).symm) hnv hnot hhp⟩
      · exact go2 (fun e => by
          rcases Classical.em (L listed v.i) with h | h
          · exact h
          · exact absurd ⟨e, h⟩ hc) hj
    · obtain ⟨m, hm, hcm⟩ : ∃ m, ml[i]? = some m ∧ compO C.P md nt ops o = some m := (compOs_get hcomp).2 i o (by simpa using ho)
      have hdrop : ml.drop i = m :: ml.drop (i + 1) := by
        obtain ⟨h1, h2⟩ := List.getElem?_eq_some_iff.1 hm
        rw [List.drop_eq_getElem_cons h1, h2]
      have hik : i = k := by
        have h1 : ¬ i < k := fun h => hnot ((hlk i).2 h)
        rcases Nat.lt_or_ge k i with h | h
        · have := ready_reach hcl (hd1.wait i k (by omega) hlt h) hi
          have := (hlk k).1 this
          omega
        · omega
      subst hik
      rw [hdrop] at hr
      refine wpOpIn_mono (fun a' w' h' => go a' w' ?_) (step_op hF hE hX hRr (compOs_dst hcomp) ho hcm hr hv)
      refine .inr (.inr ⟨i + 1, by omega, fun j => ?_, h'⟩)
      rw [L_set, hlk]
      constructor
      · rintro (⟨h, _⟩ | h) <;> omega
      · intro h
        rcases Nat.lt_or_ge j i with h' | h'
        · exact .inr (by omega)
        · exact .inl ⟨by omega, by omega⟩
theorem catF_lt {α : Type} {n q : Nat} {f g : Nat → α} (h : q < n) : catF n f g q = f q := by unfold catF; rw [if_pos h]
theorem catF_ge {α : Type} {n q : Nat} {f g : Nat → α} (h : n ≤ q) : catF n f g q = g (q - n) := by unfold catF; rw [if_neg (by omega)]
theorem isWr_spec {ml : List MOp} {i : Nat} {m : MOp} (h : isWr ml i = true) (hm : ml[i]? = some m) : clsOf m = some .a ∨ clsOf m = some .w ∨ clsOf m = some .q := by
  unfold isWr at h
  rw [hm] at h
  dsimp only at h
  cases hc : clsOf m with
  | none => rw [hc] at h; cases h
  | some c => rw [hc] at h; cases c <;> simp at h <;> simp
theorem region_drw2 (hF : WF F) (hD : DetE E) (hE : EvCalls C E) (hX : XGoal C E) (hR : ∀ l, F.round = some l → ∃ r, En.w.heap[l]? = some (.loop r)) {id : Nat} (hf : C.P.follows .mixedOrders = true) (hcomp : compOs C.P md nt ops ops.toList = some ml) {mc : MC} (hm : compDrw2 ops ml = some mc) {n0 : Nat} {s : St} {K : KT} (h : (exB C E n0 mc s K).holds) {a : Act} {w : World} (hv : Inv C En nt s a w) :
    (Code.region id ops true).wpIn F n C.P (PostK C En nt K) a w := by
  unfold compDrw2 at hm
  dsimp only at hm
  split at hm
  · cases hm
  · rename_i iu iv hinc
    split at hm
    · cases hm
    · rename_i l hmk
      split at hm
      · rename_i u v d hdrop
        split at hm
        · rename_i hok
          cases hm
          simp only [Bool.and_eq_true, beq_iff_eq] at hok
          obtain ⟨⟨⟨⟨⟨e1, e2⟩, w1⟩, w2⟩, k1⟩, k2⟩ := hok
          subst e1 e2
          generalize hps : ((List.range (sufN (clo ops.toList []) ops.size)).filter fun j => ((clo ops.toList []).getD u.i []).contains j || ((clo ops.toList []).getD v.i []).contains j) = ps at hmk hdrop k1 k2 h
          generalize hp : l.take ps.length = p at k1 k2 h
          generalize hnA : sufN (clo ops.toList []) ops.size = nA at hmk k1 k2 h
          generalize htot : slN ml nA = tot at k1 k2 h
          have hl : l = p ++ u :: v :: d := by rw [← hp, ← hdrop, List.take_append_drop]
          have hmem : ∀ x ∈ p ++ u :: v :: d, ml[x.i]? = some x.m ∧ SlotOk x := fun x hx => mkD2_spec hmk x (hl ▸ hx)
          have hcl : ∀ j i, i ∈ (clo ops.toList []).getD j [] → Reach ops i j := clo_reach (fun q => by simp) (fun j i hi => by simp at hi)
          obtain ⟨hd1, ha1⟩ := drwA_spec (anU_reach hcl) k1 hmem
          obtain ⟨hd2, ha2⟩ := drwA_spec (anU_reach hcl) k2 (fun x hx => hmem x (swap_mem.1 hx))
          have hwu : wrD u := isWr_spec w1 (hmem u (by simp)).1
          have hwv : wrD v := isWr_spec w2 (hmem v (by simp)).1
          simp only [exB] at h
          obtain ⟨vsP, SP, hcP, h⟩ := canD hD p _ _ h
          obtain ⟨vsA, SA, hcA, h⟩ := canD hD [u, v] _ _ h
          obtain ⟨h2, h⟩ := h
          obtain ⟨vsD, SD, hcD, hrest⟩ := canD hD d _ _ h
          obtain ⟨vsB, SB, hcB, h5⟩ := canD hD [v, u] _ _ (hold2_holds h2)
          have h5 : SB 2 = SA 2 := h5
          have hcD2 : CanD C E s.h.length d (SB [v, u].length) vsD SD := by
            show CanD C E s.h.length d (SB 2) vsD SD
            rw [h5]; exact hcD
          have hc1 := canD_cat hcP (canD_cat hcA hcD)
          have hc2 := canD_cat hcP (canD_cat hcB hcD2)
          have eS1 : catF p.length SP (catF [u, v].length SA SD) (p ++ u :: v :: d).length = SD d.length := by
            rw [catF_ge (by simp), catF_ge (by simp)]
            congr 1
            simp
          have eS2 : catF p.length SP (catF [v, u].length SB SD) (p ++ v :: u :: d).length = SD d.length := by
            rw [catF_ge (by simp), catF_ge (by simp)]
            congr 1
            simp
          have empty : ∀ i, ¬ L (Array.replicate ops.size false) i := fun i hi => by
            unfold L at hi
            rcases Nat.lt_or_ge i ops.size with h | h
            · simp [h] at hi
            · simp [h] at hi
          have h00 : (s.h ++ List.replicate tot (some Blk.unb)).length = s.h.length + tot := by simp
          have h0 : ∀ r, r < tot → (s.h ++ List.replicate tot (some Blk.unb))[s.h.length + r]? = some (some Blk.unb) := fun r hr => by
            rw [List.getElem?_append_right (by omega), show s.h.length + r - s.h.length = r by omega]
            simp [hr]
          refine wpIn_region_any hf (drw_any2 hF hE hX hR hcomp hd1 ha1 hc1 hd2 ha2 hc2 hwu hwv (fun q hq => ?_) (fun q hq => ?_) h0 h00 (by rw [eS1]; exact hrest) (by rw [eS2]; exact hrest) ops.size _ a _ (by simp) (fun j o e hj => absurd hj (empty j)) ?_ (.inl ⟨fun i j _ hL => absurd hL (empty j), fun i _ hi => empty i hi, s.t, s.h ++ List.replicate tot (some Blk.unb), ?_, ⟨fun q d p _ hL => absurd hL (empty _), fun p _ => rfl⟩, ?_⟩))
          · rcases hq with hq | hq
            · rw [catF_lt hq, catF_lt hq]
            · have g1 : ∀ vsX : Nat → AV, catF p.length vsP (catF 2 vsX vsD) q = vsD (q - p.length - 2) := fun vsX => by
                rw [catF_ge (n := p.length) (by omega)]
                exact catF_ge (by omega)
              exact (g1 vsA).trans (g1 vsB).symm
          · rcases Nat.lt_or_ge q p.length with h1 | h1
            · rw [catF_lt h1, catF_lt h1]
            · have : q = p.length := by omega
              subst this
              rw [catF_ge (Nat.le_refl _), catF_ge (Nat.le_refl _), Nat.sub_self, catF_lt (by simp), catF_lt (by simp), hcA.zero, hcB.zero]
          · rw [cnt_congr (g := fun _ => true) fun i hi => by simp [hi]]
            exact cnt_all _
          · obtain ⟨Z, φ, hs, hS, hm⟩ := hv
            have hst : Stays w { w with drawn := w.drawn + 1 } := (Below.refl _ _).drew
            have W := Way.stays (Z' := Z) hs.h hs.b hst (fun _ h => h) (fun _ h => .inl h)
            exact pad_inv tot (s := s) ⟨Z, φ, ⟨hs.h.stays hst (fun _ h => h) (fun _ h => .inl h), hs.g.go W.z1 W.o, hs.b, hs.sz, fun j => (hs.t j).tra W.t⟩, hS.way W, hm.go W.z1 W.o⟩
          · obtain ⟨μ, m1, m2, m3, m4⟩ := next_wr (p ++ u :: v :: d) (p ++ u :: v :: d).length 0 (by omega)
            refine ⟨h00, μ, m2, fun q x hq hw => ⟨fun hlt => absurd hw (m4 q x (by omega) hlt hq), fun hL => absurd hL (empty _)⟩, m3, fun k hk => ⟨?_, fun hu => ?_⟩⟩
            · rintro ⟨q, x, r, hq, hs, rfl, _⟩
              exact h0 r ((hd1.self q x hq).2.2.1 r hs)
            · have := cstay hd1 hc1 (k := k) μ 0 (by omega) fun q' d' m5 m6 hq' => ⟨m4 q' d' m5 (by omega) hq', fun r hs e => hu ⟨q', d', r, hq', hs, e.symm, empty _⟩⟩
              rw [Nat.zero_add] at this
              rw [this, hc1.zero]
        · cases hm
      · cases hm
end
end Go.Ab
namespace Go.Ab
open Go.RowKit
variable {C : Cfg} {E : Ev}
theorem WF.callsW {F : Fence} (h : WF F) {n : Nat} {P : Program} {f : FuncId} {args : Array Value} {w : World} {R : Ending → World → Prop} (hc : CallsIn F n P f args w R) : Calls P f args w R :=
  fun cs => let ⟨e, w', fr, r, s, x⟩ := hc.2 cs (h.room _); ⟨e, w', fr, r, h.comes.1 s, x⟩
theorem cutO_sound {l : List CV} {off : Nat} {sz : Option Nat} {v : AV} (h : cutO l off sz = some v) {H : Heap} {w : World} {Z : Nat → Prop} {φ : Nat → Value} {us : List Value} (hl : RepL w Z H φ l us) : CutRes w Z H φ v us off sz := by
  cases sz with
  | none =>
    simp only [cutO] at h
    split at h
    · rename_i c hc
      cases h
      obtain ⟨u, hu, hr⟩ := hl.2 off c hc
      exact ⟨u, hu, by simpa only [RepA] using hr⟩
    · cases h
  | some m =>
    simp only [cutO] at h
    split at h
    · rename_i hm
      cases h
      have hm := Nat.le_of_ble_eq_true hm
      obtain ⟨v, hv, hcut⟩ := cut_sound (H := H) (K := fun v => .pr (v = .ag ((l.drop off).take m))) (l := l) (off := off) (sz := some m) ⟨hm, rfl⟩
      have hv : v = .ag ((l.drop off).take m) := hv
      subst hv
      exact hcut w Z φ us hl
    · cases h
theorem loadVar_run {t : TypeId} {sz : Option Nat} (hs : szOf C.P t = some sz) {w : World} {ad : Addr} :
      match sz with
      | none => ∀ u, w.cell? ad = some u → (loadVar t ad).run C.P w = .ok u w
      | some m => ∀ us : List Value, us.length = m → (∀ j v, us[j]? = some v → w.cell? (ad.add j) = some v) → (loadVar t ad).run C.P w = .ok (.agg us.toArray) w := by
  cases sz with
  | none =>
    intro u hu0
    simp [loadVar, szOf_scalar hs, hu0]
  | some m =>
    intro us hm hc
    obtain ⟨h1, i, hi, hsz⟩ := szOf_agg hs w
    have hl := run_loadCells_list (P := C.P) w ad us hc
    rw [hm] at hl
    simp [loadVar, h1, sizeOf, typeInfo, hi, hsz, hl]
theorem res_run {O : Nat → Prop} {fn : Func} {rs : List RV} (hr : resT C.P fn.results.toList = some rs) {tmps : Array Value} {Z : Nat → Prop} {φ : Nat → Value} {t : Tr} {H : Heap} {w : World} (hs : SimH C O Z φ H w)
    (ht : RepT w Z H φ t tmps) {r : AV} (hv : resA H t rs = some r) : ∃ v, (results fn tmps).run C.P w = .ok v w ∧ RepA w Z H φ r v := by
  have key0 : ∀ {F : ResultVar → Sem Value}, (∀ t, F (.tmp t) = Pure.pure (tmps.getD t undef)) → (∀ a t, F (.cell a t) = (do loadVar t (← asAddr (tmps.getD a undef)))) →
      ∀ {l : List ResultVar} {rs : List RV} {q : List AV}, resT C.P l = some rs → resL H t rs = some q → ∃ us, (l.mapM F).run C.P w = .ok us w ∧ us.length = q.length ∧ RepAs w Z H φ q us := by
    intro F h1 h2 l
    induction l with
    | nil =>
      intro rs q hr hq
      simp only [resT] at hr
      cases hr
      simp only [resL] at hq
      cases hq
      exact ⟨[], by simp, rfl, by simp [RepAs]⟩
    | cons x l ih =>
      intro rs q hr hq
      have hd : ∃ y rs', rs = y :: rs' ∧ resT C.P l = some rs' ∧ ∀ a, resO H t y = some a → ∃ u, (F x).run C.P w = .ok u w ∧ RepA w Z H φ a u := by
        cases x with
        | tmp i =>
          simp only [resT, Option.map_eq_some_iff] at hr
          obtain ⟨rs', hr', rfl⟩ := hr
          refine ⟨_, _, rfl, hr', fun a ha => ⟨tmps.getD i undef, by simp [h1], ?_⟩⟩
          simp only [resO] at ha
          cases ha
          exact ht i
        | cell c ty =>
          simp only [resT] at hr
          split at hr
          · rename_i sz rs' hsz hr'
            cases hr
            refine ⟨_, _, rfl, hr', fun a ha => ?_⟩
            simp only [resO] at ha
            split at ha
            · rename_i k off hx
              split at ha
              · rename_i l' hk
                have hr := ht c
                rw [hx] at hr
                obtain ⟨hr1, _, hr3⟩ := hr_c hr
                obtain ⟨b, hb1, hb2⟩ := hr3 _ l' hk
                obtain ⟨b', t', us, e1, hh, hl⟩ := hs.blk k _ hk
                rw [hb1] at e1
                cases e1
                have hcell : ∀ i : Nat, w.cell? ⟨b, i, none⟩ = us.toList[i]? := fun i => by rw [cell_of_row w b i us _ (0, 0) hh]; simp
                have hcut' := cutO_sound ha hl
                have hF : ∀ u, (loadVar ty ⟨b, off, none⟩).run C.P w = .ok u w → (F (.cell c ty)).run C.P w = .ok u w := fun u hu => by
                  rw [h2, hb2]
                  simp [asAddr, hu]
                cases sz with
                | none =>
                  obtain ⟨u, hu, hru⟩ := hcut'
                  exact ⟨u, hF _ (loadVar_run hsz u (by rw [hcell]; exact hu)), hru⟩
                | some m =>
                  obtain ⟨hlen, hru⟩ := hcut'
                  refine ⟨_, hF _ (loadVar_run hsz ((us.toList.drop off).take m) (by simp; simp at hlen; omega) (fun j v hj => ?_)), hru⟩
                  rw [add_lit, hcell]
                  rw [List.getElem?_take] at hj
                  split at hj
                  · rwa [List.getElem?_drop] at hj
                  · cases hj
              · cases ha
            · cases ha
          · cases hr
      obtain ⟨y, rs', rfl, hr', hone⟩ := hd
      simp only [resL] at hq
      split at hq
      · rename_i a ha
        split at hq
        · rename_i q' hq'
          cases hq
          obtain ⟨u, hu, hru⟩ := hone a ha
          obtain ⟨us, hus, hlen, hrs⟩ := ih hr' hq'
          refine ⟨u :: us, by simp [hu, hus], by simp [hlen], ?_⟩
          simp only [RepAs]
          exact ⟨u, us, rfl, hru, hrs⟩
        · cases hq
      · cases hq
  unfold resA at hv
  cases hq : resL H t rs with
  | none => rw [hq] at hv; cases hv
  | some q =>
    rw [hq] at hv
    have hm : ∀ (F : ResultVar → Sem Value), (∀ t, F (.tmp t) = Pure.pure (tmps.getD t undef)) → (∀ a t, F (.cell a t) = (do loadVar t (← asAddr (tmps.getD a undef)))) →
        ∃ us : List Value, (fn.results.mapM F).run C.P w = .ok us.toArray w ∧ us.length = q.length ∧ RepAs w Z H φ q us := by
      intro F h1 h2
      obtain ⟨us, hu, hlen, hus⟩ := key0 h1 h2 hr hq
      refine ⟨us, ?_, hlen, hus⟩
      have : fn.results = fn.results.toList.toArray := by simp
      rw [this, List.mapM_toArray]
      simp [hu]
    have key : ∀ (F : ResultVar → Sem Value), (∀ t, F (.tmp t) = Pure.pure (tmps.getD t undef)) → (∀ a t, F (.cell a t) = (do loadVar t (← asAddr (tmps.getD a undef)))) →
        ∃ v, ((do
          let vs ← fn.results.mapM F
          pure (if h : vs.size = 1 then vs[0] else .tuple vs) : Sem Value)).run C.P w = .ok v w ∧ RepA w Z H φ r v := by
      intro F h1 h2
      obtain ⟨us, hu, hlen, hus⟩ := hm F h1 h2
      rw [Sem.run_bind, hu]
      simp only [Result.andThen_ok]
      rcases us with _ | ⟨u, _ | ⟨u', us⟩⟩ <;> rcases q with _ | ⟨x, _ | ⟨x', q⟩⟩ <;> simp at hlen
      · cases hv
        exact ⟨_, by simp; rfl, by simp only [RepA]; exact ⟨[], rfl, hus⟩⟩
      · cases hv
        simp only [RepAs] at hus
        obtain ⟨u0, us0, he, h1, h2⟩ := hus
        cases he
        exact ⟨u, by simp, h1⟩
      · cases hv
        refine ⟨.tuple (u :: u' :: us).toArray, by simp, ?_⟩
        simp only [RepA]
        exact ⟨_, rfl, hus⟩
    exact key (fun x => match x with
      | .tmp t => pure (tmps.getD t undef)
      | .cell a t => do loadVar t (← asAddr (tmps.getD a undef))) (fun _ => rfl) (fun _ _ => rfl)
def LoopAt (F : Fence) (n : Nat) (P : Program) (c : Code) (Q : Exit → Act → World → Prop) (a : Act) (w : World) : Prop :=
  ∀ (b : Frame) (k : List Item) (cs : List Frame), b.roundOf = F.round → F.fn b.fn → F.room (cs.length + 1 + n) → ∃ e a' w', Q e a' w' ∧ ArrivesIn (Machine.fenced P F) P (lone (b.atR a (.code c :: .inLoop c :: k)) cs w) b k cs e a' w'
theorem loop_of_at {F : Fence} {n : Nat} {P : Program} {c : Code} {Q : Exit → Act → World → Prop} {a : Act} {w : World} (h : LoopAt F n P c Q a w) : (Code.loop c).wpIn F n P Q a w :=
  fun b k cs hro hb hr => let ⟨e, a', w', hq, harr⟩ := h b k cs hro hb hr; ⟨e, a', w', hq, .of_steps (.one (fenced_calm hb hr rfl) stepR_loop) harr⟩
theorem at_round {F : Fence} {n : Nat} {P : Program} {c : Code} {Q : Exit → Act → World → Prop} {a : Act} {w : World} (h : c.wpIn F n P (Exit.then (LoopAt F n P c Q) Q) a w) : LoopAt F n P c Q a w := by
  intro b k cs hro hb hr
  obtain ⟨e, a₁, w₁, hq, harr⟩ := h b (.inLoop c :: k) cs hro hb hr
  cases e with
  | normal =>
    obtain ⟨e₂, a₂, w₂, hq₂, harr₂⟩ := hq b k cs hro hb hr
    exact ⟨e₂, a₂, w₂, hq₂, .of_steps (StepsIn.trans harr (.one (fenced_calm hb hr rfl) stepR_inLoop)) harr₂⟩
  | exit id => exact ⟨_, a₁, w₁, hq, .pass (x := .inLoop c) rfl (fun _ _ => .inl (by simp)) harr⟩
  | goto l => exact ⟨_, a₁, w₁, hq, .pass (x := .inLoop c) rfl (fun _ _ => .inl (by simp)) harr⟩
  | ret => exact ⟨_, a₁, w₁, hq, .pass (x := .inLoop c) rfl (fun _ _ => .inl (by simp)) harr⟩
  | panic ch => exact ⟨_, a₁, w₁, hq, .pass (x := .inLoop c) rfl (fun _ _ => .inl (by simp)) harr⟩
  | outgrown => exact ⟨_, a₁, w₁, hq, .pass (x := .inLoop c) rfl (fun _ _ => .inl (by simp)) harr⟩
def Wp (F : Fence) (n : Nat) (P : Program) : Code → (Exit → Act → World → Prop) → Act → World → Prop
  | .loop c, Q, a, w => LoopAt F n P c Q a w
  | c, Q, a, w => c.wpIn F n P Q a w
theorem Wp.wp {F : Fence} {n : Nat} {P : Program} {c : Code} {Q : Exit → Act → World → Prop} {a : Act} {w : World} (h : Wp F n P c Q a w) : c.wpIn F n P Q a w := by
  cases c <;> first | exact h | exact loop_of_at h
def Good (C : Cfg) (nt : Nat) (n0 : Nat) (c : Code) (s : St) (K : KT) : Prop :=
  ∀ (En : Ent), En.H.length = n0 → ∀ (F : Fence) (n : Nat), WF F → (∀ l, F.round = some l → ∃ r, En.w.heap[l]? = some (.loop r)) → ∀ (a : Act) (w : World), Inv C En nt s a w → Wp F n C.P c (PostK C En nt K) a w
def SoundE (C : Cfg) (E : Ev) : Prop := ∀ (md : Nat → Nat) (c : Code) (mc : MC) (nt : Nat), comp C.P md nt c = some mc → ∀ (n0 : Nat) (s : St) (K : KT), (E n0 mc s K).holds → Good C nt n0 c s K
def CPost (C : Cfg) (O : Nat → Prop) (w : World) (Z : Nat → Prop) (H : Heap) (φ : Nat → Value) (K Kp : AV → Heap → VC) : Ending → World → Prop
  | .returned u, w' => ∃ Z' φ' H' v, SimH C O Z' φ' H' w' ∧ Way O w w' Z Z' H H' φ φ' ∧ (K v H').holds ∧ RepA w' Z' H' φ' v u
  | .panicked c, w' => ∃ Z' φ' H' v u, SimH C O Z' φ' H' w' ∧ Way O w w' Z Z' H H' φ φ' ∧ (Kp v H').holds ∧ RepA w' Z' H' φ' v u ∧ c = [{ v := u, recovered := false }]
  | .outgrown, _ => False
theorem repAs_len {w : World} {Z : Nat → Prop} {H : Heap} {φ : Nat → Value} : ∀ {l : List AV} {us : List Value}, RepAs w Z H φ l us → l.length = us.length
  | [], us, h => by simp only [RepAs] at h; rw [h]; rfl
  | a :: l, us, h => by
    simp only [RepAs] at h
    obtain ⟨u, us', rfl, _, h2⟩ := h
    simp [repAs_len h2]
theorem ofL_get : ∀ {l : List AV} {k : Nat} {t : Tr} {j : Nat}, Tr.get (ofN j) (ofL k l t) = if k ≤ j ∧ j < k + l.length then l.getD (j - k) .any else Tr.get (ofN j) t
  | [], k, t, j => by simp only [ofL, List.length_nil]; rw [if_neg (by omega)]
  | a :: l, k, t, j => by
    simp only [ofL]
    rw [ofL_get]
    by_cases hjk : j = k
    · subst hjk
      rw [if_neg (by omega), if_pos (by simp), Tr.get_set_same]
      simp
    · by_cases h : k + 1 ≤ j ∧ j < k + 1 + l.length
      · rw [if_pos h, if_pos (by simp; omega)]
        have : j - k = (j - (k + 1)) + 1 := by omega
        rw [this]
        simp
      · rw [if_neg h, if_neg (by simp; omega), Tr.get_set_other _ _ (fun e => hjk (ofN_inj e))]
theorem start_rep {w : World} {Z : Nat → Prop} {H : Heap} {φ : Nat → Value} {args : List AV} {vs : List Value} (ha : RepAs w Z H φ args vs) (m : Nat) : RepT w Z H φ (ofL 0 args .lf) (vs.toArray ++ Array.replicate m undef) := by
  intro j
  rw [ofL_get]
  have hlen := repAs_len ha
  split
  · rename_i h
    have hj : j < args.length := by omega
    obtain ⟨u, hu, hr⟩ := repAs_get ha (i := j) (a := args.getD (j - 0) .any) (by simp [List.getD, hj])
    have hjv : j < vs.length := by omega
    have : (vs.toArray ++ Array.replicate m undef).getD j undef = u := by
      rw [Array.getD_eq_getD_getElem?, Array.getElem?_append_left (by simpa using hjv)]
      simp [hu]
    rw [this]
    exact hr
  · rw [Tr.get_lf]
    simp only [RepA]
theorem take_mark {O : Nat → Prop} {Z : Nat → Prop} {φ : Nat → Value} {H : Heap} {w : World} (hs : SimH C O Z φ H w) {D : Nat} (hZ : Z D) (hD : w.heap[D]? = some (.deferred (some []))) {o : Obj} (ho : ∀ c t f, o ≠ .cells c t f) (hl : ∀ r, o ≠ .loop r) :
    SimH C O Z φ H (w.putObj D o) ∧ Tra w (w.putObj D o) Z Z H H φ φ ∧ (∀ p : Addr, (w.putObj D o).cell? p = w.cell? p) := by
  have hlt : D < w.heap.size := (Array.getElem?_eq_some_iff.1 hD).1
  have hcell : ∀ p : Addr, (w.putObj D o).cell? p = w.cell? p := fun p => by
    by_cases hp : p.block = D
    · unfold World.cell?
      rw [hp, World.putObj_heap_same hlt, hD]
      cases o <;> first | rfl | exact absurd rfl (ho _ _ _)
    · exact World.cell?_of_block (World.putObj_heap_other hp)
  have T : Tra w (w.putObj D o) Z Z H H φ φ := Turn.tra ⟨fun _ h => h, fun p _ => hcell p, fun k b hk _ => ⟨rfl, ⟨b, hk⟩, fun e t n f ups hb => ⟨f, ups, hb ▸ hk⟩, fun t l hb => ⟨l, hb ▸ hk⟩, fun hb => hb ▸ hk⟩, Nat.le_refl _⟩
  exact ⟨⟨fun b hb => by simpa using hs.zlt b hb, fun k b hk => (hs.blk k b hk).turn T (fun _ h => h) (fun p _ => hcell p) rfl fun g hg => World.putObj_heap_other (fun e => hs.sep k b g hk hg (e ▸ hZ)), hs.own, hs.sep, hs.inj⟩, T, hcell⟩
structure Out (C : Cfg) (En : Ent) (t : Tr) (H : Heap) (φ : Nat → Value) (Z : Nat → Prop) (tmps : Array Value) (w : World) : Prop where
  h : SimH C En.O Z φ H w
  S : Since En Z H φ w
  t : RepT w Z H φ t tmps
theorem out_mark {En : Ent} {t : Tr} {H : Heap} {φ : Nat → Value} {Z : Nat → Prop} {tmps : Array Value} {w : World} (h : Out C En t H φ Z tmps w) (hz0 : ∀ b, En.Z b → b < En.w.heap.size) {D : Nat} (hm : En.w.heap.size ≤ D) (hZ : Z D) (hD : w.heap[D]? = some (.deferred (some []))) :
    Out C En t H φ Z tmps (w.putObj D (.deferred none)) := by
  obtain ⟨h1, T, hc⟩ := take_mark h.h hZ hD (o := .deferred none) (fun _ _ _ h => by cases h) (fun _ h => by cases h)
  have hlt : D < w.heap.size := (Array.getElem?_eq_some_iff.1 hD).1
  refine ⟨h1, ⟨⟨h.S.k.os, h.S.k.tape, h.S.k.output, by simpa using h.S.k.size, fun k hk hO => ?_, fun b r hb => ?_⟩, h.S.z1, h.S.z2, h.S.t.trans T, fun b hb => ?_⟩, h.t.tra T⟩
  · rw [World.putObj_heap_other (by omega)]; exact h.S.k.block k hk hO
  · obtain ⟨r', hr', he⟩ := h.S.k.lp b r hb
    refine ⟨r', ?_, he⟩
    rw [World.putObj_heap_other (fun e => by rw [e, hD] at hr'; cases hr')]
    exact hr'
  · have := hz0 b hb
    rw [World.putObj_heap_other (by omega)]; exact h.S.o b hb
theorem leaves {F : Fence} {n : Nat} {fn : Func} {En : Ent} {t : Tr} {H : Heap} {φ : Nat → Value} {Z : Nat → Prop} {tmps ts : Array Value} (hz0 : ∀ b, En.Z b → b < En.w.heap.size) {R : Ending → World → Prop} {u : FrameMode} (hu : u ≠ .run)
    (hend : ∀ w, Out C En t H φ Z ts w → LeavesIn F n C.P fn tmps R [] u w) : ∀ (ds : List Deferred) (w : World), Out C En t H φ Z ts w → Marks En.w.heap.size Z w ds → LeavesInM F n C.P fn tmps R ds u w
  | [], w, ho, _ => hend w ho
  | d :: ds, w, ho, hm => by
    obtain ⟨D, rfl, hD1, hD2, hD3⟩ := hm.2 d (by simp)
    refine ⟨hu, .inl ⟨D, _, rfl, run_takeDeferred hD3, leaves hz0 hu hend ds _ (out_mark ho hz0 hD1 hD2 hD3) ⟨?_, fun d hd => ?_⟩⟩⟩
    · have := hm.1
      simp only [List.map_cons, List.pairwise_cons] at this
      exact this.2
    · obtain ⟨D', rfl, h1, h2, h3⟩ := hm.2 d (List.mem_cons_of_mem _ hd)
      refine ⟨D', rfl, h1, h2, ?_⟩
      rw [World.putObj_heap_other]
      · exact h3
      · have := hm.1
        simp only [List.map_cons, List.pairwise_cons] at this
        intro e
        subst e
        exact this.1 _ (List.mem_map.2 ⟨_, hd, rfl⟩) D' rfl rfl
theorem call_fn (hS : SoundE C E) {f : FuncId} {F : Fn} (ok : FnOk C f F) {H : Heap} {args : List AV} {K Kp : AV → Heap → VC} (h : (E H.length F.mc ⟨ofL 0 args .lf, H⟩ (endK F.rs K Kp)).holds) {O Z : Nat → Prop} {φ : Nat → Value} {w : World} {vs : List Value}
    (hs : SimH C O Z φ H w) (hg : GRep C.G w Z) (hb : ∀ b, w.heap.size ≤ b → O b) (ha : RepAs w Z H φ args vs) : Calls C.P f vs.toArray w (CPost C O w Z H φ K Kp) := by
  obtain ⟨fn, c, md, hf, hbd, hc, hr, hn, _⟩ := ok.ex
  refine WF.callsW (n := 0) WF.wide (callsIn_of_wp_marks hf hbd trivial (wpIn_mono (hS md c F.mc F.nt hc H.length _ _ h ⟨w, Z, O, H, φ⟩ rfl Fence.wide 0 WF.wide (fun l hl => by cases hl) _ w
    ⟨Z, φ, ⟨hs, hg, hb, by have := repAs_len ha; simp; omega, start_rep ha _⟩, Since.refl _ _ _ _ _, ⟨by simp, fun d hd => by simp at hd⟩⟩).wp fun e a' w' hp => ?_))
  obtain ⟨e', s', hK, Z', φ', hs', hS', hm', hx⟩ := hp
  have ret : (∃ r, resA s'.h s'.t F.rs = some r ∧ (K r s'.h).holds) → LeavesInM Fence.wide 0 C.P fn a'.tmps (CPost C O w Z H φ K Kp) a'.defers .returning w' := fun ⟨r, hr1, hr2⟩ =>
    leaves (En := ⟨w, Z, O, H, φ⟩) (t := s'.t) (H := s'.h) (φ := φ') (Z := Z') hs.zlt (by simp) (fun w2 ho => by
      obtain ⟨V, hV, hrep⟩ := res_run hr ho.h ho.t hr1
      exact ⟨V, hV, Z', φ', s'.h, r, ho.h, ⟨ho.S.k, ho.S.z1, ho.S.z2, ho.S.t, ho.S.o⟩, hr2, hrep⟩) a'.defers w' ⟨hs'.h, hS', hs'.t⟩ hm'
  cases e' <;> cases e <;> simp only [exOk] at hx
  · refine ret ?_
    simp only [endK] at hK
    split at hK
    · rename_i r hr1
      exact ⟨r, hr1, hK⟩
    · exact False.elim hK
  · refine ret ?_
    simp only [endK] at hK
    split at hK
    · rename_i r hr1
      exact ⟨r, hr1, hK⟩
    · exact False.elim hK
  · exact False.elim hK
  · rename_i v chain
    obtain ⟨u, rfl, hrep⟩ := hx
    simp only [endK] at hK
    -- the value that the panic bears stays what it is
    refine leaves (En := ⟨w, Z, O, H, φ⟩) (t := ofL 0 [v] .lf) (H := s'.h) (φ := φ') (Z := Z') (tmps := a'.tmps) (ts := [u].toArray ++ Array.replicate 0 undef) hs.zlt (by simp) (fun w2 ho => ?_) a'.defers w' ⟨hs'.h, hS', start_rep (by simp only [RepAs]; exact ⟨u, [], rfl, hrep, rfl⟩) 0⟩ hm'
    have h0 := ho.t 0
    exact ⟨Z', φ', s'.h, v, u, ho.h, ⟨ho.S.k, ho.S.z1, ho.S.z2, ho.S.t, ho.S.o⟩, hK, h0, rfl⟩
end Go.Ab
namespace Go.Ab
open Go.RowKit
variable {C : Cfg} {E : Ev}
structure TabOk (C : Cfg) : Prop where
  fn : ∀ f F, C.T f = some F → FnOk C f F
  b : ∀ (f : FuncId) (g : List AV → Option AV) (args : List AV) (r : AV), C.B f = some g → g args = some r → FCall C f args r []
  cc : ∀ f, C.cc f = true → okFn C.P f = true ∧
    (∀ (b : Nat) (w : World), w.cell? ⟨b, 0, none⟩ = some (.pointer (some ⟨b, 0, none⟩)) → Calls C.P f #[.pointer (some ⟨b, 0, none⟩)] w fun e w' => e = .returned (.tuple #[]) ∧ w' = w) ∧
    (∀ (b : Nat) (w : World), w.cell? ⟨b, 0, none⟩ = some (.pointer none) → (∃ t n, (t, n) ∈ C.bT ∧ w.shape? b = some (t, n)) → w.frozen? ⟨b, 0, none⟩ = false → Calls C.P f #[.pointer (some ⟨b, 0, none⟩)] w fun e w' => e = .returned (.tuple #[]) ∧ w' = w.setCell ⟨b, 0, none⟩ (.pointer (some ⟨b, 0, none⟩)))
theorem ev_calls (hD : DetE E) (hS : SoundE C E) (hT : TabOk C) : EvCalls C E := by
  refine ⟨hT.b, fun f F args K hf h => ?_⟩
  obtain ⟨v, h', h1⟩ := det_end hD 0 F.mc _ F.rs _ _ h
  rcases h1 with ⟨h1, h2⟩ | ⟨h1, _⟩
  · refine ⟨v, h', h1, fun w Z vs hz hg ha => ?_⟩
    refine (call_fn hS (hT.fn f F hf) (H := []) (args := args) (K := fun v' h'' => .pr (v' = v ∧ h'' = h')) (Kp := fun _ _ => .no) (h2 _ _ ⟨rfl, rfl⟩) (O := fun b => w.heap.size ≤ b) (Z := Z) (φ := noφ)
      ⟨hz, by simp, by simp, by simp, by simp⟩ hg (fun _ h => h) ha).mono fun e w' hh => ?_
    cases e with
    | returned u =>
      obtain ⟨Z', φ', H', v', hs', W, ⟨rfl, rfl⟩, hr⟩ := hh
      exact ⟨u, Z', φ', rfl, W.k.stays (fun _ h => h), W.z1, W.z2, hs', hr⟩
    | panicked c =>
      obtain ⟨_, _, _, _, _, _, _, hf, _⟩ := hh
      exact False.elim hf
    | outgrown => exact False.elim hh
  · exact False.elim h1
theorem callF_sound (hS : SoundE C E) (hT : TabOk C) {f : FuncId} {args : List AV} {H : Heap} {K Kp : AV → Heap → VC} (h : (callF C E f args H K Kp).holds) {O Z : Nat → Prop} {φ : Nat → Value} {w : World} {vs : List Value}
    (hs : SimH C O Z φ H w) (hg : GRep C.G w Z) (hb : ∀ b, w.heap.size ≤ b → O b) (ha : RepAs w Z H φ args vs) : Calls C.P f vs.toArray w (CPost C O w Z H φ K Kp) ∧ okFn C.P f = true := by
  unfold callF at h
  split at h
  · rename_i hcc
    obtain ⟨hok, hused, hfresh⟩ := hT.cc f hcc
    refine ⟨?_, hok⟩
    unfold ccRun at h
    split at h
    · rename_i k
      simp only [RepAs] at ha
      obtain ⟨u, us', rfl, hu, rfl⟩ := ha
      simp only [RepA] at hu
      split at h
      · rename_i t a lr hk
        obtain ⟨g, e1, rfl⟩ := hu.2.2 t _ hk
        have hblk := hs.blk k _ hk
        obtain ⟨g', t', us, e2, hh, hl⟩ := hblk
        rw [e1] at e2
        cases e2
        have hgo : own? (φ k) = some g := by rw [e1]; rfl
        have hlt := (Array.getElem?_eq_some_iff.1 hh).1
        obtain ⟨u0, ul, rfl⟩ : ∃ u0 ul, us = (u0 :: ul).toArray := by
          have := hl.1
          obtain ⟨l⟩ := us
          match l, this with
          | u0 :: ul, _ => exact ⟨u0, ul, rfl⟩
        have hlen : lr.length = ul.length := by have := hl.1; simpa using this
        have hcell : w.cell? ⟨g, 0, none⟩ = some u0 := by rw [cell_of_row w g 0 _ _ (0, 0) hh]; rfl
        have hr0 : RepC w Z H φ a u0 := by
          obtain ⟨x, hx, hr⟩ := hl.2 0 a rfl
          cases hx
          exact hr
        have hr1 : ∀ (i : Nat) (c : CV), lr[i]? = some c → ∃ u, ul[i]? = some u ∧ RepC w Z H φ c u := fun i c hc => by
          obtain ⟨x, hx, hr⟩ := hl.2 (i + 1) c (by simpa using hc)
          exact ⟨x, by simpa using hx, hr⟩
        split at h
        · rename_i htb
          have htb := memT_spec htb
          split at h
          · -- a fresh one
            have : u0 = .pointer none := by cases hr0; rfl
            subst this
            refine (hfresh g w hcell ⟨t, _, htb, by simp [World.shape?, hh, hlen]⟩ (by simp [World.frozen?, hh])).mono fun e w' hw => ?_
            obtain ⟨rfl, rfl⟩ := hw
            have hat : (w.setCell ⟨g, 0, none⟩ (.pointer (some ⟨g, 0, none⟩))).heap[g]? = some (.cells (.pointer (some ⟨g, 0, none⟩) :: ul).toArray t (0, 0)) := by
              simp [World.setCell, Array.getElem?_modify, hh]
            have hother : ∀ j, j ≠ g → (w.setCell ⟨g, 0, none⟩ (.pointer (some ⟨g, 0, none⟩))).heap[j]? = w.heap[j]? := fun j hj => Below.heap_setCell w ⟨g, 0, none⟩ _ j hj
            have hsz : (w.setCell ⟨g, 0, none⟩ (.pointer (some ⟨g, 0, none⟩))).heap.size = w.heap.size := by simp [World.setCell]
            obtain ⟨S, T⟩ := set_sim (H0 := H) (b1 := .box t (.pt k 0 :: lr)) (w' := w.setCell ⟨g, 0, none⟩ (.pointer (some ⟨g, 0, none⟩))) hs hk hgo rfl (fun _ _ h => h) (by rw [hsz]; exact Nat.le_refl _) hother ⟨fun _ _ _ _ _ h => (by cases h), fun t' l' h => ⟨_, by cases h; rfl⟩, (fun h => by cases h)⟩
              (fun q b' hq hb' hg' => by
                rcases hs.inj q k b' _ g hb' hk hg' hgo with h | h
                · exact hq h
                · cases b' <;> exact h)
              (fun T => by
                refine ⟨g, t, _, e1, hat, by simp [hlen], fun i c hi => ?_⟩
                match i, hi with
                | 0, hi =>
                  cases hi
                  refine ⟨_, rfl, ⟨by simpa using (List.getElem?_eq_some_iff.1 hk).1, ?_⟩, rfl, fun _ _ _ => ⟨g, e1, rfl⟩⟩
                  rw [List.getElem?_set, if_pos rfl, if_pos (List.getElem?_eq_some_iff.1 hk).1]
                  simp
                | i + 1, hi =>
                  obtain ⟨u, hu1, hr⟩ := hr1 i c (by simpa using hi)
                  exact ⟨u, by simpa using hu1, T.2 _ _ hr⟩)
            refine ⟨Z, φ, _, _, S, ⟨⟨rfl, rfl, rfl, by rw [hsz]; exact Nat.le_refl _, fun j hj hOj => hother j fun e => hOj (e ▸ hs.own k _ g hk hgo), fun j r hj => ⟨r, by rw [hother j (fun e => by rw [e, hh] at hj; cases hj)]; exact hj, .refl r⟩⟩, fun _ h => h, fun _ h => .inl h, T, fun j hj => hother j fun e => hs.sep k _ g hk hgo (e ▸ hj)⟩, h, ?_⟩
            simp only [RepA, RepAs]
            exact ⟨[], rfl, rfl⟩
          · rename_i k'
            split at h
            · rename_i hkk
              have hkk := Nat.eq_of_beq_eq_true hkk
              subst hkk
              obtain ⟨g2, e3, rfl⟩ := hr0.2.2 t _ hk
              rw [e1] at e3
              cases e3
              refine (hused g w hcell).mono fun e w' hw => ?_
              obtain ⟨rfl, rfl⟩ := hw
              refine ⟨Z, φ, H, _, hs, Way.refl _ _ _ _ _, h, ?_⟩
              simp only [RepA, RepAs]
              exact ⟨[], rfl, rfl⟩
            · exact False.elim h
          · exact False.elim h
        · exact False.elim h
      · exact False.elim h
    · exact False.elim h
  · split at h
    · rename_i F hF
      have ok := hT.fn f F hF
      exact ⟨call_fn hS ok h hs hg hb ha, by obtain ⟨_, _, _, _, _, _, _, _, h⟩ := ok.ex; exact h⟩
    · exact False.elim h
theorem repAs_append {w : World} {Z : Nat → Prop} {H : Heap} {φ : Nat → Value} : ∀ {l l' : List AV} {us us' : List Value}, RepAs w Z H φ l us → RepAs w Z H φ l' us' → RepAs w Z H φ (l ++ l') (us ++ us')
  | [], l', us, us', h, h' => by simp only [RepAs] at h; subst h; exact h'
  | a :: l, l', us, us', h, h' => by
    simp only [RepAs, List.cons_append] at h ⊢
    obtain ⟨u, us0, rfl, h1, h2⟩ := h
    exact ⟨u, us0 ++ us', rfl, h1, repAs_append h2 h'⟩
theorem callS_sound (hS : SoundE C E) (hT : TabOk C) {f : FuncId} {args : List AV} {H : Heap} {K Kp : AV → Heap → VC} (h : (callS C E f args H K Kp).holds) {O Z : Nat → Prop} {φ : Nat → Value} {w : World} {vs : List Value}
    (hs : SimH C O Z φ H w) (hg : GRep C.G w Z) (hb : ∀ b, w.heap.size ≤ b → O b) (ha : RepAs w Z H φ args vs) : Calls C.P f vs.toArray w (CPost C O w Z H φ K Kp) ∧ okFn C.P f = true := by
  unfold callS at h
  split at h
  · exact callF_sound hS hT h hs hg hb ha
  · split at h
    · rename_i args' F0 hargs hT0
      split at h
      · rename_i r Hr _
        refine ⟨?_, by obtain ⟨_, _, _, _, _, _, _, _, h⟩ := (hT.fn f F0 hT0).ex; exact h⟩
        obtain ⟨hcall, h⟩ := h
        unfold retK at h
        split at h
        · rename_i r' hr'
          have hK : (K r' H).holds := by split at h <;> first | exact h | exact h.2
          have hflat : args.all plainA = true ∨ flatA Hr r := by split at h <;> first | (left; assumption) | exact .inr h.1
          obtain ⟨hv1, hv2⟩ := viewAs_sound hs hargs ha
          rcases hflat with hp | hfl
          · refine (hcall w Z _ hs.zlt hg (hv2 hp)).mono fun e w' hh => ?_
            obtain ⟨u, Z', φ', rfl, hst, hz1, hz2, hs', hru⟩ := hh
            have hz : ∀ b, Z b → (fun b => Z' b ∨ ∃ k bl, Hr[k]? = some (some bl) ∧ own? (φ' k) = some b) b := fun b hb => .inl (hz1 b hb)
            have hzn : ∀ b, (fun b => Z' b ∨ ∃ k bl, Hr[k]? = some (some bl) ∧ own? (φ' k) = some b) b → Z b ∨ (w.heap.size ≤ b ∧ b < w'.heap.size) := by
              rintro b (hb | ⟨k, bl, h1, h2⟩)
              · rcases hz2 b hb with h | h
                · exact .inl h
                · exact .inr ⟨h, hs'.zlt b hb⟩
              · exact .inr ⟨hs'.own k bl b h1 h2, own_lt hs' h1 h2⟩
            exact ⟨_, φ, H, r', hs.stays hst hz hzn, Way.stays hs hb hst hz hzn, hK, frzA_sound hs' (fun k b g h1 h2 => .inr ⟨k, b, h1, h2⟩) hr' (.inl fun p u hp => hp.keep (fun b hb => .inl hb) fun _ _ => rfl) hru⟩
          · refine (hcall w (fun b => b < w.heap.size) _ (fun _ h => h) (fun g n f hgg => ⟨(hg g n f hgg).1.keep hs.zlt fun _ _ => rfl, hs.zlt g (hg g n f hgg).2.1, (hg g n f hgg).2.2⟩) hv1).mono fun e w' hh => ?_
            obtain ⟨u, Z', φ', rfl, hst, hz1, hz2, hs', hru⟩ := hh
            have hz : ∀ b, Z b → (fun b => Z b ∨ ∃ k bl, Hr[k]? = some (some bl) ∧ own? (φ' k) = some b) b := fun b hb => .inl hb
            have hzn : ∀ b, (fun b => Z b ∨ ∃ k bl, Hr[k]? = some (some bl) ∧ own? (φ' k) = some b) b → Z b ∨ (w.heap.size ≤ b ∧ b < w'.heap.size) := by
              rintro b (hb | ⟨k, bl, h1, h2⟩)
              · exact .inl hb
              · exact .inr ⟨hs'.own k bl b h1 h2, own_lt hs' h1 h2⟩
            exact ⟨_, φ, H, r', hs.stays hst hz hzn, Way.stays hs hb hst hz hzn, hK, frzA_sound hs' (fun k b g h1 h2 => .inr ⟨k, b, h1, h2⟩) hr' (.inr hfl) hru⟩
        · exact False.elim h
      · exact callF_sound hS hT h hs hg hb ha
    · exact callF_sound hS hT h hs hg hb ha
theorem callC_sound (hS : SoundE C E) (hT : TabOk C) {v : AV} {args : List AV} {H : Heap} {K Kp : AV → Heap → VC} (h : (callC C E v args H K Kp).holds) {O Z : Nat → Prop} {φ : Nat → Value} {w : World} {u : Value} {us : List Value}
    (hs : SimH C O Z φ H w) (hg : GRep C.G w Z) (hb : ∀ b, w.heap.size ≤ b → O b) (hv : RepA w Z H φ v u) (ha : RepAs w Z H φ args us) :
    ∃ d f vs, (∀ w1, (Deferred.ofValue u us.toArray).run C.P w1 = .ok d w1) ∧ (∀ w1, (invoke d.target d.args).run C.P w1 = .ok (.enter f vs) w1) ∧ Calls C.P f vs w (CPost C O w Z H φ K Kp) := by
  unfold callC at h
  split at h
  · rename_i f us0 vs0
    simp only [RepA, RepC] at hv
    have hu : u = .func (.func f) us0 vs0 := by cases hv; rfl
    subst hu
    split at h
    · rename_i h1 h2
      split at h
      · rename_i hok
        have e1 : us0 = #[] := by rcases us0 with ⟨l⟩; simp at h1; rw [h1]
        have e2 : vs0 = #[] := by rcases vs0 with ⟨l⟩; simp at h2; rw [h2]
        subst e1 e2
        have hc := (callS_sound hS hT h hs hg hb ha).1
        refine ⟨_, f, us.toArray, fun w1 => rfl, fun w1 => ?_, hc⟩
        simp [invoke, enter_run hok]
      · exact False.elim h
    · exact False.elim h
  · rename_i k
    split at h
    · rename_i f fs cs hk
      simp only [RepA] at hv
      have hu := hv.2.2 _ hk
      obtain ⟨us0, vs0, e1, h1, h2⟩ := hs.blk k _ hk
      rw [e1] at hu
      subst hu
      obtain ⟨hc, hok⟩ := callS_sound hS hT h hs hg hb (repAs_append (repAs_append h1 ha) h2)
      refine ⟨_, f, (us0 ++ us ++ vs0).toArray, fun w1 => rfl, fun w1 => ?_, hc⟩
      have : us0.toArray ++ us.toArray ++ vs0.toArray = (us0 ++ us ++ vs0).toArray := by simp
      simp only [invoke]
      rw [this]
      exact enter_run hok _ _
    · exact False.elim h
  · exact False.elim h
theorem setT_rep {w : World} {Z : Nat → Prop} {H : Heap} {φ : Nat → Value} {t : Tr} {tm : Array Value} {p : Nat} (hp : p < tm.size) (ht : RepT w Z H φ t tm) {v : AV} {u : Value} (hv : RepA w Z H φ v u) : RepT w Z H φ (Tr.set (ofN p) v t) (tm.setIfInBounds p u) := by
  intro j
  by_cases hj : j = p
  · subst hj
    rw [Tr.get_set_same]
    simpa [Array.getD, hp] using hv
  · rw [Tr.get_set_other _ _ (fun e => hj (ofN_inj e))]
    have : (tm.setIfInBounds p u).getD j undef = tm.getD j undef := by
      rw [Array.getD_eq_getD_getElem?, Array.getD_eq_getD_getElem?, Array.getElem?_setIfInBounds_ne (fun e => hj e.symm)]
    rw [this]
    exact ht j
theorem setPs_rep {w : World} {Z : Nat → Prop} {H : Heap} {φ : Nat → Value} {nt : Nat} : ∀ {ps : List Tmp} {args : List AV} {us : List Value} {t t0 : Tr} {tm : Array Value}, nt ≤ tm.size → (∀ p ∈ ps, p < nt) → setPs (compT ps) args t = some t0 → RepAs w Z H φ args us → RepT w Z H φ t tm →
    ps.length = us.length ∧ nt ≤ ((ps.zip us).foldl (fun tm x => tm.setIfInBounds x.1 x.2) tm).size ∧ RepT w Z H φ t0 ((ps.zip us).foldl (fun tm x => tm.setIfInBounds x.1 x.2) tm)
  | [], [], us, t, t0, tm, hn, hp, h, ha, ht => by
    simp only [RepAs] at ha
    subst ha
    simp only [compT, setPs, Option.some.injEq] at h
    subst h
    exact ⟨rfl, hn, ht⟩
  | [], a :: l, us, t, t0, tm, hn, hp, h, ha, ht => by simp [compT, setPs] at h
  | p :: ps, [], us, t, t0, tm, hn, hp, h, ha, ht => by simp [compT, setPs] at h
  | p :: ps, a :: l, us, t, t0, tm, hn, hp, h, ha, ht => by
    simp only [RepAs] at ha
    obtain ⟨u, us', rfl, h1, h2⟩ := ha
    simp only [compT, setPs] at h
    have hlt : p < nt := hp p (by simp)
    obtain ⟨e1, e2, e3⟩ := setPs_rep (tm := tm.setIfInBounds p u) (by simpa using hn) (fun q hq => hp q (List.mem_cons_of_mem _ hq)) h h2 (setT_rep (Nat.lt_of_lt_of_le hlt hn) ht h1)
    exact ⟨by simp [e1], e2, e3⟩
theorem lp_set {O Z : Nat → Prop} {φ : Nat → Value} {H : Heap} {w : World} (hs : SimH C O Z φ H w) {k nt : Nat} {t : Tr} {ps : List Ps} {a b : MC} {st : LS} (hk : H[k]? = some (some (.lp nt t ps a b st))) :
    ∃ l L, φ k = .func (.yield l) #[] #[] ∧ w.heap[l]? = some (.loop L) ∧ L.state = lsState st ∧ L.pending = lsPend st ∧ ∀ st', SimH C O Z φ (H.set k (some (.lp nt t ps a b st'))) (w.putObj l (.loop { L with state := lsState st', pending := lsPend st' })) ∧
      Way O w (w.putObj l (.loop { L with state := lsState st', pending := lsPend st' })) Z Z H (H.set k (some (.lp nt t ps a b st'))) φ φ := by
  obtain ⟨l, L, e1, h1, h2, h3, h4, h5, h6, h7, h8, h9⟩ := hs.blk k _ hk
  have hlt : l < w.heap.size := (Array.getElem?_eq_some_iff.1 h1).1
  have hown : own? (φ k) = some l := by rw [e1]; rfl
  refine ⟨l, L, e1, h1, h8, h9, fun st' => ?_⟩
  obtain ⟨S, T⟩ := set_sim (H0 := H) (b1 := .lp nt t ps a b st') (w' := w.putObj l (.loop { L with state := lsState st', pending := lsPend st' })) hs hk hown rfl (fun _ _ h => h) (by simp) (fun j hj => World.putObj_heap_other hj) ⟨fun _ _ _ _ _ h => (by cases h), fun _ _ h => (by cases h), (fun h => by cases h)⟩
    (fun q b' hq hb' hg => by
      rcases hs.inj q k b' _ l hb' hk hg hown with h | h
      · exact hq h
      · cases b' <;> exact h)
    (fun T => ⟨l, _, e1, World.putObj_heap_same hlt, h2, h3, h4, h5, h6, h7.tra T, rfl, rfl⟩)
  refine ⟨S, ⟨rfl, rfl, rfl, by simp, fun i hi hO => World.putObj_heap_other (fun e => hO (e ▸ hs.own k _ l hk hown)), fun i r hi => ?_⟩, fun _ h => h, fun _ h => .inl h, T, fun i hi => World.putObj_heap_other (fun e => hs.sep k _ l hk hown (e ▸ hi))⟩
  by_cases e : i = l
  · subst e; rw [h1] at hi; cases hi; exact ⟨_, World.putObj_heap_same hlt, _, _, rfl⟩
  · exact ⟨r, by rw [World.putObj_heap_other e]; exact hi, .refl r⟩
theorem Since.w {O Z Z' : Nat → Prop} {φ φ' : Nat → Value} {H H' : Heap} {w w' : World} (h : Since ⟨w, Z, O, H, φ⟩ Z' H' φ' w') : Way O w w' Z Z' H H' φ φ' := ⟨h.k, h.z1, h.z2, h.t, h.o⟩
theorem Way.s {O Z Z' : Nat → Prop} {φ φ' : Nat → Value} {H H' : Heap} {w w' : World} (h : Way O w w' Z Z' H H' φ φ') : Since ⟨w, Z, O, H, φ⟩ Z' H' φ' w' := ⟨h.k, h.z1, h.z2, h.t, h.o⟩
theorem lp_ref {O Z : Nat → Prop} {φ : Nat → Value} {H : Heap} {w : World} {k l : Nat} (hlt : born H k) (e1 : φ k = .func (.yield l) #[] #[]) : RepC w Z H φ (.ref k) (.func (.yield l) #[] #[]) :=
  ⟨hlt, rfl, fun _ _ => e1.symm⟩
theorem round_sound (hS : SoundE C E) {H : Heap} {k nt : Nat} {t t0 : Tr} {ps : List Ps} {aC bC : MC} (hk : H[k]? = some (some (.lp nt t ps aC bC .ready))) {args : List AV} (ht0 : setPs ps args t = some t0)
    {K : AV → Heap → VC} (h : (E H.length aC ⟨t0, H⟩ (rdA E H.length k bC K)).holds) {O Z : Nat → Prop} {φ : Nat → Value} {w : World} {us : List Value} (hs : SimH C O Z φ H w) (hg : GRep C.G w Z) (hb : ∀ b, w.heap.size ≤ b → O b) (ha : RepAs w Z H φ args us) :
    ∃ l fn tm as bd, φ k = .func (.yield l) #[] #[] ∧ (Instr.yield l us.toArray).run C.P w = .ok (.round l fn tm as bd) w ∧ ∀ (F : Fence) (n : Nat), WF F → RoundIn F n C.P l fn tm as bd w fun e w' => ∃ u, e = .returned u ∧ ∃ Z' φ' H' v, SimH C O Z' φ' H' w' ∧ Way O w w' Z Z' H H' φ φ' ∧ (K v H').holds ∧ RepA w' Z' H' φ' v u := by
  have hlt : k < H.length := (List.getElem?_eq_some_iff.1 hk).1
  obtain ⟨l, L, e1, h1, h2, h3, ⟨md1, h4⟩, ⟨md2, h5⟩, h6, h7, h8, h9⟩ := hs.blk k _ hk
  rw [← h2] at ht0
  obtain ⟨hsz, hnt, hrep⟩ := setPs_rep h6 h3 ht0 ha h7
  have hfold : (L.params.zip us.toArray).foldl (fun tmps (x : Tmp × Value) => tmps.setIfInBounds x.1 x.2) L.tmps = (L.params.toList.zip us).foldl (fun tm x => tm.setIfInBounds x.1 x.2) L.tmps := by
    rw [← Array.foldl_toList, Array.toList_zip]
  refine ⟨l, L.fn, _, L.assign, L.body, e1, run_yield h1 (by simp; simpa using hsz.symm), fun F n hF => roundIn_of_wpIn (hF.fn _) ?_⟩
  have href := lp_ref (O := O) (Z := Z) (w := w) (H := H) ⟨hlt, by rw [hk]; simp⟩ e1
  have hR : ∀ l', (F.inRound l).round = some l' → ∃ r, (⟨w, Z, O, H, φ⟩ : Ent).w.heap[l']? = some (.loop r) := fun l' hl => by cases hl; exact ⟨L, h1⟩
  refine wpIn_mono (hS md1 L.assign aC nt h4 H.length ⟨t0, H⟩ _ h ⟨w, Z, O, H, φ⟩ rfl (F.inRound l) n (hF.inRound l) hR ⟨_, []⟩ w ⟨Z, φ, ⟨hs, hg, hb, ?_, ?_⟩, Since.refl _ _ _ _ _, ⟨by simp, fun d hd => by simp at hd⟩⟩).wp fun e a1 w1 hp => ?_
  · show nt ≤ ((L.params.zip us.toArray).foldl (fun tmps (x : Tmp × Value) => tmps.setIfInBounds x.1 x.2) L.tmps).size
    rw [hfold]; exact hnt
  · show RepT w Z H φ t0 ((L.params.zip us.toArray).foldl (fun tmps (x : Tmp × Value) => tmps.setIfInBounds x.1 x.2) L.tmps)
    rw [hfold]; exact hrep
  obtain ⟨e', s1, hK, Z1, φ1, hs1, hS1, hm1, hx⟩ := hp
  cases e' with
  | normal =>
    cases e <;> simp only [exOk] at hx
    simp only [rdA] at hK
    split at hK
    · rename_i nt1 t1 ps1 a2 b2 hk1
      obtain ⟨l1, L1, f1, g1, g2, g3, g4⟩ := lp_set hs1.h hk1
      have hl : l1 = l := by
        have := (hS1.t.2 _ _ href).2.2 _ hk1
        rw [f1] at this
        cases this; rfl
      subst hl
      obtain ⟨S2, W2⟩ := g4 .busy
      have hbusy : ({ L1 with state := lsState .busy, pending := lsPend .busy } : Loop) = { L1 with state := .busy } := by
        have : L1.pending = none := g3
        cases L1; simp only at this; subst this; rfl
      rw [hbusy] at S2 W2
      refine ⟨_, run_beginRound g1 g2, ?_⟩
      obtain ⟨L1', q1, q2⟩ := hS1.k.lp _ L h1
      have q1 : w1.heap[l1]? = some (.loop L1') := q1
      rw [g1] at q1
      cases q1
      obtain ⟨sA, pA, q2⟩ := q2
      have hbody : L1.body = L.body := by rw [q2]
      have hW2 : Since ⟨w, Z, O, H, φ⟩ Z1 (s1.h.set k (some (.lp nt1 t1 ps1 a2 b2 .busy))) φ1 _ := (hS1.w.trans W2).s
      refine wpIn_mono (hS md2 L.body bC nt h5 H.length ⟨s1.t, _⟩ _ hK ⟨w, Z, O, H, φ⟩ rfl (F.inRound l1) n (hF.inRound l1) hR a1 _ ⟨Z1, φ1, ⟨S2, hs1.g.go W2.z1 W2.o, fun b hb' => hs1.b b (Nat.le_trans W2.k.size hb'), hs1.sz, hs1.t.tra W2.t⟩, hW2, hm1.go W2.z1 W2.o⟩).wp fun e2 a3 w3 hp2 => ?_
      obtain ⟨e2', s3, hK3, Z3, φ3, hs3, hS3, hm3, hx3⟩ := hp2
      simp only [rdK] at hK3
      split at hK3
      · rename_i nt3 t3 ps3 a4 b4 hk3
        obtain ⟨l3, L3, p1, p2, p3, p4, p5⟩ := lp_set hs3.h hk3
        have hl : l3 = l1 := by
          have := (hS3.t.2 _ _ href).2.2 _ hk3
          rw [p1] at this
          cases this; rfl
        subst hl
        cases e2' with
        | normal =>
          cases e2 <;> simp only [exOk] at hx3
          obtain ⟨S4, W4⟩ := p5 .ready
          exact ⟨_, _, run_endRound none p2, _, rfl, Z3, φ3, _, _, S4, hS3.w.trans W4, hK3, by simp only [vB, RepA, RepC]; exact .bool true⟩
        | ret =>
          cases e2 <;> simp only [exOk] at hx3
          obtain ⟨S4, W4⟩ := p5 (.done .ret)
          exact ⟨_, _, run_endRound (some .ret) p2, _, rfl, Z3, φ3, _, _, S4, hS3.w.trans W4, hK3, by simp only [vB, RepA, RepC]; exact .bool false⟩
        | exit i =>
          cases e2 <;> simp only [exOk] at hx3
          subst hx3
          obtain ⟨S4, W4⟩ := p5 (.done (.exit i))
          exact ⟨_, _, run_endRound (some (.exit i)) p2, _, rfl, Z3, φ3, _, _, S4, hS3.w.trans W4, hK3, by simp only [vB, RepA, RepC]; exact .bool false⟩
        | panic v => exact False.elim hK3
      · exact False.elim hK3
    · exact False.elim hK
  | ret => exact False.elim hK
  | exit i => exact False.elim hK
  | panic v => exact False.elim hK
end Go.Ab
namespace Go.Ab
open Go.RowKit
variable {C : Cfg} {E : Ev}
theorem evs_map {ev : Opd → AV} (xs : List Opd) : evs ev xs = xs.map ev := rfl
theorem cpost_upon {O Z : Nat → Prop} {φ : Nat → Value} {H : Heap} {w : World} {K Kp : AV → Heap → VC} {o : Oper} {a : Act} {next : Act → World → Prop} {Q : Exit → Act → World → Prop}
    (hn : ∀ (u : Value) (w' : World) (Z' : Nat → Prop) (φ' : Nat → Value) (v : AV) (h' : Heap), (K v h').holds → SimH C O Z' φ' h' w' → Way O w w' Z Z' H h' φ φ' → RepA w' Z' h' φ' v u → next (a.put o.dst u) w')
    (hp : ∀ (u : Value) (w' : World) (Z' : Nat → Prop) (φ' : Nat → Value) (v : AV) (h' : Heap), (Kp v h').holds → SimH C O Z' φ' h' w' → Way O w w' Z Z' H h' φ φ' → RepA w' Z' h' φ' v u → Q (.panic [{ v := u, recovered := false }]) a w')
    {e : Ending} {w' : World} (h : CPost C O w Z H φ K Kp e w') : (fun | .returned v, w'' => next (a.put o.dst v) w'' | .panicked chain, w'' => Q (.panic chain) a w'' | .outgrown, _ => LetsOut Q : Ending → World → Prop) e w' := by
  cases e with
  | returned u =>
    obtain ⟨Z', φ', H', v, hs', W, hK, hr⟩ := h
    exact hn u w' Z' φ' v H' hK hs' W hr
  | panicked c =>
    obtain ⟨Z', φ', H', v, u, hs', W, hK, hr, rfl⟩ := h
    exact hp u w' Z' φ' v H' hK hs' W hr
  | outgrown => exact False.elim h
theorem x_goal (hS : SoundE C E) (hT : TabOk C) : XGoal C E := by
  intro md o p hc s K Kp h O nt Z φ a w hs F n hF hR next Q hn hp
  unfold compXC at hc
  split at hc
  · rename_i c ho
    have args : ∀ xs, compXs c.args.toList = some xs → RepAs w Z s.h φ (evs (evT C.G s.t) xs) (c.args.toList.map a.eval) := fun xs hxs => by
      rw [evs_map]
      exact opds_rep hxs fun x hx X hX => opd_rep hs.g (fun j _ => hs.t j) hX
    have eargs : c.args.map a.eval = (c.args.toList.map a.eval).toArray := by apply Array.ext'; simp
    have nd : ∀ c0, o.op ≠ .defer c0 := fun c0 h0 => by rw [ho] at h0; cases h0
    split at hc
    · rename_i f hcal
      split at hc
      · rename_i hok
        simp only [Bool.and_eq_true] at hok
        obtain ⟨xs, hxs, rfl⟩ := Option.map_eq_some_iff.1 hc
        refine ⟨fun f _ => hF.fn f, ?_⟩
        have hrun : (execOp a.eval o).run C.P w = .ok (.enter f (c.args.map a.eval)) w := by
          simp [execOp, ho, resolve, hcal, Deferred.ofValue, invoke, enter_run hok.1, Act.eval]
        rw [Oper.semAt_eq _ _ _ nd, hrun, eargs]
        simp only [Oper.uponIn]
        exact ⟨fun h => by rw [hF.dp] at h; simp at h, hF.calls ((callF_sound hS hT h hs.h hs.g hs.b (args xs hxs)).1.mono fun e w' hh => cpost_upon hn hp hh)⟩
      · cases hc
    · rename_i t hcal
      obtain ⟨xs, hxs, rfl⟩ := Option.map_eq_some_iff.1 hc
      have hx : RepA w Z s.h φ (evT C.G s.t (.t (ofN t))) (a.eval (.tmp t)) := opd_rep hs.g (fun j _ => hs.t j) rfl
      have plain : (callC C E (evT C.G s.t (.t (ofN t))) (evs (evT C.G s.t) xs) s.h K Kp).holds → o.wpIn F n C.P a w next Q := fun h => by
        obtain ⟨d, f, vs, hd, hi, hcall⟩ := callC_sound hS hT h hs.h hs.g hs.b hx (args xs hxs)
        refine ⟨fun f _ => hF.fn f, ?_⟩
        have hrun : (execOp a.eval o).run C.P w = .ok (.enter f vs) w := by
          simp only [execOp, ho, resolve, hcal, eargs, Sem.run_bind, hd, Result.andThen_ok, hi]
        rw [Oper.semAt_eq _ _ _ nd, hrun]
        simp only [Oper.uponIn]
        exact ⟨fun h => by rw [hF.dp] at h; simp at h, hF.calls (hcall.mono fun e w' hh => cpost_upon hn hp hh)⟩
      simp only [opX] at h
      unfold callV at h
      split at h
      · rename_i k hk0
        split at h
        · rename_i nt1 t1 ps1 a1 b1 hk
          split at h
          · rename_i t0 ht0
            obtain ⟨l, fn, tm, as, bd, e1, hy, hround⟩ := round_sound hS hk ht0 h hs.h hs.g hs.b (args xs hxs)
            rw [hk0] at hx
            simp only [RepA] at hx
            have hu := hx.2.2 _ hk
            rw [e1] at hu
            refine ⟨fun f _ => hF.fn f, ?_⟩
            have hrun : (execOp a.eval o).run C.P w = .ok (.round l fn tm as bd) w := by
              simp only [execOp, ho, resolve, hcal, hu, Deferred.ofValue, eargs, Sem.run_bind, Sem.run_pure, Result.andThen_ok, invoke, Array.empty_append, hy]
            rw [Oper.semAt_eq _ _ _ nd, hrun]
            simp only [Oper.uponIn]
            refine ⟨fun h => by rw [hF.dp] at h; simp at h, (hround F (n - 1) hF).mono fun e w' hh => ?_⟩
            obtain ⟨u, rfl, Z', φ', H', v, hs', W, hK, hr⟩ := hh
            exact hn u w' Z' φ' v H' hK hs' W hr
          · exact False.elim h
        · exact plain h
      · exact plain h
    · split at hc
      · obtain ⟨_, _, rfl⟩ := Option.map_eq_some_iff.1 hc
        exact False.elim h
      · cases hc
    · cases hc
  · obtain ⟨_, _, rfl⟩ := Option.map_eq_some_iff.1 hc
    exact False.elim h
  · cases hc
theorem drop_sim {O Z : Nat → Prop} {φ : Nat → Value} {H : Heap} {w w' : World} (hs : SimH C O Z φ H w) {k : Nat} {b0 : Blk} {g : Nat} (hk : H[k]? = some (some b0)) (hgo : own? (φ k) = some g) (hna : ∀ e t n f ups, b0 ≠ .arr e t n f ups) (hsz : w.heap.size ≤ w'.heap.size) (hoth : ∀ j, j ≠ g → w'.heap[j]? = w.heap[j]?) :
    SimH C O Z φ (H.set k none) w' ∧ Tra w w' Z Z H (H.set k none) φ φ := by
  have hcell : ∀ p : Addr, Z p.block → w'.cell? p = w.cell? p := fun p hp => World.cell?_of_block (hoth _ fun e => hs.sep k _ g hk hgo (e ▸ hp))
  have get : ∀ (q : Nat) (b : Blk), (H.set k none)[q]? = some (some b) → q ≠ k ∧ H[q]? = some (some b) := fun q b hq => by
    rw [List.getElem?_set] at hq
    split at hq
    · split at hq <;> cases hq
    · rename_i e
      exact ⟨fun h => e h.symm, hq⟩
  have T : Tra w w' Z Z H (H.set k none) φ φ := Turn.tra ⟨fun _ h => h, hcell, fun q b hq hlq => ⟨rfl, ⟨b, (get q b hq).2⟩, fun e t n f ups hb => ⟨f, ups, hb ▸ (get q b hq).2⟩, fun t l hb => ⟨l, hb ▸ (get q b hq).2⟩, fun hb => hb ▸ (get q b hq).2⟩, by simp⟩
  refine ⟨⟨fun b hb => Nat.lt_of_lt_of_le (hs.zlt b hb) hsz, fun q b hq => ?_, fun q b g' hq hg' => hs.own q b g' (get q b hq).2 hg', fun q b g' hq hg' => hs.sep q b g' (get q b hq).2 hg', fun q q' b b' g' hq hq' => hs.inj q q' b b' g' (get q b hq).2 (get q' b' hq').2⟩, T⟩
  obtain ⟨hne, h⟩ := get q b hq
  refine (hs.blk q b h).turn T (fun _ h => h) hcell rfl fun g' hg' => hoth g' fun e => ?_
  subst e
  rcases hs.inj q k b b0 g' h hk hg' hgo with h' | h'
  · exact hne h'
  · cases b <;> cases b0 <;> first | exact h' | exact hna _ _ _ _ _ rfl
end Go.Ab
