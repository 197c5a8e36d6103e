/- A part of the proof: an evaluator of the program over plain values, proved sound, and what it gives. -/
import Derived.Test.YtibcmmnobjhbeaaDoorVc
set_option linter.all false
namespace Go.Ab
open Go.RowKit
theorem stepR_scope {P : Program} {b : Frame} {a : Act} {k : List Item} {cs : List Frame} {w : World} {c : Code} : step P (lone (b.atR a (.code (.scope c) :: k)) cs w) = .next (lone (b.atR a (.code c :: .inScope c :: k)) cs w) :=
  step_lone_go (by simp [stepG, stepG.exec, Frame.atR])
theorem stepR_inScope {P : Program} {b : Frame} {a : Act} {k : List Item} {cs : List Frame} {w : World} {c : Code} : step P (lone (b.atR a (.inScope c :: k)) cs w) = .next (lone (b.atR a k) cs w) :=
  step_lone_go (by simp [stepG, stepG.exec, Frame.atR])
theorem wpIn_scope {F : Fence} {n : Nat} {P : Program} {Q : Exit → Act → World → Prop} {a : Act} {w : World} {c : Code} (h : c.wpIn F n P (fun e a' w' => (∀ l, e ≠ .goto l) ∧ Q e a' w') a w) : (Code.scope c).wpIn F n P Q a w := by
  intro b k cs hro hb hr
  have h0 : (lone (b.atR a (.code (.scope c) :: k)) cs w).fenced P F := fenced_calm hb hr rfl
  obtain ⟨e, a₁, w₁, ⟨hg, hq⟩, harr⟩ := h b (.inScope c :: k) cs hro hb hr
  cases e with
  | normal => exact ⟨.normal, a₁, w₁, hq, .head h0 stepR_scope (StepsIn.trans harr (.one (fenced_calm hb hr rfl) stepR_inScope))⟩
  | exit id' =>
    have hx : exitTo id' (.inScope c :: k) = exitTo id' k := by simp [exitTo]
    exact ⟨.exit id', a₁, w₁, hq, fun k' hk => .head h0 stepR_scope (harr.1 k' (by rw [hx]; exact hk)),
      fun hr' hk => let ⟨k₁, h1, h2⟩ := harr.2 hr' (by rw [hx]; exact hk); ⟨k₁, h1, .head h0 stepR_scope h2⟩⟩
  | goto l => exact absurd rfl (hg l)
  | ret => exact ⟨_, a₁, w₁, hq, .of_steps (.one h0 stepR_scope) harr⟩
  | panic ch => exact ⟨_, a₁, w₁, hq, .of_steps (.one h0 stepR_scope) harr⟩
  | outgrown => exact ⟨_, a₁, w₁, hq, .of_steps (.one h0 stepR_scope) harr⟩
variable {C : Cfg} {E : Ev}
theorem enter_loop {Z : Nat → Prop} {φ : Nat → Value} {O : Nat → Prop} {H : Heap} {w : World} (hs : SimH C O Z φ H w) {F : Fence} (hR : ∀ l, F.round = some l → ∃ r, w.heap[l]? = some (.loop r)) {m : Nat} {ds : List Deferred} (hm : Marks m Z w ds) (hmw : m ≤ w.heap.size) :
    ∃ (wm : World) (Z1 : Nat → Prop) (mark : List Deferred) (dd : Nat), Stays w wm ∧ (∀ b, Z b → Z1 b) ∧ (∀ b, Z1 b → Z b ∨ (w.heap.size ≤ b ∧ b < wm.heap.size)) ∧ Marks m Z1 wm (mark ++ ds) ∧
      ∀ (fn : FuncId) (tmps : Array Value) (ps : Array Tmp) (as bd : Code), (Instr.enterLoop fn tmps ps as bd F.round).run C.P w = .ok (wm.heap.size, mark) (wm.alloc (.loop { state := .ready, pending := none, fn, tmps, params := ps, assign := as, body := bd, defers := dd })) := by
  cases hr : F.round with
  | none =>
    have hst : Stays w (w.alloc (.deferred (some []))) := (Below.refl _ _).alloc (Nat.le_refl _) _
    refine ⟨w.alloc (.deferred (some [])), fun b => Z b ∨ b = w.heap.size, [{ target := .collected w.heap.size, args := #[] }], w.heap.size, hst, fun b h => .inl h, fun b h => ?_, ⟨?_, fun d hd => ?_⟩, fun fn tmps ps as bd => ?_⟩
    · rcases h with h | h
      · exact .inl h
      · exact .inr ⟨by omega, by simp [World.size_alloc]; omega⟩
    · rw [List.singleton_append, List.map_cons, List.pairwise_cons]
      refine ⟨fun t ht D hD => ?_, hm.1⟩
      cases hD
      obtain ⟨d, hd, rfl⟩ := List.mem_map.1 ht
      obtain ⟨D', rfl, h1, h2, h3⟩ := hm.2 d hd
      intro e
      injection e with e
      subst e
      have := (Array.getElem?_eq_some_iff.1 h3).1
      omega
    · rcases List.mem_append.1 hd with hd | hd
      · simp only [List.mem_singleton] at hd
        subst hd
        exact ⟨_, rfl, hmw, .inr rfl, World.alloc_heap_new w _⟩
      · obtain ⟨D', h0, h1, h2, h3⟩ := hm.2 d hd
        exact ⟨D', h0, h1, .inl h2, (hst.block D' (hs.zlt D' h2)).trans h3⟩
    · rw [run_enterLoop_outer]; simp [World.size_alloc]
  | some l0 =>
    obtain ⟨r0, h0⟩ := hR l0 hr
    exact ⟨w, Z, [], r0.defers, Below.refl _ _, fun _ h => h, fun _ h => .inl h, hm, fun fn tmps ps as bd => run_enterLoop_inner h0 fn tmps ps as bd⟩
theorem rf_sound (hS : SoundE C E) (hT : TabOk C) {g : Operand} {ps : Array Tmp} {as bd : Code} {X : Opd} {aC bC : MC} {nt : Nat} (hX : compX g = some X) (hA : ∃ md, comp C.P md nt as = some aC) (hB : ∃ md, comp C.P md nt bd = some bC) (hps : ps.toList.all (· < nt) = true) {s : St} {K : KT}
    (h : (callC C E (evT C.G s.t X) [.c (.ref s.h.length)] (s.h ++ [some (.lp nt s.t (compT ps.toList) aC bC .ready)]) (fun _ h => rfK s.h.length s.t K h) fun v h => K (.panic v) ⟨s.t, h⟩).holds)
    {En : Ent} {F : Fence} {n : Nat} (hF : WF F) (hR : ∀ l, F.round = some l → ∃ r, En.w.heap[l]? = some (.loop r)) {a : Act} {w : World} (hv : Inv C En nt s a w) : (Code.rangeFunc g ps as bd).wpIn F n C.P (PostK C En nt K) a w := by
  obtain ⟨Z, φ, hs, hS1, hm⟩ := hv
  obtain ⟨wm, Z1, mark, dd, hst, hz, hzn, hmk, henter⟩ := enter_loop hs.h (F := F) (fun l hl => let ⟨r, hr⟩ := hR l hl; let ⟨r', h', _⟩ := hS1.k.lp l r hr; ⟨r', h'⟩) hm hS1.k.size
  refine wpIn_rangeFunc fun fn _ => ?_
  have Wm : Way En.O w wm Z Z1 s.h s.h φ φ := Way.stays hs.h hs.b hst hz hzn
  have hsm := hs.h.stays hst hz hzn
  obtain ⟨L0, hL0⟩ : ∃ L0 : Loop, L0 = { state := .ready, pending := none, fn := fn, tmps := a.tmps, params := ps, assign := as, body := bd, defers := dd } := ⟨_, rfl⟩
  have hst1 : Stays wm (wm.alloc (.loop L0)) := (Below.refl _ _).alloc (Nat.le_refl _) _
  obtain ⟨u, hu⟩ : ∃ u : Value, u = .func (.yield wm.heap.size) #[] #[] := ⟨_, rfl⟩
  obtain ⟨S1, T1, _⟩ := push_sim hsm hst1 (b1 := .lp nt s.t (compT ps.toList) aC bC .ready) (u := u) (fun b hb => hs.b b (Nat.le_trans hst.size hb)) (fun g hg => by rw [hu] at hg; cases hg; exact Nat.le_refl _)
    (fun T => ⟨wm.heap.size, L0, by rw [upd_at, hu], World.alloc_heap_new wm _, by rw [hL0], by rw [hL0]; exact fun p hp => of_decide_eq_true (List.all_eq_true.1 hps p hp), by rw [hL0]; exact hA, by rw [hL0]; exact hB, by rw [hL0]; exact hs.sz, by rw [show L0.tmps = a.tmps by rw [hL0]]; exact (hs.t.tra Wm.t).tra T, by rw [hL0]; rfl, by rw [hL0]; rfl⟩)
  have W1 : Way En.O wm (wm.alloc (.loop L0)) Z1 Z1 s.h (s.h ++ [some (.lp nt s.t (compT ps.toList) aC bC .ready)]) φ (upd φ s.h.length u) := ⟨.of_stays hst1, fun _ h => h, fun _ h => .inl h, T1, fun b hb => hst1.block b (hsm.zlt b hb)⟩
  have W := Wm.trans W1
  have hx := (opd_rep hs.g (fun j _ => hs.t j) hX).tra W.t
  have href : RepC (wm.alloc (.loop L0)) Z1 (s.h ++ [some (.lp nt s.t (compT ps.toList) aC bC .ready)]) (upd φ s.h.length u) (.ref s.h.length) u := ⟨⟨by simp, by simp⟩, by rw [hu]; rfl, fun b hk => upd_at.symm⟩
  obtain ⟨d, f, vs, hd, hi, hcall⟩ := callC_sound hS hT h S1 (hs.g.go W.z1 W.o) (fun b hb => hs.b b (Nat.le_trans W.k.size hb)) hx (us := [u]) (by simp only [RepAs]; exact ⟨u, [], rfl, by simp only [RepA]; exact href, rfl⟩)
  refine ⟨wm.heap.size, mark, wm.alloc (.loop L0), d, wm.alloc (.loop L0), f, vs, wm.alloc (.loop L0), by rw [hL0]; exact henter fn a.tmps ps as bd, ?_, fun f' _ => hF.fn f', hi _, fun h => by rw [hF.dp] at h; simp at h, hF.calls (hcall.mono fun e w3 hh => ?_)⟩
  · have := hd (wm.alloc (.loop L0))
    rw [hu] at this
    simpa [resolve, rangeCall, Act.eval] using this
  cases e with
  | returned u0 =>
    obtain ⟨Z3, φ3, H3, v, hs3, W3, hK, _⟩ := hh
    simp only [rfK] at hK
    split at hK
    · rename_i nt3 t3 ps3 a3 b3 st hk3
      have hφ := (W3.t.2 _ _ href).2.2 _ hk3
      obtain ⟨l3, L3, f1, f2, _, _, _, _, _, _, f8, f9⟩ := hs3.blk _ _ hk3
      rw [f1, hu] at hφ
      cases hφ
      have hown : own? (φ3 s.h.length) = some wm.heap.size := by rw [f1]; rfl
      have hlt := (Array.getElem?_eq_some_iff.1 f2).1
      obtain ⟨S4, T4⟩ := drop_sim (w' := w3.putObj wm.heap.size (.loop { L3 with state := .exhausted })) hs3 hk3 hown (fun _ _ _ _ _ h => (by cases h)) (by simp) (fun j hj => World.putObj_heap_other hj)
      have W4 : Way En.O w3 (w3.putObj wm.heap.size (.loop { L3 with state := .exhausted })) Z3 Z3 H3 (H3.set s.h.length none) φ3 φ3 := by
        refine ⟨⟨rfl, rfl, rfl, by simp, fun i hi hO => World.putObj_heap_other (fun e => hO (e ▸ hs3.own _ _ _ hk3 hown)), fun i r hi => ?_⟩, fun _ h => h, fun _ h => .inl h, T4, fun i hi => World.putObj_heap_other (fun e => hs3.sep _ _ _ hk3 hown (e ▸ hi))⟩
        by_cases e : i = wm.heap.size
        · subst e; rw [f2] at hi; cases hi; exact ⟨_, World.putObj_heap_same hlt, _, _, rfl⟩
        · exact ⟨r, by rw [World.putObj_heap_other e]; exact hi, .refl r⟩
      have Wall := W.trans (W3.trans W4)
      have WmM := W1.trans (W3.trans W4)
      have post : ∀ (e' : AX) (e : Exit), (K e' ⟨s.t, H3.set s.h.length none⟩).holds → exOk (w3.putObj wm.heap.size (.loop { L3 with state := .exhausted })) Z3 (H3.set s.h.length none) φ3 e' e → PostK C En nt K e { a with defers := mark ++ a.defers } (w3.putObj wm.heap.size (.loop { L3 with state := .exhausted })) := fun e' e hK hx =>
        ⟨e', ⟨s.t, _⟩, hK, Z3, φ3, ⟨S4, hs.g.go Wall.z1 Wall.o, fun b hb => hs.b b (Nat.le_trans Wall.k.size hb), hs.sz, hs.t.tra Wall.t⟩, hS1.way Wall, hmk.go WmM.z1 WmM.o, hx⟩
      have hnb : st ≠ .busy → L3.state ≠ .busy := fun hst0 => by
        rw [f8]
        cases st <;> simp [lsState] at hst0 ⊢
      cases st with
      | ready =>
        refine ⟨none, _, (run_endLoop f2 (hnb (by simp))).trans (congrArg (fun x => Result.ok x _) f9), ?_⟩
        exact post .normal .normal hK trivial
      | busy => exact False.elim hK
      | done j =>
        refine ⟨some j.code, _, (run_endLoop f2 (hnb (by simp))).trans (congrArg (fun x => Result.ok x _) f9), ?_⟩
        cases j with
        | ret => exact wpIn_ret (post .ret .ret hK trivial)
        | exit i => exact wpIn_exit (post (.exit i) (.exit i) hK rfl)
    · exact False.elim hK
  | panicked c =>
    obtain ⟨Z3, φ3, H3, v, u0, hs3, W3, hK, hr, rfl⟩ := hh
    have Wall := W.trans W3
    have WmM := W1.trans W3
    exact ⟨.panic v, ⟨s.t, H3⟩, hK, Z3, φ3, ⟨hs3, hs.g.go Wall.z1 Wall.o, fun b hb => hs.b b (Nat.le_trans Wall.k.size hb), hs.sz, hs.t.tra Wall.t⟩, hS1.way Wall, hmk.go WmM.z1 WmM.o, u0, rfl, hr⟩
  | outgrown => exact False.elim hh
theorem PostK.then {En : Ent} {nt : Nat} {K K' : KT} {N : Act → World → Prop} (hn : ∀ (s : St) (a : Act) (w : World), (K .normal s).holds → Inv C En nt s a w → N a w) (hk : ∀ e s, e ≠ .normal → (K e s).holds → (K' e s).holds) {e : Exit} {a : Act} {w : World} (h : PostK C En nt K e a w) : Exit.then N (PostK C En nt K') e a w := by
  obtain ⟨e', s', hK, Z, φ, h1, h2, h3, hx⟩ := h
  cases e' <;> cases e <;> simp only [exOk] at hx
  · exact hn s' a w hK ⟨Z, φ, h1, h2, h3⟩
  · exact ⟨.ret, s', hk _ _ (by simp) hK, Z, φ, h1, h2, h3, trivial⟩
  · exact ⟨.exit _, s', hk _ _ (by simp) hK, Z, φ, h1, h2, h3, hx⟩
  · exact ⟨.panic _, s', hk _ _ (by simp) hK, Z, φ, h1, h2, h3, hx⟩
theorem PostK.up {En : Ent} {nt : Nat} {K : KT} {e : Exit} {a : Act} {w : World} (h : PostK C En nt (upK En.H.length K) e a w) : PostK C En nt K e a w := by
  obtain ⟨e', s, ⟨s', hf, hK⟩, Z, φ, h1, h2, h3, hx⟩ := h
  cases e' with
  | panic v =>
    have hf : Fgt s s' := hf
    obtain ⟨t, H⟩ := s
    obtain ⟨t', H'⟩ := s'
    obtain ⟨e0, ht⟩ := hf
    have e0 : H' = H := e0
    subst e0
    refine ⟨.panic v, ⟨t', H'⟩, hK, Z, φ, ⟨h1.h, h1.g, h1.b, h1.sz, fun j => ?_⟩, h2, h3, hx⟩
    rcases ht (ofN j) with h | h
    · show RepA w Z H' φ (Tr.get (ofN j) t') _
      rw [show Tr.get (ofN j) t' = .any from h]; simp only [RepA]
    · show RepA w Z H' φ (Tr.get (ofN j) t') _
      rw [show Tr.get (ofN j) t' = Tr.get (ofN j) t from h]; exact h1.t j
  | normal =>
    cases e <;> simp only [exOk] at hx
    obtain ⟨Z', φ', g1, g2, g3⟩ := wk_inv (s' := s') hf ⟨Z, φ, h1, h2, h3⟩
    exact ⟨.normal, s', hK, Z', φ', g1, g2, g3, trivial⟩
  | ret =>
    cases e <;> simp only [exOk] at hx
    obtain ⟨Z', φ', g1, g2, g3⟩ := wk_inv (s' := s') hf ⟨Z, φ, h1, h2, h3⟩
    exact ⟨.ret, s', hK, Z', φ', g1, g2, g3, trivial⟩
  | exit i =>
    cases e <;> simp only [exOk] at hx
    obtain ⟨Z', φ', g1, g2, g3⟩ := wk_inv (s' := s') hf ⟨Z, φ, h1, h2, h3⟩
    exact ⟨.exit i, s', hK, Z', φ', g1, g2, g3, hx⟩
theorem LoopAt.mono {F : Fence} {n : Nat} {P : Program} {c : Code} {Q Q' : Exit → Act → World → Prop} {a : Act} {w : World} (hQ : ∀ e a w, Q e a w → Q' e a w) (h : LoopAt F n P c Q a w) : LoopAt F n P c Q' a w :=
  fun b k cs hro hb hr => let ⟨e, a', w', hq, harr⟩ := h b k cs hro hb hr; ⟨e, a', w', hQ _ _ _ hq, harr⟩
theorem sound_step (hD : DetE E) (hS : SoundE C E) (hT : TabOk C) : SoundE C (exB C E) := by
  intro md c mc nt hc n0 s K h En hn F n hF hR a w hv
  have hE := ev_calls hD hS hT
  have hX := x_goal hS hT
  induction c generalizing mc nt n0 s K En F n a w with
  | skip => simp only [comp] at hc; cases hc; exact wpIn_skip (.normal h hv)
  | label l => simp only [comp] at hc; cases hc; exact wpIn_label (.normal h hv)
  | ret =>
    simp only [comp] at hc; cases hc
    obtain ⟨Z, φ, h1, h2, h3⟩ := hv
    exact wpIn_ret ⟨.ret, s, h, Z, φ, h1, h2, h3, trivial⟩
  | exit id =>
    simp only [comp] at hc; cases hc
    obtain ⟨Z, φ, h1, h2, h3⟩ := hv
    exact wpIn_exit ⟨.exit id, s, h, Z, φ, h1, h2, h3, rfl⟩
  | region id ops draw =>
    simp only [comp] at hc
    cases hcr : compR C.P md nt ops draw with
    | none =>
      rw [hcr] at hc
      cases hc
      exact False.elim (show False from h)
    | some mc' =>
      rw [hcr] at hc
      cases hc
      simp only [compR] at hcr
      cases draw with
      | false =>
        simp only [Bool.false_eq_true, if_false] at hcr
        split at hcr
        · rename_i ml hml
          cases hcr
          exact region_seq hF hE hX hR hml h hv
        · cases hcr
      | true =>
        simp only [if_true] at hcr
        split at hcr
        · rename_i ml hml
          split at hcr
          · rename_i hf
            split at hcr
            · rename_i hd
              cases hcr
              exact region_draw hF hE hX hR hf hml hd h hv
            · split at hcr
              · rename_i mm hmm
                cases hcr
                exact region_drw hF hD hE hX hR hf hml hmm h hv
              · split at hcr
                · rename_i mm hmm
                  cases hcr
                  exact region_ins hF hD hE hX hR hf hml hmm h hv
                · exact region_drw2 hF hD hE hX hR hf hml hcr h hv
          · cases hcr
        · cases hcr
  | seq x y =>
    simp only [comp] at hc
    split at hc
    · rename_i x' y' hx hy
      cases hc
      refine wpIn_seq (wpIn_mono (hS md x x' nt hx n0 s _ h En hn F n hF hR a w hv).wp fun e a' w' hp => PostK.then (fun s' a' w' hK hv' => (hS md y y' nt hy n0 s' _ hK En hn F n hF hR a' w' hv').wp) (fun e s hne hK => ?_) hp)
      cases e <;> first | exact hK | exact absurd rfl hne
    · cases hc
  | cond c x y =>
    simp only [comp] at hc
    split at hc
    · rename_i c' x' y' hcc hx hy
      cases hc
      simp only [exB] at h
      split at h
      · rename_i t ht
        obtain ⟨Z, φ, h1, h2, h3⟩ := hv
        have hr := opd_rep h1.g (fun j _ => h1.t j) hcc
        rw [ht] at hr
        have hb := repP_bool hr
        refine wpIn_cond hb ?_
        cases t with
        | true => exact (hS md x x' nt hx n0 s _ h En hn F n hF hR a w ⟨Z, φ, h1, h2, h3⟩).wp
        | false => exact (hS md y y' nt hy n0 s _ h En hn F n hF hR a w ⟨Z, φ, h1, h2, h3⟩).wp
      · exact False.elim h
    · cases hc
  | scope x ih =>
    simp only [comp] at hc
    refine wpIn_scope (wpIn_mono (ih mc nt hc n0 s K h En hn F n hF hR a w hv).wp fun e a' w' hp => ?_)
    refine ⟨fun l hl => ?_, hp⟩
    obtain ⟨e', s', hK, Z, φ, h1, h2, h3, hx⟩ := hp
    subst hl
    cases e' <;> simp only [exOk] at hx
  | block id x =>
    simp only [comp, Option.map_eq_some_iff] at hc
    obtain ⟨x', hx, rfl⟩ := hc
    refine wpIn_block (wpIn_mono (hS md x x' nt hx n0 s _ h En hn F n hF hR a w hv).wp fun e a' w' hp => ?_)
    obtain ⟨e', s', hK, Z, φ, h1, h2, h3, hx⟩ := hp
    cases e' <;> cases e <;> simp only [exOk] at hx
    · exact ⟨.normal, s', hK, Z, φ, h1, h2, h3, trivial⟩
    · exact ⟨.ret, s', hK, Z, φ, h1, h2, h3, trivial⟩
    · subst hx
      rename_i i
      simp only [Exit.inBlock]
      simp only [bkK] at hK
      split at hK
      · rename_i hi
        have := Nat.eq_of_beq_eq_true hi
        subst this
        rw [if_pos rfl]
        exact ⟨.normal, s', hK, Z, φ, h1, h2, h3, trivial⟩
      · rename_i hi
        rw [if_neg (fun e => by subst e; simp at hi)]
        exact ⟨.exit i, s', hK, Z, φ, h1, h2, h3, rfl⟩
    · exact ⟨.panic _, s', hK, Z, φ, h1, h2, h3, hx⟩
  | loop x =>
    simp only [comp, Option.map_eq_some_iff] at hc
    obtain ⟨x', hx, rfl⟩ := hc
    show LoopAt F n C.P x (PostK C En nt K) a w
    simp only [exB] at h
    split at h
    · refine at_round (wpIn_mono (hS md x x' nt hx n0 s _ h En hn F n hF hR a w hv).wp fun e a' w' hp => PostK.then (fun s' a' w' hK hv' => ?_) (fun e s hne hK => ?_) hp)
      · exact hS md (.loop x) (.loop x') nt (by simp [comp, hx]) n0 s' _ hK En hn F n hF hR a' w' hv'
      · cases e <;> first | exact hK | exact absurd rfl hne
    · suffices key : ∀ K : KT, Iter n0 (E n0 x') K s → LoopAt F n C.P x (PostK C En nt K) a w by
        split at h
        · exact LoopAt.mono (fun e a w hp => PostK.up (hn ▸ hp)) (key _ (h.1 K h.2))
        · refine at_round (wpIn_mono (hS md x x' nt hx n0 s _ h En hn F n hF hR a w hv).wp fun e a' w' hp => PostK.then (fun s' a' w' hK hv' => ?_) (fun e s hne hK => ?_) hp)
          · exact hS md (.loop x) (.loop x') nt (by simp [comp, hx]) n0 s' _ hK En hn F n hF hR a' w' hv'
          · cases e <;> first | exact hK | exact absurd rfl hne
      clear h K
      intro K h
      refine h (fun s => ∀ (a : Act) (w : World), Inv C En nt s a w → LoopAt F n C.P x (PostK C En nt K) a w) (fun s s' hw h' a w hv => ?_) a w hv
      refine at_round (wpIn_mono (hS md x x' nt hx n0 s' _ h' En hn F n hF hR a w (wk_inv (hn ▸ hw) hv)).wp fun e a' w' hp => PostK.then (K := lpX (fun s => ∀ (a : Act) (w : World), Inv C En nt s a w → LoopAt F n C.P x (PostK C En nt K) a w) K) (fun s' a' w' hK hv' => hK a' w' hv') (fun e s hne hK => ?_) hp)
      cases e <;> first | exact hK | exact absurd rfl hne
  | rangeFunc g ps as bd =>
    simp only [comp] at hc
    split at hc
    · rename_i X aC bC hX' hA hB
      split at hc
      · rename_i hps
        cases hc
        exact rf_sound hS hT hX' ⟨md, hA⟩ ⟨md, hB⟩ hps h hF hR hv
      · cases hc
    · cases hc
  | _ => cases hc
theorem sound_ex (C : Cfg) (hT : TabOk C) : ∀ f, SoundE C (ex C f)
  | 0 => fun _ _ _ _ _ _ _ _ h => False.elim h
  | f + 1 => sound_step (det_ex C f) (sound_ex C hT f) hT
#print axioms sound_ex
end Go.Ab
namespace Go.Ab
open Go.RowKit
variable {C : Cfg}
def VC.end : VC → Option Prop
  | .cd c k => match c.dec with
    | true => k.end
    | false => none
  | .br b t e => match b with
    | true => t.end
    | false => e.end
  | .pr p => some p
  | .nd _ _ => none
  | .no => none
theorem end_holds : ∀ {v : VC} {p : Prop}, v.end = some p → p → v.holds
  | .cd c k, p, h, hp => by
    simp only [VC.end] at h
    split at h
    · rename_i hc
      exact ⟨Cd.dec_spec hc, end_holds h hp⟩
    · cases h
  | .br b t e, p, h, hp => by
    cases b
    · exact end_holds (v := e) h hp
    · exact end_holds (v := t) h hp
  | .pr q, p, h, hp => by
    simp only [VC.end, Option.some.injEq] at h
    subst h
    exact hp
  | .nd _ _, p, h, _ => by cases h
  | .no, p, h, _ => by cases h
theorem fcall_ex (hT : TabOk C) {f : FuncId} {F : Fn} (hf : C.T f = some F) {args : List AV} {fuel : Nat} {Q : AV → Heap → Prop} (h : (ex C fuel 0 F.mc ⟨ofL 0 args .lf, []⟩ (endK F.rs (fun r Hr => .pr (Q r Hr)) fun _ _ => .no)).holds) :
    ∃ r Hr, Q r Hr ∧ FCall C f args r Hr :=
  (ev_calls (det_ex C fuel) (sound_ex C hT fuel) hT).2 f F args (fun r Hr => .pr (Q r Hr)) hf h
theorem fcall_run (hT : TabOk C) {f : FuncId} {F : Fn} (hf : C.T f = some F) {args : List AV} {fuel : Nat} {Q : AV → Heap → Prop} {p : Prop} (h : (ex C fuel 0 F.mc ⟨ofL 0 args .lf, []⟩ (endK F.rs (fun r Hr => .pr (Q r Hr)) fun _ _ => .no)).end = some p) (hp : p) :
    ∃ r Hr, Q r Hr ∧ FCall C f args r Hr := fcall_ex hT hf (end_holds h hp)
def FOk (P : Program) (f : Nat) (F : Fn) : Prop :=
  ∃ fn c md, P.funcs[f]? = some fn ∧ fn.body = some c ∧ comp P md F.nt c = some F.mc ∧ resT P fn.results.toList = some F.rs ∧ fn.ntmps = F.nt ∧ okFn P f = true
def RowsOk (P : Program) (lo hi : Nat) (A : Nat → Option Fn) : Prop := ∀ f F, lo ≤ f → f < hi → A f = some F → FOk P f F
theorem rows_two {P : Program} {lo mid hi : Nat} {A B : Nat → Option Fn} (hA : RowsOk P lo mid A) (hB : RowsOk P mid hi B) : RowsOk P lo hi fun f => bif Nat.blt f mid then A f else B f := by
  intro f F h1 h2 h
  dsimp only at h
  cases hb : Nat.blt f mid with
  | true =>
    rw [hb] at h
    exact hA f F h1 (Nat.le_of_ble_eq_true hb) h
  | false =>
    rw [hb] at h
    refine hB f F ?_ h2 h
    rcases Nat.lt_or_ge f mid with h' | h'
    · have : Nat.blt f mid = true := Nat.ble_eq_true_of_le h'
      rw [hb] at this; cases this
    · exact h'
theorem rows_one {P : Program} {i : Nat} {F : Fn} (h : FOk P i F) : RowsOk P i (i + 1) fun _ => some F := by
  intro f F' h1 h2 h'
  cases h'
  have : f = i := by omega
  subst this
  exact h
theorem rows_none {P : Program} {i j : Nat} : RowsOk P i j fun _ => none := by
  intro f F' h1 h2 h'
  cases h'
end Go.Ab
