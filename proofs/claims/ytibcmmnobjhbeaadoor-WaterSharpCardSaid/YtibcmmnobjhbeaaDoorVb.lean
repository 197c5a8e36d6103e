/- A part of the proof: an evaluator of the program over plain values, proved sound, and what it gives. -/
import Derived.Test.YtibcmmnobjhbeaaDoorVa
import Derived.Laws.MakeOwn
import Derived.Laws.CopyOwn
set_option linter.all false
namespace Go.Ab
open Go.RowKit
variable {C : Cfg} {E : Ev} {H : Heap} {ev : Opd → AV}
def appF (n : Nat) (f g : Nat → Nat → PV) (i j : Nat) : PV := if i < n then f i j else g (i - n) j
def updO (f : Nat → Nat → PV) (i j n : Nat) (l : List PV) (i' j' : Nat) : PV := if i' = i ∧ j ≤ j' ∧ j' < j + n then l.getD (j' - j) .npt else f i' j'
def S.upI (i j i' j' : Nat) (v y : Int) : Int := bif (Nat.beq i' i && Nat.beq j' j) then v else y
def updP (i j i' j' : Nat) (v : Int) (p : PV) : PV := match p with
  | .int .i64 y => .int .i64 (S.upI i j i' j' v y)
  | p => if i' = i ∧ j' = j then .int .i64 v else p
def updF (f : Nat → Nat → PV) (i j n : Nat) (l : List PV) (i' j' : Nat) : PV := match l with
  | [.int .i64 v] => updP i j i' j' v (f i' j')
  | l => updO f i j n l i' j'
theorem updP_eq {i j i' j' : Nat} {v : Int} {p : PV} : updP i j i' j' v p = if i' = i ∧ j' = j then .int .i64 v else p := by
  unfold updP
  split
  · rename_i y
    unfold S.upI
    by_cases h1 : i' = i
    · by_cases h2 : j' = j
      · subst h1 h2; simp
      · have : Nat.beq j' j = false := by rw [← Bool.not_eq_true, Nat.beq_eq]; exact h2
        simp [this, h2]
    · have : Nat.beq i' i = false := by rw [← Bool.not_eq_true, Nat.beq_eq]; exact h1
      simp [this, h1]
  · rfl
theorem updF_eq {f : Nat → Nat → PV} {i j n : Nat} {l : List PV} {i' j' : Nat} (hl : l.length = n) : updF f i j n l i' j' = updO f i j n l i' j' := by
  unfold updF
  split
  · rename_i v
    simp only [List.length_cons, List.length_nil] at hl
    subst hl
    rw [updP_eq]
    unfold updO
    by_cases h : i' = i ∧ j' = j
    · obtain ⟨rfl, rfl⟩ := h
      simp
    · rw [if_neg h, if_neg (by omega)]
  · rfl
def srcA (H : Heap) (e : Nat) : AV → Option (Nat × (Nat → Nat → PV))
  | .c (.p .nsl) => some (0, fun _ _ => .npt)
  | .c (.p (.isl e' m g)) => match Nat.beq e e' with
    | true => some (m, g)
    | false => none
  | .c (.sl k off len) => match H[k]? with
    | some (some (.arr e' _ _ g _)) => match Nat.beq e e' with
      | true => some (len, fun i j => g (off + i) j)
      | false => none
    | _ => none
  | .c (.p (.raw v)) => match emptyB v with
    | true => some (0, fun _ _ => .npt)
    | false => none
  | _ => none
def memB (k : Nat) : List Nat → Bool
  | [] => false
  | a :: l => match Nat.beq k a with | true => true | false => memB k l
theorem memB_spec {k : Nat} : ∀ {l : List Nat}, memB k l = true ↔ k ∈ l
  | [] => by simp [memB]
  | a :: l => by
    simp only [memB]
    split
    · rename_i h
      have := Nat.eq_of_beq_eq_true h
      subst this
      simp
    · rename_i h
      have := Nat.ne_of_beq_eq_false h
      rw [memB_spec]
      simp [this]
def killD (k : Nat) : Heap → Heap
  | [] => []
  | none :: H => none :: killD k H
  | some (.arr e t n f ups) :: H => (match memB k ups with | true => none | false => some (.arr e t n f ups)) :: killD k H
  | some b :: H => some b :: killD k H
def killR (k : Nat) (us : List Nat) : Nat → Heap → Heap
  | _, [] => []
  | q, none :: H => none :: killR k us (q + 1) H
  | q, some (.arr e t n f ups) :: H => (match memB k ups with
    | true => none
    | false => match memB q us with
      | true => none
      | false => some (.arr e t n f ups)) :: killR k us (q + 1) H
  | q, some b :: H => some b :: killR k us (q + 1) H
theorem killD_len {k : Nat} : ∀ {H : Heap}, (killD k H).length = H.length
  | [] => rfl
  | none :: H => by simp [killD, killD_len]
  | some (.arr _ _ _ _ _) :: H => by simp [killD, killD_len]
  | some (.box _ _) :: H => by simp [killD, killD_len]
  | some (.clo _ _ _) :: H => by simp [killD, killD_len]
  | some (.lp _ _ _ _ _ _) :: H => by simp [killD, killD_len]
  | some (.mp _) :: H => by simp [killD, killD_len]
  | some (.mpi _) :: H => by simp [killD, killD_len]
  | some (.sit _ _) :: H => by simp [killD, killD_len]
  | some (.mpp _) :: H => by simp [killD, killD_len]
  | some .unb :: H => by simp [killD, killD_len]
theorem killR_len {k : Nat} {us : List Nat} : ∀ {H : Heap} {q : Nat}, (killR k us q H).length = H.length
  | [], _ => rfl
  | none :: H, _ => by simp [killR, killR_len]
  | some (.arr _ _ _ _ _) :: H, _ => by simp [killR, killR_len]
  | some (.box _ _) :: H, _ => by simp [killR, killR_len]
  | some (.clo _ _ _) :: H, _ => by simp [killR, killR_len]
  | some (.lp _ _ _ _ _ _) :: H, _ => by simp [killR, killR_len]
  | some (.mp _) :: H, _ => by simp [killR, killR_len]
  | some (.mpi _) :: H, _ => by simp [killR, killR_len]
  | some (.sit _ _) :: H, _ => by simp [killR, killR_len]
  | some (.mpp _) :: H, _ => by simp [killR, killR_len]
  | some .unb :: H, _ => by simp [killR, killR_len]
theorem killD_get {k : Nat} : ∀ {H : Heap} {q : Nat} {b : Blk}, (killD k H)[q]? = some (some b) → H[q]? = some (some b) ∧ ∀ e t n f ups, b = .arr e t n f ups → k ∉ ups
  | [], q, b, h => by simp [killD] at h
  | x :: H, 0, b, h => by
    cases x with
    | none => simp [killD] at h
    | some x =>
      cases x with
      | arr e t n f ups =>
        simp only [killD, List.getElem?_cons_zero] at h
        split at h
        · cases h
        · rename_i hm
          cases h
          refine ⟨rfl, fun e' t' n' f' ups' he => ?_⟩
          cases he
          intro hk
          rw [memB_spec.2 hk] at hm
          cases hm
      | box l => simp only [killD, List.getElem?_cons_zero] at h ⊢; cases h; exact ⟨rfl, fun _ _ _ _ _ h => by cases h⟩
      | clo f fs cs => simp only [killD, List.getElem?_cons_zero] at h ⊢; cases h; exact ⟨rfl, fun _ _ _ _ _ h => by cases h⟩
      | lp => simp only [killD, List.getElem?_cons_zero] at h ⊢; cases h; exact ⟨rfl, fun _ _ _ _ _ h => by cases h⟩
      | mp l => simp only [killD, List.getElem?_cons_zero] at h ⊢; cases h; exact ⟨rfl, fun _ _ _ _ _ h => by cases h⟩
      | mpi l => simp only [killD, List.getElem?_cons_zero] at h ⊢; cases h; exact ⟨rfl, fun _ _ _ _ _ h => by cases h⟩
      | sit => simp only [killD, List.getElem?_cons_zero] at h ⊢; cases h; exact ⟨rfl, fun _ _ _ _ _ h => by cases h⟩
      | mpp => simp only [killD, List.getElem?_cons_zero] at h ⊢; cases h; exact ⟨rfl, fun _ _ _ _ _ h => by cases h⟩
      | unb => simp only [killD, List.getElem?_cons_zero] at h ⊢; cases h; exact ⟨rfl, fun _ _ _ _ _ h => by cases h⟩
  | x :: H, q + 1, b, h => by
    have : (killD k (x :: H))[q + 1]? = (killD k H)[q]? := by
      cases x with
      | none => simp [killD]
      | some x => cases x <;> simp [killD]
    rw [this] at h
    simpa using killD_get h
theorem killR_get {k : Nat} {us : List Nat} : ∀ {H : Heap} {q0 q : Nat} {b : Blk}, (killR k us q0 H)[q]? = some (some b) → H[q]? = some (some b) ∧ ∀ e t n f ups, b = .arr e t n f ups → k ∉ ups ∧ (q0 + q) ∉ us
  | [], q0, q, b, h => by simp [killR] at h
  | x :: H, q0, 0, b, h => by
    cases x with
    | none => simp [killR] at h
    | some x =>
      cases x with
      | arr e t n f ups =>
        simp only [killR, List.getElem?_cons_zero] at h
        split at h
        · cases h
        · rename_i hm
          split at h
          · cases h
          · rename_i hm2
            cases h
            refine ⟨rfl, fun e' t' n' f' ups' he => ?_⟩
            cases he
            refine ⟨fun hk => ?_, fun hk => ?_⟩
            · rw [memB_spec.2 hk] at hm; cases hm
            · rw [Nat.add_zero] at hk; rw [memB_spec.2 hk] at hm2; cases hm2
      | box l => simp only [killR, List.getElem?_cons_zero] at h ⊢; cases h; exact ⟨rfl, fun _ _ _ _ _ h => by cases h⟩
      | clo f fs cs => simp only [killR, List.getElem?_cons_zero] at h ⊢; cases h; exact ⟨rfl, fun _ _ _ _ _ h => by cases h⟩
      | lp => simp only [killR, List.getElem?_cons_zero] at h ⊢; cases h; exact ⟨rfl, fun _ _ _ _ _ h => by cases h⟩
      | mp l => simp only [killR, List.getElem?_cons_zero] at h ⊢; cases h; exact ⟨rfl, fun _ _ _ _ _ h => by cases h⟩
      | mpi l => simp only [killR, List.getElem?_cons_zero] at h ⊢; cases h; exact ⟨rfl, fun _ _ _ _ _ h => by cases h⟩
      | sit => simp only [killR, List.getElem?_cons_zero] at h ⊢; cases h; exact ⟨rfl, fun _ _ _ _ _ h => by cases h⟩
      | mpp => simp only [killR, List.getElem?_cons_zero] at h ⊢; cases h; exact ⟨rfl, fun _ _ _ _ _ h => by cases h⟩
      | unb => simp only [killR, List.getElem?_cons_zero] at h ⊢; cases h; exact ⟨rfl, fun _ _ _ _ _ h => by cases h⟩
  | x :: H, q0, q + 1, b, h => by
    have : (killR k us q0 (x :: H))[q + 1]? = (killR k us (q0 + 1) H)[q]? := by
      cases x with
      | none => simp [killR]
      | some x => cases x <;> simp [killR]
    rw [this] at h
    have ih := killR_get h
    refine ⟨by simpa using ih.1, fun e t n f ups he => ?_⟩
    have := ih.2 e t n f ups he
    rw [show q0 + 1 + q = q0 + (q + 1) by omega] at this
    exact this
def pvL : List CV → Option (List PV)
  | [] => some []
  | .p v :: l => match pvL l with
    | some q => some (v :: q)
    | none => none
  | _ => none
def evs (ev : Opd → AV) (xs : List Opd) : List AV := xs.map ev
def bytesOf (f : Nat → Nat → PV) : Nat → Option (List UInt8)
  | 0 => some []
  | n + 1 => match bytesOf f n with
    | some l => match f n 0 with
      | .int .u8 (.ofNat z) => match Nat.ble z 255 with
        | true => some (l ++ [UInt8.ofNat z])
        | false => none
      | _ => none
    | none => none
def cpyF (f : Nat → Nat → PV) (off c : Nat) (g : Nat → Nat → PV) (i j : Nat) : PV := if off ≤ i ∧ i < off + c then g (i - off) j else f i j
def opM (H : Heap) (ev : Opd → AV) (m : OM) (K : AV → Heap → VC) : VC :=
  match m with
  | .alloc t z => K (.c (.pt H.length 0)) (H ++ [some (.box t (z.map .p))])
  | .box t x => match cellsA (ev x) with
    | some l => K (.c (.pt H.length 0)) (H ++ [some (.box t l)])
    | none => .no
  | .store n x v => match ev x, cellsA (ev v) with
    | .c (.pt k off), some vs => match H[k]? with
      | some (some (.box bt l)) => match Nat.beq vs.length n with
        | true => .cd (.le (off + n) l.length) (K (.tp []) (H.set k (some (.box bt (l.take off ++ vs ++ l.drop (off + n))))))
        | false => .no
      | _ => .no
    | .c (.pe k i j), some vs => match H[k]?, plainL vs with
      | some (some (.arr e t m f ups)), some q => match Nat.beq q.length n with
        | true => .cd (.le (i + 1) m) (.cd (.le (j + n) e) (K (.tp []) ((killR k ups 0 H).set k (some (.arr e t m (updF f i j n q) ups)))))
        | false => .no
      | _, _ => .no
    | _, _ => .no
  | .app e t bytes s x => match srcA H e (ev x) with
    | some (m, g) => match ev s with
      | .c (.p .nsl) => .cd (.le (m * bytes) 140737488355328) (K (.c (.sl H.length 0 m)) (H ++ [some (.arr e t m g [])]))
      | .c (.sl k off len) => match H[k]? with
        | some (some (.arr e' t' n f ups)) => match (Nat.beq e e' && Nat.beq t t' && Nat.beq off 0) with
          | true => .cd (.le len n) (.cd (.le n len) (.cd (.le ((n + m) * bytes) 140737488355328) (K (.c (.sl H.length 0 (n + m))) (killD k H ++ [some (.arr e t (n + m) (appF n f g) (k :: ups))]))))
          | false => .no
        | _ => .no
      | _ => .no
    | none => .no
  | .bsl e n t z ps => match fillA ev (repL n (z.map .p)) ps with
    | some l => match plainL l with
      | some q => K (.c (.sl H.length 0 n)) (H ++ [some (.arr e t n (fun i j => q.getD (i * e + j) .npt) [])])
      | none => .no
    | none => .no
  | .mks e t bytes z l c => match ev l, ev c with
    | .c (.p (.int _ a)), .c (.p (.int _ b)) => .cd (.cut 0 a b) (.cd (.le (b.toNat * bytes) 140737488355328) (K (.c (.sl H.length 0 a.toNat)) (H ++ [some (.arr e t a.toNat (fun _ j => z.getD j .npt) [])])))
    | _, _ => .no
  | .clo f fs cs => K (.c (.ref H.length)) (H ++ [some (.clo f (evs ev fs) (evs ev cs))])
  | .aps t s x => match ev x with
    | .c (.p (.str l)) => match ev s with
      | .c (.p .nsl) => .cd (.le l.length 140737488355328) (K (.c (.sl H.length 0 l.length)) (H ++ [some (.arr 1 t l.length (fun i _ => .int .u8 (l.getD i 0).toNat) [])]))
      | .c (.sl k off len) => match H[k]? with
        | some (some (.arr e' t' n f ups)) => match (Nat.beq 1 e' && Nat.beq t t' && Nat.beq off 0) with
          | true => .cd (.le len n) (.cd (.le n len) (.cd (.le (n + l.length) 140737488355328) (K (.c (.sl H.length 0 (n + l.length))) (killD k H ++ [some (.arr 1 t (n + l.length) (appF n f fun i _ => .int .u8 (l.getD i 0).toNat) (k :: ups))]))))
          | false => .no
        | _ => .no
      | _ => .no
    | _ => .no
  | .bstr t x => match ev x with
    | .c (.pt k 0) => match H[k]? with
      | some (some (.box _ (_ :: b :: _))) => match b with
        | .p .nsl => K (vP (.str [])) H
        | .sl k2 0 n => match H[k2]? with
          | some (some (.arr e' t' m f ups)) => match (Nat.beq 1 e' && Nat.beq t t') with
            | true => match bytesOf f n with
              | some l => .cd (.le 1 n) (.cd (.le n m) (K (vP (.str l)) ((killR k2 ups 0 H).set k2 none)))
              | none => .no
            | false => .no
          | _ => .no
        | _ => .no
      | _ => .no
    | _ => .no
  | .ustr t x n => match ev x, ev n with
    | .c (.p .npt), .c (.p (.int .i64 (.ofNat 0))) => K (vP (.str [])) H
    | .c (.pe k 0 0), .c (.p (.int .i64 (.ofNat q))) => match H[k]? with
      | some (some (.arr e' t' m f ups)) => match (Nat.beq 1 e' && Nat.beq t t') with
        | true => match bytesOf f q with
          | some l => .cd (.le 1 q) (.cd (.le q m) (K (vP (.str l)) ((killR k ups 0 H).set k none)))
          | none => .no
        | false => .no
      | _ => .no
    | _, _ => .no
  | .cpy e x y => match ev x with
    | .c (.sl k off len) => match H[k]?, srcA H e (ev y) with
      | some (some (.arr e' t m f ups)), some (n, g) => match Nat.beq e e' with
        | true => .cd (.le (off + len) m) (K (vI .i64 ((min n len : Nat) : Int)) ((killR k ups 0 H).set k (some (.arr e t m (cpyF f off (min n len) g) ups))))
        | false => .no
      | _, _ => .no
    | _ => .no
  | .mkm => K (.c (.ref H.length)) (H ++ [some (.mp [])])
  | .mset ks x i v => match ev x, ev i, ev v with
    | .c (.ref k), .c (.p key), .c c => match H[k]? with
      | some (some (.mp l)) => match keyOk ks key with
        | true => match mpPut key c l with
          | some l' => K (.tp []) (H.set k (some (.mp l')))
          | none => .no
        | false => .no
      | some (some (.mpi f)) => match msI ks key c with
        | some (q, v) => K (.tp []) (H.set k (some (.mpi (updI f q v))))
        | none => .no
      | _ => .no
    | _, _, _ => .no
  | .rng x => match ev x with
    | .c (.p (.str l)) => K (.c (.ref H.length)) (H ++ [some (.sit l 0)])
    | _ => .no
  | .nxs x => match ev x with
    | .c (.ref k) => match H[k]? with
      | some (some (.sit l pos)) => match Nat.blt pos l.length with
        | true => K (.tp [vB true, vI .i64 (pos : Nat), .c (.p (.int .i32 ((Utf8.decode ⟨l.toArray⟩ pos).1 : Nat)))]) (H.set k (some (.sit l (pos + (Utf8.decode ⟨l.toArray⟩ pos).2))))
        | false => K (.tp [vB false]) H
      | _ => .no
    | _ => .no
  | .frz x => match ev x with
    | .c (.ref k) => match H[k]? with
      | some (some (.mp l)) => K (.tp []) (H.set k (some (.mpp l)))
      | _ => .no
    | _ => .no
def NewOk (H H' : Heap) (φ' : Nat → Value) : Prop := ∀ (q : Nat) (b b1 : Blk) (g : Nat), q < H.length → H'[q]? = some (some b) → H'[H.length]? = some (some b1) → own? (φ' q) = some g → own? (φ' H.length) = some g →
  ∃ e t n f ups n1 f1 ups1, b1 = .arr e t n f ups ∧ b = .arr e t n1 f1 ups1 ∧ n1 ≤ n ∧ q ∈ ups
theorem NewOk.same {H H' : Heap} {φ' : Nat → Value} (h : H'.length = H.length) : NewOk H H' φ' := fun q b b1 g _ _ h1 => by
  have := (List.getElem?_eq_some_iff.1 h1).1
  omega
def OpGoalM (C : Cfg) (o : Oper) (H : Heap) (ev : Opd → AV) (v : AV) (H' : Heap) : Prop :=
  ∀ (O : Nat → Prop) (Z : Nat → Prop) (φ : Nat → Value) (a : Act) (w : World), SimH C O Z φ H w → (∀ b, w.heap.size ≤ b → O b) → OpdRep w Z H φ ev a o.op.operands →
    ∀ (F : Fence) (n : Nat), WF F → ∀ (next : Act → World → Prop) (Q : Exit → Act → World → Prop),
      (∀ (u : Value) (w' : World) (φ' : Nat → Value), SimH C O Z φ' H' w' → Keeps O w w' → (∀ b, Z b → w'.heap[b]? = w.heap[b]?) → RepA w' Z H' φ' v u → Tra w w' Z Z H H' φ φ' → NewOk H H' φ' → next (a.put o.dst u) w') → o.wpIn F n C.P a w next Q
theorem wpIn_val {o : Oper} (hd : ∀ c, o.op ≠ .defer c) {F : Fence} {n : Nat} (hF : WF F) {a : Act} {w w' : World} {u : Value} (hr : (execOp a.eval o).run C.P w = .ok (.value u) w') {next : Act → World → Prop} {Q : Exit → Act → World → Prop} (h : next (a.put o.dst u) w') : o.wpIn F n C.P a w next Q := by
  refine ⟨fun f _ => hF.fn f, ?_⟩
  rw [Oper.semAt_eq _ _ _ hd, hr]
  exact h
theorem wpIn_skp {o : Oper} (hd : ∀ c, o.op ≠ .defer c) {F : Fence} {n : Nat} (hF : WF F) {a : Act} {w w' : World} (hr : (execOp a.eval o).run C.P w = .ok .skip w') {next : Act → World → Prop} {Q : Exit → Act → World → Prop} (h : next (a.put o.dst undef) w') : o.wpIn F n C.P a w next Q := by
  refine ⟨fun f _ => hF.fn f, ?_⟩
  rw [Oper.semAt_eq _ _ _ hd, hr]
  exact h
def upd (φ : Nat → Value) (k : Nat) (u : Value) : Nat → Value := fun q => if q = k then u else φ q
theorem upd_at {φ : Nat → Value} {k : Nat} {u : Value} : upd φ k u k = u := by simp [upd]
theorem upd_lt {φ : Nat → Value} {k q : Nat} {u : Value} (h : q < k) : upd φ k u q = φ q := by simp only [upd]; rw [if_neg (by omega)]
theorem get_snoc {H0 : Heap} {b1 b : Blk} {q : Nat} (h : (H0 ++ [some b1])[q]? = some (some b)) : (q < H0.length ∧ H0[q]? = some (some b)) ∨ (q = H0.length ∧ b = b1) := by
  rcases Nat.lt_or_ge q H0.length with h' | h'
  · exact .inl ⟨h', by rwa [List.getElem?_append_left h'] at h⟩
  · rw [List.getElem?_append_right h'] at h
    have h0 : q - H0.length = 0 := by
      rcases Nat.eq_zero_or_pos (q - H0.length) with h0 | h0
      · exact h0
      · rw [List.getElem?_eq_none (by simp; omega)] at h; cases h
    rw [h0] at h
    simp at h
    exact .inr ⟨by omega, h.symm⟩
section
variable {O Z : Nat → Prop} {φ : Nat → Value} {w w' : World}
theorem ext_tra {H0 : Heap} {b1 : Blk} {u : Value} (hlen : H0.length = H.length) (hsub : ∀ (q : Nat) (b : Blk), H0[q]? = some (some b) → H[q]? = some (some b)) (hc : ∀ p : Addr, Z p.block → w'.cell? p = w.cell? p) :
    Tra w w' Z Z H (H0 ++ [some b1]) φ (upd φ H.length u) :=
  Turn.tra ⟨fun _ h => h, hc, fun q b hq hlt => by
    rcases get_snoc hq with ⟨_, h⟩ | ⟨h, _⟩
    · have h := hsub q b h
      exact ⟨upd_lt hlt, ⟨b, h⟩, fun e t n f ups hb => ⟨f, ups, hb ▸ h⟩, fun t l hb => ⟨l, hb ▸ h⟩, fun hb => hb ▸ h⟩
    · omega, by simp; omega⟩
theorem ext_sim (hs : SimH C O Z φ H w) {H0 : Heap} {b1 : Blk} {u : Value} (hlen : H0.length = H.length) (hsub : ∀ (q : Nat) (b : Blk), H0[q]? = some (some b) → H[q]? = some (some b)) (hsz : w.heap.size ≤ w'.heap.size)
    (hold : ∀ (q : Nat) (b : Blk), q < H.length → H0[q]? = some (some b) → RepB C w' Z (H0 ++ [some b1]) (upd φ H.length u) q b) (hnew : RepB C w' Z (H0 ++ [some b1]) (upd φ H.length u) H.length b1)
    (hown : ∀ g, own? u = some g → O g ∧ ¬ Z g) (hinj : ∀ (q : Nat) (b : Blk) (g : Nat), H0[q]? = some (some b) → own? (φ q) = some g → own? u = some g → Kin q b H.length b1 ∧ Kin H.length b1 q b) :
    SimH C O Z (upd φ H.length u) (H0 ++ [some b1]) w' := by
  have sp : ∀ (q : Nat) (b : Blk), (H0 ++ [some b1])[q]? = some (some b) → (q < H.length ∧ H0[q]? = some (some b) ∧ H[q]? = some (some b) ∧ upd φ H.length u q = φ q) ∨ (q = H.length ∧ b = b1 ∧ upd φ H.length u q = u) := fun q b hq => by
    rcases get_snoc hq with ⟨h1, h2⟩ | ⟨h1, h2⟩
    · exact .inl ⟨by omega, h2, hsub q b h2, upd_lt (by omega)⟩
    · have : q = H.length := by omega
      subst this
      exact .inr ⟨rfl, h2, upd_at⟩
  refine ⟨fun b hb => Nat.lt_of_lt_of_le (hs.zlt b hb) hsz, fun q b hq => ?_, fun q b g hq hg => ?_, fun q b g hq hg => ?_, fun q q' b b' g hq hq' hg hg' => ?_⟩
  · rcases sp q b hq with ⟨h1, h2, _, _⟩ | ⟨rfl, rfl, _⟩
    · exact hold q b h1 h2
    · exact hnew
  · rcases sp q b hq with ⟨_, _, h3, h4⟩ | ⟨_, _, h4⟩
    · rw [h4] at hg; exact hs.own q b g h3 hg
    · rw [h4] at hg; exact (hown g hg).1
  · rcases sp q b hq with ⟨_, _, h3, h4⟩ | ⟨_, _, h4⟩
    · rw [h4] at hg; exact hs.sep q b g h3 hg
    · rw [h4] at hg; exact (hown g hg).2
  · rcases sp q b hq with ⟨h1, h2, h3, h4⟩ | ⟨h1, h2, h4⟩ <;> rcases sp q' b' hq' with ⟨h1', h2', h3', h4'⟩ | ⟨h1', h2', h4'⟩
    · rw [h4] at hg; rw [h4'] at hg'; exact hs.inj q q' b b' g h3 h3' hg hg'
    · rw [h4] at hg; rw [h4'] at hg'
      rw [h1', h2']
      exact .inr (hinj q b g h2 hg hg').1
    · rw [h4] at hg; rw [h4'] at hg'
      rw [h1, h2]
      exact .inr (hinj q' b' g h2' hg' hg).2
    · exact .inl (by omega)
theorem push_sim (hs : SimH C O Z φ H w) (hst : Stays w w') {b1 : Blk} {u : Value} (hO : ∀ b, w.heap.size ≤ b → O b) (hu : ∀ g, own? u = some g → w.heap.size ≤ g)
    (hnew : Tra w w' Z Z H (H ++ [some b1]) φ (upd φ H.length u) → RepB C w' Z (H ++ [some b1]) (upd φ H.length u) H.length b1) :
    SimH C O Z (upd φ H.length u) (H ++ [some b1]) w' ∧ Tra w w' Z Z H (H ++ [some b1]) φ (upd φ H.length u) ∧ NewOk H (H ++ [some b1]) (upd φ H.length u) := by
  have hc : ∀ p : Addr, Z p.block → w'.cell? p = w.cell? p := fun p hp => hst.cell (hs.zlt _ hp)
  have T := ext_tra (H0 := H) (b1 := b1) (u := u) (φ := φ) rfl (fun _ _ h => h) hc
  refine ⟨ext_sim hs rfl (fun _ _ h => h) hst.size (fun q b hlt hq => (hs.blk q b hq).turn T (fun _ h => h) hc (upd_lt hlt) fun g hg => hst.block g (own_lt hs hq hg)) (hnew T)
    (fun g hg => ⟨hO g (hu g hg), fun hz => by have := hs.zlt g hz; have := hu g hg; omega⟩) (fun q b g hq hg hg' => by have := own_lt hs hq hg; have := hu g hg'; omega), T, fun q b b2 g hq hb _ hg hg' => by
    rw [upd_at] at hg'
    rw [upd_lt hq] at hg
    rw [List.getElem?_append_left hq] at hb
    have := own_lt hs hb hg
    have := hu g hg'
    omega⟩
theorem push_box (hs : SimH C O Z φ H w) (hO : ∀ b, w.heap.size ≤ b → O b) {l : List CV} {us : List Value} (hl : RepL w Z H φ l us) (t : TypeId) :
    ∃ φ', SimH C O Z φ' (H ++ [some (.box t l)]) (w.alloc (.cells us.toArray t)) ∧ Stays w (w.alloc (.cells us.toArray t)) ∧
      RepA (w.alloc (.cells us.toArray t)) Z (H ++ [some (.box t l)]) φ' (.c (.pt H.length 0)) (.pointer (some ⟨w.heap.size, 0, none⟩)) ∧ Tra w (w.alloc (.cells us.toArray t)) Z Z H (H ++ [some (.box t l)]) φ φ' ∧ NewOk H (H ++ [some (.box t l)]) φ' := by
  have hst : Stays w (w.alloc (.cells us.toArray t)) := (Below.refl _ _).alloc (Nat.le_refl _) _
  obtain ⟨h1, T, N⟩ := push_sim (b1 := .box t l) (u := .pointer (some ⟨w.heap.size, 0, none⟩)) hs hst hO (fun g hg => by simp [own?] at hg; omega)
    fun T => ⟨w.heap.size, t, us.toArray, upd_at, heap_alloc_new w _, by simpa using hl.tra T⟩
  refine ⟨_, h1, hst, ?_, T, N⟩
  simp only [RepA, RepC]
  exact ⟨⟨by simp, by simp⟩, rfl, fun _ l' _ => ⟨w.heap.size, upd_at, rfl⟩⟩
end
theorem Stays.obj {Z : Nat → Prop} {w w' : World} (hst : Stays w w') (hz : ∀ b, Z b → b < w.heap.size) : ∀ b, Z b → w'.heap[b]? = w.heap[b]? := fun b hb => hst.block b (hz b hb)
theorem absC_rep {w : World} {Z : Nat → Prop} {v : Value} {p : PV} (h : absC v = some p) : RepP w Z p v := absC_rep0 h
theorem alloc_sound {o : Oper} {t : TypeId} {i : TypeInfo} {z : Value} {l : List PV} (ho : o.op = .alloc t) (hi : C.P.info? t = some i) (hz : i.zero = some z) (hl : absL z.cells.toList = some l)
    {K : AV → Heap → VC} (h : (opM H ev (.alloc t l) K).holds) : ∃ v H', (K v H').holds ∧ OpGoalM C o H ev v H' := by
  refine ⟨_, _, h, fun O Z φ a w hs hO hop F n hF next Q hn => ?_⟩
  obtain ⟨φ', h1, h2, h3, T, N⟩ := push_box hs hO (absL_rep0 (w := w) (Z := Z) (H := H) (φ := φ) hl) t
  have hr : (execOp a.eval o).run C.P w = .ok (.value (.pointer (some ⟨w.heap.size, 0, none⟩))) (w.alloc (.cells z.cells.toList.toArray t)) := by
    simp [execOp, ho, Instr.alloc, zeroValue, typeInfo, hi, hz, newVar, newRow]
  exact wpIn_val (fun c h0 => by simp [ho] at h0) hF hr (hn _ _ φ' h1 (.of_stays h2) (h2.obj hs.zlt) h3 T N)
theorem cellsA_rep {w : World} {Z : Nat → Prop} {φ : Nat → Value} {x : AV} {l : List CV} {u : Value} (h : cellsA x = some l) (hr : RepA w Z H φ x u) : RepL w Z H φ l u.cells.toList ∧ ∀ v ∈ u.cells.toList, v.oneCell' = true := by
  have h0 := cellsA_rep0 h hr
  refine ⟨h0, fun v hv => ?_⟩
  obtain ⟨i, hi, rfl⟩ := List.getElem_of_mem hv
  obtain ⟨u', hu, hc⟩ := h0.2 i (l[i]'(by have := h0.1; omega)) (List.getElem?_eq_getElem _)
  rw [List.getElem?_eq_getElem hi] at hu
  cases hu
  exact hc.one
theorem box_sound {o : Oper} {t : TypeId} {x : Operand} {X : Opd} (ho : o.op = .box t x) (hx : compX x = some X) {K : AV → Heap → VC} (h : (opM H ev (.box t X) K).holds) : ∃ v H', (K v H').holds ∧ OpGoalM C o H ev v H' := by
  simp only [opM] at h
  split at h
  · rename_i l hl
    refine ⟨_, _, h, fun O Z φ a w hs hO hop F n hF next Q hn => ?_⟩
    have hr := hop x (by simp [ho, Op.operands]) X hx
    obtain ⟨φ', h1, h2, h3, T, N⟩ := push_box hs hO (cellsA_rep hl hr).1 t
    have hr : (execOp a.eval o).run C.P w = .ok (.value (.pointer (some ⟨w.heap.size, 0, none⟩))) (w.alloc (.cells (a.eval x).cells.toList.toArray t)) := by
      simp [execOp, ho, Instr.box, newVar, newRow]
    exact wpIn_val (fun c h0 => by simp [ho] at h0) hF hr (hn _ _ φ' h1 (.of_stays h2) (h2.obj hs.zlt) h3 T N)
  · exact False.elim h
theorem clo_sound {o : Oper} {f : FuncId} {fs cs : Array Operand} {Fs Cs : List Opd} (ho : o.op = .makeFunc (.func f) fs cs) (h1 : compXs fs.toList = some Fs) (h2 : compXs cs.toList = some Cs) {K : AV → Heap → VC} (h : (opM H ev (.clo f Fs Cs) K).holds) :
    ∃ v H', (K v H').holds ∧ OpGoalM C o H ev v H' := by
  simp only [opM] at h
  refine ⟨_, _, h, fun O Z φ a w hs hO hop F n hF next Q hn => ?_⟩
  have r1 := opds_rep (a := a) (w := w) (Z := Z) (φ := φ) (H := H) (ev := ev) h1 fun x hx X hX => hop x (by rw [ho]; simp only [Op.operands, Array.mem_append]; exact .inl (by simpa using hx)) X hX
  have r2 := opds_rep (a := a) (w := w) (Z := Z) (φ := φ) (H := H) (ev := ev) h2 fun x hx X hX => hop x (by rw [ho]; simp only [Op.operands, Array.mem_append]; exact .inr (by simpa using hx)) X hX
  have hst : Stays w w := Below.refl _ _
  obtain ⟨h3, T, N⟩ := push_sim (b1 := .clo f (evs ev Fs) (evs ev Cs)) (u := .func (.func f) (fs.toList.map a.eval).toArray (cs.toList.map a.eval).toArray) hs hst hO (fun g hg => by simp [own?] at hg)
    fun T => ⟨_, _, upd_at, r1.tra T, r2.tra T⟩
  have hr : (execOp a.eval o).run C.P w = .ok (.value (.func (.func f) (fs.toList.map a.eval).toArray (cs.toList.map a.eval).toArray)) w := by
    have e1 : fs.map a.eval = (fs.toList.map a.eval).toArray := by apply Array.ext'; simp
    have e2 : cs.map a.eval = (cs.toList.map a.eval).toArray := by apply Array.ext'; simp
    simp [execOp, ho, Instr.makeFunc, e1, e2]
  refine wpIn_val (fun c h0 => by simp [ho] at h0) hF hr (hn _ _ _ h3 (Keeps.refl _ _) (fun _ _ => rfl) ?_ T N)
  simp only [RepA, RepC]
  exact ⟨⟨by simp, by simp⟩, rfl, fun b _ => upd_at.symm⟩
theorem set_sim {O Z : Nat → Prop} {φ : Nat → Value} {w w' : World} (hs : SimH C O Z φ H w) {k : Nat} {b0 b1 : Blk} {g : Nat} (hk : H[k]? = some (some b0)) (hgo : own? (φ k) = some g) {H0 : Heap} (hlen : H0.length = H.length)
    (hsub : ∀ (q : Nat) (b : Blk), H0[q]? = some (some b) → H[q]? = some (some b)) (hsz : w.heap.size ≤ w'.heap.size) (hoth : ∀ j, j ≠ g → w'.heap[j]? = w.heap[j]?)
    (hkind : (∀ e t n f ups, b1 = .arr e t n f ups → ∃ f', b0 = .arr e t n f' ups) ∧ (∀ t l, b1 = .box t l → ∃ l', b0 = .box t l') ∧ b1 ≠ .unb)
    (hgone : ∀ (q : Nat) (b : Blk), q ≠ k → H0[q]? = some (some b) → own? (φ q) ≠ some g)
    (hnew : Tra w w' Z Z H (H0.set k (some b1)) φ φ → RepB C w' Z (H0.set k (some b1)) φ k b1) :
    SimH C O Z φ (H0.set k (some b1)) w' ∧ Tra w w' Z Z H (H0.set k (some b1)) φ φ := by
  have hlt : k < H.length := (List.getElem?_eq_some_iff.1 hk).1
  have hcell : ∀ p : Addr, Z p.block → w'.cell? p = w.cell? p := fun p hp => World.cell?_of_block (hoth _ fun e => hs.sep k _ g hk hgo (e ▸ hp))
  have get : ∀ (q : Nat) (b : Blk), (H0.set k (some b1))[q]? = some (some b) → (q = k ∧ b = b1) ∨ (q ≠ k ∧ H0[q]? = some (some b)) := fun q b hq => by
    rw [List.getElem?_set] at hq
    split at hq
    · rename_i e
      split at hq
      · exact .inl ⟨e.symm, by injection hq with hq; injection hq with hq; exact hq.symm⟩
      · cases hq
    · rename_i e
      exact .inr ⟨fun h => e h.symm, hq⟩
  have T : Tra w w' Z Z H (H0.set k (some b1)) φ φ := Turn.tra ⟨fun _ h => h, hcell, fun q b hq hlq => ⟨rfl, by
    rcases get q b hq with ⟨rfl, rfl⟩ | ⟨_, h⟩
    · exact ⟨b0, hk⟩
    · exact ⟨b, hsub q b h⟩, fun e t n f ups hb => by
    rcases get q b hq with ⟨rfl, rfl⟩ | ⟨_, h⟩
    · obtain ⟨f', h'⟩ := hkind.1 e t n f ups hb
      exact ⟨f', ups, h' ▸ hk⟩
    · exact ⟨f, ups, hb ▸ hsub q b h⟩, fun t l hb => by
    rcases get q b hq with ⟨rfl, rfl⟩ | ⟨_, h⟩
    · obtain ⟨l', h'⟩ := hkind.2.1 t l hb
      exact ⟨l', h' ▸ hk⟩
    · exact ⟨l, hb ▸ hsub q b h⟩, fun hb => by
    rcases get q b hq with ⟨rfl, rfl⟩ | ⟨_, h⟩
    · exact absurd hb hkind.2.2
    · exact hb ▸ hsub q b h⟩, by simp; omega⟩
  refine ⟨⟨fun b hb => Nat.lt_of_lt_of_le (hs.zlt b hb) hsz, fun q b hq => ?_, fun q b g' hq hg' => ?_, fun q b g' hq hg' => ?_, fun q q' b b' g' hq hq' hg' hg'' => ?_⟩, T⟩
  · rcases get q b hq with ⟨rfl, rfl⟩ | ⟨hne, h⟩
    · exact hnew T
    · exact (hs.blk q b (hsub q b h)).turn T (fun _ h => h) hcell rfl fun g' hg' => hoth g' fun e => hgone q b hne h (e ▸ hg')
  · rcases get q b hq with ⟨rfl, rfl⟩ | ⟨hne, h⟩
    · exact hs.own q b0 g' hk hg'
    · exact hs.own q b g' (hsub q b h) hg'
  · rcases get q b hq with ⟨rfl, rfl⟩ | ⟨hne, h⟩
    · exact hs.sep q b0 g' hk hg'
    · exact hs.sep q b g' (hsub q b h) hg'
  · rcases get q b hq with ⟨h1, h2⟩ | ⟨hne, h⟩ <;> rcases get q' b' hq' with ⟨h1', h2'⟩ | ⟨hne', h'⟩
    · exact .inl (by omega)
    · subst h1
      rw [hgo] at hg'
      injection hg' with hg'
      exact absurd (hg' ▸ hg'') (hgone q' b' hne' h')
    · subst h1'
      rw [hgo] at hg''
      injection hg'' with hg''
      exact absurd (hg'' ▸ hg') (hgone q b hne h)
    · exact hs.inj q q' b b' g' (hsub q b h) (hsub q' b' h') hg' hg''
end Go.Ab
namespace Go.Ab
open Go.RowKit
variable {C : Cfg} {E : Ev} {H : Heap} {ev : Opd → AV}
theorem store_run {o : Oper} {t : TypeId} {x v : Operand} {n : Nat} (ho : o.op = .store t x v) (hn : sz1 C.P t = some n) {a : Act} {w : World} {g off : Nat} {t' : TypeId} {us : Array Value} (hx : a.eval x = .pointer (some ⟨g, off, none⟩)) (hh : w.heap[g]? = some (.cells us t' (0, 0)))
    (hl : (a.eval v).cells.toList.length = n) (hone : ∀ u ∈ (a.eval v).cells.toList, u.oneCell' = true) (hoff : off + n ≤ us.size) :
    (execOp a.eval o).run C.P w = .ok .skip (w.setRow g (us.toList.take off ++ (a.eval v).cells.toList ++ us.toList.drop (off + n)).toArray) := by
  obtain ⟨inf, hinf, hsz⟩ := sz1_spec hn
  have hst := run_storeCells_at (P := C.P) g off t' (a.eval v).cells.toList 0 us w hh (by omega) hone
  have hz : ¬ (a.eval v).cells.size ≠ inf.size := by simp at hl; omega
  simp only [Nat.add_zero] at hst
  simp only [execOp, ho, hx, Instr.storeAt, Instr.sureAddr, storeVar, sizeOf, typeInfo, Sem.run_bind, Sem.run_pure, Result.andThen_ok, run_program, hinf, hst, if_neg hz, hl]
theorem Keeps.setRow {O : Nat → Prop} {w : World} {g : Nat} (hg : O g) {us : Array Value} {t : TypeId} {fz : Nat × Nat} (hh : w.heap[g]? = some (.cells us t fz)) (cs : Array Value) : Keeps O w (w.setRow g cs) :=
  ⟨rfl, rfl, rfl, by simp [World.setRow], fun j hj hO => setRow_other w g j cs (fun e => hO (e ▸ hg)), fun b r hb => ⟨r, (setRow_other w g b cs (fun e => by rw [e, hh] at hb; cases hb)).trans hb, .refl r⟩⟩
theorem updF_spec {f : Nat → Nat → PV} {i j n e m : Nat} {q : List PV} {w : World} {Z : Nat → Prop} {us vs : List Value} (hq : q.length = n) (hv : vs.length = n) (hqv : ∀ r, r < n → RepP w Z (q.getD r .npt) (vs.getD r undef))
    (hj : j + n ≤ e) (hi : i < m) (hu : ∀ i' j', i' < m → j' < e → ∃ u, us[i' * e + j']? = some u ∧ RepP w Z (f i' j') u) :
    ∀ i' j', i' < m → j' < e → ∃ u, (us.take (i * e + j) ++ vs ++ us.drop (i * e + j + n))[i' * e + j']? = some u ∧ RepP w Z (updF f i j n q i' j') u := by
  intro i' j' hi' hj'
  obtain ⟨u, hu1, hu2⟩ := hu i' j' hi' hj'
  have hlt := (List.getElem?_eq_some_iff.1 hu1).1
  have hlen0 : i * e + j + n ≤ us.length := by
    rcases Nat.eq_zero_or_pos (j + n) with h0 | h0
    · obtain ⟨u, hu1, _⟩ := hu i 0 hi (by omega)
      have := (List.getElem?_eq_some_iff.1 hu1).1
      omega
    · obtain ⟨u, hu1, _⟩ := hu i (j + n - 1) hi (by omega)
      have := (List.getElem?_eq_some_iff.1 hu1).1
      omega
  by_cases hin : i' = i ∧ j ≤ j' ∧ j' < j + n
  · obtain ⟨rfl, h1, h2⟩ := hin
    refine ⟨vs.getD (j' - j) undef, ?_, ?_⟩
    · rw [List.getElem?_append_left (by simp; omega), List.getElem?_append_right (by simp; omega)]
      have e1 : i' * e + j' - (us.take (i' * e + j)).length = j' - j := by simp; omega
      rw [e1, List.getD_eq_getElem?_getD, List.getElem?_eq_getElem (by omega)]
      rfl
    · rw [updF_eq hq]; unfold updO
      rw [if_pos ⟨rfl, h1, h2⟩]
      exact hqv _ (by omega)
  · refine ⟨u, ?_, by rw [updF_eq hq]; unfold updO; rw [if_neg hin]; exact hu2⟩
    rcases Nat.lt_or_ge (i' * e + j') (i * e + j) with h | h
    · rw [List.append_assoc, List.getElem?_append_left (by simp; omega), List.getElem?_take, if_pos h]
      exact hu1
    · have h' : i * e + j + n ≤ i' * e + j' := by
        rcases Nat.lt_trichotomy i' i with h1 | h1 | h1
        · have := Nat.mul_le_mul_right e (show i' + 1 ≤ i by omega)
          rw [Nat.add_mul] at this
          omega
        · subst h1
          by_cases hjj : j ≤ j'
          · have : ¬ j' < j + n := fun h2 => hin ⟨rfl, hjj, h2⟩
            omega
          · omega
        · have := Nat.mul_le_mul_right e (show i + 1 ≤ i' by omega)
          rw [Nat.add_mul] at this
          omega
      rw [List.getElem?_append_right (by simp; omega)]
      have t1 : (us.take (i * e + j) ++ vs).length = i * e + j + n := by simp; omega
      rw [t1, List.getElem?_drop, show i * e + j + n + (i' * e + j' - (i * e + j + n)) = i' * e + j' by omega]
      exact hu1
theorem take_splice {cur xs vs : List Value} {off n N : Nat} (htake : cur.take N = xs) (hN : N ≤ cur.length) (hvs : vs.length = n) (hoff : off + n ≤ N) :
    (cur.take off ++ vs ++ cur.drop (off + n)).take N = xs.take off ++ vs ++ xs.drop (off + n) := by
  have e1 : cur.take off = xs.take off := by rw [← htake, List.take_take, Nat.min_eq_left (by omega)]
  have e2 : cur.drop (off + n) = xs.drop (off + n) ++ cur.drop N := by
    conv => lhs; rw [← List.take_append_drop N cur]
    rw [List.drop_append_of_le_length (by simp; omega), htake]
  have hx : xs.length = N := by rw [← htake]; simp; omega
  rw [e1, e2, ← List.append_assoc]
  exact List.take_left' (by simp; omega)
theorem store_sound {o : Oper} {t : TypeId} {x v : Operand} {X V : Opd} {n : Nat} (ho : o.op = .store t x v) (hn : sz1 C.P t = some n) (hx : compX x = some X) (hv : compX v = some V) {K : AV → Heap → VC} (h : (opM H ev (.store n X V) K).holds) :
    ∃ v H', (K v H').holds ∧ OpGoalM C o H ev v H' := by
  simp only [opM] at h
  split at h
  · rename_i k off vs hex hcv
    split at h
    · rename_i bt l hk
      split at h
      · rename_i hvl
        have hvl := Nat.eq_of_beq_eq_true hvl
        obtain ⟨hoff, h⟩ := h
        have hoff : off + n ≤ l.length := hoff
        refine ⟨_, _, h, fun O Z φ a w hs hO hop F nn hF next Q hnx => ?_⟩
        have hrx := hr_c (by have := hop x (by simp [ho, Op.operands]) X hx; rwa [hex] at this)
        obtain ⟨g, hg1, hg2⟩ := hrx.2.2 _ l hk
        obtain ⟨g', t', us, e1, hh, hl⟩ := hs.blk k _ hk
        rw [hg1] at e1
        cases e1
        have hrv := hop v (by simp [ho, Op.operands]) V hv
        obtain ⟨hc1, hc2⟩ := cellsA_rep hcv hrv
        have hlen := hl.1
        have hlen2 := hc1.1
        have hsp := splice0 hl hc1 (off := off) (by omega)
        have hgo : own? (φ k) = some g := by rw [hg1]; rfl
        have hr := store_run (C := C) ho hn hg2 hh (by omega) hc2 (by simp at hlen; omega)
        have e2 : (a.eval v).cells.toList.length = n := by omega
        rw [hvl, e2] at hsp
        obtain ⟨h1, T⟩ := set_sim (b1 := .box bt (l.take off ++ vs ++ l.drop (off + n))) (w' := w.setRow g (us.toList.take off ++ (a.eval v).cells.toList ++ us.toList.drop (off + n)).toArray) hs hk hgo (H0 := H) rfl (fun _ _ h => h) (by simp [World.setRow]) (fun j hj => setRow_other w g j _ hj)
          ⟨fun _ _ _ _ _ h => (by cases h), fun _ l' h => ⟨l, by cases h; rfl⟩, (fun h => by cases h)⟩ (fun q b hne hq he => by
            rcases hs.inj q k b _ g hq hk he hgo with h | h
            · exact hne h
            · cases b <;> exact h)
          (fun T => ⟨g, t', _, hg1, setRow_heap w g us _ bt _ hh, by simpa using hsp.tra T⟩)
        refine wpIn_skp (fun c h0 => by simp [ho] at h0) hF hr (hnx _ _ φ h1 (Keeps.setRow (hs.own k _ g hk hgo) hh _) (fun b hb => setRow_other w g b _ (fun e => hs.sep k _ g hk hgo (e ▸ hb))) ?_ T (NewOk.same (by simp)))
        simp only [RepA, RepAs]
        exact ⟨[], rfl, rfl⟩
      · exact False.elim h
    · exact False.elim h
  · rename_i k i j vs hex hcv
    split at h
    · rename_i e t1 m f ups q hk hq
      split at h
      · rename_i hvl
        have hvl := Nat.eq_of_beq_eq_true hvl
        obtain ⟨hi, hj, h⟩ := h
        have hi : i + 1 ≤ m := hi
        have hj : j + n ≤ e := hj
        refine ⟨_, _, h, fun O Z φ a w hs hO hop F nn hF next Q hnx => ?_⟩
        have hrx := hr_c (by have := hop x (by simp [ho, Op.operands]) X hx; rwa [hex] at this)
        obtain ⟨g, cp, hg1, hg2⟩ := hrx.2.2 _ _ _ _ _ hk
        obtain ⟨xs, hown, hxs⟩ := hs.blk k _ hk
        have hgo : own? (φ k) = some g := by rw [hg1]; rfl
        have hrv := hop v (by simp [ho, Op.operands]) V hv
        obtain ⟨hc1, hc2⟩ := cellsA_rep hcv hrv
        have hqs := plainL_spec hq
        subst hqs
        have hlen2 := hc1.1
        simp only [List.length_map] at hlen2
        obtain ⟨hxl, hown2⟩ := hown
        rw [hg1] at hown2
        rcases hown2 with ⟨he0, _⟩ | ⟨g', cap, cur, he0, hb0, hcur, hmc, hcm, hcs, htake⟩
        · cases he0
        · injection he0 with e1 e2 e3
          injection e1 with e1
          injection e1 with e1
          subst e1 e3
          have hne : i * e + e ≤ m * e := by
            have := Nat.mul_le_mul_right e (show i + 1 ≤ m by omega)
            rw [Nat.add_mul] at this
            omega
          have hmce : m * e ≤ cur.size := by rw [hcs]; exact Nat.mul_le_mul_right _ hmc
          have e3 : (a.eval v).cells.toList.length = n := by omega
          have e4 : (a.eval v).cells.size = n := by simpa using e3
          have hr := store_run (C := C) ho hn hg2 hcur (by omega) hc2 (by omega)
          have hspec := updF_spec (f := f) (i := i) (j := j) (e := e) (m := m) (us := xs) (vs := (a.eval v).cells.toList) (w := w) (Z := Z) hvl (by omega) (fun r hr => by
            obtain ⟨u, hu, hc⟩ := hc1.2 r (.p q[r]) (by simp [show r < q.length by omega])
            simp only [RepC] at hc
            rw [List.getD_eq_getElem?_getD, List.getElem?_eq_getElem (show r < q.length by omega), List.getD_eq_getElem?_getD, hu]
            exact hc) hj (by omega) hxs
          have hxs' : xs.length = m * e := hxl
          have htk : (cur.toList.take (i * e + j) ++ (a.eval v).cells.toList ++ cur.toList.drop (i * e + j + n)).take (m * e) = xs.take (i * e + j) ++ (a.eval v).cells.toList ++ xs.drop (i * e + j + n) := take_splice htake (by simpa using hmce) (by omega) (by omega)
          obtain ⟨h1, T⟩ := set_sim (b1 := .arr e t1 m (updF f i j n q) ups) (w' := w.setRow g (cur.toList.take (i * e + j) ++ (a.eval v).cells.toList ++ cur.toList.drop (i * e + j + n)).toArray) hs hk hgo (H0 := killR k ups 0 H) killR_len (fun q b h => (killR_get h).1) (by simp [World.setRow]) (fun j hj => setRow_other w g j _ hj)
            ⟨fun _ _ _ _ _ h => by cases h; exact ⟨f, rfl⟩, (fun _ l' h => by cases h), (fun h => by cases h)⟩ (fun q b hne hq he => by
              obtain ⟨hq1, hq2⟩ := killR_get hq
              rcases hs.inj q k b _ g hq1 hk he hgo with h | h
              · exact hne h
              · cases b with
                | arr e' t' n' f' ups' =>
                  have := hq2 _ _ _ _ _ rfl
                  rw [Nat.zero_add] at this
                  obtain ⟨_, _, h | h⟩ := h
                  · exact this.2 h.1
                  · exact this.1 h.1
                | _ => exact h)
            (fun T => ⟨xs.take (i * e + j) ++ (a.eval v).cells.toList ++ xs.drop (i * e + j + n), ⟨by simp; omega, .inr ⟨g, cp, _, hg1, Nat.zero_le _, setRow_heap w g cur _ t1 _ hcur, hmc, hcm, by simp; omega, by simp only [List.toList_toArray]; exact htk⟩⟩, fun i' j' hi' hj' => by
                obtain ⟨u, hu, hp⟩ := hspec i' j' hi' hj'
                refine ⟨u, hu, hp.keep (fun _ h => h) fun p hp => World.cell?_of_block (setRow_other w g p.block _ (fun e => hs.sep k _ g hk hgo (e ▸ hp)))⟩⟩)
          refine wpIn_skp (fun c h0 => by simp [ho] at h0) hF hr (hnx _ _ φ h1 (Keeps.setRow (hs.own k _ g hk hgo) hcur _) (fun b hb => setRow_other w g b _ (fun e => hs.sep k _ g hk hgo (e ▸ hb))) ?_ T (NewOk.same (by simp [killR_len])))
          simp only [RepA, RepAs]
          exact ⟨[], rfl, rfl⟩
      · exact False.elim h
    · exact False.elim h
  · exact False.elim h
theorem append_none {w : World} {t ty e : TypeId} {i : TypeInfo} {size : Nat} (ht : C.P.underlying t = some (.slice e)) (hi : C.P.info? e = some i)
    {v : Value} {n : Nat} {xs : List Value} (hown : w.ownsRow 0 e size v n xs) (c : Nat) : (Builtin.append_ #[t, t] ty #[v, .slice none 0 c]).run C.P w = .ok v w := by
  rcases hown.2 with ⟨rfl, rfl⟩ | ⟨g, cap, cur, rfl, _, _, hnc, _⟩
  · simp [Builtin.append_, run_underlying ht, sizeOf, typeInfo, hi, Builtin.lenOf, Builtin.firstCells]
  · simp [Builtin.append_, run_underlying ht, sizeOf, typeInfo, hi, Builtin.lenOf, Builtin.firstCells, hnc, storeCells]
theorem append_some {w : World} (t ty e : TypeId) (i : TypeInfo) (z : Value) (ht : C.P.underlying t = some (.slice e)) (hi : C.P.info? e = some i) (hz : i.zero = some z)
    (hzs : z.cells.size = i.size) (hsz : 0 < i.size) {v : Value} {n : Nat} {xs : List Value} (hown : w.ownsRow 0 e i.size v n xs)
    (a : Addr) (m c : Nat) (news : List Value) (hl : news.length = m * i.size) (hnews : ∀ j u, news[j]? = some u → w.cell? (a.add j) = some u) (h1 : ∀ u ∈ news, u.oneCell' = true)
    (h63 : n + m ≤ maxLen) (hbytes : (n + m) * i.bytes ≤ 140737488355328) :
    ∃ v' w', (Builtin.append_ #[t, t] ty #[v, .slice (some a) m c]).run C.P w = .ok v' w' ∧ w'.ownsRow 0 e i.size v' (n + m) (xs ++ news) ∧ w.grownBy w' v.ownBlock ∧ (v'.ownBlock = v.ownBlock ∨ v'.ownBlock = some w.heap.size) ∧
      ∀ v0 n0 xs0, n0 ≤ n → w.ownsRow 0 e i.size v0 n0 xs0 → w'.ownsRow 0 e i.size v0 n0 xs0 := by
  obtain ⟨v', w', hr, h2, h3, h4, h5⟩ := run_append_own_at (P := C.P) w 0 t ty e i z i.size i.bytes ht hi hz rfl rfl hzs hsz v n xs hown a m c news hl hnews h1 h63 hbytes (Nat.zero_le _)
  refine ⟨v', w', hr, h2, h3, h5, fun v0 n0 xs0 hn0 h0 => ?_⟩
  by_cases hne : v0.ownBlock = none ∨ v0.ownBlock ≠ v.ownBlock
  · exact h0.kept h3 hne
  · have hne1 : v0.ownBlock = v.ownBlock := by
      by_cases h : v0.ownBlock = v.ownBlock
      · exact h
      · exact absurd (.inr h) hne
    have hne2 : v0.ownBlock ≠ none := fun h => hne (.inl h)
    refine ⟨h0.1, ?_⟩
    rcases h0.2 with ⟨rfl, _⟩ | ⟨g, cap0, cur, rfl, hb0, hg, hnc0, hcm0, hcs0, htake0⟩
    · exact absurd rfl hne2
    · simp only [Value.ownBlock] at hne1
      rcases hown.2 with ⟨rfl, _⟩ | ⟨g', cap, cur', rfl, _, hg', hnc, hcm, hcs, htake⟩
      · simp [Value.ownBlock] at hne1
      · simp only [Value.ownBlock, Option.some.injEq] at hne1
        subst hne1
        rw [hg] at hg'
        injection hg' with hg'
        injection hg' with hcur
        subst hcur
        by_cases hroom : n + m ≤ cap
        · have hfit : n * i.size + news.length ≤ cur.size := by rw [hl, hcs, ← Nat.add_mul]; exact Nat.mul_le_mul_right _ hroom
          have hr2 := run_append_room (P := C.P) w t ty e i ht hi g n cap cur hg a m c news hl hnews h1 hroom hfit
          rw [hr] at hr2
          injection hr2 with e1 e2
          subst e2
          refine .inr ⟨g, cap0, _, rfl, hb0, setRow_heap w g cur _ e _ hg, hnc0, hcm0, ?_, ?_⟩
          · simp only [List.size_toArray, List.length_append, List.length_take, List.length_drop, Array.length_toList]
            omega
          · have hle : n0 * i.size ≤ n * i.size := Nat.mul_le_mul_right _ hn0
            simp only [List.toList_toArray]
            rw [List.append_assoc, List.take_append_of_le_length (by simp; omega), List.take_take, Nat.min_eq_left hle]
            exact htake0
        · have holds : ∀ j u, xs[j]? = some u → w.cell? ((⟨g, 0, none⟩ : Addr).add j) = some u := hown.cells (g := g) rfl
          have hr2 := run_append_grow (P := C.P) w t ty e i z ht hi hz ⟨g, 0, none⟩ n cap xs hown.1 holds a m c news hl hnews (by omega) (by simp only [maxLen] at h63; omega) (growslice_fits (by omega) hbytes)
          rw [hr] at hr2
          injection hr2 with e1 e2
          subst e2
          refine .inr ⟨g, cap0, cur, rfl, hb0, ?_, hnc0, hcm0, hcs0, htake0⟩
          rw [Below.heap_alloc w.drew _ g (by have := (Array.getElem?_eq_some_iff.1 hg).1; simpa using this)]
          exact hg
theorem rows_list {m e : Nat} {R : Nat → Nat → Value → Prop} (h : ∀ i j, i < m → j < e → ∃ u, R i j u) : ∃ us : List Value, us.length = m * e ∧ ∀ i j, i < m → j < e → ∃ u, us[i * e + j]? = some u ∧ R i j u := by
  have hall : ∀ q : Nat, ∃ u, q < m * e → R (q / e) (q % e) u := fun q => by
    by_cases hq : q < m * e
    · have he : 0 < e := by
        rcases Nat.eq_zero_or_pos e with h0 | h0
        · subst h0; simp at hq
        · exact h0
      obtain ⟨u, hu⟩ := h (q / e) (q % e) (Nat.div_lt_of_lt_mul (by rw [Nat.mul_comm]; exact hq)) (Nat.mod_lt _ he)
      exact ⟨u, fun _ => hu⟩
    · exact ⟨undef, fun h => absurd h hq⟩
  obtain ⟨us, hus⟩ := Classical.axiomOfChoice hall
  refine ⟨(List.range (m * e)).map us, by simp, fun i j hi hj => ?_⟩
  have hlt : i * e + j < m * e := by
    have := Nat.mul_le_mul_right e (show i + 1 ≤ m by omega)
    rw [Nat.add_mul] at this
    omega
  refine ⟨us (i * e + j), by simp [hlt], ?_⟩
  have := hus _ hlt
  rw [show (i * e + j) / e = i by rw [Nat.add_comm, Nat.add_mul_div_right _ _ (by omega), Nat.div_eq_of_lt hj]; omega, show (i * e + j) % e = j by rw [Nat.add_comm, Nat.add_mul_mod_self_right, Nat.mod_eq_of_lt hj]] at this
  exact this
theorem src_sound {O Z : Nat → Prop} {φ : Nat → Value} {w : World} (hs : SimH C O Z φ H w) {e m : Nat} {g : Nat → Nat → PV} {x : AV} {u : Value} (h : srcA H e x = some (m, g)) (hr : RepA w Z H φ x u) :
    ∃ a c, u = .slice a m c ∧ (a = none → m = 0) ∧ ∃ us : List Value, us.length = m * e ∧ (∀ ad, a = some ad → ∀ j v, us[j]? = some v → w.cell? (ad.add j) = some v) ∧ ∀ i j, i < m → j < e → ∃ v, us[i * e + j]? = some v ∧ RepP w Z (g i j) v := by
  have mk : ∀ (ad : Addr) (c : Nat), (∀ i j, i < m → j < e → ∃ v, w.cell? (ad.add (i * e + j)) = some v ∧ RepP w Z (g i j) v) →
      ∃ us : List Value, us.length = m * e ∧ (∀ ad', some ad = some ad' → ∀ j v, us[j]? = some v → w.cell? (ad'.add j) = some v) ∧ ∀ i j, i < m → j < e → ∃ v, us[i * e + j]? = some v ∧ RepP w Z (g i j) v := by
    intro ad c hall
    obtain ⟨us, h1, h2⟩ := rows_list (R := fun i j v => w.cell? (ad.add (i * e + j)) = some v ∧ RepP w Z (g i j) v) hall
    refine ⟨us, h1, fun ad' had j v hv => ?_, fun i j hi hj => let ⟨v, a, b⟩ := h2 i j hi hj; ⟨v, a, b.2⟩⟩
    cases had
    have hlt : j < m * e := by rw [← h1]; exact (List.getElem?_eq_some_iff.1 hv).1
    have he : 0 < e := by
      rcases Nat.eq_zero_or_pos e with h0 | h0
      · subst h0; simp at hlt
      · exact h0
    obtain ⟨v', hv', hc, _⟩ := h2 (j / e) (j % e) (Nat.div_lt_of_lt_mul (by rw [Nat.mul_comm]; exact hlt)) (Nat.mod_lt _ he)
    have ej : j / e * e + j % e = j := by rw [Nat.mul_comm]; exact Nat.div_add_mod j e
    rw [ej] at hv' hc
    rw [hv] at hv'
    cases hv'
    exact hc
  have empty : ∀ (a : Option Addr), m = 0 → ∃ us : List Value, us.length = m * e ∧ (∀ ad, a = some ad → ∀ j v, us[j]? = some v → w.cell? (ad.add j) = some v) ∧ ∀ i j, i < m → j < e → ∃ v, us[i * e + j]? = some v ∧ RepP w Z (g i j) v := fun a h0 =>
    ⟨[], by rw [h0]; simp, fun _ _ j v hv => by simp at hv, fun i j hi => by omega⟩
  unfold srcA at h
  split at h
  · cases h
    have hr := hr_c hr
    simp only [RepC] at hr
    cases hr
    exact ⟨none, 0, rfl, fun _ => rfl, empty _ rfl⟩
  · rename_i e' m' g'
    split at h
    · rename_i hd
      have hd := Nat.eq_of_beq_eq_true hd
      subst hd
      cases h
      have hr := hr_c hr
      simp only [RepC] at hr
      cases hr with
      | isl0 _ _ a cap => exact ⟨a, cap, rfl, fun _ => rfl, empty _ rfl⟩
      | isl _ _ _ ad cap us hn hz hc hrr => exact ⟨some ad, cap, rfl, (fun h => by cases h), mk ad cap fun i j hi hj => ⟨us i j, hc i j hi hj, hrr i j hi hj⟩⟩
    · cases h
  · rename_i k off len
    split at h
    · rename_i e' t n g' ups hk
      split at h
      · rename_i hd
        have hd := Nat.eq_of_beq_eq_true hd
        subst hd
        cases h
        obtain ⟨a, cap, rfl, hc, h4⟩ := arr_cells hs hk (hr_c hr)
        rcases Nat.eq_zero_or_pos m with h0 | hpos
        · exact ⟨a, cap, rfl, fun _ => h0, empty _ h0⟩
        · obtain ⟨b, rfl, _, hcell⟩ := h4 hpos
          exact ⟨_, cap, rfl, (fun h => by cases h), mk _ cap fun i j hi hj => by
            obtain ⟨v, h1, h2⟩ := hcell i j hi hj
            exact ⟨v, by rw [add_lit]; exact h1, h2⟩⟩
      · cases h
    · cases h
  · rename_i v
    split at h
    · rename_i hv
      cases h
      obtain ⟨ad, c, rfl⟩ := emptyB_spec hv
      have hr := hr_c hr
      simp only [RepC] at hr
      cases hr
      exact ⟨some ad, c, rfl, fun _ => rfl, empty _ rfl⟩
    · cases h
  · cases h
theorem own_block {w : World} {e : TypeId} {size n : Nat} {v : Value} {xs : List Value} (h : w.ownsRow 0 e size v n xs) : own? v = v.ownBlock := by
  rcases h.2 with ⟨e1, _⟩ | ⟨g', cap, cur, e1, _⟩ <;> rw [e1] <;> rfl
theorem grow_sim {O Z : Nat → Prop} {φ : Nat → Value} {w w' : World} (hs : SimH C O Z φ H w) (hO : ∀ b, w.heap.size ≤ b → O b) {old : Value} {e : Nat} {t : TypeId} {n n0 : Nat} {f : Nat → Nat → PV} {xs : List Value} {ups : List Nat} {H0 : Heap} {v' : Value}
    (hlen : H0.length = H.length) (hsub : ∀ (q : Nat) (b : Blk), H0[q]? = some (some b) → H[q]? = some (some b))
    (hkin : ∀ (q : Nat) (b : Blk) (g : Nat), H0[q]? = some (some b) → own? (φ q) = some g → old.ownBlock = some g → ∃ n1 f1 ups1, b = .arr e t n1 f1 ups1 ∧ n1 ≤ n0 ∧ q ∈ ups)
    (hold : ∀ g, old.ownBlock = some g → O g ∧ ¬ Z g ∧ ∃ us t1 fz, w.heap[g]? = some (.cells us t1 fz)) (hn : n0 ≤ n)
    (hown : w'.ownsRow 0 t e v' n xs) (hg : w.grownBy w' old.ownBlock) (hat : v'.ownBlock = old.ownBlock ∨ v'.ownBlock = some w.heap.size)
    (hkeep : ∀ v1 n1 xs1, n1 ≤ n0 → w.ownsRow 0 t e v1 n1 xs1 → w'.ownsRow 0 t e v1 n1 xs1)
    (hx : ∀ i j, i < n → j < e → ∃ u, xs[i * e + j]? = some u ∧ RepP w Z (f i j) u) :
    ∃ φ', SimH C O Z φ' (H0 ++ [some (.arr e t n f ups)]) w' ∧ Keeps O w w' ∧ (∀ b, Z b → w'.heap[b]? = w.heap[b]?) ∧ RepA w' Z (H0 ++ [some (.arr e t n f ups)]) φ' (.c (.sl H.length 0 n)) v' ∧ Tra w w' Z Z H (H0 ++ [some (.arr e t n f ups)]) φ φ' ∧ NewOk H (H0 ++ [some (.arr e t n f ups)]) φ' := by
  have hobj : ∀ b, Z b → w'.heap[b]? = w.heap[b]? := fun b hb => hg.block b (hs.zlt b hb) (fun e => (hold _ e.symm).2.1 hb)
  have hcell : ∀ p : Addr, Z p.block → w'.cell? p = w.cell? p := fun p hp => World.cell?_of_block (hobj _ hp)
  have T := ext_tra (H0 := H0) (b1 := .arr e t n f ups) (u := v') (φ := φ) hlen hsub hcell
  have eo := own_block hown
  refine ⟨upd φ H.length v', ext_sim hs hlen hsub hg.size (fun q b hlt hq => ?_) ?_ (fun g hgv => ?_) (fun q b g hq hgq hgv => ?_), ⟨hg.os, hg.tape, hg.output, hg.size, fun k hk hOk => hg.block k hk (fun e => hOk (hold _ e.symm).1), fun b r hb => ⟨r, (hg.block b (Array.getElem?_eq_some_iff.1 hb).1 (fun e => by obtain ⟨us, t1, fz, h⟩ := (hold _ e.symm).2.2; rw [h] at hb; cases hb)).trans hb, .refl r⟩⟩, hobj, ?_, T, fun q b b2 g hq hb h2 hgq hgv => ?_⟩
  · by_cases hb : ∃ g, own? (φ q) = some g ∧ old.ownBlock = some g
    · obtain ⟨g, hgq, hgo⟩ := hb
      obtain ⟨n1, f1, ups1, rfl, hle, _⟩ := hkin q b g hq hgq hgo
      obtain ⟨xs1, hown1, hx1⟩ := hs.blk q _ (hsub q _ hq)
      exact ⟨xs1, by rw [upd_lt hlt]; exact hkeep _ _ _ hle hown1, fun i j hi hj => let ⟨u, hu, hp⟩ := hx1 i j hi hj; ⟨u, hu, hp.keep (fun _ h => h) hcell⟩⟩
    · exact (hs.blk q b (hsub q b hq)).turn T (fun _ h => h) hcell (upd_lt hlt) fun g hgq => hg.block g (own_lt hs (hsub q b hq) hgq) (fun e => hb ⟨g, hgq, e.symm⟩)
  · exact ⟨xs, by rw [upd_at]; exact hown, fun i j hi hj => let ⟨u, hu, hp⟩ := hx i j hi hj; ⟨u, hu, hp.keep (fun _ h => h) hcell⟩⟩
  · rw [eo] at hgv
    rcases hat with h | h
    · exact ⟨(hold g (h ▸ hgv)).1, (hold g (h ▸ hgv)).2.1⟩
    · rw [h] at hgv
      injection hgv with hgv
      exact ⟨hO g (by omega), fun hz => by have := hs.zlt g hz; omega⟩
  · rw [eo] at hgv
    rcases hat with h | h
    · obtain ⟨n1, f1, ups1, rfl, hle, hm⟩ := hkin q b g hq hgq (h ▸ hgv)
      exact ⟨⟨rfl, rfl, .inl ⟨hm, by omega⟩⟩, ⟨rfl, rfl, .inr ⟨hm, by omega⟩⟩⟩
    · rw [h] at hgv
      injection hgv with hgv
      have := own_lt hs (hsub q b hq) hgq
      omega
  · simp only [RepA, RepC]
    refine ⟨⟨by simp; omega, by rw [← hlen]; simp⟩, ?_, fun e' t' n' f' ups' hk => ?_⟩
    · rcases hown.2 with ⟨e1, _⟩ | ⟨g', cap, cur, e1, _⟩ <;> rw [e1] <;> rfl
    · rcases get_snoc hk with ⟨h1, _⟩ | ⟨_, h2⟩
      · omega
      · cases h2
        rw [upd_at]
        refine ⟨by omega, ?_⟩
        rcases hown.2 with ⟨e1, e2⟩ | ⟨g', cap, cur, e1, _, _, hnc, _⟩
        · exact ⟨none, 0, by rw [e1, e2], by omega, fun _ _ => rfl, fun h => by omega⟩
        · exact ⟨_, cap, e1, hnc, fun _ _ => rfl, fun _ => ⟨g', cap, e1, by simp⟩⟩
  · rw [upd_at, eo] at hgv
    rw [upd_lt hq] at hgq
    rw [List.getElem?_append_left (by omega)] at hb
    have : (H0 ++ [some (.arr e t n f ups)])[H.length]? = some (some (.arr e t n f ups)) := by rw [← hlen]; simp
    rw [this] at h2
    cases h2
    rcases hat with h | h
    · obtain ⟨n1, f1, ups1, rfl, hle, hm⟩ := hkin q b g hb hgq (h ▸ hgv)
      exact ⟨_, _, _, _, _, _, _, _, rfl, rfl, by omega, hm⟩
    · rw [h] at hgv
      injection hgv with hgv
      have := own_lt hs (hsub q b hb) hgq
      omega
theorem app_sound {o : Oper} {t e : TypeId} {as_ : Array Operand} {s x : Operand} {S X : Opd} {i : TypeInfo} {z : Value} (ho : o.op = .call { callee := .builtin .append, args := as_, argTypes := #[t, t] }) (has : as_ = #[s, x]) (ht : C.P.underlying t = some (.slice e)) (hi : C.P.info? e = some i) (hz : i.zero = some z)
    (hk : z.cells.size = i.size ∧ 0 < i.size ∧ 0 < i.bytes) (hS : compX s = some S) (hX : compX x = some X) {K : AV → Heap → VC} (h : (opM H ev (.app i.size e i.bytes S X) K).holds) : ∃ v H', (K v H').holds ∧ OpGoalM C o H ev v H' := by
  subst has
  simp only [opM] at h
  have hdf : ∀ c, o.op ≠ .defer c := fun c h0 => by simp [ho] at h0
  have run : ∀ (a : Act) (w w' : World) (v' : Value), (Builtin.append_ #[t, t] o.type #[a.eval s, a.eval x]).run C.P w = .ok v' w' → (execOp a.eval o).run C.P w = .ok (.value v') w' := by
    intro a w w' v' hr
    simp only [execOp, ho, resolve, invoke, builtin, Sem.run_bind, Sem.run_pure, Result.andThen_ok, List.map_toArray, List.map_cons, List.map_nil, hr]
  have main : ∀ {O Z : Nat → Prop} {φ : Nat → Value} {a : Act} {w : World} {m n : Nat} {g : Nat → Nat → PV} {xs : List Value}, SimH C O Z φ H w → OpdRep w Z H φ ev a o.op.operands → srcA H i.size (ev X) = some (m, g) → w.ownsRow 0 e i.size (a.eval s) n xs → (n + m) * i.bytes ≤ 140737488355328 →
      ∃ v' w' us, (execOp a.eval o).run C.P w = .ok (.value v') w' ∧ w'.ownsRow 0 e i.size v' (n + m) (xs ++ us) ∧ us.length = m * i.size ∧ w.grownBy w' (a.eval s).ownBlock ∧ (v'.ownBlock = (a.eval s).ownBlock ∨ v'.ownBlock = some w.heap.size) ∧
        (∀ v0 n0 xs0, n0 ≤ n → w.ownsRow 0 e i.size v0 n0 xs0 → w'.ownsRow 0 e i.size v0 n0 xs0) ∧ ∀ p j, p < m → j < i.size → ∃ v, us[p * i.size + j]? = some v ∧ RepP w Z (g p j) v := by
    intro O Z φ a w m n g xs hs hop hsrc hown hb
    have hrx := hop x (by rw [ho]; simp [Op.operands, Call.operands]) X hX
    obtain ⟨ad, c, hu, hnone, us, hul, huc, hup⟩ := src_sound hs hsrc hrx
    have hmx : n + m ≤ 140737488355328 := by
      have := Nat.le_mul_of_pos_right (n + m) hk.2.2
      omega
    cases ad with
    | none =>
      have hm := hnone rfl
      subst hm
      have hus : us = [] := List.eq_nil_of_length_eq_zero (by simpa using hul)
      subst hus
      refine ⟨a.eval s, w, [], run a w w _ (by rw [hu]; exact append_none ht hi hown c), by simpa using hown, by simp, ⟨rfl, rfl, rfl, Nat.le_refl _, fun _ _ _ => rfl⟩, .inl rfl, fun _ _ _ _ h => h, hup⟩
    | some ad =>
      have hone : ∀ u ∈ us, u.oneCell' = true := fun u hu' => by
        obtain ⟨q, hq, rfl⟩ := List.getElem_of_mem hu'
        have hq' : q < m * i.size := by omega
        obtain ⟨v, hv, hp⟩ := hup (q / i.size) (q % i.size) (Nat.div_lt_of_lt_mul (by rw [Nat.mul_comm]; exact hq')) (Nat.mod_lt _ hk.2.1)
        have ej : q / i.size * i.size + q % i.size = q := by rw [Nat.mul_comm]; exact Nat.div_add_mod q _
        rw [ej, List.getElem?_eq_getElem hq] at hv
        cases hv
        exact hp.one
      obtain ⟨v', w', hrun, h2, h3, h5, h6⟩ := append_some (C := C) (w := w) t o.type e i z ht hi hz hk.1 hk.2.1 hown ad m c us hul (huc ad rfl) hone (by simp only [maxLen]; omega) hb
      exact ⟨v', w', us, run a w w' _ (by rw [hu]; exact hrun), h2, hul, h3, h5, h6, hup⟩
  split at h
  · rename_i m g hsrc
    split at h
    · rename_i hes
      obtain ⟨hb, h⟩ := h
      have hb : m * i.bytes ≤ 140737488355328 := hb
      refine ⟨_, _, h, fun O Z φ a w hs hO hop F nn hF next Q hnx => ?_⟩
      have hrs := hr_c (by have := hop s (by rw [ho]; simp [Op.operands, Call.operands]) S hS; rwa [hes] at this)
      simp only [RepC] at hrs
      have hnil : a.eval s = .slice none 0 0 := by
        generalize a.eval s = u at hrs
        cases hrs
        rfl
      obtain ⟨v', w', us, hrun, hown, hul, hg, hat, hkeep, hup⟩ := main (n := 0) (xs := []) hs hop hsrc (by rw [hnil]; exact World.ownsRow_nil w 0 e i.size) (by simpa using hb)
      rw [hnil] at hg hat
      simp only [Nat.zero_add, List.nil_append] at hown
      obtain ⟨φ', h1, h2, h3, h4, T, N⟩ := grow_sim (H0 := H) (old := .slice none 0 0) (n0 := 0) (ups := []) hs hO rfl (fun q b hq => hq) (fun q b g _ _ h => by simp [Value.ownBlock] at h) (fun g h => by simp [Value.ownBlock] at h) (Nat.zero_le _) hown hg hat hkeep hup
      exact wpIn_val hdf hF hrun (hnx _ _ φ' h1 h2 h3 h4 T N)
    · rename_i k off len hes
      split at h
      · rename_i e' t' n f ups hkk
        split at h
        · rename_i hd
          simp only [Bool.and_eq_true] at hd
          have hd1 := Nat.eq_of_beq_eq_true hd.1.1
          have hd2 := Nat.eq_of_beq_eq_true hd.1.2
          have hd3 := Nat.eq_of_beq_eq_true hd.2
          subst hd1 hd2 hd3
          obtain ⟨hl1, hl2, hb, h⟩ := h
          have hl1 : len ≤ n := hl1
          have hl2 : n ≤ len := hl2
          obtain rfl : len = n := by omega
          have hb : (len + m) * i.bytes ≤ 140737488355328 := hb
          refine ⟨_, _, h, fun O Z φ a w hs hO hop F nn hF next Q hnx => ?_⟩
          have hrs := hr_c (by have := hop s (by rw [ho]; simp [Op.operands, Call.operands]) S hS; rwa [hes] at this)
          obtain ⟨hklt, _, hr3⟩ := hrs
          obtain ⟨_, _, _, hu, _, heq, _⟩ := hr3 _ _ _ _ _ hkk
          have hsv : a.eval s = φ k := heq rfl rfl
          obtain ⟨xs, hown0, hx0⟩ := hs.blk k _ hkk
          obtain ⟨v', w', us, hrun, hown, hul, hg, hat, hkeep, hup⟩ := main hs hop hsrc (by rw [hsv]; exact hown0) hb
          rw [hsv] at hg hat
          have eown := own_block hown0
          obtain ⟨φ', h1, h2, h3, h4, T, N⟩ := grow_sim (H0 := killD k H) (old := φ k) (n0 := len) (ups := k :: ups) hs hO killD_len (fun q b hq => (killD_get hq).1)
            (fun q b g hq hgq hgo => by
              obtain ⟨hq1, hq2⟩ := killD_get hq
              rw [← eown] at hgo
              rcases hs.inj q k b _ g hq1 hkk hgq hgo with h | h
              · subst h
                rw [hkk] at hq1
                cases hq1
                exact ⟨_, _, _, rfl, Nat.le_refl _, by simp⟩
              · cases b with
                | arr e2 t2 n2 f2 ups2 =>
                  obtain ⟨rfl, rfl, h | h⟩ := h
                  · exact ⟨_, _, _, rfl, h.2, List.mem_cons_of_mem _ h.1⟩
                  · exact absurd h.1 (hq2 _ _ _ _ _ rfl)
                | _ => exact False.elim h)
            (fun g hgo => by rw [← eown] at hgo; exact ⟨hs.own k _ g hkk hgo, hs.sep k _ g hkk hgo, by rcases hown0.2 with ⟨e1, _⟩ | ⟨g', cap, cur, e1, _, hh, _⟩ <;> rw [e1] at hgo <;> simp [own?] at hgo; subst hgo; exact ⟨_, _, _, hh⟩⟩) (Nat.le_add_right _ _) (f := appF len f g) hown hg hat hkeep (fun p j hp hj => by
              have hxl := hown0.1
              unfold appF
              by_cases hpn : p < len
              · rw [if_pos hpn]
                obtain ⟨u, hu', hpu⟩ := hx0 p j hpn hj
                exact ⟨u, by rw [List.getElem?_append_left (by exact (List.getElem?_eq_some_iff.1 hu').1)]; exact hu', hpu⟩
              · rw [if_neg hpn]
                obtain ⟨u, hu', hpu⟩ := hup (p - len) j (by omega) hj
                refine ⟨u, ?_, hpu⟩
                have e1 : p * i.size + j = xs.length + ((p - len) * i.size + j) := by
                  rw [hxl, ← Nat.add_assoc, ← Nat.add_mul]
                  congr 2
                  omega
                rw [e1, List.getElem?_append_right (by omega), Nat.add_sub_cancel_left]
                exact hu')
          exact wpIn_val hdf hF hrun (hnx _ _ φ' h1 h2 h3 h4 T N)
        · exact False.elim h
      · exact False.elim h
    · exact False.elim h
  · exact False.elim h
end Go.Ab
namespace Go.Ab
open Go.RowKit
variable {C : Cfg} {E : Ev} {H : Heap} {ev : Opd → AV}
theorem append_str {w : World} (t u ty e : TypeId) (i : TypeInfo) (ht : C.P.underlying t = some (.slice e)) (hu : C.P.underlying u = some .string) (hi : C.P.info? e = some i) (hz : i.zero = some (.int .u8 0)) (hsize : i.size = 1) (hby : i.bytes = 1)
    {v : Value} {n : Nat} {xs : List Value} (hown : w.ownsRow 0 e 1 v n xs) (s : ByteArray) (hbytes : n + s.size ≤ 140737488355328) :
    ∃ v' w', (Builtin.append_ #[t, u] ty #[v, .string s]).run C.P w = .ok v' w' ∧ w'.ownsRow 0 e 1 v' (n + s.size) (xs ++ Lib.strCells s) ∧ w.grownBy w' v.ownBlock ∧ (v'.ownBlock = v.ownBlock ∨ v'.ownBlock = some w.heap.size) ∧
      ∀ v0 n0 xs0, n0 ≤ n → w.ownsRow 0 e 1 v0 n0 xs0 → w'.ownsRow 0 e 1 v0 n0 xs0 := by
  have h63 : n + s.size ≤ maxLen := by unfold maxLen; omega
  obtain ⟨v', w', hr, h2, h3, h4⟩ := Lib.run_append_own_string (P := C.P) w 0 t u ty e i ht hu hi hz hsize hby v n xs hown s h63 hbytes (Nat.zero_le _)
  have hxl : xs.length = n := by simpa using hown.1
  refine ⟨v', w', hr, h2, h3, ?_, ?_⟩
  · rcases hown.2 with ⟨rfl, rfl⟩ | ⟨g, cap, cur, rfl, _, hg, hnc, hcm, hcs, htake⟩
    · by_cases hm : s.size = 0
      · rw [h4.2 ⟨rfl, hm⟩]; exact .inl rfl
      · have hr2 := run_append_nil_string (P := C.P) w t u ty e i (.int .u8 0) ht hu hi hz s (by omega) (by omega) (by rw [hby]; omega)
        rw [hr] at hr2
        injection hr2 with e1 e2
        rw [e1]; exact .inr rfl
    · by_cases hroom : n + s.size ≤ cap
      · have hr2 := Lib.run_append_room_string (P := C.P) w t u ty e i ht hu hi hsize g n cap cur hg s hroom (by simp at hcs; omega)
        rw [hr] at hr2
        injection hr2 with e1 e2
        rw [e1]; exact .inl rfl
      · have holds : ∀ j u, xs[j]? = some u → w.cell? ((⟨g, 0, none⟩ : Addr).add j) = some u := hown.cells (g := g) rfl
        have hr2 := Lib.run_append_grow_string (P := C.P) w t u ty e i (.int .u8 0) ht hu hi hz ⟨g, 0, none⟩ n cap xs (by rw [hsize]; simpa using hxl) holds s (by omega) (by simp only [maxLen] at h63; omega) (by rw [hby]; exact growslice_fits (by omega) (by omega))
        rw [hr] at hr2
        injection hr2 with e1 e2
        rw [e1]; exact .inr rfl
  · intro v0 n0 xs0 hn0 h0
    by_cases hne : v0.ownBlock = none ∨ v0.ownBlock ≠ v.ownBlock
    · exact h0.kept h3 hne
    · have hne1 : v0.ownBlock = v.ownBlock := by
        by_cases h : v0.ownBlock = v.ownBlock
        · exact h
        · exact absurd (.inr h) hne
      have hne2 : v0.ownBlock ≠ none := fun h => hne (.inl h)
      refine ⟨h0.1, ?_⟩
      rcases h0.2 with ⟨rfl, _⟩ | ⟨g, cap0, cur, rfl, hb0, hg, hnc0, hcm0, hcs0, htake0⟩
      · exact absurd rfl hne2
      · simp only [Value.ownBlock] at hne1
        rcases hown.2 with ⟨rfl, _⟩ | ⟨g', cap, cur', rfl, _, hg', hnc, hcm, hcs, htake⟩
        · simp [Value.ownBlock] at hne1
        · simp only [Value.ownBlock, Option.some.injEq] at hne1
          subst hne1
          rw [hg] at hg'
          injection hg' with hg'
          injection hg' with hcur
          subst hcur
          by_cases hroom : n + s.size ≤ cap
          · have hr2 := Lib.run_append_room_string (P := C.P) w t u ty e i ht hu hi hsize g n cap cur hg s hroom (by simp at hcs; omega)
            rw [hr] at hr2
            injection hr2 with e1 e2
            subst e2
            refine .inr ⟨g, cap0, _, rfl, hb0, setRow_heap w g cur _ e _ hg, hnc0, hcm0, ?_, ?_⟩
            · simp only [List.size_toArray, List.length_append, List.length_take, List.length_drop, Array.length_toList, Lib.strCells_length]
              simp at hcs
              omega
            · have hle : n0 * 1 ≤ n * 1 := Nat.mul_le_mul_right _ hn0
              simp only [List.toList_toArray]
              rw [List.append_assoc, List.take_append_of_le_length (by simp; simp at hcs; omega), List.take_take, Nat.min_eq_left (by omega)]
              exact htake0
          · have holds : ∀ j u, xs[j]? = some u → w.cell? ((⟨g, 0, none⟩ : Addr).add j) = some u := hown.cells (g := g) rfl
            have hr2 := Lib.run_append_grow_string (P := C.P) w t u ty e i (.int .u8 0) ht hu hi hz ⟨g, 0, none⟩ n cap xs (by rw [hsize]; simpa using hxl) holds s (by omega) (by simp only [maxLen] at h63; omega) (by rw [hby]; exact growslice_fits (by omega) (by omega))
            rw [hr] at hr2
            injection hr2 with e1 e2
            subst e2
            refine .inr ⟨g, cap0, cur, rfl, hb0, ?_, hnc0, hcm0, hcs0, htake0⟩
            rw [Below.heap_alloc w.drew _ g (by have := (Array.getElem?_eq_some_iff.1 hg).1; simpa using this)]
            exact hg
theorem strCells_rep {w : World} {Z : Nat → Prop} (l : List UInt8) : ∀ i j, i < l.length → j < 1 → ∃ u, (Lib.strCells ⟨l.toArray⟩)[i * 1 + j]? = some u ∧ RepP w Z (.int .u8 (l.getD i 0).toNat) u := fun i j hi hj => by
  have : j = 0 := by omega
  subst this
  refine ⟨.int .u8 (l.getD i 0).toNat, ?_, .int _ _⟩
  simp [Lib.strCells, hi, List.getD]
theorem aps_sound {o : Oper} {t t' e : TypeId} {as_ : Array Operand} {s x : Operand} {S X : Opd} {i : TypeInfo} (ho : o.op = .call { callee := .builtin .append, args := as_, argTypes := #[t, t'] }) (has : as_ = #[s, x]) (ht : C.P.underlying t = some (.slice e)) (hu : C.P.underlying t' = some .string) (hi : C.P.info? e = some i) (hz : i.zero = some (.int .u8 0))
    (hk : i.size = 1 ∧ i.bytes = 1) (hS : compX s = some S) (hX : compX x = some X) {K : AV → Heap → VC} (h : (opM H ev (.aps e S X) K).holds) : ∃ v H', (K v H').holds ∧ OpGoalM C o H ev v H' := by
  subst has
  simp only [opM] at h
  have hdf : ∀ c, o.op ≠ .defer c := fun c h0 => by simp [ho] at h0
  have run : ∀ (a : Act) (w w' : World) (v' : Value), (Builtin.append_ #[t, t'] o.type #[a.eval s, a.eval x]).run C.P w = .ok v' w' → (execOp a.eval o).run C.P w = .ok (.value v') w' := by
    intro a w w' v' hr
    simp only [execOp, ho, resolve, invoke, builtin, Sem.run_bind, Sem.run_pure, Result.andThen_ok, List.map_toArray, List.map_cons, List.map_nil, hr]
  have main : ∀ {O Z : Nat → Prop} {φ : Nat → Value} {a : Act} {w : World} {l : List UInt8} {n : Nat} {xs : List Value}, SimH C O Z φ H w → OpdRep w Z H φ ev a o.op.operands → ev X = .c (.p (.str l)) → w.ownsRow 0 e 1 (a.eval s) n xs → n + l.length ≤ 140737488355328 →
      ∃ v' w', (execOp a.eval o).run C.P w = .ok (.value v') w' ∧ w'.ownsRow 0 e 1 v' (n + l.length) (xs ++ Lib.strCells ⟨l.toArray⟩) ∧ w.grownBy w' (a.eval s).ownBlock ∧ (v'.ownBlock = (a.eval s).ownBlock ∨ v'.ownBlock = some w.heap.size) ∧
        (∀ v0 n0 xs0, n0 ≤ n → w.ownsRow 0 e 1 v0 n0 xs0 → w'.ownsRow 0 e 1 v0 n0 xs0) := by
    intro O Z φ a w l n xs hs hop hx hown hb
    have hrx := hop x (by rw [ho]; simp [Op.operands, Call.operands]) X hX
    rw [hx] at hrx
    simp only [RepA, RepC] at hrx
    have hxu : a.eval x = .string ⟨l.toArray⟩ := by
      generalize a.eval x = u at hrx
      cases hrx
      rfl
    have hsz : (⟨l.toArray⟩ : ByteArray).size = l.length := by simp [ByteArray.size]
    obtain ⟨v', w', hrun, h2, h3, h5, h6⟩ := append_str (C := C) (w := w) t t' o.type e i ht hu hi hz hk.1 hk.2 hown ⟨l.toArray⟩ (by rw [hsz]; exact hb)
    rw [hsz] at h2
    exact ⟨v', w', run a w w' _ (by rw [hxu]; exact hrun), h2, h3, h5, h6⟩
  split at h
  · rename_i l hx
    split at h
    · rename_i hes
      obtain ⟨hb, h⟩ := h
      have hb : l.length ≤ 140737488355328 := hb
      refine ⟨_, _, h, fun O Z φ a w hs hO hop F nn hF next Q hnx => ?_⟩
      have hrs := hr_c (by have := hop s (by rw [ho]; simp [Op.operands, Call.operands]) S hS; rwa [hes] at this)
      simp only [RepC] at hrs
      have hnil : a.eval s = .slice none 0 0 := by
        generalize a.eval s = u at hrs
        cases hrs
        rfl
      obtain ⟨v', w', hrun, hown, hg, hat, hkeep⟩ := main (n := 0) (xs := []) hs hop hx (by rw [hnil]; exact World.ownsRow_nil w 0 e 1) (by simpa using hb)
      rw [hnil] at hg hat
      simp only [Nat.zero_add, List.nil_append] at hown
      obtain ⟨φ', h1, h2, h3, h4, T, N⟩ := grow_sim (H0 := H) (old := .slice none 0 0) (n0 := 0) (ups := []) hs hO rfl (fun q b hq => hq) (fun q b g _ _ h => by simp [Value.ownBlock] at h) (fun g h => by simp [Value.ownBlock] at h) (Nat.zero_le _) hown hg hat hkeep (strCells_rep l)
      exact wpIn_val hdf hF hrun (hnx _ _ φ' h1 h2 h3 h4 T N)
    · rename_i k off len hes
      split at h
      · rename_i e' t2 n f ups hkk
        split at h
        · rename_i hd
          simp only [Bool.and_eq_true] at hd
          have hd1 := Nat.eq_of_beq_eq_true hd.1.1
          have hd2 := Nat.eq_of_beq_eq_true hd.1.2
          have hd3 := Nat.eq_of_beq_eq_true hd.2
          subst hd1 hd2 hd3
          obtain ⟨hl1, hl2, hb, h⟩ := h
          have hl1 : len ≤ n := hl1
          have hl2 : n ≤ len := hl2
          obtain rfl : len = n := by omega
          have hb : len + l.length ≤ 140737488355328 := hb
          refine ⟨_, _, h, fun O Z φ a w hs hO hop F nn hF next Q hnx => ?_⟩
          have hrs := hr_c (by have := hop s (by rw [ho]; simp [Op.operands, Call.operands]) S hS; rwa [hes] at this)
          obtain ⟨hklt, _, hr3⟩ := hrs
          obtain ⟨_, _, _, hu', _, heq, _⟩ := hr3 _ _ _ _ _ hkk
          have hsv : a.eval s = φ k := heq rfl rfl
          obtain ⟨xs, hown0, hx0⟩ := hs.blk k _ hkk
          obtain ⟨v', w', hrun, hown, hg, hat, hkeep⟩ := main hs hop hx (by rw [hsv]; exact hown0) hb
          rw [hsv] at hg hat
          have eown := own_block hown0
          obtain ⟨φ', h1, h2, h3, h4, T, N⟩ := grow_sim (H0 := killD k H) (old := φ k) (n0 := len) (ups := k :: ups) hs hO killD_len (fun q b hq => (killD_get hq).1)
            (fun q b g hq hgq hgo => by
              obtain ⟨hq1, hq2⟩ := killD_get hq
              rw [← eown] at hgo
              rcases hs.inj q k b _ g hq1 hkk hgq hgo with h | h
              · subst h
                rw [hkk] at hq1
                cases hq1
                exact ⟨_, _, _, rfl, Nat.le_refl _, by simp⟩
              · cases b with
                | arr e2 t2 n2 f2 ups2 =>
                  obtain ⟨rfl, rfl, h | h⟩ := h
                  · exact ⟨_, _, _, rfl, h.2, List.mem_cons_of_mem _ h.1⟩
                  · exact absurd h.1 (hq2 _ _ _ _ _ rfl)
                | _ => exact False.elim h)
            (fun g hgo => by rw [← eown] at hgo; exact ⟨hs.own k _ g hkk hgo, hs.sep k _ g hkk hgo, by rcases hown0.2 with ⟨e1, _⟩ | ⟨g', cap, cur, e1, _, hh, _⟩ <;> rw [e1] at hgo <;> simp [own?] at hgo; subst hgo; exact ⟨_, _, _, hh⟩⟩) (Nat.le_add_right _ _) (f := appF len f fun i _ => .int .u8 (l.getD i 0).toNat) hown hg hat hkeep (fun p j hp hj => by
              have hxl := hown0.1
              unfold appF
              by_cases hpn : p < len
              · rw [if_pos hpn]
                obtain ⟨u, hu', hpu⟩ := hx0 p j hpn hj
                exact ⟨u, by rw [List.getElem?_append_left (by exact (List.getElem?_eq_some_iff.1 hu').1)]; exact hu', hpu⟩
              · rw [if_neg hpn]
                obtain ⟨u, hu', hpu⟩ := strCells_rep (w := w) (Z := Z) l (p - len) j (by omega) hj
                refine ⟨u, ?_, hpu⟩
                have e1 : p * 1 + j = xs.length + ((p - len) * 1 + j) := by
                  rw [hxl]; omega
                rw [e1, List.getElem?_append_right (by omega), Nat.add_sub_cancel_left]
                exact hu')
          exact wpIn_val hdf hF hrun (hnx _ _ φ' h1 h2 h3 h4 T N)
        · exact False.elim h
      · exact False.elim h
    · exact False.elim h
  · exact False.elim h
end Go.Ab
namespace Go.Ab
open Go.RowKit
variable {C : Cfg} {E : Ev} {H : Heap} {ev : Opd → AV}
theorem gone_sim {O Z : Nat → Prop} {φ : Nat → Value} {w w' : World} (hs : SimH C O Z φ H w) {g : Nat} {H0 : Heap} (hlen : H0.length = H.length)
    (hsub : ∀ (q : Nat) (b : Blk), H0[q]? = some (some b) → H[q]? = some (some b)) (hgz : ¬ Z g) (hsz : w.heap.size ≤ w'.heap.size) (hoth : ∀ j, j ≠ g → w'.heap[j]? = w.heap[j]?)
    (hgone : ∀ (q : Nat) (b : Blk), H0[q]? = some (some b) → own? (φ q) ≠ some g) :
    SimH C O Z φ H0 w' ∧ Tra w w' Z Z H H0 φ φ := by
  have hcell : ∀ p : Addr, Z p.block → w'.cell? p = w.cell? p := fun p hp => World.cell?_of_block (hoth _ fun e => hgz (e ▸ hp))
  have T : Tra w w' Z Z H H0 φ φ := Turn.tra ⟨fun _ h => h, hcell, fun q b hq hlq => ⟨rfl, ⟨b, hsub q b hq⟩, fun e t n f ups hb => ⟨f, ups, hb ▸ hsub q b hq⟩, fun t l hb => ⟨l, hb ▸ hsub q b hq⟩, fun hb => hb ▸ hsub q b hq⟩, by omega⟩
  exact ⟨⟨fun b hb => Nat.lt_of_lt_of_le (hs.zlt b hb) hsz, fun q b hq => (hs.blk q b (hsub q b hq)).turn T (fun _ h => h) hcell rfl fun g' hg' => hoth g' fun e => hgone q b hq (e ▸ hg'), fun q b g' hq => hs.own q b g' (hsub q b hq), fun q b g' hq => hs.sep q b g' (hsub q b hq), fun q q' b b' g' hq hq' => hs.inj q q' b b' g' (hsub q b hq) (hsub q' b' hq')⟩, T⟩
theorem freeze_facts (w : World) (g n : Nat) {us : Array Value} {t : TypeId} {fz : Nat × Nat} (hh : w.heap[g]? = some (.cells us t fz)) : (w.freeze ⟨g, 0, none⟩ n).os = w.os ∧ (w.freeze ⟨g, 0, none⟩ n).tape = w.tape ∧ (w.freeze ⟨g, 0, none⟩ n).output = w.output ∧ (w.freeze ⟨g, 0, none⟩ n).heap.size = w.heap.size ∧
    ∀ j, j ≠ g → (w.freeze ⟨g, 0, none⟩ n).heap[j]? = w.heap[j]? := by
  unfold World.freeze
  split
  · exact ⟨rfl, rfl, rfl, rfl, fun _ _ => rfl⟩
  · exact ⟨rfl, rfl, rfl, by simp, fun j hj => by rw [Array.getElem?_modify, if_neg (fun e => hj e.symm)]⟩
theorem bytesOf_len {f : Nat → Nat → PV} : ∀ {n : Nat} {l : List UInt8}, bytesOf f n = some l → l.length = n
  | 0, l, h => by simp only [bytesOf, Option.some.injEq] at h; subst h; rfl
  | n + 1, l, h => by
    simp only [bytesOf] at h
    split at h
    · rename_i l' hl'
      split at h
      · split at h
        · cases h; simp [bytesOf_len hl']
        · cases h
      · cases h
    · cases h
theorem bytesOf_get {f : Nat → Nat → PV} : ∀ {n : Nat} {l : List UInt8}, bytesOf f n = some l → ∀ j, j < n → ∃ x : UInt8, l[j]? = some x ∧ f j 0 = .int .u8 x.toNat
  | 0, l, h, j, hj => by omega
  | n + 1, l, h, j, hj => by
    simp only [bytesOf] at h
    split at h
    · rename_i l' hl'
      split at h
      · rename_i z hz
        split at h
        · rename_i hle
          have hle := Nat.le_of_ble_eq_true hle
          cases h
          have hlen := bytesOf_len hl'
          by_cases hjn : j < n
          · obtain ⟨x, hx, hf⟩ := bytesOf_get hl' j hjn
            exact ⟨x, by rw [List.getElem?_append_left (by omega)]; exact hx, hf⟩
          · have : j = n := by omega
            subst this
            refine ⟨UInt8.ofNat z, by rw [← hlen]; simp, ?_⟩
            rw [hz]
            have : (UInt8.ofNat z).toNat = z := by simp [UInt8.toNat_ofNat']; omega
            rw [this]
            rfl
        · cases h
      · cases h
    · cases h
theorem ustr_sound {o : Oper} {t t' e : TypeId} {as_ : Array Operand} {x n : Operand} {X N : Opd} (ho : o.op = .call { callee := .builtin .unsafeString, args := as_, argTypes := #[t, t'] }) (has : as_ = #[x, n]) (ht : C.P.underlying t = some (.pointer e)) (hce : C.P.cellsOf e = 1)
    (hX : compX x = some X) (hN : compX n = some N) {K : AV → Heap → VC} (h : (opM H ev (.ustr e X N) K).holds) : ∃ v H', (K v H').holds ∧ OpGoalM C o H ev v H' := by
  subst has
  have hdf : ∀ c, o.op ≠ .defer c := fun c h0 => by simp [ho] at h0
  have run : ∀ (a : Act) (w w' : World) (v' : Value), (Builtin.unsafeString_ #[t, t'] o.type #[a.eval x, a.eval n]).run C.P w = .ok v' w' → (execOp a.eval o).run C.P w = .ok (.value v') w' := by
    intro a w w' v' hr
    simp only [execOp, ho, resolve, invoke, builtin, Sem.run_bind, Sem.run_pure, Result.andThen_ok, List.map_toArray, List.map_cons, List.map_nil, hr]
  have mx : ∀ {w : World} {Z : Nat → Prop} {φ : Nat → Value} {a : Act}, OpdRep w Z H φ ev a o.op.operands → RepA w Z H φ (ev X) (a.eval x) := fun hop => hop x (by rw [ho]; simp [Op.operands, Call.operands]) X hX
  have mn : ∀ {w : World} {Z : Nat → Prop} {φ : Nat → Value} {a : Act}, OpdRep w Z H φ ev a o.op.operands → RepA w Z H φ (ev N) (a.eval n) := fun hop => hop n (by rw [ho]; simp [Op.operands, Call.operands]) N hN
  simp only [opM] at h
  split at h
  · rename_i hx hn
    refine ⟨_, _, h, fun O Z φ a w hs hO hop F nn hF next Q hnx => ?_⟩
    have h1 := mx hop
    have h2 := mn hop
    rw [hx] at h1
    rw [hn] at h2
    simp only [RepA, RepC] at h1 h2
    have e1 : a.eval x = .pointer none := by generalize a.eval x = u at h1; cases h1; rfl
    have e2 : a.eval n = .int .i64 0 := by generalize a.eval n = u at h2; cases h2; rfl
    refine wpIn_val hdf hF (run a w w _ (by rw [e1, e2]; exact Lib.run_unsafeString_none w t t' o.type none)) (hnx _ _ φ hs (Keeps.refl _ _) (fun _ _ => rfl) ?_ (Tra.refl _ _ _ _) (NewOk.same rfl))
    simp only [vP, RepA, RepC]
    exact .str []
  · rename_i k q hx hn
    split at h
    · rename_i e' t1 m f ups hk
      split at h
      · rename_i hd
        simp only [Bool.and_eq_true] at hd
        have hd1 := Nat.eq_of_beq_eq_true hd.1
        have hd2 := Nat.eq_of_beq_eq_true hd.2
        subst hd1 hd2
        split at h
        · rename_i l hl
          obtain ⟨hq1, hqm, h⟩ := h
          have hq1 : 1 ≤ q := hq1
          have hqm : q ≤ m := hqm
          have hll := bytesOf_len hl
          refine ⟨_, _, h, fun O Z φ a w hs hO hop F nn hF next Q hnx => ?_⟩
          have h1 := mx hop
          have h2 := mn hop
          rw [hx] at h1
          rw [hn] at h2
          simp only [RepA, RepC] at h1 h2
          obtain ⟨_, _, h1⟩ := h1
          obtain ⟨b, cp, hb, hu⟩ := h1 _ _ _ _ _ hk
          have e2 : a.eval n = .int .i64 q := by generalize a.eval n = u at h2; cases h2; rfl
          obtain ⟨xs, hown, hxs⟩ := hs.blk k _ hk
          have hgo : own? (φ k) = some b := by rw [hb]; rfl
          have hown' := hown
          rw [hb] at hown'
          rcases hown'.2 with ⟨he0, _⟩ | ⟨g', cap, cur, he0, hb0, hcur, hmc, hcm, hcs, htake⟩
          · cases he0
          · injection he0 with e3 e4 e5
            injection e3 with e3
            injection e3 with e3
            subst e3 e5
            have hcell : ∀ j x, l[j]? = some x → w.cell? ((⟨b, 0, none⟩ : Addr).add j) = some (.int .u8 x.toNat) := fun j x hj => by
              have hjq : j < q := by rw [← hll]; exact (List.getElem?_eq_some_iff.1 hj).1
              obtain ⟨x', hx', hf⟩ := bytesOf_get hl j hjq
              rw [hj] at hx'
              cases hx'
              obtain ⟨u, hu', hp⟩ := hxs j 0 (by omega) (by omega)
              rw [hf] at hp
              have : u = .int .u8 x.toNat := by cases hp; rfl
              subst this
              exact hown'.cells (g := b) rfl j _ (by simpa using hu')
            have hcs' : cur.size = cp := by simpa using hcs
            have hr := Lib.run_unsafeString_row (P := C.P) w t t' o.type e ht hce b cur.size (by simp [World.shape?, hcur]) l (by intro h0; rw [h0] at hll; simp at hll; omega) (by omega) (by unfold maxLen at hcm; omega) hcell
            rw [hll] at hr
            obtain ⟨f1, f2, f3, f4, f5⟩ := freeze_facts w b q hcur
            obtain ⟨h3, T⟩ := gone_sim (w' := w.freeze ⟨b, 0, none⟩ q) hs (g := b) (H0 := (killR k ups 0 H).set k none) (by simp [killR_len]) (fun q' b' hq' => by
                rw [List.getElem?_set] at hq'
                split at hq'
                · split at hq' <;> cases hq'
                · exact (killR_get hq').1) (hs.sep k _ b hk hgo) (by rw [f4]; exact Nat.le_refl _) f5 (fun q' b' hq' he => by
                rw [List.getElem?_set] at hq'
                split at hq'
                · split at hq' <;> cases hq'
                · rename_i hne
                  obtain ⟨hq1', hq2'⟩ := killR_get hq'
                  rcases hs.inj q' k b' _ b hq1' hk he hgo with h | h
                  · exact hne h.symm
                  · cases b' with
                    | arr e2 t2 n2 f2 ups2 =>
                      have := hq2' _ _ _ _ _ rfl
                      rw [Nat.zero_add] at this
                      obtain ⟨_, _, h | h⟩ := h
                      · exact this.2 h.1
                      · exact this.1 h.1
                    | _ => exact h)
            refine wpIn_val hdf hF (run a w _ _ (by rw [hu, e2]; simpa using hr)) (hnx _ _ φ h3 ⟨f1, f2, f3, by rw [f4]; exact Nat.le_refl _, fun j hj hOj => f5 j fun e => hOj (e ▸ hs.own k _ b hk hgo), fun j r hj => ⟨r, by rw [f5 j (fun e => by rw [e, hcur] at hj; cases hj)]; exact hj, .refl r⟩⟩ (fun j hj => f5 j fun e => hs.sep k _ b hk hgo (e ▸ hj)) ?_ T (NewOk.same (by simp [killR_len])))
            simp only [vP, RepA, RepC]
            exact .str l
        · exact False.elim h
      · exact False.elim h
    · exact False.elim h
  · exact False.elim h
theorem mkm_sound {o : Oper} {t kt e : TypeId} {r : Option Operand} (ho : o.op = .makeMap t r) (ht : C.P.underlying t = some (.map kt e)) (hr : r = none ∨ ∃ k z, r = some (.const (.int k z))) {K : AV → Heap → VC} (h : (opM H ev .mkm K).holds) : ∃ v H', (K v H').holds ∧ OpGoalM C o H ev v H' := by
  simp only [opM] at h
  refine ⟨_, _, h, fun O Z φ a w hs hO hop F n hF next Q hn => ?_⟩
  have hst : Stays w (w.alloc (.map #[] 0)) := (Below.refl _ _).alloc (Nat.le_refl _) _
  obtain ⟨h1, T, N⟩ := push_sim (b1 := .mp []) (u := .map (some w.heap.size)) hs hst hO (fun g hg => by simp [own?] at hg; omega)
    fun T => ⟨w.heap.size, #[], 0, upd_at, World.alloc_heap_new w _, rfl, fun i p c hi => by simp at hi⟩
  have hrun : (execOp a.eval o).run C.P w = .ok (.value (.map (some w.heap.size))) (w.alloc (.map #[] 0)) := by
    rcases hr with rfl | ⟨k, z, rfl⟩
    · simp [execOp, ho, Instr.makeMap]
    · have : a.eval (.const (.int k z)) = .int k z := rfl
      simp [execOp, ho, Instr.makeMap, run_underlying ht, this, asInt, asIntOf]
  refine wpIn_val (fun c h0 => by simp [ho] at h0) hF hrun (hn _ _ _ h1 (.of_stays hst) (hst.obj hs.zlt) ?_ T N)
  simp only [RepA, RepC]
  exact ⟨⟨by simp, by simp⟩, rfl, fun b _ => upd_at.symm⟩
theorem rng_sound {o : Oper} {t : TypeId} {x : Operand} {X : Opd} (ho : o.op = .range t x) (ht : C.P.underlying t = some .string) (hx : compX x = some X) {K : AV → Heap → VC} (h : (opM H ev (.rng X) K).holds) : ∃ v H', (K v H').holds ∧ OpGoalM C o H ev v H' := by
  simp only [opM] at h
  split at h
  · rename_i l hex
    refine ⟨_, _, h, fun O Z φ a w hs hO hop F n hF next Q hn => ?_⟩
    have h1 := hop x (by rw [ho]; simp [Op.operands]) X hx
    rw [hex] at h1
    simp only [RepA, RepC] at h1
    obtain ⟨s, hv, hl⟩ : ∃ s : ByteArray, a.eval x = .string s ∧ s.data.toList = l := by
      revert h1
      generalize a.eval x = u
      intro h1
      cases h1
      exact ⟨_, rfl, by simp⟩
    have hst : Stays w (w.alloc (.stringIter s 0)) := (Below.refl _ _).alloc (Nat.le_refl _) _
    obtain ⟨h1, T, N⟩ := push_sim (b1 := .sit l 0) (u := .pointer (some ⟨w.heap.size, 0, none⟩)) hs hst hO (fun g hg => by simp [own?] at hg; omega)
      fun T => ⟨w.heap.size, s, upd_at, World.alloc_heap_new w _, hl⟩
    have hrun : (execOp a.eval o).run C.P w = .ok (.value (.pointer (some ⟨w.heap.size, 0, none⟩))) (w.alloc (.stringIter s 0)) := by
      simp [execOp, ho, Instr.range, run_underlying ht, hv]
    refine wpIn_val (fun c h0 => by simp [ho] at h0) hF hrun (hn _ _ _ h1 (.of_stays hst) (hst.obj hs.zlt) ?_ T N)
    simp only [RepA, RepC]
    exact ⟨⟨by simp, by simp⟩, rfl, fun b _ => upd_at.symm⟩
  · exact False.elim h
theorem run_getObj_it {P : Program} {w : World} {r : Nat} {s : ByteArray} {p : Nat} (hb : w.heap[r]? = some (.stringIter s p)) : (getObj r).run P w = .ok (.stringIter s p) w := by
  simp [getObj, Sem.run, hb]
theorem run_setObj_it {P : Program} {w : World} {r : Nat} {s : ByteArray} {p : Nat} (o : Obj) (hb : w.heap[r]? = some (.stringIter s p)) : (setObj r o).run P w = .ok () (w.putObj r o) := by
  simp [setObj, Sem.run, hb]
  rfl
theorem nxs_sound {o : Oper} {x : Operand} {X : Opd} (ho : o.op = .next x true) (hx : compX x = some X) {K : AV → Heap → VC} (h : (opM H ev (.nxs X) K).holds) : ∃ v H', (K v H').holds ∧ OpGoalM C o H ev v H' := by
  have hdf : ∀ c, o.op ≠ .defer c := fun c h0 => by rw [ho] at h0; cases h0
  simp only [opM] at h
  split at h
  · rename_i k hex
    split at h
    · rename_i l pos hkk
      split at h
      · rename_i hlt
        refine ⟨_, _, h, fun O Z φ a w hs hO hop F nn hF next Q hnx => ?_⟩
        have h1 := hop x (by rw [ho]; simp [Op.operands]) X hx
        rw [hex] at h1
        simp only [RepA, RepC] at h1
        have hu := h1.2.2 _ hkk
        obtain ⟨rr, s, e1, hh, hl⟩ := hs.blk k _ hkk
        rw [e1] at hu
        have hgo : own? (φ k) = some rr := by rw [e1]; rfl
        have hes : s = ⟨l.toArray⟩ := by
          obtain ⟨d⟩ := s
          simp only at hl
          subst hl
          simp
        have hsz : pos < s.size := by
          have h2 : pos < l.length := by rw [Nat.blt_eq] at hlt; exact hlt
          rw [hes]
          simpa [ByteArray.size] using h2
        have hlt' := (Array.getElem?_eq_some_iff.1 hh).1
        let w' := w.putObj rr (.stringIter s (pos + (Utf8.decode s pos).2))
        have hc : ∀ p : Addr, Z p.block → w'.cell? p = w.cell? p := fun p hp => World.cell?_of_block (World.putObj_heap_other fun e => hs.sep k _ rr hkk hgo (e ▸ hp))
        obtain ⟨S, T⟩ := set_sim (H0 := H) (b1 := .sit l (pos + (Utf8.decode ⟨l.toArray⟩ pos).2)) (w' := w') hs hkk hgo rfl (fun _ _ h => h) (by simp [w']) (fun j hj => World.putObj_heap_other hj) ⟨fun _ _ _ _ _ h => (by cases h), fun _ _ h => (by cases h), (fun h => by cases h)⟩
          (fun q b' hq hb' hg => by
            rcases hs.inj q k b' _ rr hb' hkk hg hgo with h | h
            · exact hq h
            · cases b' <;> exact h)
          (fun T => ⟨rr, s, e1, by rw [← hes]; exact World.putObj_heap_same hlt', hl⟩)
        have hr : (execOp a.eval o).run C.P w = .ok (.value (.tuple #[.bool true, goInt pos, .int .i32 (Utf8.decode s pos).1])) w' := by
          simp only [execOp, ho, Instr.next, hu, Sem.run_bind, run_getObj_it hh, Result.andThen_ok, if_pos hsz, run_setObj_it _ hh, Sem.run_pure]
          rfl
        refine wpIn_val hdf hF hr (hnx _ _ φ S ⟨rfl, rfl, rfl, by simp [w'], fun j hj hOj => World.putObj_heap_other (fun e => hOj (e ▸ hs.own k _ rr hkk hgo)), fun j r hj => ⟨r, by rw [World.putObj_heap_other (fun e => by rw [e, hh] at hj; cases hj)]; exact hj, .refl r⟩⟩ (fun j hj => World.putObj_heap_other (fun e => hs.sep k _ rr hkk hgo (e ▸ hj))) ?_ T (NewOk.same (by simp)))
        simp only [RepA, RepAs]
        refine ⟨_, rfl, _, _, rfl, ?_, _, _, rfl, ?_, _, _, rfl, ?_, rfl⟩
        · exact .bool _
        · exact .int _ _
        · rw [hes]; exact .int _ _
      · rename_i hlt
        refine ⟨_, _, h, fun O Z φ a w hs hO hop F nn hF next Q hnx => ?_⟩
        have h1 := hop x (by rw [ho]; simp [Op.operands]) X hx
        rw [hex] at h1
        simp only [RepA, RepC] at h1
        have hu := h1.2.2 _ hkk
        obtain ⟨rr, s, e1, hh, hl⟩ := hs.blk k _ hkk
        rw [e1] at hu
        have hsz : ¬ pos < s.size := by
          have h2 : ¬ pos < l.length := fun h => by rw [← Nat.blt_eq] at h; rw [h] at hlt; cases hlt
          have h3 : s.size = l.length := by rw [← hl]; rfl
          rw [h3]; exact h2
        have hr : (execOp a.eval o).run C.P w = .ok (.value (.tuple #[.bool false])) w := by
          simp only [execOp, ho, Instr.next, hu, Sem.run_bind, run_getObj_it hh, Result.andThen_ok, if_neg hsz, Sem.run_pure]
        refine wpIn_val hdf hF hr (hnx _ _ φ hs (Keeps.refl _ _) (fun _ _ => rfl) ?_ (Tra.refl _ _ _ _) (NewOk.same rfl))
        simp only [RepA, RepAs]
        exact ⟨_, rfl, _, _, rfl, .bool _, rfl⟩
    · exact False.elim h
  · exact False.elim h
theorem put_now {w : World} {Z : Nat → Prop} {φ : Nat → Value} {p : PV} {c : CV} {u v : Value} {d : TypeDesc} {clock : Nat} (hf : keyFit p d) (hu : RepP w Z p u) (hv : RepC w Z H φ c v) : ∀ {l l' : List (PV × CV)} {es : List MapEntry} (i0 : Nat), mpPut p c l = some l' → es.length = l.length →
    (∀ (i : Nat) (p : PV) (c : CV), l[i]? = some (p, c) → ∃ e, es[i]? = some e ∧ RepP w Z p e.key ∧ RepC w Z H φ c e.val) →
    (Instr.findNow d u es i0 = some none ∧ (es ++ [({ key := u, val := v, born := clock } : MapEntry)]).length = l'.length ∧ ∀ (i : Nat) (p : PV) (c : CV), l'[i]? = some (p, c) → ∃ e, (es ++ [({ key := u, val := v, born := clock } : MapEntry)])[i]? = some e ∧ RepP w Z p e.key ∧ RepC w Z H φ c e.val) ∨
    (∃ j e, Instr.findNow d u es i0 = some (some (i0 + j, e.val)) ∧ es[j]? = some e ∧ e.key = u ∧ (es.set j ({ e with key := u, val := v } : MapEntry)).length = l'.length ∧ ∀ (i : Nat) (p : PV) (c : CV), l'[i]? = some (p, c) → ∃ e', (es.set j ({ e with key := u, val := v } : MapEntry))[i]? = some e' ∧ RepP w Z p e'.key ∧ RepC w Z H φ c e'.val)
  | [], l', es, i0, h, hl, _ => by
    simp only [mpPut, Option.some.injEq] at h
    subst h
    have : es = [] := List.eq_nil_of_length_eq_zero (by simpa using hl)
    subst this
    refine .inl ⟨rfl, rfl, fun i p' c' hi => ?_⟩
    cases i with
    | zero => simp at hi; obtain ⟨rfl, rfl⟩ := hi; exact ⟨_, rfl, hu, hv⟩
    | succ i => simp at hi
  | (q, c0) :: l, l', [], i0, h, hl, _ => by simp at hl
  | (q, c0) :: l, l', e :: es, i0, h, hl, hx => by
    obtain ⟨e', he', hp, hc⟩ := hx 0 q c0 rfl
    simp only [List.getElem?_cons_zero, Option.some.injEq] at he'
    subst he'
    simp only [mpPut] at h
    split at h
    · rename_i hk
      cases h
      obtain ⟨h1, h2⟩ := keyEq_now hk hu hp hf
      have hkey := h2 rfl
      refine .inr ⟨0, e, by simp [Instr.findNow, h1], rfl, hkey, by simpa using hl, fun i p' c' hi => ?_⟩
      cases i with
      | zero => simp at hi; obtain ⟨rfl, rfl⟩ := hi; exact ⟨_, rfl, by rw [← hkey]; exact hp, hv⟩
      | succ i => simpa using hx (i + 1) p' c' (by simpa using hi)
    · rename_i hk
      obtain ⟨h1, _⟩ := keyEq_now hk hu hp hf
      split at h
      · rename_i l2 hl2
        cases h
        rcases put_now hf hu hv (clock := clock) (i0 + 1) hl2 (by simpa using hl) (fun i p c hi => by simpa using hx (i + 1) p c (by simpa using hi)) with ⟨i1, i2, i3⟩ | ⟨j, en, i1, i2, i3, i4, i5⟩
        · refine .inl ⟨by simp only [Instr.findNow, h1]; exact i1, by simpa using i2, fun i p' c' hi => ?_⟩
          cases i with
          | zero => simp at hi; obtain ⟨rfl, rfl⟩ := hi; exact ⟨_, rfl, hp, hc⟩
          | succ i => simpa using i3 i p' c' (by simpa using hi)
        · refine .inr ⟨j + 1, en, by simp only [Instr.findNow, h1]; rw [i1]; congr 3; omega, by simpa using i2, i3, by simpa using i4, fun i p' c' hi => ?_⟩
          cases i with
          | zero => simp at hi; obtain ⟨rfl, rfl⟩ := hi; exact ⟨_, rfl, hp, hc⟩
          | succ i => simpa using i5 i p' c' (by simpa using hi)
      · cases h
    · cases h
theorem same_self {p : PV} {u : Value} {w : World} {Z : Nat → Prop} {d : TypeDesc} (hf : keyFit p d) (hu : RepP w Z p u) (n : Nat) : Instr.sameBits (n + 1) u u = true := by
  rcases hf with ⟨k, z, rfl, _⟩ | ⟨l, rfl, _⟩
  · cases hu; simp [Instr.sameBits]
  · cases hu
    simp only [Instr.sameBits]
    exact (MapKept.bytes_beq _ _).2 rfl
theorem nodup_key {l : List MapEntry} (h : (l.map (·.key)).Nodup) {i j : Nat} {a b : MapEntry} (hi : l[i]? = some a) (hj : l[j]? = some b) (hk : a.key = b.key) : i = j := by
  have h1 : (l.map (·.key))[i]? = some a.key := by simp [hi]
  have h2 : (l.map (·.key))[j]? = some b.key := by simp [hj]
  obtain ⟨l1, e1⟩ := List.getElem?_eq_some_iff.1 h1
  obtain ⟨l2, e2⟩ := List.getElem?_eq_some_iff.1 h2
  rcases Nat.lt_trichotomy i j with hlt | rfl | hlt
  · exact absurd (by rw [e1, e2, hk]) (List.pairwise_iff_getElem.1 h i j l1 l2 hlt)
  · rfl
  · exact absurd (by rw [e1, e2, hk]) (List.pairwise_iff_getElem.1 h j i l2 l1 hlt)
theorem mset_sound {o : Oper} {t kt e : TypeId} {d : TypeDesc} {x i v : Operand} {X I V : Opd} {ks : Bool} (ho : o.op = .mapUpdate t x i v ∨ o.op = .insert t x i v) (ht : C.P.underlying t = some (.map kt e)) (hk : C.P.underlying kt = some d) (hd : (ks = false ∧ ∃ k, d = .int k) ∨ (ks = true ∧ d = .string))
    (hx : compX x = some X) (hi : compX i = some I) (hv : compX v = some V) {K : AV → Heap → VC} (h : (opM H ev (.mset ks X I V) K).holds) : ∃ v H', (K v H').holds ∧ OpGoalM C o H ev v H' := by
  have hd' : (∃ k, d = .int k) ∨ d = .string := hd.elim (fun h => .inl h.2) (fun h => .inr h.2)
  have hops : o.op.operands = #[x, i, v] := by rcases ho with ho | ho <;> rw [ho] <;> rfl
  have hdf : ∀ c, o.op ≠ .defer c := fun c h0 => by rcases ho with ho | ho <;> rw [ho] at h0 <;> cases h0
  simp only [opM] at h
  split at h
  · rename_i k key c hex hei hev
    split at h
    · rename_i l hkk
      split at h
      · rename_i hok
        split at h
        · rename_i l' hput
          refine ⟨_, _, h, fun O Z φ a w hs hO hop F nn hF next Q hnx => ?_⟩
          have h1 := hop x (by rw [hops]; simp) X hx
          have h2 := hop i (by rw [hops]; simp) I hi
          have h3 := hop v (by rw [hops]; simp) V hv
          rw [hex] at h1
          rw [hei] at h2
          rw [hev] at h3
          simp only [RepA, RepC] at h1 h2
          simp only [RepA] at h3
          have hu := h1.2.2 _ hkk
          obtain ⟨rr, es, clock, e1, hh, hsz, hall⟩ := hs.blk k _ hkk
          rw [e1] at hu
          have hgo : own? (φ k) = some rr := by rw [e1]; rfl
          have hck := run_ck hk hd' false 9999 (a.eval i) w
          have hgob := MapKept.run_getObj_map (P := C.P) hh
          have fit := keyOk_fit hok hd
          -- the store
          have store : ∀ (es' : Array MapEntry) (clock' : Nat), (Instr.mapUpdate t (.map (some rr)) (a.eval i) (a.eval v)).run C.P w = .ok () (w.putObj rr (.map es' clock')) → es'.size = l'.length → (∀ (i : Nat) (p : PV) (c : CV), l'[i]? = some (p, c) → ∃ e, es'[i]? = some e ∧ RepP w Z p e.key ∧ RepC w Z H φ c e.val) → o.wpIn F nn C.P a w next Q := by
            intro es' clock' hrun hsz' hall'
            have hlt := (Array.getElem?_eq_some_iff.1 hh).1
            have hc : ∀ p : Addr, Z p.block → (w.putObj rr (.map es' clock')).cell? p = w.cell? p := fun p hp => World.cell?_of_block (World.putObj_heap_other fun e => hs.sep k _ rr hkk hgo (e ▸ hp))
            obtain ⟨S, T⟩ := set_sim (H0 := H) (b1 := .mp l') (w' := w.putObj rr (.map es' clock')) hs hkk hgo rfl (fun _ _ h => h) (by simp) (fun j hj => World.putObj_heap_other hj) ⟨fun _ _ _ _ _ h => (by cases h), fun _ _ h => (by cases h), (fun h => by cases h)⟩
              (fun q b' hq hb' hg => by
                rcases hs.inj q k b' _ rr hb' hkk hg hgo with h | h
                · exact hq h
                · cases b' <;> exact h)
              (fun T => ⟨rr, es', clock', e1, World.putObj_heap_same hlt, hsz', fun i p c hi => let ⟨e, he, hp, hcc⟩ := hall' i p c hi; ⟨e, he, hp.keep (fun _ h => h) hc, T.2 _ _ hcc⟩⟩)
            have hr : (execOp a.eval o).run C.P w = .ok .skip (w.putObj rr (.map es' clock')) := by
              rcases ho with ho | ho <;> simp only [execOp, ho, hu, Sem.run_bind, hrun, Result.andThen_ok, Sem.run_pure]
            refine wpIn_skp hdf hF hr (hnx _ _ φ S ⟨rfl, rfl, rfl, by simp, fun j hj hOj => World.putObj_heap_other (fun e => hOj (e ▸ hs.own k _ rr hkk hgo)), fun j r hj => ⟨r, by rw [World.putObj_heap_other (fun e => by rw [e, hh] at hj; cases hj)]; exact hj, .refl r⟩⟩ (fun j hj => World.putObj_heap_other (fun e => hs.sep k _ rr hkk hgo (e ▸ hj))) ?_ T (NewOk.same (by simp)))
            simp only [RepA, RepAs]
            exact ⟨[], rfl, rfl⟩
          rcases put_now fit h2 h3 (clock := clock) (es := es.toList) 0 hput (by simpa using hsz) (fun i p c hi => by simpa using hall i p c hi) with ⟨i1, i2, i3⟩ | ⟨j, en, i1, i2, i3, i4, i5⟩
          · refine store (es.push { key := a.eval i, val := a.eval v, born := clock }) (clock + 1) ?_ (by simpa using i2) (fun i' p c hi' => by
              obtain ⟨e, he, r1, r2⟩ := i3 i' p c hi'
              exact ⟨e, by rw [← Array.getElem?_toList, Array.toList_push]; exact he, r1, r2⟩)
            have hfk := MapKept.run_findKey (w := w) hk i1
            have hso := MapKept.run_setObj_map (P := C.P) (.map (es.push { key := a.eval i, val := a.eval v, born := clock }) (clock + 1)) hh
            simp only [Instr.mapUpdate, run_underlying ht, Sem.run_bind, Result.andThen_ok, hgob]
            rw [show (10000 : Nat) = 9999 + 1 from rfl, hck]
            simp only [Result.andThen_ok, hfk, hso]
            rfl
          · refine store (es.modify j fun e => { e with key := a.eval i, val := a.eval v }) clock ?_ (by simpa using i4) (fun i' p c hi' => by
              obtain ⟨e, he, r1, r2⟩ := i5 i' p c hi'
              refine ⟨e, ?_, r1, r2⟩
              rw [← Array.getElem?_toList, Array.toList_modify]
              rw [← he]
              congr 1
              apply List.ext_getElem?
              intro q
              rw [List.getElem?_modify, List.getElem?_set]
              by_cases hjq : j = q
              · subst hjq
                have hlt := (List.getElem?_eq_some_iff.1 i2).1
                simp [i2, hlt]
                simpa using hlt
              · simp [hjq])
            have hfk := MapKept.run_findKey (w := w) hk i1
            simp only [Nat.zero_add] at hfk
            have hge : es[j]? = some en := by simpa using i2
            have hso := MapKept.run_setObj_map (P := C.P) (.map (es.modify j fun e => { e with key := a.eval i, val := a.eval v }) clock) hh
            have hkt : (Instr.keyThatStays (a.eval i) (a.eval i)).run C.P w = .ok (a.eval i) w := by
              have := same_self fit h2 9999
              simp only [Instr.keyThatStays]
              rw [show (10000 : Nat) = 9999 + 1 from rfl, if_pos this]
              rfl
            simp only [Instr.mapUpdate, run_underlying ht, Sem.run_bind, Result.andThen_ok, hgob]
            rw [show (10000 : Nat) = 9999 + 1 from rfl, hck]
            simp only [Result.andThen_ok, hfk, hge, Option.map_some, Option.getD_some, i3, Sem.run_bind, hkt, hso]
            rfl
        · exact False.elim h
      · exact False.elim h
    · rename_i f hkk
      split at h
      · rename_i q vv hms
        obtain ⟨rfl, rfl, rfl⟩ : ks = false ∧ key = .int .i64 q ∧ c = .p (.int .i64 vv) := by
          unfold msI at hms
          split at hms
          · cases hms; exact ⟨rfl, rfl, rfl⟩
          · cases hms
        obtain ⟨kd, rfl⟩ : ∃ k, d = .int k := by rcases hd with ⟨_, h⟩ | ⟨h, _⟩; exact h; cases h
        refine ⟨_, _, h, fun O Z φ a w hs hO hop F nn hF next Q hnx => ?_⟩
        have h1 := hop x (by rw [hops]; simp) X hx
        have h2 := hop i (by rw [hops]; simp) I hi
        have h3 := hop v (by rw [hops]; simp) V hv
        rw [hex] at h1
        rw [hei] at h2
        rw [hev] at h3
        simp only [RepA, RepC] at h1 h2 h3
        have hik : a.eval i = .int .i64 q := by generalize a.eval i = u at h2; cases h2; rfl
        have hvk : a.eval v = .int .i64 vv := by generalize a.eval v = u at h3; cases h3; rfl
        have hu := h1.2.2 _ hkk
        obtain ⟨rr, es, clock, e1, hh, hall, hno, hdup⟩ := hs.blk k _ hkk
        rw [e1] at hu
        have hgo : own? (φ k) = some rr := by rw [e1]; rfl
        have hck := run_ck hk hd' false 9999 (a.eval i) w
        have hgob := MapKept.run_getObj_map (P := C.P) hh
        have store : ∀ (es' : Array MapEntry) (clock' : Nat), (Instr.mapUpdate t (.map (some rr)) (a.eval i) (a.eval v)).run C.P w = .ok () (w.putObj rr (.map es' clock')) → MpI es'.toList (updI f q vv) → o.wpIn F nn C.P a w next Q := by
          intro es' clock' hrun hall'
          have hlt := (Array.getElem?_eq_some_iff.1 hh).1
          obtain ⟨S, T⟩ := set_sim (H0 := H) (b1 := .mpi (updI f q vv)) (w' := w.putObj rr (.map es' clock')) hs hkk hgo rfl (fun _ _ h => h) (by simp) (fun j hj => World.putObj_heap_other hj) ⟨fun _ _ _ _ _ h => (by cases h), fun _ _ h => (by cases h), (fun h => by cases h)⟩
            (fun q b' hq hb' hg => by
              rcases hs.inj q k b' _ rr hb' hkk hg hgo with h | h
              · exact hq h
              · cases b' <;> exact h)
            (fun T => ⟨rr, es', clock', e1, World.putObj_heap_same hlt, hall'⟩)
          have hr : (execOp a.eval o).run C.P w = .ok .skip (w.putObj rr (.map es' clock')) := by
            rcases ho with ho | ho <;> simp only [execOp, ho, hu, Sem.run_bind, hrun, Result.andThen_ok, Sem.run_pure]
          refine wpIn_skp hdf hF hr (hnx _ _ φ S ⟨rfl, rfl, rfl, by simp, fun j hj hOj => World.putObj_heap_other (fun e => hOj (e ▸ hs.own k _ rr hkk hgo)), fun j r hj => ⟨r, by rw [World.putObj_heap_other (fun e => by rw [e, hh] at hj; cases hj)]; exact hj, .refl r⟩⟩ (fun j hj => World.putObj_heap_other (fun e => hs.sep k _ rr hkk hgo (e ▸ hj))) ?_ T (NewOk.same (by simp)))
          simp only [RepA, RepAs]
          exact ⟨[], rfl, rfl⟩
        have hkeys : ∀ x ∈ es.toList, ∃ q' : Int, x.key = .int .i64 q' := fun x hx => by obtain ⟨q', hq', _⟩ := hall x hx; exact ⟨q', hq'⟩
        have fit : keyFit (.int .i64 q) (.int kd) := .inl ⟨_, _, rfl, _, rfl⟩
        rcases findNow_mpi (kd := kd) (q := q) es.toList 0 hkeys with ⟨i1, i2⟩ | ⟨j, en, i1, i2, i3⟩
        · refine store (es.push { key := a.eval i, val := a.eval v, born := clock }) (clock + 1) ?_ ?_
          · have hfk := MapKept.run_findKey (w := w) hk i1
            have hso := MapKept.run_setObj_map (P := C.P) (.map (es.push { key := a.eval i, val := a.eval v, born := clock }) (clock + 1)) hh
            simp only [Instr.mapUpdate, run_underlying ht, Sem.run_bind, Result.andThen_ok, hgob]
            rw [show (10000 : Nat) = 9999 + 1 from rfl, hck]
            rw [hik] at hso ⊢
            simp only [Result.andThen_ok, hfk, hso]
            rfl
          · rw [Array.toList_push]
            refine ⟨fun e he => ?_, fun x hx => ?_, ?_⟩
            rotate_left
            rotate_left
            · rw [List.map_append, List.nodup_append]
              refine ⟨hdup, by simp, fun a1 ha b1 hb => ?_⟩
              obtain ⟨e, he, rfl⟩ := List.mem_map.1 ha
              simp only [List.map_cons, List.map_nil, List.mem_singleton] at hb
              subst hb
              rw [hik]
              exact i2 e he
            · rcases List.mem_append.1 he with he | he
              · obtain ⟨q', g1, g2⟩ := hall e he
                refine ⟨q', g1, ?_⟩
                have : q' ≠ q := fun e' => i2 e he (by rw [g1, e'])
                rw [g2]
                simp only [updI, beq_eq_false_iff_ne.2 this]
              · simp only [List.mem_singleton] at he
                subst he
                exact ⟨q, hik, by rw [hvk]; simp [updI]⟩
            · have hxq : x ≠ q := fun e => hx _ (List.mem_append_right _ (List.mem_singleton.2 rfl)) (by rw [e]; exact hik)
              simp only [updI, beq_eq_false_iff_ne.2 hxq]
              exact hno x fun e he => hx e (List.mem_append_left _ he)
        · refine store (es.modify j fun e => { e with key := a.eval i, val := a.eval v }) clock ?_ ?_
          · have hfk := MapKept.run_findKey (w := w) hk i1
            simp only [Nat.zero_add] at hfk
            have hge : es[j]? = some en := by simpa using i2
            have hso := MapKept.run_setObj_map (P := C.P) (.map (es.modify j fun e => { e with key := a.eval i, val := a.eval v }) clock) hh
            have hkt : (Instr.keyThatStays (a.eval i) (a.eval i)).run C.P w = .ok (a.eval i) w := by
              have := same_self fit h2 9999
              simp only [Instr.keyThatStays]
              rw [show (10000 : Nat) = 9999 + 1 from rfl, if_pos this]
              rfl
            simp only [Instr.mapUpdate, run_underlying ht, Sem.run_bind, Result.andThen_ok, hgob]
            rw [show (10000 : Nat) = 9999 + 1 from rfl, hck]
            rw [hik] at hso hkt ⊢
            simp only [Result.andThen_ok, hfk, hge, Option.map_some, Option.getD_some, i3, Sem.run_bind, hkt, hso]
            rfl
          · rw [Array.toList_modify]
            have hkm : (es.toList.modify j fun e => { e with key := a.eval i, val := a.eval v }).map (·.key) = es.toList.map (·.key) := by
              apply List.ext_getElem?
              intro p
              simp only [List.getElem?_map, List.getElem?_modify]
              by_cases hjp : j = p
              · subst hjp
                simp [i2, i3, hik]
              · simp [hjp]
            refine ⟨fun e he => ?_, fun x hx => ?_, by rw [hkm]; exact hdup⟩
            · obtain ⟨p, hp, hpe⟩ := List.getElem_of_mem he
              have hp' := List.getElem?_eq_getElem hp
              rw [hpe, List.getElem?_modify] at hp'
              cases hes : es.toList[p]? with
              | none => rw [hes] at hp'; simp at hp'
              | some e0 =>
                rw [hes] at hp'
                by_cases hjp : j = p
                · simp [hjp] at hp'
                  exact ⟨q, by rw [← hp']; exact hik, by rw [← hp']; show a.eval v = _; rw [hvk]; simp [updI]⟩
                · simp [hjp] at hp'
                  subst hp'
                  obtain ⟨q', g1, g2⟩ := hall e0 (List.mem_of_getElem? hes)
                  refine ⟨q', g1, ?_⟩
                  rw [g2]
                  by_cases hq' : q' = q
                  · subst hq'
                    exact absurd (nodup_key hdup i2 hes (i3.trans g1.symm)) hjp
                  · simp only [updI, beq_eq_false_iff_ne.2 hq']
            · have hxk : (Value.int .i64 x) ∉ es.toList.map (·.key) := by
                rw [← hkm]
                intro hm
                obtain ⟨e, he, hk'⟩ := List.mem_map.1 hm
                exact hx e he hk'
              have hxq : x ≠ q := fun e => hxk (List.mem_map.2 ⟨en, List.mem_of_getElem? i2, by rw [i3, e]⟩)
              simp only [updI, beq_eq_false_iff_ne.2 hxq]
              exact hno x fun e he hk' => hxk (List.mem_map.2 ⟨e, he, hk'⟩)
      · exact False.elim h
    · exact False.elim h
  · exact False.elim h
theorem cpy_splice {cur xs cs : List Value} {o N : Nat} (htake : cur.take N = xs) (hN : N ≤ cur.length) (ho : o + cs.length ≤ N) :
    (cur.take o ++ cs ++ cur.drop (o + cs.length)).take N = xs.take o ++ cs ++ xs.drop (o + cs.length) := take_splice htake hN rfl ho
theorem cpy_sound {o : Oper} {t t' e : TypeId} {n : Nat} {as_ : Array Operand} {x y : Operand} {X Y : Opd} (ho : o.op = .call { callee := .builtin .copy, args := as_, argTypes := #[t, t'] }) (has : as_ = #[x, y]) (ht : C.P.underlying t = some (.slice e)) (hn : sz1 C.P e = some (n + 1))
    (hX : compX x = some X) (hY : compX y = some Y) {K : AV → Heap → VC} (h : (opM H ev (.cpy (n + 1) X Y) K).holds) : ∃ v H', (K v H').holds ∧ OpGoalM C o H ev v H' := by
  subst has
  obtain ⟨inf, hinf, hsz⟩ := sz1_spec hn
  have hdf : ∀ c, o.op ≠ .defer c := fun c h0 => by simp [ho] at h0
  have run : ∀ (a : Act) (w w' : World) (v' : Value), (Builtin.copy_ #[t, t'] o.type #[a.eval x, a.eval y]).run C.P w = .ok v' w' → (execOp a.eval o).run C.P w = .ok (.value v') w' := by
    intro a w w' v' hr
    simp only [execOp, ho, resolve, invoke, builtin, Sem.run_bind, Sem.run_pure, Result.andThen_ok, List.map_toArray, List.map_cons, List.map_nil, hr]
  simp only [opM] at h
  split at h
  · rename_i k off len hx
    split at h
    · rename_i e' t1 m f ups m2 g hk hsrc
      split at h
      · rename_i hd
        have hd := Nat.eq_of_beq_eq_true hd
        subst hd
        obtain ⟨hol, h⟩ := h
        have hol : off + len ≤ m := hol
        refine ⟨_, _, h, fun O Z φ a w hs hO hop F nn hF next Q hnx => ?_⟩
        have h1 := hop x (by rw [ho]; simp [Op.operands, Call.operands]) X hX
        have h2 := hop y (by rw [ho]; simp [Op.operands, Call.operands]) Y hY
        rw [hx] at h1
        simp only [RepA] at h1
        obtain ⟨_, _, h1⟩ := h1
        obtain ⟨_, ad, cap, hu, hlc, _, hpos⟩ := h1 _ _ _ _ _ hk
        obtain ⟨ad2, c2, hu2, hnone, us, hul, huc, hup⟩ := src_sound hs hsrc h2
        obtain ⟨xs, hown, hxs⟩ := hs.blk k _ hk
        have hfc : ∀ c, c ≤ m2 → (Builtin.firstCells inf.size c (.slice ad2 m2 c2)).run C.P w = .ok (us.take (c * inf.size)).toArray w := fun c hc => by
          cases ad2 with
          | none =>
            have hm := hnone rfl
            have hc0 : c = 0 := by omega
            subst hc0
            simp [Builtin.firstCells]
          | some ad2 =>
            refine run_firstCells_some (P := C.P) w inf.size c ad2 m2 c2 (us.take (c * inf.size)) ?_ (fun j v hj => ?_)
            · rw [List.length_take, hul, hsz]
              have := Nat.mul_le_mul_right (n + 1) hc
              omega
            · rw [List.getElem?_take] at hj
              split at hj
              · exact huc ad2 rfl j v hj
              · cases hj
        have hcm : min m2 len ≤ m2 := Nat.min_le_left _ _
        rcases Nat.eq_zero_or_pos (min m2 len) with hz | hp
        · -- nothing goes over
          have hrun : (Builtin.copy_ #[t, t'] o.type #[a.eval x, a.eval y]).run C.P w = .ok (.int .i64 0) w := by
            have hf0 := hfc 0 (Nat.zero_le _)
            have hmin : Nat.min m2 len = 0 := hz
            rw [hu, hu2]
            have hf0' : (Builtin.firstCells inf.size 0 (.slice ad2 m2 c2)).run C.P w = .ok #[] w := by simpa using hf0
            cases ad with
            | none => simp [Builtin.copy_, Builtin.lenOf, run_underlying ht, sizeOf, typeInfo, hinf, hmin, hf0', goInt]
            | some ad => simp [Builtin.copy_, Builtin.lenOf, run_underlying ht, sizeOf, typeInfo, hinf, hmin, hf0', storeCells, goInt]
          have hkeep : ∀ i j, i < m → j < n + 1 → cpyF f off (min m2 len) g i j = f i j := fun i j _ _ => by
            unfold cpyF
            rw [if_neg (by omega)]
          have hgo := own_block hown
          -- the row is what it was
          obtain ⟨h3, T⟩ : SimH C O Z φ ((killR k ups 0 H).set k (some (.arr (n + 1) t1 m (cpyF f off (min m2 len) g) ups))) w ∧ Tra w w Z Z H ((killR k ups 0 H).set k (some (.arr (n + 1) t1 m (cpyF f off (min m2 len) g) ups))) φ φ := by
            have get : ∀ (q : Nat) (b : Blk), ((killR k ups 0 H).set k (some (.arr (n + 1) t1 m (cpyF f off (min m2 len) g) ups)))[q]? = some (some b) → (q = k ∧ b = .arr (n + 1) t1 m (cpyF f off (min m2 len) g) ups) ∨ (q ≠ k ∧ H[q]? = some (some b)) := fun q b hq => by
              rw [List.getElem?_set] at hq
              split at hq
              · rename_i e
                split at hq
                · exact .inl ⟨e.symm, by injection hq with hq; injection hq with hq; exact hq.symm⟩
                · cases hq
              · rename_i e
                exact .inr ⟨fun h => e h.symm, (killR_get hq).1⟩
            have T : Tra w w Z Z H ((killR k ups 0 H).set k (some (.arr (n + 1) t1 m (cpyF f off (min m2 len) g) ups))) φ φ := Turn.tra ⟨fun _ h => h, fun _ _ => rfl, fun q b hq hlq => by
              rcases get q b hq with ⟨rfl, rfl⟩ | ⟨_, h⟩
              · exact ⟨rfl, ⟨_, hk⟩, fun e t n f ups hb => by cases hb; exact ⟨_, _, hk⟩, fun _ _ hb => (by cases hb), fun hb => (by cases hb)⟩
              · exact ⟨rfl, ⟨_, h⟩, fun e t n f ups hb => ⟨_, _, hb ▸ h⟩, fun _ l hb => ⟨l, hb ▸ h⟩, fun hb => hb ▸ h⟩, by simp [killR_len]⟩
            refine ⟨⟨hs.zlt, fun q b hq => ?_, fun q b g' hq hg' => ?_, fun q b g' hq hg' => ?_, fun q q' b b' g' hq hq' hg1 hg2 => ?_⟩, T⟩
            · rcases get q b hq with ⟨rfl, rfl⟩ | ⟨_, h⟩
              · exact ⟨xs, hown, fun i j hi hj => by rw [hkeep i j hi hj]; exact hxs i j hi hj⟩
              · exact (hs.blk q b h).turn T (fun _ h => h) (fun _ _ => rfl) rfl (fun _ _ => rfl)
            · rcases get q b hq with ⟨rfl, rfl⟩ | ⟨_, h⟩
              · exact hs.own _ _ g' hk hg'
              · exact hs.own _ _ g' h hg'
            · rcases get q b hq with ⟨rfl, rfl⟩ | ⟨_, h⟩
              · exact hs.sep _ _ g' hk hg'
              · exact hs.sep _ _ g' h hg'
            · rcases get q b hq with ⟨e1, e2⟩ | ⟨h1', hA⟩ <;> rcases get q' b' hq' with ⟨e1', e2'⟩ | ⟨h2', hB⟩
              · exact .inl (by omega)
              · subst e1
                rcases hs.inj _ _ _ _ g' hk hB hg1 hg2 with h0 | h0
                · exact .inl h0
                · rw [e2]; cases b' <;> exact .inr h0
              · subst e1'
                rcases hs.inj _ _ _ _ g' hA hk hg1 hg2 with h0 | h0
                · exact .inl h0
                · rw [e2']; cases b <;> exact .inr h0
              · exact hs.inj _ _ _ _ g' hA hB hg1 hg2
          refine wpIn_val hdf hF (run a w w _ hrun) (hnx _ _ φ h3 (Keeps.refl _ _) (fun _ _ => rfl) ?_ T (NewOk.same (by simp [killR_len])))
          rw [hz]
          simp only [RepA, RepC]
          exact .int _ _
        · have hlen : 0 < len := by omega
          obtain ⟨b, cp, hb, rfl⟩ := hpos hlen
          have hgo : own? (φ k) = some b := by rw [hb]; rfl
          have hown2 := hown
          obtain ⟨hxl, hown2⟩ := hown2
          rw [hb] at hown2
          rcases hown2 with ⟨he0, _⟩ | ⟨g', cap', cur, he0, hb0, hcur, hmc, hcmx, hcs, htake⟩
          · cases he0
          · injection he0 with e3 e4 e5
            injection e3 with e3
            injection e3 with e3
            subst e3 e5
            have hf := hfc (min m2 len) hcm
            have hcl : (us.take (min m2 len * inf.size)).length = min m2 len * (n + 1) := by
              rw [List.length_take, hul, hsz]
              have := Nat.mul_le_mul_right (n + 1) hcm
              omega
            have hone : ∀ u ∈ us.take (min m2 len * inf.size), u.oneCell' = true := fun u hu' => by
              obtain ⟨q, hq, rfl⟩ := List.getElem_of_mem (List.mem_of_mem_take hu')
              have hq' : q < m2 * (n + 1) := by omega
              obtain ⟨v, hv, hp⟩ := hup (q / (n + 1)) (q % (n + 1)) (Nat.div_lt_of_lt_mul (by rw [Nat.mul_comm]; exact hq')) (Nat.mod_lt _ (by omega))
              have ej : q / (n + 1) * (n + 1) + q % (n + 1) = q := by rw [Nat.mul_comm]; exact Nat.div_add_mod q _
              rw [ej, List.getElem?_eq_getElem hq] at hv
              cases hv
              exact hp.one
            have hmulm : (off + min m2 len) * (n + 1) ≤ m * (n + 1) := Nat.mul_le_mul_right _ (by omega)
            rw [Nat.add_mul] at hmulm
            have hmce : m * (n + 1) ≤ cur.size := by rw [hcs]; exact Nat.mul_le_mul_right _ hmc
            have hst := run_storeCells_at (P := C.P) b (off * (n + 1)) t1 (us.take (min m2 len * inf.size)) 0 cur w hcur (by omega) hone
            simp only [Nat.add_zero] at hst
            rw [hcl] at hst
            have hrun : (Builtin.copy_ #[t, t'] o.type #[a.eval x, a.eval y]).run C.P w = .ok (.int .i64 (min m2 len : Nat)) (w.setRow b (cur.toList.take (off * (n + 1)) ++ us.take (min m2 len * inf.size) ++ cur.toList.drop (off * (n + 1) + min m2 len * (n + 1))).toArray) := by
              have hmin : Nat.min m2 len = min m2 len := rfl
              rw [hu, hu2]
              simp [Builtin.copy_, Builtin.lenOf, run_underlying ht, sizeOf, typeInfo, hinf, hmin, hf, hst, goInt]
            have htk := cpy_splice (cs := us.take (min m2 len * inf.size)) (o := off * (n + 1)) htake (by simpa using hmce) (by rw [hcl]; omega)
            rw [hcl] at htk
            have hxl' : xs.length = m * (n + 1) := hxl
            obtain ⟨h3, T⟩ := set_sim (b1 := .arr (n + 1) t1 m (cpyF f off (min m2 len) g) ups) (w' := w.setRow b (cur.toList.take (off * (n + 1)) ++ us.take (min m2 len * inf.size) ++ cur.toList.drop (off * (n + 1) + min m2 len * (n + 1))).toArray) hs hk hgo (H0 := killR k ups 0 H) killR_len (fun q b h => (killR_get h).1) (by simp [World.setRow]) (fun j hj => setRow_other w b j _ hj)
              ⟨fun _ _ _ _ _ h => by cases h; exact ⟨f, rfl⟩, (fun _ l' h => by cases h), (fun h => by cases h)⟩ (fun q b' hne hq he => by
                obtain ⟨hq1, hq2⟩ := killR_get hq
                rcases hs.inj q k b' _ b hq1 hk he hgo with h | h
                · exact hne h
                · cases b' with
                  | arr e' t' n' f' ups' =>
                    have := hq2 _ _ _ _ _ rfl
                    rw [Nat.zero_add] at this
                    obtain ⟨_, _, h | h⟩ := h
                    · exact this.2 h.1
                    · exact this.1 h.1
                  | _ => exact h)
              (fun T => ⟨xs.take (off * (n + 1)) ++ us.take (min m2 len * inf.size) ++ xs.drop (off * (n + 1) + min m2 len * (n + 1)), ⟨by simp only [List.length_append, List.length_take, List.length_drop, hcl, hxl']; omega, .inr ⟨b, cp, _, hb, Nat.zero_le _, setRow_heap w b cur _ t1 _ hcur, hmc, hcmx, by simp only [List.size_toArray, List.length_append, List.length_take, List.length_drop, hcl, Array.length_toList]; omega, by simp only [List.toList_toArray]; exact htk⟩⟩, fun i j hi hj => by
                  have keepP : ∀ {p : PV} {u : Value}, RepP w Z p u → RepP (w.setRow b (cur.toList.take (off * (n + 1)) ++ us.take (min m2 len * inf.size) ++ cur.toList.drop (off * (n + 1) + min m2 len * (n + 1))).toArray) Z p u := fun hp => hp.keep (fun _ h => h) fun p hp => World.cell?_of_block (setRow_other w b p.block _ (fun e => hs.sep k _ b hk hgo (e ▸ hp)))
                  unfold cpyF
                  have hij : i * (n + 1) + j < m * (n + 1) := by
                    have := Nat.mul_le_mul_right (n + 1) (show i + 1 ≤ m by omega)
                    rw [Nat.add_mul] at this
                    omega
                  by_cases hin : off ≤ i ∧ i < off + min m2 len
                  · rw [if_pos hin]
                    obtain ⟨v, hv, hp⟩ := hup (i - off) j (by omega) hj
                    have h1' : off * (n + 1) ≤ i * (n + 1) := Nat.mul_le_mul_right _ hin.1
                    have h2' := Nat.mul_le_mul_right (n + 1) (show i + 1 ≤ off + min m2 len by omega)
                    rw [Nat.add_mul, Nat.add_mul] at h2'
                    have hsub : (i - off) * (n + 1) + j = i * (n + 1) + j - off * (n + 1) := by rw [Nat.sub_mul]; omega
                    refine ⟨v, ?_, keepP hp⟩
                    have hl0 : (xs.take (off * (n + 1))).length = off * (n + 1) := by rw [List.length_take]; omega
                    rw [List.append_assoc, List.getElem?_append_right (by rw [hl0]; omega), hl0, List.getElem?_append_left (by rw [hcl]; omega), ← hsub, List.getElem?_take, if_pos (by rw [hsz]; omega)]
                    exact hv
                  · rw [if_neg hin]
                    obtain ⟨v, hv, hp⟩ := hxs i j hi hj
                    refine ⟨v, ?_, keepP hp⟩
                    rcases Nat.lt_or_ge i off with h4 | h4
                    · have h5 := Nat.mul_le_mul_right (n + 1) (show i + 1 ≤ off by omega)
                      rw [Nat.add_mul] at h5
                      rw [List.append_assoc, List.getElem?_append_left (by rw [List.length_take]; omega), List.getElem?_take, if_pos (by omega)]
                      exact hv
                    · have h5 := Nat.mul_le_mul_right (n + 1) (show off + min m2 len ≤ i by omega)
                      rw [Nat.add_mul] at h5
                      have hl1 : (xs.take (off * (n + 1)) ++ us.take (min m2 len * inf.size)).length = off * (n + 1) + min m2 len * (n + 1) := by
                        rw [List.length_append, hcl, List.length_take]
                        omega
                      rw [List.getElem?_append_right (by rw [hl1]; omega), hl1, List.getElem?_drop, show off * (n + 1) + min m2 len * (n + 1) + (i * (n + 1) + j - (off * (n + 1) + min m2 len * (n + 1))) = i * (n + 1) + j by omega]
                      exact hv⟩)
            refine wpIn_val hdf hF (run a w _ _ hrun) (hnx _ _ φ h3 (Keeps.setRow (hs.own k _ b hk hgo) hcur _) (fun j hj => setRow_other w b j _ (fun e => hs.sep k _ b hk hgo (e ▸ hj))) ?_ T (NewOk.same (by simp [killR_len])))
            simp only [RepA, RepC]
            exact .int _ _
      · exact False.elim h
    · exact False.elim h
  · exact False.elim h
end Go.Ab
namespace Go.Ab
open Go.RowKit
variable {C : Cfg} {E : Ev} {H : Heap} {ev : Opd → AV}
theorem bstr_sound {o : Oper} {f : FuncId} {e : TypeId} {as_ : Array Operand} {ts : Array TypeId} {x : Operand} {X : Opd} (ho : o.op = .call { callee := .value (.func f), args := as_, argTypes := ts }) (has : as_ = #[x]) (hf : okFn C.P f = true) (hbs : isBs C.P f = true) (hu8 : u8Of C.P = some e)
    (hX : compX x = some X) {K : AV → Heap → VC} (h : (opM H ev (.bstr e X) K).holds) : ∃ v H', (K v H').holds ∧ OpGoalM C o H ev v H' := by
  subst has
  have hdf : ∀ c, o.op ≠ .defer c := fun c h0 => by simp [ho] at h0
  obtain ⟨hnil, hrow⟩ := C.bs f e hf hbs hu8
  have run : ∀ (a : Act) (w : World), (execOp a.eval o).run C.P w = .ok (.enter f #[a.eval x]) w := by
    intro a w
    simp [execOp, ho, resolve, Deferred.ofValue, invoke, enter_run hf, Act.eval]
  have fin : ∀ {a : Act} {w : World} {F : Fence} {n : Nat}, WF F → ∀ {next : Act → World → Prop} {Q : Exit → Act → World → Prop} {b : Nat} {u : Value} {w' : World}, a.eval x = .pointer (some ⟨b, 0, none⟩) →
      Calls C.P f #[.pointer (some ⟨b, 0, none⟩)] w (fun e w2 => e = .returned u ∧ w2 = w') → next (a.put o.dst u) w' → o.wpIn F n C.P a w next Q := by
    intro a w F n hF next Q b u w' hx hcall hn
    refine ⟨fun f _ => hF.fn f, ?_⟩
    rw [Oper.semAt_eq _ _ _ hdf, run, hx]
    simp only [Oper.uponIn]
    refine ⟨fun h => by rw [hF.dp] at h; simp at h, hF.calls (hcall.mono fun e w2 hh => ?_)⟩
    obtain ⟨rfl, rfl⟩ := hh
    exact hn
  have mx : ∀ {w : World} {Z : Nat → Prop} {φ : Nat → Value} {a : Act}, OpdRep w Z H φ ev a o.op.operands → RepA w Z H φ (ev X) (a.eval x) := fun hop => hop x (by rw [ho]; simp [Op.operands, Call.operands]) X hX
  simp only [opM] at h
  split at h
  · rename_i k hx
    split at h
    · rename_i bt ca b rest hk
      -- the buffer's cell
      have cell : ∀ {O Z : Nat → Prop} {φ : Nat → Value} {a : Act} {w : World}, SimH C O Z φ H w → OpdRep w Z H φ ev a o.op.operands → ∃ g u1, a.eval x = .pointer (some ⟨g, 0, none⟩) ∧ w.cell? ⟨g, 1, none⟩ = some u1 ∧ RepC w Z H φ b u1 := by
        intro O Z φ a w hs hop
        have h1 := mx hop
        rw [hx] at h1
        simp only [RepA] at h1
        obtain ⟨g, e1, hu⟩ := h1.2.2 _ _ hk
        obtain ⟨g', t', us, e2, hh, hl⟩ := hs.blk k _ hk
        rw [e1] at e2
        cases e2
        obtain ⟨u1, hu1, hr⟩ := hl.2 1 b rfl
        exact ⟨g, u1, hu, by rw [cell_of_row w g 1 _ _ (0, 0) hh]; simpa using hu1, hr⟩
      split at h
      · refine ⟨_, _, h, fun O Z φ a w hs hO hop F nn hF next Q hnx => ?_⟩
        obtain ⟨g, u1, hu, hc, hr⟩ := cell hs hop
        have : u1 = .slice none 0 0 := by
          simp only [RepC] at hr
          cases hr; rfl
        subst this
        have hst : Stays w w.drew := (Below.refl _ _).drew
        refine fin hF hu (hnil g w hc) (hnx _ _ φ (hs.stays hst (fun _ h => h) (fun _ h => .inl h)) (.of_stays hst) (hst.obj hs.zlt) ?_ (Turn.stays H φ hst hs.zlt (fun _ h => h)).tra (NewOk.same rfl))
        simp only [vP, RepA, RepC]
        exact .str []
      · rename_i k2 q
        split at h
        · rename_i e' t1 m fn ups hk2
          split at h
          · rename_i hd
            simp only [Bool.and_eq_true] at hd
            have hd1 := Nat.eq_of_beq_eq_true hd.1
            have hd2 := Nat.eq_of_beq_eq_true hd.2
            subst hd1 hd2
            split at h
            · rename_i l hl
              obtain ⟨hq1, hqm, h⟩ := h
              have hq1 : 1 ≤ q := hq1
              have hqm : q ≤ m := hqm
              have hll := bytesOf_len hl
              refine ⟨_, _, h, fun O Z φ a w hs hO hop F nn hF next Q hnx => ?_⟩
              obtain ⟨g0, u1, hu, hc, hr⟩ := cell hs hop
              obtain ⟨_, _, hr⟩ := hr
              obtain ⟨_, ad, cap, hu1, hcap, _, hpos⟩ := hr _ _ _ _ _ hk2
              obtain ⟨b2, cp, hb, rfl⟩ := hpos (by omega)
              subst hu1
              obtain ⟨xs, hown, hxs⟩ := hs.blk k2 _ hk2
              have hgo : own? (φ k2) = some b2 := by rw [hb]; rfl
              have hown' := hown
              rw [hb] at hown'
              rcases hown'.2 with ⟨he0, _⟩ | ⟨g', cap', cur, he0, hb0, hcur, hmc, hcm, hcs, htake⟩
              · cases he0
              · injection he0 with e3 e4 e5
                injection e3 with e3
                injection e3 with e3
                subst e3 e5
                have hcell : ∀ j x, l[j]? = some x → w.cell? ((⟨b2, 0, none⟩ : Addr).add j) = some (.int .u8 x.toNat) := fun j x hj => by
                  have hjq : j < q := by rw [← hll]; exact (List.getElem?_eq_some_iff.1 hj).1
                  obtain ⟨x', hx', hf'⟩ := bytesOf_get hl j hjq
                  rw [hj] at hx'
                  cases hx'
                  obtain ⟨u, hu', hp⟩ := hxs j 0 (by omega) (by omega)
                  rw [hf'] at hp
                  have : u = .int .u8 x.toNat := by cases hp; rfl
                  subst this
                  exact hown'.cells (g := b2) rfl j _ (by simpa using hu')
                have hcs' : cur.size = cp := by simpa using hcs
                have hcall := hrow g0 b2 cap l cur w (by rw [hc, hll]) (by intro h0; rw [h0] at hll; simp at hll; omega) hcur (by omega) (by omega) (by omega) hcell
                rw [hll] at hcall
                have hcur' : w.drew.heap[b2]? = some (.cells cur e (0, 0)) := hcur
                obtain ⟨f1, f2, f3, f4, f5⟩ := freeze_facts w.drew b2 q hcur'
                obtain ⟨h3, T⟩ := gone_sim (w' := w.drew.freeze ⟨b2, 0, none⟩ q) hs (g := b2) (H0 := (killR k2 ups 0 H).set k2 none) (by simp [killR_len]) (fun q' b' hq' => by
                    rw [List.getElem?_set] at hq'
                    split at hq'
                    · split at hq' <;> cases hq'
                    · exact (killR_get hq').1) (hs.sep k2 _ b2 hk2 hgo) (by rw [f4]; exact Nat.le_refl _) f5 (fun q' b' hq' he => by
                    rw [List.getElem?_set] at hq'
                    split at hq'
                    · split at hq' <;> cases hq'
                    · rename_i hne
                      obtain ⟨hq1', hq2'⟩ := killR_get hq'
                      rcases hs.inj q' k2 b' _ b2 hq1' hk2 he hgo with h | h
                      · exact hne h.symm
                      · cases b' with
                        | arr e2 t2 n2 f2 ups2 =>
                          have := hq2' _ _ _ _ _ rfl
                          rw [Nat.zero_add] at this
                          obtain ⟨_, _, h | h⟩ := h
                          · exact this.2 h.1
                          · exact this.1 h.1
                        | _ => exact h)
                refine fin hF hu hcall (hnx _ _ φ h3 ⟨f1, f2, f3, by rw [f4]; exact Nat.le_refl _, fun j hj hOj => f5 j fun e => hOj (e ▸ hs.own k2 _ b2 hk2 hgo), fun j r hj => ⟨r, by rw [f5 j (fun e => by rw [e, hcur] at hj; cases hj)]; exact hj, .refl r⟩⟩ (fun j hj => f5 j fun e => hs.sep k2 _ b2 hk2 hgo (e ▸ hj)) ?_ T (NewOk.same (by simp [killR_len])))
                simp only [vP, RepA, RepC]
                exact .str l
            · exact False.elim h
          · exact False.elim h
        · exact False.elim h
      · exact False.elim h
    · exact False.elim h
  · exact False.elim h
end Go.Ab
namespace Go.Ab
open Go.RowKit
variable {C : Cfg} {E : Ev} {H : Heap} {ev : Opd → AV}
theorem push_arr {O Z : Nat → Prop} {φ : Nat → Value} {w : World} (hs : SimH C O Z φ H w) (hO : ∀ b, w.heap.size ≤ b → O b) {e n cap : Nat} {t : TypeId} {f : Nat → Nat → PV} {us : List Value} (hnc : n ≤ cap) (hcm : cap ≤ maxLen) (hlen : us.length = cap * e)
    (hx : ∀ i j, i < n → j < e → ∃ u, us[i * e + j]? = some u ∧ RepP w Z (f i j) u) :
    ∃ φ', SimH C O Z φ' (H ++ [some (.arr e t n f [])]) (w.alloc (.cells us.toArray t)) ∧ Stays w (w.alloc (.cells us.toArray t)) ∧
      RepA (w.alloc (.cells us.toArray t)) Z (H ++ [some (.arr e t n f [])]) φ' (.c (.sl H.length 0 n)) (.slice (some ⟨w.heap.size, 0, none⟩) n cap) ∧ Tra w (w.alloc (.cells us.toArray t)) Z Z H (H ++ [some (.arr e t n f [])]) φ φ' ∧ NewOk H (H ++ [some (.arr e t n f [])]) φ' := by
  have hst : Stays w (w.alloc (.cells us.toArray t)) := (Below.refl _ _).alloc (Nat.le_refl _) _
  have hle : n * e ≤ us.length := by rw [hlen]; exact Nat.mul_le_mul_right _ hnc
  obtain ⟨h1, T, N⟩ := push_sim (b1 := .arr e t n f []) (u := .slice (some ⟨w.heap.size, 0, none⟩) n cap) hs hst hO (fun g hg => by simp [own?] at hg; omega)
    fun T => ⟨us.take (n * e), ⟨by simp; omega, .inr ⟨w.heap.size, cap, us.toArray, upd_at, Nat.zero_le _, heap_alloc_new w _, hnc, hcm, by simpa using hlen, by simp⟩⟩, fun i j hi hj => by
      obtain ⟨u, hu, hp⟩ := hx i j hi hj
      have hlt : i * e + j < n * e := by
        have := Nat.mul_le_mul_right e (show i + 1 ≤ n by omega)
        rw [Nat.add_mul] at this
        omega
      exact ⟨u, by rw [List.getElem?_take, if_pos hlt]; exact hu, hp.keep (fun _ h => h) fun p hp => hst.cell (hs.zlt _ hp)⟩⟩
  refine ⟨_, h1, hst, ?_, T, N⟩
  simp only [RepA, RepC]
  refine ⟨⟨by simp, by simp⟩, rfl, fun e' t' n' f' ups' hk => ?_⟩
  rcases get_snoc hk with ⟨h1, _⟩ | ⟨_, h2⟩
  · omega
  · cases h2
    exact ⟨by omega, _, _, rfl, hnc, fun _ _ => upd_at.symm, fun _ => ⟨_, _, upd_at, by simp⟩⟩
theorem bsl_sound {o : Oper} {t e : TypeId} {len n : Nat} {ps : Array (Nat × Operand)} {z : List PV} {qs : List (Nat × Nat × Opd)} (ho : o.op = .buildSlice t len ps) (ht : C.P.underlying t = some (.slice e)) (hn : sz1 C.P e = some n) (hz : zeroL C.P e = some z)
    (hk : z.length = n ∧ 0 < n ∧ (0 < len ∨ ps.toList = []) ∧ len * n ≤ 16777216) (hc : compPs (fun i => some (i * n, n)) ps.toList = some qs) {K : AV → Heap → VC} (h : (opM H ev (.bsl n len e z qs) K).holds) : ∃ v H', (K v H').holds ∧ OpGoalM C o H ev v H' := by
  obtain ⟨i, zv, hi, hzv, hza⟩ := zeroL_spec hz
  obtain ⟨inf, hinf, hsz⟩ := sz1_spec hn
  rw [hi] at hinf
  cases hinf
  simp only [opM] at h
  split at h
  · rename_i l hl
    split at h
    · rename_i q hq
      refine ⟨_, _, h, fun O Z φ a w hs hO hop F nn hF next Q hnx => ?_⟩
      have hx : ∀ p ∈ ps.toList, ∀ X, compX p.2 = some X → RepA w Z H φ (ev X) (a.eval p.2) := fun p hp X hX => hop p.2 (by
        rw [ho]
        simp only [Op.operands, List.mem_toArray, List.mem_map]
        exact ⟨p, hp, rfl⟩) X hX
      have hz0 := absL_rep0 (H := H) (w := w) (Z := Z) (φ := φ) hza
      have hzlen : zv.cells.size = n := by have := hz0.1; simp at this; omega
      have hzz := zero_rep hz0 len
      obtain ⟨us', hf, hr⟩ := fill_sound (a := a) hc hl hzz hx
      have hlen' : us'.length = len * n := by
        rw [← hr.1, fillA_len hl, repL_len]
        simp [hk.1]
      have hrun : (execOp a.eval o).run C.P w = .ok (.value (.slice (some ⟨w.heap.size, 0, none⟩) len len)) (w.alloc (.cells us'.toArray e)) := by
        have e2 : Instr.fill (fun i => some (i * n, n)) ((Array.range (len * n)).map (zv.cells[· % zv.cells.size]!)) (List.map (fun p => (p.1, a.eval p.2)) ps.toList) = some us'.toArray := by
          have e0 : (Array.range (len * n)).map (zv.cells[· % zv.cells.size]!) = ((List.range (len * zv.cells.toList.length)).map fun i => zv.cells.toList.toArray[i % zv.cells.toList.length]!).toArray := by
            apply Array.ext'
            simp [hzlen]
          rw [e0, hf]
        have h0 : ¬ len * n > 2 ^ 24 := by have := hk.2.2.2; omega
        rcases Nat.eq_zero_or_pos len with hl0 | hlp
        · have hps : ps.toList = [] := by
            rcases hk.2.2.1 with h | h
            · omega
            · exact h
          have hps' : ps = #[] := by apply Array.ext'; simpa using hps
          subst hps'
          subst hl0
          have hus : us' = [] := List.eq_nil_of_length_eq_zero (by simpa using hlen')
          subst hus
          simp [execOp, ho, Instr.buildSlice, run_underlying ht, sizeOf, typeInfo, hi, hsz, Instr.fill, newRow]
          congr 2
          apply Array.ext'
          simp
        have h1 : ¬ len * n = 0 := by
          have h1 := hk.2.1
          have := Nat.mul_pos hlp h1
          omega
        simp only [execOp, ho, Instr.buildSlice, run_underlying ht, Sem.run_bind, Sem.run_pure, Result.andThen_ok, sizeOf, typeInfo, run_program, hi, hsz, if_neg h0, if_neg h1, zeroValue, hzv, Array.toList_map, e2, newRow, run_newObj]
        rfl
      have hq' := plainL_spec hq
      subst hq'
      obtain ⟨φ', h1, h2, h3, T, N⟩ := push_arr (e := n) (n := len) (t := e) (f := fun i j => q.getD (i * n + j) .npt) hs hO (Nat.le_refl _) (by have := Nat.le_mul_of_pos_right len hk.2.1; simp only [maxLen]; omega) hlen' (fun i j hi' hj => by
        have hlt : i * n + j < len * n := by
          have := Nat.mul_le_mul_right n (show i + 1 ≤ len by omega)
          rw [Nat.add_mul] at this
          omega
        have hqlen : i * n + j < q.length := by have := hr.1; simp at this; omega
        obtain ⟨u, hu, hru⟩ := hr.2 (i * n + j) (.p q[i * n + j]) (by simp [hqlen])
        simp only [RepC] at hru
        exact ⟨u, hu, by simpa [List.getD, hqlen] using hru⟩)
      exact wpIn_val (fun c h0 => by simp [ho] at h0) hF hrun (hnx _ _ φ' h1 (.of_stays h2) (h2.obj hs.zlt) h3 T N)
    · exact False.elim h
  · exact False.elim h
theorem repL_get {l : List CV} : ∀ {n p j : Nat}, p < n → j < l.length → (repL n l)[p * l.length + j]? = l[j]?
  | 0, p, j, hp, _ => by omega
  | n + 1, 0, j, _, hj => by
    simp only [repL, Nat.zero_mul, Nat.zero_add]
    rw [List.getElem?_append_left hj]
  | n + 1, p + 1, j, hp, hj => by
    simp only [repL]
    rw [List.getElem?_append_right (by rw [Nat.add_mul]; omega), show (p + 1) * l.length + j - l.length = p * l.length + j by rw [Nat.add_mul]; omega]
    exact repL_get (by omega) hj
theorem mks_sound {o : Oper} {t e : TypeId} {l c : Operand} {L Cc : Opd} {i : TypeInfo} {z : List PV} (ho : o.op = .makeSlice t l c) (ht : C.P.underlying t = some (.slice e)) (hi : C.P.info? e = some i) (hz : zeroL C.P e = some z)
    (hk : z.length = i.size ∧ 0 < i.size ∧ 0 < i.bytes) (hL : compX l = some L) (hC : compX c = some Cc) {K : AV → Heap → VC} (h : (opM H ev (.mks i.size e i.bytes z L Cc) K).holds) : ∃ v H', (K v H').holds ∧ OpGoalM C o H ev v H' := by
  obtain ⟨i', zv, hi', hzv, hza⟩ := zeroL_spec hz
  rw [hi] at hi'
  cases hi'
  simp only [opM] at h
  split at h
  · rename_i k1 a1 k2 b1 hel hec
    obtain ⟨hcut, hby, h⟩ := h
    have hcut : 0 ≤ (0 : Int) ∧ 0 ≤ a1 ∧ a1 ≤ b1 := hcut
    have hby : b1.toNat * i.bytes ≤ 140737488355328 := hby
    refine ⟨_, _, h, fun O Z φ a w hs hO hop F nn hF next Q hnx => ?_⟩
    have hl := repP_int (by have := hop l (by simp [ho, Op.operands]) L hL; rwa [hel] at this)
    have hc := repP_int (by have := hop c (by simp [ho, Op.operands]) Cc hC; rwa [hec] at this)
    have hz0 := absL_rep0 (H := H) (w := w) (Z := Z) (φ := φ) hza
    have hzlen : zv.cells.size = i.size := by have := hz0.1; simp at this; omega
    have hb1 : b1.toNat ≤ 140737488355328 := by have := Nat.le_mul_of_pos_right b1.toNat hk.2.2; omega
    have hmul : (i.bytes : Int) * b1 ≤ 281474976710656 := by
      have e1 : (b1.toNat : Int) = b1 := Int.toNat_of_nonneg (by omega)
      rw [← e1, ← Int.natCast_mul, Nat.mul_comm]
      omega
    have hrun0 := run_make (P := C.P) w t e i zv ht hi hzv k1 k2 a1 b1 hcut.2.1 hcut.2.2 hmul (by omega)
    have hzz := zero_rep hz0 b1.toNat
    have emade : (madeCells zv.cells (b1.toNat * i.size)) = ((List.range (b1.toNat * zv.cells.toList.length)).map fun i => zv.cells.toList.toArray[i % zv.cells.toList.length]!).toArray := by
      apply Array.ext'
      simp [madeCells, hzlen]
    rw [emade] at hrun0
    have hul : ((List.range (b1.toNat * zv.cells.toList.length)).map fun i => zv.cells.toList.toArray[i % zv.cells.toList.length]!).length = b1.toNat * i.size := by simp [hzlen]
    generalize ((List.range (b1.toNat * zv.cells.toList.length)).map fun i => zv.cells.toList.toArray[i % zv.cells.toList.length]!) = us at hrun0 hzz hul
    have hrun : (execOp a.eval o).run C.P w = .ok (.value (.slice (some ⟨w.heap.size, 0, none⟩) a1.toNat b1.toNat)) (w.alloc (.cells us.toArray e)) := by
      simp only [execOp, ho, hl, hc, Sem.run_bind, hrun0, Result.andThen_ok, Sem.run_pure]
    obtain ⟨φ', h1, h2, h3, T, N⟩ := push_arr (e := i.size) (n := a1.toNat) (cap := b1.toNat) (t := e) (us := us) (f := fun _ j => z.getD j .npt) hs hO (by omega) (by simp only [maxLen]; omega) hul (fun p j hp hj => by
      have hjz : j < z.length := by omega
      have hg := repL_get (l := z.map .p) (n := b1.toNat) (p := p) (j := j) (by omega) (by simpa using hjz)
      obtain ⟨u, hu, hru⟩ := hzz.2 (p * (z.map CV.p).length + j) (.p z[j]) (by rw [hg]; simp [hjz])
      simp only [RepC] at hru
      rw [List.length_map, hk.1] at hu
      exact ⟨u, hu, by simpa [List.getD, hjz] using hru⟩)
    exact wpIn_val (fun c h0 => by simp [ho] at h0) hF hrun (hnx _ _ φ' h1 (.of_stays h2) (h2.obj hs.zlt) h3 T N)
  · exact False.elim h
theorem opM_sound {o : Oper} {m : OM} (hc : compM C.P o = some m) {K : AV → Heap → VC} (h : (opM H ev m K).holds) : ∃ v H', (K v H').holds ∧ OpGoalM C o H ev v H' := by
  unfold compM at hc
  split at hc
  · rename_i t ho
    split at hc
    · rename_i i hi
      split at hc
      · rename_i z hz
        split at hc
        · rename_i l hl
          split at hc
          · cases hc
            exact alloc_sound ho hi hz hl h
          · cases hc
        · cases hc
      · cases hc
    · cases hc
  · rename_i t x ho
    obtain ⟨X, hX, rfl⟩ := Option.map_eq_some_iff.1 hc
    exact box_sound ho hX h
  · rename_i t x v ho
    split at hc
    · rename_i h1 h2 h3
      cases hc
      exact store_sound ho h1 h2 h3 h
    · cases hc
  · rename_i t len ps ho
    split at hc
    · rename_i e hu
      split at hc
      · rename_i n z hn hz
        split at hc
        · rename_i hk
          obtain ⟨qs, hqs, rfl⟩ := Option.map_eq_some_iff.1 hc
          simp only [Bool.and_eq_true, decide_eq_true_eq] at hk
          exact bsl_sound ho hu hn hz ⟨hk.1.1.1, hk.1.1.2, by
            have := hk.1.2
            simp only [Bool.or_eq_true, decide_eq_true_eq, List.isEmpty_iff] at this
            exact this, hk.2⟩ hqs h
        · cases hc
      · cases hc
    · cases hc
  · rename_i f fs cs ho
    split at hc
    · rename_i h1 h2
      cases hc
      exact clo_sound ho h1 h2 h
    · cases hc
  · rename_i t l c ho
    split at hc
    · rename_i e hu
      split at hc
      · rename_i i z L Cc hi hz hL hC
        split at hc
        · rename_i hk
          cases hc
          simp only [Bool.and_eq_true, decide_eq_true_eq] at hk
          exact mks_sound ho hu hi hz ⟨hk.1.1, hk.1.2, hk.2⟩ hL hC h
        · cases hc
      · cases hc
    · cases hc
  · rename_i c ho
    obtain ⟨ce, as_, ts⟩ := c
    dsimp only at hc
    split at hc
    · split at hc
      · rename_i s x t t' has hts
        split at hc
        · rename_i htt
          subst htt
          split at hc
          · rename_i e hu
            split at hc
            · rename_i i S X hi hS hX
              split at hc
              · rename_i z hz
                split at hc
                · rename_i hk
                  cases hc
                  simp only [Bool.and_eq_true, decide_eq_true_eq] at hk
                  have e1 : as_ = #[s, x] := by apply Array.ext'; simpa using has
                  have e2 : ts = #[t, t] := by apply Array.ext'; simpa using hts
                  subst e2
                  exact app_sound ho e1 hu hi hz ⟨hk.1.1, hk.1.2, hk.2⟩ hS hX h
                · cases hc
              · cases hc
            · cases hc
          · cases hc
        · rename_i htt
          split at hc
          · rename_i e hu hu2
            split at hc
            · rename_i i S X hi hS hX
              split at hc
              · rename_i hz
                split at hc
                · rename_i hk
                  cases hc
                  simp only [Bool.and_eq_true, decide_eq_true_eq] at hk
                  have e1 : as_ = #[s, x] := by apply Array.ext'; simpa using has
                  have e2 : ts = #[t, t'] := by apply Array.ext'; simpa using hts
                  subst e2
                  exact aps_sound ho e1 hu hu2 hi hz hk hS hX h
                · cases hc
              · cases hc
            · cases hc
          · cases hc
      · cases hc
    · split at hc
      · rename_i x n t t' has hts
        split at hc
        · rename_i e hu
          split at hc
          · rename_i X N hX hN
            split at hc
            · rename_i hce
              cases hc
              have e1 : as_ = #[x, n] := by apply Array.ext'; simpa using has
              have e2 : ts = #[t, t'] := by apply Array.ext'; simpa using hts
              subst e2
              exact ustr_sound ho e1 hu hce hX hN h
            · cases hc
          · cases hc
        · cases hc
      · cases hc
    · rename_i f
      split at hc
      · rename_i hok
        simp only [Bool.and_eq_true] at hok
        split at hc
        · rename_i e x hu8 has
          obtain ⟨X, hX, rfl⟩ := Option.map_eq_some_iff.1 hc
          exact bstr_sound ho (by apply Array.ext'; simpa using has) hok.1 hok.2 hu8 hX h
        · cases hc
      · cases hc
    · split at hc
      · rename_i x y t t' has hts
        split at hc
        · rename_i e hu
          split at hc
          · rename_i n X Y hn hX hY
            cases hc
            have e1 : as_ = #[x, y] := by apply Array.ext'; simpa using has
            have e2 : ts = #[t, t'] := by apply Array.ext'; simpa using hts
            subst e2
            exact cpy_sound ho e1 hu hn hX hY h
          · cases hc
        · cases hc
      · cases hc
    · cases hc
  · rename_i t r ho
    split at hc
    · rename_i kt e ht
      cases hc
      exact mkm_sound ho ht (.inl rfl) h
    · rename_i kt e k z ht
      cases hc
      exact mkm_sound ho ht (.inr ⟨_, _, rfl⟩) h
    · cases hc
  · rename_i t m k x ho
    split at hc
    · rename_i kt e ht
      split at hc
      · rename_i hk _ hM hK hX
        cases hc
        exact mset_sound (ks := false) (.inl ho) ht hk (.inl ⟨rfl, _, rfl⟩) hM hK hX h
      · rename_i hk _ hM hK hX
        cases hc
        exact mset_sound (ks := true) (.inl ho) ht hk (.inr ⟨rfl, rfl⟩) hM hK hX h
      · cases hc
    · cases hc
  · rename_i t m k x ho
    split at hc
    · rename_i kt e ht
      split at hc
      · rename_i hk _ hM hK hX
        cases hc
        exact mset_sound (ks := false) (.inr ho) ht hk (.inl ⟨rfl, _, rfl⟩) hM hK hX h
      · rename_i hk _ hM hK hX
        cases hc
        exact mset_sound (ks := true) (.inr ho) ht hk (.inr ⟨rfl, rfl⟩) hM hK hX h
      · cases hc
    · cases hc
  · rename_i t x ho
    split at hc
    · rename_i ht
      obtain ⟨X, hX, rfl⟩ := Option.map_eq_some_iff.1 hc
      exact rng_sound ho ht hX h
    · cases hc
  · rename_i x s ho
    split at hc
    · obtain ⟨X, hX, rfl⟩ := Option.map_eq_some_iff.1 hc
      exact nxs_sound ho hX h
    · cases hc
  · cases hc
end Go.Ab
namespace Go.Ab
open Go.RowKit
variable {C : Cfg} {E : Ev} {H : Heap} {ev : Opd → AV}
def cellsO (ev : Opd → AV) : List Opd → List CV
  | [] => []
  | X :: l => match cellsA (ev X) with
    | some q => q ++ cellsO ev l
    | none => cellsO ev l
def fzC (H : Heap) : CV → CV
  | .sl k off len => match H[k]? with
    | some (some (.arr e _ _ f _)) => .p (.isl e len fun i j => f (off + i) j)
    | _ => .sl k off len
  | c => c
def fzA (H : Heap) : AV → AV
  | .c c => .c (fzC H c)
  | .ag l => .ag (l.map (fzC H))
  | a => a
def frzH (H0 : Heap) : List Nat → Heap → List CV → Option Heap
  | _, H, [] => some H
  | ks, H, c :: l => match c with
    | .sl k _ _ => match H[k]? with
      | some (some (.arr _ _ _ _ ups)) => frzH H0 (k :: ks) ((killR k ups 0 H).set k none) l
      | _ => match H0[k]? with
        | some (some (.arr _ _ _ _ _)) => match memB k ks with
          | true => frzH H0 ks H l
          | false => none
        | _ => frzH H0 ks H l
    | _ => frzH H0 ks H l
def anySl : List CV → Bool
  | [] => false
  | c :: l => match c with
    | .sl _ _ _ => true
    | _ => anySl l
def wantsF (ev : Opd → AV) : OM → Bool
  | .bsl _ _ _ _ _ => true
  | .store _ x _ => match ev x with
    | .c (.pe _ _ _) => true
    | _ => false
  | _ => false
def opMz (H : Heap) (ev : Opd → AV) (p : OM) (K : AV → Heap → VC) : VC :=
  match wantsF ev p with
  | false => opM H ev p K
  | true => match anySl (cellsO ev (opdsM p)) with
    | false => opM H ev p K
    | true => match frzH H [] H (cellsO ev (opdsM p)) with
      | some H1 => opM H1 (fun X => fzA H (ev X)) p K
      | none => .no
theorem freeze_one {O Z : Nat → Prop} {φ : Nat → Value} {w : World} (hs : SimH C O Z φ H w) {k e n : Nat} {t : TypeId} {f : Nat → Nat → PV} {ups : List Nat} (hk : H[k]? = some (some (.arr e t n f ups))) :
    SimH C O (fun b => Z b ∨ own? (φ k) = some b) φ ((killR k ups 0 H).set k none) w ∧ Tra w w Z (fun b => Z b ∨ own? (φ k) = some b) H ((killR k ups 0 H).set k none) φ φ ∧
      ∀ (q : Nat) (b : Blk), ((killR k ups 0 H).set k none)[q]? = some (some b) → H[q]? = some (some b) := by
  have get : ∀ (q : Nat) (b : Blk), ((killR k ups 0 H).set k none)[q]? = some (some b) → q ≠ k ∧ (killR k ups 0 H)[q]? = some (some b) := fun q b hq => by
    rw [List.getElem?_set] at hq
    split at hq
    · split at hq <;> cases hq
    · rename_i hne
      exact ⟨fun e => hne e.symm, hq⟩
  have sub : ∀ (q : Nat) (b : Blk), ((killR k ups 0 H).set k none)[q]? = some (some b) → H[q]? = some (some b) := fun q b hq => (killR_get (get q b hq).2).1
  have T : Tra w w Z (fun b => Z b ∨ own? (φ k) = some b) H ((killR k ups 0 H).set k none) φ φ := Turn.tra ⟨fun _ h => .inl h, fun _ _ => rfl, fun q b hq hlq => ⟨rfl, ⟨b, sub q b hq⟩, fun e t n f ups hb => ⟨f, ups, hb ▸ sub q b hq⟩, fun t l hb => ⟨l, hb ▸ sub q b hq⟩, fun hb => hb ▸ sub q b hq⟩, by simp [killR_len]⟩
  refine ⟨⟨fun b hb => ?_, fun q b hq => (hs.blk q b (sub q b hq)).turn T (fun _ h => .inl h) (fun _ _ => rfl) rfl fun _ _ => rfl, fun q b g hq => hs.own q b g (sub q b hq), fun q b g hq hg hz => ?_, fun q q' b b' g hq hq' => hs.inj q q' b b' g (sub q b hq) (sub q' b' hq')⟩, T, sub⟩
  · rcases hb with hb | hb
    · exact hs.zlt b hb
    · exact own_lt hs hk hb
  · rcases hz with hz | hz
    · exact hs.sep q b g (sub q b hq) hg hz
    · obtain ⟨hne, hq1⟩ := get q b hq
      obtain ⟨hq2, hq3⟩ := killR_get hq1
      rcases hs.inj q k b _ g hq2 hk hg hz with h | h
      · exact hne h
      · cases b with
        | arr e2 t2 n2 f2 ups2 =>
          have := hq3 _ _ _ _ _ rfl
          rw [Nat.zero_add] at this
          obtain ⟨_, _, h | h⟩ := h
          · exact this.2 h.1
          · exact this.1 h.1
        | _ => exact h
theorem fz_sl {O Z0 Z1 : Nat → Prop} {φ : Nat → Value} {w : World} {H0 H1 : Heap} (h0 : SimH C O Z0 φ H0 w) (hz0 : ∀ b, Z0 b → Z1 b) {k off len e n : Nat} {t : TypeId} {f : Nat → Nat → PV} {ups : List Nat} (hk0 : H0[k]? = some (some (.arr e t n f ups))) (hg : ∀ b, own? (φ k) = some b → Z1 b) {u : Value} (hu : RepC w Z0 H0 φ (.sl k off len) u) : RepC w Z1 H1 φ (fzC H0 (.sl k off len)) u := by
  simp only [fzC, hk0, RepC]
  obtain ⟨a, cap, rfl, hlc, hpos⟩ := arr_cells h0 hk0 hu
  rcases Nat.eq_zero_or_pos len with hz0' | hp
  · subst hz0'
    exact .isl0 _ _ _ _
  · obtain ⟨b, rfl, hown, hcell⟩ := hpos hp
    exact isl_mk (hg b hown) hlc fun i j hi hj => let ⟨v, h1, h2⟩ := hcell i j hi hj; ⟨v, h1, h2.keep hz0 fun _ _ => rfl⟩
theorem frz_all {O : Nat → Prop} {φ : Nat → Value} {w : World} {H0 : Heap} {Z0 : Nat → Prop} (h0 : SimH C O Z0 φ H0 w) : ∀ {cs : List CV} {ks : List Nat} {H H1 : Heap} {Z : Nat → Prop}, frzH H0 ks H cs = some H1 → (∀ k ∈ ks, ∀ b, own? (φ k) = some b → Z b) → SimH C O Z φ H w → (∀ b, Z0 b → Z b) → Tra w w Z0 Z H0 H φ φ → (∀ (q : Nat) (b : Blk), H[q]? = some (some b) → H0[q]? = some (some b)) →
    ∃ Z1, (∀ b, Z b → Z1 b) ∧ (∀ b, Z1 b → Z b ∨ O b) ∧ SimH C O Z1 φ H1 w ∧ Tra w w Z Z1 H H1 φ φ ∧ ∀ c ∈ cs, ∀ u, RepC w Z0 H0 φ c u → RepC w Z1 H1 φ (fzC H0 c) u
  | [], ks, H, H1, Z, h, hks, hs, hz, hT, hsub => by
    simp only [frzH, Option.some.injEq] at h
    subst h
    exact ⟨Z, fun _ h => h, fun _ h => .inl h, hs, Tra.refl _ _ _ _, fun c hc => by cases hc⟩
  | c :: l, ks, H, H1, Z, h, hks, hs, hz, hT, hsub => by
    have keep : (∀ k off len, c = .sl k off len → ∀ e t n f ups, H0[k]? ≠ some (some (.arr e t n f ups))) → frzH H0 ks H l = some H1 → ∃ Z1, (∀ b, Z b → Z1 b) ∧ (∀ b, Z1 b → Z b ∨ O b) ∧ SimH C O Z1 φ H1 w ∧ Tra w w Z Z1 H H1 φ φ ∧ ∀ c' ∈ c :: l, ∀ u, RepC w Z0 H0 φ c' u → RepC w Z1 H1 φ (fzC H0 c') u := fun hno hr => by
      obtain ⟨Z1, i1, i2, i3, i4, i5⟩ := frz_all h0 hr hks hs hz hT hsub
      refine ⟨Z1, i1, i2, i3, i4, fun c' hc' u hu => ?_⟩
      rcases List.mem_cons.1 hc' with rfl | hc'
      · have : fzC H0 c' = c' := by
          cases c' with
          | sl k off len =>
            simp only [fzC]
            split
            · rename_i hk
              exact absurd hk (hno k off len rfl _ _ _ _ _)
            · rfl
          | _ => rfl
        rw [this]
        exact i4.2 _ _ (hT.2 _ _ hu)
      · exact i5 c' hc' u hu
    simp only [frzH] at h
    split at h
    · rename_i k off len
      split at h
      · rename_i e t n f ups hk
        obtain ⟨S1, T1, sub1⟩ := freeze_one hs hk
        obtain ⟨Z1, i1, i2, i3, i4, i5⟩ := frz_all h0 h (fun k' hk' b hb => by
          rcases List.mem_cons.1 hk' with rfl | hk'
          · exact .inr hb
          · exact .inl (hks k' hk' b hb)) S1 (fun b hb => .inl (hz b hb)) (hT.trans T1) (fun q b hq => hsub q b (sub1 q b hq))
        refine ⟨Z1, fun b hb => i1 b (.inl hb), fun b hb => ?_, i3, T1.trans i4, fun c' hc' u hu => ?_⟩
        · rcases i2 b hb with h | h
          · rcases h with h | h
            · exact .inl h
            · exact .inr (hs.own k _ b hk h)
          · exact .inr h
        · rcases List.mem_cons.1 hc' with rfl | hc'
          · exact fz_sl h0 (fun b hb => i1 b (.inl (hz b hb))) (hsub k _ hk) (fun b hb => i1 b (.inr hb)) hu
          · exact i5 c' hc' u hu
      · rename_i hno
        split at h
        · rename_i hk0
          split at h
          · rename_i hm
            obtain ⟨Z1, i1, i2, i3, i4, i5⟩ := frz_all h0 h hks hs hz hT hsub
            refine ⟨Z1, i1, i2, i3, i4, fun c' hc' u hu => ?_⟩
            rcases List.mem_cons.1 hc' with rfl | hc'
            · exact fz_sl h0 (fun b hb => i1 b (hz b hb)) hk0 (fun b hb => i1 b (hks k (memB_spec.1 hm) b hb)) hu
            · exact i5 c' hc' u hu
          · cases h
        · rename_i hno0
          exact keep (fun k' off' len' he e t n f ups hk => by cases he; exact hno0 _ _ _ _ _ hk) h
    · rename_i hno
      exact keep (fun k off len he => absurd he (hno k off len)) h
def OpGoalZ (C : Cfg) (o : Oper) (H : Heap) (ev : Opd → AV) (v : AV) (H' : Heap) : Prop :=
  ∀ (O : Nat → Prop) (Z : Nat → Prop) (φ : Nat → Value) (a : Act) (w : World), SimH C O Z φ H w → (∀ b, w.heap.size ≤ b → O b) → OpdRep w Z H φ ev a o.op.operands →
    ∀ (F : Fence) (n : Nat), WF F → ∀ (next : Act → World → Prop) (Q : Exit → Act → World → Prop),
      (∀ (u : Value) (w' : World) (Z' : Nat → Prop) (φ' : Nat → Value), SimH C O Z' φ' H' w' → Keeps O w w' → (∀ b, Z b → Z' b) → (∀ b, Z' b → Z b ∨ O b) → (∀ b, Z b → w'.heap[b]? = w.heap[b]?) → RepA w' Z' H' φ' v u → Tra w w' Z Z' H H' φ φ' → next (a.put o.dst u) w') → o.wpIn F n C.P a w next Q
theorem cellsO_mem {xs : List Opd} {X : Opd} {q : List CV} {c : CV} (hX : X ∈ xs) (hq : cellsA (ev X) = some q) (hc : c ∈ q) : c ∈ cellsO ev xs := by
  induction xs with
  | nil => cases hX
  | cons Y l ih =>
    simp only [cellsO]
    rcases List.mem_cons.1 hX with rfl | hX
    · rw [hq]
      exact List.mem_append_left _ hc
    · split
      · exact List.mem_append_right _ (ih hX)
      · exact ih hX
theorem compPs_mem {place : Nat → Option (Nat × Nat)} : ∀ {l : List (Nat × Operand)} {qs : List (Nat × Nat × Opd)}, compPs place l = some qs → ∀ (p : Nat × Operand) (X : Opd), p ∈ l → compX p.2 = some X → X ∈ qs.map fun p => p.2.2
  | [], qs, h, p, X, hp, _ => by cases hp
  | (i, x) :: l, qs, h, p, X, hp, hX => by
    simp only [compPs] at h
    split at h
    · rename_i off n Y q h1 h2 h3
      cases h
      rcases List.mem_cons.1 hp with rfl | hp
      · rw [h2] at hX
        cases hX
        simp
      · simp only [List.map_cons]
        exact List.mem_cons_of_mem _ (compPs_mem h3 p X hp hX)
    · cases h
theorem wants_opds {o : Oper} {m : OM} (hc : compM C.P o = some m) (hw : wantsF ev m = true) : ∀ x ∈ o.op.operands, ∀ X, compX x = some X → X ∈ opdsM m := by
  intro x hx X hX
  cases m with
  | bsl e n t z ps =>
    unfold compM at hc
    split at hc
    all_goals first
      | (rename_i t' len ps' ho
         split at hc
         · split at hc
           · split at hc
             · simp only [Option.map_eq_some_iff] at hc
               obtain ⟨qs, hqs, he⟩ := hc
               cases he
               rw [ho] at hx
               simp only [Op.operands, List.mem_toArray, List.mem_map, Array.mem_map] at hx
               obtain ⟨p, hp, rfl⟩ := hx
               simp only [opdsM]
               exact compPs_mem hqs p X (by simpa using hp) hX
             · cases hc
           · cases hc
         · cases hc)
      | (exfalso; repeat' (split at hc)); all_goals simp at hc
  | store n a v =>
    unfold compM at hc
    split at hc
    all_goals first
      | (rename_i t' a' v' ho
         split at hc
         · rename_i h1 h2 h3
           simp only [Option.some.injEq, OM.store.injEq] at hc
           obtain ⟨rfl, rfl, rfl⟩ := hc
           rw [ho] at hx
           simp only [Op.operands, List.mem_toArray, List.mem_cons, List.not_mem_nil, or_false, Array.mem_toArray] at hx
           simp only [opdsM]
           rcases hx with rfl | rfl
           · rw [h2] at hX; cases hX; simp
           · rw [h3] at hX; cases hX; simp
         · cases hc)
      | (exfalso; repeat' (split at hc)); all_goals simp at hc
  | _ => cases hw
theorem opMz_sound {o : Oper} {m : OM} (hc : compM C.P o = some m) {K : AV → Heap → VC} (h : (opMz H ev m K).holds) : ∃ v H', (K v H').holds ∧ OpGoalZ C o H ev v H' := by
  have plain : (opM H ev m K).holds → ∃ v H', (K v H').holds ∧ OpGoalZ C o H ev v H' := fun h => by
    obtain ⟨v, H', hK, hgoal⟩ := opM_sound hc h
    exact ⟨v, H', hK, fun O Z φ a w hs hO hop F n hF next Q hn => hgoal O Z φ a w hs hO hop F n hF next Q fun u w' φ' hh hk hob hv T _ => hn u w' Z φ' hh hk (fun _ h => h) (fun _ h => .inl h) hob hv T⟩
  unfold opMz at h
  split at h
  · exact plain h
  · rename_i hw
    split at h
    · exact plain h
    · split at h
      · rename_i H1 hf
        obtain ⟨v, H', hK, hgoal⟩ := opM_sound hc h
        refine ⟨v, H', hK, fun O Z φ a w hs hO hop F n hF next Q hn => ?_⟩
        obtain ⟨Z1, i1, i2, i3, i4, i5⟩ := frz_all hs hf (fun k hk => by cases hk) hs (fun _ h => h) (Tra.refl _ _ _ _) (fun _ _ h => h)
        refine hgoal O Z1 φ a w i3 hO (fun x hx X hX => ?_) F n hF next Q fun u w' φ' hh hk hob hv T _ => hn u w' Z1 φ' hh hk i1 i2 (fun b hb => hob b (i1 b hb)) hv (i4.trans T)
        have hr := hop x hx X hX
        have hmem := wants_opds hc hw x hx X hX
        show RepA w Z1 H1 φ (fzA H (ev X)) (a.eval x)
        generalize hx' : ev X = y at hr ⊢
        cases y with
        | c c =>
          simp only [fzA, RepA] at hr ⊢
          exact i5 c (cellsO_mem hmem (by rw [hx']; rfl) (by simp)) _ hr
        | ag l =>
          simp only [fzA, RepA] at hr ⊢
          obtain ⟨us, e1, hl⟩ := hr
          refine ⟨us, e1, by simpa using hl.1, fun i c hi => ?_⟩
          rw [List.getElem?_map] at hi
          cases hli : l[i]? with
          | none => rw [hli] at hi; cases hi
          | some c0 =>
            rw [hli] at hi
            cases hi
            obtain ⟨u, hu, hr⟩ := hl.2 i c0 hli
            exact ⟨u, hu, i5 c0 (cellsO_mem hmem (by rw [hx']; rfl) (List.mem_of_getElem? hli)) u hr⟩
        | tp l => exact hr.tra i4
        | any => simp only [fzA, RepA]
      · exact False.elim h
end Go.Ab
namespace Go.Ab
open Go.RowKit
def eqB : Bool → Bool → Bool
  | true, true => true
  | false, false => true
  | true, false => false
  | false, true => false
def guardB (t : Tr) : Option (Ps × Bool) → Option Bool
  | none => some true
  | some (g, want) => match Tr.get g t with
    | .c (.p (.bool b)) => some (eqB b want)
    | .tp [] => some false
    | _ => none
def setPs : List Ps → List AV → Tr → Option Tr
  | [], [], t => some t
  | p :: ps, a :: l, t => setPs ps l (Tr.set p a t)
  | _, _, _ => none
def memT (t n : Nat) : List (TypeId × Nat) → Bool
  | [] => false
  | (t', n') :: l => match (Nat.beq t t' && Nat.beq n n') with
    | true => true
    | false => memT t n l
theorem memT_spec {t n : Nat} : ∀ {l : List (TypeId × Nat)}, memT t n l = true → (t, n) ∈ l
  | [], h => by cases h
  | (t', n') :: l, h => by
    simp only [memT] at h
    split at h
    · rename_i hb
      simp only [Bool.and_eq_true] at hb
      have e1 := Nat.eq_of_beq_eq_true hb.1
      have e2 := Nat.eq_of_beq_eq_true hb.2
      subst e1 e2
      simp
    · exact List.mem_cons_of_mem _ (memT_spec h)
def ccRun (C : Cfg) (args : List AV) (H : Heap) (K : AV → Heap → VC) : VC :=
  match args with
  | [.c (.pt k 0)] => match H[k]? with
    | some (some (.box t (a :: l))) => match memT t (l.length + 1) C.bT with
      | true => match a with
        | .p .npt => K (.tp []) (H.set k (some (.box t (.pt k 0 :: l))))
        | .pt k' 0 => match Nat.beq k k' with
          | true => K (.tp []) H
          | false => .no
        | _ => .no
      | false => .no
    | _ => .no
  | _ => .no
def callF (C : Cfg) (E : Ev) (f : FuncId) (args : List AV) (H : Heap) (K Kp : AV → Heap → VC) : VC :=
  match C.cc f with
  | true => ccRun C args H K
  | false => match C.T f with
    | some F => E H.length F.mc ⟨ofL 0 args .lf, H⟩ (endK F.rs K Kp)
    | none => .no
def callS (C : Cfg) (E : Ev) (f : FuncId) (args : List AV) (H : Heap) (K Kp : AV → Heap → VC) : VC :=
  match C.Sv f with
  | false => callF C E f args H K Kp
  | true => match viewAs H args, C.T f with
    | some args', some _ => match C.Sp f args' with
      | some (r, Hr) => .nd (FCall C f args' r Hr) (retK Hr r (args.all plainA) fun v => K v H)
      | none => callF C E f args H K Kp
    | _, _ => callF C E f args H K Kp
def rdK (k : Nat) (K : AV → Heap → VC) : KT := fun e s => match s.h[k]? with
  | some (some (.lp nt t ps a b .busy)) => match e with
    | .normal => K (vB true) (s.h.set k (some (.lp nt t ps a b .ready)))
    | .ret => K (vB false) (s.h.set k (some (.lp nt t ps a b (.done .ret))))
    | .exit i => K (vB false) (s.h.set k (some (.lp nt t ps a b (.done (.exit i)))))
    | .panic _ => .no
  | _ => .no
def rdA (E : Ev) (n0 : Nat) (k : Nat) (b0 : MC) (K : AV → Heap → VC) : KT := fun e s => match e with
  | .normal => match s.h[k]? with
    | some (some (.lp nt t ps a b .ready)) => E n0 b0 ⟨s.t, s.h.set k (some (.lp nt t ps a b .busy))⟩ (rdK k K)
    | _ => .no
  | _ => .no
def callC (C : Cfg) (E : Ev) (v : AV) (args : List AV) (H : Heap) (K Kp : AV → Heap → VC) : VC :=
  match v with
  | .c (.p (.raw (.func (.func f) us vs))) => match us.toList, vs.toList with
    | [], [] => match okFn C.P f with
      | true => callS C E f args H K Kp
      | false => .no
    | _, _ => .no
  | .c (.ref k) => match H[k]? with
    | some (some (.clo f fs cs)) => callS C E f (fs ++ args ++ cs) H K Kp
    | _ => .no
  | _ => .no
def callV (C : Cfg) (E : Ev) (v : AV) (args : List AV) (H : Heap) (K Kp : AV → Heap → VC) : VC :=
  match v with
  | .c (.ref k) => match H[k]? with
    | some (some (.lp _ t ps a b .ready)) => match setPs ps args t with
      | some t0 => E H.length a ⟨t0, H⟩ (rdA E H.length k b K)
      | none => .no
    | _ => callC C E v args H K Kp
  | _ => callC C E v args H K Kp
def opX (C : Cfg) (E : Ev) (s : St) (p : OX) (K Kp : AV → Heap → VC) : VC :=
  match p with
  | .hc f xs => callF C E f (evs (evT C.G s.t) xs) s.h K Kp
  | .vc x xs => callV C E (evT C.G s.t x) (evs (evT C.G s.t) xs) s.h K Kp
  | .pan _ => .no
def brR (v : AV) (K : AV → VC) : VC := match v with
  | .c (.p (.bool b)) => .br b (K (vB true)) (K (vB false))
  | v => K v
theorem brR_holds {v : AV} {K : AV → VC} (h : (brR v K).holds) : (K v).holds := by
  unfold brR at h
  split at h
  · rename_i b
    cases b
    · exact h
    · exact h
  · exact h
theorem brR_of {v : AV} {K : AV → VC} (h : (K v).holds) : (brR v K).holds := by
  unfold brR
  split
  · rename_i b
    cases b
    · exact h
    · exact h
  · exact h
def runOps (C : Cfg) (E : Ev) : List MOp → St → KT → VC
  | [], s, K => K .normal s
  | m :: l, s, K => match guardB s.t m.gd with
    | some true => match m.op with
      | .a p => opA C E s.h (evT C.G s.t) p fun v => brR v fun v => runOps C E l ⟨putT s.t m.dst v, s.h⟩ K
      | .m p => opMz s.h (evT C.G s.t) p fun v h => runOps C E l ⟨putT s.t m.dst v, h⟩ K
      | .x p => opX C E s p (fun v h => runOps C E l ⟨putT s.t m.dst v, h⟩ K) fun v h => K (.panic v) ⟨s.t, h⟩
    | some false => runOps C E l ⟨putT s.t m.dst (.tp []), s.h⟩ K
    | none => .no
def killT (ds : List Ps) (t : Tr) : Tr := ds.foldl (fun t d => Tr.set d .any t) t
def maskH (base : Nat) : List Nat → Heap → Heap
  | [], H => H
  | r :: l, H => maskH base l (H.set (base + r) (some .unb))
def blkOf : AV → Option Nat
  | .c (.pt k _) => some k
  | .c (.pe k _ _) => some k
  | _ => none
def maskW (t : Tr) : List Ps → Heap → Heap
  | [], H => H
  | p :: l, H => maskW t l (match blkOf (Tr.get p t) with | some k => H.set k (some .unb) | none => H)
def relab (k : Nat) : AV → AV
  | .c (.pt _ o) => .c (.pt k o)
  | .c (.sl _ o n) => .c (.sl k o n)
  | .c (.ref _) => .c (.ref k)
  | v => v
def refill (k : Nat) (h : Heap) : Heap := match h.getLast? with
  | some b => h.dropLast.set k b
  | none => h
def shC (s : Nat) : CV → CV
  | .sl k o n => .sl (s + k) o n
  | c => c
def shA (s : Nat) : AV → AV
  | .c c => .c (shC s c)
  | .ag l => .ag (l.map (shC s))
  | v => v
def okXC : CV → Bool
  | .p _ => true
  | .sl k _ _ => Nat.ble k 1
  | _ => false
def okXA : AV → Bool
  | .c c => okXC c
  | .ag l => l.all okXC
  | _ => false
def okXH : Heap → Bool
  | [some (.arr _ _ _ _ []), some (.arr _ _ _ _ [])] => true
  | _ => false
def setX (k : Nat) (Hr : Heap) (H : Heap) : Heap := match Hr with
  | [b0, b1] => (H.set k b0).set (k + 1) b1
  | _ => H
def xOf (C : Cfg) (f : FuncId) (as : List AV) : Option (List AV × AV × Heap) := match as.all plainA with
  | true => match viewAs [] as, C.T f with
    | some args, some _ => match C.Sp f args with
      | some (v, Hr) => match okXA v with
        | true => match okXH Hr with
          | true => some (args, v, Hr)
          | false => none
        | false => none
      | none => none
    | _, _ => none
  | false => none
def runD (C : Cfg) (E : Ev) (base : Nat) : List DOp → St → (St → VC) → VC
  | [], s, K => K s
  | d :: l, s, K => match guardB s.t d.m.gd with
    | some true => match d.m.op with
      | .a p => opA C E (maskW s.t d.wm (maskH base d.mask s.h)) (evT C.G s.t) p fun v => brR v fun v => runD C E base l ⟨putT s.t d.m.dst v, s.h⟩ K
      | .m p => match d.slots with
        | [r] => opM s.h (evT C.G s.t) p fun v h => runD C E base l ⟨putT s.t d.m.dst (relab (base + r) v), refill (base + r) h⟩ K
        | [] => opM s.h (evT C.G s.t) p fun v h => runD C E base l ⟨putT s.t d.m.dst v, h⟩ K
        | _ => .no
      | .x (.hc f xs) => match d.slots with
        | [r, _] => match xOf C f (evs (evT C.G s.t) xs) with
          | some (args, v, Hr) => .nd (FCall C f args v Hr) (runD C E base l ⟨putT s.t d.m.dst (shA (base + r) v), setX (base + r) Hr s.h⟩ K)
          | none => .no
        | _ => .no
      | .x _ => .no
    | some false => runD C E base l ⟨putT s.t d.m.dst (.tp []), s.h⟩ K
    | none => .no
def WP' (v v' : PV) : Prop :=
  v = v' ∨ match v, v' with
  | .isl e n f, .isl e' n' f' => e = e' ∧ n = n' ∧ ∀ i j, i < n → j < e → f i j = f' i j
  | .nsl, .isl _ 0 _ => True
  | .ipt n f, .ipt n' f' => n = n' ∧ ∀ j, j < n → f j = f' j
  | _, _ => False
def WC (ρ : List (Option Nat)) (c c' : CV) : Prop :=
  match c' with
  | .unk => True
  | .p v' => match c with
    | .p v => WP' v v'
    | _ => False
  | .sl k' off' len' => match c with
    | .sl k off len => ρ[k']? = some (some k) ∧ off = off' ∧ len = len'
    | .p .nsl => ρ[k']? = some none ∧ off' = 0 ∧ len' = 0
    | _ => False
  | .pt k' o' => match c with
    | .pt k o => ρ[k']? = some (some k) ∧ o = o'
    | _ => False
  | .pe k' i' j' => match c with
    | .pe k i j => ρ[k']? = some (some k) ∧ i = i' ∧ j = j'
    | _ => False
  | .ref k' => match c with
    | .ref k => ρ[k']? = some (some k)
    | _ => False
def WL (ρ : List (Option Nat)) : List CV → List CV → Prop
  | [], [] => True
  | c :: l, c' :: l' => WC ρ c c' ∧ WL ρ l l'
  | _, _ => False
mutual
def WA (ρ : List (Option Nat)) : AV → AV → Prop
  | _, .any => True
  | .c c, .c c' => WC ρ c c'
  | .ag l, .ag l' => WL ρ l l'
  | .tp l, .tp l' => WAs ρ l l'
  | _, _ => False
def WAs (ρ : List (Option Nat)) : List AV → List AV → Prop
  | [], [] => True
  | a :: l, a' :: l' => WA ρ a a' ∧ WAs ρ l l'
  | _, _ => False
end
def WT (ρ : List (Option Nat)) : Tr → Tr → Prop
  | _, .lf => True
  | .nd l v r, .nd l' v' r' => WT ρ l l' ∧ WA ρ v v' ∧ WT ρ r r'
  | .lf, .nd l' v' r' => WT ρ .lf l' ∧ WA ρ .any v' ∧ WT ρ .lf r'
def upsB (ups ups' : List Nat) : Nat → List (Option Nat) → Bool
  | _, [] => true
  | k, none :: ρ => upsB ups ups' (k + 1) ρ
  | k, some p :: ρ => match memB p ups with
    | true => match memB k ups' with
      | true => upsB ups ups' (k + 1) ρ
      | false => false
    | false => upsB ups ups' (k + 1) ρ
def WB (ρ : List (Option Nat)) (b b' : Blk) : Prop :=
  match b, b' with
  | .arr e t n f ups, .arr e' t' n' f' ups' => e = e' ∧ t = t' ∧ n = n' ∧ (∀ i j, i < n → j < e → f i j = f' i j) ∧ upsB ups ups' 0 ρ = true
  | .box t l, .box t' l' => t = t' ∧ WL ρ l l'
  | .clo f fs cs, .clo f' fs' cs' => f = f' ∧ WAs ρ fs fs' ∧ WAs ρ cs cs'
  | .lp nt t ps a b st, .lp nt' t' ps' a' b' st' => nt = nt' ∧ ps = ps' ∧ a = a' ∧ b = b' ∧ st = st' ∧ WT ρ t t'
  | .mp l, .mpi f' => l = [] ∧ ∀ x, f' x = 0
  | .mpi f, .mpi f' => ∀ x, f x = f' x
  | .sit l p, .sit l' p' => l = l' ∧ p = p'
  | .mpp _, .mpp _ => False
  | _, _ => False
def WH (H : Heap) (ρ : List (Option Nat)) : List (Option Nat) → Heap → Prop
  | [], [] => True
  | r :: rs, b' :: H' => (match b' with
    | none => True
    | some b' => match r with
      | none => match b' with
        | .arr _ _ n _ _ => n = 0
        | _ => False
      | some k => match H[k]? with
        | some (some b) => WB ρ b b'
        | _ => False) ∧ WH H ρ rs H'
  | _, _ => False
def nodupB : List (Option Nat) → Bool
  | [] => true
  | none :: l => nodupB l
  | some k :: l => !l.contains (some k) && nodupB l
def stillB (ρ : List (Option Nat)) (H' : Heap) : Nat → Bool
  | 0 => true
  | k + 1 => match H'[k]? with
    | some (some _) => match ρ[k]? with
      | some (some q) => match Nat.beq q k with
        | true => stillB ρ H' k
        | false => false
      | _ => false
    | some none => stillB ρ H' k
    | none => false
def WeakR (n0 : Nat) (ρ : List (Option Nat)) (s s' : St) : Prop := nodupB ρ = true ∧ stillB ρ s'.h n0 = true ∧ WT ρ s.t s'.t ∧ WH s.h ρ ρ s'.h
def Weak (n0 : Nat) (s s' : St) : Prop := ∃ ρ, WeakR n0 ρ s s'
def Fgt (s s' : St) : Prop := s'.h = s.h ∧ ∀ p, Tr.get p s'.t = .any ∨ Tr.get p s'.t = Tr.get p s.t
def LkP (v v' : PV) : Prop := ∀ (w : World) (Z : Nat → Prop) (u : Value), RepP w Z v u → RepP w Z v' u
def LkA (a a' : AV) : Prop := a = a' ∨ ∃ v v', a = .c (.p v) ∧ a' = .c (.p v') ∧ LkP v v'
def LkB (b b' : Option Blk) : Prop := b = b' ∨ ∃ e t n f f' ups, b = some (.arr e t n f ups) ∧ b' = some (.arr e t n f' ups) ∧ ∀ i j, i < n → j < e → LkP (f i j) (f' i j)
def Alk (s s' : St) : Prop := s.h.length = s'.h.length ∧ (∀ (k : Nat) (b b' : Option Blk), s.h[k]? = some b → s'.h[k]? = some b' → LkB b b') ∧ ∀ p, LkA (Tr.get p s.t) (Tr.get p s'.t)
def FrzS (s s' : St) : Prop := ∃ (k e : Nat) (t : TypeId) (n : Nat) (f : Nat → Nat → PV) (ups : List Nat), s.h[k]? = some (some (.arr e t n f ups)) ∧ s'.h = (killR k ups 0 s.h).set k none ∧
  ∀ p, Tr.get p s'.t = .any ∨ Tr.get p s'.t = Tr.get p s.t ∨ ∃ off len v', Tr.get p s.t = .c (.sl k off len) ∧ Tr.get p s'.t = .c (.p v') ∧ LkP (.isl e len fun i j => f (off + i) j) v'
def Wk (n0 : Nat) (s s' : St) : Prop := s = s' ∨ Weak n0 s s' ∨ Fgt s s' ∨ (∃ s1, Weak n0 s s1 ∧ Alk s1 s') ∨ ∃ s1, Weak n0 s s1 ∧ FrzS s1 s'
def UpR (n0 : Nat) (e : AX) (s s' : St) : Prop := match e with
  | .panic _ => Fgt s s'
  | _ => Wk n0 s s'
def upK (n0 : Nat) (K : KT) : KT := fun e s => .pr (∃ s', UpR n0 e s s' ∧ (K e s').holds)
def lpX (X : St → Prop) (K : KT) : KT := fun e s => match e with
  | .normal => .pr (X s)
  | e => K e s
def Iter (n0 : Nat) (step : St → KT → VC) (K : KT) (s : St) : Prop :=
  ∀ X : St → Prop, (∀ s s', Wk n0 s s' → (step s' (lpX X K)).holds → X s) → X s
def LoopGo (E : Ev) (n0 : Nat) (a : MC) (s : St) (L : LTree) : Prop := ∀ K : KT, (L.run K).holds → Iter n0 (E n0 a) (upK n0 K) s
def sqK (E : Ev) (n0 : Nat) (b : MC) (K : KT) : KT := fun e s => match e with
  | .normal => E n0 b s K
  | e => K e s
def bkK (id : Nat) (K : KT) : KT := fun e s => match e with
  | .exit i => match Nat.beq i id with
    | true => K .normal s
    | false => K (.exit i) s
  | e => K e s
def lpK (E : Ev) (n0 : Nat) (a : MC) (K : KT) : KT := fun e s => match e with
  | .normal => E n0 (.loop a) s K
  | e => K e s
def rfK (k : Nat) (t : Tr) (K : KT) (h : Heap) : VC := match h[k]? with
  | some (some (.lp _ _ _ _ _ st)) => match st with
    | .ready => K .normal ⟨t, h.set k none⟩
    | .done .ret => K .ret ⟨t, h.set k none⟩
    | .done (.exit i) => K (.exit i) ⟨t, h.set k none⟩
    | .busy => .no
  | _ => .no
def BrP (b : Bool) (t e : Prop) : Prop := match b with | true => t | false => e
theorem brP {b : Bool} {t e : Prop} (h1 : b = true → t) (h2 : b = false → e) : BrP b t e := by cases b; exact h2 rfl; exact h1 rfl
def CdP (c : Cd) (k : Prop) : Prop := match c.dec with | true => k | false => c.holds ∧ k
theorem cdP {c : Cd} {k : Prop} (h1 : c.holds) (h2 : k) : CdP c k := by
  unfold CdP
  split
  · exact h2
  · exact ⟨h1, h2⟩
def VC.hold2 : VC → Prop
  | .cd c k => CdP c k.hold2
  | .br b t u => BrP b t.hold2 u.hold2
  | .nd p k => p ∧ k.hold2
  | .pr p => p
  | .no => False
theorem hold2_holds : ∀ {v : VC}, v.hold2 → v.holds
  | .cd c k, h => by
    have h : CdP c k.hold2 := h
    unfold CdP at h
    split at h
    · rename_i hd
      exact ⟨Cd.dec_spec hd, hold2_holds h⟩
    · exact ⟨h.1, hold2_holds h.2⟩
  | .br b t u, h => by
    cases b
    · exact hold2_holds (v := u) h
    · exact hold2_holds (v := t) h
  | .nd p k, h => ⟨h.1, hold2_holds h.2⟩
  | .pr p, h => h
  | .no, h => h
def exB (C : Cfg) (E : Ev) : Ev := fun n0 m s K => match m with
  | .kill ds => K .normal ⟨killT ds s.t, s.h⟩
  | .skip => K .normal s
  | .ret => K .ret s
  | .exit id => K (.exit id) s
  | .reg l => runOps C E l s K
  | .drw tot l ml => runD C E s.h.length l ⟨s.t, s.h ++ List.replicate tot (some .unb)⟩ fun s => runOps C E ml s K
  | .drw2 tot p u v l ml => runD C E s.h.length p ⟨s.t, s.h ++ List.replicate tot (some .unb)⟩ fun sP => runD C E s.h.length [u, v] sP fun s1 => .nd (runD C E s.h.length [v, u] sP fun s2 => .pr (s2 = s1)).hold2 (runD C E s.h.length l s1 fun s => runOps C E ml s K)
  | .seq a b => E n0 a s (sqK E n0 b K)
  | .cond x a b => match evT C.G s.t x with
    | .c (.p (.bool t)) => .br t (E n0 a s K) (E n0 b s K)
    | _ => .no
  | .block id a => E n0 a s (bkK id K)
  | .loop a => match C.ur with
    | true => E n0 a s (lpK E n0 a K)
    | false => match C.Lp n0 a s with
      | some L => .nd (LoopGo E n0 a s L) (L.run K)
      | none => E n0 a s (lpK E n0 a K)
  | .rf nt x ps a b => callC C E (evT C.G s.t x) [.c (.ref s.h.length)] (s.h ++ [some (.lp nt s.t ps a b .ready)]) (fun _ h => rfK s.h.length s.t K h) fun v h => K (.panic v) ⟨s.t, h⟩
def ex (C : Cfg) (f : Nat) : Ev := Nat.rec (fun _ _ _ _ => .no) (fun _ E => exB C E) f
def Det {α : Type} (f : (α → VC) → VC) : Prop := ∀ K, (f K).holds → ∃ v, (K v).holds ∧ ∀ K', (K' v).holds → (f K').holds
theorem Det.k {α : Type} (v : α) : Det fun K : α → VC => K v := fun K h => ⟨v, h, fun _ h => h⟩
theorem Det.no {α : Type} : Det fun _ : α → VC => VC.no := fun K h => False.elim h
theorem Det.cd {α : Type} {c : Cd} {f : (α → VC) → VC} (hf : Det f) : Det fun K => .cd c (f K) := fun K h =>
  let ⟨v, h1, h2⟩ := hf K h.2; ⟨v, h1, fun K' h' => ⟨h.1, h2 K' h'⟩⟩
theorem Det.nd {α : Type} {c : Prop} {f : (α → VC) → VC} (hf : Det f) : Det fun K => .nd c (f K) := fun K h =>
  let ⟨v, h1, h2⟩ := hf K h.2; ⟨v, h1, fun K' h' => ⟨h.1, h2 K' h'⟩⟩
theorem Det.br {α : Type} {b : Bool} {f g : (α → VC) → VC} (hf : Det f) (hg : Det g) : Det fun K => .br b (f K) (g K) := fun K h => by
  cases b
  · exact hg K h
  · exact hf K h
theorem Det.bind {α β : Type} {f : (α → VC) → VC} {g : α → (β → VC) → VC} (hf : Det f) (hg : ∀ a, Det (g a)) : Det fun K => f fun a => g a K := fun K h => by
  obtain ⟨v, h1, h2⟩ := hf _ h
  obtain ⟨u, h3, h4⟩ := hg v K h1
  exact ⟨u, h3, fun K' h' => h2 _ (h4 K' h')⟩
theorem Det.kB (b : Bool) : Det fun K => kB b K := .br (.k _) (.k _)
theorem Det.wr (k : IntKind) (n : Int) : Det fun K : Int → VC => wr k n K := by
  cases k <;> first | exact .k _ | exact .cd (.k _)
theorem Det.wrI (k k' : IntKind) (n : Int) : Det fun K : AV → VC => Go.Ab.wr k n fun m => K (vI k' m) := .bind (.wr k n) fun m => .k _
def Det2 (f : (AV → Heap → VC) → (AV → Heap → VC) → VC) : Prop := ∀ K Kp, (f K Kp).holds → ∃ v h, ((K v h).holds ∧ ∀ K' Kp', (K' v h).holds → (f K' Kp').holds) ∨ ((Kp v h).holds ∧ ∀ K' Kp', (Kp' v h).holds → (f K' Kp').holds)
def DetE (E : Ev) : Prop := ∀ n0 m s, ∀ K : KT, (E n0 m s K).holds → ∃ e s', (K e s').holds ∧ ∀ K' : KT, (K' e s').holds → (E n0 m s K').holds
theorem Det.binI (op : BinOp) (k : IntKind) (a b : Int) : Det fun K => binI op k a b K := by
  cases op <;> simp only [Go.Ab.binI] <;> first | exact .wrI _ _ _ | exact .cd (.wrI _ _ _) | exact .cd (.k _) | exact .k _ | exact .kB _ | exact .no
theorem Det.shI (op : BinOp) (k : IntKind) (a b : Int) : Det fun K => shI op k a b K := by
  unfold Go.Ab.shI
  cases op <;> exact .cd (.k _)
theorem Det.strI (op : BinOp) (a b : List UInt8) : Det fun K => strI op a b K := by
  cases op <;> simp only [Go.Ab.strI] <;> first | exact .cd (.k _) | exact .kB _ | exact .no
theorem Det.binA (op : BinOp) (x y : AV) : Det fun K => binA op x y K := by
  unfold Go.Ab.binA
  split
  · split
    · exact .shI _ _ _ _
    · exact .shI _ _ _ _
    · split
      · exact .binI _ _ _ _
      · exact .no
  · exact .strI _ _ _
  · exact .no
theorem Det.cutL (l : List CV) (off : Nat) (sz : Option Nat) : Det fun K => cutL l off sz K := by
  unfold Go.Ab.cutL
  split
  · split
    · exact .k _
    · exact .no
  · exact .cd (.k _)
theorem Det.retK (Hr : Heap) (r : AV) (pl : Bool) : Det fun K => retK Hr r pl K := by
  unfold Go.Ab.retK
  split
  · split
    · exact .k _
    · exact .cd (.k _)
  · exact .no
theorem det_end {E : Ev} (hE : DetE E) (n0 : Nat) (m : MC) (s : St) (rs : List RV) : Det2 fun K Kp => E n0 m s (endK rs K Kp) := by
  intro K Kp h
  obtain ⟨e, s', h1, h2⟩ := hE n0 m s _ h
  cases e with
  | normal =>
    simp only [endK] at h1
    split at h1
    · rename_i r hr
      exact ⟨r, s'.h, .inl ⟨h1, fun K' Kp' h' => h2 _ (by simp only [endK, hr]; exact h')⟩⟩
    · exact False.elim h1
  | ret =>
    simp only [endK] at h1
    split at h1
    · rename_i r hr
      exact ⟨r, s'.h, .inl ⟨h1, fun K' Kp' h' => h2 _ (by simp only [endK, hr]; exact h')⟩⟩
    · exact False.elim h1
  | panic v => exact ⟨v, s'.h, .inr ⟨h1, fun K' Kp' h' => h2 _ h'⟩⟩
  | exit i => exact False.elim h1
theorem det_opA {C : Cfg} {E : Ev} (hE : DetE E) (H : Heap) (ev : Opd → AV) (m : OP) : Det fun K => opA C E H ev m K := by
  cases m <;> simp only [opA]
  case mv => exact .k _
  case pick => split <;> first | exact .br (.k _) (.k _) | exact .no
  case load =>
    split
    · split <;> exact .cd (.k _)
    · split <;> first | exact .cutL _ _ _ | exact .no
    · split
      · split <;> exact .cd (.cd (.k _))
      · exact .no
    · exact .no
  case fadr => split <;> (try split) <;> first | exact .k _ | exact .no
  case iadr =>
    split
    · refine .cd ?_
      split <;> first | exact .k _ | exact .no
    · split
      · refine .cd ?_
        split <;> first | exact .k _ | exact .no
      · exact .no
    · exact .no
  case iada =>
    split
    · exact .cd (.k _)
    · split <;> first | exact .cd (.k _) | exact .no
    · exact .no
  case fld => split <;> first | exact .cutL _ _ _ | exact .no
  case idx => split <;> first | exact .cd (.cutL _ _ _) | exact .no
  case sidx => split <;> first | exact .cd (.k _) | exact .no
  case nilck => split <;> (try split) <;> first | exact .k _ | exact .no
  case bin => exact .binA _ _ _
  case un => split <;> first | exact .kB _ | exact .wrI _ _ _ | exact .no
  case cvi => split <;> first | exact .wrI _ _ _ | exact .no
  case ext => split <;> (try split) <;> first | exact .k _ | exact .no
  case len => split <;> (try split) <;> first | exact .k _ | exact .no
  case call f xs =>
    split
    · split
      · split
        · exact .retK _ _ _
        · exact .no
      · split
        · exact .nd (.retK _ _ _)
        · split
          · rename_i F _
            intro K h
            obtain ⟨v, h', h1⟩ := det_end hE 0 F.mc _ F.rs _ _ h
            rcases h1 with ⟨h1, h2⟩ | ⟨h1, h2⟩
            · obtain ⟨u, h3, h4⟩ := Det.retK _ _ _ _ h1
              exact ⟨u, h3, fun K' hK => h2 _ _ (h4 K' hK)⟩
            · exact False.elim h1
          · exact .no
    · exact .no
  case build => split <;> first | exact .k _ | exact .no
  case beq => split <;> split <;> (try split) <;> (try split) <;> first | exact .kB _ | exact .no
  case sls => split <;> (try split) <;> first | exact .cd (.k _) | exact .no
  case slx =>
    split
    · split
      · refine .cd ?_
        split <;> first | exact .k _ | exact .no
      · exact .no
    · split
      · split
        · refine .cd ?_
          split <;> first | exact .k _ | exact .no
        · exact .no
      · exact .no
    · exact .no
  case mm => split <;> first | exact .k _ | exact .no
  case nln => split <;> (try split) <;> first | exact .k _ | exact .cd (.k _) | exact .no
  case sdata => split <;> (try split) <;> first | exact .k _ | exact .cd (.k _) | exact .no
  case mif => exact .k _
  case bslp => split <;> (try split) <;> first | exact .k _ | exact .no
  case mget => split <;> (try split) <;> (try split) <;> (try split) <;> (try split) <;> first | exact .k _ | exact .no
def DetM (f : (AV → Heap → VC) → VC) : Prop := ∀ K, (f K).holds → ∃ v h, (K v h).holds ∧ ∀ K', (K' v h).holds → (f K').holds
theorem DetM.k (v : AV) (h : Heap) : DetM fun K => K v h := fun K hh => ⟨v, h, hh, fun _ h => h⟩
theorem DetM.no : DetM fun _ => VC.no := fun K h => False.elim h
theorem DetM.cd {c : Cd} {f : (AV → Heap → VC) → VC} (hf : DetM f) : DetM fun K => .cd c (f K) := fun K h =>
  let ⟨v, h', h1, h2⟩ := hf K h.2; ⟨v, h', h1, fun K' hK => ⟨h.1, h2 K' hK⟩⟩
theorem det_opM (H : Heap) (ev : Opd → AV) (m : OM) : DetM fun K => opM H ev m K := by
  cases m <;> simp only [opM]
  case alloc => exact .k _ _
  case box => split <;> first | exact .k _ _ | exact .no
  case store =>
    split
    · split
      · split <;> first | exact .cd (.k _ _) | exact .no
      · exact .no
    · split
      · split <;> first | exact .cd (.cd (.k _ _)) | exact .no
      · exact .no
    · exact .no
  case app =>
    split
    · split
      · exact .cd (.k _ _)
      · split
        · split <;> first | exact .cd (.cd (.cd (.k _ _))) | exact .no
        · exact .no
      · exact .no
    · exact .no
  case bsl => split <;> (try split) <;> first | exact .k _ _ | exact .no
  case mks => split <;> first | exact .cd (.cd (.k _ _)) | exact .no
  case clo => exact .k _ _
  case aps =>
    split
    · split
      · exact .cd (.k _ _)
      · split
        · split <;> first | exact .cd (.cd (.cd (.k _ _))) | exact .no
        · exact .no
      · exact .no
    · exact .no
  case bstr =>
    split
    · split
      · split
        · exact .k _ _
        · split
          · split
            · split
              · exact .cd (.cd (.k _ _))
              · exact .no
            · exact .no
          · exact .no
        · exact .no
      · exact .no
    · exact .no
  case ustr =>
    split
    · exact .k _ _
    · split
      · split
        · split
          · exact .cd (.cd (.k _ _))
          · exact .no
        · exact .no
      · exact .no
    · exact .no
  case cpy =>
    split
    · split
      · split <;> first | exact .cd (.k _ _) | exact .no
      · exact .no
    · exact .no
  case mkm => exact .k _ _
  case mset =>
    split
    · split
      · split
        · split <;> first | exact .k _ _ | exact .no
        · exact .no
      · split <;> first | exact .k _ _ | exact .no
      · exact .no
    · exact .no
  case rng => split <;> first | exact .k _ _ | exact .no
  case nxs =>
    split
    · split
      · split <;> exact .k _ _
      · exact .no
    · exact .no
  case frz =>
    split
    · split <;> first | exact .k _ _ | exact .no
    · exact .no
theorem det_opMz (H : Heap) (ev : Opd → AV) (m : OM) : DetM fun K => opMz H ev m K := by
  unfold opMz
  split
  · exact det_opM _ _ _
  · split
    · exact det_opM _ _ _
    · split
      · exact det_opM _ _ _
      · exact .no
theorem det_callF {C : Cfg} {E : Ev} (hE : DetE E) (f : FuncId) (args : List AV) (H : Heap) : Det2 fun K Kp => callF C E f args H K Kp := by
  unfold callF
  split
  · intro K Kp h
    unfold ccRun at h ⊢
    split at h
    · split at h
      · split at h
        · split at h
          · exact ⟨_, _, .inl ⟨h, fun K' Kp' h' => by simpa using h'⟩⟩
          · split at h
            · rename_i hb
              exact ⟨_, _, .inl ⟨h, fun K' Kp' h' => by simpa [hb] using h'⟩⟩
            · exact False.elim h
          · exact False.elim h
        · exact False.elim h
      · exact False.elim h
    · exact False.elim h
  · split
    · exact det_end hE _ _ _ _
    · exact fun K Kp h => False.elim h
theorem det_round {E : Ev} (hE : DetE E) (n0 n1 : Nat) (a b0 : MC) (s : St) (k : Nat) : DetM fun K => E n0 a s (rdA E n1 k b0 K) := by
  intro K h
  obtain ⟨e, s', h1, h2⟩ := hE n0 a s _ h
  cases e with
  | normal =>
    simp only [rdA] at h1
    split at h1
    · rename_i nt t ps a b hk
      obtain ⟨e2, s2, h3, h4⟩ := hE _ _ _ _ h1
      have key : ∀ v h', (K v h').holds → (∀ K' : AV → Heap → VC, (K' v h').holds → (rdK k K' e2 s2).holds) → ∃ v h, (K v h).holds ∧ ∀ K', (K' v h).holds → (E n0 _ s (rdA E n1 k b0 K')).holds := fun v h' hK hh =>
        ⟨v, h', hK, fun K' hK' => h2 _ (by simp only [rdA, hk]; exact h4 _ (hh K' hK'))⟩
      simp only [rdK] at h3
      split at h3
      · rename_i nt2 t2 ps2 a2 b2 hk2
        cases e2 with
        | normal => exact key _ _ h3 fun K' hK' => by simp only [rdK, hk2]; exact hK'
        | ret => exact key _ _ h3 fun K' hK' => by simp only [rdK, hk2]; exact hK'
        | exit i => exact key _ _ h3 fun K' hK' => by simp only [rdK, hk2]; exact hK'
        | panic v => exact False.elim h3
      · exact False.elim h3
    · exact False.elim h1
  | ret => exact False.elim h1
  | exit i => exact False.elim h1
  | panic v => exact False.elim h1
theorem DetM.two {f : (AV → Heap → VC) → VC} (hf : DetM f) : Det2 fun K _ => f K := fun K Kp h =>
  let ⟨v, h', h1, h2⟩ := hf K h; ⟨v, h', .inl ⟨h1, fun K' _ hK => h2 K' hK⟩⟩
theorem det_callS {C : Cfg} {E : Ev} (hE : DetE E) (f : FuncId) (args : List AV) (H : Heap) : Det2 fun K Kp => callS C E f args H K Kp := by
  unfold callS
  split
  · exact det_callF hE _ _ _
  · split
    · split
      · intro K Kp h
        obtain ⟨v, h1, h2⟩ := Det.retK _ _ _ _ h.2
        exact ⟨v, H, .inl ⟨h1, fun K' Kp' hK => ⟨h.1, h2 (fun v => K' v H) hK⟩⟩⟩
      · exact det_callF hE _ _ _
    · exact det_callF hE _ _ _
theorem det_callC {C : Cfg} {E : Ev} (hE : DetE E) (v : AV) (args : List AV) (H : Heap) : Det2 fun K Kp => callC C E v args H K Kp := by
  unfold callC
  split
  · split
    · split
      · exact det_callS hE _ _ _
      · exact fun K Kp h => False.elim h
    · exact fun K Kp h => False.elim h
  · split
    · exact det_callS hE _ _ _
    · exact fun K Kp h => False.elim h
  · exact fun K Kp h => False.elim h
theorem det_callV {C : Cfg} {E : Ev} (hE : DetE E) (v : AV) (args : List AV) (H : Heap) : Det2 fun K Kp => callV C E v args H K Kp := by
  unfold callV
  split
  · split
    · split
      · exact (det_round hE _ _ _ _ _ _).two
      · exact fun K Kp h => False.elim h
    · exact det_callC hE _ _ _
  · exact det_callC hE _ _ _
theorem det_opX {C : Cfg} {E : Ev} (hE : DetE E) (s : St) (p : OX) : Det2 fun K Kp => opX C E s p K Kp := by
  cases p with
  | hc f xs => exact det_callF hE _ _ _
  | vc x xs => exact det_callV hE _ _ _
  | pan x => exact fun K Kp h => False.elim h
theorem det_runOps {C : Cfg} {E : Ev} (hE : DetE E) : ∀ (l : List MOp) (s : St) (K : KT), (runOps C E l s K).holds → ∃ e s', (K e s').holds ∧ ∀ K' : KT, (K' e s').holds → (runOps C E l s K').holds
  | [], s, K, h => ⟨.normal, s, h, fun K' h => h⟩
  | m :: l, s, K, h => by
    rcases hg : guardB s.t m.gd with _ | _ | _
    · simp only [runOps, hg] at h
      exact False.elim h
    · simp only [runOps, hg] at h ⊢
      exact det_runOps hE l _ K h
    · cases hp : m.op with
      | a p =>
        simp only [runOps, hg, hp] at h ⊢
        obtain ⟨v, h1, h2⟩ := det_opA hE _ _ _ _ h
        obtain ⟨e, s', h3, h4⟩ := det_runOps hE l _ K (brR_holds h1)
        exact ⟨e, s', h3, fun K' h' => h2 _ (brR_of (h4 K' h'))⟩
      | m p =>
        simp only [runOps, hg, hp] at h ⊢
        obtain ⟨v, h', h1, h2⟩ := det_opMz _ _ _ _ h
        obtain ⟨e, s', h3, h4⟩ := det_runOps hE l _ K h1
        exact ⟨e, s', h3, fun K' hK => h2 _ (h4 K' hK)⟩
      | x p =>
        simp only [runOps, hg, hp] at h ⊢
        obtain ⟨v, h', h1⟩ := det_opX hE _ _ _ _ h
        rcases h1 with ⟨h1, h2⟩ | ⟨h1, h2⟩
        · obtain ⟨e, s', h3, h4⟩ := det_runOps hE l _ K h1
          exact ⟨e, s', h3, fun K' hK => h2 _ _ (h4 K' hK)⟩
        · exact ⟨_, _, h1, fun K' hK => h2 _ _ hK⟩
theorem det_runD {C : Cfg} {E : Ev} (hE : DetE E) (base : Nat) : ∀ (l : List DOp) (s : St) (K : St → VC), (runD C E base l s K).holds → ∃ s', (K s').holds ∧ ∀ K' : St → VC, (K' s').holds → (runD C E base l s K').holds
  | [], s, K, h => ⟨s, h, fun K' h => h⟩
  | d :: l, s, K, h => by
    rcases hg : guardB s.t d.m.gd with _ | _ | _
    · simp only [runD, hg] at h
      exact False.elim h
    · simp only [runD, hg] at h ⊢
      exact det_runD hE base l _ K h
    · cases hp : d.m.op with
      | a p =>
        simp only [runD, hg, hp] at h ⊢
        obtain ⟨v, h1, h2⟩ := det_opA hE _ _ _ _ h
        obtain ⟨s', h3, h4⟩ := det_runD hE base l _ K (brR_holds h1)
        exact ⟨s', h3, fun K' h' => h2 _ (brR_of (h4 K' h'))⟩
      | m p =>
        rcases hs : d.slots with _ | ⟨r, _ | ⟨r2, l2⟩⟩
        · simp only [runD, hg, hp, hs] at h ⊢
          obtain ⟨v, h', h1, h2⟩ := det_opM _ _ _ _ h
          obtain ⟨s', h3, h4⟩ := det_runD hE base l _ K h1
          exact ⟨s', h3, fun K' hK => h2 _ (h4 K' hK)⟩
        · simp only [runD, hg, hp, hs] at h ⊢
          obtain ⟨v, h', h1, h2⟩ := det_opM _ _ _ _ h
          obtain ⟨s', h3, h4⟩ := det_runD hE base l _ K h1
          exact ⟨s', h3, fun K' hK => h2 _ (h4 K' hK)⟩
        · simp only [runD, hg, hp, hs] at h
          exact False.elim h
      | x p =>
        cases p with
        | hc f xs =>
          rcases hs : d.slots with _ | ⟨r, _ | ⟨r2, _ | ⟨r3, l2⟩⟩⟩
          · simp only [runD, hg, hp, hs] at h
            exact False.elim h
          · simp only [runD, hg, hp, hs] at h
            exact False.elim h
          · rcases hx : xOf C f (evs (evT C.G s.t) xs) with _ | ⟨args, v, Hr⟩
            · simp only [runD, hg, hp, hs, hx] at h
              exact False.elim h
            · simp only [runD, hg, hp, hs, hx] at h ⊢
              obtain ⟨s', h3, h4⟩ := det_runD hE base l _ K h.2
              exact ⟨s', h3, fun K' hK => ⟨h.1, h4 K' hK⟩⟩
          · simp only [runD, hg, hp, hs] at h
            exact False.elim h
        | vc x xs =>
          simp only [runD, hg, hp] at h
          exact False.elim h
        | pan x =>
          simp only [runD, hg, hp] at h
          exact False.elim h
theorem det_iter {n0 : Nat} {step : St → KT → VC} (hs : ∀ s K, (step s K).holds → ∃ e s', (K e s').holds ∧ ∀ K' : KT, (K' e s').holds → (step s K').holds) (s : St) (K : KT) (h : Iter n0 step K s) :
    ∃ e s', (K e s').holds ∧ ∀ K' : KT, (K' e s').holds → Iter n0 step K' s := by
  refine h (fun s => ∃ e s', (K e s').holds ∧ ∀ K' : KT, (K' e s').holds → Iter n0 step K' s) fun s s1 hw h1 => ?_
  obtain ⟨e, s', h2, h3⟩ := hs _ _ h1
  cases e with
  | normal =>
    obtain ⟨e2, s2, h4, h5⟩ := h2
    exact ⟨e2, s2, h4, fun K' hK X hX => hX s s1 hw (h3 _ (h5 K' hK X hX))⟩
  | ret => exact ⟨_, _, h2, fun K' hK X hX => hX s s1 hw (h3 _ hK)⟩
  | exit i => exact ⟨_, _, h2, fun K' hK X hX => hX s s1 hw (h3 _ hK)⟩
  | panic v => exact ⟨_, _, h2, fun K' hK X hX => hX s s1 hw (h3 _ hK)⟩
theorem det_ltree : ∀ (L : LTree) (K : KT), (L.run K).holds → ∃ e s', (K e s').holds ∧ ∀ K' : KT, (K' e s').holds → (L.run K').holds
  | .e x s, K, h => ⟨x, s, h, fun K' h => h⟩
  | .br b t u, K, h => by
    cases b
    · exact det_ltree u K h
    · exact det_ltree t K h
theorem det_exB {C : Cfg} {E : Ev} (hE : DetE E) : DetE (exB C E) := by
  intro n0 m s K h
  cases m with
  | kill ds => exact ⟨_, _, h, fun K' h => h⟩
  | skip => exact ⟨_, _, h, fun K' h => h⟩
  | ret => exact ⟨_, _, h, fun K' h => h⟩
  | exit id => exact ⟨_, _, h, fun K' h => h⟩
  | reg l => exact det_runOps hE l s K h
  | drw tot l ml =>
    obtain ⟨s', h1, h2⟩ := det_runD hE _ l _ _ h
    obtain ⟨e, s2, h3, h4⟩ := det_runOps hE ml s' K h1
    exact ⟨e, s2, h3, fun K' hK => h2 _ (h4 K' hK)⟩
  | drw2 tot p u v l ml =>
    obtain ⟨sP, h1, g1⟩ := det_runD hE _ p _ _ h
    obtain ⟨s1, h2, g2⟩ := det_runD hE _ [u, v] _ _ h1
    obtain ⟨hp, h2⟩ := h2
    obtain ⟨s3, h3, g3⟩ := det_runD hE _ l _ _ h2
    obtain ⟨e, s4, h4, g4⟩ := det_runOps hE ml s3 K h3
    exact ⟨e, s4, h4, fun K' hK => g1 _ (g2 _ ⟨hp, g3 _ (g4 K' hK)⟩)⟩
  | seq a b =>
    obtain ⟨e, s', h1, h2⟩ := hE _ _ _ _ h
    cases e with
    | normal =>
      obtain ⟨e2, s2, h3, h4⟩ := hE _ _ _ _ h1
      exact ⟨e2, s2, h3, fun K' hK => h2 _ (h4 K' hK)⟩
    | ret => exact ⟨_, _, h1, fun K' hK => h2 _ hK⟩
    | exit i => exact ⟨_, _, h1, fun K' hK => h2 _ hK⟩
    | panic v => exact ⟨_, _, h1, fun K' hK => h2 _ hK⟩
  | cond x a b =>
    simp only [exB] at h ⊢
    split at h
    · rename_i t ht
      cases t with
      | true => exact hE _ _ _ _ h
      | false => exact hE _ _ _ _ h
    · exact False.elim h
  | block id a =>
    obtain ⟨e, s', h1, h2⟩ := hE _ _ _ _ h
    cases e with
    | normal => exact ⟨_, _, h1, fun K' hK => h2 _ hK⟩
    | ret => exact ⟨_, _, h1, fun K' hK => h2 _ hK⟩
    | exit i =>
      have h1 : (bkK id K (.exit i) s').holds := h1
      simp only [bkK] at h1
      split at h1
      · rename_i hi
        exact ⟨_, _, h1, fun K' hK => h2 _ (by simp only [bkK, hi]; exact hK)⟩
      · rename_i hi
        exact ⟨_, _, h1, fun K' hK => h2 _ (by simp only [bkK, hi]; exact hK)⟩
    | panic v => exact ⟨_, _, h1, fun K' hK => h2 _ hK⟩
  | loop a =>
    simp only [exB] at h ⊢
    split at h
    · obtain ⟨e, s', h1, h2⟩ := hE _ _ _ _ h
      cases e with
      | normal =>
        obtain ⟨e2, s2, h3, h4⟩ := hE _ _ _ _ h1
        exact ⟨e2, s2, h3, fun K' hK => h2 _ (h4 K' hK)⟩
      | ret => exact ⟨_, _, h1, fun K' hK => h2 _ hK⟩
      | exit i => exact ⟨_, _, h1, fun K' hK => h2 _ hK⟩
      | panic v => exact ⟨_, _, h1, fun K' hK => h2 _ hK⟩
    · split at h
      · rename_i L hL
        obtain ⟨hp, h⟩ := h
        obtain ⟨e, s', h1, h2⟩ := det_ltree L K h
        exact ⟨e, s', h1, fun K' hK => ⟨hp, h2 K' hK⟩⟩
      · obtain ⟨e, s', h1, h2⟩ := hE _ _ _ _ h
        cases e with
        | normal =>
          obtain ⟨e2, s2, h3, h4⟩ := hE _ _ _ _ h1
          exact ⟨e2, s2, h3, fun K' hK => h2 _ (h4 K' hK)⟩
        | ret => exact ⟨_, _, h1, fun K' hK => h2 _ hK⟩
        | exit i => exact ⟨_, _, h1, fun K' hK => h2 _ hK⟩
        | panic v => exact ⟨_, _, h1, fun K' hK => h2 _ hK⟩
  | rf nt x ps a b =>
    simp only [exB] at h ⊢
    obtain ⟨v, h', h1⟩ := det_callC hE _ _ _ _ _ h
    rcases h1 with ⟨h1, h2⟩ | ⟨h1, h2⟩
    · have h1 : (rfK s.h.length s.t K h').holds := h1
      simp only [rfK] at h1
      split at h1
      · rename_i nt2 t2 ps2 a2 b2 st hk
        split at h1
        · exact ⟨_, _, h1, fun K' hK => h2 _ _ (by simp only [rfK, hk]; exact hK)⟩
        · exact ⟨_, _, h1, fun K' hK => h2 _ _ (by simp only [rfK, hk]; exact hK)⟩
        · exact ⟨_, _, h1, fun K' hK => h2 _ _ (by simp only [rfK, hk]; exact hK)⟩
        · exact False.elim h1
      · exact False.elim h1
    · exact ⟨_, _, h1, fun K' hK => h2 _ _ hK⟩
theorem det_ex (C : Cfg) : ∀ f, DetE (ex C f)
  | 0 => fun _ _ _ _ h => False.elim h
  | f + 1 => det_exB (det_ex C f)
end Go.Ab
namespace Go.Ab
open Go.RowKit
variable {C : Cfg}
theorem WH_spec {H : Heap} {ρ : List (Option Nat)} : ∀ {rs : List (Option Nat)} {H' : Heap}, WH H ρ rs H' → rs.length = H'.length ∧ ∀ (k : Nat) (b' : Blk), H'[k]? = some (some b') →
    (∃ k0 b, rs[k]? = some (some k0) ∧ H[k0]? = some (some b) ∧ WB ρ b b') ∨ (rs[k]? = some none ∧ ∃ e t f ups, b' = .arr e t 0 f ups)
  | [], [], _ => ⟨rfl, fun k b' h => by simp at h⟩
  | r :: rs, b :: H', h => by
    simp only [WH] at h
    obtain ⟨h1, h2⟩ := h
    obtain ⟨i1, i2⟩ := WH_spec h2
    refine ⟨by simpa using i1, fun k b' hk => ?_⟩
    cases k with
    | zero =>
      simp at hk
      subst hk
      dsimp only at h1
      cases r with
      | none =>
        dsimp only at h1
        cases b' with
        | arr e t n f ups => dsimp only at h1; subst h1; exact .inr ⟨rfl, e, t, f, ups, rfl⟩
        | _ => exact False.elim h1
      | some k0 =>
        dsimp only at h1
        split at h1
        · rename_i b hb
          exact .inl ⟨k0, b, rfl, hb, h1⟩
        · exact False.elim h1
    | succ k => simpa using i2 k b' (by simpa using hk)
  | [], _ :: _, h => by simp [WH] at h
  | _ :: _, [], h => by simp [WH] at h
theorem nodup_spec : ∀ {ρ : List (Option Nat)}, nodupB ρ = true → ∀ (i j k : Nat), ρ[i]? = some (some k) → ρ[j]? = some (some k) → i = j
  | [], _, i, j, k, hi, _ => by simp at hi
  | none :: l, h, i, j, k, hi, hj => by
    simp only [nodupB] at h
    cases i with
    | zero => simp at hi
    | succ i =>
      cases j with
      | zero => simp at hj
      | succ j => rw [nodup_spec h i j k (by simpa using hi) (by simpa using hj)]
  | some q :: l, h, i, j, k, hi, hj => by
    simp only [nodupB, Bool.and_eq_true, Bool.not_eq_true'] at h
    have hno : ∀ m : Nat, l[m]? = some (some q) → False := fun m hm => by
      have : l.contains (some q) = true := by simpa using List.mem_of_getElem? hm
      rw [h.1] at this
      cases this
    cases i with
    | zero =>
      simp at hi
      subst hi
      cases j with
      | zero => rfl
      | succ j => exact (hno j (by simpa using hj)).elim
    | succ i =>
      cases j with
      | zero =>
        simp at hj
        subst hj
        exact (hno i (by simpa using hi)).elim
      | succ j => rw [nodup_spec h.2 i j k (by simpa using hi) (by simpa using hj)]
theorem ups_spec {ups ups' : List Nat} : ∀ {ρ : List (Option Nat)} {k0 : Nat}, upsB ups ups' k0 ρ = true → ∀ (k p : Nat), ρ[k]? = some (some p) → p ∈ ups → (k0 + k) ∈ ups'
  | [], k0, _, k, p, h, _ => by simp at h
  | none :: ρ, k0, h, k, p, hk, hp => by
    simp only [upsB] at h
    cases k with
    | zero => simp at hk
    | succ k =>
      have := ups_spec h k p (by simpa using hk) hp
      rwa [show k0 + 1 + k = k0 + (k + 1) by omega] at this
  | some q :: ρ, k0, h, k, p, hk, hp => by
    simp only [upsB] at h
    cases k with
    | zero =>
      simp at hk
      subst hk
      rw [memB_spec.2 hp] at h
      dsimp only at h
      split at h
      · rename_i hm
        simpa using memB_spec.1 hm
      · cases h
    | succ k =>
      have hr : upsB ups ups' (k0 + 1) ρ = true := by
        split at h
        · split at h
          · exact h
          · cases h
        · exact h
      have := ups_spec hr k p (by simpa using hk) hp
      rwa [show k0 + 1 + k = k0 + (k + 1) by omega] at this
theorem still_spec {ρ : List (Option Nat)} {H' : Heap} : ∀ {n : Nat}, stillB ρ H' n = true → n ≤ H'.length ∧ ∀ (k : Nat) (b : Blk), k < n → H'[k]? = some (some b) → ρ[k]? = some (some k)
  | 0, _ => ⟨Nat.zero_le _, fun k b h => by omega⟩
  | n + 1, h => by
    simp only [stillB] at h
    have key : stillB ρ H' n = true ∧ n < H'.length ∧ ∀ b, H'[n]? = some (some b) → ρ[n]? = some (some n) := by
      split at h
      · rename_i b hb
        split at h
        · rename_i q hq
          split at h
          · rename_i he
            have he := Nat.eq_of_beq_eq_true he
            subst he
            exact ⟨h, (List.getElem?_eq_some_iff.1 hb).1, fun b _ => hq⟩
          · cases h
        · cases h
      · rename_i hb
        exact ⟨h, (List.getElem?_eq_some_iff.1 hb).1, fun b hb' => by rw [hb] at hb'; cases hb'⟩
      · cases h
    obtain ⟨i1, i2⟩ := still_spec key.1
    refine ⟨by have := key.2.1; omega, fun k b hk hb => ?_⟩
    by_cases hkn : k = n
    · subst hkn; exact key.2.2 b hb
    · exact i2 k b (by omega) hb
theorem WP_rep {w : World} {Z : Nat → Prop} {v v' : PV} {u : Value} (h : WP' v v') (hr : RepP w Z v u) : RepP w Z v' u := by
  rcases h with rfl | h
  · exact hr
  · split at h
    · obtain ⟨rfl, rfl, h⟩ := h
      cases hr with
      | isl0 => exact .isl0 _ _ _ _
      | isl _ _ _ ad cap us hn hz hc hr => exact .isl _ _ _ ad cap us hn hz hc fun i j hi hj => by rw [← h i j hi hj]; exact hr i j hi hj
    · cases hr
      exact .isl0 _ _ _ _
    · obtain ⟨rfl, h⟩ := h
      cases hr with
      | ipt _ _ ad us hz hc hr => exact .ipt _ _ ad us hz hc fun j hj => by rw [← h j hj]; exact hr j hj
    · exact h.elim
section
variable {w : World} {Z O : Nat → Prop} {φ : Nat → Value} {H H' : Heap} {ρ : List (Option Nat)}
def ren (ρ : List (Option Nat)) (φ : Nat → Value) (k : Nat) : Value :=
  match ρ[k]? with
  | some (some k0) => φ k0
  | _ => .slice none 0 0
theorem WC_rep (hH : WH H ρ ρ H') {c c' : CV} {u : Value} (h : WC ρ c c') (hr : RepC w Z H φ c u) : RepC w Z H' (ren ρ φ) c' u := by
  obtain ⟨hlen, hsp⟩ := WH_spec hH
  have lt : ∀ k r, ρ[k]? = some r → born H' k := fun k r hk => ⟨by rw [← hlen]; exact (List.getElem?_eq_some_iff.1 hk).1, fun hu => by
    rcases hsp k _ hu with ⟨k0, b, _, _, e3⟩ | ⟨_, _, _, _, _, e⟩
    · cases b <;> simp only [WB] at e3
    · cases e⟩
  cases c' with
  | unk => exact hr.one
  | p v' =>
    cases c <;> simp only [WC] at h <;> first | exact WP_rep h hr | exact h.elim
  | sl k' off' len' =>
    cases c with
    | sl k off len =>
      simp only [WC] at h
      obtain ⟨h1, rfl, rfl⟩ := h
      refine ⟨lt _ _ h1, hr.2.1, fun e t n f ups hk => ?_⟩
      rcases hsp k' _ hk with ⟨k0, b, e1, e2, e3⟩ | ⟨e1, _⟩
      · rw [h1] at e1
        cases e1
        cases b with
        | arr e' t' n' f' ups' =>
          simp only [WB] at e3
          obtain ⟨rfl, rfl, rfl, _⟩ := e3
          have := hr.2.2 _ _ _ _ _ e2
          simpa only [ren, h1] using this
        | _ => simp only [WB] at e3
      · rw [h1] at e1; cases e1
    | p v =>
      cases v <;> simp only [WC] at h
      obtain ⟨h1, rfl, rfl⟩ := h
      cases hr
      refine ⟨lt _ _ h1, rfl, fun e t n f ups hk => ?_⟩
      rcases hsp k' _ hk with ⟨k0, b, e1, _⟩ | ⟨e1, e', t', f', ups', e2⟩
      · rw [h1] at e1; cases e1
      · cases e2
        exact ⟨by omega, none, 0, rfl, Nat.le_refl _, fun _ _ => by simp only [ren, h1], fun h => absurd h (by omega)⟩
    | _ => simp only [WC] at h
  | pt k' o' =>
    cases c with
    | pt k o =>
      simp only [WC] at h
      obtain ⟨h1, rfl⟩ := h
      refine ⟨lt _ _ h1, hr.2.1, fun bt l hk => ?_⟩
      rcases hsp k' _ hk with ⟨k0, b, e1, e2, e3⟩ | ⟨e1, _, _, _, _, e2⟩
      · rw [h1] at e1
        cases e1
        cases b with
        | box bt0 l0 =>
          have := hr.2.2 _ _ e2
          simpa only [ren, h1] using this
        | _ => simp only [WB] at e3
      · cases e2
    | _ => simp only [WC] at h
  | pe k' i' j' =>
    cases c with
    | pe k i j =>
      simp only [WC] at h
      obtain ⟨h1, rfl, rfl⟩ := h
      refine ⟨lt _ _ h1, hr.2.1, fun e t n f ups hk => ?_⟩
      rcases hsp k' _ hk with ⟨k0, b, e1, e2, e3⟩ | ⟨e1, _⟩
      · rw [h1] at e1
        cases e1
        cases b with
        | arr e' t' n' f' ups' =>
          simp only [WB] at e3
          obtain ⟨rfl, rfl, rfl, _⟩ := e3
          have := hr.2.2 _ _ _ _ _ e2
          simpa only [ren, h1] using this
        | _ => simp only [WB] at e3
      · rw [h1] at e1; cases e1
    | _ => simp only [WC] at h
  | ref k' =>
    cases c with
    | ref k =>
      simp only [WC] at h
      refine ⟨lt _ _ h, hr.2.1, fun b hk => ?_⟩
      rcases hsp k' _ hk with ⟨k0, b, e1, e2, e3⟩ | ⟨e1, _⟩
      · rw [h] at e1
        cases e1
        have := hr.2.2 _ e2
        simpa only [ren, h] using this
      · rw [h] at e1; cases e1
    | _ => simp only [WC] at h
theorem WL_rep (hH : WH H ρ ρ H') : ∀ {l l' : List CV} {us : List Value}, WL ρ l l' → RepL w Z H φ l us → RepL w Z H' (ren ρ φ) l' us
  | [], [], us, _, hr => ⟨hr.1, fun i c h => by simp at h⟩
  | c :: l, c' :: l', us, h, hr => by
    simp only [WL] at h
    obtain ⟨h1, h2⟩ := hr
    cases us with
    | nil => simp at h1
    | cons u us =>
      obtain ⟨u', hu', hc⟩ := h2 0 c rfl
      cases hu'
      have ih := WL_rep hH (us := us) h.2 ⟨by simpa using h1, fun i c hc => by simpa using h2 (i + 1) c (by simpa using hc)⟩
      refine ⟨by simpa using ih.1, fun i x hx => ?_⟩
      cases i with
      | zero => simp at hx; subst hx; exact ⟨_, rfl, WC_rep hH h.1 hc⟩
      | succ i => simpa using ih.2 i x (by simpa using hx)
  | [], _ :: _, us, h, _ => by simp [WL] at h
  | _ :: _, [], us, h, _ => by simp [WL] at h
mutual
theorem WA_rep (hH : WH H ρ ρ H') : ∀ {a a' : AV} {u : Value}, WA ρ a a' → RepA w Z H φ a u → RepA w Z H' (ren ρ φ) a' u
  | a, .any, u, _, _ => by simp only [RepA]
  | .c c, .c c', u, h, hr => by
    simp only [WA] at h
    simp only [RepA] at hr ⊢
    exact WC_rep hH h hr
  | .ag l, .ag l', u, h, hr => by
    simp only [WA] at h
    simp only [RepA] at hr ⊢
    obtain ⟨us, rfl, hl⟩ := hr
    exact ⟨us, rfl, WL_rep hH h hl⟩
  | .tp l, .tp l', u, h, hr => by
    simp only [WA] at h
    simp only [RepA] at hr ⊢
    obtain ⟨us, rfl, hl⟩ := hr
    exact ⟨us, rfl, WAs_rep hH h hl⟩
  | .c _, .ag _, _, h, _ => by simp [WA] at h
  | .c _, .tp _, _, h, _ => by simp [WA] at h
  | .ag _, .c _, _, h, _ => by simp [WA] at h
  | .ag _, .tp _, _, h, _ => by simp [WA] at h
  | .tp _, .c _, _, h, _ => by simp [WA] at h
  | .tp _, .ag _, _, h, _ => by simp [WA] at h
  | .any, .c _, _, h, _ => by simp [WA] at h
  | .any, .ag _, _, h, _ => by simp [WA] at h
  | .any, .tp _, _, h, _ => by simp [WA] at h
theorem WAs_rep (hH : WH H ρ ρ H') : ∀ {l l' : List AV} {us : List Value}, WAs ρ l l' → RepAs w Z H φ l us → RepAs w Z H' (ren ρ φ) l' us
  | [], [], us, _, hr => by simpa only [RepAs] using hr
  | a :: l, a' :: l', us, h, hr => by
    simp only [WAs] at h
    simp only [RepAs] at hr ⊢
    obtain ⟨u, us', rfl, h1, h2⟩ := hr
    exact ⟨u, us', rfl, WA_rep hH h.1 h1, WAs_rep hH h.2 h2⟩
  | [], _ :: _, us, h, _ => by simp [WAs] at h
  | _ :: _, [], us, h, _ => by simp [WAs] at h
end
theorem WT_get : ∀ {t t' : Tr} (p : Ps), WT ρ t t' → WA ρ (Tr.get p t) (Tr.get p t')
  | t, .lf, p, _ => by rw [Tr.get_lf]; cases Tr.get p t <;> simp only [WA]
  | .nd l v r, .nd l' v' r', .h, h => h.2.1
  | .nd l v r, .nd l' v' r', .o p, h => WT_get (t := l) (t' := l') p h.1
  | .nd l v r, .nd l' v' r', .i p, h => WT_get (t := r) (t' := r') p h.2.2
  | .lf, .nd l' v' r', .h, h => h.2.1
  | .lf, .nd l' v' r', .o p, h => by
    have := WT_get (t := .lf) (t' := l') p h.1
    rwa [Tr.get_lf] at this
  | .lf, .nd l' v' r', .i p, h => by
    have := WT_get (t := .lf) (t' := r') p h.2.2
    rwa [Tr.get_lf] at this
theorem WT_rep (hH : WH H ρ ρ H') {t t' : Tr} {tmps : Array Value} (h : WT ρ t t') (hr : RepT w Z H φ t tmps) : RepT w Z H' (ren ρ φ) t' tmps := fun j => WA_rep hH (WT_get _ h) (hr j)
theorem weak_simH (hs : SimH C O Z φ H w) (hn : nodupB ρ = true) (hH : WH H ρ ρ H') : SimH C O Z (ren ρ φ) H' w := by
  obtain ⟨hlen, hsp⟩ := WH_spec hH
  have own : ∀ (k : Nat) (b' : Blk) (g : Nat), H'[k]? = some (some b') → own? (ren ρ φ k) = some g → ∃ k0 b, ρ[k]? = some (some k0) ∧ H[k0]? = some (some b) ∧ own? (φ k0) = some g ∧ WB ρ b b' := fun k b' g hk hg => by
    rcases hsp k b' hk with ⟨k0, b, e1, e2, e3⟩ | ⟨e1, _⟩
    · refine ⟨k0, b, e1, e2, ?_, e3⟩
      simpa only [ren, e1] using hg
    · simp only [ren, e1] at hg
      cases hg
  refine ⟨hs.zlt, fun k b' hk => ?_, fun k b' g hk hg => ?_, fun k b' g hk hg => ?_, fun k k' b b' g hk hk' hg hg' => ?_⟩
  · rcases hsp k b' hk with ⟨k0, b, e1, e2, e3⟩ | ⟨e1, e, t, f, ups, rfl⟩
    · have hb := hs.blk k0 b e2
      have hφ : ren ρ φ k = φ k0 := by simp only [ren, e1]
      cases b with
      | arr e t n f ups =>
        cases b' with
        | arr e' t' n' f' ups' =>
          simp only [WB] at e3
          obtain ⟨rfl, rfl, rfl, h, _⟩ := e3
          obtain ⟨xs, ho, hx⟩ := hb
          refine ⟨xs, by rw [hφ]; exact ho, fun i j hi hj => ?_⟩
          rw [← h i j hi hj]
          exact hx i j hi hj
        | _ => simp only [WB] at e3
      | box bt l =>
        cases b' with
        | box bt' l' =>
          simp only [WB] at e3
          obtain ⟨rfl, e3⟩ := e3
          obtain ⟨g, t, us, h1, h3, h4⟩ := hb
          exact ⟨g, t, us, hφ.trans h1, h3, WL_rep hH e3 h4⟩
        | _ => simp only [WB] at e3
      | clo f fs cs =>
        cases b' with
        | clo f' fs' cs' =>
          simp only [WB] at e3
          obtain ⟨rfl, h1, h2⟩ := e3
          obtain ⟨us, vs, e1, r1, r2⟩ := hb
          exact ⟨us, vs, hφ.trans e1, WAs_rep hH h1 r1, WAs_rep hH h2 r2⟩
        | _ => simp only [WB] at e3
      | lp nt t ps a b st =>
        cases b' with
        | lp nt' t' ps' a' b' st' =>
          simp only [WB] at e3
          obtain ⟨rfl, rfl, rfl, rfl, rfl, h1⟩ := e3
          obtain ⟨l, L, e1, r1, r2, r3, r4, r5, r6, r7, r8⟩ := hb
          exact ⟨l, L, hφ.trans e1, r1, r2, r3, r4, r5, r6, WT_rep hH h1 r7, r8⟩
        | _ => simp only [WB] at e3
      | mp l =>
        cases b' with
        | mpi f' =>
          simp only [WB] at e3
          obtain ⟨rfl, e3⟩ := e3
          obtain ⟨r, es, clock, r1, r2, r3, _⟩ := hb
          have : es = #[] := Array.eq_empty_of_size_eq_zero (by simpa using r3)
          subst this
          exact ⟨r, _, clock, hφ.trans r1, r2, fun e he => (by simp at he), fun q _ => e3 q, by simp⟩
        | _ => simp only [WB] at e3
      | mpi f =>
        cases b' with
        | mpi f' =>
          simp only [WB] at e3
          obtain ⟨r, es, clock, r1, r2, r3, r4, r5⟩ := hb
          exact ⟨r, es, clock, hφ.trans r1, r2, fun e he => let ⟨q, h1, h2⟩ := r3 e he; ⟨q, h1, by rw [← e3]; exact h2⟩, fun q hq => by rw [← e3]; exact r4 q hq, r5⟩
        | _ => simp only [WB] at e3
      | sit l p =>
        cases b' with
        | sit l' p' =>
          simp only [WB] at e3
          obtain ⟨rfl, rfl⟩ := e3
          obtain ⟨r, s, r1, r2⟩ := hb
          exact ⟨r, s, hφ.trans r1, r2⟩
        | _ => simp only [WB] at e3
      | mpp l => cases b' <;> simp only [WB] at e3
      | unb => simp only [WB] at e3
    · refine ⟨[], ?_, fun i j hi => by omega⟩
      have : ren ρ φ k = .slice none 0 0 := by simp only [ren, e1]
      rw [this]
      exact World.ownsRow_nil w 0 t e
  · obtain ⟨k0, b, e1, e2, e3, _⟩ := own k b' g hk hg
    exact hs.own k0 b g e2 e3
  · obtain ⟨k0, b, e1, e2, e3, _⟩ := own k b' g hk hg
    exact hs.sep k0 b g e2 e3
  · obtain ⟨k0, c, e1, e2, e3, hw⟩ := own k b g hk hg
    obtain ⟨k0', c', e1', e2', e3', hw'⟩ := own k' b' g hk' hg'
    rcases hs.inj k0 k0' c c' g e2 e2' e3 e3' with h | h
    · subst h
      exact .inl (nodup_spec hn k k' k0 e1 e1')
    · refine .inr ?_
      cases c with
      | arr e t n f ups =>
        cases c' with
        | arr e' t' n' f' ups' =>
          cases b with
          | arr e3 t3 n3 f3 ups3 =>
            cases b' with
            | arr e4 t4 n4 f4 ups4 =>
              simp only [WB] at hw hw'
              obtain ⟨rfl, rfl, rfl, _, hu⟩ := hw
              obtain ⟨rfl, rfl, rfl, _, hu'⟩ := hw'
              obtain ⟨h1, h2, h3⟩ := h
              refine ⟨h1, h2, ?_⟩
              rcases h3 with ⟨h3, h4⟩ | ⟨h3, h4⟩
              · exact .inl ⟨by have := ups_spec hu' k k0 e1 h3; rwa [Nat.zero_add] at this, h4⟩
              · exact .inr ⟨by have := ups_spec hu k' k0' e1' h3; rwa [Nat.zero_add] at this, h4⟩
            | _ => simp only [WB] at hw'
          | _ => simp only [WB] at hw
        | _ => exact False.elim h
      | _ => exact False.elim h
theorem weak_tra {E : Ent} (hn : stillB ρ H' E.H.length = true) (hH : WH H ρ ρ H') (T : Tra E.w w E.Z Z E.H H E.φ φ) : Tra E.w w E.Z Z E.H H' E.φ (ren ρ φ) := by
  obtain ⟨hlen, hsp⟩ := WH_spec hH
  obtain ⟨s1, s2⟩ := still_spec hn
  refine ⟨s1, fun c u h => ?_⟩
  have h' := T.2 c u h
  have key : ∀ k, k < E.H.length → ∀ b, H'[k]? = some (some b) → ren ρ φ k = φ k ∧ ∃ b0, H[k]? = some (some b0) ∧ WB ρ b0 b := fun k hk b hb => by
    have hρ := s2 k b hk hb
    refine ⟨by simp only [ren, hρ], ?_⟩
    rcases hsp k b hb with ⟨k0, b0, e1, e2, e3⟩ | ⟨e1, _⟩
    · rw [hρ] at e1
      cases e1
      exact ⟨b0, e2, e3⟩
    · rw [hρ] at e1; cases e1
  have bo : ∀ k, born E.H k → born H' k := fun k h => ⟨Nat.lt_of_lt_of_le h.1 s1, fun hu => by
    obtain ⟨_, b0, _, hw⟩ := key k h.1 _ hu
    cases b0 <;> simp only [WB] at hw⟩
  cases c with
  | p v => exact h'
  | unk => exact h'
  | sl k off len =>
    refine ⟨bo k h.1, h'.2.1, fun e t n f ups hk => ?_⟩
    obtain ⟨hφ, b0, hb0, hw⟩ := key k h.1.1 _ hk
    cases b0 with
    | arr e' t' n' f' ups' =>
      simp only [WB] at hw
      obtain ⟨rfl, rfl, rfl, _⟩ := hw
      rw [hφ]
      exact h'.2.2 _ _ _ _ _ hb0
    | _ => simp only [WB] at hw
  | pt k off =>
    refine ⟨bo k h.1, h'.2.1, fun bt l hk => ?_⟩
    obtain ⟨hφ, b0, hb0, hw⟩ := key k h.1.1 _ hk
    cases b0 with
    | box l' => rw [hφ]; exact h'.2.2 _ _ hb0
    | _ => simp only [WB] at hw
  | pe k i j =>
    refine ⟨bo k h.1, h'.2.1, fun e t n f ups hk => ?_⟩
    obtain ⟨hφ, b0, hb0, hw⟩ := key k h.1.1 _ hk
    cases b0 with
    | arr e' t' n' f' ups' =>
      simp only [WB] at hw
      obtain ⟨rfl, rfl, rfl, _⟩ := hw
      rw [hφ]
      exact h'.2.2 _ _ _ _ _ hb0
    | _ => simp only [WB] at hw
  | ref k =>
    refine ⟨bo k h.1, h'.2.1, fun b hk => ?_⟩
    obtain ⟨hφ, b0, hb0, hw⟩ := key k h.1.1 _ hk
    rw [hφ]
    exact h'.2.2 _ hb0
end
theorem weak_inv {E : Ent} {nt : Nat} {s s' : St} (h : Weak E.H.length s s') {a : Act} {w : World} (hv : Inv C E nt s a w) : Inv C E nt s' a w := by
  obtain ⟨ρ, hn, hst, ht, hH⟩ := h
  obtain ⟨Z, φ, hs, h1, hm⟩ := hv
  exact ⟨Z, ren ρ φ, ⟨weak_simH hs.h hn hH, hs.g, hs.b, hs.sz, WT_rep hH ht hs.t⟩, ⟨h1.k, h1.z1, h1.z2, weak_tra hst hH h1.t, h1.o⟩, hm⟩
theorem fgt_inv {E : Ent} {nt : Nat} {s s' : St} (h : Fgt s s') {a : Act} {w : World} (hv : Inv C E nt s a w) : Inv C E nt s' a w := by
  obtain ⟨t, H⟩ := s
  obtain ⟨t', H'⟩ := s'
  obtain ⟨e, ht⟩ := h
  have e : H' = H := e
  subst e
  obtain ⟨Z, φ, hs, h1, hm⟩ := hv
  refine ⟨Z, φ, ⟨hs.h, hs.g, hs.b, hs.sz, fun j => ?_⟩, h1, hm⟩
  rcases ht (ofN j) with h | h
  · show RepA w Z H' φ (Tr.get (ofN j) t') _
    rw [show Tr.get (ofN j) t' = .any from h]; simp only [RepA]
  · show RepA w Z H' φ (Tr.get (ofN j) t') _
    rw [show Tr.get (ofN j) t' = Tr.get (ofN j) t from h]; exact hs.t j
theorem LkB.arr {b : Option Blk} {e n : Nat} {t : TypeId} {f : Nat → Nat → PV} {ups : List Nat} (h : LkB b (some (.arr e t n f ups))) : ∃ f0, b = some (.arr e t n f0 ups) := by
  rcases h with rfl | ⟨e', t', n', f0, f', ups', rfl, h, _⟩
  · exact ⟨f, rfl⟩
  · cases h
    exact ⟨f0, rfl⟩
theorem LkB.other {b : Option Blk} {b' : Blk} (h : LkB b (some b')) (hb : ∀ e t n f ups, b' ≠ .arr e t n f ups) : b = some b' := by
  rcases h with rfl | ⟨e', t', n', f0, f', ups', rfl, h, _⟩
  · rfl
  · cases h
    exact absurd rfl (hb _ _ _ _ _)
theorem alk_inv {E : Ent} {nt : Nat} {s s' : St} (h : Alk s s') {a : Act} {w : World} (hv : Inv C E nt s a w) : Inv C E nt s' a w := by
  obtain ⟨t, H⟩ := s
  obtain ⟨t', H'⟩ := s'
  obtain ⟨hlen, hB, hT⟩ := h
  dsimp only at hlen hB hT
  obtain ⟨Z, φ, hs, h1, hm⟩ := hv
  have back : ∀ (k : Nat) (b' : Blk), H'[k]? = some (some b') → ∃ b, H[k]? = some b ∧ LkB b (some b') := fun k b' hk => by
    have hlt : k < H.length := by rw [hlen]; exact (List.getElem?_eq_some_iff.1 hk).1
    exact ⟨_, List.getElem?_eq_getElem hlt, hB k _ _ (List.getElem?_eq_getElem hlt) hk⟩
  have some' : ∀ (k : Nat) (b' : Blk), H'[k]? = some (some b') → ∃ b, H[k]? = some (some b) ∧ (b = b' ∨ ∃ e t n f f' ups, b = .arr e t n f ups ∧ b' = .arr e t n f' ups ∧ ∀ i j, i < n → j < e → LkP (f i j) (f' i j)) := fun k b' hk => by
    obtain ⟨b, hb, hl⟩ := back k b' hk
    rcases hl with rfl | ⟨e, t, n, f, f', ups, rfl, e2, h3⟩
    · exact ⟨b', hb, .inl rfl⟩
    · cases e2
      exact ⟨_, hb, .inr ⟨e, t, n, f, f', ups, rfl, rfl, h3⟩⟩
  have T : Tra w w Z Z H H' φ φ := by
    have bo : ∀ k, born H k → born H' k := fun k h => ⟨by rw [← hlen]; exact h.1, fun hu => by
      obtain ⟨b, hb, hl⟩ := some' k _ hu
      rcases hl with rfl | ⟨e, t, n, f, f', ups, _, e2, _⟩
      · exact h.2 hb
      · cases e2⟩
    refine ⟨by rw [hlen]; exact Nat.le_refl _, fun c u h => ?_⟩
    cases c with
    | p v => exact h
    | unk => exact h
    | sl k off len =>
      refine ⟨bo k h.1, h.2.1, fun e t n f ups hk => ?_⟩
      obtain ⟨b, hb, hl⟩ := back k _ hk
      obtain ⟨f0, rfl⟩ := hl.arr
      exact h.2.2 e t n f0 ups hb
    | pt k off =>
      refine ⟨bo k h.1, h.2.1, fun bt l hk => ?_⟩
      obtain ⟨b, hb, hl⟩ := back k _ hk
      obtain rfl := hl.other (fun _ _ _ _ _ h => by cases h)
      exact h.2.2 bt l hb
    | pe k i j =>
      refine ⟨bo k h.1, h.2.1, fun e t n f ups hk => ?_⟩
      obtain ⟨b, hb, hl⟩ := back k _ hk
      obtain ⟨f0, rfl⟩ := hl.arr
      exact h.2.2 e t n f0 ups hb
    | ref k =>
      refine ⟨bo k h.1, h.2.1, fun b hk => ?_⟩
      obtain ⟨b0, hb, _⟩ := some' k _ hk
      exact h.2.2 b0 hb
  refine ⟨Z, φ, ⟨⟨hs.h.zlt, fun k b' hk => ?_, fun k b' g hk hg => ?_, fun k b' g hk hg => ?_, fun k k' b b' g hk hk' hg hg' => ?_⟩, hs.g, hs.b, hs.sz, fun j => ?_⟩, ⟨h1.k, h1.z1, h1.z2, h1.t.trans T, h1.o⟩, hm⟩
  · obtain ⟨b, hb, hl⟩ := some' k b' hk
    have hr := (hs.h.blk k b hb).turn T (fun _ h => h) (fun _ _ => rfl) rfl (fun _ _ => rfl)
    rcases hl with rfl | ⟨e, t, n, f, f', ups, rfl, rfl, h3⟩
    · exact hr
    · obtain ⟨xs, ho, hx⟩ := hr
      exact ⟨xs, ho, fun i j hi hj => let ⟨u, hu, hp⟩ := hx i j hi hj; ⟨u, hu, h3 i j hi hj _ _ _ hp⟩⟩
  · obtain ⟨b, hb, _⟩ := some' k b' hk
    exact hs.h.own k b g hb hg
  · obtain ⟨b, hb, _⟩ := some' k b' hk
    exact hs.h.sep k b g hb hg
  · obtain ⟨c, hc, hl⟩ := some' k b hk
    obtain ⟨c', hc', hl'⟩ := some' k' b' hk'
    rcases hs.h.inj k k' c c' g hc hc' hg hg' with h | h
    · exact .inl h
    · refine .inr ?_
      have h : Kin k c k' c' := h
      rcases hl with rfl | ⟨e, t, n, f, f', ups, rfl, rfl, _⟩
      · rcases hl' with rfl | ⟨e, t, n, f, f', ups, rfl, rfl, _⟩
        · exact h
        · cases c with
          | arr => exact h
          | _ => exact False.elim h
      · rcases hl' with rfl | ⟨e', t', n', f2, f2', ups', rfl, rfl, _⟩
        · cases c' with
          | arr => exact h
          | _ => exact False.elim h
        · exact h
  · have ht := (hs.t j)
    rcases hT (ofN j) with h | ⟨v, v', e1, e2, h⟩
    · show RepA w Z H' φ (Tr.get (ofN j) t') _
      rw [← h]; exact RepA.tra T ht
    · show RepA w Z H' φ (Tr.get (ofN j) t') _
      have ht : RepA w Z H φ (Tr.get (ofN j) t) _ := ht
      rw [e1] at ht
      rw [e2]
      simp only [RepA, RepC] at ht ⊢
      exact h _ _ _ ht
theorem frz_inv {E : Ent} {nt : Nat} {s s' : St} (h : FrzS s s') {a : Act} {w : World} (hv : Inv C E nt s a w) : Inv C E nt s' a w := by
  obtain ⟨t, H⟩ := s
  obtain ⟨t', H'⟩ := s'
  obtain ⟨k, e, ty, n, f, ups, hk, hH, hT⟩ := h
  dsimp only at hk hH hT
  obtain ⟨Z, φ, hs, h1, hm⟩ := hv
  obtain ⟨S1, T1, sub1⟩ := freeze_one hs.h hk
  rw [← hH] at S1 T1
  refine ⟨fun b => Z b ∨ own? (φ k) = some b, φ, ⟨S1, fun g n' f' hg => ?_, hs.b, hs.sz, fun j => ?_⟩, ⟨h1.k, fun b hb => .inl (h1.z1 b hb), fun b hb => ?_, h1.t.trans T1, h1.o⟩, hm.1, fun d hd => ?_⟩
  · obtain ⟨r1, r2, r3⟩ := hs.g g n' f' hg
    exact ⟨r1.keep (fun _ h => .inl h) fun _ _ => rfl, .inl r2, r3⟩
  · have ht := hs.t j
    have ht : RepA w Z H φ (Tr.get (ofN j) t) _ := ht
    show RepA w _ H' φ (Tr.get (ofN j) t') _
    rcases hT (ofN j) with h | h | ⟨off, len, v', e1, e2, h⟩
    · rw [h]; simp only [RepA]
    · rw [h]; exact RepA.tra T1 ht
    · rw [e1] at ht
      rw [e2]
      simp only [RepA] at ht ⊢
      have := fz_sl (H1 := H') hs.h (Z1 := fun b => Z b ∨ own? (φ k) = some b) (fun _ h => .inl h) hk (fun _ h => .inr h) ht
      simp only [fzC, hk, RepC] at this ⊢
      exact h _ _ _ this
  · rcases hb with hb | hb
    · exact h1.z2 b hb
    · exact .inr (hs.h.own k _ b hk hb)
  · obtain ⟨D, r1, r2, r3, r4⟩ := hm.2 d hd
    exact ⟨D, r1, r2, .inl r3, r4⟩
theorem wk_inv {E : Ent} {nt : Nat} {s s' : St} (h : Wk E.H.length s s') {a : Act} {w : World} (hv : Inv C E nt s a w) : Inv C E nt s' a w := by
  rcases h with rfl | h | h | ⟨s1, h, h'⟩ | ⟨s1, h, h'⟩
  · exact hv
  · exact weak_inv h hv
  · exact fgt_inv h hv
  · exact alk_inv h' (weak_inv h hv)
  · exact frz_inv h' (weak_inv h hv)
end Go.Ab
namespace Go.Ab
open Go.RowKit
variable {C : Cfg} {E : Ev} {md : Nat → Bool}
theorem getD_put {a : Act} {d : Option Tmp} {u : Value} {j : Nat} : ((a.put d u).tmps.getD j undef = if d = some j ∧ j < a.tmps.size then u else a.tmps.getD j undef) := by
  cases d with
  | none => simp [Act.put]
  | some i =>
    by_cases hij : i = j
    · subst hij
      by_cases hlt : i < a.tmps.size
      · simp [Act.put, hlt]
      · simp [Act.put, hlt]
    · simp [Act.put, hij]
theorem size_put {a : Act} {d : Option Tmp} {u : Value} : (a.put d u).tmps.size = a.tmps.size := by
  cases d <;> simp [Act.put]
theorem defers_put {a : Act} {d : Option Tmp} {u : Value} : (a.put d u).defers = a.defers := by
  cases d <;> simp [Act.put]
theorem compD_spec {nt : Nat} {d : Option Tmp} {D : Option Ps} (h : compD nt d = some D) : (d = none ∧ D = none) ∨ ∃ i, d = some i ∧ i < nt ∧ D = some (ofN i) := by
  cases d with
  | none => simp only [compD] at h; cases h; exact .inl ⟨rfl, rfl⟩
  | some i =>
    simp only [compD] at h
    split at h
    · cases h
    · rename_i hn
      cases h
      refine .inr ⟨i, rfl, ?_, rfl⟩
      rcases Nat.lt_or_ge i nt with h | h
      · exact h
      · rw [Nat.ble_eq_true_of_le h] at hn; cases hn
theorem put_get {nt : Nat} {d : Option Tmp} {D : Option Ps} (h : compD nt d = some D) (t : Tr) (v : AV) (j : Nat) : Tr.get (ofN j) (putT t D v) = if d = some j then v else Tr.get (ofN j) t := by
  rcases compD_spec h with ⟨rfl, rfl⟩ | ⟨i, rfl, hi, rfl⟩
  · simp [putT]
  · simp only [putT, Tr.get_set, Option.some.injEq]
    by_cases hij : j = i
    · subst hij; simp
    · rw [if_neg (fun e => hij (ofN_inj e)), if_neg (fun e => hij e.symm)]
theorem compD_lt {nt : Nat} {d : Option Tmp} {D : Option Ps} (h : compD nt d = some D) {j : Nat} (hj : d = some j) : j < nt := by
  rcases compD_spec h with ⟨rfl, _⟩ | ⟨i, rfl, hi, _⟩
  · cases hj
  · cases hj; exact hi
theorem undef_rep {w : World} {Z : Nat → Prop} {H : Heap} {φ : Nat → Value} : RepA w Z H φ (.tp []) undef := by
  simp only [RepA, RepAs]; exact ⟨[], rfl, rfl⟩
theorem RepT.put {w : World} {Z : Nat → Prop} {H : Heap} {φ : Nat → Value} {t : Tr} {a : Act} {nt : Nat} (hsz : nt ≤ a.tmps.size) (ht : RepT w Z H φ t a.tmps) {d : Option Tmp} {D : Option Ps} (hd : compD nt d = some D) {v : AV} {u : Value} (hv : RepA w Z H φ v u) : RepT w Z H φ (putT t D v) (a.put d u).tmps := by
  intro j
  rw [put_get hd, getD_put]
  by_cases hj : d = some j
  · rw [if_pos hj, if_pos ⟨hj, Nat.lt_of_lt_of_le (compD_lt hd hj) hsz⟩]; exact hv
  · rw [if_neg hj, if_neg (fun h => hj h.1)]; exact ht j
theorem GRep.go {G : Globs} {w w' : World} {Z Z' : Nat → Prop} (h : GRep G w Z) (hz : ∀ b, Z b → Z' b) (hobj : ∀ b, Z b → w'.heap[b]? = w.heap[b]?) : GRep G w' Z' :=
  fun g n f hg => ⟨(h g n f hg).1.keep hz fun p hp => World.cell?_of_block (hobj _ hp), hz g (h g n f hg).2.1, (hobj g (h g n f hg).2.1) ▸ (h g n f hg).2.2⟩
theorem Marks.go {m : Nat} {w w' : World} {Z Z' : Nat → Prop} {ds : List Deferred} (h : Marks m Z w ds) (hz : ∀ b, Z b → Z' b) (hobj : ∀ b, Z b → w'.heap[b]? = w.heap[b]?) : Marks m Z' w' ds :=
  ⟨h.1, fun d hd => let ⟨D, h1, h2, h3, h4⟩ := h.2 d hd; ⟨D, h1, h2, hz D h3, (hobj D h3).trans h4⟩⟩
structure Way (O : Nat → Prop) (w w' : World) (Z Z' : Nat → Prop) (H H' : Heap) (φ φ' : Nat → Value) : Prop where
  k : Keeps O w w'
  z1 : ∀ b, Z b → Z' b
  z2 : ∀ b, Z' b → Z b ∨ O b
  t : Tra w w' Z Z' H H' φ φ'
  o : ∀ b, Z b → w'.heap[b]? = w.heap[b]?
theorem Way.trans {O : Nat → Prop} {w w' w'' : World} {Z Z' Z'' : Nat → Prop} {H H' H'' : Heap} {φ φ' φ'' : Nat → Value} (a : Way O w w' Z Z' H H' φ φ') (b : Way O w' w'' Z' Z'' H' H'' φ' φ'') : Way O w w'' Z Z'' H H'' φ φ'' :=
  ⟨a.k.trans b.k, fun x h => b.z1 x (a.z1 x h), fun x h => (b.z2 x h).elim (a.z2 x) .inr, a.t.trans b.t, fun x h => (b.o x (a.z1 x h)).trans (a.o x h)⟩
theorem Way.refl (O : Nat → Prop) (w : World) (Z : Nat → Prop) (H : Heap) (φ : Nat → Value) : Way O w w Z Z H H φ φ := ⟨Keeps.refl _ _, fun _ h => h, fun _ h => .inl h, Tra.refl _ _ _ _, fun _ _ => rfl⟩
theorem Since.way {En : Ent} {Z Z' : Nat → Prop} {H H' : Heap} {φ φ' : Nat → Value} {w w' : World} (h : Since En Z H φ w) (b : Way En.O w w' Z Z' H H' φ φ') : Since En Z' H' φ' w' :=
  ⟨h.k.trans b.k, fun x hx => b.z1 x (h.z1 x hx), fun x hx => (b.z2 x hx).elim (h.z2 x) .inr, h.t.trans b.t, fun x hx => (b.o x (h.z1 x hx)).trans (h.o x hx)⟩
theorem Inv.put {En : Ent} {nt : Nat} {s : St} {a : Act} {w w' : World} {Z Z' : Nat → Prop} {φ φ' : Nat → Value} {h' : Heap} (hs : Sim C En.O nt Z φ s a w) (hS : Since En Z s.h φ w) (hm : Marks En.w.heap.size Z w a.defers)
    (hh : SimH C En.O Z' φ' h' w') (W : Way En.O w w' Z Z' s.h h' φ φ') {v : AV} {u : Value} (hv : RepA w' Z' h' φ' v u) {d : Option Tmp} {D : Option Ps} (hd : compD nt d = some D) : Inv C En nt ⟨putT s.t D v, h'⟩ (a.put d u) w' :=
  ⟨Z', φ', ⟨hh, hs.g.go W.z1 W.o, fun b hb => hs.b b (Nat.le_trans W.k.size hb), by rw [size_put]; exact hs.sz, RepT.put hs.sz (hs.t.tra W.t) hd hv⟩, hS.way W, by rw [defers_put]; exact hm.go W.z1 W.o⟩
theorem inv_skip {En : Ent} {nt : Nat} {s : St} {a : Act} {w : World} (hv : Inv C En nt s a w) {d : Option Tmp} {D : Option Ps} (hd : compD nt d = some D) : Inv C En nt ⟨putT s.t D (.tp []), s.h⟩ (a.put d undef) w := by
  obtain ⟨Z, φ, hs, hS, hm⟩ := hv
  exact Inv.put hs hS hm hs.h (Way.refl _ _ _ _ _) undef_rep hd
theorem Way.stays {C : Cfg} {O Z Z' : Nat → Prop} {φ : Nat → Value} {H : Heap} {w w' : World} (hs : SimH C O Z φ H w) (hb : ∀ b, w.heap.size ≤ b → O b) (hst : Stays w w') (hz : ∀ b, Z b → Z' b) (hn : ∀ b, Z' b → Z b ∨ (w.heap.size ≤ b ∧ b < w'.heap.size)) : Way O w w' Z Z' H H φ φ :=
  ⟨.of_stays hst, hz, fun b h => (hn b h).elim .inl fun h => .inr (hb b h.1), (Turn.stays H φ hst hs.zlt hz).tra, fun b h => hst.block b (hs.zlt b h)⟩
def exOk (w : World) (Z : Nat → Prop) (H : Heap) (φ : Nat → Value) : AX → Exit → Prop
  | .normal, .normal => True
  | .ret, .ret => True
  | .exit i, .exit j => i = j
  | .panic v, .panic c => ∃ u, c = [{ v := u, recovered := false }] ∧ RepA w Z H φ v u
  | _, _ => False
def PostK (C : Cfg) (En : Ent) (nt : Nat) (K : KT) : Exit → Act → World → Prop :=
  fun e a w => ∃ e' s', (K e' s').holds ∧ ∃ Z φ, Sim C En.O nt Z φ s' a w ∧ Since En Z s'.h φ w ∧ Marks En.w.heap.size Z w a.defers ∧ exOk w Z s'.h φ e' e
theorem PostK.normal {En : Ent} {nt : Nat} {K : KT} {s : St} {a : Act} {w : World} (h : (K .normal s).holds) (hv : Inv C En nt s a w) : PostK C En nt K .normal a w :=
  let ⟨Z, φ, h1, h2, h3⟩ := hv; ⟨.normal, s, h, Z, φ, h1, h2, h3, trivial⟩
theorem opd_rep {G : Globs} {w : World} {Z : Nat → Prop} {H : Heap} {φ : Nat → Value} {t : Tr} {a : Act} (hg : GRep G w Z) {x : Operand} (ht : ∀ j, x = .tmp j → RepA w Z H φ (Tr.get (ofN j) t) (a.tmps.getD j undef)) {X : Opd} (hx : compX x = some X) :
    RepA w Z H φ (evT G t X) (a.eval x) := by
  cases x with
  | tmp j =>
    simp only [compX] at hx
    cases hx
    exact ht j rfl
  | const v =>
    simp only [compX, Option.map_eq_some_iff] at hx
    obtain ⟨p, hp, rfl⟩ := hx
    simp only [evT, Act.eval]
    unfold absV at hp
    split at hp
    · split at hp
      · rename_i cs _ l hl
        cases hp
        simp only [RepA]
        exact ⟨cs.toList, by simp, absL_rep0 hl⟩
      · cases hp
    · split at hp
      · rename_i p hp'
        cases hp
        simp only [RepA, RepC]
        exact absC_rep0 hp'
      · cases hp
  | global g =>
    simp only [compX] at hx
    cases hx
    simp only [evT, glob, Act.eval]
    split
    · rename_i c f hgf
      simp only [RepA, RepC]
      exact (hg g c f hgf).1
    · simp only [RepA]
  | func f =>
    simp only [compX] at hx
    cases hx
    simp only [evT, Act.eval, fnV, RepA, RepC]
    exact .raw _ rfl
theorem opdRep {O : Nat → Prop} {nt : Nat} {Z : Nat → Prop} {φ : Nat → Value} {s : St} {a : Act} {w : World} (hs : Sim C O nt Z φ s a w) (xs : Array Operand) : OpdRep w Z s.h φ (evT C.G s.t) a xs := fun x _ X hX => opd_rep hs.g (fun j _ => hs.t j) hX
theorem compO_spec {P : Program} {md : Nat → Bool} {nt : Nat} {ops : Array Oper} {o : Oper} {m : MOp} (h : compO P md nt ops o = some m) : compD nt o.dst = some m.dst ∧ compG ops o = some m.gd ∧ match m.op with | .a p => compOp P md o = some p | .m p => compM P o = some p | .x p => compXC P md o = some p := by
  unfold compO at h
  split at h
  · rename_i g d hg hd
    split at h
    · rename_i p hp
      cases h
      exact ⟨hd, hg, hp⟩
    · split at h
      · rename_i p hp
        cases h
        exact ⟨hd, hg, hp⟩
      · split at h
        · rename_i p hp
          cases h
          exact ⟨hd, hg, hp⟩
        · cases h
  · cases h
theorem guard_spec {ops : Array Oper} {o : Oper} {g : Option (Ps × Bool)} (hg : compG ops o = some g) {t : Tr} {a : Act} {w : World} {Z : Nat → Prop} {H : Heap} {φ : Nat → Value}
    (ht : ∀ j want, o.guard = some (j, want) → ∀ q, (ops[j]?).bind (·.dst) = some q → RepA w Z H φ (Tr.get (ofN q) t) (a.tmps.getD q undef) ∧ q < a.tmps.size) {b : Bool} (h : guardB t g = some b) : Region.wanted o (yielded ops a.tmps) = b := by
  unfold compG at hg
  unfold Region.wanted
  split at hg
  · rename_i ho
    cases hg
    simp only [guardB] at h
    cases h
    simp [ho]
  · rename_i j want ho
    split at hg
    · rename_i q hq
      cases hg
      simp only [ho]
      simp only [guardB] at h
      obtain ⟨hrep, hlt⟩ := ht j want ho q hq
      split at h
      · rename_i x hx
        cases h
        rw [hx] at hrep
        have := repP_bool hrep
        have e : a.tmps[q]? = some (.bool x) := by
          rw [Array.getElem?_eq_getElem hlt]
          simp [Array.getD, hlt] at this
          rw [this]
        cases x <;> cases want <;> simp [yielded, hq, e, eqB]
      · rename_i hx
        cases h
        rw [hx] at hrep
        simp only [RepA, RepAs] at hrep
        obtain ⟨us, hu, rfl⟩ := hrep
        have e : a.tmps[q]? = some (.tuple #[]) := by
          rw [Array.getElem?_eq_getElem hlt]
          simp [Array.getD, hlt] at hu
          rw [hu]
        simp [yielded, hq, e]
      · cases h
    · cases hg
def DstOk (nt : Nat) (ops : Array Oper) : Prop := ∀ (i : Nat) (o : Oper) (d : Nat), ops[i]? = some o → o.dst = some d → d < nt
theorem compOs_get {P : Program} {md : Nat → Bool} {nt : Nat} {ops : Array Oper} : ∀ {l : List Oper} {ml : List MOp}, compOs P md nt ops l = some ml → ml.length = l.length ∧ ∀ (i : Nat) (o : Oper), l[i]? = some o → ∃ m, ml[i]? = some m ∧ compO P md nt ops o = some m
  | [], ml, h => by
    simp only [compOs] at h
    cases h
    exact ⟨rfl, fun i o h => by simp at h⟩
  | o :: l, ml, h => by
    simp only [compOs] at h
    split at h
    · rename_i m q hm hq
      cases h
      have ih := compOs_get hq
      refine ⟨by simpa using ih.1, fun i o' hi => ?_⟩
      cases i with
      | zero => simp at hi; subst hi; exact ⟨m, rfl, hm⟩
      | succ i => simpa using ih.2 i o' (by simpa using hi)
    · cases h
theorem compOs_dst {P : Program} {md : Nat → Bool} {nt : Nat} {ops : Array Oper} {ml : List MOp} (h : compOs P md nt ops ops.toList = some ml) : DstOk nt ops := fun i o d hi hd => by
  obtain ⟨m, _, hm⟩ := (compOs_get h).2 i o (by simpa using hi)
  exact compD_lt (compO_spec hm).1 hd
def XGoal (C : Cfg) (E : Ev) : Prop := ∀ (md : Nat → Bool) (o : Oper) (p : OX), compXC C.P md o = some p → ∀ (s : St) (K Kp : AV → Heap → VC), (opX C E s p K Kp).holds →
  ∀ (O : Nat → Prop) (nt : Nat) (Z : Nat → Prop) (φ : Nat → Value) (a : Act) (w : World), Sim C O nt Z φ s a w → ∀ (F : Fence) (n : Nat), WF F → (∀ l, F.round = some l → ∃ r, w.heap[l]? = some (.loop r)) → ∀ (next : Act → World → Prop) (Q : Exit → Act → World → Prop),
    (∀ (u : Value) (w' : World) (Z' : Nat → Prop) (φ' : Nat → Value) (v : AV) (h' : Heap), (K v h').holds → SimH C O Z' φ' h' w' → Way O w w' Z Z' s.h h' φ φ' → RepA w' Z' h' φ' v u → next (a.put o.dst u) w') →
    (∀ (u : Value) (w' : World) (Z' : Nat → Prop) (φ' : Nat → Value) (v : AV) (h' : Heap), (Kp v h').holds → SimH C O Z' φ' h' w' → Way O w w' Z Z' s.h h' φ φ' → RepA w' Z' h' φ' v u → Q (.panic [{ v := u, recovered := false }]) a w') → o.wpIn F n C.P a w next Q
section
variable {F : Fence} {n : Nat} {En : Ent} {nt : Nat}
theorem step_op (hF : WF F) (hE : EvCalls C E) (hX : XGoal C E) (hR : ∀ l, F.round = some l → ∃ r, En.w.heap[l]? = some (.loop r)) {ops : Array Oper} {i : Nat} {o : Oper} {m : MOp} {l : List MOp} (hdo : DstOk nt ops) (hi : ops[i]? = some o) (hc : compO C.P md nt ops o = some m) {s : St} {K : KT} (h : (runOps C E (m :: l) s K).holds) {a : Act} {w : World}
    (hv : Inv C En nt s a w) : wpOpIn F n C.P ops (PostK C En nt K) i (fun a' w' => ∃ s', (runOps C E l s' K).holds ∧ Inv C En nt s' a' w') a w := by
  obtain ⟨e1, e2, e3⟩ := compO_spec hc
  obtain ⟨Z, φ, hs, hS, hm⟩ := hv
  have hguard : ∀ b, guardB s.t m.gd = some b → Region.wanted o (yielded ops a.tmps) = b := fun b hb => guard_spec (w := w) (Z := Z) (H := s.h) (φ := φ) e2 (fun j want hj q hq => ⟨hs.t q, by
    refine Nat.lt_of_lt_of_le ?_ hs.sz
    cases hoj : ops[j]? with
    | none => rw [hoj] at hq; cases hq
    | some oj => rw [hoj] at hq; exact hdo j oj q hoj hq⟩) hb
  unfold wpOpIn
  rw [hi]
  dsimp only
  rcases hg : guardB s.t m.gd with _ | _ | _
  · simp only [runOps, hg] at h
    exact False.elim h
  · simp only [runOps, hg] at h
    rw [hguard _ hg, if_neg (by simp)]
    exact ⟨fun f _ => hF.fn f, _, h, inv_skip ⟨Z, φ, hs, hS, hm⟩ e1⟩
  · rw [hguard _ hg, if_pos rfl]
    cases hp : m.op with
    | a p =>
      simp only [runOps, hg, hp] at h
      rw [hp] at e3
      obtain ⟨v, hK, hgoal⟩ := opA_sound hE (fun _ => rfl) e3 h
      have hK := brR_holds hK
      exact hgoal En.O Z φ a w hs.h hs.g (opdRep hs _) F n hF _ _ fun u w' Z' hv hst hz hn => ⟨_, hK, Inv.put hs hS hm (hs.h.stays hst hz hn) (Way.stays hs.h hs.b hst hz hn) hv e1⟩
    | m p =>
      simp only [runOps, hg, hp] at h
      rw [hp] at e3
      obtain ⟨v, H', hK, hgoal⟩ := opMz_sound e3 h
      exact hgoal En.O Z φ a w hs.h hs.b (opdRep hs _) F n hF _ _ fun u w' Z' φ' hh hk hz1 hz2 hob hv T => ⟨_, hK, Inv.put hs hS hm hh ⟨hk, hz1, hz2, T, hob⟩ hv e1⟩
    | x p =>
      simp only [runOps, hg, hp] at h
      rw [hp] at e3
      refine hX md o p e3 s _ _ h En.O nt Z φ a w hs F n hF (fun l hl => let ⟨r, hr⟩ := hR l hl; let ⟨r', h', _⟩ := hS.k.lp l r hr; ⟨r', h'⟩) _ _ (fun u w' Z' φ' v h' hK hh W hv => ⟨_, hK, Inv.put hs hS hm hh W hv e1⟩) fun u w' Z' φ' v h' hK hh W hv => ?_
      exact ⟨.panic v, ⟨s.t, h'⟩, hK, Z', φ', ⟨hh, hs.g.go W.z1 W.o, fun b hb => hs.b b (Nat.le_trans W.k.size hb), hs.sz, hs.t.tra W.t⟩, hS.way W, hm.go W.z1 W.o, u, rfl, hv⟩
theorem seq_ops (hF : WF F) (hE : EvCalls C E) (hX : XGoal C E) (hR : ∀ l, F.round = some l → ∃ r, En.w.heap[l]? = some (.loop r)) {ops : Array Oper} {ml : List MOp} (hc : compOs C.P md nt ops ops.toList = some ml) {K : KT} :
    ∀ (m k : Nat) (s : St) (a : Act) (w : World), k + m = ops.size → (runOps C E (ml.drop k) s K).holds → Inv C En nt s a w → wpOpsIn F n C.P ops (PostK C En nt K) (List.range' k m) a w
  | 0, k, s, a, w, hk, h, hv => by
    have hl := (compOs_get hc).1
    rw [List.drop_eq_nil_of_le (by simp at hl; omega)] at h
    simp only [List.range'_zero, wpOpsIn]
    exact PostK.normal h hv
  | m + 1, k, s, a, w, hk, h, hv => by
    have hl := compOs_get hc
    have hlt : k < ops.size := by omega
    have ho : ops[k]? = some ops[k] := Array.getElem?_eq_getElem hlt
    obtain ⟨mo, hm, hcm⟩ := hl.2 k ops[k] (by simp)
    have hd : ml.drop k = mo :: ml.drop (k + 1) := by
      obtain ⟨h1, h2⟩ := List.getElem?_eq_some_iff.1 hm
      rw [List.drop_eq_getElem_cons h1, h2]
    rw [hd] at h
    rw [List.range'_succ, wpOpsIn_cons]
    refine wpOpIn_mono (fun a' w' h' => ?_) (step_op hF hE hX hR (compOs_dst hc) ho hcm h hv)
    obtain ⟨s', hr, hv'⟩ := h'
    exact seq_ops hF hE hX hR hc m (k + 1) s' a' w' (by omega) hr hv'
theorem region_seq (hF : WF F) (hE : EvCalls C E) (hX : XGoal C E) (hR : ∀ l, F.round = some l → ∃ r, En.w.heap[l]? = some (.loop r)) {ops : Array Oper} {ml : List MOp} {id : Nat} (hc : compOs C.P md nt ops ops.toList = some ml) {s : St} {K : KT} (h : (runOps C E ml s K).holds) {a : Act} {w : World} (hv : Inv C En nt s a w) :
    (Code.region id ops false).wpIn F n C.P (PostK C En nt K) a w := by
  refine wpIn_region ?_
  rw [List.range_eq_range']
  exact seq_ops hF hE hX hR hc ops.size 0 s a w (by omega) (by simpa using h) hv
end
end Go.Ab
