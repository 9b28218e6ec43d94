import PyProof.Rows.All
import Wide.All
import OpenK.AllK
import Wide.FinOn
import HandS.ForMost
import HandS.ForExc
import HandS.More
import HandS.IsInst
import PySem.Challenge.RW_boxpile_k04_freed_in_order
set_option Elab.async false
set_option linter.all false
set_option maxRecDepth 100000
set_option maxHeartbeats 4000000
/-! The pile as plain data: hands, boxes by number, the row of what waits to be let go. Own work; core Lean alone. -/
namespace BP

structure Bx where
  slots : List (Option Int)
  wt : Int
  sus : Bool
structure Pl where
  hands : List (Option Int)
  boxes : List (Int × Bx)
  made : Int

/-! ### boxes by number -/
def get (bs : List (Int × Bx)) (n : Int) : Option Bx := (bs.find? fun e => decide (e.1 = n)).map (·.2)
def chg (bs : List (Int × Bx)) (n : Int) (f : Bx → Bx) : List (Int × Bx) := bs.map fun e => if e.1 = n then (e.1, f e.2) else e
def rm (bs : List (Int × Bx)) (n : Int) : List (Int × Bx) := bs.filter fun e => decide (e.1 ≠ n)
def keys (bs : List (Int × Bx)) : List Int := bs.map (·.1)

theorem get_nil (n : Int) : get [] n = none := rfl
theorem get_cons (e : Int × Bx) (bs : List (Int × Bx)) (n : Int) : get (e :: bs) n = if e.1 = n then some e.2 else get bs n := by
  unfold get
  rw [List.find?_cons]
  by_cases h : e.1 = n
  · simp [h]
  · simp [h]
theorem get_chg (n m : Int) (f : Bx → Bx) : ∀ bs, get (chg bs n f) m = (get bs m).map fun b => if m = n then f b else b
  | [] => rfl
  | e :: bs => by
    have ih := get_chg n m f bs
    have e1 : chg (e :: bs) n f = (if e.1 = n then (e.1, f e.2) else e) :: chg bs n f := rfl
    rw [e1, get_cons, get_cons, ih]
    by_cases h : e.1 = n
    · rw [if_pos h]
      by_cases h2 : e.1 = m
      · have : m = n := h2.symm.trans h
        simp [h2, this]
      · simp [h2]
    · rw [if_neg h]
      by_cases h2 : e.1 = m
      · have : ¬ m = n := fun q => h (h2.trans q)
        simp [h2, this]
      · simp [h2]
theorem get_rm (n m : Int) : ∀ bs, get (rm bs n) m = if m = n then none else get bs m
  | [] => by simp [rm, get]
  | e :: bs => by
    have ih := get_rm n m bs
    by_cases h : e.1 = n
    · have e1 : rm (e :: bs) n = rm bs n := by unfold rm; simp [List.filter_cons, h]
      rw [e1, ih, get_cons]
      by_cases h2 : m = n
      · simp [h2]
      · have : ¬ e.1 = m := fun q => h2 (q.symm.trans h)
        simp [h2, this]
    · have e1 : rm (e :: bs) n = e :: rm bs n := by unfold rm; simp [List.filter_cons, h]
      rw [e1, get_cons, get_cons, ih]
      by_cases h2 : e.1 = m
      · have : ¬ m = n := fun q => h (h2.trans q)
        simp [h2, this]
      · simp [h2]
theorem get_snoc (n m : Int) (b : Bx) : ∀ bs, get (bs ++ [(n, b)]) m = (match get bs m with | some x => some x | none => if n = m then some b else none)
  | [] => by simp [get_cons, get_nil]
  | e :: bs => by
    have ih := get_snoc n m b bs
    rw [List.cons_append, get_cons, get_cons, ih]
    by_cases h2 : e.1 = m
    · simp [h2]
    · simp [h2]
theorem keys_chg (n : Int) (f : Bx → Bx) : ∀ bs, keys (chg bs n f) = keys bs
  | [] => rfl
  | e :: bs => by
    have ih := keys_chg n f bs
    have e1 : keys (chg (e :: bs) n f) = (if e.1 = n then (e.1, f e.2) else e).1 :: keys (chg bs n f) := rfl
    rw [e1, ih]
    by_cases h : e.1 = n <;> simp [h, keys]
theorem keys_rm (n : Int) (bs : List (Int × Bx)) : keys (rm bs n) = (keys bs).filter fun k => decide (k ≠ n) := by
  unfold keys rm
  rw [List.filter_map]
  rfl
theorem len_chg (n : Int) (f : Bx → Bx) (bs : List (Int × Bx)) : (chg bs n f).length = bs.length := List.length_map _
theorem len_rm (n : Int) (bs : List (Int × Bx)) : (rm bs n).length ≤ bs.length := List.length_filter_le _ _
theorem get_keys {bs : List (Int × Bx)} {n : Int} : (∃ b, get bs n = some b) ↔ n ∈ keys bs := by
  induction bs with
  | nil => simp [get_nil, keys]
  | cons e bs ih =>
    rw [get_cons]
    by_cases h : e.1 = n
    · simp [h, keys]
    · have : n ≠ e.1 := fun q => h q.symm
      simp only [if_neg h, ih]
      simp [keys, this]
theorem get_none {bs : List (Int × Bx)} {n : Int} : get bs n = none ↔ n ∉ keys bs := by
  rw [← get_keys]
  cases get bs n <;> simp
theorem get_mem {bs : List (Int × Bx)} {n : Int} {b : Bx} (h : get bs n = some b) : (n, b) ∈ bs := by
  induction bs with
  | nil => simp [get_nil] at h
  | cons e bs ih =>
    rw [get_cons] at h
    by_cases h1 : e.1 = n
    · rw [if_pos h1] at h
      have : e = (n, b) := by
        cases e
        simp at h1 h
        simp [h1, h]
      simp [this]
    · rw [if_neg h1] at h
      exact List.mem_cons_of_mem _ (ih h)
theorem mem_get {bs : List (Int × Bx)} {n : Int} {b : Bx} (hn : (keys bs).Nodup) (h : (n, b) ∈ bs) : get bs n = some b := by
  induction bs with
  | nil => simp at h
  | cons e bs ih =>
    rw [get_cons]
    have hn' : e.1 ∉ keys bs ∧ (keys bs).Nodup := by simpa [keys] using hn
    rcases List.mem_cons.mp h with h | h
    · subst h
      simp
    · have : ¬ e.1 = n := fun q => hn'.1 (by rw [q]; exact List.mem_map.mpr ⟨_, h, rfl⟩)
      rw [if_neg this]
      exact ih hn'.2 h
theorem nodup_lt {l : List Int} (h : l.Pairwise (· < ·)) : l.Nodup := h.imp fun h => Int.ne_of_lt h

/-! ### pointers counted -/
def cnt (l : List (Option Int)) (n : Int) : Nat := l.count (some n)
def one (x : Option Int) (n : Int) : Nat := if x = some n then 1 else 0
def scnt (bs : List (Int × Bx)) (n : Int) : Nat := (bs.map fun e => cnt e.2.slots n).sum
theorem cnt_nil (n : Int) : cnt [] n = 0 := rfl
theorem cnt_cons (x : Option Int) (l : List (Option Int)) (n : Int) : cnt (x :: l) n = one x n + cnt l n := by
  unfold cnt one
  rw [List.count_cons]
  by_cases h : x = some n
  · simp [h]; omega
  · simp [h]
theorem cnt_append (a b : List (Option Int)) (n : Int) : cnt (a ++ b) n = cnt a n + cnt b n := List.count_append
theorem cnt_set : ∀ {l : List (Option Int)} {i : Nat} {o : Option Int} (x : Option Int) (n : Int), l[i]? = some o → cnt (l.set i x) n + one o n = cnt l n + one x n
  | [], i, o, x, n, h => by simp at h
  | y :: l, 0, o, x, n, h => by
    have : y = o := by simpa using h
    subst this
    rw [List.set_cons_zero, cnt_cons, cnt_cons]
    omega
  | y :: l, i + 1, o, x, n, h => by
    have ih := cnt_set x n (show l[i]? = some o by simpa using h)
    rw [List.set_cons_succ, cnt_cons, cnt_cons]
    omega
theorem cnt_pos {l : List (Option Int)} {n : Int} : 0 < cnt l n ↔ some n ∈ l := by
  unfold cnt
  exact List.count_pos_iff
theorem cnt_none : ∀ (k : Nat) (n : Int), cnt (List.replicate k none) n = 0
  | 0, n => rfl
  | k + 1, n => by
    rw [List.replicate_succ, cnt_cons, cnt_none k n]
    simp [one]
theorem scnt_nil (n : Int) : scnt [] n = 0 := rfl
theorem scnt_cons (e : Int × Bx) (bs : List (Int × Bx)) (n : Int) : scnt (e :: bs) n = cnt e.2.slots n + scnt bs n := by simp [scnt]
theorem scnt_append (a b : List (Int × Bx)) (n : Int) : scnt (a ++ b) n = scnt a n + scnt b n := by simp [scnt]
theorem scnt_chg_same {k : Int} {f : Bx → Bx} (hf : ∀ b, (f b).slots = b.slots) (n : Int) : ∀ bs, scnt (chg bs k f) n = scnt bs n
  | [] => rfl
  | e :: bs => by
    have ih := scnt_chg_same (k := k) hf n bs
    have e1 : chg (e :: bs) k f = (if e.1 = k then (e.1, f e.2) else e) :: chg bs k f := rfl
    rw [e1, scnt_cons, scnt_cons, ih]
    by_cases h : e.1 = k
    · simp [h, hf]
    · simp [h]
theorem chg_no {k : Int} {f : Bx → Bx} : ∀ {bs : List (Int × Bx)}, k ∉ keys bs → chg bs k f = bs
  | [], _ => rfl
  | e :: bs, h => by
    have h' : k ≠ e.1 ∧ k ∉ keys bs := by simpa [keys] using h
    have e1 : chg (e :: bs) k f = (if e.1 = k then (e.1, f e.2) else e) :: chg bs k f := rfl
    rw [e1, chg_no h'.2, if_neg (fun q => h'.1 q.symm)]
theorem rm_no {k : Int} : ∀ {bs : List (Int × Bx)}, k ∉ keys bs → rm bs k = bs
  | [], _ => rfl
  | e :: bs, h => by
    have h' : k ≠ e.1 ∧ k ∉ keys bs := by simpa [keys] using h
    have e1 : rm (e :: bs) k = e :: rm bs k := by
      unfold rm
      have : ¬ e.1 = k := fun q => h'.1 q.symm
      simp [List.filter_cons, this]
    rw [e1, rm_no h'.2]
theorem scnt_chg {k : Int} {f : Bx → Bx} {b : Bx} (n : Int) : ∀ {bs : List (Int × Bx)}, (keys bs).Nodup → get bs k = some b → scnt (chg bs k f) n + cnt b.slots n = scnt bs n + cnt (f b).slots n
  | [], _, h => by simp [get_nil] at h
  | e :: bs, hn, h => by
    have hn' : e.1 ∉ keys bs ∧ (keys bs).Nodup := by simpa [keys] using hn
    have e1 : chg (e :: bs) k f = (if e.1 = k then (e.1, f e.2) else e) :: chg bs k f := rfl
    rw [get_cons] at h
    rw [e1, scnt_cons, scnt_cons]
    by_cases h1 : e.1 = k
    · rw [if_pos h1] at h
      have : e.2 = b := Option.some.inj h
      rw [if_pos h1, chg_no (by rw [← h1]; exact hn'.1), this]
      show cnt (f b).slots n + _ + _ = _
      omega
    · rw [if_neg h1] at h
      have ih := scnt_chg (f := f) n hn'.2 h
      rw [if_neg h1]
      omega
theorem scnt_rm {k : Int} {b : Bx} (n : Int) : ∀ {bs : List (Int × Bx)}, (keys bs).Nodup → get bs k = some b → scnt (rm bs k) n + cnt b.slots n = scnt bs n
  | [], _, h => by simp [get_nil] at h
  | e :: bs, hn, h => by
    have hn' : e.1 ∉ keys bs ∧ (keys bs).Nodup := by simpa [keys] using hn
    rw [get_cons] at h
    rw [scnt_cons]
    by_cases h1 : e.1 = k
    · rw [if_pos h1] at h
      have : e.2 = b := Option.some.inj h
      have e1 : rm (e :: bs) k = rm bs k := by unfold rm; simp [List.filter_cons, h1]
      rw [e1, rm_no (by rw [← h1]; exact hn'.1), this]
      omega
    · rw [if_neg h1] at h
      have ih := scnt_rm n hn'.2 h
      have e1 : rm (e :: bs) k = e :: rm bs k := by unfold rm; simp [List.filter_cons, h1]
      rw [e1, scnt_cons]
      omega
theorem scnt_le {bs : List (Int × Bx)} {k : Int} {b : Bx} (n : Int) (h : get bs k = some b) : cnt b.slots n ≤ scnt bs n := by
  induction bs with
  | nil => simp [get_nil] at h
  | cons e bs ih =>
    rw [get_cons] at h
    rw [scnt_cons]
    by_cases h1 : e.1 = k
    · rw [if_pos h1] at h
      have : e.2 = b := Option.some.inj h
      rw [this]
      omega
    · rw [if_neg h1] at h
      have := ih h
      omega

/-! ### what a step of letting go does -/
def room (bs : List (Int × Bx)) : Nat := (bs.map fun e => e.2.slots.length).sum
theorem room_cons (e : Int × Bx) (bs : List (Int × Bx)) : room (e :: bs) = e.2.slots.length + room bs := by simp [room]
theorem room_chg {k : Int} {f : Bx → Bx} (hf : ∀ b, (f b).slots.length = b.slots.length) : ∀ bs, room (chg bs k f) = room bs
  | [] => rfl
  | e :: bs => by
    have ih := room_chg (k := k) hf bs
    have e1 : chg (e :: bs) k f = (if e.1 = k then (e.1, f e.2) else e) :: chg bs k f := rfl
    rw [e1, room_cons, room_cons, ih]
    by_cases h : e.1 = k
    · simp [h, hf]
    · simp [h]
theorem room_rm {k : Int} {b : Bx} : ∀ {bs : List (Int × Bx)}, (keys bs).Nodup → get bs k = some b → room (rm bs k) + b.slots.length = room bs
  | [], _, h => by simp [get_nil] at h
  | e :: bs, hn, h => by
    have hn' : e.1 ∉ keys bs ∧ (keys bs).Nodup := by simpa [keys] using hn
    rw [get_cons] at h
    rw [room_cons]
    by_cases h1 : e.1 = k
    · rw [if_pos h1] at h
      have : e.2 = b := Option.some.inj h
      have e1 : rm (e :: bs) k = rm bs k := by unfold rm; simp [List.filter_cons, h1]
      rw [e1, rm_no (by rw [← h1]; exact hn'.1), this]
      omega
    · rw [if_neg h1] at h
      have ih := room_rm hn'.2 h
      have e1 : rm (e :: bs) k = e :: rm bs k := by unfold rm; simp [List.filter_cons, h1]
      rw [e1, room_cons]
      omega
theorem room_le {bs : List (Int × Bx)} (h : ∀ n b, get bs n = some b → b.slots.length ≤ 6) (hn : (keys bs).Nodup) : room bs ≤ 6 * bs.length := by
  have h' : ∀ e ∈ bs, e.2.slots.length ≤ 6 := fun e he => h e.1 e.2 (mem_get hn he)
  clear h hn
  induction bs with
  | nil => simp [room]
  | cons e bs ih =>
    rw [room_cons, List.length_cons]
    have := ih fun e he => h' e (List.mem_cons_of_mem _ he)
    have := h' e List.mem_cons_self
    omega

def low (b : Bx) : Bx := { b with wt := b.wt - 1, sus := true }
def bump (b : Bx) : Bx := { b with wt := b.wt + 1 }
/-- the first of the row is let go: the boxes behind it, what waits behind it, what is freed by it -/
def fall (bs : List (Int × Bx)) (w : List (Option Int)) : Option Int → List (Int × Bx) × List (Option Int) × List Int
  | none => (bs, w, [])
  | some n => match get bs n with
    | none => (bs, w, [])
    | some b => if b.wt = 1 then (rm bs n, w ++ b.slots, [n]) else (chg bs n low, w, [])
def go : Nat → List (Int × Bx) → List (Option Int) → List (Int × Bx) × List Int
  | 0, bs, _ => (bs, [])
  | _ + 1, bs, [] => (bs, [])
  | m + 1, bs, x :: w => ((go m (fall bs w x).1 (fall bs w x).2.1).1, (fall bs w x).2.2 ++ (go m (fall bs w x).1 (fall bs w x).2.1).2)
/-- all of the row is let go -/
def run (bs : List (Int × Bx)) (w : List (Option Int)) : List (Int × Bx) × List Int := go (w.length + room bs) bs w

/-- weights are right, with the pointers of the row w counted too -/
structure Wf (P : Pl) (w : List (Option Int)) : Prop where
  hl : P.hands.length = 8
  ks : (keys P.boxes).Pairwise (· < ·)
  lo : ∀ n, n ∈ keys P.boxes → 0 ≤ n ∧ n < P.made
  few : P.boxes.length ≤ 60
  sl : ∀ n b, get P.boxes n = some b → b.slots.length ≤ 6
  wt : ∀ n b, get P.boxes n = some b → b.wt = ((cnt P.hands n + scnt P.boxes n + cnt w n : Nat) : Int) ∧ 1 ≤ b.wt
  cl : ∀ n, 0 < cnt P.hands n + scnt P.boxes n + cnt w n → ∃ b, get P.boxes n = some b
  m0 : 0 ≤ P.made
theorem Wf.nd {P : Pl} {w : List (Option Int)} (h : Wf P w) : (keys P.boxes).Nodup := nodup_lt h.ks

/-- one step keeps the weights right; the measure falls by one -/
theorem fall_ok {P : Pl} {x : Option Int} {w : List (Option Int)} (h : Wf P (x :: w)) :
    Wf { P with boxes := (fall P.boxes w x).1 } (fall P.boxes w x).2.1 ∧ (fall P.boxes w x).2.1.length + room (fall P.boxes w x).1 = w.length + room P.boxes := by
  cases x with
  | none =>
    have c0 : ∀ n, cnt (none :: w) n = cnt w n := fun n => by rw [cnt_cons]; simp [one]
    refine ⟨⟨h.hl, h.ks, h.lo, h.few, h.sl, fun n b e => ?_, fun n e => ?_, h.m0⟩, rfl⟩
    · have := h.wt n b e
      rw [c0] at this
      exact this
    · exact h.cl n (by rw [c0]; exact e)
  | some k =>
    have c0 : ∀ n, cnt (some k :: w) n = one (some k) n + cnt w n := fun n => cnt_cons _ _ _
    obtain ⟨b, hb⟩ := h.cl k (by rw [c0]; simp [one]; omega)
    obtain ⟨wb, w1⟩ := h.wt k b hb
    have nd := h.nd
    by_cases hw : b.wt = 1
    · have ef : fall P.boxes w (some k) = (rm P.boxes k, w ++ b.slots, [k]) := by
        show (match get P.boxes k with | none => _ | some b => _) = _
        rw [hb]
        show (if b.wt = 1 then _ else _) = _
        rw [if_pos hw]
      rw [ef]
      have o1 : one (some k) k = 1 := by simp [one]
      have z : cnt P.hands k + scnt P.boxes k + cnt w k = 0 := by
        rw [hw, c0, o1] at wb
        omega
      have sc : ∀ n, scnt (rm P.boxes k) n + cnt b.slots n = scnt P.boxes n := fun n => scnt_rm n nd hb
      refine ⟨⟨h.hl, ?_, fun n hn => ?_, Nat.le_trans (len_rm _ _) h.few, fun n c e => ?_, fun n c e => ?_, fun n e => ?_, h.m0⟩, ?_⟩
      · show (keys (rm P.boxes k)).Pairwise _
        rw [keys_rm]
        exact h.ks.filter _
      · have hn' : n ∈ keys (rm P.boxes k) := hn
        rw [keys_rm] at hn'
        exact h.lo n (List.mem_filter.mp hn').1
      · have e' : get (rm P.boxes k) n = some c := e
        rw [get_rm] at e'
        by_cases q : n = k
        · rw [if_pos q] at e'; cases e'
        · rw [if_neg q] at e'
          exact h.sl n c e'
      · have e' : get (rm P.boxes k) n = some c := e
        rw [get_rm] at e'
        by_cases q : n = k
        · rw [if_pos q] at e'; cases e'
        · rw [if_neg q] at e'
          obtain ⟨w2, w3⟩ := h.wt n c e'
          refine ⟨?_, w3⟩
          have := sc n
          show c.wt = ((cnt P.hands n + scnt (rm P.boxes k) n + cnt (w ++ b.slots) n : Nat) : Int)
          have o0 : one (some k) n = 0 := by
            unfold one
            rw [if_neg (fun q2 => q (Option.some.inj q2).symm)]
          rw [c0, o0] at w2
          rw [cnt_append, w2]
          omega
      · have e' : 0 < cnt P.hands n + scnt (rm P.boxes k) n + cnt (w ++ b.slots) n := e
        rw [cnt_append] at e'
        have := sc n
        show ∃ b, get (rm P.boxes k) n = some b
        rw [get_rm]
        by_cases q : n = k
        · subst q
          omega
        · rw [if_neg q]
          exact h.cl n (by rw [c0]; omega)
      · show (w ++ b.slots).length + room (rm P.boxes k) = _
        rw [List.length_append]
        have := room_rm nd hb
        omega
    · have ef : fall P.boxes w (some k) = (chg P.boxes k low, w, []) := by
        show (match get P.boxes k with | none => _ | some b => _) = _
        rw [hb]
        show (if b.wt = 1 then _ else _) = _
        rw [if_neg hw]
      rw [ef]
      have sc : ∀ n, scnt (chg P.boxes k low) n = scnt P.boxes n := fun n => scnt_chg_same (f := low) (fun _ => rfl) n _
      refine ⟨⟨h.hl, ?_, fun n hn => ?_, ?_, fun n c e => ?_, fun n c e => ?_, fun n e => ?_, h.m0⟩, ?_⟩
      · show (keys (chg P.boxes k low)).Pairwise _
        rw [keys_chg]
        exact h.ks
      · have hn' : n ∈ keys (chg P.boxes k low) := hn
        rw [keys_chg] at hn'
        exact h.lo n hn'
      · show (chg P.boxes k low).length ≤ 60
        rw [len_chg]
        exact h.few
      · have e' : get (chg P.boxes k low) n = some c := e
        rw [get_chg] at e'
        cases g : get P.boxes n with
        | none => rw [g] at e'; cases e'
        | some d =>
          rw [g] at e'
          have e2 : (if n = k then low d else d) = c := Option.some.inj e'
          subst e2
          have := h.sl n d g
          by_cases q : n = k
          · rw [if_pos q]; exact this
          · rw [if_neg q]; exact this
      · have e' : get (chg P.boxes k low) n = some c := e
        rw [get_chg] at e'
        cases g : get P.boxes n with
        | none => rw [g] at e'; cases e'
        | some d =>
          rw [g] at e'
          have e2 : (if n = k then low d else d) = c := Option.some.inj e'
          subst e2
          obtain ⟨w2, w3⟩ := h.wt n d g
          show (if n = k then low d else d).wt = ((cnt P.hands n + scnt (chg P.boxes k low) n + cnt w n : Nat) : Int) ∧ _
          rw [sc n]
          by_cases q : n = k
          · subst q
            rw [if_pos rfl]
            have : d = b := Option.some.inj (g.symm.trans hb)
            subst this
            show d.wt - 1 = _ ∧ 1 ≤ d.wt - 1
            have o1 : one (some n) n = 1 := by simp [one]
            rw [c0, o1] at w2
            refine ⟨by omega, by omega⟩
          · rw [if_neg q]
            have o0 : one (some k) n = 0 := by
              unfold one
              rw [if_neg (fun q2 => q (Option.some.inj q2).symm)]
            rw [c0, o0] at w2
            exact ⟨by omega, w3⟩
      · have e' : 0 < cnt P.hands n + scnt (chg P.boxes k low) n + cnt w n := e
        rw [sc] at e'
        obtain ⟨c, hc⟩ := h.cl n (by rw [c0]; omega)
        show ∃ b, get (chg P.boxes k low) n = some b
        rw [get_chg, hc]
        exact ⟨_, rfl⟩
      · show w.length + room (chg P.boxes k low) = _
        rw [room_chg (f := low) (fun _ => rfl)]
theorem go_ok : ∀ {m : Nat} {P : Pl} {w : List (Option Int)}, Wf P w → w.length + room P.boxes = m → Wf { P with boxes := (go m P.boxes w).1 } []
  | 0, P, w, h, e => by
    have : w = [] := List.eq_nil_of_length_eq_zero (by omega)
    subst this
    exact h
  | m + 1, P, [], h, e => h
  | m + 1, P, x :: w, h, e => by
    obtain ⟨h1, e1⟩ := fall_ok h
    have := go_ok (m := m) h1 (by rw [List.length_cons] at e; show _ + room (fall P.boxes w x).1 = m; omega)
    exact this
theorem run_ok {P : Pl} {w : List (Option Int)} (h : Wf P w) : Wf { P with boxes := (run P.boxes w).1 } [] := go_ok h rfl

/-! ### a pointer becomes another one -/
def bumped (bs : List (Int × Bx)) : Option Int → List (Int × Bx)
  | none => bs
  | some n => chg bs n bump
def setSlot (s : Nat) (x : Option Int) (b : Bx) : Bx := { b with slots := b.slots.set s x }
def slotOf (bs : List (Int × Bx)) (n : Int) (s : Nat) : Option Int := match get bs n with
  | none => none
  | some b => b.slots.getD s none
/-- a hand points at x -/
def ptHand (P : Pl) (h : Nat) (x : Option Int) : Pl × List Int :=
  ({ P with hands := P.hands.set h x, boxes := (run (bumped P.boxes x) [P.hands.getD h none]).1 }, (run (bumped P.boxes x) [P.hands.getD h none]).2)
/-- a slot of the box n points at x -/
def ptSlot (P : Pl) (n : Int) (s : Nat) (x : Option Int) : Pl × List Int :=
  ({ P with boxes := (run (chg (bumped P.boxes x) n (setSlot s x)) [slotOf P.boxes n s]).1 }, (run (chg (bumped P.boxes x) n (setSlot s x)) [slotOf P.boxes n s]).2)
/-- a new box stands there, at which nothing points -/
def born (P : Pl) (size : Nat) : Pl := { P with boxes := P.boxes ++ [(P.made, ⟨List.replicate size none, 0, false⟩)], made := P.made + 1 }
def mk (P : Pl) (h size : Nat) : Pl × List Int := ptHand (born P size) h (some P.made)

/-- weights are right, but that of x may be 0 yet -/
structure Pre (P : Pl) (x : Option Int) : Prop where
  hl : P.hands.length = 8
  ks : (keys P.boxes).Pairwise (· < ·)
  lo : ∀ n, n ∈ keys P.boxes → 0 ≤ n ∧ n < P.made
  few : P.boxes.length ≤ 60
  sl : ∀ n b, get P.boxes n = some b → b.slots.length ≤ 6
  wt : ∀ n b, get P.boxes n = some b → b.wt = ((cnt P.hands n + scnt P.boxes n : Nat) : Int) ∧ (1 ≤ b.wt ∨ x = some n)
  cl : ∀ n, 0 < cnt P.hands n + scnt P.boxes n → ∃ b, get P.boxes n = some b
  m0 : 0 ≤ P.made
  hx : ∀ n, x = some n → ∃ b, get P.boxes n = some b
theorem Wf.pre {P : Pl} {x : Option Int} (h : Wf P []) (hx : ∀ n, x = some n → ∃ b, get P.boxes n = some b) : Pre P x :=
  ⟨h.hl, h.ks, h.lo, h.few, h.sl, fun n b e => by
    obtain ⟨a, b⟩ := h.wt n b e
    exact ⟨a, .inl b⟩, fun n e => h.cl n e, h.m0, hx⟩
/-- what a hand holds is alive -/
theorem Wf.hand {P : Pl} {w : List (Option Int)} (h : Wf P w) {i : Nat} {n : Int} (e : P.hands.getD i none = some n) : ∃ b, get P.boxes n = some b := by
  refine h.cl n ?_
  have : some n ∈ P.hands := by
    rw [List.getD_eq_getElem?_getD] at e
    cases q : P.hands[i]? with
    | none => rw [q] at e; cases e
    | some y =>
      rw [q] at e
      have : y = some n := e
      rw [← this]
      exact List.mem_of_getElem? q
  have := cnt_pos.mpr this
  omega
theorem Wf.slot {P : Pl} {w : List (Option Int)} (h : Wf P w) {k : Int} {b : Bx} {i : Nat} {n : Int} (hb : get P.boxes k = some b) (e : b.slots.getD i none = some n) : ∃ b, get P.boxes n = some b := by
  refine h.cl n ?_
  have : some n ∈ b.slots := by
    rw [List.getD_eq_getElem?_getD] at e
    cases q : b.slots[i]? with
    | none => rw [q] at e; cases e
    | some y =>
      rw [q] at e
      have : y = some n := e
      rw [← this]
      exact List.mem_of_getElem? q
  have h1 := cnt_pos.mpr this
  have h2 := scnt_le n hb
  omega
theorem get_bumped {bs : List (Int × Bx)} {x : Option Int} {n : Int} : get (bumped bs x) n = (get bs n).map fun b => if x = some n then bump b else b := by
  cases x with
  | none =>
    show get bs n = _
    cases get bs n <;> simp
  | some k =>
    show get (chg bs k bump) n = _
    rw [get_chg]
    cases get bs n with
    | none => rfl
    | some b =>
      by_cases q : n = k
      · simp [q]
      · have : ¬ (some k = some n) := fun z => q (Option.some.inj z).symm
        simp [q, this]
theorem keys_bumped {bs : List (Int × Bx)} {x : Option Int} : keys (bumped bs x) = keys bs := by
  cases x with
  | none => rfl
  | some k => exact keys_chg _ _ _
theorem len_bumped {bs : List (Int × Bx)} {x : Option Int} : (bumped bs x).length = bs.length := by
  cases x with
  | none => rfl
  | some k => exact len_chg _ _ _
theorem scnt_bumped {bs : List (Int × Bx)} {x : Option Int} (n : Int) : scnt (bumped bs x) n = scnt bs n := by
  cases x with
  | none => rfl
  | some k => exact scnt_chg_same (f := bump) (fun _ => rfl) n _
theorem room_bumped {bs : List (Int × Bx)} {x : Option Int} : room (bumped bs x) = room bs := by
  cases x with
  | none => rfl
  | some k => exact room_chg (f := bump) (fun _ => rfl) _
theorem getD_some {l : List (Option Int)} {i : Nat} (h : i < l.length) : l[i]? = some (l.getD i none) := by
  rw [List.getD_eq_getElem?_getD, List.getElem?_eq_getElem h]
  rfl
/-- a hand is set: what it pointed at waits -/
theorem Pre.hand {P : Pl} {x : Option Int} (h : Pre P x) {i : Nat} (hi : i < 8) : Wf { P with hands := P.hands.set i x, boxes := bumped P.boxes x } [P.hands.getD i none] := by
  have hold := getD_some (l := P.hands) (i := i) (by rw [h.hl]; exact hi)
  have c1 : ∀ n, cnt (P.hands.set i x) n + one (P.hands.getD i none) n = cnt P.hands n + one x n := fun n => cnt_set x n hold
  have c2 : ∀ n, cnt [P.hands.getD i none] n = one (P.hands.getD i none) n := fun n => by rw [cnt_cons, cnt_nil]; rfl
  refine ⟨by show (P.hands.set i x).length = 8; rw [List.length_set]; exact h.hl, by show (keys (bumped P.boxes x)).Pairwise _; rw [keys_bumped]; exact h.ks, fun n hn => ?_, by show (bumped P.boxes x).length ≤ 60; rw [len_bumped]; exact h.few, fun n c e => ?_, fun n c e => ?_, fun n e => ?_, h.m0⟩
  · have hn' : n ∈ keys (bumped P.boxes x) := hn
    rw [keys_bumped] at hn'
    exact h.lo n hn'
  · have e' : get (bumped P.boxes x) n = some c := e
    rw [get_bumped] at e'
    cases g : get P.boxes n with
    | none => rw [g] at e'; cases e'
    | some d =>
      rw [g] at e'
      have e2 : (if x = some n then bump d else d) = c := Option.some.inj e'
      subst e2
      have := h.sl n d g
      by_cases q : x = some n
      · rw [if_pos q]; exact this
      · rw [if_neg q]; exact this
  · have e' : get (bumped P.boxes x) n = some c := e
    rw [get_bumped] at e'
    cases g : get P.boxes n with
    | none => rw [g] at e'; cases e'
    | some d =>
      rw [g] at e'
      have e2 : (if x = some n then bump d else d) = c := Option.some.inj e'
      subst e2
      obtain ⟨w2, w3⟩ := h.wt n d g
      show _ = ((cnt (P.hands.set i x) n + scnt (bumped P.boxes x) n + cnt [P.hands.getD i none] n : Nat) : Int) ∧ _
      rw [scnt_bumped, c2]
      have := c1 n
      by_cases q : x = some n
      · rw [if_pos q]
        have o1 : one x n = 1 := by simp [one, q]
        show d.wt + 1 = _ ∧ 1 ≤ d.wt + 1
        refine ⟨by omega, by omega⟩
      · rw [if_neg q]
        have o0 : one x n = 0 := by simp [one, q]
        refine ⟨by omega, w3.resolve_right q⟩
  · have e' : 0 < cnt (P.hands.set i x) n + scnt (bumped P.boxes x) n + cnt [P.hands.getD i none] n := e
    rw [scnt_bumped, c2] at e'
    have := c1 n
    show ∃ b, get (bumped P.boxes x) n = some b
    rw [get_bumped]
    have : ∃ b, get P.boxes n = some b := by
      by_cases q : x = some n
      · exact h.hx n q
      · have o0 : one x n = 0 := by simp [one, q]
        exact h.cl n (by omega)
    obtain ⟨b, hb⟩ := this
    rw [hb]
    exact ⟨_, rfl⟩
/-- a slot is set: what it pointed at waits -/
theorem Pre.slot {P : Pl} {x : Option Int} (h : Pre P x) {k : Int} {b : Bx} {i : Nat} (hb : get P.boxes k = some b) (hi : i < b.slots.length) :
    Wf { P with boxes := chg (bumped P.boxes x) k (setSlot i x) } [b.slots.getD i none] := by
  have hold := getD_some hi
  have nd : (keys P.boxes).Nodup := nodup_lt h.ks
  have c1 : ∀ n, cnt (b.slots.set i x) n + one (b.slots.getD i none) n = cnt b.slots n + one x n := fun n => cnt_set x n hold
  have c2 : ∀ n, cnt [b.slots.getD i none] n = one (b.slots.getD i none) n := fun n => by rw [cnt_cons, cnt_nil]; rfl
  have hb' : get (bumped P.boxes x) k = some (if x = some k then bump b else b) := by rw [get_bumped, hb]; rfl
  have hbs : (if x = some k then bump b else b).slots = b.slots := by
    by_cases q : x = some k
    · rw [if_pos q]; rfl
    · rw [if_neg q]
  have c3 : ∀ n, scnt (chg (bumped P.boxes x) k (setSlot i x)) n + cnt b.slots n = scnt P.boxes n + cnt (b.slots.set i x) n := fun n => by
    have := scnt_chg (f := setSlot i x) n (by rw [keys_bumped]; exact nd) hb'
    rw [scnt_bumped, hbs] at this
    have e : (setSlot i x (if x = some k then bump b else b)).slots = b.slots.set i x := by
      show (if x = some k then bump b else b).slots.set i x = _
      rw [hbs]
    rw [e] at this
    exact this
  have gg : ∀ n, get (chg (bumped P.boxes x) k (setSlot i x)) n = (get P.boxes n).map fun d => if n = k then setSlot i x (if x = some n then bump d else d) else (if x = some n then bump d else d) := fun n => by
    rw [get_chg, get_bumped]
    cases get P.boxes n <;> rfl
  have kk : keys (chg (bumped P.boxes x) k (setSlot i x)) = keys P.boxes := by rw [keys_chg, keys_bumped]
  refine ⟨h.hl, by show (keys (chg (bumped P.boxes x) k (setSlot i x))).Pairwise _; rw [kk]; exact h.ks, fun n hn => ?_, by show (chg (bumped P.boxes x) k (setSlot i x)).length ≤ 60; rw [len_chg, len_bumped]; exact h.few, fun n c e => ?_, fun n c e => ?_, fun n e => ?_, h.m0⟩
  · have hn' : n ∈ keys (chg (bumped P.boxes x) k (setSlot i x)) := hn
    rw [kk] at hn'
    exact h.lo n hn'
  · have e' : get (chg (bumped P.boxes x) k (setSlot i x)) n = some c := e
    rw [gg] at e'
    cases g : get P.boxes n with
    | none => rw [g] at e'; cases e'
    | some d =>
      rw [g] at e'
      have e2 : (if n = k then setSlot i x (if x = some n then bump d else d) else (if x = some n then bump d else d)) = c := Option.some.inj e'
      subst e2
      have := h.sl n d g
      have q : (if x = some n then bump d else d).slots = d.slots := by
        by_cases q : x = some n
        · rw [if_pos q]; rfl
        · rw [if_neg q]
      by_cases q2 : n = k
      · rw [if_pos q2]
        show ((if x = some n then bump d else d).slots.set i x).length ≤ 6
        rw [List.length_set, q]
        exact this
      · rw [if_neg q2, q]
        exact this
  · have e' : get (chg (bumped P.boxes x) k (setSlot i x)) n = some c := e
    rw [gg] at e'
    cases g : get P.boxes n with
    | none => rw [g] at e'; cases e'
    | some d =>
      rw [g] at e'
      have e2 : (if n = k then setSlot i x (if x = some n then bump d else d) else (if x = some n then bump d else d)) = c := Option.some.inj e'
      have wc : c.wt = (if x = some n then bump d else d).wt := by
        rw [← e2]
        by_cases q2 : n = k
        · rw [if_pos q2]; rfl
        · rw [if_neg q2]
      obtain ⟨w2, w3⟩ := h.wt n d g
      rw [wc]
      show _ = ((cnt P.hands n + scnt (chg (bumped P.boxes x) k (setSlot i x)) n + cnt [b.slots.getD i none] n : Nat) : Int) ∧ _
      rw [c2]
      have := c1 n
      have := c3 n
      by_cases q : x = some n
      · rw [if_pos q]
        have o1 : one x n = 1 := by simp [one, q]
        show d.wt + 1 = _ ∧ 1 ≤ d.wt + 1
        refine ⟨by omega, by omega⟩
      · rw [if_neg q]
        have o0 : one x n = 0 := by simp [one, q]
        refine ⟨by omega, w3.resolve_right q⟩
  · have e' : 0 < cnt P.hands n + scnt (chg (bumped P.boxes x) k (setSlot i x)) n + cnt [b.slots.getD i none] n := e
    rw [c2] at e'
    have := c1 n
    have := c3 n
    show ∃ b, get (chg (bumped P.boxes x) k (setSlot i x)) n = some b
    rw [gg]
    have : ∃ b, get P.boxes n = some b := by
      by_cases q : x = some n
      · exact h.hx n q
      · have o0 : one x n = 0 := by simp [one, q]
        exact h.cl n (by omega)
    obtain ⟨b, hb⟩ := this
    rw [hb]
    exact ⟨_, rfl⟩
theorem scnt_born (P : Pl) (size : Nat) (n : Int) : scnt (born P size).boxes n = scnt P.boxes n := by
  show scnt (P.boxes ++ _) n = _
  rw [scnt_append, scnt_cons, scnt_nil]
  show _ + (cnt (List.replicate size none) n + 0) = _
  rw [cnt_none]
  rfl
theorem get_born {P : Pl} {w : List (Option Int)} (h : Wf P w) (size : Nat) (n : Int) : get (born P size).boxes n = if n = P.made then some ⟨List.replicate size none, 0, false⟩ else get P.boxes n := by
  show get (P.boxes ++ _) n = _
  rw [get_snoc]
  by_cases q : n = P.made
  · have : get P.boxes n = none := get_none.mpr fun z => by have := (h.lo n z).2; omega
    rw [this]
    simp [q]
  · have : ¬ P.made = n := fun z => q z.symm
    rw [if_neg q]
    cases get P.boxes n <;> simp [this]
theorem Wf.born {P : Pl} (h : Wf P []) {size : Nat} (hs : size ≤ 6) (hf : P.boxes.length < 60) : Pre (born P size) (some P.made) := by
  have gm := get_born h size
  refine ⟨h.hl, ?_, fun n hn => ?_, ?_, fun n b e => ?_, fun n b e => ?_, fun n e => ?_, ?_, fun n e => ?_⟩
  · show (keys (P.boxes ++ _)).Pairwise _
    unfold keys
    rw [List.map_append, List.pairwise_append]
    refine ⟨h.ks, List.pairwise_singleton _ _, fun a ha b hb => ?_⟩
    have : b = P.made := by simpa using hb
    rw [this]
    exact (h.lo a ha).2
  · have hn' : n ∈ keys (P.boxes ++ [(P.made, _)]) := hn
    unfold keys at hn'
    rw [List.map_append, List.mem_append] at hn'
    have m0 := h.m0
    show 0 ≤ n ∧ n < P.made + 1
    rcases hn' with q | q
    · have := h.lo n q
      omega
    · have : n = P.made := by simpa using q
      omega
  · show (P.boxes ++ _).length ≤ 60
    rw [List.length_append]
    show P.boxes.length + 1 ≤ 60
    omega
  · rw [gm] at e
    by_cases q : n = P.made
    · rw [if_pos q] at e
      have := Option.some.inj e
      rw [← this]
      show (List.replicate size none).length ≤ 6
      rw [List.length_replicate]
      exact hs
    · rw [if_neg q] at e
      exact h.sl n b e
  · rw [gm] at e
    rw [scnt_born]
    show _ = ((cnt P.hands n + _ : Nat) : Int) ∧ _
    by_cases q : n = P.made
    · rw [if_pos q] at e
      have eb := Option.some.inj e
      refine ⟨?_, .inr (by rw [q])⟩
      rw [← eb]
      show (0 : Int) = _
      have : ¬ 0 < cnt P.hands n + scnt P.boxes n := fun z => by
        obtain ⟨c, hc⟩ := h.cl n z
        have := (h.lo n (get_keys.mp ⟨c, hc⟩)).2
        omega
      omega
    · rw [if_neg q] at e
      obtain ⟨a, c⟩ := h.wt n b e
      exact ⟨a, .inl c⟩
  · rw [scnt_born] at e
    have e' : 0 < cnt P.hands n + scnt P.boxes n := e
    obtain ⟨c, hc⟩ := h.cl n e'
    rw [gm]
    by_cases q : n = P.made
    · rw [if_pos q]; exact ⟨_, rfl⟩
    · rw [if_neg q]; exact ⟨c, hc⟩
  · have := h.m0
    show 0 ≤ P.made + 1
    omega
  · rw [gm, ← Option.some.inj e, if_pos rfl]
    exact ⟨_, rfl⟩
/-- the numbers of those that are suspects -/
def susp (P : Pl) : List Int := (keys P.boxes).filter fun n => match get P.boxes n with | none => false | some b => b.sus
theorem ptHand_ok {P : Pl} {x : Option Int} (h : Pre P x) {i : Nat} (hi : i < 8) : Wf (ptHand P i x).1 [] := run_ok (h.hand hi)
theorem ptSlot_ok {P : Pl} {x : Option Int} (h : Pre P x) {k : Int} {b : Bx} {i : Nat} (hb : get P.boxes k = some b) (hi : i < b.slots.length) : Wf (ptSlot P k i x).1 [] := by
  have e : slotOf P.boxes k i = b.slots.getD i none := by
    unfold slotOf
    rw [hb]
  have := run_ok (h.slot hb hi)
  rw [← e] at this
  exact this
theorem mk_ok {P : Pl} (h : Wf P []) {i size : Nat} (hi : i < 8) (hs : size ≤ 6) (hf : P.boxes.length < 60) : Wf (mk P i size).1 [] := ptHand_ok (h.born hs hf) hi
def pl0 : Pl := ⟨List.replicate 8 none, [], 0⟩
theorem wf0 : Wf pl0 [] := ⟨rfl, List.Pairwise.nil, fun n h => by simp [pl0, keys] at h, by decide, fun n b e => by simp [pl0, get_nil] at e, fun n b e => by simp [pl0, get_nil] at e, fun n e => by
  have h1 : cnt pl0.hands n = 0 := cnt_none 8 n
  have h2 : scnt pl0.boxes n = 0 := rfl
  rw [h1, h2, cnt_nil] at e
  omega, by decide⟩
end BP

/-! The pile as it lies in the heap. Own work. -/
namespace BP
open PySem L2

def oV : Option Int → V
  | none => .non
  | some n => .int n
def lV (l : List (Option Int)) : List V := l.map oV
theorem lV_get {l : List (Option Int)} {i : Nat} (h : i < l.length) : (lV l)[i]? = some (oV (l.getD i none)) := by
  unfold lV
  rw [List.getElem?_map, getD_some h]
  rfl
theorem lV_set (l : List (Option Int)) (i : Nat) (x : Option Int) : (lV l).set i (oV x) = lV (l.set i x) := by
  unfold lV
  rw [List.map_set]
theorem lV_len (l : List (Option Int)) : (lV l).length = l.length := List.length_map _

/-! ### the attributes -/
theorem s_hb : ¬ (("_hands" : Str) = "_boxes") := by decide +kernel
theorem s_hm : ¬ (("_hands" : Str) = "_made") := by decide +kernel
theorem s_bm : ¬ (("_boxes" : Str) = "_made") := by decide +kernel
theorem s_bh : ¬ (("_boxes" : Str) = "_hands") := by decide +kernel
theorem s_sw : ¬ (("slots" : Str) = "weight") := by decide +kernel
theorem s_ss : ¬ (("slots" : Str) = "suspect") := by decide +kernel
theorem s_ws : ¬ (("weight" : Str) = "suspect") := by decide +kernel
theorem s_hs : ¬ (("_hands" : Str) = "slots") := by decide +kernel
def pf (lh db : Addr) (m : Int) : List (Str × V) := putF "_made" (.int m) (putF "_boxes" (.ref db) (putF "_hands" (.ref lh) []))
theorem pf_eq (lh db : Addr) (m : Int) : pf lh db m = ([("_hands", V.ref lh), ("_boxes", V.ref db), ("_made", V.int m)] : List (Str × V)) := by
  show (putF "_made" (.int m) (if ("_hands" : Str) = "_boxes" then [(("_hands" : Str), V.ref db)] else (("_hands" : Str), V.ref lh) :: [(("_boxes" : Str), V.ref db)])) = _
  rw [if_neg s_hb]
  show (if ("_hands" : Str) = "_made" then _ else (("_hands" : Str), V.ref lh) :: (if ("_boxes" : Str) = "_made" then _ else (("_boxes" : Str), V.ref db) :: [(("_made" : Str), V.int m)])) = _
  rw [if_neg s_hm, if_neg s_bm]
theorem pf_hands (lh db : Addr) (m : Int) : (pf lh db m).lookup ("_hands" : Str) = some (.ref lh) := by
  unfold pf
  rw [lookup_putF, if_neg s_hm, lookup_putF, if_neg s_hb, lookup_putF, if_pos rfl]
theorem pf_boxes (lh db : Addr) (m : Int) : (pf lh db m).lookup ("_boxes" : Str) = some (.ref db) := by
  unfold pf
  rw [lookup_putF, if_neg s_bm, lookup_putF, if_pos rfl]
theorem pf_made (lh db : Addr) (m : Int) : (pf lh db m).lookup ("_made" : Str) = some (.int m) := by
  unfold pf
  rw [lookup_putF, if_pos rfl]
theorem pf_no (lh db : Addr) (m : Int) {x : Str} (h1 : ¬ x = "_made") (h2 : ¬ x = "_boxes") (h3 : ¬ x = "_hands") : (pf lh db m).lookup x = none := by
  unfold pf
  rw [lookup_putF, if_neg h1, lookup_putF, if_neg h2, lookup_putF, if_neg h3]
  rfl
theorem pf_put (lh db : Addr) (m z : Int) : putF "_made" (.int z) (pf lh db m) = pf lh db z := by
  rw [pf_eq, pf_eq]
  show (if ("_hands" : Str) = "_made" then _ else (("_hands" : Str), V.ref lh) :: (if ("_boxes" : Str) = "_made" then _ else (("_boxes" : Str), V.ref db) :: (if ("_made" : Str) = "_made" then [(("_made" : Str), V.int z)] else _))) = _
  rw [if_neg s_hm, if_neg s_bm, if_pos rfl]
theorem pf_len (lh db : Addr) (m : Int) : (pf lh db m).length = 3 := by rw [pf_eq]; rfl
def bf (sl : Addr) (w : Int) (s : Bool) : List (Str × V) := putF "suspect" (.bl s) (putF "weight" (.int w) (putF "slots" (.ref sl) []))
theorem bf_eq (sl : Addr) (w : Int) (s : Bool) : bf sl w s = ([("slots", V.ref sl), ("weight", V.int w), ("suspect", V.bl s)] : List (Str × V)) := by
  show (putF "suspect" (.bl s) (if ("slots" : Str) = "weight" then [(("slots" : Str), V.int w)] else (("slots" : Str), V.ref sl) :: [(("weight" : Str), V.int w)])) = _
  rw [if_neg s_sw]
  show (if ("slots" : Str) = "suspect" then _ else (("slots" : Str), V.ref sl) :: (if ("weight" : Str) = "suspect" then _ else (("weight" : Str), V.int w) :: [(("suspect" : Str), V.bl s)])) = _
  rw [if_neg s_ss, if_neg s_ws]
theorem bf_slots (sl : Addr) (w : Int) (s : Bool) : (bf sl w s).lookup ("slots" : Str) = some (.ref sl) := by
  unfold bf
  rw [lookup_putF, if_neg s_ss, lookup_putF, if_neg s_sw, lookup_putF, if_pos rfl]
theorem bf_weight (sl : Addr) (w : Int) (s : Bool) : (bf sl w s).lookup ("weight" : Str) = some (.int w) := by
  unfold bf
  rw [lookup_putF, if_neg s_ws, lookup_putF, if_pos rfl]
theorem bf_suspect (sl : Addr) (w : Int) (s : Bool) : (bf sl w s).lookup ("suspect" : Str) = some (.bl s) := by
  unfold bf
  rw [lookup_putF, if_pos rfl]
theorem bf_putw (sl : Addr) (w z : Int) (s : Bool) : putF "weight" (.int z) (bf sl w s) = bf sl z s := by
  rw [bf_eq, bf_eq]
  show (if ("slots" : Str) = "weight" then _ else (("slots" : Str), V.ref sl) :: (if ("weight" : Str) = "weight" then (("weight" : Str), V.int z) :: [(("suspect" : Str), V.bl s)] else _)) = _
  rw [if_neg s_sw, if_pos rfl]
theorem bf_puts (sl : Addr) (w : Int) (s t : Bool) : putF "suspect" (.bl t) (bf sl w s) = bf sl w t := by
  rw [bf_eq, bf_eq]
  show (if ("slots" : Str) = "suspect" then _ else (("slots" : Str), V.ref sl) :: (if ("weight" : Str) = "suspect" then _ else (("weight" : Str), V.int w) :: (if ("suspect" : Str) = "suspect" then [(("suspect" : Str), V.bl t)] else _))) = _
  rw [if_neg s_ss, if_neg s_ws, if_pos rfl]
theorem bf_len (sl : Addr) (w : Int) (s : Bool) : (bf sl w s).length = 3 := by rw [bf_eq]; rfl
theorem pf_bf (lh db sl : Addr) (m w : Int) (s : Bool) : pf lh db m ≠ bf sl w s := by
  rw [pf_eq, bf_eq]
  intro q
  injection q with q1 q2
  injection q1 with q3 q4
  exact s_hs q3

/-! ### the dict of the boxes -/
def dV (ba : Int → Addr) (bs : List (Int × Bx)) : List (Key × V) := bs.map fun e => ((Sum.inl e.1 : Key), V.ref (ba e.1))
theorem dV_cons (ba : Int → Addr) (e : Int × Bx) (bs : List (Int × Bx)) : dV ba (e :: bs) = ((Sum.inl e.1 : Key), V.ref (ba e.1)) :: dV ba bs := rfl
theorem valV_dV (ba : Int → Addr) (n : Int) : ∀ bs, valV (dV ba bs) (Sum.inl n : Key) = (get bs n).map fun _ => V.ref (ba n)
  | [] => rfl
  | e :: bs => by
    rw [dV_cons, get_cons]
    by_cases h : e.1 = n
    · rw [valV_pos (by rw [h]), if_pos h, h]
      rfl
    · rw [valV_neg (by intro q; injection q with q; exact h q), if_neg h]
      exact valV_dV ba n bs
theorem dV_len (ba : Int → Addr) (bs : List (Int × Bx)) : (dV ba bs).length = bs.length := List.length_map _
theorem dV_keys (ba : Int → Addr) (bs : List (Int × Bx)) : (dV ba bs).map (·.1) = (keys bs).map Sum.inl := by
  unfold dV keys
  rw [List.map_map, List.map_map]
  rfl
theorem dV_chg (ba : Int → Addr) (n : Int) (f : Bx → Bx) : ∀ bs, dV ba (chg bs n f) = dV ba bs
  | [] => rfl
  | e :: bs => by
    have ih := dV_chg ba n f bs
    have e1 : chg (e :: bs) n f = (if e.1 = n then (e.1, f e.2) else e) :: chg bs n f := rfl
    rw [e1, dV_cons, dV_cons, ih]
    by_cases h : e.1 = n <;> simp [h]
theorem dV_rm (ba : Int → Addr) (n : Int) : ∀ bs, dropK (dV ba bs) (Sum.inl n : Key) = dV ba (rm bs n)
  | [] => rfl
  | e :: bs => by
    have ih := dV_rm ba n bs
    rw [dV_cons]
    by_cases h : e.1 = n
    · have e1 : rm (e :: bs) n = rm bs n := by unfold rm; simp [List.filter_cons, h]
      rw [dropK_pos (by rw [h]), e1, ih]
    · have e1 : rm (e :: bs) n = e :: rm bs n := by unfold rm; simp [List.filter_cons, h]
      rw [dropK_neg (by intro q; injection q with q; exact h q), e1, ih]
      rfl
theorem dV_agree {ba bb : Int → Addr} : ∀ {bs : List (Int × Bx)}, (∀ n ∈ keys bs, ba n = bb n) → dV ba bs = dV bb bs
  | [], _ => rfl
  | e :: bs, h => by
    rw [dV_cons, dV_cons, h e.1 (by simp [keys]), dV_agree fun n hn => h n (by simp only [keys, List.map_cons, List.mem_cons]; exact .inr hn)]
theorem dV_snoc (ba : Int → Addr) (n : Int) (b : Bx) (bs : List (Int × Bx)) : dV ba (bs ++ [(n, b)]) = dV ba bs ++ [((Sum.inl n : Key), V.ref (ba n))] := by
  unfold dV
  rw [List.map_append]
  rfl

/-! ### the pile in the heap -/
/-- where the parts lie: the own dict, the hands' list, the boxes' dict, each box's own dict, each box, its slots' list -/
structure Geo where
  dx : Addr
  lh : Addr
  db : Addr
  bd : Int → Addr
  ba : Int → Addr
  sa : Int → Addr
/-- the pile P lies at p in H as g tells; R: what else of H is known, none of it the pile's -/
structure PileAt (C B p : Addr) (g : Geo) (P : Pl) (R H : Hp) : Prop where
  same : Same R H
  rp : R p = none
  rh : R g.lh = none
  rd : R g.db = none
  rb : ∀ n b, get P.boxes n = some b → R (g.ba n) = none
  rs : ∀ n b, get P.boxes n = some b → R (g.sa n) = none
  hp : H p = some (.ins C g.dx (pf g.lh g.db P.made))
  hh : H g.lh = some (.lst (lV P.hands))
  hd : H g.db = some (.dK (dV g.ba P.boxes))
  hb : ∀ n b, get P.boxes n = some b → H (g.ba n) = some (.ins B (g.bd n) (bf (g.sa n) b.wt b.sus))
  hs : ∀ n b, get P.boxes n = some b → H (g.sa n) = some (.lst (lV b.slots))
  ib : ∀ n m b c, get P.boxes n = some b → get P.boxes m = some c → g.ba n = g.ba m → n = m
  is : ∀ n m b c, get P.boxes n = some b → get P.boxes m = some c → g.sa n = g.sa m → n = m
  hn : ∀ n b, get P.boxes n = some b → g.sa n ≠ g.lh
section
variable {C B p : Addr} {g : Geo} {P : Pl} {R R' H : Hp}
theorem ins_ne_lst {C dx : Addr} {fs : List (Str × V)} {xs : List V} : HO.ins C dx fs ≠ HO.lst xs := by intro q; cases q
theorem ins_ne_dK {C dx : Addr} {fs : List (Str × V)} {xs : List (Key × V)} : HO.ins C dx fs ≠ HO.dK xs := by intro q; cases q
theorem lst_ne_dK {ys : List V} {xs : List (Key × V)} : HO.lst ys ≠ HO.dK xs := by intro q; cases q
theorem PileAt.p_lh (A : PileAt C B p g P R H) : p ≠ g.lh := ne_of A.hp A.hh ins_ne_lst
theorem PileAt.p_db (A : PileAt C B p g P R H) : p ≠ g.db := ne_of A.hp A.hd ins_ne_dK
theorem PileAt.lh_db (A : PileAt C B p g P R H) : g.lh ≠ g.db := ne_of A.hh A.hd lst_ne_dK
theorem PileAt.p_ba (A : PileAt C B p g P R H) {n : Int} {b : Bx} (h : get P.boxes n = some b) : p ≠ g.ba n := ne_of A.hp (A.hb n b h) fun q => by
  injection q with _ _ q
  exact pf_bf _ _ _ _ _ _ q
theorem PileAt.p_sa (A : PileAt C B p g P R H) {n : Int} {b : Bx} (h : get P.boxes n = some b) : p ≠ g.sa n := ne_of A.hp (A.hs n b h) ins_ne_lst
theorem PileAt.ba_lh (A : PileAt C B p g P R H) {n : Int} {b : Bx} (h : get P.boxes n = some b) : g.ba n ≠ g.lh := ne_of (A.hb n b h) A.hh ins_ne_lst
theorem PileAt.ba_db (A : PileAt C B p g P R H) {n : Int} {b : Bx} (h : get P.boxes n = some b) : g.ba n ≠ g.db := ne_of (A.hb n b h) A.hd ins_ne_dK
theorem PileAt.sa_db (A : PileAt C B p g P R H) {n : Int} {b : Bx} (h : get P.boxes n = some b) : g.sa n ≠ g.db := ne_of (A.hs n b h) A.hd lst_ne_dK
theorem PileAt.ba_sa (A : PileAt C B p g P R H) {n m : Int} {b c : Bx} (h : get P.boxes n = some b) (h2 : get P.boxes m = some c) : g.ba n ≠ g.sa m := ne_of (A.hb n b h) (A.hs m c h2) ins_ne_lst

/-- less is known -/
theorem PileAt.less (A : PileAt C B p g P R H) (s : Same R' R) : PileAt C B p g P R' H :=
  ⟨s.trans A.same, s.free A.rp, s.free A.rh, s.free A.rd, fun n b h => s.free (A.rb n b h), fun n b h => s.free (A.rs n b h), A.hp, A.hh, A.hd, A.hb, A.hs, A.ib, A.is, A.hn⟩
/-- the heap has grown -/
theorem PileAt.grow {H' : Hp} (A : PileAt C B p g P R H) (s : Same H H') : PileAt C B p g P R H' :=
  ⟨A.same.trans s, A.rp, A.rh, A.rd, A.rb, A.rs, s _ _ A.hp, s _ _ A.hh, s _ _ A.hd, fun n b e => s _ _ (A.hb n b e), fun n b e => s _ _ (A.hs n b e), A.ib, A.is, A.hn⟩
theorem same_upd {a : Addr} {o : HO} (h : R a = none) : Same R (upd R a o) := fun b u e => by
  rw [upd_ne (ne_of_none e h)]
  exact e
theorem upd_upd {a : Addr} {o u : HO} : upd (upd H a o) a u = upd H a u := by
  funext b
  by_cases h : b = a
  · rw [h, upd_same, upd_same]
  · rw [upd_ne h, upd_ne h, upd_ne h]
/-- a new object, known -/
theorem PileAt.new (A : PileAt C B p g P R H) {a : Addr} {o : HO} (h : H a = none) : PileAt C B p g P (upd R a o) (upd H a o) := by
  have n1 : ∀ {b u}, H b = some u → b ≠ a := fun e => ne_of_none e h
  refine ⟨fun b u e => ?_, ?_, ?_, ?_, fun n b e => ?_, fun n b e => ?_, ?_, ?_, ?_, fun n b e => ?_, fun n b e => ?_, A.ib, A.is, A.hn⟩
  · by_cases q : b = a
    · rw [q, upd_same] at e ⊢
      exact e
    · rw [upd_ne q] at e ⊢
      exact A.same b u e
  · rw [upd_ne (n1 A.hp)]; exact A.rp
  · rw [upd_ne (n1 A.hh)]; exact A.rh
  · rw [upd_ne (n1 A.hd)]; exact A.rd
  · rw [upd_ne (n1 (A.hb n b e))]; exact A.rb n b e
  · rw [upd_ne (n1 (A.hs n b e))]; exact A.rs n b e
  · rw [upd_ne (n1 A.hp)]; exact A.hp
  · rw [upd_ne (n1 A.hh)]; exact A.hh
  · rw [upd_ne (n1 A.hd)]; exact A.hd
  · rw [upd_ne (n1 (A.hb n b e))]; exact A.hb n b e
  · rw [upd_ne (n1 (A.hs n b e))]; exact A.hs n b e
/-- a known object is changed -/
theorem PileAt.set (A : PileAt C B p g P R H) {a : Addr} {o u : HO} (h : R a = some u) : PileAt C B p g P (upd R a o) (upd H a o) := by
  have n1 : ∀ {b}, R b = none → b ≠ a := fun e q => by rw [q, h] at e; cases e
  refine ⟨fun b u e => ?_, ?_, ?_, ?_, fun n b e => ?_, fun n b e => ?_, ?_, ?_, ?_, fun n b e => ?_, fun n b e => ?_, A.ib, A.is, A.hn⟩
  · by_cases q : b = a
    · rw [q, upd_same] at e ⊢
      exact e
    · rw [upd_ne q] at e ⊢
      exact A.same b u e
  · rw [upd_ne (n1 A.rp)]; exact A.rp
  · rw [upd_ne (n1 A.rh)]; exact A.rh
  · rw [upd_ne (n1 A.rd)]; exact A.rd
  · rw [upd_ne (n1 (A.rb n b e))]; exact A.rb n b e
  · rw [upd_ne (n1 (A.rs n b e))]; exact A.rs n b e
  · rw [upd_ne (n1 A.rp)]; exact A.hp
  · rw [upd_ne (n1 A.rh)]; exact A.hh
  · rw [upd_ne (n1 A.rd)]; exact A.hd
  · rw [upd_ne (n1 (A.rb n b e))]; exact A.hb n b e
  · rw [upd_ne (n1 (A.rs n b e))]; exact A.hs n b e
/-- a hand is set -/
theorem PileAt.hand (A : PileAt C B p g P R H) (hs : List (Option Int)) : PileAt C B p g { P with hands := hs } R (upd H g.lh (.lst (lV hs))) :=
  ⟨fun b u e => by rw [upd_ne (ne_of_none e A.rh)]; exact A.same b u e, A.rp, A.rh, A.rd, A.rb, A.rs, by rw [upd_ne A.p_lh]; exact A.hp, upd_same, by rw [upd_ne A.lh_db.symm]; exact A.hd,
    fun n b e => by rw [upd_ne (A.ba_lh e)]; exact A.hb n b e, fun n b e => by rw [upd_ne (A.hn n b e)]; exact A.hs n b e, A.ib, A.is, A.hn⟩
/-- what is known of the box n is changed, its slots are not -/
theorem PileAt.box (A : PileAt C B p g P R H) {n : Int} {b : Bx} (hb : get P.boxes n = some b) (f : Bx → Bx) (hf : (f b).slots = b.slots) :
    PileAt C B p g { P with boxes := chg P.boxes n f } R (upd H (g.ba n) (.ins B (g.bd n) (bf (g.sa n) (f b).wt (f b).sus))) := by
  have old : ∀ {m c}, get (chg P.boxes n f) m = some c → ∃ d, get P.boxes m = some d ∧ c = (if m = n then f d else d) := fun {m c} e => by
    rw [get_chg] at e
    cases q : get P.boxes m with
    | none => rw [q] at e; cases e
    | some d =>
      rw [q] at e
      exact ⟨d, rfl, (Option.some.inj e).symm⟩
  refine ⟨fun c u e => ?_, A.rp, A.rh, A.rd, fun m c e => ?_, fun m c e => ?_, ?_, ?_, ?_, fun m c e => ?_, fun m c e => ?_, fun m k c d e1 e2 => ?_, fun m k c d e1 e2 => ?_, fun m c e => ?_⟩
  · rw [upd_ne (ne_of_none e (A.rb n b hb))]; exact A.same c u e
  · obtain ⟨d, hd, _⟩ := old e; exact A.rb m d hd
  · obtain ⟨d, hd, _⟩ := old e; exact A.rs m d hd
  · rw [upd_ne (A.p_ba hb)]; exact A.hp
  · rw [upd_ne (A.ba_lh hb).symm]; exact A.hh
  · rw [upd_ne (A.ba_db hb).symm]
    show H g.db = some (.dK (dV g.ba (chg P.boxes n f)))
    rw [dV_chg]; exact A.hd
  · obtain ⟨d, hd, rfl⟩ := old e
    by_cases q : m = n
    · subst q
      have : d = b := Option.some.inj (hd.symm.trans hb)
      subst this
      rw [upd_same, if_pos rfl]
    · rw [if_neg q, upd_ne (fun z => q (A.ib m n d b hd hb z))]
      exact A.hb m d hd
  · obtain ⟨d, hd, rfl⟩ := old e
    rw [upd_ne (A.ba_sa hb hd).symm, A.hs m d hd]
    by_cases q : m = n
    · subst q
      have : d = b := Option.some.inj (hd.symm.trans hb)
      subst this
      rw [if_pos rfl, hf]
    · rw [if_neg q]
  · obtain ⟨d1, h1, _⟩ := old e1
    obtain ⟨d2, h2, _⟩ := old e2
    exact A.ib m k d1 d2 h1 h2
  · obtain ⟨d1, h1, _⟩ := old e1
    obtain ⟨d2, h2, _⟩ := old e2
    exact A.is m k d1 d2 h1 h2
  · obtain ⟨d, hd, _⟩ := old e; exact A.hn m d hd
/-- a slot of the box n is set -/
theorem PileAt.slot (A : PileAt C B p g P R H) {n : Int} {b : Bx} (hb : get P.boxes n = some b) (i : Nat) (x : Option Int) :
    PileAt C B p g { P with boxes := chg P.boxes n (setSlot i x) } R (upd H (g.sa n) (.lst (lV (b.slots.set i x)))) := by
  have old : ∀ {m c}, get (chg P.boxes n (setSlot i x)) m = some c → ∃ d, get P.boxes m = some d ∧ c = (if m = n then setSlot i x d else d) := fun {m c} e => by
    rw [get_chg] at e
    cases q : get P.boxes m with
    | none => rw [q] at e; cases e
    | some d =>
      rw [q] at e
      exact ⟨d, rfl, (Option.some.inj e).symm⟩
  refine ⟨fun c u e => ?_, A.rp, A.rh, A.rd, fun m c e => ?_, fun m c e => ?_, ?_, ?_, ?_, fun m c e => ?_, fun m c e => ?_, fun m k c d e1 e2 => ?_, fun m k c d e1 e2 => ?_, fun m c e => ?_⟩
  · rw [upd_ne (ne_of_none e (A.rs n b hb))]; exact A.same c u e
  · obtain ⟨d, hd, _⟩ := old e; exact A.rb m d hd
  · obtain ⟨d, hd, _⟩ := old e; exact A.rs m d hd
  · rw [upd_ne (A.p_sa hb)]; exact A.hp
  · rw [upd_ne (A.hn n b hb).symm]; exact A.hh
  · rw [upd_ne (A.sa_db hb).symm]
    show H g.db = some (.dK (dV g.ba (chg P.boxes n (setSlot i x))))
    rw [dV_chg]; exact A.hd
  · obtain ⟨d, hd, rfl⟩ := old e
    rw [upd_ne (A.ba_sa hd hb), A.hb m d hd]
    by_cases q : m = n
    · rw [if_pos q]; rfl
    · rw [if_neg q]
  · obtain ⟨d, hd, rfl⟩ := old e
    by_cases q : m = n
    · subst q
      have : d = b := Option.some.inj (hd.symm.trans hb)
      subst this
      rw [upd_same, if_pos rfl]
      rfl
    · rw [if_neg q, upd_ne (fun z => q (A.is m n d b hd hb z))]
      exact A.hs m d hd
  · obtain ⟨d1, h1, _⟩ := old e1
    obtain ⟨d2, h2, _⟩ := old e2
    exact A.ib m k d1 d2 h1 h2
  · obtain ⟨d1, h1, _⟩ := old e1
    obtain ⟨d2, h2, _⟩ := old e2
    exact A.is m k d1 d2 h1 h2
  · obtain ⟨d, hd, _⟩ := old e; exact A.hn m d hd
/-- a box goes -/
theorem PileAt.del (A : PileAt C B p g P R H) (n : Int) : PileAt C B p g { P with boxes := rm P.boxes n } R (upd H g.db (.dK (dropK (dV g.ba P.boxes) (Sum.inl n)))) := by
  have old : ∀ {m c}, get (rm P.boxes n) m = some c → get P.boxes m = some c := fun {m c} e => by
    rw [get_rm] at e
    by_cases q : m = n
    · rw [if_pos q] at e; cases e
    · rw [if_neg q] at e; exact e
  refine ⟨fun c u e => ?_, A.rp, A.rh, A.rd, fun m c e => A.rb m c (old e), fun m c e => A.rs m c (old e), ?_, ?_, ?_, fun m c e => ?_, fun m c e => ?_, fun m k c d e1 e2 => A.ib m k c d (old e1) (old e2), fun m k c d e1 e2 => A.is m k c d (old e1) (old e2), fun m c e => A.hn m c (old e)⟩
  · rw [upd_ne (ne_of_none e A.rd)]; exact A.same c u e
  · rw [upd_ne A.p_db]; exact A.hp
  · rw [upd_ne A.lh_db]; exact A.hh
  · rw [upd_same, dV_rm]
  · rw [upd_ne (A.ba_db (old e))]; exact A.hb m c (old e)
  · rw [upd_ne (A.sa_db (old e))]; exact A.hs m c (old e)
/-- one more is made -/
theorem PileAt.count (A : PileAt C B p g P R H) (m : Int) : PileAt C B p g { P with made := m } R (upd H p (.ins C g.dx (pf g.lh g.db m))) := by
  refine ⟨fun c u e => ?_, A.rp, A.rh, A.rd, A.rb, A.rs, upd_same, ?_, ?_, fun m c e => ?_, fun m c e => ?_, A.ib, A.is, A.hn⟩
  · rw [upd_ne (ne_of_none e A.rp)]; exact A.same c u e
  · rw [upd_ne A.p_lh.symm]; exact A.hh
  · rw [upd_ne A.p_db.symm]; exact A.hd
  · rw [upd_ne (A.p_ba e).symm]; exact A.hb m c e
  · rw [upd_ne (A.p_sa e).symm]; exact A.hs m c e
/-- a new box, known till now as an object of its own, is laid into the dict -/
theorem PileAt.add (A : PileAt C B p g P R H) {n : Int} {b : Bx} {x dx sl : Addr} (hn : get P.boxes n = none) (hx : R x = some (.ins B dx (bf sl b.wt b.sus))) (hsl : R sl = some (.lst (lV b.slots))) (hR : Same R' R) (rx : R' x = none) (rsl : R' sl = none) :
    PileAt C B p { g with bd := fun m => if m = n then dx else g.bd m, ba := fun m => if m = n then x else g.ba m, sa := fun m => if m = n then sl else g.sa m } { P with boxes := P.boxes ++ [(n, b)] } R' (upd H g.db (.dK (putK (dV g.ba P.boxes) (Sum.inl n) (.ref x)))) := by
  have hx' := A.same _ _ hx
  have hsl' := A.same _ _ hsl
  have gm : ∀ m, get (P.boxes ++ [(n, b)]) m = if m = n then some b else get P.boxes m := fun m => by
    rw [get_snoc]
    by_cases q : m = n
    · rw [q, hn, if_pos rfl]
    · have : ¬ n = m := fun z => q z.symm
      rw [if_neg q]
      cases get P.boxes m <;> simp [this]
  have old : ∀ {m c}, get (P.boxes ++ [(n, b)]) m = some c → (m = n ∧ c = b) ∨ (m ≠ n ∧ get P.boxes m = some c) := fun {m c} e => by
    rw [gm] at e
    by_cases q : m = n
    · rw [if_pos q] at e; exact .inl ⟨q, (Option.some.inj e).symm⟩
    · rw [if_neg q] at e; exact .inr ⟨q, e⟩
  have nba : ∀ {m c}, get P.boxes m = some c → g.ba m ≠ x := fun e q => by have := A.rb _ _ e; rw [q, hx] at this; cases this
  have nsa : ∀ {m c}, get P.boxes m = some c → g.sa m ≠ sl := fun e q => by have := A.rs _ _ e; rw [q, hsl] at this; cases this
  refine ⟨fun c u e => ?_, hR.free A.rp, hR.free A.rh, hR.free A.rd, fun m c e => ?_, fun m c e => ?_, ?_, ?_, ?_, fun m c e => ?_, fun m c e => ?_, fun m k c d e1 e2 => ?_, fun m k c d e1 e2 => ?_, fun m c e => ?_⟩
  · show upd H g.db _ c = _
    rw [upd_ne (ne_of_none e (hR.free A.rd))]; exact A.same c u (hR c u e)
  · show R' (if m = n then x else g.ba m) = none
    rcases old e with ⟨rfl, _⟩ | ⟨q, e'⟩
    · rw [if_pos rfl]; exact rx
    · rw [if_neg q]; exact hR.free (A.rb m c e')
  · show R' (if m = n then sl else g.sa m) = none
    rcases old e with ⟨rfl, _⟩ | ⟨q, e'⟩
    · rw [if_pos rfl]; exact rsl
    · rw [if_neg q]; exact hR.free (A.rs m c e')
  · show upd H g.db _ p = _
    rw [upd_ne A.p_db]; exact A.hp
  · show upd H g.db _ g.lh = _
    rw [upd_ne A.lh_db]; exact A.hh
  · show upd H g.db _ g.db = _
    rw [upd_same, putK_new _ (by rw [valV_dV, hn]; rfl)]
    show some (HO.dK (dV g.ba P.boxes ++ [((Sum.inl n : Key), V.ref x)])) = some (HO.dK (dV (fun m => if m = n then x else g.ba m) (P.boxes ++ [(n, b)])))
    rw [dV_snoc, dV_agree (ba := fun m => if m = n then x else g.ba m) (bb := g.ba) (fun m hm => by
      have : m ≠ n := fun z => by rw [z] at hm; exact get_none.mp hn hm
      show (if m = n then x else g.ba m) = _
      rw [if_neg this])]
    show _ = some (HO.dK (dV g.ba P.boxes ++ [((Sum.inl n : Key), V.ref (if n = n then x else g.ba n))]))
    rw [if_pos rfl]
  · show upd H g.db _ (if m = n then x else g.ba m) = some (.ins B (if m = n then dx else g.bd m) (bf (if m = n then sl else g.sa m) c.wt c.sus))
    rcases old e with ⟨rfl, rfl⟩ | ⟨q, e'⟩
    · rw [if_pos rfl, if_pos rfl, if_pos rfl, upd_ne (ne_of hx' A.hd ins_ne_dK)]; exact hx'
    · rw [if_neg q, if_neg q, if_neg q, upd_ne (A.ba_db e')]; exact A.hb m c e'
  · show upd H g.db _ (if m = n then sl else g.sa m) = some (.lst (lV c.slots))
    rcases old e with ⟨rfl, rfl⟩ | ⟨q, e'⟩
    · rw [if_pos rfl, upd_ne (ne_of hsl' A.hd lst_ne_dK)]; exact hsl'
    · rw [if_neg q, upd_ne (A.sa_db e')]; exact A.hs m c e'
  · show (if m = n then x else g.ba m) = (if k = n then x else g.ba k) → m = k
    rcases old e1 with ⟨rfl, _⟩ | ⟨q1, h1⟩
    · rcases old e2 with ⟨rfl, _⟩ | ⟨q2, h2⟩
      · intro _; rfl
      · rw [if_pos rfl, if_neg q2]
        intro z
        exact absurd z.symm (nba h2)
    · rcases old e2 with ⟨rfl, _⟩ | ⟨q2, h2⟩
      · rw [if_pos rfl, if_neg q1]
        intro z
        exact absurd z (nba h1)
      · rw [if_neg q1, if_neg q2]
        exact A.ib m k c d h1 h2
  · show (if m = n then sl else g.sa m) = (if k = n then sl else g.sa k) → m = k
    rcases old e1 with ⟨rfl, _⟩ | ⟨q1, h1⟩
    · rcases old e2 with ⟨rfl, _⟩ | ⟨q2, h2⟩
      · intro _; rfl
      · rw [if_pos rfl, if_neg q2]
        intro z
        exact absurd z.symm (nsa h2)
    · rcases old e2 with ⟨rfl, _⟩ | ⟨q2, h2⟩
      · rw [if_pos rfl, if_neg q1]
        intro z
        exact absurd z (nsa h1)
      · rw [if_neg q1, if_neg q2]
        exact A.is m k c d h1 h2
  · show (if m = n then sl else g.sa m) ≠ g.lh
    rcases old e with ⟨rfl, _⟩ | ⟨q, e'⟩
    · rw [if_pos rfl]
      intro z
      have := A.rh
      rw [← z, hsl] at this
      cases this
    · rw [if_neg q]; exact A.hn m c e'
end
/-- the pile P lies at p, its weights right; R: what else is known -/
def PileIn (C B p : Addr) (P : Pl) (R H : Hp) : Prop := (∃ g, PileAt C B p g P R H) ∧ Wf P []
end BP

/-! Piles whose slots are all empty. Own work; core Lean alone. -/
namespace BP
theorem go_nones : ∀ {m : Nat} {bs : List (Int × Bx)} {w : List (Option Int)}, (∀ x ∈ w, x = none) → go m bs w = (bs, [])
  | 0, bs, w, _ => rfl
  | m + 1, bs, [], _ => rfl
  | m + 1, bs, x :: w, h => by
    have e : x = none := h x List.mem_cons_self
    subst e
    show ((go m bs w).1, [] ++ (go m bs w).2) = (bs, [])
    rw [go_nones fun y hy => h y (List.mem_cons_of_mem _ hy)]
    rfl
theorem run_none (bs : List (Int × Bx)) : run bs [none] = (bs, []) := go_nones fun x hx => by simpa using hx
/-- a box without pointers of its own is let go -/
theorem run_some {bs : List (Int × Bx)} {n : Int} {b : Bx} (hb : get bs n = some b) (h0 : ∀ x ∈ b.slots, x = none) : run bs [some n] = if b.wt = 1 then (rm bs n, [n]) else (chg bs n low, []) := by
  show go (1 + room bs) bs [some n] = _
  rw [Nat.add_comm]
  show ((go (room bs) (fall bs [] (some n)).1 (fall bs [] (some n)).2.1).1, (fall bs [] (some n)).2.2 ++ (go (room bs) (fall bs [] (some n)).1 (fall bs [] (some n)).2.1).2) = _
  have ef : fall bs [] (some n) = if b.wt = 1 then (rm bs n, b.slots, [n]) else (chg bs n low, [], []) := by
    show (match get bs n with | none => _ | some b => _) = _
    rw [hb]
    rfl
  rw [ef]
  by_cases hw : b.wt = 1
  · rw [if_pos hw, if_pos hw, go_nones h0]
    rfl
  · rw [if_neg hw, if_neg hw, go_nones (fun x hx => by cases hx)]
    rfl
/-- all slots are empty -/
def Bare (P : Pl) : Prop := ∀ n b, get P.boxes n = some b → ∀ x ∈ b.slots, x = none
theorem cnt_nones {l : List (Option Int)} (h : ∀ x ∈ l, x = none) (n : Int) : cnt l n = 0 := by
  cases e : cnt l n with
  | zero => rfl
  | succ k =>
    have : 0 < cnt l n := by omega
    have := h _ (cnt_pos.mp this)
    cases this
theorem scnt_bare {bs : List (Int × Bx)} (hn : (keys bs).Nodup) (h : ∀ n b, get bs n = some b → ∀ x ∈ b.slots, x = none) (n : Int) : scnt bs n = 0 := by
  have h' : ∀ e ∈ bs, ∀ x ∈ e.2.slots, x = none := fun e he => h e.1 e.2 (mem_get hn he)
  clear h hn
  induction bs with
  | nil => rfl
  | cons e bs ih =>
    rw [scnt_cons, cnt_nones (h' e List.mem_cons_self), ih fun e he => h' e (List.mem_cons_of_mem _ he)]
theorem Bare.wt {P : Pl} (h : Bare P) (W : Wf P []) {n : Int} {b : Bx} (hb : get P.boxes n = some b) : b.wt = (cnt P.hands n : Int) ∧ 1 ≤ b.wt := by
  obtain ⟨a, c⟩ := W.wt n b hb
  rw [scnt_bare W.nd h n, cnt_nil] at a
  exact ⟨by omega, c⟩
theorem Bare.held {P : Pl} (h : Bare P) (W : Wf P []) (n : Int) : n ∈ keys P.boxes ↔ some n ∈ P.hands := by
  constructor
  · intro q
    obtain ⟨b, hb⟩ := get_keys.mpr q
    obtain ⟨a, c⟩ := h.wt W hb
    exact cnt_pos.mp (by omega)
  · intro q
    have := cnt_pos.mpr q
    exact get_keys.mp (W.cl n (by omega))
/-- what the hands hold, without the empty ones -/
def somes (hs : List (Option Int)) : List Int := hs.filterMap id
theorem mem_somes {hs : List (Option Int)} {n : Int} : n ∈ somes hs ↔ some n ∈ hs := by
  unfold somes
  rw [List.mem_filterMap]
  constructor
  · rintro ⟨x, hx, e⟩
    have : x = some n := e
    rw [← this]
    exact hx
  · intro h
    exact ⟨_, h, rfl⟩
theorem somes_len (hs : List (Option Int)) : (somes hs).length ≤ hs.length := List.length_filterMap_le _ _
theorem somes_cons (x : Option Int) (hs : List (Option Int)) : somes (x :: hs) = (match x with | none => somes hs | some n => n :: somes hs) := by
  cases x <;> rfl
theorem somes_append (a b : List (Option Int)) : somes (a ++ b) = somes a ++ somes b := List.filterMap_append
theorem count_somes (n : Int) : ∀ hs : List (Option Int), (somes hs).count n = cnt hs n
  | [] => rfl
  | x :: hs => by
    rw [somes_cons, cnt_cons, ← count_somes n hs]
    cases x with
    | none => simp [one]
    | some m =>
      show (m :: somes hs).count n = _
      rw [List.count_cons]
      by_cases q : m = n
      · simp [one, q]; omega
      · simp [one, q]
/-- as many alive as hands at most -/
theorem nodup_le {a : List Int} : ∀ {b : List Int}, a.Nodup → (∀ n ∈ a, n ∈ b) → a.length ≤ b.length := by
  induction a with
  | nil => intro b _ _; exact Nat.zero_le _
  | cons x a ih =>
    intro b hn h
    have hx := h x List.mem_cons_self
    have hn' := List.nodup_cons.mp hn
    have := ih (b := b.erase x) hn'.2 fun n q => (List.mem_erase_of_ne (fun z => hn'.1 (by rw [← z]; exact q))).mpr (h n (List.mem_cons_of_mem _ q))
    rw [List.length_erase_of_mem hx] at this
    have : 0 < b.length := List.length_pos_of_mem hx
    rw [List.length_cons]
    omega
theorem Bare.few {P : Pl} (h : Bare P) (W : Wf P []) : P.boxes.length ≤ 8 := by
  have e : (keys P.boxes).length = P.boxes.length := List.length_map _
  have h1 := nodup_le (b := somes P.hands) W.nd fun n q => mem_somes.mpr ((h.held W n).mp q)
  have h2 := somes_len P.hands
  rw [W.hl] at h2
  omega

/-! ### a box made -/
theorem Bare.born {P : Pl} (h : Bare P) (W : Wf P []) (size : Nat) : Bare (born P size) := fun n b e => by
  rw [get_born W size] at e
  by_cases q : n = P.made
  · rw [if_pos q] at e
    have := Option.some.inj e
    subst this
    intro x hx
    exact List.eq_of_mem_replicate hx
  · rw [if_neg q] at e
    exact h n b e
theorem slots_bumped {bs : List (Int × Bx)} {x : Option Int} (h : ∀ n b, get bs n = some b → ∀ y ∈ b.slots, y = none) : ∀ n b, get (bumped bs x) n = some b → ∀ y ∈ b.slots, y = none := fun n b e => by
  rw [get_bumped] at e
  cases g : get bs n with
  | none => rw [g] at e; cases e
  | some d =>
    rw [g] at e
    have e2 : (if x = some n then bump d else d) = b := Option.some.inj e
    subst e2
    have := h n d g
    by_cases q : x = some n
    · rw [if_pos q]; exact this
    · rw [if_neg q]; exact this
/-- a hand points at x: what becomes of the pile whose slots are empty -/
theorem ptHand_none {P : Pl} {h : Nat} {x : Option Int} (e : P.hands.getD h none = none) : ptHand P h x = ({ P with hands := P.hands.set h x, boxes := bumped P.boxes x }, []) := by
  unfold ptHand
  rw [e, run_none]
theorem ptHand_some {P : Pl} {h : Nat} {x : Option Int} {n : Int} {b : Bx} (B : Bare P) (e : P.hands.getD h none = some n) (hb : get P.boxes n = some b) :
    ptHand P h x = if (if x = some n then b.wt + 1 else b.wt) = 1 then ({ P with hands := P.hands.set h x, boxes := rm (bumped P.boxes x) n }, [n]) else ({ P with hands := P.hands.set h x, boxes := chg (bumped P.boxes x) n low }, []) := by
  have hb' : get (bumped P.boxes x) n = some (if x = some n then bump b else b) := by rw [get_bumped, hb]; rfl
  unfold ptHand
  rw [e, run_some hb' (slots_bumped B n _ hb')]
  have : (if x = some n then bump b else b).wt = (if x = some n then b.wt + 1 else b.wt) := by
    by_cases q : x = some n
    · rw [if_pos q, if_pos q]; rfl
    · rw [if_neg q, if_neg q]
  rw [this]
  by_cases q : (if x = some n then b.wt + 1 else b.wt) = 1
  · rw [if_pos q, if_pos q]
  · rw [if_neg q, if_neg q]
/-! ### each alive box is held once, none is a suspect -/
def lone : Option Int → List Int
  | none => []
  | some n => [n]
def One (P : Pl) : Prop := Bare P ∧ ∀ n b, get P.boxes n = some b → b.wt = 1 ∧ b.sus = false
theorem mk_one {P : Pl} (W : Wf P []) (O : One P) {h size : Nat} (hi : h < 8) (hs : size ≤ 6) :
    One (mk P h size).1 ∧ (mk P h size).1.hands = P.hands.set h (some P.made) ∧ (mk P h size).1.made = P.made + 1 ∧ (mk P h size).2 = lone (P.hands.getD h none) ∧
      get (mk P h size).1.boxes P.made = some ⟨List.replicate size none, 1, false⟩ := by
  have gb : ∀ n, get (bumped (born P size).boxes (some P.made)) n = if n = P.made then some ⟨List.replicate size none, 1, false⟩ else get P.boxes n := fun n => by
    rw [get_bumped, get_born W]
    by_cases q : n = P.made
    · rw [if_pos q, if_pos q, q]
      show some (if some P.made = some P.made then _ else _) = _
      rw [if_pos rfl]
      rfl
    · rw [if_neg q, if_neg q]
      cases get P.boxes n with
      | none => rfl
      | some b =>
        show some (if some P.made = some n then _ else _) = _
        rw [if_neg fun z => q (Option.some.inj z).symm]
  have one : ∀ n b, (if n = P.made then some (⟨List.replicate size none, 1, false⟩ : Bx) else get P.boxes n) = some b → (b.wt = 1 ∧ b.sus = false) ∧ ∀ x ∈ b.slots, x = none := fun n b e => by
    by_cases q : n = P.made
    · rw [if_pos q] at e
      have := Option.some.inj e
      subst this
      exact ⟨⟨rfl, rfl⟩, fun x hx => List.eq_of_mem_replicate hx⟩
    · rw [if_neg q] at e
      exact ⟨O.2 n b e, O.1 n b e⟩
  unfold mk
  cases e : P.hands.getD h none with
  | none =>
    rw [ptHand_none (P := born P size) e]
    refine ⟨⟨fun n b g => ?_, fun n b g => ?_⟩, rfl, rfl, rfl, ?_⟩
    · have g' := (gb n).symm.trans g
      exact (one n b g').2
    · have g' := (gb n).symm.trans g
      exact (one n b g').1
    · exact (gb P.made).trans (if_pos rfl)
  | some n =>
    obtain ⟨b, hb⟩ := W.hand e
    have nm : n ≠ P.made := fun z => by
      have := (W.lo n (get_keys.mp ⟨b, hb⟩)).2
      omega
    have hb' : get (born P size).boxes n = some b := by rw [get_born W, if_neg nm]; exact hb
    have nx : ¬ (some P.made = some n) := fun z => nm (Option.some.inj z).symm
    rw [ptHand_some (P := born P size) (Bare.born O.1 W size) e hb', if_neg nx, if_pos (O.2 n b hb).1]
    have gr : ∀ m, get (rm (bumped (born P size).boxes (some P.made)) n) m = if m = n then none else (if m = P.made then some ⟨List.replicate size none, 1, false⟩ else get P.boxes m) := fun m => by
      rw [get_rm, gb]
    refine ⟨⟨fun m c g => ?_, fun m c g => ?_⟩, rfl, rfl, rfl, ?_⟩
    · have g' := (gr m).symm.trans g
      by_cases q : m = n
      · rw [if_pos q] at g'; cases g'
      · rw [if_neg q] at g'
        exact (one m c g').2
    · have g' := (gr m).symm.trans g
      by_cases q : m = n
      · rw [if_pos q] at g'; cases g'
      · rw [if_neg q] at g'
        exact (one m c g').1
    · exact (gr P.made).trans (by rw [if_neg nm.symm, if_pos rfl])
theorem count_nodup {l : List Int} (h : l.Nodup) (n : Int) : l.count n = if n ∈ l then 1 else 0 := by
  by_cases q : n ∈ l
  · rw [if_pos q]
    have h1 := List.count_pos_iff.mpr q
    have h2 := List.nodup_iff_count.mp h n
    omega
  · rw [if_neg q]
    exact List.count_eq_zero.mpr q
/-- what is alive is what hands hold, each once -/
theorem One.perm {P : Pl} (W : Wf P []) (O : One P) : (somes P.hands).Perm (keys P.boxes) := by
  rw [List.perm_iff_count]
  intro n
  rw [count_somes, count_nodup W.nd]
  by_cases q : n ∈ keys P.boxes
  · rw [if_pos q]
    obtain ⟨b, hb⟩ := get_keys.mpr q
    have h1 := (O.1.wt W hb).1
    rw [(O.2 n b hb).1] at h1
    omega
  · rw [if_neg q]
    have := mt (O.1.held W n).mpr q
    cases e : cnt P.hands n with
    | zero => rfl
    | succ k => exact absurd (cnt_pos.mp (by omega)) this
theorem one0 : One pl0 := ⟨fun n b e => by simp [pl0, get_nil] at e, fun n b e => by simp [pl0, get_nil] at e⟩
end BP

/-! Hands that hold boxes without pointers: what a deed frees, who is a suspect. Own work; core Lean alone. -/
namespace BP
/-- what a hand lets go of is freed where no hand holds it any more -/
def gone (hs : List (Option Int)) : Option Int → List Int
  | none => []
  | some n => if cnt hs n = 0 then [n] else []
theorem gone_sub {hs : List (Option Int)} {o : Option Int} {n : Int} : n ∈ gone hs o ↔ o = some n ∧ cnt hs n = 0 := by
  cases o with
  | none => simp [gone]
  | some m =>
    show (n ∈ if cnt hs m = 0 then [m] else []) ↔ _
    by_cases c : cnt hs m = 0
    · rw [if_pos c, List.mem_singleton]
      constructor
      · intro e; subst e; exact ⟨rfl, c⟩
      · rintro ⟨e, _⟩; exact (Option.some.inj e).symm
    · rw [if_neg c]
      constructor
      · intro e; cases e
      · rintro ⟨e, z⟩
        have : m = n := Option.some.inj e
        subst this
        exact absurd z c
/-- weights of boxes without pointers, the new one's too -/
theorem Pre.bareWt {P : Pl} {x : Option Int} (h : Pre P x) (B : Bare P) {n : Int} {b : Bx} (hb : get P.boxes n = some b) : b.wt = (cnt P.hands n : Int) := by
  have := (h.wt n b hb).1
  rw [scnt_bare (nodup_lt h.ks) B n] at this
  omega
structure HeldStep (P : Pl) (h : Nat) (x : Option Int) : Prop where
  bare : Bare (ptHand P h x).1
  hands : (ptHand P h x).1.hands = P.hands.set h x
  made : (ptHand P h x).1.made = P.made
  freed : (ptHand P h x).2 = gone (P.hands.set h x) (P.hands.getD h none)
  sus : ∀ m, (∃ b, get (ptHand P h x).1.boxes m = some b ∧ b.sus = true) ↔ (m ∉ gone (P.hands.set h x) (P.hands.getD h none) ∧ ((∃ b, get P.boxes m = some b ∧ b.sus = true) ∨ (P.hands.getD h none = some m)))
theorem heldStep {P : Pl} {x : Option Int} (B : Bare P) (h : Pre P x) {i : Nat} (hi : i < 8) : HeldStep P i x := by
  have gbs : ∀ m, get (bumped P.boxes x) m = (get P.boxes m).map fun b => if x = some m then bump b else b := fun m => get_bumped
  have sb : ∀ m b, get (bumped P.boxes x) m = some b → ∃ d, get P.boxes m = some d ∧ b.sus = d.sus ∧ b.slots = d.slots := fun m b e => by
    rw [gbs] at e
    cases g : get P.boxes m with
    | none => rw [g] at e; cases e
    | some d =>
      rw [g] at e
      have e2 : (if x = some m then bump d else d) = b := Option.some.inj e
      subst e2
      refine ⟨d, rfl, ?_⟩
      by_cases q : x = some m
      · rw [if_pos q]; exact ⟨rfl, rfl⟩
      · rw [if_neg q]; exact ⟨rfl, rfl⟩
  have sb2 : ∀ m d, get P.boxes m = some d → ∃ b, get (bumped P.boxes x) m = some b ∧ b.sus = d.sus := fun m d e => by
    rw [gbs, e]
    refine ⟨_, rfl, ?_⟩
    show (if x = some m then bump d else d).sus = d.sus
    by_cases q : x = some m
    · rw [if_pos q]; rfl
    · rw [if_neg q]
  have hold := getD_some (l := P.hands) (i := i) (by rw [h.hl]; exact hi)
  cases e : P.hands.getD i none with
  | none =>
    have ep := ptHand_none (P := P) (x := x) e
    rw [e] at hold
    refine ⟨?_, by rw [ep], by rw [ep], by rw [ep, e]; rfl, fun m => ?_⟩
    · rw [ep]
      intro n b g
      obtain ⟨d, hd, _, es⟩ := sb n b g
      rw [es]
      exact B n d hd
    · rw [ep, e]
      constructor
      · rintro ⟨b, g, s⟩
        obtain ⟨d, hd, es, _⟩ := sb m b g
        exact ⟨fun z => (by cases z), .inl ⟨d, hd, by rw [← es]; exact s⟩⟩
      · rintro ⟨_, z | z⟩
        · obtain ⟨d, hd, s⟩ := z
          obtain ⟨b, g, es⟩ := sb2 m d hd
          exact ⟨b, g, by rw [es]; exact s⟩
        · cases z
  | some n =>
    rw [e] at hold
    obtain ⟨b, hb⟩ : ∃ b, get P.boxes n = some b := h.cl n (by
      have : 0 < cnt P.hands n := cnt_pos.mpr (List.mem_of_getElem? hold)
      omega)
    have ep := ptHand_some (x := x) B e hb
    have ew := h.bareWt B hb
    have ec := cnt_set x n hold
    have o1 : one (some n) n = 1 := by simp [one]
    rw [o1] at ec
    have key : ((if x = some n then b.wt + 1 else b.wt) = 1) ↔ cnt (P.hands.set i x) n = 0 := by
      by_cases q : x = some n
      · rw [if_pos q]
        have : one x n = 1 := by simp [one, q]
        rw [this] at ec
        omega
      · rw [if_neg q]
        have : one x n = 0 := by simp [one, q]
        rw [this] at ec
        omega
    by_cases c : cnt (P.hands.set i x) n = 0
    · rw [if_pos (key.mpr c)] at ep
      have eg : gone (P.hands.set i x) (some n) = [n] := if_pos c
      refine ⟨?_, by rw [ep], by rw [ep], by rw [ep, e, eg], fun m => ?_⟩
      · rw [ep]
        intro m d g
        have g' : get (rm (bumped P.boxes x) n) m = some d := g
        rw [get_rm] at g'
        by_cases q : m = n
        · rw [if_pos q] at g'; cases g'
        · rw [if_neg q] at g'
          obtain ⟨d2, hd, _, es⟩ := sb m d g'
          rw [es]
          exact B m d2 hd
      · rw [ep, e, eg]
        constructor
        · rintro ⟨d, g, s⟩
          have g' : get (rm (bumped P.boxes x) n) m = some d := g
          rw [get_rm] at g'
          by_cases q : m = n
          · rw [if_pos q] at g'; cases g'
          · rw [if_neg q] at g'
            obtain ⟨d2, hd, es, _⟩ := sb m d g'
            exact ⟨fun z => q (List.mem_singleton.mp z), .inl ⟨d2, hd, by rw [← es]; exact s⟩⟩
        · rintro ⟨nm, z⟩
          have q : m ≠ n := fun z => nm (List.mem_singleton.mpr z)
          rcases z with ⟨d, hd, s⟩ | z
          · obtain ⟨d2, g, es⟩ := sb2 m d hd
            refine ⟨d2, ?_, by rw [es]; exact s⟩
            show get (rm (bumped P.boxes x) n) m = some d2
            rw [get_rm, if_neg q]
            exact g
          · exact absurd (Option.some.inj z).symm q
    · rw [if_neg (mt key.mp c)] at ep
      have eg : gone (P.hands.set i x) (some n) = [] := if_neg c
      refine ⟨?_, by rw [ep], by rw [ep], by rw [ep, e, eg], fun m => ?_⟩
      · rw [ep]
        intro m d g
        have g' : get (chg (bumped P.boxes x) n low) m = some d := g
        rw [get_chg] at g'
        cases g2 : get (bumped P.boxes x) m with
        | none => rw [g2] at g'; cases g'
        | some d2 =>
          rw [g2] at g'
          have e2 : (if m = n then low d2 else d2) = d := Option.some.inj g'
          obtain ⟨d3, hd, _, es⟩ := sb m d2 g2
          have : d.slots = d3.slots := by
            rw [← e2, ← es]
            by_cases q : m = n
            · rw [if_pos q]; rfl
            · rw [if_neg q]
          rw [this]
          exact B m d3 hd
      · rw [ep, e, eg]
        constructor
        · rintro ⟨d, g, s⟩
          have g' : get (chg (bumped P.boxes x) n low) m = some d := g
          rw [get_chg] at g'
          cases g2 : get (bumped P.boxes x) m with
          | none => rw [g2] at g'; cases g'
          | some d2 =>
            rw [g2] at g'
            have e2 : (if m = n then low d2 else d2) = d := Option.some.inj g'
            obtain ⟨d3, hd, es, _⟩ := sb m d2 g2
            refine ⟨fun z => (by cases z), ?_⟩
            by_cases q : m = n
            · exact .inr (by rw [q])
            · rw [if_neg q] at e2
              subst e2
              exact .inl ⟨d3, hd, by rw [← es]; exact s⟩
        · rintro ⟨_, z⟩
          have : ∃ d, get P.boxes m = some d ∧ (m = n ∨ d.sus = true) := by
            rcases z with ⟨d, hd, s⟩ | z
            · exact ⟨d, hd, .inr s⟩
            · have : n = m := Option.some.inj z
              subst this
              exact ⟨b, hb, .inl rfl⟩
          obtain ⟨d, hd, s⟩ := this
          obtain ⟨d2, g, es⟩ := sb2 m d hd
          refine ⟨if m = n then low d2 else d2, ?_, ?_⟩
          · show get (chg (bumped P.boxes x) n low) m = _
            rw [get_chg, g]
            rfl
          · by_cases q : m = n
            · rw [if_pos q]; rfl
            · rw [if_neg q, es]
              exact s.resolve_left q
/-- D names just the suspects, each once -/
def Doubt (D : List Int) (P : Pl) : Prop := D.Nodup ∧ ∀ n, n ∈ D ↔ ∃ b, get P.boxes n = some b ∧ b.sus = true
theorem doubt0 : Doubt [] pl0 := ⟨List.nodup_nil, fun n => ⟨fun h => (by cases h), fun ⟨b, e, _⟩ => by simp [pl0, get_nil] at e⟩⟩
theorem Doubt.born {D : List Int} {P : Pl} (h : Doubt D P) (W : Wf P []) (size : Nat) : Doubt D (born P size) := ⟨h.1, fun n => by
  rw [h.2 n]
  constructor
  · rintro ⟨b, hb, s⟩
    refine ⟨b, ?_, s⟩
    have : n ≠ P.made := fun z => by
      have := (W.lo n (get_keys.mp ⟨b, hb⟩)).2
      omega
    rw [get_born W, if_neg this]
    exact hb
  · rintro ⟨b, hb, s⟩
    rw [get_born W] at hb
    by_cases q : n = P.made
    · rw [if_pos q] at hb
      have := Option.some.inj hb
      rw [← this] at s
      cases s
    · rw [if_neg q] at hb
      exact ⟨b, hb, s⟩⟩
/-- how the law goes on with them: the old one comes to them, what is freed goes -/
def doubted (D : List Int) (hs : List (Option Int)) (o : Option Int) : List Int :=
  match o with
  | none => D
  | some n => if cnt hs n = 0 then D else if n ∈ D then D else D ++ [n]
theorem doubted_nodup {D : List Int} {hs : List (Option Int)} {o : Option Int} (h : D.Nodup) : (doubted D hs o).Nodup := by
  unfold doubted
  cases o with
  | none => exact h
  | some n =>
    show (if cnt hs n = 0 then D else if n ∈ D then D else D ++ [n]).Nodup
    by_cases c : cnt hs n = 0
    · rw [if_pos c]; exact h
    · rw [if_neg c]
      by_cases q : n ∈ D
      · rw [if_pos q]; exact h
      · rw [if_neg q, List.nodup_append]
        refine ⟨h, by simp, fun a ha b hb => ?_⟩
        have : b = n := by simpa using hb
        subst this
        exact fun z => q (by rw [← z]; exact ha)
theorem mem_doubted {D : List Int} {hs : List (Option Int)} {o : Option Int} {m : Int} : m ∈ doubted D hs o ↔ m ∈ D ∨ (o = some m ∧ cnt hs m ≠ 0) := by
  unfold doubted
  cases o with
  | none => simp
  | some n =>
    show m ∈ (if cnt hs n = 0 then D else if n ∈ D then D else D ++ [n]) ↔ _
    by_cases c : cnt hs n = 0
    · rw [if_pos c]
      constructor
      · exact .inl
      · rintro (z | ⟨z, y⟩)
        · exact z
        · have : n = m := Option.some.inj z
          subst this
          exact absurd c y
    · rw [if_neg c]
      by_cases q : n ∈ D
      · rw [if_pos q]
        constructor
        · exact .inl
        · rintro (z | ⟨z, y⟩)
          · exact z
          · have : n = m := Option.some.inj z
            subst this
            exact q
      · rw [if_neg q, List.mem_append, List.mem_singleton]
        constructor
        · rintro (z | z)
          · exact .inl z
          · subst z; exact .inr ⟨rfl, c⟩
        · rintro (z | ⟨z, y⟩)
          · exact .inl z
          · exact .inr (Option.some.inj z).symm
theorem Doubt.step {D : List Int} {P : Pl} {i : Nat} {x : Option Int} (h : Doubt D P) (S : HeldStep P i x) :
    Doubt ((doubted D (P.hands.set i x) (P.hands.getD i none)).filter fun n => decide (n ∉ gone (P.hands.set i x) (P.hands.getD i none))) (ptHand P i x).1 := by
  refine ⟨(doubted_nodup h.1).filter _, fun m => ?_⟩
  rw [S.sus m, List.mem_filter, mem_doubted, h.2 m, decide_eq_true_iff]
  constructor
  · rintro ⟨a | ⟨a, b⟩, c⟩
    · exact ⟨c, .inl a⟩
    · exact ⟨c, .inr a⟩
  · rintro ⟨c, a | a⟩
    · exact ⟨.inl a, c⟩
    · refine ⟨.inr ⟨a, fun z => c (gone_sub.mpr ⟨a, z⟩)⟩, c⟩
theorem mem_susp {P : Pl} {n : Int} : n ∈ susp P ↔ ∃ b, get P.boxes n = some b ∧ b.sus = true := by
  unfold susp
  rw [List.mem_filter]
  constructor
  · rintro ⟨_, e⟩
    cases g : get P.boxes n with
    | none => rw [g] at e; cases e
    | some b =>
      rw [g] at e
      exact ⟨b, rfl, e⟩
  · rintro ⟨b, g, s⟩
    refine ⟨get_keys.mp ⟨b, g⟩, ?_⟩
    rw [g]
    exact s
theorem susp_sorted {P : Pl} {w : List (Option Int)} (W : Wf P w) : (susp P).Pairwise (· < ·) := W.ks.filter _
theorem perm_of_mem {a b : List Int} (ha : a.Nodup) (hb : b.Nodup) (h : ∀ n, n ∈ a ↔ n ∈ b) : a.Perm b := by
  rw [List.perm_iff_count]
  intro n
  rw [count_nodup ha, count_nodup hb]
  by_cases q : n ∈ a
  · rw [if_pos q, if_pos ((h n).mp q)]
  · rw [if_neg q, if_neg (mt (h n).mpr q)]
theorem Doubt.perm {D : List Int} {P : Pl} {w : List (Option Int)} (h : Doubt D P) (W : Wf P w) : D.Perm (susp P) :=
  perm_of_mem h.1 (nodup_lt (susp_sorted W)) fun n => by rw [h.2 n, mem_susp]
theorem sorted_mem_eq {a b : List Int} (ha : a.Pairwise (· < ·)) (hb : b.Pairwise (· < ·)) (h : ∀ n, n ∈ a ↔ n ∈ b) : a = b :=
  (perm_of_mem (nodup_lt ha) (nodup_lt hb) h).eq_of_pairwise (fun x y _ _ h1 h2 => Int.le_antisymm h1 h2) (ha.imp fun h => Int.le_of_lt h) (hb.imp fun h => Int.le_of_lt h)
end BP

/-! Two boxes that two hands hold for good. Own work; core Lean alone. -/
namespace BP
theorem run_stay {bs : List (Int × Bx)} {n : Int} {b : Bx} (hb : get bs n = some b) (hw : b.wt ≠ 1) : run bs [some n] = (chg bs n low, []) := by
  show go (1 + room bs) bs [some n] = _
  rw [Nat.add_comm]
  show ((go (room bs) (fall bs [] (some n)).1 (fall bs [] (some n)).2.1).1, (fall bs [] (some n)).2.2 ++ (go (room bs) (fall bs [] (some n)).1 (fall bs [] (some n)).2.1).2) = _
  have ef : fall bs [] (some n) = (chg bs n low, [], []) := by
    show (match get bs n with | none => _ | some b => _) = _
    rw [hb]
    show (if b.wt = 1 then _ else _) = _
    rw [if_neg hw]
  rw [ef, go_nones (fun x hx => by cases hx)]
  rfl
/-- the two boxes, by their slots -/
def Shape (bs : List (Int × Bx)) (s0 s1 : List (Option Int)) : Prop := ∃ b0 b1 : Bx, bs = [(0, b0), (1, b1)] ∧ b0.slots = s0 ∧ b1.slots = s1
theorem Shape.chg {bs : List (Int × Bx)} {s0 s1 : List (Option Int)} (h : Shape bs s0 s1) (n : Int) (f : Bx → Bx) (hf : ∀ b, (f b).slots = b.slots) : Shape (chg bs n f) s0 s1 := by
  obtain ⟨b0, b1, rfl, e0, e1⟩ := h
  refine ⟨if (0 : Int) = n then f b0 else b0, if (1 : Int) = n then f b1 else b1, ?_, ?_, ?_⟩
  · show [if (0 : Int) = n then (0, f b0) else (0, b0), if (1 : Int) = n then (1, f b1) else (1, b1)] = _
    by_cases q : (0 : Int) = n
    · by_cases q2 : (1 : Int) = n
      · omega
      · rw [if_pos q, if_pos q, if_neg q2, if_neg q2]
    · by_cases q2 : (1 : Int) = n
      · rw [if_neg q, if_neg q, if_pos q2, if_pos q2]
      · rw [if_neg q, if_neg q, if_neg q2, if_neg q2]
  · by_cases q : (0 : Int) = n
    · rw [if_pos q, hf]; exact e0
    · rw [if_neg q]; exact e0
  · by_cases q : (1 : Int) = n
    · rw [if_pos q, hf]; exact e1
    · rw [if_neg q]; exact e1
theorem Shape.bumped {bs : List (Int × Bx)} {s0 s1 : List (Option Int)} (h : Shape bs s0 s1) (x : Option Int) : Shape (bumped bs x) s0 s1 := by
  cases x with
  | none => exact h
  | some n => exact h.chg n bump fun _ => rfl
theorem Shape.low {bs : List (Int × Bx)} {s0 s1 : List (Option Int)} (h : Shape bs s0 s1) (n : Int) : Shape (BP.chg bs n BP.low) s0 s1 := h.chg n BP.low fun _ => rfl
theorem Shape.set {bs : List (Int × Bx)} {s0 s1 : List (Option Int)} (h : Shape bs s0 s1) (n : Int) (i : Nat) (x : Option Int) :
    Shape (BP.chg bs n (setSlot i x)) (if n = 0 then s0.set i x else s0) (if n = 1 then s1.set i x else s1) := by
  obtain ⟨b0, b1, rfl, rfl, rfl⟩ := h
  refine ⟨if (0 : Int) = n then setSlot i x b0 else b0, if (1 : Int) = n then setSlot i x b1 else b1, ?_, ?_, ?_⟩
  · show [if (0 : Int) = n then (0, setSlot i x b0) else (0, b0), if (1 : Int) = n then (1, setSlot i x b1) else (1, b1)] = _
    by_cases q : (0 : Int) = n
    · by_cases q2 : (1 : Int) = n
      · omega
      · rw [if_pos q, if_pos q, if_neg q2, if_neg q2]
    · by_cases q2 : (1 : Int) = n
      · rw [if_neg q, if_neg q, if_pos q2, if_pos q2]
      · rw [if_neg q, if_neg q, if_neg q2, if_neg q2]
  · by_cases q : (0 : Int) = n
    · rw [if_pos q, if_pos q.symm]; rfl
    · rw [if_neg q, if_neg fun z => q z.symm]
  · by_cases q : (1 : Int) = n
    · rw [if_pos q, if_pos q.symm]; rfl
    · rw [if_neg q, if_neg fun z => q z.symm]
theorem Shape.keys {bs : List (Int × Bx)} {s0 s1 : List (Option Int)} (h : Shape bs s0 s1) : keys bs = [0, 1] := by
  obtain ⟨b0, b1, rfl, _, _⟩ := h
  rfl
theorem Shape.get0 {bs : List (Int × Bx)} {s0 s1 : List (Option Int)} (h : Shape bs s0 s1) : ∃ b, get bs 0 = some b ∧ b.slots = s0 := by
  obtain ⟨b0, b1, rfl, e, _⟩ := h
  exact ⟨b0, rfl, e⟩
theorem Shape.get1 {bs : List (Int × Bx)} {s0 s1 : List (Option Int)} (h : Shape bs s0 s1) : ∃ b, get bs 1 = some b ∧ b.slots = s1 := by
  obtain ⟨b0, b1, rfl, _, e⟩ := h
  exact ⟨b1, rfl, e⟩
theorem Shape.scnt {bs : List (Int × Bx)} {s0 s1 : List (Option Int)} (h : Shape bs s0 s1) (n : Int) : scnt bs n = cnt s0 n + cnt s1 n := by
  obtain ⟨b0, b1, rfl, rfl, rfl⟩ := h
  rw [scnt_cons, scnt_cons, scnt_nil]
  rfl
/-- two boxes, held by hands 6 and 7 -/
structure Two (P : Pl) (s0 s1 : List (Option Int)) : Prop where
  wf : Wf P []
  sh : Shape P.boxes s0 s1
  h6 : P.hands.getD 6 none = some 0
  h7 : P.hands.getD 7 none = some 1
theorem Two.alive {P : Pl} {s0 s1 : List (Option Int)} (h : Two P s0 s1) {n : Int} {b : Bx} (hb : get P.boxes n = some b) : n = 0 ∨ n = 1 := by
  have := get_keys.mp ⟨b, hb⟩
  rw [h.sh.keys] at this
  simpa using this
theorem held67 {hs : List (Option Int)} (h6 : hs.getD 6 none = some 0) (h7 : hs.getD 7 none = some 1) {n : Int} (hn : n = 0 ∨ n = 1) : 1 ≤ cnt hs n := by
  have mem : ∀ i k, hs.getD i none = some k → some k ∈ hs := fun i k e => by
    rw [List.getD_eq_getElem?_getD] at e
    cases q : hs[i]? with
    | none => rw [q] at e; cases e
    | some y =>
      rw [q] at e
      have : y = some k := e
      rw [← this]
      exact List.mem_of_getElem? q
  rcases hn with rfl | rfl
  · exact cnt_pos.mpr (mem _ _ h6)
  · exact cnt_pos.mpr (mem _ _ h7)
/-- what is let go beside them is not freed -/
theorem two_run {P : Pl} {s0 s1 : List (Option Int)} {o : Option Int} (W : Wf P [o]) (sh : Shape P.boxes s0 s1) (h6 : P.hands.getD 6 none = some 0) (h7 : P.hands.getD 7 none = some 1) :
    Shape (run P.boxes [o]).1 s0 s1 ∧ (run P.boxes [o]).2 = [] := by
  cases o with
  | none =>
    rw [run_none]
    exact ⟨sh, rfl⟩
  | some n =>
    obtain ⟨b, hb⟩ := W.cl n (by rw [cnt_cons]; simp [one]; omega)
    have hn : n = 0 ∨ n = 1 := by
      have := get_keys.mp ⟨b, hb⟩
      rw [sh.keys] at this
      simpa using this
    have h1 := held67 h6 h7 hn
    have h2 := (W.wt n b hb).1
    rw [cnt_cons, cnt_nil] at h2
    have o1 : one (some n) n = 1 := by simp [one]
    rw [o1] at h2
    rw [run_stay hb (by omega)]
    exact ⟨sh.low n, rfl⟩
theorem getD_set_ne {l : List (Option Int)} {i j : Nat} {x : Option Int} (h : j ≠ i) : (l.set i x).getD j none = l.getD j none := by
  rw [List.getD_eq_getElem?_getD, List.getD_eq_getElem?_getD, List.getElem?_set_ne (fun q => h q.symm)]
theorem Two.hand {P : Pl} {s0 s1 : List (Option Int)} (h : Two P s0 s1) {i : Nat} (hi : i < 6) {x : Option Int} (hx : ∀ n, x = some n → ∃ b, get P.boxes n = some b) :
    Two (ptHand P i x).1 s0 s1 ∧ (ptHand P i x).2 = [] := by
  have pre := h.wf.pre hx
  have W := pre.hand (show i < 8 by omega)
  have e6 : (P.hands.set i x).getD 6 none = some 0 := by rw [getD_set_ne (by omega)]; exact h.h6
  have e7 : (P.hands.set i x).getD 7 none = some 1 := by rw [getD_set_ne (by omega)]; exact h.h7
  obtain ⟨a, b⟩ := two_run W (h.sh.bumped x) e6 e7
  exact ⟨⟨ptHand_ok pre (by omega), a, e6, e7⟩, b⟩
theorem Two.slot {P : Pl} {s0 s1 : List (Option Int)} (h : Two P s0 s1) {n : Int} {b : Bx} (hb : get P.boxes n = some b) {i : Nat} (hi : i < b.slots.length) {x : Option Int} (hx : ∀ n, x = some n → ∃ b, get P.boxes n = some b) :
    Two (ptSlot P n i x).1 (if n = 0 then s0.set i x else s0) (if n = 1 then s1.set i x else s1) ∧ (ptSlot P n i x).2 = [] := by
  have pre := h.wf.pre hx
  have W := pre.slot hb hi
  obtain ⟨a, c⟩ := two_run W ((h.sh.bumped x).set n i x) h.h6 h.h7
  have e : slotOf P.boxes n i = b.slots.getD i none := by
    unfold slotOf
    rw [hb]
  have W2 := ptSlot_ok pre hb hi
  unfold ptSlot at W2 ⊢
  rw [e] at W2 ⊢
  exact ⟨⟨W2, a, h.h6, h.h7⟩, c⟩
/-- the two are made -/
theorem two_made {a b : Nat} (ha : a ≤ 6) (hb : b ≤ 6) : Two (mk (mk pl0 6 a).1 7 b).1 (List.replicate a none) (List.replicate b none) ∧ (mk pl0 6 a).2 = [] ∧ (mk (mk pl0 6 a).1 7 b).2 = [] ∧
    (mk (mk pl0 6 a).1 7 b).1.hands = [none, none, none, none, none, none, some 0, some 1] := by
  have e1 : mk pl0 6 a = (⟨[none, none, none, none, none, none, some 0, none], [(0, ⟨List.replicate a none, 1, false⟩)], 1⟩, []) := by
    unfold mk
    rw [ptHand_none rfl]
    rfl
  have W1 := mk_ok wf0 (i := 6) (size := a) (by decide) ha (by decide)
  have e2 : mk (mk pl0 6 a).1 7 b = (⟨[none, none, none, none, none, none, some 0, some 1], [(0, ⟨List.replicate a none, 1, false⟩), (1, ⟨List.replicate b none, 1, false⟩)], 2⟩, []) := by
    rw [e1]
    unfold mk
    rw [ptHand_none rfl]
    rfl
  have W2 := mk_ok W1 (i := 7) (size := b) (by decide) hb (by rw [e1]; show 1 < 60; omega)
  refine ⟨⟨W2, ?_, ?_, ?_⟩, by rw [e1], by rw [e2], by rw [e2]⟩
  · rw [e2]; exact ⟨_, _, rfl, rfl, rfl⟩
  · rw [e2]; rfl
  · rw [e2]; rfl
end BP

/-! Boxes numbered from 1 on, in whose making nothing is freed. Own work; core Lean alone. -/
namespace BP
/-- nothing is freed where the pointer let go is not the last one -/
theorem stay {S : Pl} {o : Option Int} (W : Wf S [o]) (ho : ∀ n, o = some n → 0 < cnt S.hands n + scnt S.boxes n) :
    (run S.boxes [o]).2 = [] ∧ ((run S.boxes [o]).1 = S.boxes ∨ ∃ n, (run S.boxes [o]).1 = chg S.boxes n low) := by
  cases o with
  | none =>
    rw [run_none]
    exact ⟨rfl, .inl rfl⟩
  | some n =>
    obtain ⟨b, hb⟩ := W.cl n (by rw [cnt_cons]; simp [one]; omega)
    have h1 := ho n rfl
    have h2 := (W.wt n b hb).1
    rw [cnt_cons, cnt_nil] at h2
    have o1 : one (some n) n = 1 := by simp [one]
    rw [o1] at h2
    rw [run_stay hb (by omega)]
    exact ⟨rfl, .inr ⟨n, rfl⟩⟩
/-- the boxes 1, 2, .. with the slots of the rows behind the first one -/
structure Rows (P : Pl) (rs : List (List (Option Int))) : Prop where
  wf : Wf P []
  made : P.made = (rs.length : Int)
  pos : 1 ≤ rs.length
  ks : ∀ n : Int, n ∈ keys P.boxes ↔ (1 ≤ n ∧ n < (rs.length : Int))
  sl : ∀ n b, get P.boxes n = some b → rs[n.toNat]? = some b.slots
/-- what stays where pointers' counts alone change -/
def Alike (as bs : List (Int × Bx)) : Prop := keys as = keys bs ∧ (∀ n b, get as n = some b → ∃ c, get bs n = some c ∧ c.slots = b.slots) ∧ ∀ n, scnt as n = scnt bs n
theorem Alike.refl (bs : List (Int × Bx)) : Alike bs bs := ⟨rfl, fun n b e => ⟨b, e, rfl⟩, fun _ => rfl⟩
theorem Alike.trans {a b c : List (Int × Bx)} (h : Alike a b) (k : Alike b c) : Alike a c := ⟨h.1.trans k.1, fun n x e => by
  obtain ⟨y, h1, e1⟩ := h.2.1 n x e
  obtain ⟨z, h2, e2⟩ := k.2.1 n y h1
  exact ⟨z, h2, e2.trans e1⟩, fun n => (h.2.2 n).trans (k.2.2 n)⟩
theorem alike_chg (bs : List (Int × Bx)) (n : Int) (f : Bx → Bx) (hf : ∀ b, (f b).slots = b.slots) : Alike (chg bs n f) bs := by
  refine ⟨keys_chg _ _ _, fun m b e => ?_, fun m => scnt_chg_same hf m bs⟩
  rw [get_chg] at e
  cases g : get bs m with
  | none => rw [g] at e; cases e
  | some d =>
    rw [g] at e
    have e2 : (if m = n then f d else d) = b := Option.some.inj e
    refine ⟨d, rfl, ?_⟩
    rw [← e2]
    by_cases q : m = n
    · rw [if_pos q, hf]
    · rw [if_neg q]
theorem alike_bumped (bs : List (Int × Bx)) (x : Option Int) : Alike (bumped bs x) bs := by
  cases x with
  | none => exact Alike.refl bs
  | some n => exact alike_chg bs n bump fun _ => rfl
theorem Rows.alike {P P' : Pl} {rs : List (List (Option Int))} (h : Rows P rs) (W : Wf P' []) (m : P'.made = P.made) (a : Alike P'.boxes P.boxes) : Rows P' rs :=
  ⟨W, m.trans h.made, h.pos, fun n => by rw [a.1]; exact h.ks n, fun n b e => by
    obtain ⟨c, hc, es⟩ := a.2.1 n b e
    rw [← es]
    exact h.sl n c hc⟩
theorem Rows.hand {P : Pl} {rs : List (List (Option Int))} (h : Rows P rs) {i : Nat} (hi : i < 8) {x : Option Int} (hx : ∀ n, x = some n → ∃ b, get P.boxes n = some b)
    (ho : ∀ n, P.hands.getD i none = some n → 0 < cnt (P.hands.set i x) n + scnt P.boxes n) :
    Rows (ptHand P i x).1 rs ∧ (ptHand P i x).2 = [] ∧ (ptHand P i x).1.hands = P.hands.set i x ∧ ∀ n, scnt (ptHand P i x).1.boxes n = scnt P.boxes n := by
  have pre := h.wf.pre hx
  have W := pre.hand hi
  obtain ⟨f, g⟩ := stay W fun n e => by
    show 0 < cnt (P.hands.set i x) n + scnt (bumped P.boxes x) n
    rw [scnt_bumped]
    exact ho n e
  have al : Alike (ptHand P i x).1.boxes P.boxes := by
    have ab := alike_bumped P.boxes x
    rcases g with g | ⟨n, g⟩
    · show Alike (run (bumped P.boxes x) [P.hands.getD i none]).1 P.boxes
      rw [show (run (bumped P.boxes x) [P.hands.getD i none]).1 = bumped P.boxes x from g]
      exact ab
    · show Alike (run (bumped P.boxes x) [P.hands.getD i none]).1 P.boxes
      rw [show (run (bumped P.boxes x) [P.hands.getD i none]).1 = chg (bumped P.boxes x) n low from g]
      exact (alike_chg _ n low fun _ => rfl).trans ab
  exact ⟨h.alike (ptHand_ok pre hi) rfl al, f, rfl, al.2.2⟩
theorem Rows.len {P : Pl} {rs : List (List (Option Int))} (h : Rows P rs) : P.boxes.length + 1 ≤ rs.length := by
  have e : (keys P.boxes).length = P.boxes.length := List.length_map _
  have := nodup_le (a := keys P.boxes) (b := (List.range (rs.length - 1)).map fun i => ((i : Nat) : Int) + 1) h.wf.nd fun n hn => by
    obtain ⟨a, b⟩ := (h.ks n).mp hn
    rw [List.mem_map]
    exact ⟨(n - 1).toNat, List.mem_range.mpr (by omega), by omega⟩
  rw [List.length_map, List.length_range] at this
  have := h.pos
  omega
theorem Rows.make {P : Pl} {rs : List (List (Option Int))} (h : Rows P rs) {i size : Nat} (hi : i < 8) (hs : size ≤ 6) (hl : rs.length ≤ 60) (hn : P.hands.getD i none = none) :
    Rows (BP.mk P i size).1 (rs ++ [List.replicate size none]) ∧ (BP.mk P i size).2 = [] ∧ (BP.mk P i size).1.hands = P.hands.set i (some P.made) ∧ ∀ n, scnt (BP.mk P i size).1.boxes n = scnt P.boxes n := by
  have few := h.len
  have W := mk_ok h.wf hi hs (by omega)
  have gb := get_born h.wf size
  have e : BP.mk P i size = ({ born P size with hands := P.hands.set i (some P.made), boxes := bumped (born P size).boxes (some P.made) }, []) := by
    unfold BP.mk
    exact ptHand_none hn
  have ab := alike_bumped (born P size).boxes (some P.made)
  have kb : keys (born P size).boxes = keys P.boxes ++ [P.made] := by
    show keys (P.boxes ++ _) = _
    unfold keys
    rw [List.map_append]
    rfl
  have hmade := h.made
  have hpos := h.pos
  rw [e] at W ⊢
  refine ⟨⟨W, ?_, by rw [List.length_append]; omega, fun n => ?_, fun n b g => ?_⟩, rfl, rfl, fun n => (ab.2.2 n).trans (scnt_born P size n)⟩
  · show P.made + 1 = _
    rw [List.length_append, List.length_singleton, hmade]
    rfl
  · show n ∈ keys (bumped (born P size).boxes (some P.made)) ↔ _
    rw [ab.1, kb, List.mem_append, h.ks n, List.mem_singleton, List.length_append, List.length_singleton, hmade]
    omega
  · obtain ⟨c, hc, es⟩ := ab.2.1 n b g
    rw [← es]
    rw [gb] at hc
    by_cases q : n = P.made
    · rw [if_pos q] at hc
      have := Option.some.inj hc
      subst this
      have : n.toNat = rs.length := by omega
      rw [this, List.getElem?_append_right (Nat.le_refl _), Nat.sub_self]
      rfl
    · rw [if_neg q] at hc
      have h1 := h.sl n c hc
      have := (List.getElem?_eq_some_iff.mp h1).1
      rw [List.getElem?_append_left this]
      exact h1
theorem Rows.get {P : Pl} {rs : List (List (Option Int))} (h : Rows P rs) {n : Int} (h1 : 1 ≤ n) (h2 : n < (rs.length : Int)) : ∃ b, get P.boxes n = some b ∧ rs[n.toNat]? = some b.slots := by
  obtain ⟨b, hb⟩ := get_keys.mpr ((h.ks n).mpr ⟨h1, h2⟩)
  exact ⟨b, hb, h.sl n b hb⟩
/-- a slot that points in a row counts -/
theorem Rows.points {P : Pl} {rs : List (List (Option Int))} (h : Rows P rs) {k : Nat} {row : List (Option Int)} (hk : 1 ≤ k) (hr : rs[k]? = some row) {n : Int} (hn : some n ∈ row) : 0 < scnt P.boxes n := by
  have hl := (List.getElem?_eq_some_iff.mp hr).1
  obtain ⟨b, hb, e⟩ := h.get (n := (k : Int)) (by omega) (by omega)
  have : b.slots = row := by
    have e' : rs[k]? = some b.slots := e
    exact Option.some.inj (e'.symm.trans hr)
  have h1 := cnt_pos.mpr hn
  have h2 := scnt_le n hb
  rw [this] at h2
  omega
theorem Rows.slot {P : Pl} {rs : List (List (Option Int))} (h : Rows P rs) {k : Int} {b : Bx} (hb : BP.get P.boxes k = some b) {i : Nat} (hi : i < b.slots.length) (h0 : b.slots.getD i none = none) {x : Option Int}
    (hx : ∀ n, x = some n → ∃ b, BP.get P.boxes n = some b) :
    Rows (ptSlot P k i x).1 (rs.set k.toNat (b.slots.set i x)) ∧ (ptSlot P k i x).2 = [] ∧ (ptSlot P k i x).1.hands = P.hands := by
  have pre := h.wf.pre hx
  have W := ptSlot_ok pre hb hi
  have e : slotOf P.boxes k i = none := by
    unfold slotOf
    rw [hb]
    exact h0
  have ep : ptSlot P k i x = ({ P with boxes := chg (bumped P.boxes x) k (setSlot i x) }, []) := by
    unfold ptSlot
    rw [e, run_none]
  rw [ep] at W ⊢
  have ab := alike_bumped P.boxes x
  have kr := (h.ks k).mp (get_keys.mp ⟨b, hb⟩)
  refine ⟨⟨W, by rw [List.length_set]; exact h.made, by rw [List.length_set]; exact h.pos, fun n => ?_, fun n c g => ?_⟩, rfl, rfl⟩
  · show n ∈ keys (chg (bumped P.boxes x) k (setSlot i x)) ↔ _
    rw [keys_chg, ab.1, List.length_set]
    exact h.ks n
  · have g' : BP.get (chg (bumped P.boxes x) k (setSlot i x)) n = some c := g
    rw [get_chg] at g'
    cases q : BP.get (bumped P.boxes x) n with
    | none => rw [q] at g'; cases g'
    | some d =>
      rw [q] at g'
      have e2 : (if n = k then setSlot i x d else d) = c := Option.some.inj g'
      obtain ⟨d2, hd, es⟩ := ab.2.1 n d q
      have h1 := h.sl n d2 hd
      have kn := (h.ks n).mp (get_keys.mp ⟨d2, hd⟩)
      by_cases qn : n = k
      · subst qn
        rw [if_pos rfl] at e2
        have : d2 = b := Option.some.inj (hd.symm.trans hb)
        subst this
        rw [List.getElem?_set_self (by omega), ← e2]
        show _ = some (d.slots.set i x)
        rw [← es]
      · rw [if_neg qn] at e2
        subst e2
        rw [List.getElem?_set_ne (by omega), h1, es]
def hd4 (h0 h1 h2 h3 : Option Int) : List (Option Int) := [h0, h1, h2, h3, none, none, none, none]
/-- a box made and let go at once -/
theorem rows0 : Rows (ptHand (BP.mk pl0 0 0).1 0 none).1 [[]] ∧ (ptHand (BP.mk pl0 0 0).1 0 none).1.hands = hd4 none none none none := by
  have W := ptHand_ok ((mk_ok wf0 (i := 0) (size := 0) (by decide) (by decide) (by decide)).pre (x := none) fun n e => by cases e) (i := 0) (by decide)
  have e : (ptHand (BP.mk pl0 0 0).1 0 none).1 = ⟨hd4 none none none none, [], 1⟩ := by
    have e1 : BP.mk pl0 0 0 = (⟨hd4 (some 0) none none none, [(0, ⟨[], 1, false⟩)], 1⟩, []) := by
      unfold BP.mk
      rw [ptHand_none rfl]
      rfl
    rw [e1]
    rfl
  rw [e] at W ⊢
  exact ⟨⟨W, rfl, Nat.le_refl _, fun n => ⟨fun h => (by cases h), fun ⟨a, b⟩ => (by have : (([[]] : List (List (Option Int))).length : Int) = 1 := rfl; omega)⟩, fun n b g => by cases g⟩, rfl⟩
theorem mem_set_none {l : List (Option Int)} {i : Nat} {x : Option Int} {t : Int} (h : some t ∈ l) (hi : i < l.length) (h0 : l.getD i none = none) : some t ∈ l.set i x := by
  obtain ⟨j, hj, e⟩ := List.mem_iff_getElem.mp h
  have hji : j ≠ i := fun z => by
    subst z
    rw [List.getD_eq_getElem?_getD, List.getElem?_eq_getElem hj, e] at h0
    cases h0
  exact List.mem_of_getElem? (i := j) (by rw [List.getElem?_set_ne fun z => hji z.symm, List.getElem?_eq_getElem hj, e])
end BP

/-! What falls, step by step. Own work; core Lean alone. -/
namespace BP
theorem fall_gone {bs : List (Int × Bx)} (w : List (Option Int)) {n : Int} (h : get bs n = none) : fall bs w (some n) = (bs, w, []) := by
  show (match get bs n with | none => (bs, w, []) | some b => if b.wt = 1 then (rm bs n, w ++ b.slots, [n]) else (chg bs n low, w, [])) = _
  rw [h]
theorem fall_free {bs : List (Int × Bx)} (w : List (Option Int)) {n : Int} {b : Bx} (h : get bs n = some b) (c : b.wt = 1) : fall bs w (some n) = (rm bs n, w ++ b.slots, [n]) := by
  show (match get bs n with | none => (bs, w, []) | some b => if b.wt = 1 then (rm bs n, w ++ b.slots, [n]) else (chg bs n low, w, [])) = _
  rw [h]
  exact if_pos c
theorem fall_low {bs : List (Int × Bx)} (w : List (Option Int)) {n : Int} {b : Bx} (h : get bs n = some b) (c : b.wt ≠ 1) : fall bs w (some n) = (chg bs n low, w, []) := by
  show (match get bs n with | none => (bs, w, []) | some b => if b.wt = 1 then (rm bs n, w ++ b.slots, [n]) else (chg bs n low, w, [])) = _
  rw [h]
  exact if_neg c
theorem filter_all (l : List Int) : l = l.filter fun n => decide (n ∉ ([] : List Int)) := (List.filter_eq_self.mpr fun n _ => by simp).symm
theorem fall_keys (bs : List (Int × Bx)) (w : List (Option Int)) (x : Option Int) : keys (fall bs w x).1 = (keys bs).filter fun n => decide (n ∉ (fall bs w x).2.2) := by
  cases x with
  | none => exact filter_all _
  | some n =>
    cases e : get bs n with
    | none => rw [fall_gone w e]; exact filter_all _
    | some b =>
      by_cases c : b.wt = 1
      · rw [fall_free w e c, keys_rm]
        simp
      · rw [fall_low w e c]
        show keys (chg bs n low) = _
        rw [keys_chg]
        exact filter_all _
theorem go_keys : ∀ (m : Nat) (bs : List (Int × Bx)) (w : List (Option Int)), keys (go m bs w).1 = (keys bs).filter fun n => decide (n ∉ (go m bs w).2)
  | 0, bs, w => filter_all _
  | m + 1, bs, [] => filter_all _
  | m + 1, bs, x :: w => by
    show keys (go m (fall bs w x).1 (fall bs w x).2.1).1 = (keys bs).filter fun n => decide (n ∉ (fall bs w x).2.2 ++ (go m (fall bs w x).1 (fall bs w x).2.1).2)
    rw [go_keys m, fall_keys, List.filter_filter]
    congr 1
    funext n
    simp [Bool.and_comm]
theorem fall_slots {bs : List (Int × Bx)} {w : List (Option Int)} {x : Option Int} {n : Int} {b : Bx} (h : get (fall bs w x).1 n = some b) : ∃ c, get bs n = some c ∧ c.slots = b.slots := by
  cases x with
  | none => exact ⟨b, h, rfl⟩
  | some k =>
    cases e : get bs k with
    | none =>
      rw [fall_gone w e] at h
      exact ⟨b, h, rfl⟩
    | some d =>
      by_cases c : d.wt = 1
      · rw [fall_free w e c] at h
        have h2 : get (rm bs k) n = some b := h
        rw [get_rm] at h2
        by_cases q : n = k
        · rw [if_pos q] at h2; cases h2
        · rw [if_neg q] at h2
          exact ⟨b, h2, rfl⟩
      · rw [fall_low w e c] at h
        exact (alike_chg bs k low fun _ => rfl).2.1 n b h
theorem go_slots : ∀ {m : Nat} {bs : List (Int × Bx)} {w : List (Option Int)} {n : Int} {b : Bx}, get (go m bs w).1 n = some b → ∃ c, get bs n = some c ∧ c.slots = b.slots
  | 0, bs, w, n, b, h => ⟨b, h, rfl⟩
  | m + 1, bs, [], n, b, h => ⟨b, h, rfl⟩
  | m + 1, bs, x :: w, n, b, h => by
    obtain ⟨c, h1, e1⟩ := go_slots (m := m) h
    obtain ⟨d, h2, e2⟩ := fall_slots h1
    exact ⟨d, h2, e2.trans e1⟩
/-- W tells the weights of the boxes -/
def Told (bs : List (Int × Bx)) (W : List Int) : Prop := ∀ n b, get bs n = some b → 0 ≤ n ∧ W[n.toNat]? = some b.wt
theorem Told.step {bs : List (Int × Bx)} {W : List Int} (h : Told bs W) {w : List (Option Int)} {n : Int} {b : Bx} (hb : get bs n = some b) : Told (fall bs w (some n)).1 (W.set n.toNat (b.wt - 1)) := by
  obtain ⟨n0, hn⟩ := h n b hb
  have hl := (List.getElem?_eq_some_iff.mp hn).1
  intro m c e
  have ef : (fall bs w (some n)).1 = if b.wt = 1 then rm bs n else chg bs n low := by
    by_cases q : b.wt = 1
    · rw [fall_free w hb q, if_pos q]
    · rw [fall_low w hb q, if_neg q]
  rw [ef] at e
  by_cases q : b.wt = 1
  · rw [if_pos q, get_rm] at e
    by_cases qm : m = n
    · rw [if_pos qm] at e; cases e
    · rw [if_neg qm] at e
      obtain ⟨m0, hm⟩ := h m c e
      exact ⟨m0, by rw [List.getElem?_set_ne (by omega)]; exact hm⟩
  · rw [if_neg q, get_chg] at e
    cases g : get bs m with
    | none => rw [g] at e; cases e
    | some d =>
      rw [g] at e
      have e2 : (if m = n then low d else d) = c := Option.some.inj e
      obtain ⟨m0, hm⟩ := h m d g
      by_cases qm : m = n
      · subst qm
        have : d = b := Option.some.inj (g.symm.trans hb)
        subst this
        rw [if_pos rfl] at e2
        refine ⟨m0, ?_⟩
        rw [List.getElem?_set_self hl, ← e2]
        rfl
      · rw [if_neg qm] at e2
        subst e2
        exact ⟨m0, by rw [List.getElem?_set_ne (by omega)]; exact hm⟩
theorem rm_len {k : Int} {b : Bx} : ∀ {bs : List (Int × Bx)}, (keys bs).Nodup → get bs k = some b → (rm bs k).length + 1 = bs.length
  | [], _, h => by simp [get_nil] at h
  | e :: bs, hn, h => by
    have hn' : e.1 ∉ keys bs ∧ (keys bs).Nodup := by simpa [keys] using hn
    rw [get_cons] at h
    by_cases h1 : e.1 = k
    · have e1 : rm (e :: bs) k = rm bs k := by unfold rm; simp [List.filter_cons, h1]
      rw [e1, rm_no (by rw [← h1]; exact hn'.1)]
      rfl
    · rw [if_neg h1] at h
      have ih := rm_len hn'.2 h
      have e1 : rm (e :: bs) k = e :: rm bs k := by unfold rm; simp [List.filter_cons, h1]
      rw [e1, List.length_cons, List.length_cons]
      omega
/-- where the fall stands: what waits is w, what has fallen is row, the weights told are W -/
structure FS (S : Pl) (fin : List (Int × Bx) × List Int) (rs : List (List (Option Int))) (bs : List (Int × Bx)) (w : List (Option Int)) (row W : List Int) : Prop where
  wf : Wf { S with boxes := bs } w
  e2 : row ++ (go (w.length + room bs) bs w).2 = fin.2
  e1 : (go (w.length + room bs) bs w).1 = fin.1
  told : Told bs W
  sl : ∀ n b, get bs n = some b → rs[n.toNat]? = some b.slots
  few : row.length + bs.length ≤ 60
theorem FS.next {S : Pl} {fin : List (Int × Bx) × List Int} {rs : List (List (Option Int))} {bs : List (Int × Bx)} {x : Option Int} {w : List (Option Int)} {row W W' : List Int} (h : FS S fin rs bs (x :: w) row W)
    (ht : Told (fall bs w x).1 W') (hf : (row ++ (fall bs w x).2.2).length + (fall bs w x).1.length ≤ 60) : FS S fin rs (fall bs w x).1 (fall bs w x).2.1 (row ++ (fall bs w x).2.2) W' := by
  obtain ⟨h1, h2'⟩ := fall_ok h.wf
  have h2 : (fall bs w x).2.1.length + room (fall bs w x).1 = w.length + room bs := h2'
  have em : (x :: w).length + room bs = (w.length + room bs) + 1 := by rw [List.length_cons]; omega
  have e2 := h.e2
  have e1 := h.e1
  rw [em] at e2 e1
  refine ⟨h1, ?_, ?_, ht, fun n b e => ?_, hf⟩
  · rw [h2, List.append_assoc]
    exact e2
  · rw [h2]
    exact e1
  · obtain ⟨c, hc, es⟩ := fall_slots e
    rw [← es]
    exact h.sl n c hc
theorem FS.skip {S : Pl} {fin : List (Int × Bx) × List Int} {rs : List (List (Option Int))} {bs : List (Int × Bx)} {w : List (Option Int)} {row W : List Int} (h : FS S fin rs bs (none :: w) row W) : FS S fin rs bs w row W := by
  have := h.next (W' := W) h.told (by rw [show (fall bs w none).2.2 = [] from rfl, List.append_nil]; exact h.few)
  rw [show (fall bs w none).2.2 = [] from rfl, List.append_nil] at this
  exact this
theorem FS.box {S : Pl} {fin : List (Int × Bx) × List Int} {rs : List (List (Option Int))} {bs : List (Int × Bx)} {n : Int} {w : List (Option Int)} {row W : List Int} (h : FS S fin rs bs (some n :: w) row W) : ∃ b, get bs n = some b :=
  h.wf.cl n (by rw [cnt_cons]; simp [one]; omega)
theorem FS.low {S : Pl} {fin : List (Int × Bx) × List Int} {rs : List (List (Option Int))} {bs : List (Int × Bx)} {n : Int} {b : Bx} {w : List (Option Int)} {row W : List Int} (h : FS S fin rs bs (some n :: w) row W) (hb : get bs n = some b) (c : b.wt ≠ 1) :
    FS S fin rs (chg bs n BP.low) w row (W.set n.toNat (b.wt - 1)) := by
  have ef := fall_low w hb c
  have := h.next (h.told.step (w := w) hb) (by rw [ef, len_chg, List.append_nil]; exact h.few)
  rw [ef, List.append_nil] at this
  exact this
theorem FS.free {S : Pl} {fin : List (Int × Bx) × List Int} {rs : List (List (Option Int))} {bs : List (Int × Bx)} {n : Int} {b : Bx} {w : List (Option Int)} {row W : List Int} (h : FS S fin rs bs (some n :: w) row W) (hb : get bs n = some b) (c : b.wt = 1) :
    FS S fin rs (rm bs n) (w ++ b.slots) (row ++ [n]) (W.set n.toNat (b.wt - 1)) ∧ (rm bs n).length + 1 = bs.length := by
  have ef := fall_free w hb c
  have hl : (rm bs n).length + 1 = bs.length := rm_len h.wf.nd hb
  have hf := h.few
  have := h.next (h.told.step (w := w) hb) (by rw [ef, List.length_append]; show row.length + 1 + (rm bs n).length ≤ 60; omega)
  rw [ef] at this
  exact ⟨this, hl⟩
/-- all pointers at n in the rows -/
def tot (rs : List (List (Option Int))) (n : Int) : Nat := (rs.map fun r => cnt r n).sum
theorem tot_nil (n : Int) : tot [] n = 0 := rfl
theorem tot_cons (r : List (Option Int)) (rs : List (List (Option Int))) (n : Int) : tot (r :: rs) n = cnt r n + tot rs n := by simp [tot]
theorem tot_append (a b : List (List (Option Int))) (n : Int) : tot (a ++ b) n = tot a n + tot b n := by simp [tot]
/-- the pointers at 0, 1, .. in the rows -/
def Wt (rs : List (List (Option Int))) (k : Nat) : List Int := (List.range k).map fun (n : Nat) => ((tot rs (n : Int) : Nat) : Int)
theorem Wt_len (rs : List (List (Option Int))) (k : Nat) : (Wt rs k).length = k := by unfold Wt; rw [List.length_map, List.length_range]
theorem Wt_get {rs : List (List (Option Int))} {k : Nat} {n : Int} (h0 : 0 ≤ n) (h1 : n < (k : Int)) : (Wt rs k)[n.toNat]? = some ((tot rs n : Nat) : Int) := by
  unfold Wt
  rw [List.getElem?_map, List.getElem?_range (by omega)]
  show some ((tot rs ((n.toNat : Nat) : Int) : Nat) : Int) = _
  rw [Int.toNat_of_nonneg h0]
theorem Wt_zero (k : Nat) : Wt [] k = List.replicate k 0 := by
  unfold Wt
  show (List.range k).map (fun _ => (0 : Int)) = _
  rw [List.map_const', List.length_range]
theorem Wt_congr {a b : List (List (Option Int))} {k : Nat} (h : ∀ n, tot a n = tot b n) : Wt a k = Wt b k := by
  unfold Wt
  exact List.map_congr_left fun n _ => by rw [h]
theorem Wt_more {a b : List (List (Option Int))} {k : Nat} {n : Int} (h0 : 0 ≤ n) (h1 : n < (k : Int)) (h : ∀ m, tot b m = tot a m + one (some n) m) : (Wt a k).set n.toNat (((tot a n : Nat) : Int) + 1) = Wt b k := by
  refine List.ext_getElem? fun i => ?_
  by_cases c : i < k
  · have hb : (Wt b k)[i]? = some ((tot b (i : Int) : Nat) : Int) := Wt_get (n := (i : Int)) (by omega) (by omega)
    have ha : (Wt a k)[i]? = some ((tot a (i : Int) : Nat) : Int) := Wt_get (n := (i : Int)) (by omega) (by omega)
    rw [hb, h]
    by_cases q : i = n.toNat
    · subst q
      rw [List.getElem?_set_self (by rw [Wt_len]; exact c), Int.toNat_of_nonneg h0]
      have : one (some n) n = 1 := by simp [one]
      rw [this]
      rfl
    · rw [List.getElem?_set_ne (by omega), ha]
      have : one (some n) (i : Int) = 0 := by
        unfold one
        rw [if_neg (fun z => q (by have := Option.some.inj z; omega))]
      rw [this]
      rfl
  · rw [List.getElem?_eq_none (by rw [List.length_set, Wt_len]; omega), List.getElem?_eq_none (by rw [Wt_len]; omega)]
theorem scnt_tot (bs : List (Int × Bx)) (n : Int) : scnt bs n = tot (bs.map fun e => e.2.slots) n := by
  unfold scnt tot
  rw [List.map_map]
  rfl
theorem Rows.list {P : Pl} {rs : List (List (Option Int))} (h : Rows P rs) : keys P.boxes = (List.range (rs.length - 1)).map fun i => ((i : Nat) : Int) + 1 := by
  refine sorted_mem_eq h.wf.ks ?_ fun n => ?_
  · rw [List.pairwise_map]
    exact List.pairwise_lt_range.imp fun h => by omega
  · have := h.pos
    rw [h.ks n, List.mem_map]
    constructor
    · rintro ⟨a, b⟩
      exact ⟨(n - 1).toNat, List.mem_range.mpr (by omega), by omega⟩
    · rintro ⟨i, hi, e⟩
      have := List.mem_range.mp hi
      omega
theorem Rows.tail {P : Pl} {rs : List (List (Option Int))} (h : Rows P rs) : P.boxes.map (fun e => e.2.slots) = rs.tail := by
  have hk := h.list
  have hpos := h.pos
  have hlen : P.boxes.length = rs.length - 1 := by
    have := congrArg List.length hk
    rw [List.length_map, List.length_range] at this
    rw [← this]
    exact (List.length_map _).symm
  refine List.ext_getElem? fun i => ?_
  rw [List.getElem?_map, List.getElem?_tail]
  by_cases c : i < P.boxes.length
  · rw [List.getElem?_eq_getElem c]
    have ek : (P.boxes[i]).1 = (i : Int) + 1 := by
      have e1 : (keys P.boxes)[i]? = some (P.boxes[i]).1 := by
        unfold keys
        rw [List.getElem?_map, List.getElem?_eq_getElem c]
        rfl
      rw [hk, List.getElem?_map, List.getElem?_range (by omega)] at e1
      exact (Option.some.inj e1).symm
    have hb := mem_get h.wf.nd (show ((P.boxes[i]).1, (P.boxes[i]).2) ∈ P.boxes from List.getElem_mem c)
    have := h.sl _ _ hb
    rw [ek] at this
    have e2 : ((i : Int) + 1).toNat = i + 1 := by omega
    rw [e2] at this
    rw [this]
    rfl
  · rw [List.getElem?_eq_none (by omega), List.getElem?_eq_none (by omega)]
    rfl
theorem Rows.scnt {P : Pl} {rs : List (List (Option Int))} (h : Rows P rs) (n : Int) : scnt P.boxes n = tot rs.tail n := by
  rw [scnt_tot, h.tail]
end BP

namespace BP
open PySem L2
/-! ### the text by places -/
def top (i : Nat) : Stmt := PySem.Challenge.pw_boxpile_k04_freed_in_order.main.body.getD i (.Pass ⟨0, 0, 0, 0⟩)
abbrev sBoxInit : Stmt := inClass (top 12) 0
abbrev sInit : Stmt := inClass (top 13) 0
abbrev sMake : Stmt := inClass (top 13) 1
abbrev sHold : Stmt := inClass (top 13) 2
abbrev sDrop : Stmt := inClass (top 13) 3
abbrev sPut : Stmt := inClass (top 13) 4
abbrev sEmpty : Stmt := inClass (top 13) 5
abbrev sTake : Stmt := inClass (top 13) 6
abbrev sSlotsWith : Stmt := inClass (top 13) 14
abbrev sHolds : Stmt := inClass (top 13) 7
abbrev sPoints : Stmt := inClass (top 13) 8
abbrev sWeighs : Stmt := inClass (top 13) 9
abbrev sAlive : Stmt := inClass (top 13) 10
abbrev sSuspects : Stmt := inClass (top 13) 11
abbrev sBox : Stmt := inClass (top 13) 13
abbrev sPoint : Stmt := inClass (top 13) 15
abbrev sLetGo : Stmt := inClass (top 13) 16
abbrev sCheck : Stmt := top 14
abbrev sCheckSlot : Stmt := top (14 + 1)
abbrev sClear : Stmt := inClass (top 13) 12

/-- an error class of the text -/
structure Err (K : PySem.W.Frag) (mg : Str → Option Value) (x : Str) (E : Addr) : Prop where
  g : mg x = some (.ref E)
  x : PySem.W.excIn K E [.type "ValueError", .type "Exception", .type "BaseException", .type "object"] "ValueError.__new__" = true
  k : PySem.W.keepIn K (.ref E) = true
  b : PySem.W.subIn K (.ref E) (.type "BaseException") = some true
  t : PySem.W.typeIn K (.ref E) = some (.type "type")
/-- what the top has made -/
structure Txt (K : PySem.W.Frag) (mg : Str → Option Value) (C B eH eS eF eB eL : Addr) : Prop where
  clC : Cls K C
  nH : NoAttr K C "_hands"
  nB : NoAttr K C "_boxes"
  nM : NoAttr K C "_made"
  clB : Cls K B
  nS : NoAttr K B "slots"
  nW : NoAttr K B "weight"
  nU : NoAttr K B "suspect"
  mgC : mg "Pile" = some (.ref C)
  mgB : mg "Box" = some (.ref B)
  len : mg "len" = none
  list : mg "list" = none
  sorted : mg "sorted" = none
  hands : ∃ t, mg "HANDS" = some (.int 8 t)
  most : ∃ t, mg "MOST_SLOTS" = some (.int 6 t)
  alive : ∃ t, mg "MOST_ALIVE" = some (.int 60 t)
  eH : Err K mg "NoHand" eH
  eS : Err K mg "NoSize" eS
  eF : Err K mg "Full" eF
  eB : Err K mg "NoBox" eB
  eL : Err K mg "NoSlot" eL

/-! ### promises -/
def spCheck (eH : Addr) : Sp := fun vs H Q E => ∃ h : Int, vs = [.int h] ∧ ((0 ≤ h ∧ h < 8) → Q .non H) ∧ (¬ (0 ≤ h ∧ h < 8) → E (.ref eH) none H)
def spBoxInit (B : Addr) : Sp := fun vs H Q _ => ∃ (x dx : Addr) (n : Nat), vs = [.ref x, .int n] ∧ n ≤ 6 ∧ H x = some (.ins B dx []) ∧
  ∀ l sl, H l = none → upd H l (.lst [.non]) sl = none → Q .non (upd (upd (upd H l (.lst [.non])) sl (.lst (lV (List.replicate n none)))) x (.ins B dx (bf sl 0 false)))
def spInit (C B : Addr) : Sp := fun vs H Q _ => ∃ (R : Hp) (p dx : Addr), vs = [.ref p] ∧ Same R H ∧ R p = none ∧ H p = some (.ins C dx []) ∧ ∀ (g : Geo) (H' : Hp), PileAt C B p g pl0 R H' → Q .non H'
def spLetGo (C B : Addr) : Sp := fun vs H Q _ => ∃ (p : Addr) (g : Geo) (P : Pl) (R : Hp) (x : Option Int), vs = [.ref p, oV x] ∧ PileAt C B p g P R H ∧ Wf P [x] ∧
  ∀ (l : Addr) (H' : Hp), R l = none → PileAt C B p g { P with boxes := (run P.boxes [x]).1 } (upd R l (.lst ((run P.boxes [x]).2.map V.int))) H' → Q (.ref l) H'
/-- a pointer at a place of a list (the hands', or the slots of a box): S is the pile with the new one there -/
def spPoint (C B : Addr) : Sp := fun vs H Q _ => ∃ (p a : Addr) (g : Geo) (P S : Pl) (R : Hp) (x : Option Int) (l : List (Option Int)) (i : Nat), vs = [.ref p, .ref a, .int i, oV x] ∧ PileAt C B p g P R H ∧ (∀ n, x = some n → ∃ b, get P.boxes n = some b) ∧ i < l.length ∧
  (∀ H1, PileAt C B p g { P with boxes := bumped P.boxes x } R H1 → H1 a = some (.lst (lV l)) ∧ PileAt C B p g S R (upd H1 a (.lst (lV (l.set i x))))) ∧ Wf S [l.getD i none] ∧
  ∀ (r : Addr) (H' : Hp), R r = none → PileAt C B p g { S with boxes := (run S.boxes [l.getD i none]).1 } (upd R r (.lst ((run S.boxes [l.getD i none]).2.map V.int))) H' → Q (.ref r) H'
def spMake (C B eH eS eF : Addr) : Sp := fun vs H Q E => ∃ (p : Addr) (P : Pl) (R : Hp) (h s : Int), vs = [.ref p, .int h, .int s] ∧ PileIn C B p P R H ∧
  (¬ (0 ≤ h ∧ h < 8) → E (.ref eH) none H) ∧ ((0 ≤ h ∧ h < 8) → ¬ (0 ≤ s ∧ s ≤ 6) → E (.ref eS) none H) ∧ ((0 ≤ h ∧ h < 8) → (0 ≤ s ∧ s ≤ 6) → 60 ≤ P.boxes.length → E (.ref eF) none H) ∧
  ((0 ≤ h ∧ h < 8) → (0 ≤ s ∧ s ≤ 6) → P.boxes.length < 60 → ∀ (r : Addr) (H' : Hp), R r = none → PileIn C B p (mk P h.toNat s.toNat).1 (upd R r (.lst ((mk P h.toNat s.toNat).2.map V.int))) H' → Q (.ref r) H')
def spHold (C B eH : Addr) : Sp := fun vs H Q E => ∃ (p : Addr) (P : Pl) (R : Hp) (h o : Int), vs = [.ref p, .int h, .int o] ∧ PileIn C B p P R H ∧
  (¬ (0 ≤ h ∧ h < 8) → E (.ref eH) none H) ∧ ((0 ≤ h ∧ h < 8) → ¬ (0 ≤ o ∧ o < 8) → E (.ref eH) none H) ∧
  ((0 ≤ h ∧ h < 8) → (0 ≤ o ∧ o < 8) → ∀ (r : Addr) (H' : Hp), R r = none → PileIn C B p (ptHand P h.toNat (P.hands.getD o.toNat none)).1 (upd R r (.lst ((ptHand P h.toNat (P.hands.getD o.toNat none)).2.map V.int))) H' → Q (.ref r) H')
def spDrop (C B eH : Addr) : Sp := fun vs H Q E => ∃ (p : Addr) (P : Pl) (R : Hp) (h : Int), vs = [.ref p, .int h] ∧ PileIn C B p P R H ∧
  (¬ (0 ≤ h ∧ h < 8) → E (.ref eH) none H) ∧
  ((0 ≤ h ∧ h < 8) → ∀ (r : Addr) (H' : Hp), R r = none → PileIn C B p (ptHand P h.toNat none).1 (upd R r (.lst ((ptHand P h.toNat none).2.map V.int))) H' → Q (.ref r) H')
def spSlotsWith (C B eB eL : Addr) : Sp := fun vs H Q E => ∃ (p : Addr) (g : Geo) (P : Pl) (R : Hp) (h s : Int), vs = [.ref p, .int h, .int s] ∧ PileAt C B p g P R H ∧ Wf P [] ∧ (0 ≤ h ∧ h < 8) ∧
  (P.hands.getD h.toNat none = none → E (.ref eB) none H) ∧
  (∀ n b, P.hands.getD h.toNat none = some n → get P.boxes n = some b → ¬ (0 ≤ s ∧ s < (b.slots.length : Int)) → E (.ref eL) none H) ∧
  (∀ n b, P.hands.getD h.toNat none = some n → get P.boxes n = some b → (0 ≤ s ∧ s < (b.slots.length : Int)) → Q (.ref (g.sa n)) H)
def spPut (C B eH eB eL : Addr) : Sp := fun vs H Q E => ∃ (p : Addr) (P : Pl) (R : Hp) (h s o : Int), vs = [.ref p, .int h, .int s, .int o] ∧ PileIn C B p P R H ∧
  (¬ (0 ≤ h ∧ h < 8) → E (.ref eH) none H) ∧ ((0 ≤ h ∧ h < 8) → ¬ (0 ≤ o ∧ o < 8) → E (.ref eH) none H) ∧
  ((0 ≤ h ∧ h < 8) → (0 ≤ o ∧ o < 8) → P.hands.getD h.toNat none = none → E (.ref eB) none H) ∧
  ((0 ≤ h ∧ h < 8) → (0 ≤ o ∧ o < 8) → ∀ n b, P.hands.getD h.toNat none = some n → get P.boxes n = some b → ¬ (0 ≤ s ∧ s < (b.slots.length : Int)) → E (.ref eL) none H) ∧
  ((0 ≤ h ∧ h < 8) → (0 ≤ o ∧ o < 8) → ∀ n b, P.hands.getD h.toNat none = some n → get P.boxes n = some b → (0 ≤ s ∧ s < (b.slots.length : Int)) →
    ∀ (r : Addr) (H' : Hp), R r = none → PileIn C B p (ptSlot P n s.toNat (P.hands.getD o.toNat none)).1 (upd R r (.lst ((ptSlot P n s.toNat (P.hands.getD o.toNat none)).2.map V.int))) H' → Q (.ref r) H')
def spEmpty (C B eH eB eL : Addr) : Sp := fun vs H Q E => ∃ (p : Addr) (P : Pl) (R : Hp) (h s : Int), vs = [.ref p, .int h, .int s] ∧ PileIn C B p P R H ∧
  (¬ (0 ≤ h ∧ h < 8) → E (.ref eH) none H) ∧ ((0 ≤ h ∧ h < 8) → P.hands.getD h.toNat none = none → E (.ref eB) none H) ∧
  ((0 ≤ h ∧ h < 8) → ∀ n b, P.hands.getD h.toNat none = some n → get P.boxes n = some b → ¬ (0 ≤ s ∧ s < (b.slots.length : Int)) → E (.ref eL) none H) ∧
  ((0 ≤ h ∧ h < 8) → ∀ n b, P.hands.getD h.toNat none = some n → get P.boxes n = some b → (0 ≤ s ∧ s < (b.slots.length : Int)) →
    ∀ (r : Addr) (H' : Hp), R r = none → PileIn C B p (ptSlot P n s.toNat none).1 (upd R r (.lst ((ptSlot P n s.toNat none).2.map V.int))) H' → Q (.ref r) H')
def spTake (C B eH eB eL : Addr) : Sp := fun vs H Q E => ∃ (p : Addr) (P : Pl) (R : Hp) (h o s : Int), vs = [.ref p, .int h, .int o, .int s] ∧ PileIn C B p P R H ∧
  (¬ (0 ≤ h ∧ h < 8) → E (.ref eH) none H) ∧ ((0 ≤ h ∧ h < 8) → ¬ (0 ≤ o ∧ o < 8) → E (.ref eH) none H) ∧
  ((0 ≤ h ∧ h < 8) → (0 ≤ o ∧ o < 8) → P.hands.getD o.toNat none = none → E (.ref eB) none H) ∧
  ((0 ≤ h ∧ h < 8) → (0 ≤ o ∧ o < 8) → ∀ n b, P.hands.getD o.toNat none = some n → get P.boxes n = some b → ¬ (0 ≤ s ∧ s < (b.slots.length : Int)) → E (.ref eL) none H) ∧
  ((0 ≤ h ∧ h < 8) → (0 ≤ o ∧ o < 8) → ∀ n b, P.hands.getD o.toNat none = some n → get P.boxes n = some b → (0 ≤ s ∧ s < (b.slots.length : Int)) →
    ∀ (r : Addr) (H' : Hp), R r = none → PileIn C B p (ptHand P h.toNat (b.slots.getD s.toNat none)).1 (upd R r (.lst ((ptHand P h.toNat (b.slots.getD s.toNat none)).2.map V.int))) H' → Q (.ref r) H')
def spHolds (C B eH : Addr) : Sp := fun vs H Q E => ∃ (p : Addr) (g : Geo) (P : Pl) (R : Hp) (h : Int), vs = [.ref p, .int h] ∧ PileAt C B p g P R H ∧ P.hands.length = 8 ∧
  (¬ (0 ≤ h ∧ h < 8) → E (.ref eH) none H) ∧ ((0 ≤ h ∧ h < 8) → Q (oV (P.hands.getD h.toNat none)) H)
def spBox (C B eB : Addr) : Sp := fun vs H Q E => ∃ (p : Addr) (g : Geo) (P : Pl) (R : Hp) (n : Int), vs = [.ref p, .int n] ∧ PileAt C B p g P R H ∧
  (get P.boxes n = none → E (.ref eB) none H) ∧ (∀ b, get P.boxes n = some b → Q (.ref (g.ba n)) H)
def spPoints (C B eB : Addr) : Sp := fun vs H Q E => ∃ (p : Addr) (g : Geo) (P : Pl) (R : Hp) (n : Int), vs = [.ref p, .int n] ∧ PileAt C B p g P R H ∧ (∀ b, get P.boxes n = some b → b.slots.length ≤ 6) ∧
  (get P.boxes n = none → E (.ref eB) none H) ∧ (∀ b, get P.boxes n = some b → ∀ r, H r = none → Q (.ref r) (upd H r (.lst (lV b.slots))))
def spWeighs (C B eB : Addr) : Sp := fun vs H Q E => ∃ (p : Addr) (g : Geo) (P : Pl) (R : Hp) (n : Int), vs = [.ref p, .int n] ∧ PileAt C B p g P R H ∧
  (get P.boxes n = none → E (.ref eB) none H) ∧ (∀ b, get P.boxes n = some b → Q (.int b.wt) H)
def spAlive (C B : Addr) : Sp := fun vs H Q _ => ∃ (p : Addr) (g : Geo) (P : Pl) (R : Hp), vs = [.ref p] ∧ PileAt C B p g P R H ∧ Wf P [] ∧ ∀ r, H r = none → Q (.ref r) (upd H r (.lst ((keys P.boxes).map V.int)))
def spSuspects (C B : Addr) : Sp := fun vs H Q _ => ∃ (p : Addr) (g : Geo) (P : Pl) (R : Hp), vs = [.ref p] ∧ PileAt C B p g P R H ∧ Wf P [] ∧ ∀ r H', R r = none → PileAt C B p g P (upd R r (.lst ((susp P).map V.int))) H' → Q (.ref r) H'

section
variable {P : Program} {w : World} {K : PySem.W.Frag} {mg : Str → Option Value} {base : Heap} {C B eH eS eF eB eL : Addr}
/-- a statement read in two steps: what holds behind it, then what is wanted of that -/
def tMid (t : TS) : TS := fun D σ H => ∃ M : St → Hp → Prop, t { D with nx := M } σ H ∧ ∀ σ' H', M σ' H' → D.nx σ' H'
theorem ps_mid {X : Cx} {st : Stmt} {t : TS} (h : PS X st t) : PS X st (tMid t) := by
  refine ⟨fun pins s σ H D I q => ?_⟩
  obtain ⟨M, q1, q2⟩ := q
  refine wpAny_mono (h.run pins s σ H { D with nx := M } I q1) (fun f s1 z => ?_) fun _ _ z => z
  cases f with
  | next =>
    obtain ⟨σ', H', I', m⟩ := z
    exact ⟨σ', H', I', q2 σ' H' m⟩
  | ret v => exact z
  | brk => exact z
  | cont => exact z
/-- a test read in two steps -/
def tMidT (t : TT) : TT := fun σ H Q => ∃ M : Bool → Hp → Prop, t σ H M ∧ ∀ b H', M b H' → Q b H'
theorem pt_mid {X : Cx} {e : Expr} {t : TT} (h : PT X e t) : PT X e (tMidT t) := by
  refine ⟨fun pins s σ H Q I q => ?_⟩
  obtain ⟨M, q1, q2⟩ := q
  refine wpAny_mono (h.run pins s σ H M I q1) (fun b s1 z => ?_) fun _ _ z => z
  obtain ⟨H', I', m⟩ := z
  exact ⟨H', I', q2 b H' m⟩
theorem if_pos_of {c : Bool} {A B : Prop} (hc : c = true) (h : A) : if c = true then A else B := by
  rw [if_pos hc]
  exact h
theorem if_neg_of {c : Bool} {A B : Prop} (hc : c = false) (h : B) : if c = true then A else B := by
  rw [hc, if_neg Bool.false_ne_true]
  exact h
theorem err_raises {X : Cx} {x : Str} {E : Addr} (e : Err X.K X.mg x E) : Raises X (.ref E) := raises_own e.b e.t
/-! ### check_hand -/
theorem scCheck : FnScope ["hand"] ["hand"] (defScope sCheck) := ⟨rfl, rfl, rfl, by decide +kernel, rfl, by decide +kernel, by decide +kernel⟩
theorem ok_check {f : Addr} {fd : FuncData} (F : Fun K "check_hand" "check_hand" sCheck f fd) (T : Txt K mg C B eH eS eF eB eL) : FnOk P w K mg base (L2.CX P w) 1 f fd ["hand"] (spCheck eH) := by
  refine F.okX scCheck (fun vs H Q E h => ?_) (fun cdv A outer s H vs Q E hr h => ?_)
  · obtain ⟨h, rfl, _⟩ := h
    rfl
  · obtain ⟨h, rfl, k1, k2⟩ := h
    obtain ⟨t, hT⟩ := T.hands
    refine ⟨_, pss_one (ps_if (pt_not (pt_chain op_le op_lt pe_int (pv 0) (pe_glob (v := .int 8) rfl hT ⟨_, rfl⟩))) (pss_one (ps_raise rfl (takes_of rfl rfl rfl rfl) (pmk_own PySem.F.excBase_ValueError T.eH.x T.eH.g T.eH.k (raises_own T.eH.b T.eH.t) rfl))) pss_nil), ?_⟩
    refine ⟨_, rfl, _, _, rfl, rfl, _, rfl, ?_⟩
    by_cases h0 : 0 ≤ h
    · rw [decide_eq_true h0]
      refine iteT ⟨_, _, rfl, rfl, _, rfl, ?_⟩
      by_cases h8 : h < 8
      · rw [decide_eq_true h8]
        exact iteF (k1 ⟨h0, h8⟩)
      · rw [decide_eq_false h8]
        exact iteT (k2 fun z => h8 z.2)
    · rw [decide_eq_false h0]
      refine iteF ⟨_, rfl, ?_⟩
      exact iteT (k2 fun z => h0 z.1)
/-! ### Box.__init__ -/
theorem scBoxInit : FnScope ["self", "size"] ["self", "size"] (defScope sBoxInit) := ⟨rfl, rfl, rfl, by decide +kernel, rfl, by decide +kernel, by decide +kernel⟩
theorem rep_none (n : Nat) : (List.replicate n [V.non]).flatten = lV (List.replicate n none) := by
  unfold lV
  rw [List.map_replicate]
  induction n with
  | zero => rfl
  | succ n ih => rw [List.replicate_succ, List.flatten_cons, ih]; rfl
theorem ok_boxinit {f : Addr} {fd : FuncData} (F : Fun K "__init__" "Box.__init__" sBoxInit f fd) (T : Txt K mg C B eH eS eF eB eL) : FnOk P w K mg base CX0 1 f fd ["self", "size"] (spBoxInit B) := by
  refine F.ok scBoxInit (fun vs H Q E h => ?_) (fun cdv A outer s H vs Q E hr h => ?_)
  · obtain ⟨x, dx, n, rfl, _⟩ := h
    rfl
  · obtain ⟨x, dx, n, rfl, hn, hx, k⟩ := h
    refine ⟨_, pss_cons (ps_fld (pv 0) (pe_op op_rep (pe_lst (pa_cons pe_non pa_nil)) (pv 1)) rfl) (pss_cons (ps_fld (pv 0) pe_int rfl) (pss_one (ps_fld (pv 0) pe_bl rfl))), ?_⟩
    refine ⟨(by show 1 ≤ sizeLine; decide), fun l hl => ?_⟩
    have nx : x ≠ l := ne_of_none hx hl
    refine ⟨_, rfl, l, n, [.non], rfl, rfl, upd_same, by omega, by omega, (by show 1 * n ≤ sizeLine; rw [sizeLine_eq]; omega), fun sl hsl => ?_⟩
    have nx2 : x ≠ sl := ne_of_none (by rw [upd_ne nx]; exact hx) hsl
    refine ⟨_, rfl, x, B, dx, [], rfl, (by rw [upd_ne nx2, upd_ne nx]; exact hx), T.clB, T.nS, (by show 0 < 1000; decide), ?_⟩
    refine ⟨_, rfl, x, B, dx, _, rfl, upd_same, T.clB, T.nW, (by show 1 < 1000; decide), ?_⟩
    refine ⟨_, rfl, x, B, dx, _, rfl, upd_same, T.clB, T.nU, (by show (putF "weight" (.int 0) (putF "slots" (.ref sl) [])).length < 1000; show (if ("slots" : Str) = "weight" then [(("slots" : Str), V.int 0)] else (("slots" : Str), V.ref sl) :: [(("weight" : Str), V.int 0)]).length < 1000; rw [if_neg s_sw]; show 2 < 1000; decide), ?_⟩
    have k' := k l sl hl hsl
    rw [← rep_none] at k'
    rw [upd_upd, upd_upd]
    exact k'
/-! ### Pile.__init__ -/
theorem scInit : FnScope ["self"] ["self"] (defScope sInit) := ⟨rfl, rfl, rfl, by decide +kernel, rfl, by decide +kernel, by decide +kernel⟩
theorem ok_init {f : Addr} {fd : FuncData} (F : Fun K "__init__" "Pile.__init__" sInit f fd) (T : Txt K mg C B eH eS eF eB eL) : FnOk P w K mg base CX0 1 f fd ["self"] (spInit C B) := by
  refine F.ok scInit (fun vs H Q E h => ?_) (fun cdv A outer s H vs Q E hr h => ?_)
  · obtain ⟨R, p, dx, rfl, _⟩ := h
    rfl
  · obtain ⟨R, p, dx, rfl, hs, rp, hp, k⟩ := h
    obtain ⟨t, hT⟩ := T.hands
    refine ⟨_, pss_cons (ps_fld (pv 0) (pe_op op_rep (pe_lst (pa_cons pe_non pa_nil)) (pe_glob (v := .int 8) rfl hT ⟨_, rfl⟩)) rfl) (pss_cons (ps_fld (pv 0) pe_dnewK rfl) (pss_one (ps_fld (pv 0) pe_int rfl))), ?_⟩
    refine ⟨(by show 1 ≤ sizeLine; decide), fun l hl => ?_⟩
    have npl : p ≠ l := ne_of_none hp hl
    refine ⟨l, 8, [.non], rfl, rfl, upd_same, by omega, by omega, (by show 8 ≤ sizeLine; rw [sizeLine_eq]; omega), fun lh hlh => ?_⟩
    have npm : p ≠ lh := ne_of_none (by rw [upd_ne npl]; exact hp) hlh
    refine ⟨_, rfl, p, C, dx, [], rfl, (by rw [upd_ne npm, upd_ne npl]; exact hp), T.clC, T.nH, (by show 0 < 1000; decide), fun db hdb => ?_⟩
    have npd : p ≠ db := ne_of_none upd_same hdb
    have nhd : lh ≠ db := ne_of_none (by rw [upd_ne npm.symm, upd_same]) hdb
    refine ⟨_, rfl, p, C, dx, _, rfl, (by rw [upd_ne npd, upd_same]), T.clC, T.nB, (by show 1 < 1000; decide), ?_⟩
    refine ⟨_, rfl, p, C, dx, _, rfl, upd_same, T.clC, T.nM, (by show (putF "_boxes" (.ref db) (putF "_hands" (.ref lh) [])).length < 1000; show (if ("_hands" : Str) = "_boxes" then [(("_hands" : Str), V.ref db)] else (("_hands" : Str), V.ref lh) :: [(("_boxes" : Str), V.ref db)]).length < 1000; rw [if_neg s_hb]; show 2 < 1000; decide), ?_⟩
    rw [upd_upd]
    have fl : H l = none := hl
    have flh : H lh = none := by
      by_cases q : lh = l
      · rw [q]; exact hl
      · rw [upd_ne q] at hlh; exact hlh
    have fdb : H db = none := by
      have n1 : db ≠ p := npd.symm
      have n2 : db ≠ lh := nhd.symm
      rw [upd_ne n1, upd_ne n2] at hdb
      by_cases q : db = l
      · rw [q]; exact hl
      · rw [upd_ne q] at hdb; exact hdb
    have e8 : (List.replicate (Int.toNat 8) [V.non]).flatten = lV pl0.hands := rep_none 8
    refine k ⟨dx, lh, db, fun _ => 0, fun _ => 0, fun _ => 0⟩ _ ⟨fun b o e => ?_, rp, hs.free flh, hs.free fdb, fun n b e => ?_, fun n b e => ?_, upd_same, ?_, ?_, fun n b e => ?_, fun n b e => ?_, fun n m b c e => ?_, fun n m b c e => ?_, fun n b e => ?_⟩
    · have e' := hs b o e
      rw [upd_ne (fun q => by rw [q, rp] at e; cases e), upd_ne (ne_of_none e' fdb), upd_ne (fun q => by rw [q, rp] at e; cases e), upd_ne (ne_of_none e' flh), upd_ne (ne_of_none e' fl)]
      exact e'
    · cases e
    · cases e
    · show upd _ p _ lh = _
      rw [upd_ne npm.symm, upd_ne nhd, upd_ne npm.symm, upd_same, e8]
    · show upd _ p _ db = _
      rw [upd_ne npd.symm, upd_same]
      rfl
    · cases e
    · cases e
    · cases e
    · cases e
    · cases e
/-! ### _let_go -/
theorem scLetGo : FnScope ["self", "pointer", "waiting", "freed", "number", "box"] ["self", "pointer"] (defScope sLetGo) := ⟨rfl, rfl, rfl, by decide +kernel, rfl, by decide +kernel, by decide +kernel⟩
/-- two lists of the def's own beside what is known -/
def twoL (R : Hp) (a b : Addr) (xs ys : List V) : Hp := upd (upd R a (.lst xs)) b (.lst ys)
theorem upd_comm {H : Hp} {a b : Addr} {o u : HO} (h : a ≠ b) : upd (upd H a o) b u = upd (upd H b u) a o := by
  funext c
  by_cases q : c = a
  · rw [q, upd_ne h, upd_same, upd_same]
  · by_cases q2 : c = b
    · rw [q2, upd_same, upd_ne h.symm, upd_same]
    · rw [upd_ne q2, upd_ne q, upd_ne q, upd_ne q2]
theorem twoL_a {R : Hp} {a b : Addr} {xs ys zs : List V} (h : a ≠ b) : upd (twoL R a b xs ys) a (.lst zs) = twoL R a b zs ys := by
  unfold twoL
  rw [upd_comm h, upd_upd, ← upd_comm h]
theorem twoL_b {R : Hp} {a b : Addr} {xs ys zs : List V} : upd (twoL R a b xs ys) b (.lst zs) = twoL R a b xs zs := upd_upd
theorem chg_chg (n : Int) (f g : Bx → Bx) : ∀ bs, chg (chg bs n f) n g = chg bs n fun b => g (f b)
  | [] => rfl
  | e :: bs => by
    have e1 : ∀ (e : Int × Bx) (bs : List (Int × Bx)) (f : Bx → Bx), chg (e :: bs) n f = (if e.1 = n then (e.1, f e.2) else e) :: chg bs n f := fun _ _ _ => rfl
    rw [e1, e1, e1, chg_chg n f g bs]
    by_cases h : e.1 = n
    · simp [h]
    · simp [h]
theorem rm_chg (n : Int) (f : Bx → Bx) : ∀ bs, rm (chg bs n f) n = rm bs n
  | [] => rfl
  | e :: bs => by
    have e1 : chg (e :: bs) n f = (if e.1 = n then (e.1, f e.2) else e) :: chg bs n f := rfl
    have ih := rm_chg n f bs
    unfold rm at ih ⊢
    rw [e1, List.filter_cons, List.filter_cons, ih]
    by_cases h : e.1 = n
    · simp [h]
    · simp [h]
theorem seq0 {n : Nat} (h : 0 < n) : seqIndex? 0 n = some 0 := by
  unfold seqIndex?
  simp [h]
theorem ok_letgo {f : Addr} {fd : FuncData} (F : Fun K "_let_go" "Pile._let_go" sLetGo f fd) (T : Txt K mg C B eH eS eF eB eL) : FnOk P w K mg base CX0 1 f fd ["self", "pointer"] (spLetGo C B) := by
  refine F.ok scLetGo (fun vs H Q E h => ?_) (fun cdv A outer s H vs Q E hr h => ?_)
  · obtain ⟨p, g, P, R, x, rfl, _⟩ := h
    rfl
  · obtain ⟨p, g, Q0, R, x, rfl, A0, W0, k⟩ := h
    have hu := hu_of hr
    refine ⟨_, pss_cons (ps_set (i := 2) scLetGo.nd rfl (Or.inl rfl) (pe_lst (pa_cons (pv 1) pa_nil))) (pss_cons (ps_set (i := 3) scLetGo.nd rfl (Or.inl rfl) (pe_lst pa_nil))
      (pss_cons (ps_while PassesOwn.never (pt_truth (pv 2) (by intro _; rfl))
        (pss_cons (ps_set (i := 4) scLetGo.nd rfl (Or.inl rfl) (pe_bm PySem.F.plainAttrs_list PySem.F.slot_list_pop PySem.F.type_list_pop mt_popAt (pv 2) (pa_cons pe_int pa_nil)))
        (pss_cons (ps_if (pt_cmpR op_isN (pv 4) pe_non (nomark _)) (pss_one ps_continue) pss_nil)
        (pss_cons (ps_set (i := 5) scLetGo.nd rfl (Or.inl rfl) (pe_dget hu (pe_fld (pv 0) rfl) (pv 4) (fun _ _ => rfl)))
        (pss_cons (ps_fldaug (pv 5) pe_int in_sub)
        (pss_cons (ps_fld (pv 5) pe_bl rfl)
        (pss_one (ps_if (pt_cmpR op_eq (pe_fld (pv 5) rfl) pe_int (nomark _))
          (pss_cons (ps_ddel (pe_fld (pv 0) rfl) (pv 4))
          (pss_cons (ps_expr (pe_bm PySem.F.plainAttrs_list PySem.F.slot_list_append PySem.F.type_list_append mt_append (pv 3) (pa_cons (pv 4) pa_nil)))
          (pss_one (ps_expr (pe_bm PySem.F.plainAttrs_list PySem.F.slot_list_extend PySem.F.type_list_extend mt_extend (pv 2) (pa_cons (pe_fld (pv 5) rfl) pa_nil)))))) pss_nil))))))))
      (pss_one (ps_ret (pv 3))))), ?_⟩
    refine ⟨_, rfl, (by show 1 ≤ sizeLine; decide), fun wl hwl => ?_⟩
    refine ⟨(by show 0 ≤ sizeLine; decide), fun fl hfl => ?_⟩
    have nwf : wl ≠ fl := ne_of_none upd_same hfl
    have rwl : R wl = none := A0.same.free hwl
    have rfl' : R fl = none := by
      have : H fl = none := by rw [upd_ne nwf.symm] at hfl; exact hfl
      exact A0.same.free this
    have A1 : PileAt C B p g Q0 (twoL R wl fl (lV [x]) ([] : List V)) (upd (upd H wl (.lst [oV x])) fl (.lst [])) := (A0.new hwl).new hfl
    have hm0 : [x].length + room Q0.boxes ≤ 400 := by
      have := room_le W0.sl W0.nd
      have := W0.few
      show 1 + _ ≤ 400
      omega
    refine ⟨fun m σ H => ∃ (bs : List (Int × Bx)) (w : List (Option Int)) (f : List Int) (v4 v5 : Option V), σ = [some (.ref p), some (oV x), some (.ref wl), some (.ref fl), v4, v5] ∧
      PileAt C B p g { Q0 with boxes := bs } (twoL R wl fl (lV w) (f.map V.int)) H ∧ Wf { Q0 with boxes := bs } w ∧ w.length + room bs = m ∧ f ++ (go m bs w).2 = (run Q0.boxes [x]).2 ∧ (go m bs w).1 = (run Q0.boxes [x]).1 ∧ f.length + m ≤ 400,
      ⟨_, Q0.boxes, [x], [], none, none, rfl, A1, W0, rfl, rfl, rfl, by rw [List.length_nil]; omega⟩, ?_⟩
    rintro m σ H ⟨bs, w, f, v4, v5, rfl, A, W, hm, e2, e1, hle⟩
    have hwl : H wl = some (.lst (lV w)) := A.same _ _ (by unfold twoL; rw [upd_ne nwf, upd_same])
    have hfl : H fl = some (.lst (f.map V.int)) := A.same _ _ (by unfold twoL; rw [upd_same])
    refine ⟨_, rfl, !(lV w).isEmpty, .inl ⟨_, SqL.of hwl, rfl⟩, ?_⟩
    cases w with
    | nil =>
      refine iteF ?_
      have m0 : (go m bs []).1 = bs ∧ (go m bs []).2 = [] := by cases m <;> exact ⟨rfl, rfl⟩
      rw [m0.2, List.append_nil] at e2
      rw [m0.1] at e1
      refine ⟨_, rfl, k fl _ rfl' ?_⟩
      rw [← e1, ← e2]
      refine A.less fun b o e => ?_
      by_cases q : b = fl
      · rw [q, upd_same] at e
        rw [q]
        unfold twoL
        rw [upd_same]
        exact e
      · rw [upd_ne q] at e
        unfold twoL
        rw [upd_ne q, upd_ne (ne_of_none e rwl)]
        exact e
    | cons y w =>
      refine iteT ?_
      obtain ⟨m', rfl⟩ : ∃ m', m = m' + 1 := ⟨w.length + room bs, by rw [List.length_cons] at hm; omega⟩
      refine ⟨fun σ' H' => ∃ (bs : List (Int × Bx)) (w : List (Option Int)) (f : List Int) (v4 v5 : Option V), σ' = [some (.ref p), some (oV x), some (.ref wl), some (.ref fl), v4, v5] ∧
        PileAt C B p g { Q0 with boxes := bs } (twoL R wl fl (lV w) (f.map V.int)) H' ∧ Wf { Q0 with boxes := bs } w ∧ w.length + room bs = m' ∧ f ++ (go m' bs w).2 = (run Q0.boxes [x]).2 ∧ (go m' bs w).1 = (run Q0.boxes [x]).1 ∧ f.length + m' ≤ 400,
        fun σ' H' h' => ⟨m', Nat.lt_succ_self _, h'⟩, ?_⟩
      obtain ⟨Wf', mf'⟩ := fall_ok W
      have mf : (fall bs w y).2.1.length + room (fall bs w y).1 = m' := by
        have q : (fall bs w y).2.1.length + room (fall bs w y).1 = w.length + room bs := mf'
        rw [List.length_cons] at hm
        omega
      have e2' : (f ++ (fall bs w y).2.2) ++ (go m' (fall bs w y).1 (fall bs w y).2.1).2 = (run Q0.boxes [x]).2 := by rw [List.append_assoc]; exact e2
      have e1' : (go m' (fall bs w y).1 (fall bs w y).2.1).1 = (run Q0.boxes [x]).1 := e1
      -- number = waiting.pop(0)
      refine ⟨_, rfl, .inl ⟨rfl, _, SqL.of hwl⟩, wl, lV (y :: w), 0, 0, oV y, rfl, rfl, hwl, by omega, by omega, seq0 (by show 0 < (lV (y :: w)).length; rw [lV_len]; exact Nat.succ_pos _), rfl, ?_⟩
      have A2 : PileAt C B p g { Q0 with boxes := bs } (twoL R wl fl (lV w) (f.map V.int)) (upd H wl (.lst (lV w))) := by
        have := A.set (a := wl) (o := .lst (lV w)) (by unfold twoL; rw [upd_ne nwf, upd_same])
        rw [twoL_a nwf] at this
        exact this
      show (tSeq _ _ : TS) _ _ (upd H wl (.lst (lV w)))
      generalize upd H wl (.lst (lV w)) = H2 at A2 ⊢
      cases y with
      | none =>
        refine ⟨_, rfl, rfl, _, rfl, ?_⟩
        refine iteT ?_
        exact ⟨bs, w, f, _, _, rfl, A2, Wf', mf, by simpa [fall] using e2', e1', by omega⟩
      | some n =>
        refine ⟨_, rfl, rfl, _, rfl, ?_⟩
        refine iteF ?_
        obtain ⟨b, hb'⟩ := W.cl n (by rw [cnt_cons]; show 0 < _ + (one (some n) n + _); simp [one]; omega)
        have hb : get bs n = some b := hb'
        have hg : valV (dV g.ba bs) (Sum.inl n : Key) = some (V.ref (g.ba n)) := by rw [valV_dV, hb]; rfl
        have hD : DGet H2 g.db (.int n) (some (V.ref (g.ba n))) := by
          have := DGet.k (k := Sum.inl n) A2.hd
          rw [hg] at this
          exact this
        have hB := A2.hb n b hb
        have eo : putF "suspect" (.bl true) (putF "weight" (.int (b.wt - 1)) (bf (g.sa n) b.wt b.sus)) = bf (g.sa n) (low b).wt (low b).sus := by rw [bf_putw, bf_puts]; rfl
        refine ⟨_, rfl, p, C, g.dx, _, _, rfl, A2.hp, T.clC, T.nB, pf_boxes _ _ _, _, rfl, g.db, _, rfl, hD, ?_⟩
        refine ⟨_, rfl, g.ba n, B, g.bd n, _, _, rfl, hB, T.clB, T.nW, bf_weight _ _ _, _, _, rfl, rfl, g.bd n, _, hB, (by rw [bf_len]; decide), ?_⟩
        refine ⟨_, rfl, g.ba n, B, g.bd n, _, rfl, upd_same, T.clB, T.nU, (by rw [bf_putw, bf_len]; decide), ?_⟩
        rw [eo, upd_upd]
        have A3 : PileAt C B p g { Q0 with boxes := chg bs n low } (twoL R wl fl (lV w) (f.map V.int)) (upd H2 (g.ba n) (.ins B (g.bd n) (bf (g.sa n) (low b).wt (low b).sus))) := A2.box hb low rfl
        have hb3 : get (chg bs n low) n = some (low b) := by rw [get_chg, hb]; simp
        have hB3 := A3.hb n (low b) hb3
        have hS3 := A3.hs n (low b) hb3
        generalize upd H2 (g.ba n) (.ins B (g.bd n) (bf (g.sa n) (low b).wt (low b).sus)) = H3 at A3 hB3 hS3 ⊢
        refine ⟨_, rfl, g.ba n, B, g.bd n, _, _, rfl, hB3, T.clB, T.nW, bf_weight _ _ _, rfl, _, rfl, ?_⟩
        by_cases hw : b.wt = 1
        · have ef : fall bs w (some n) = (rm bs n, w ++ b.slots, [n]) := by
            show (match get bs n with | none => _ | some b => _) = _
            rw [hb]
            show (if b.wt = 1 then _ else _) = _
            rw [if_pos hw]
          rw [ef] at Wf' mf e2' e1'
          have hz : decide (V.int (low b).wt = V.int 0) = true := decide_eq_true (by show V.int (b.wt - 1) = V.int 0; rw [hw]; rfl)
          rw [hz]
          refine iteT ?_
          have hk : valV (dV g.ba (chg bs n low)) (Sum.inl n : Key) = some (V.ref (g.ba n)) := by rw [valV_dV, hb3]; rfl
          refine ⟨_, rfl, p, C, g.dx, _, _, rfl, A3.hp, T.clC, T.nB, pf_boxes _ _ _, _, rfl, g.db, _, Sum.inl n, rfl, A3.hd, rfl, (by simp [hk]), ?_⟩
          have A4 : PileAt C B p g { Q0 with boxes := rm bs n } (twoL R wl fl (lV w) (f.map V.int)) (upd H3 g.db (.dK (dropK (dV g.ba (chg bs n low)) (Sum.inl n)))) := by
            have := A3.del n
            have e : rm (chg bs n low) n = rm bs n := rm_chg n low bs
            rw [show ({ ({ Q0 with boxes := chg bs n low } : Pl) with boxes := rm ({ Q0 with boxes := chg bs n low } : Pl).boxes n } : Pl) = { Q0 with boxes := rm bs n } from by rw [← e]] at this
            exact this
          have hB4 : upd H3 g.db (.dK (dropK (dV g.ba (chg bs n low)) (Sum.inl n))) (g.ba n) = some (.ins B (g.bd n) (bf (g.sa n) (low b).wt (low b).sus)) := by rw [upd_ne (A3.ba_db hb3)]; exact hB3
          have hS4 : upd H3 g.db (.dK (dropK (dV g.ba (chg bs n low)) (Sum.inl n))) (g.sa n) = some (.lst (lV b.slots)) := by rw [upd_ne (A3.sa_db hb3)]; exact hS3
          have nsf : g.sa n ≠ fl := fun q => by
            have := A3.rs n (low b) hb3
            rw [q] at this
            unfold twoL at this
            rw [upd_same] at this
            cases this
          have nsw : g.sa n ≠ wl := fun q => by
            have := A3.rs n (low b) hb3
            rw [q] at this
            unfold twoL at this
            rw [upd_ne nwf, upd_same] at this
            cases this
          generalize upd H3 g.db (.dK (dropK (dV g.ba (chg bs n low)) (Sum.inl n))) = H4 at A4 hB4 hS4 ⊢
          have hfl4 : H4 fl = some (.lst (f.map V.int)) := A4.same _ _ (by unfold twoL; rw [upd_same])
          refine ⟨_, rfl, .inl ⟨rfl, _, SqL.of hfl4⟩, _, rfl, fl, _, _, rfl, rfl, hfl4, (by rw [List.length_map, sizeLine_eq]; omega), ?_⟩
          have A5 : PileAt C B p g { Q0 with boxes := rm bs n } (twoL R wl fl (lV w) ((f ++ [n]).map V.int)) (upd H4 fl (.lst (f.map V.int ++ [V.int n]))) := by
            have := A4.set (a := fl) (o := .lst (f.map V.int ++ [V.int n])) (by unfold twoL; rw [upd_same])
            rw [twoL_b] at this
            rw [List.map_append]
            exact this
          have hB5 : upd H4 fl (.lst (f.map V.int ++ [V.int n])) (g.ba n) = some (.ins B (g.bd n) (bf (g.sa n) (low b).wt (low b).sus)) := by rw [upd_ne (ne_of hB4 hfl4 ins_ne_lst)]; exact hB4
          have hS5 : upd H4 fl (.lst (f.map V.int ++ [V.int n])) (g.sa n) = some (.lst (lV b.slots)) := by rw [upd_ne nsf]; exact hS4
          rw [show oV (some n) = V.int n from rfl]
          generalize upd H4 fl (.lst (f.map V.int ++ [V.int n])) = H5 at A5 hB5 hS5 ⊢
          have hwl5 : H5 wl = some (.lst (lV w)) := A5.same _ _ (by unfold twoL; rw [upd_ne nwf, upd_same])
          refine ⟨_, rfl, .inl ⟨rfl, _, SqL.of hwl5⟩, _, rfl, g.ba n, B, g.bd n, _, _, rfl, hB5, T.clB, T.nS, bf_slots _ _ _, wl, g.sa n, _, _, rfl, rfl, hwl5, hS5, ?_, ?_⟩
          · have h6 : b.slots.length ≤ 6 := W.sl n b hb
            rw [lV_len, lV_len, sizeLine_eq]
            rw [List.length_cons] at hm
            omega
          · have A6 : PileAt C B p g { Q0 with boxes := rm bs n } (twoL R wl fl (lV (w ++ b.slots)) ((f ++ [n]).map V.int)) (upd H5 wl (.lst (lV w ++ lV b.slots))) := by
              have := A5.set (a := wl) (o := .lst (lV w ++ lV b.slots)) (by unfold twoL; rw [upd_ne nwf, upd_same])
              rw [twoL_a nwf] at this
              have e : lV (w ++ b.slots) = lV w ++ lV b.slots := List.map_append
              rw [e]
              exact this
            exact ⟨rm bs n, w ++ b.slots, f ++ [n], _, _, rfl, A6, Wf', mf, e2', e1', by rw [List.length_append, List.length_singleton]; omega⟩
        · have ef : fall bs w (some n) = (chg bs n low, w, []) := by
            show (match get bs n with | none => _ | some b => _) = _
            rw [hb]
            show (if b.wt = 1 then _ else _) = _
            rw [if_neg hw]
          rw [ef] at Wf' mf e2' e1'
          have hz : decide (V.int (low b).wt = V.int 0) = false := decide_eq_false (by show ¬ V.int (b.wt - 1) = V.int 0; intro q; injection q with q; omega)
          rw [hz]
          refine iteF ?_
          exact ⟨chg bs n low, w, f, _, _, rfl, A3, Wf', mf, by simpa using e2', e1', by omega⟩
/-! ### _point -/
theorem scPoint : FnScope ["self", "pointers", "at", "number", "box", "old"] ["self", "pointers", "at", "number"] (defScope sPoint) := ⟨rfl, rfl, rfl, by decide +kernel, rfl, by decide +kernel, by decide +kernel⟩
theorem ixN_of {n i : Nat} (h : i < n) : ixN n (i : Int) = some i := by
  unfold ixN
  rw [if_pos (by omega), if_pos (by omega)]
  rfl
theorem ok_point {f fL : Addr} {fd fdL : FuncData} (F : Fun K "_point" "Pile._point" sPoint f fd) (T : Txt K mg C B eH eS eF eB eL) (FL : Fun K "_let_go" "Pile._let_go" sLetGo fL fdL) (bL : Binds K fdL ["self", "pointer"] []) (mL : Meth K C "_let_go" fL) :
    FnOk P w K mg base CX0 2 f fd ["self", "pointers", "at", "number"] (spPoint C B) := by
  have GL : FnOk P w K mg base CX0 1 fL fdL ["self", "pointer"] (spLetGo C B) := ok_letgo FL T
  refine F.ok scPoint (fun vs H Q E h => ?_) (fun cdv A outer s H vs Q E hr h => ?_)
  · obtain ⟨p, a, g, P, S, R, x, l, i, rfl, _⟩ := h
    rfl
  · obtain ⟨p, a, g, P0, S, R, x, l, i, rfl, A0, hx, hi, hset, WS, k⟩ := h
    have hu := hu_of hr
    refine ⟨_, pss_cons (ps_if (pt_cmpR op_notN (pv 3) pe_non (nomark _))
        (pss_cons (ps_set (i := 4) scPoint.nd rfl (Or.inl rfl) (pe_dget hu (pe_fld (pv 0) rfl) (pv 3) (fun _ _ => rfl))) (pss_one (ps_fldaug (pv 4) pe_int in_add))) pss_nil)
      (pss_cons (ps_set (i := 5) scPoint.nd rfl (Or.inl rfl) (pe_ix ix_list (pv 1) (pv 2) (fun _ _ => rfl)))
      (pss_cons (ps_asg (pv 3) (pg_sub (pv 1) (pv 2) set_list))
      (pss_one (ps_ret (pe_meth (pv 0) T.clC mL GL hr bL .nil pass0 (pa_cons (pv 5) pa_nil)))))), ?_⟩
    refine ⟨_, rfl, rfl, _, rfl, ?_⟩
    cases x
    case' none =>
      refine iteF ?_
      have A1 : PileAt C B p g { P0 with boxes := bumped P0.boxes none } R H := A0
    case' some n =>
      refine iteT ?_
      obtain ⟨b, hb⟩ := hx n rfl
      have hD : DGet H g.db (.int n) (some (V.ref (g.ba n))) := by
        have := DGet.k (k := Sum.inl n) A0.hd
        rw [valV_dV, hb] at this
        exact this
      have hB := A0.hb n b hb
      refine ⟨_, rfl, p, C, g.dx, _, _, rfl, A0.hp, T.clC, T.nB, pf_boxes _ _ _, _, rfl, g.db, _, rfl, hD, ?_⟩
      refine ⟨_, rfl, g.ba n, B, g.bd n, _, _, rfl, hB, T.clB, T.nW, bf_weight _ _ _, _, _, rfl, rfl, g.bd n, _, hB, (by rw [bf_len]; decide), ?_⟩
      rw [bf_putw]
      have A1 : PileAt C B p g { P0 with boxes := bumped P0.boxes (some n) } R (upd H (g.ba n) (.ins B (g.bd n) (bf (g.sa n) (bump b).wt (bump b).sus))) := A0.box hb bump rfl
      show (tSeq _ _ : TS) _ _ (upd H (g.ba n) (.ins B (g.bd n) (bf (g.sa n) (bump b).wt (bump b).sus)))
      generalize upd H (g.ba n) (.ins B (g.bd n) (bf (g.sa n) (bump b).wt (bump b).sus)) = H1 at A1 ⊢
    all_goals
      obtain ⟨h1, A2⟩ := hset _ A1
      refine ⟨_, rfl, _, rfl, a, _, _, _, rfl, rfl, SqL.of h1, at_of (j := i) rfl (lV_get hi), ?_⟩
      refine ⟨_, rfl, _, rfl, _, rfl, a, _, _, i, rfl, rfl, h1, ixN_of (by rw [lV_len]; exact hi), ?_⟩
      rw [lV_set]
      exact ⟨_, rfl, p, g.dx, _, rfl, A2.hp, pf_no _ _ _ (by decide +kernel) (by decide +kernel) (by decide +kernel), _, rfl, p, g, S, R, l.getD i none, rfl, A2, WS, k⟩
/-! ### make -/
theorem scMake : FnScope ["self", "hand", "size", "number"] ["self", "hand", "size"] (defScope sMake) := ⟨rfl, rfl, rfl, by decide +kernel, rfl, by decide +kernel, by decide +kernel⟩
theorem ok_make {f fL fP fB fK : Addr} {fd fdL fdP fdB fdK : FuncData} (F : Fun K "make" "Pile.make" sMake f fd) (T : Txt K mg C B eH eS eF eB eL) (FL : Fun K "_let_go" "Pile._let_go" sLetGo fL fdL) (bL : Binds K fdL ["self", "pointer"] []) (mL : Meth K C "_let_go" fL)
    (FP : Fun K "_point" "Pile._point" sPoint fP fdP) (bP : Binds K fdP ["self", "pointers", "at", "number"] []) (mP : Meth K C "_point" fP) (MB : Mk K B fB) (FB : Fun K "__init__" "Box.__init__" sBoxInit fB fdB) (bB : Binds K fdB ["self", "size"] [])
    (FK : Fun K "check_hand" "check_hand" sCheck fK fdK) (bK : Binds K fdK ["hand"] []) (gK : mg "check_hand" = some (.ref fK)) :
    FnOk P w K mg base (L2.CX P w) 3 f fd ["self", "hand", "size"] (spMake C B eH eS eF) := by
  have GK : FnOk P w K mg base (L2.CX P w) 1 fK fdK ["hand"] (spCheck eH) := ok_check FK T
  have GB : FnOk P w K mg base CX0 1 fB fdB ["self", "size"] (spBoxInit B) := ok_boxinit FB T
  have GP : FnOk P w K mg base CX0 2 fP fdP ["self", "pointers", "at", "number"] (spPoint C B) := ok_point FP T FL bL mL
  refine F.okX scMake (fun vs H Q E h => ?_) (fun cdv A outer s H vs Q E hr h => ?_)
  · obtain ⟨p, P, R, h, s, rfl, _⟩ := h
    rfl
  · obtain ⟨p, P0, R, h, z, rfl, ⟨⟨g, A0⟩, W0⟩, kH, kS, kF, k⟩ := h
    have hu := hu_of hr
    have hr1 : Room 1 _ := hr.mono (by decide)
    obtain ⟨t6, hT6⟩ := T.most
    obtain ⟨t60, hT60⟩ := T.alive
    refine ⟨_, pss_cons (ps_expr (pe_call GK hr1 rfl gK FK.kp bK .nil (passes_call (takes_of rfl rfl rfl rfl) (fun _ _ _ _ h => h)) (pa_cons (pv 1) pa_nil)))
      (pss_cons (ps_if (pt_not (pt_chain op_le op_le pe_int (pv 2) (pe_glob (v := .int 6) rfl hT6 ⟨_, rfl⟩))) (pss_one (ps_raise rfl (takes_of rfl rfl rfl rfl) (pmk_own PySem.F.excBase_ValueError T.eS.x T.eS.g T.eS.k (raises_own T.eS.b T.eS.t) rfl))) pss_nil)
      (pss_cons (ps_if (pt_cmpR op_ge (pe_callB call_lenD (by rfl) T.len PySem.boot_len (pa_cons (pe_fld (pv 0) rfl) pa_nil)) (pe_glob (v := .int 60) rfl hT60 ⟨_, rfl⟩) (nomark _)) (pss_one (ps_raise rfl (takes_of rfl rfl rfl rfl) (pmk_own PySem.F.excBase_ValueError T.eF.x T.eF.g T.eF.k (raises_own T.eF.b T.eF.t) rfl))) pss_nil)
      (pss_cons (ps_set (i := 3) scMake.nd rfl (Or.inl rfl) (pe_fld (pv 0) rfl))
      (pss_cons (ps_fldaug (pv 0) pe_int in_add)
      (pss_cons (ps_dput hu (pe_fld (pv 0) rfl) (pv 3) (pe_make MB GB hr rfl T.mgB bB .nil pass0 (pa_cons (pv 2) pa_nil)) rfl)
      (pss_one (ps_ret (pe_meth (pv 0) T.clC mP GP hr bP .nil pass0 (pa_cons (pe_fld (pv 0) rfl) (pa_cons (pv 1) (pa_cons (pv 3) pa_nil))))))))))), ?_⟩
    refine ⟨_, rfl, h, rfl, fun ch => ?_, fun ch => kH ch⟩
    refine ⟨_, rfl, _, _, rfl, rfl, _, rfl, ?_⟩
    have size : ∀ {A B : Prop}, ((0 ≤ z ∧ z ≤ 6) → B) → (¬ (0 ≤ z ∧ z ≤ 6) → A) → True := fun _ _ => trivial
    by_cases z0 : 0 ≤ z
    case neg =>
      rw [decide_eq_false z0]
      refine iteF ⟨_, rfl, ?_⟩
      exact iteT (kS ch fun q => z0 q.1)
    rw [decide_eq_true z0]
    refine iteT ⟨_, _, rfl, rfl, _, rfl, ?_⟩
    by_cases z6 : z ≤ 6
    case neg =>
      rw [decide_eq_false z6]
      exact iteT (kS ch fun q => z6 q.2)
    rw [decide_eq_true z6]
    refine iteF ?_
    have kF' := kF ch ⟨z0, z6⟩
    have k' := k ch ⟨z0, z6⟩
    refine ⟨_, rfl, p, C, g.dx, _, _, rfl, A0.hp, T.clC, T.nB, pf_boxes _ _ _, _, _, rfl, A0.hd, _, _, rfl, rfl, _, rfl, ?_⟩
    rw [dV_len]
    by_cases c60 : 60 ≤ P0.boxes.length
    · refine if_pos_of (decide_eq_true (by omega)) ?_
      exact kF' c60
    refine if_neg_of (decide_eq_false (by omega)) ?_
    have c60' : P0.boxes.length < 60 := by omega
    have hsz : z.toNat ≤ 6 := by omega
    have hh8 : h.toNat < 8 := by omega
    refine ⟨_, rfl, p, C, g.dx, _, _, rfl, A0.hp, T.clC, T.nM, pf_made _ _ _, ?_⟩
    refine ⟨_, rfl, p, C, g.dx, _, _, rfl, A0.hp, T.clC, T.nM, pf_made _ _ _, _, _, rfl, rfl, g.dx, _, A0.hp, (by rw [pf_len]; decide), ?_⟩
    rw [pf_put]
    have A1 := A0.count (P0.made + 1)
    generalize upd H p (.ins C g.dx (pf g.lh g.db (P0.made + 1))) = H1 at A1 ⊢
    refine ⟨_, rfl, ?_⟩
    intro x dx nx ndx nex
    refine ⟨x, dx, z.toNat, (by rw [Int.toNat_of_nonneg z0]; rfl), hsz, upd_same, fun l sl hl hsl => ⟨rfl, ?_⟩⟩
    have A2 := A1.new (o := .own x) ndx
    have A3 := A2.new (a := x) (o := .ins B dx []) (by rw [upd_ne nex.symm]; exact nx)
    have A4 := A3.new (o := .lst [.non]) hl
    have A5 := A4.new (o := .lst (lV (List.replicate z.toNat none))) hsl
    have xl : x ≠ l := ne_of_none upd_same hl
    have xsl : x ≠ sl := ne_of_none (by rw [upd_ne xl]; exact upd_same) hsl
    have A6 := A5.set (a := x) (o := .ins B dx (bf sl 0 false)) (by rw [upd_ne xsl, upd_ne xl]; exact upd_same)
    have rx : R x = none := A1.same.free nx
    have rdx : R dx = none := A1.same.free ndx
    have r2 : Same R (upd (upd R dx (.own x)) x (.ins B dx [])) := (same_upd rdx).trans (same_upd (by rw [upd_ne nex.symm]; exact rx))
    have rl : upd (upd R dx (.own x)) x (.ins B dx []) l = none := A3.same.free hl
    have rsl : upd (upd (upd R dx (.own x)) x (.ins B dx [])) l (.lst [.non]) sl = none := A4.same.free hsl
    have r3 := r2.trans (same_upd (o := .lst [.non]) rl)
    have r4 := r3.trans (same_upd (o := .lst (lV (List.replicate z.toNat none))) rsl)
    have r5 : Same R (upd (upd (upd (upd (upd R dx (.own x)) x (.ins B dx [])) l (.lst [.non])) sl (.lst (lV (List.replicate z.toNat none)))) x (.ins B dx (bf sl 0 false))) := fun b o e => by
      rw [upd_ne (ne_of_none e rx)]
      exact r4 b o e
    have gn : get ({ P0 with made := P0.made + 1 } : Pl).boxes P0.made = none := get_none.mpr fun q => by
      have := (W0.lo P0.made q).2
      omega
    have A7 := A6.add (R' := R) (n := P0.made) (b := ⟨List.replicate z.toNat none, 0, false⟩) (x := x) (dx := dx) (sl := sl) gn upd_same (by rw [upd_ne xsl.symm]; exact upd_same) r5 rx (r3.free rsl)
    generalize upd (upd (upd (upd (upd H1 dx (.own x)) x (.ins B dx [])) l (.lst [.non])) sl (.lst (lV (List.replicate z.toNat none)))) x (.ins B dx (bf sl 0 false)) = H6 at A6 A7 ⊢
    refine ⟨_, rfl, p, C, g.dx, _, _, rfl, A6.hp, T.clC, T.nB, pf_boxes _ _ _, _, rfl, g.db, _, rfl, DPut.k (k := Sum.inl P0.made) A6.hd (by rw [dV_len, sizeLine_eq]; show P0.boxes.length < _; omega), ?_⟩
    refine ⟨_, rfl, p, g.dx, _, rfl, A7.hp, pf_no _ _ _ (by decide +kernel) (by decide +kernel) (by decide +kernel), _, rfl, p, C, g.dx, _, _, rfl, A7.hp, T.clC, T.nH, pf_hands _ _ _, _, rfl, _, rfl, ?_⟩
    refine ⟨p, g.lh, _, born P0 z.toNat, { born P0 z.toNat with hands := P0.hands.set h.toNat (some P0.made), boxes := bumped (born P0 z.toNat).boxes (some P0.made) }, R, some P0.made, P0.hands, h.toNat, ?_, A7, (W0.born hsz c60').hx, by rw [W0.hl]; exact hh8,
      fun H1 A => ⟨A.hh, A.hand _⟩, (W0.born hsz c60').hand hh8, fun r H' hr A => k' c60' r H' hr ⟨⟨_, A⟩, mk_ok W0 hh8 hsz c60'⟩⟩
    rw [Int.toNat_of_nonneg ch.1]
    rfl
/-! ### hold -/
theorem scHold : FnScope ["self", "hand", "other"] ["self", "hand", "other"] (defScope sHold) := ⟨rfl, rfl, rfl, by decide +kernel, rfl, by decide +kernel, by decide +kernel⟩
theorem ok_hold {f fL fP fK : Addr} {fd fdL fdP fdK : FuncData} (F : Fun K "hold" "Pile.hold" sHold f fd) (T : Txt K mg C B eH eS eF eB eL) (FL : Fun K "_let_go" "Pile._let_go" sLetGo fL fdL) (bL : Binds K fdL ["self", "pointer"] []) (mL : Meth K C "_let_go" fL)
    (FP : Fun K "_point" "Pile._point" sPoint fP fdP) (bP : Binds K fdP ["self", "pointers", "at", "number"] []) (mP : Meth K C "_point" fP) (FK : Fun K "check_hand" "check_hand" sCheck fK fdK) (bK : Binds K fdK ["hand"] []) (gK : mg "check_hand" = some (.ref fK)) :
    FnOk P w K mg base (L2.CX P w) 3 f fd ["self", "hand", "other"] (spHold C B eH) := by
  have GK : FnOk P w K mg base (L2.CX P w) 1 fK fdK ["hand"] (spCheck eH) := ok_check FK T
  have GP : FnOk P w K mg base CX0 2 fP fdP ["self", "pointers", "at", "number"] (spPoint C B) := ok_point FP T FL bL mL
  refine F.okX scHold (fun vs H Q E h => ?_) (fun cdv A outer s H vs Q E hr h => ?_)
  · obtain ⟨p, P, R, h, o, rfl, _⟩ := h
    rfl
  · obtain ⟨p, P0, R, h, o, rfl, ⟨⟨g, A0⟩, W0⟩, kH, kO, k⟩ := h
    have hr1 : Room 1 _ := hr.mono (by decide)
    refine ⟨_, pss_cons (ps_expr (pe_call GK hr1 rfl gK FK.kp bK .nil (passes_call (takes_of rfl rfl rfl rfl) (fun _ _ _ _ h => h)) (pa_cons (pv 1) pa_nil))) (pss_cons (ps_expr (pe_call GK hr1 rfl gK FK.kp bK .nil (passes_call (takes_of rfl rfl rfl rfl) (fun _ _ _ _ h => h)) (pa_cons (pv 2) pa_nil)))
      (pss_one (ps_ret (pe_meth (pv 0) T.clC mP GP hr bP .nil pass0 (pa_cons (pe_fld (pv 0) rfl) (pa_cons (pv 1) (pa_cons (pe_ix ix_list (pe_fld (pv 0) rfl) (pv 2) (fun _ _ => rfl)) pa_nil))))))), ?_⟩
    refine ⟨_, rfl, h, rfl, fun ch => ?_, fun ch => kH ch⟩
    refine ⟨_, rfl, o, rfl, fun co => ?_, fun co => kO ch co⟩
    have h8 : h.toNat < 8 := by omega
    have ol : o.toNat < P0.hands.length := by rw [W0.hl]; omega
    have hpre : Pre P0 (P0.hands.getD o.toNat none) := W0.pre fun n e => W0.hand e
    refine ⟨_, rfl, p, g.dx, _, rfl, A0.hp, pf_no _ _ _ (by decide +kernel) (by decide +kernel) (by decide +kernel), _, rfl, p, C, g.dx, _, _, rfl, A0.hp, T.clC, T.nH, pf_hands _ _ _, _, rfl, _, rfl, p, C, g.dx, _, _, rfl, A0.hp, T.clC, T.nH, pf_hands _ _ _, _, rfl, g.lh, _, _, _, rfl, rfl, SqL.of A0.hh, at_of (j := o.toNat) (by rw [Int.toNat_of_nonneg co.1]) (lV_get ol), ?_⟩
    refine ⟨p, g.lh, g, P0, { P0 with hands := P0.hands.set h.toNat (P0.hands.getD o.toNat none), boxes := bumped P0.boxes (P0.hands.getD o.toNat none) }, R, P0.hands.getD o.toNat none, P0.hands, h.toNat, (by rw [Int.toNat_of_nonneg ch.1]; rfl), A0, hpre.hx, by rw [W0.hl]; exact h8,
      fun H1 A => ⟨A.hh, A.hand _⟩, hpre.hand h8, fun r H' hr A => k ch co r H' hr ⟨⟨_, A⟩, ptHand_ok hpre h8⟩⟩
/-! ### drop -/
theorem scDrop : FnScope ["self", "hand"] ["self", "hand"] (defScope sDrop) := ⟨rfl, rfl, rfl, by decide +kernel, rfl, by decide +kernel, by decide +kernel⟩
theorem ok_drop {f fL fP fK : Addr} {fd fdL fdP fdK : FuncData} (F : Fun K "drop" "Pile.drop" sDrop f fd) (T : Txt K mg C B eH eS eF eB eL) (FL : Fun K "_let_go" "Pile._let_go" sLetGo fL fdL) (bL : Binds K fdL ["self", "pointer"] []) (mL : Meth K C "_let_go" fL)
    (FP : Fun K "_point" "Pile._point" sPoint fP fdP) (bP : Binds K fdP ["self", "pointers", "at", "number"] []) (mP : Meth K C "_point" fP) (FK : Fun K "check_hand" "check_hand" sCheck fK fdK) (bK : Binds K fdK ["hand"] []) (gK : mg "check_hand" = some (.ref fK)) :
    FnOk P w K mg base (L2.CX P w) 3 f fd ["self", "hand"] (spDrop C B eH) := by
  have GK : FnOk P w K mg base (L2.CX P w) 1 fK fdK ["hand"] (spCheck eH) := ok_check FK T
  have GP : FnOk P w K mg base CX0 2 fP fdP ["self", "pointers", "at", "number"] (spPoint C B) := ok_point FP T FL bL mL
  refine F.okX scDrop (fun vs H Q E h => ?_) (fun cdv A outer s H vs Q E hr h => ?_)
  · obtain ⟨p, P, R, h, rfl, _⟩ := h
    rfl
  · obtain ⟨p, P0, R, h, rfl, ⟨⟨g, A0⟩, W0⟩, kH, k⟩ := h
    have hr1 : Room 1 _ := hr.mono (by decide)
    refine ⟨_, pss_cons (ps_expr (pe_call GK hr1 rfl gK FK.kp bK .nil (passes_call (takes_of rfl rfl rfl rfl) (fun _ _ _ _ h => h)) (pa_cons (pv 1) pa_nil)))
      (pss_one (ps_ret (pe_meth (pv 0) T.clC mP GP hr bP .nil pass0 (pa_cons (pe_fld (pv 0) rfl) (pa_cons (pv 1) (pa_cons pe_non pa_nil)))))), ?_⟩
    refine ⟨_, rfl, h, rfl, fun ch => ?_, fun ch => kH ch⟩
    have h8 : h.toNat < 8 := by omega
    have hpre : Pre P0 none := W0.pre fun n e => by cases e
    refine ⟨_, rfl, p, g.dx, _, rfl, A0.hp, pf_no _ _ _ (by decide +kernel) (by decide +kernel) (by decide +kernel), _, rfl, p, C, g.dx, _, _, rfl, A0.hp, T.clC, T.nH, pf_hands _ _ _, _, rfl, ?_⟩
    refine ⟨p, g.lh, g, P0, { P0 with hands := P0.hands.set h.toNat none, boxes := bumped P0.boxes none }, R, none, P0.hands, h.toNat, (by rw [Int.toNat_of_nonneg ch.1]; rfl), A0, hpre.hx, by rw [W0.hl]; exact h8,
      fun H1 A => ⟨A.hh, A.hand _⟩, hpre.hand h8, fun r H' hr A => k ch r H' hr ⟨⟨_, A⟩, ptHand_ok hpre h8⟩⟩
/-! ### check_slot -/
def spCheckSlot (eL : Addr) : Sp := fun vs H Q E => ∃ (a : Addr) (xs : List V) (z : Int), vs = [.ref a, .int z] ∧ H a = some (.lst xs) ∧ ((0 ≤ z ∧ z < (xs.length : Int)) → Q .non H) ∧ (¬ (0 ≤ z ∧ z < (xs.length : Int)) → E (.ref eL) none H)
theorem scCheckSlot : FnScope ["slots", "slot"] ["slots", "slot"] (defScope sCheckSlot) := ⟨rfl, rfl, rfl, by decide +kernel, rfl, by decide +kernel, by decide +kernel⟩
theorem ok_checkslot {f : Addr} {fd : FuncData} (F : Fun K "check_slot" "check_slot" sCheckSlot f fd) (T : Txt K mg C B eH eS eF eB eL) : FnOk P w K mg base (L2.CX P w) 1 f fd ["slots", "slot"] (spCheckSlot eL) := by
  refine F.okX scCheckSlot (fun vs H Q E h => ?_) (fun cdv A outer s H vs Q E hr h => ?_)
  · obtain ⟨a, xs, z, rfl, _⟩ := h
    rfl
  · obtain ⟨a, xs, z, rfl, ha, k1, k2⟩ := h
    refine ⟨_, pss_one (ps_if (pt_not (pt_chain op_le op_lt pe_int (pv 1) (pe_callB call_len_seq (by rfl) T.len PySem.boot_len (pa_cons (pv 0) pa_nil)))) (pss_one (ps_raise rfl (takes_of rfl rfl rfl rfl) (pmk_own PySem.F.excBase_ValueError T.eL.x T.eL.g T.eL.k (raises_own T.eL.b T.eL.t) rfl))) pss_nil), ?_⟩
    refine ⟨_, rfl, _, _, rfl, rfl, _, rfl, ?_⟩
    by_cases z0 : 0 ≤ z
    case neg =>
      rw [decide_eq_false z0]
      refine iteF ⟨_, rfl, ?_⟩
      exact iteT (k2 fun q => z0 q.1)
    rw [decide_eq_true z0]
    refine iteT ⟨_, rfl, a, _, rfl, .inl (SqL.of ha), _, _, rfl, rfl, _, rfl, ?_⟩
    by_cases zl : z < (xs.length : Int)
    case neg =>
      rw [decide_eq_false zl]
      exact iteT (k2 fun q => zl q.2)
    rw [decide_eq_true zl]
    exact iteF (k1 ⟨z0, zl⟩)
/-! ### _slots_with -/
theorem scSlotsWith : FnScope ["self", "hand", "slot", "number", "slots"] ["self", "hand", "slot"] (defScope sSlotsWith) := ⟨rfl, rfl, rfl, by decide +kernel, rfl, by decide +kernel, by decide +kernel⟩
theorem ok_slotswith {f fCS : Addr} {fd fdCS : FuncData} (F : Fun K "_slots_with" "Pile._slots_with" sSlotsWith f fd) (T : Txt K mg C B eH eS eF eB eL) (FCS : Fun K "check_slot" "check_slot" sCheckSlot fCS fdCS) (bCS : Binds K fdCS ["slots", "slot"] []) (gCS : mg "check_slot" = some (.ref fCS)) : FnOk P w K mg base (L2.CX P w) 2 f fd ["self", "hand", "slot"] (spSlotsWith C B eB eL) := by
  have GCS : FnOk P w K mg base (L2.CX P w) 1 fCS fdCS ["slots", "slot"] (spCheckSlot eL) := ok_checkslot FCS T
  refine F.okX scSlotsWith (fun vs H Q E h => ?_) (fun cdv A outer s H vs Q E hr h => ?_)
  · obtain ⟨p, g, P, R, h, s, rfl, _⟩ := h
    rfl
  · obtain ⟨p, g, P0, R, h, z, rfl, A0, W0, ch, kB, kL, k⟩ := h
    have hu := hu_of hr
    refine ⟨_, pss_cons (ps_set (i := 3) scSlotsWith.nd rfl (Or.inl rfl) (pe_ix ix_list (pe_fld (pv 0) rfl) (pv 1) (fun _ _ => rfl)))
      (pss_cons (ps_if (pt_cmpR op_isN (pv 3) pe_non (nomark _)) (pss_one (ps_raise rfl (takes_of rfl rfl rfl rfl) (pmk_own PySem.F.excBase_ValueError T.eB.x T.eB.g T.eB.k (raises_own T.eB.b T.eB.t) rfl))) pss_nil)
      (pss_cons (ps_set (i := 4) scSlotsWith.nd rfl (Or.inl rfl) (pe_fld (pe_dget hu (pe_fld (pv 0) rfl) (pv 3) (fun _ _ => rfl)) rfl))
      (pss_cons (ps_expr (pe_call GCS hr rfl gCS FCS.kp bCS .nil (passes_call (takes_of rfl rfl rfl rfl) (fun _ _ _ _ h => h)) (pa_cons (pv 4) (pa_cons (pv 2) pa_nil))))
      (pss_one (ps_ret (pv 4)))))), ?_⟩
    have hl : h.toNat < P0.hands.length := by rw [W0.hl]; omega
    have hx := lV_get hl
    refine ⟨_, rfl, p, C, g.dx, _, _, rfl, A0.hp, T.clC, T.nH, pf_hands _ _ _, _, rfl, g.lh, _, _, _, rfl, rfl, SqL.of A0.hh, at_of (j := h.toNat) (by rw [Int.toNat_of_nonneg ch.1]) hx, ?_⟩
    refine ⟨_, rfl, rfl, _, rfl, ?_⟩
    cases e : P0.hands.getD h.toNat none with
    | none => exact iteT (kB e)
    | some n =>
      refine iteF ?_
      obtain ⟨b, hb⟩ := W0.hand e
      have hD : DGet H g.db (.int n) (some (V.ref (g.ba n))) := by
        have := DGet.k (k := Sum.inl n) A0.hd
        rw [valV_dV, hb] at this
        exact this
      refine ⟨_, rfl, p, C, g.dx, _, _, rfl, A0.hp, T.clC, T.nB, pf_boxes _ _ _, _, rfl, g.db, _, rfl, hD, g.ba n, B, g.bd n, _, _, rfl, A0.hb n b hb, T.clB, T.nS, bf_slots _ _ _, ?_⟩
      exact ⟨_, rfl, _, rfl, g.sa n, _, z, rfl, A0.hs n b hb, fun c => ⟨_, rfl, k n b e hb (by rw [lV_len] at c; exact c)⟩, fun c => kL n b e hb (by rw [lV_len] at c; exact c)⟩
/-- a slot is set, as _point does it -/
theorem PileAt.slot' {p : Addr} {g : Geo} {P0 : Pl} {R H1 : Hp} {x : Option Int} {n : Int} {b : Bx} (hb : get P0.boxes n = some b) (i : Nat) (A : PileAt C B p g { P0 with boxes := bumped P0.boxes x } R H1) :
    H1 (g.sa n) = some (.lst (lV b.slots)) ∧ PileAt C B p g { P0 with boxes := chg (bumped P0.boxes x) n (setSlot i x) } R (upd H1 (g.sa n) (.lst (lV (b.slots.set i x)))) := by
  have hb' : get (bumped P0.boxes x) n = some (if x = some n then bump b else b) := by rw [get_bumped, hb]; rfl
  have es : (if x = some n then bump b else b).slots = b.slots := by
    by_cases q : x = some n
    · rw [if_pos q]; rfl
    · rw [if_neg q]
  have h1 := A.hs n _ hb'
  have h2 := A.slot hb' i x
  rw [es] at h1 h2
  exact ⟨h1, h2⟩
theorem slotOf_eq {bs : List (Int × Bx)} {n : Int} {b : Bx} (hb : get bs n = some b) (i : Nat) : slotOf bs n i = b.slots.getD i none := by
  unfold slotOf
  rw [hb]
/-! ### put -/
theorem scPut : FnScope ["self", "hand", "slot", "other"] ["self", "hand", "slot", "other"] (defScope sPut) := ⟨rfl, rfl, rfl, by decide +kernel, rfl, by decide +kernel, by decide +kernel⟩
theorem ok_put {f fL fP fK fY fCS : Addr} {fd fdL fdP fdK fdY fdCS : FuncData} (F : Fun K "put" "Pile.put" sPut f fd) (T : Txt K mg C B eH eS eF eB eL) (FL : Fun K "_let_go" "Pile._let_go" sLetGo fL fdL) (bL : Binds K fdL ["self", "pointer"] []) (mL : Meth K C "_let_go" fL)
    (FP : Fun K "_point" "Pile._point" sPoint fP fdP) (bP : Binds K fdP ["self", "pointers", "at", "number"] []) (mP : Meth K C "_point" fP) (FK : Fun K "check_hand" "check_hand" sCheck fK fdK) (bK : Binds K fdK ["hand"] []) (gK : mg "check_hand" = some (.ref fK)) (FY : Fun K "_slots_with" "Pile._slots_with" sSlotsWith fY fdY) (bY : Binds K fdY ["self", "hand", "slot"] []) (mY : Meth K C "_slots_with" fY) (FCS : Fun K "check_slot" "check_slot" sCheckSlot fCS fdCS) (bCS : Binds K fdCS ["slots", "slot"] []) (gCS : mg "check_slot" = some (.ref fCS)) :
    FnOk P w K mg base (L2.CX P w) 3 f fd ["self", "hand", "slot", "other"] (spPut C B eH eB eL) := by
  have GK : FnOk P w K mg base (L2.CX P w) 1 fK fdK ["hand"] (spCheck eH) := ok_check FK T
  have GP : FnOk P w K mg base CX0 2 fP fdP ["self", "pointers", "at", "number"] (spPoint C B) := ok_point FP T FL bL mL
  have GY : FnOk P w K mg base (L2.CX P w) 2 fY fdY ["self", "hand", "slot"] (spSlotsWith C B eB eL) := ok_slotswith FY T FCS bCS gCS
  refine F.okX scPut (fun vs H Q E h => ?_) (fun cdv A outer s H vs Q E hr h => ?_)
  · obtain ⟨p, P, R, h, s, o, rfl, _⟩ := h
    rfl
  · obtain ⟨p, P0, R, h, z, o, rfl, ⟨⟨g, A0⟩, W0⟩, kH, kO, kB, kL, k⟩ := h
    have hr1 : Room 1 _ := hr.mono (by decide)
    refine ⟨_, pss_cons (ps_expr (pe_call GK hr1 rfl gK FK.kp bK .nil (passes_call (takes_of rfl rfl rfl rfl) (fun _ _ _ _ h => h)) (pa_cons (pv 1) pa_nil))) (pss_cons (ps_expr (pe_call GK hr1 rfl gK FK.kp bK .nil (passes_call (takes_of rfl rfl rfl rfl) (fun _ _ _ _ h => h)) (pa_cons (pv 3) pa_nil)))
      (pss_one (ps_ret (pe_meth (pv 0) T.clC mP GP hr bP .nil pass0 (pa_cons (pe_meth (pv 0) T.clC mY GY hr bY .nil (passes_call (takes_of rfl rfl rfl rfl) (fun _ _ _ _ h => h)) (pa_cons (pv 1) (pa_cons (pv 2) pa_nil))) (pa_cons (pv 2) (pa_cons (pe_ix ix_list (pe_fld (pv 0) rfl) (pv 3) (fun _ _ => rfl)) pa_nil))))))), ?_⟩
    refine ⟨_, rfl, h, rfl, fun ch => ?_, fun ch => kH ch⟩
    refine ⟨_, rfl, o, rfl, fun co => ?_, fun co => kO ch co⟩
    have ol : o.toNat < P0.hands.length := by rw [W0.hl]; omega
    have hpre : Pre P0 (P0.hands.getD o.toNat none) := W0.pre fun n e => W0.hand e
    refine ⟨_, rfl, p, g.dx, _, rfl, A0.hp, pf_no _ _ _ (by decide +kernel) (by decide +kernel) (by decide +kernel), _, rfl, p, g.dx, _, rfl, A0.hp, pf_no _ _ _ (by decide +kernel) (by decide +kernel) (by decide +kernel), _, rfl, _, rfl, p, g, P0, R, h, z, rfl, A0, W0, ch, kB ch co, kL ch co, fun n b e hb cz => ?_⟩
    refine ⟨_, rfl, _, rfl, p, C, g.dx, _, _, rfl, A0.hp, T.clC, T.nH, pf_hands _ _ _, _, rfl, g.lh, _, _, _, rfl, rfl, SqL.of A0.hh, at_of (j := o.toNat) (by rw [Int.toNat_of_nonneg co.1]) (lV_get ol), ?_⟩
    have zl : z.toNat < b.slots.length := by omega
    have k' := k ch co n b e hb cz
    unfold ptSlot at k'
    rw [slotOf_eq hb] at k'
    have W' := ptSlot_ok hpre hb zl
    unfold ptSlot at W'
    rw [slotOf_eq hb] at W'
    exact ⟨p, g.sa n, g, P0, { P0 with boxes := chg (bumped P0.boxes (P0.hands.getD o.toNat none)) n (setSlot z.toNat (P0.hands.getD o.toNat none)) }, R, P0.hands.getD o.toNat none, b.slots, z.toNat, (by rw [Int.toNat_of_nonneg cz.1]; rfl), A0, hpre.hx, zl,
      fun H1 A => A.slot' hb z.toNat, hpre.slot hb zl, fun r H' hr A => k' r H' hr ⟨⟨_, A⟩, W'⟩⟩
/-! ### what a pile tells -/
theorem scHolds : FnScope ["self", "hand"] ["self", "hand"] (defScope sHolds) := ⟨rfl, rfl, rfl, by decide +kernel, rfl, by decide +kernel, by decide +kernel⟩
theorem ok_holds {f fK : Addr} {fd fdK : FuncData} (F : Fun K "holds" "Pile.holds" sHolds f fd) (T : Txt K mg C B eH eS eF eB eL) (FK : Fun K "check_hand" "check_hand" sCheck fK fdK) (bK : Binds K fdK ["hand"] []) (gK : mg "check_hand" = some (.ref fK)) :
    FnOk P w K mg base (L2.CX P w) 2 f fd ["self", "hand"] (spHolds C B eH) := by
  have GK : FnOk P w K mg base (L2.CX P w) 1 fK fdK ["hand"] (spCheck eH) := ok_check FK T
  refine F.okX scHolds (fun vs H Q E h => ?_) (fun cdv A outer s H vs Q E hr h => ?_)
  · obtain ⟨p, g, P, R, h, rfl, _⟩ := h
    rfl
  · obtain ⟨p, g, P0, R, h, rfl, A0, h8, kH, k⟩ := h
    refine ⟨_, pss_cons (ps_expr (pe_call GK hr rfl gK FK.kp bK .nil (passes_call (takes_of rfl rfl rfl rfl) (fun _ _ _ _ h => h)) (pa_cons (pv 1) pa_nil)))
      (pss_one (ps_ret (pe_ix ix_list (pe_fld (pv 0) rfl) (pv 1) (fun _ _ => rfl)))), ?_⟩
    refine ⟨_, rfl, h, rfl, fun ch => ?_, fun ch => kH ch⟩
    exact ⟨_, rfl, p, C, g.dx, _, _, rfl, A0.hp, T.clC, T.nH, pf_hands _ _ _, _, rfl, g.lh, _, _, _, rfl, rfl, SqL.of A0.hh, at_of (j := h.toNat) (by rw [Int.toNat_of_nonneg ch.1]) (lV_get (by omega)), k ch⟩
theorem scBox : FnScope ["self", "number"] ["self", "number"] (defScope sBox) := ⟨rfl, rfl, rfl, by decide +kernel, rfl, by decide +kernel, by decide +kernel⟩
theorem ok_box {f : Addr} {fd : FuncData} (F : Fun K "_box" "Pile._box" sBox f fd) (T : Txt K mg C B eH eS eF eB eL) : FnOk P w K mg base (L2.CX P w) 1 f fd ["self", "number"] (spBox C B eB) := by
  refine F.okX scBox (fun vs H Q E h => ?_) (fun cdv A outer s H vs Q E hr h => ?_)
  · obtain ⟨p, g, P, R, h, rfl, _⟩ := h
    rfl
  · obtain ⟨p, g, P0, R, n, rfl, A0, kB, k⟩ := h
    have hu := hu_of hr
    refine ⟨_, pss_cons (ps_if (pt_cmp (pc_dnotin hu (pv 1) (pe_fld (pv 0) rfl))) (pss_one (ps_raise rfl (takes_of rfl rfl rfl rfl) (pmk_own PySem.F.excBase_ValueError T.eB.x T.eB.g T.eB.k (raises_own T.eB.b T.eB.t) rfl))) pss_nil)
      (pss_one (ps_ret (pe_dget hu (pe_fld (pv 0) rfl) (pv 1) (fun _ _ => rfl)))), ?_⟩
    refine ⟨_, rfl, _, rfl, p, C, g.dx, _, _, rfl, A0.hp, T.clC, T.nB, pf_boxes _ _ _, g.db, _, rfl, DGet.k (k := Sum.inl n) A0.hd, _, rfl, ?_⟩
    have hD := DGet.k (k := Sum.inl n) A0.hd
    rw [valV_dV] at hD ⊢
    cases e : get P0.boxes n with
    | none => exact iteT (kB e)
    | some b =>
      rw [e] at hD
      refine iteF ?_
      exact ⟨_, rfl, p, C, g.dx, _, _, rfl, A0.hp, T.clC, T.nB, pf_boxes _ _ _, _, rfl, g.db, _, rfl, hD, k b e⟩
theorem scPoints : FnScope ["self", "number"] ["self", "number"] (defScope sPoints) := ⟨rfl, rfl, rfl, by decide +kernel, rfl, by decide +kernel, by decide +kernel⟩
theorem ok_points {f fX : Addr} {fd fdX : FuncData} (F : Fun K "points" "Pile.points" sPoints f fd) (T : Txt K mg C B eH eS eF eB eL) (FX : Fun K "_box" "Pile._box" sBox fX fdX) (bX : Binds K fdX ["self", "number"] []) (mX : Meth K C "_box" fX) :
    FnOk P w K mg base (L2.CX P w) 2 f fd ["self", "number"] (spPoints C B eB) := by
  have GX : FnOk P w K mg base (L2.CX P w) 1 fX fdX ["self", "number"] (spBox C B eB) := ok_box FX T
  refine F.okX scPoints (fun vs H Q E h => ?_) (fun cdv A outer s H vs Q E hr h => ?_)
  · obtain ⟨p, g, P, R, h, rfl, _⟩ := h
    rfl
  · obtain ⟨p, g, P0, R, n, rfl, A0, hl6, kB, k⟩ := h
    refine ⟨_, pss_one (ps_ret (pe_callTy call_list_of (by rfl) T.list (by decide +kernel) (pa_cons (pe_fld (pe_meth (pv 0) T.clC mX GX hr bX .nil (passes_call (takes_of rfl rfl rfl rfl) (fun _ _ _ _ h => h)) (pa_cons (pv 1) pa_nil)) rfl) pa_nil))), ?_⟩
    refine ⟨_, rfl, p, g.dx, _, rfl, A0.hp, pf_no _ _ _ (by decide +kernel) (by decide +kernel) (by decide +kernel), _, rfl, p, g, P0, R, n, rfl, A0, kB, fun b hb => ?_⟩
    exact ⟨g.ba n, B, g.bd n, _, _, rfl, A0.hb n b hb, T.clB, T.nS, bf_slots _ _ _, g.sa n, _, rfl, .inl (SqL.of (A0.hs n b hb)), fun r hr => k b hb r hr⟩
theorem scWeighs : FnScope ["self", "number"] ["self", "number"] (defScope sWeighs) := ⟨rfl, rfl, rfl, by decide +kernel, rfl, by decide +kernel, by decide +kernel⟩
theorem ok_weighs {f fX : Addr} {fd fdX : FuncData} (F : Fun K "weighs" "Pile.weighs" sWeighs f fd) (T : Txt K mg C B eH eS eF eB eL) (FX : Fun K "_box" "Pile._box" sBox fX fdX) (bX : Binds K fdX ["self", "number"] []) (mX : Meth K C "_box" fX) :
    FnOk P w K mg base (L2.CX P w) 2 f fd ["self", "number"] (spWeighs C B eB) := by
  have GX : FnOk P w K mg base (L2.CX P w) 1 fX fdX ["self", "number"] (spBox C B eB) := ok_box FX T
  refine F.okX scWeighs (fun vs H Q E h => ?_) (fun cdv A outer s H vs Q E hr h => ?_)
  · obtain ⟨p, g, P, R, h, rfl, _⟩ := h
    rfl
  · obtain ⟨p, g, P0, R, n, rfl, A0, kB, k⟩ := h
    refine ⟨_, pss_one (ps_ret (pe_fld (pe_meth (pv 0) T.clC mX GX hr bX .nil (passes_call (takes_of rfl rfl rfl rfl) (fun _ _ _ _ h => h)) (pa_cons (pv 1) pa_nil)) rfl)), ?_⟩
    refine ⟨_, rfl, p, g.dx, _, rfl, A0.hp, pf_no _ _ _ (by decide +kernel) (by decide +kernel) (by decide +kernel), _, rfl, p, g, P0, R, n, rfl, A0, kB, fun b hb => ?_⟩
    exact ⟨g.ba n, B, g.bd n, _, _, rfl, A0.hb n b hb, T.clB, T.nW, bf_weight _ _ _, k b hb⟩
theorem scAlive : FnScope ["self"] ["self"] (defScope sAlive) := ⟨rfl, rfl, rfl, by decide +kernel, rfl, by decide +kernel, by decide +kernel⟩
theorem sorted_same {ys ks : List Int} (p : ys.Perm ks) (h : ys.Pairwise (· ≤ ·)) (hk : ks.Pairwise (· < ·)) : ys = ks :=
  p.eq_of_pairwise (fun a b _ _ h1 h2 => Int.le_antisymm h1 h2) h (hk.imp fun h => Int.le_of_lt h)
theorem ok_alive {f : Addr} {fd : FuncData} (F : Fun K "alive" "Pile.alive" sAlive f fd) (T : Txt K mg C B eH eS eF eB eL) : FnOk P w K mg base CX0 1 f fd ["self"] (spAlive C B) := by
  refine F.ok scAlive (fun vs H Q E h => ?_) (fun cdv A outer s H vs Q E hr h => ?_)
  · obtain ⟨p, g, P, R, rfl, _⟩ := h
    rfl
  · obtain ⟨p, g, P0, R, rfl, A0, W0, k⟩ := h
    refine ⟨_, pss_one (ps_ret (pe_callB (call_sortedDI rfl) (by rfl) T.sorted (by decide +kernel) (pa_cons (pe_fld (pv 0) rfl) pa_nil))), ?_⟩
    refine ⟨_, rfl, p, C, g.dx, _, _, rfl, A0.hp, T.clC, T.nB, pf_boxes _ _ _, g.db, _, keys P0.boxes, rfl, .inl A0.hd, dV_keys _ _, ?_, fun ys r hp hs hr => ?_⟩
    · have := W0.few
      have e : (keys P0.boxes).length = P0.boxes.length := List.length_map _
      omega
    · rw [sorted_same hp hs W0.ks]
      exact k r hr
end
end BP

namespace BP
open PySem L2
abbrev sWhole : Stmt := top 17
abbrev sNums : Stmt := top 19
abbrev sCellAt : Stmt := top 18
abbrev sBuilt : Stmt := top 20
abbrev sWeights : Stmt := top 21
abbrev sFallen : Stmt := top 22
abbrev sLaw : Stmt := top 23
/-- the names of the built-ins that the law's helpers call -/
structure TxtL (mg : Str → Option Value) : Prop where
  isi : mg "isinstance" = none
  int : mg "int" = none
  bool : mg "bool" = none
  list : mg "list" = none
  len : mg "len" = none
  range : mg "range" = none
  min : mg "min" = none
  sorted : mg "sorted" = none
  set : mg "set" = none
def spWhole : Sp := fun vs H Q _ => ∃ n : Int, vs = [.int n] ∧ Q (.bl true) H
def spLaw (K : PySem.W.Frag) : Sp := fun vs H Q _ => ∃ (a : Addr) (ns : List Int), vs = [.ref a] ∧ SqL K H a (ns.map V.int) ∧ ns.length ≤ 63 ∧ ∀ H', Q (.bl true) H'
def spNums : Sp := fun vs H Q _ => ∃ (a b : Addr) (l : List (Option Int)), vs = [.ref a, .ref b] ∧ H a = some (.lst (lV l)) ∧ H b = some (.lst (lV l)) ∧ l.length ≤ 1000 ∧ Q (.bl true) H
section
variable {P : Program} {w : World} {K : PySem.W.Frag} {mg : Str → Option Value} {base : Heap} {C B eH eS eF eB eL : Addr}
theorem scWhole : FnScope ["_law_found"] ["_law_found"] (defScope sWhole) := ⟨rfl, rfl, rfl, by decide +kernel, rfl, by decide +kernel, by decide +kernel⟩
theorem ok_whole {f : Addr} {fd : FuncData} (F : Fun K "_law_whole" "_law_whole" sWhole f fd) (T : TxtL mg) : FnOk P w K mg base CX0 1 f fd ["_law_found"] spWhole := by
  refine F.ok scWhole (fun vs H Q E h => ?_) (fun cdv A outer s H vs Q E hr h => ?_)
  · obtain ⟨n, rfl, _⟩ := h
    rfl
  · obtain ⟨n, rfl, k⟩ := h
    refine ⟨_, pss_one (ps_ret (pe_and (pe_callB call_isi (by rfl) T.isi PyProof.Rows.boot_isinstance (pa_cons (pv 0) (pa_cons (pe_bltn (v := .ty "int") (by rfl) T.int PyProof.Rows.boot_int rfl) pa_nil)))
      (pe_one (pe_not (pe_callB call_isi (by rfl) T.isi PyProof.Rows.boot_isinstance (pa_cons (pv 0) (pa_cons (pe_bltn (v := .ty "bool") (by rfl) T.bool (by decide +kernel) rfl) pa_nil))))))), ?_⟩
    refine ⟨_, rfl, _, _, _, _, true, rfl, .ty "int", .base (.int n), kit_ty (by decide +kernel), _, rfl, ?_⟩
    refine iteT ⟨_, rfl, _, _, _, _, false, rfl, .ty "bool", .base (.int n), kit_ty (by decide +kernel), _, rfl, ?_⟩
    exact k
theorem scNums : FnScope ["_law_found", "_law_due", "_law_k"] ["_law_found", "_law_due"] (defScope sNums) := ⟨rfl, rfl, rfl, by decide +kernel, rfl, by decide +kernel, by decide +kernel⟩
theorem ok_nums {f fW : Addr} {fd fdW : FuncData} (F : Fun K "_law_numbers" "_law_numbers" sNums f fd) (T : TxtL mg) (FW : Fun K "_law_whole" "_law_whole" sWhole fW fdW) (bW : Binds K fdW ["_law_found"] []) (gW : mg "_law_whole" = some (.ref fW)) :
    FnOk P w K mg base CX0 2 f fd ["_law_found", "_law_due"] spNums := by
  have GW : FnOk P w K mg base CX0 1 fW fdW ["_law_found"] spWhole := ok_whole FW T
  refine F.ok scNums (fun vs H Q E h => ?_) (fun cdv A outer s H vs Q E hr h => ?_)
  · obtain ⟨a, b, l, rfl, _⟩ := h
    rfl
  · obtain ⟨a, b, l, rfl, ha, hb, hl, k⟩ := h
    refine ⟨_, pss_cons (ps_if (PW.pt (pw_or (pt_not (pt_val (pe_callB call_isi (by rfl) T.isi PyProof.Rows.boot_isinstance (pa_cons (pv 0) (pa_cons (pe_bltn (v := .ty "list") (by rfl) T.list (by decide +kernel) rfl) pa_nil)))))
          (pw_or1 (pt_cmpR op_ne (pe_callB call_len_seq (by rfl) T.len PySem.boot_len (pa_cons (pv 0) pa_nil)) (pe_callB call_len_seq (by rfl) T.len PySem.boot_len (pa_cons (pv 1) pa_nil)) (nomark _))))) (pss_one (ps_ret pe_bl)) pss_nil)
      (pss_cons (ps_for PassesOwn.never rfl (pi_range1 (by rfl) T.range (pa_cons (pe_callB call_len_seq (by rfl) T.len PySem.boot_len (pa_cons (pv 1) pa_nil)) pa_nil)) (pg_name (i := 2) scNums.nd rfl (Or.inl rfl))
        (pss_one (ps_if (pt_cmpR op_isN (pe_ix ix_list (pv 1) (pv 2) (fun _ _ => rfl)) pe_non (nomark _))
          (pss_one (ps_if (pt_cmpR op_notN (pe_ix ix_list (pv 0) (pv 2) (fun _ _ => rfl)) pe_non (nomark _)) (pss_one (ps_ret pe_bl)) pss_nil))
          (pss_one (ps_if (PW.pt (pw_or (pt_not (pt_val (pe_call GW hr rfl gW FW.kp bW .nil pass0 (pa_cons (pe_ix ix_list (pv 0) (pv 2) (fun _ _ => rfl)) pa_nil))))
            (pw_or1 (pt_cmpR op_ne (pe_ix ix_list (pv 0) (pv 2) (fun _ _ => rfl)) (pe_ix ix_list (pv 1) (pv 2) (fun _ _ => rfl)) (nomark _))))) (pss_one (ps_ret pe_bl)) pss_nil)))))
      (pss_one (ps_ret pe_bl))), ?_⟩
    refine ⟨_, rfl, _, _, _, _, true, rfl, .ty "list", .base (.lst ha), kit_ty (by decide +kernel), _, rfl, ?_⟩
    refine iteF ⟨_, rfl, a, _, rfl, .inl (SqL.of ha), _, rfl, b, _, rfl, .inl (SqL.of hb), rfl, _, rfl, ?_⟩
    refine iteNS rfl ?_
    have ell : (lV l).length = l.length := lV_len l
    refine ⟨_, rfl, b, _, rfl, .inl (SqL.of hb), _, rfl, by omega, by omega, ?_⟩
    rw [ell]
    refine for_range (lo := 0) (n := (l.length : Int).toNat) (fun i σ H' => ∃ v : Option V, σ = [some (.ref a), some (.ref b), v] ∧ H' = H) ⟨none, rfl, rfl⟩ ?_ ?_
    · rintro i σ H' hi ⟨v, rfl, rfl⟩
      have hi' : i < l.length := by omega
      have hx := lV_get hi'
      have hix : (0 : Int) + (i : Int) = ((i : Nat) : Int) := by omega
      refine ⟨_, rfl, _, rfl, b, _, _, _, rfl, rfl, SqL.of hb, at_of (j := i) hix hx, rfl, _, rfl, ?_⟩
      cases e : l.getD i none with
      | none =>
        rw [e] at hx
        refine iteT ⟨_, rfl, _, rfl, a, _, _, _, rfl, rfl, SqL.of ha, at_of (j := i) hix hx, rfl, _, rfl, ?_⟩
        exact iteF ⟨_, rfl, rfl⟩
      | some n =>
        rw [e] at hx
        refine iteF ⟨_, rfl, _, rfl, a, _, _, _, rfl, rfl, SqL.of ha, at_of (j := i) hix hx, n, rfl, _, rfl, ?_⟩
        refine iteF ⟨_, rfl, _, rfl, a, _, _, _, rfl, rfl, SqL.of ha, at_of (j := i) hix hx, _, rfl, _, rfl, b, _, _, _, rfl, rfl, SqL.of hb, at_of (j := i) hix hx, rfl, _, rfl, ?_⟩
        exact iteNS rfl ⟨_, rfl, rfl⟩
    · rintro σ H' ⟨v, rfl, rfl⟩
      exact k
theorem ixN_int {n : Nat} {h : Int} (h0 : 0 ≤ h) (h1 : h < n) : ixN n h = some h.toNat := by
  unfold ixN
  rw [if_pos h0, if_pos h1]
theorem lV_int (l : List Int) : l.map V.int = lV (l.map some) := by
  unfold lV
  rw [List.map_map]
  rfl
theorem inV_ints (n : Int) : ∀ l : List Int, inV (V.int n) (l.map V.int) = decide (n ∈ l)
  | [] => rfl
  | m :: l => by
    have ih := inV_ints n l
    unfold inV at ih ⊢
    rw [List.map_cons, List.any_cons, ih]
    show ((m == n) || decide (n ∈ l)) = decide (n ∈ m :: l)
    by_cases q : m = n
    · subst q; simp
    · have : ¬ n = m := fun z => q z.symm
      simp [q, this]
theorem flat_ints : ∀ l : List Int, (l.map V.int).all flatV = true
  | [] => rfl
  | m :: l => by rw [List.map_cons, List.all_cons, flat_ints l]; rfl
theorem lV_at {l : List (Option Int)} {i : Nat} {y : V} (hi : (lV l)[i]? = some y) : ∃ o, l[i]? = some o ∧ y = oV o := by
  unfold lV at hi
  rw [List.getElem?_map] at hi
  cases e : l[i]? with
  | none => rw [e] at hi; cases hi
  | some o =>
    rw [e] at hi
    exact ⟨o, rfl, (Option.some.inj hi).symm⟩
theorem ints_at {l : List Int} {i : Nat} {y : V} (hi : (l.map V.int)[i]? = some y) : ∃ n, l[i]? = some n ∧ y = V.int n := by
  rw [List.getElem?_map] at hi
  cases e : l[i]? with
  | none => rw [e] at hi; cases hi
  | some o =>
    rw [e] at hi
    exact ⟨o, rfl, (Option.some.inj hi).symm⟩
/-- the addresses and facts of the program's defs -/
structure Defs (K : PySem.W.Frag) (mg : Str → Option Value) (C B : Addr) (fI fM fO fR fU fH fT fG fA fX fY fP fL fB fK fW fN fD fJ fV fE fCS : Addr) (dI dM dO dR dU dH dT dG dA dX dY dP dL dB dK dW dN dD dJ dV dE dCS : FuncData) : Prop where
  FI : Fun K "__init__" "Pile.__init__" sInit fI dI
  bI : Binds K dI ["self"] []
  MC : Mk K C fI
  FM : Fun K "make" "Pile.make" sMake fM dM
  bM : Binds K dM ["self", "hand", "size"] []
  mM : Meth K C "make" fM
  FO : Fun K "hold" "Pile.hold" sHold fO dO
  bO : Binds K dO ["self", "hand", "other"] []
  mO : Meth K C "hold" fO
  FR : Fun K "drop" "Pile.drop" sDrop fR dR
  bR : Binds K dR ["self", "hand"] []
  mR : Meth K C "drop" fR
  FU : Fun K "put" "Pile.put" sPut fU dU
  bU : Binds K dU ["self", "hand", "slot", "other"] []
  mU : Meth K C "put" fU
  FH : Fun K "holds" "Pile.holds" sHolds fH dH
  bH : Binds K dH ["self", "hand"] []
  mH : Meth K C "holds" fH
  FT : Fun K "points" "Pile.points" sPoints fT dT
  bT : Binds K dT ["self", "number"] []
  mT : Meth K C "points" fT
  FG : Fun K "weighs" "Pile.weighs" sWeighs fG dG
  bG : Binds K dG ["self", "number"] []
  mG : Meth K C "weighs" fG
  FA : Fun K "alive" "Pile.alive" sAlive fA dA
  bA : Binds K dA ["self"] []
  mA : Meth K C "alive" fA
  FX : Fun K "_box" "Pile._box" sBox fX dX
  bX : Binds K dX ["self", "number"] []
  mX : Meth K C "_box" fX
  FY : Fun K "_slots_with" "Pile._slots_with" sSlotsWith fY dY
  bY : Binds K dY ["self", "hand", "slot"] []
  mY : Meth K C "_slots_with" fY
  FP : Fun K "_point" "Pile._point" sPoint fP dP
  bP : Binds K dP ["self", "pointers", "at", "number"] []
  mP : Meth K C "_point" fP
  FL : Fun K "_let_go" "Pile._let_go" sLetGo fL dL
  bL : Binds K dL ["self", "pointer"] []
  mL : Meth K C "_let_go" fL
  FB : Fun K "__init__" "Box.__init__" sBoxInit fB dB
  bB : Binds K dB ["self", "size"] []
  MB : Mk K B fB
  FK : Fun K "check_hand" "check_hand" sCheck fK dK
  bK : Binds K dK ["hand"] []
  gK : mg "check_hand" = some (.ref fK)
  FW : Fun K "_law_whole" "_law_whole" sWhole fW dW
  bW : Binds K dW ["_law_found"] []
  gW : mg "_law_whole" = some (.ref fW)
  FN : Fun K "_law_numbers" "_law_numbers" sNums fN dN
  bN : Binds K dN ["_law_found", "_law_due"] []
  gN : mg "_law_numbers" = some (.ref fN)
  FD : Fun K "_law_cell_at" "_law_cell_at" sCellAt fD dD
  bD : Binds K dD ["_law_script", "_law_k"] []
  gD : mg "_law_cell_at" = some (.ref fD)
  FJ : Fun K "_law_built" "_law_built" sBuilt fJ dJ
  bJ : Binds K dJ ["_law_pile", "_law_script", "_law_rooms", "_law_many"] []
  gJ : mg "_law_built" = some (.ref fJ)
  FV : Fun K "_law_weights" "_law_weights" sWeights fV dV
  bV : Binds K dV ["_law_rooms"] []
  gV : mg "_law_weights" = some (.ref fV)
  FE : Fun K "_law_fallen" "_law_fallen" sFallen fE dE
  bE : Binds K dE ["_law_rooms", "_law_weights_here", "_law_first"] []
  gE : mg "_law_fallen" = some (.ref fE)
  FCS : Fun K "check_slot" "check_slot" sCheckSlot fCS dCS
  bCS : Binds K dCS ["slots", "slot"] []
  gCS : mg "check_slot" = some (.ref fCS)
abbrev nCellAt : List Str := ["_law_script", "_law_k"]
abbrev nBuilt : List Str := ["_law_pile", "_law_script", "_law_rooms", "_law_many", "_law_keep", "_law_k", "_law_cell", "_law_size", "_law_mine", "_law_room", "_law_turn", "_law_slot"]
abbrev nWeights : List Str := ["_law_rooms", "_law_weights_here", "_law_room", "_law_other"]
abbrev nFallen : List Str := ["_law_rooms", "_law_weights_here", "_law_first", "_law_row", "_law_waiting", "_law_at", "_law_room", "_law_other"]
abbrev nLaw : List Str := ["_law_script", "_law_pile", "_law_many", "_law_rooms", "_law_kept", "_law_top", "_law_weights_here", "_law_due", "_law_alive", "_law_number"]
theorem take_get {α : Type} : ∀ {l : List α} {i : Nat} {x : α}, l[i]? = some x → l.take (i + 1) = l.take i ++ [x]
  | [], i, x, h => by simp at h
  | a :: l, 0, x, h => by
    have e : a = x := Option.some.inj h
    subst e
    rfl
  | a :: l, i + 1, x, h => by
    have ih := take_get (l := l) (i := i) (x := x) h
    show a :: l.take (i + 1) = a :: l.take i ++ [x]
    rw [ih]
    rfl
/-! ### the law's small helpers -/
def spCellAt (K : PySem.W.Frag) : Sp := fun vs H Q _ => ∃ (a : Addr) (ns : List Int) (k : Nat), vs = [.ref a, .int k] ∧ SqL K H a (ns.map V.int) ∧ Q (.int (ns.getD k 0)) H
theorem scCellAt : FnScope nCellAt ["_law_script", "_law_k"] (defScope sCellAt) := ⟨rfl, rfl, rfl, by decide +kernel, rfl, by decide +kernel, by decide +kernel⟩
theorem ok_cellat {f : Addr} {fd : FuncData} (F : Fun K "_law_cell_at" "_law_cell_at" sCellAt f fd) (TL : TxtL mg) : FnOk P w K mg base CX0 1 f fd ["_law_script", "_law_k"] (spCellAt K) := by
  refine F.ok scCellAt (fun vs H Q E h => ?_) (fun cdv A outer s H vs Q E hr h => ?_)
  · obtain ⟨a, ns, n, rfl, _⟩ := h
    rfl
  · obtain ⟨a, ns, n, rfl, hS, k⟩ := h
    have nd := scCellAt.nd
    refine ⟨_, (pss_cons (ps_if (pt_cmpR op_lt (pv 1) (pe_callB call_len_seq (by rfl) TL.len PySem.boot_len (pa_cons (pv 0) pa_nil)) (nomark _)) (pss_one (ps_ret (pe_ix ix_list (pv 0) (pv 1) (fun _ _ => rfl)))) pss_nil)
      (pss_one (ps_ret pe_int))), ?_⟩
    refine ⟨_, rfl, _, rfl, a, _, rfl, .inl hS, _, _, rfl, rfl, _, rfl, ?_⟩
    rw [List.length_map]
    by_cases c : n < ns.length
    · refine if_pos_of (decide_eq_true (by omega)) ?_
      have e : ns.getD n 0 = ns[n] := by rw [List.getD_eq_getElem?_getD, List.getElem?_eq_getElem c]; rfl
      rw [e] at k
      exact ⟨_, rfl, _, rfl, a, _, _, _, rfl, rfl, hS, at_of (j := n) rfl (by rw [List.getElem?_map, List.getElem?_eq_getElem c]; rfl), k⟩
    · refine if_neg_of (decide_eq_false (by omega)) ?_
      have e : ns.getD n 0 = 0 := by rw [List.getD_eq_getElem?_getD, List.getElem?_eq_none (by omega)]; rfl
      rw [e] at k
      exact k
/-- rooms' lists, by their addresses -/
structure RoomsL (H : Hp) (qs : List Addr) (rows : List (List (Option Int))) : Prop where
  n : qs.length = rows.length
  at_ : ∀ (j : Nat) (q : Addr), qs[j]? = some q → ∃ row, rows[j]? = some row ∧ H q = some (.lst (lV row))
theorem RoomsL.more {H H' : Hp} {qs : List Addr} {rows : List (List (Option Int))} (h : RoomsL H qs rows) (s : ∀ q ∈ qs, ∀ o, H q = some o → H' q = some o) : RoomsL H' qs rows :=
  ⟨h.n, fun j q e => by
    obtain ⟨row, h1, h2⟩ := h.at_ j q e
    exact ⟨row, h1, s q (List.mem_of_getElem? e) _ h2⟩⟩
theorem refs_at {qs : List Addr} {i : Nat} {y : V} (hi : (qs.map V.ref)[i]? = some y) : ∃ q, qs[i]? = some q ∧ y = V.ref q := by
  rw [List.getElem?_map] at hi
  cases e : qs[i]? with
  | none => rw [e] at hi; cases hi
  | some q =>
    rw [e] at hi
    exact ⟨q, rfl, (Option.some.inj hi).symm⟩
def spWeights : Sp := fun vs H Q _ => ∃ (rl : Addr) (qs : List Addr) (rs : List (List (Option Int))), vs = [.ref rl] ∧ H rl = some (.lst (qs.map V.ref)) ∧ RoomsL H qs rs ∧ (∀ row ∈ rs, ∀ n, some n ∈ row → 0 ≤ n ∧ n < (rs.length : Int)) ∧ rs.length ≤ 1000 ∧
  ∀ L, H L = none → Q (.ref L) (upd H L (.lst ((Wt rs rs.length).map V.int)))
theorem scWeights : FnScope nWeights ["_law_rooms"] (defScope sWeights) := ⟨rfl, rfl, rfl, by decide +kernel, rfl, by decide +kernel, by decide +kernel⟩
theorem ok_weights {f : Addr} {fd : FuncData} (F : Fun K "_law_weights" "_law_weights" sWeights f fd) (TL : TxtL mg) : FnOk P w K mg base CX0 1 f fd ["_law_rooms"] spWeights := by
  refine F.ok scWeights (fun vs H Q E h => ?_) (fun cdv A outer s H vs Q E hr h => ?_)
  · obtain ⟨rl, qs, rs, rfl, _⟩ := h
    rfl
  · obtain ⟨rl, qs, rs, rfl, hrl, hq, hp, hl, k⟩ := h
    have nd := scWeights.nd
    have hqn := hq.n
    refine ⟨_, (pss_cons (ps_setLc (i := 1) (own := [("_law_room", 2)]) (g := gName 2) (tt := tYes) (te := tC (.int 0)) (by rfl) nd rfl rfl (sw_true rfl rfl rfl (by decide +kernel)) (pi_list (pv 0)) (blkOk_by (N := nWeights) (sc := defScope sWeights) (by decide +kernel)) (fun _ _ _ _ _ => pg_name (i := 2) nd rfl (Or.inl rfl)) (fun _ _ _ _ _ => pts_nil) (fun _ _ _ _ _ => pe_int))
      (pss_cons (ps_for PassesOwn.never rfl (pi_list (pv 0)) (pg_name (i := 2) nd rfl (Or.inl rfl))
      (pss_one (ps_for PassesOwn.never rfl (pi_list (pv 2)) (pg_name (i := 3) nd rfl (Or.inl rfl))
      (pss_one (ps_mid (ps_if (pt_cmp (pc_notN (pv 3))) (pss_one (ps_asg (pe_op op_add (pe_ix ix_list (pv 1) (pv 3) (fun _ _ => rfl)) pe_int) (pg_sub (pv 1) (pv 3) set_list))) pss_nil))))))
      (pss_one (ps_ret (pv 1))))), ?_⟩
    refine ⟨_, rfl, rl, rfl, ⟨_, SqL.of hrl⟩, fun L hL => lc_list (K := K) (a := rl) (xs := qs.map V.ref) (fun i H' => H' = upd H L (.lst (List.replicate i (V.int 0)))) rfl (fun i H' _ e => ?_) (fun i y H' hi e => ?_) (fun H1 e1 => ?_)⟩
    · rw [e]
      exact SqL.of (by rw [upd_ne (ne_of_none hrl hL)]; exact hrl)
    · have hi' := (List.getElem?_eq_some_iff.mp hi).1
      rw [List.length_map] at hi'
      refine ⟨rfl, _, by rw [e]; exact upd_same, (by rw [List.length_replicate, sizeLine_eq]; omega), ?_⟩
      rw [e, upd_upd, List.replicate_succ']
    rw [List.length_map, hqn] at e1
    have e1' : H1 = upd H L (.lst ((Wt (rs.take 0) rs.length).map V.int)) := by
      rw [e1, List.take_zero, Wt_zero, List.map_replicate]
    have nrl : rl ≠ L := ne_of_none hrl hL
    refine ⟨_, rfl, rl, rfl, ⟨_, SqL.of (by rw [e1', upd_ne nrl]; exact hrl)⟩, for_list (K := K) (a := rl) (xs := qs.map V.ref) (fun i σ H' => ∃ v2 v3 : Option V, σ = [some (.ref rl), some (.ref L), v2, v3] ∧ H' = upd H L (.lst ((Wt (rs.take i) rs.length).map V.int)))
      ⟨none, none, rfl, e1'⟩ (fun i σ H' _ ⟨_, _, _, e⟩ => by rw [e]; exact SqL.of (by rw [upd_ne nrl]; exact hrl)) ?_ ?_⟩
    · rintro i y σ H' hi ⟨v2, v3, rfl, rfl⟩
      obtain ⟨q, hqi, rfl⟩ := refs_at hi
      obtain ⟨row, hrow, hHq⟩ := hq.at_ i q hqi
      have nqL : q ≠ L := ne_of_none hHq hL
      have hmem := List.mem_of_getElem? hrow
      refine ⟨_, rfl, q, rfl, ⟨_, SqL.of (by rw [upd_ne nqL]; exact hHq)⟩, for_list (K := K) (a := q) (xs := lV row) (fun j σ H' => ∃ v3 : Option V, σ = [some (.ref rl), some (.ref L), some (.ref q), v3] ∧ H' = upd H L (.lst ((Wt (rs.take i ++ [row.take j]) rs.length).map V.int)))
        ⟨v3, rfl, ?_⟩ (fun j σ H' _ ⟨_, _, e⟩ => by rw [e]; exact SqL.of (by rw [upd_ne nqL]; exact hHq)) ?_ ?_⟩
      · rw [Wt_congr (a := rs.take i ++ [row.take 0]) (b := rs.take i) fun n => by rw [tot_append, tot_cons, tot_nil]; rfl]
      · rintro j y σ H' hj ⟨v3, rfl, rfl⟩
        obtain ⟨o, ho, rfl⟩ := lV_at hj
        refine ⟨_, ?_, fun σ' H' h => h⟩
        refine ⟨_, rfl, _, rfl, ?_⟩
        have et : row.take (j + 1) = row.take j ++ [o] := take_get ho
        cases o with
        | none =>
          refine iteF ?_
          refine ⟨_, rfl, ?_⟩
          rw [Wt_congr (a := rs.take i ++ [row.take (j + 1)]) (b := rs.take i ++ [row.take j]) fun n => by rw [tot_append, tot_append, tot_cons, tot_cons, et, cnt_append, cnt_cons, cnt_nil]; simp [one]]
        | some n =>
          obtain ⟨n0, n1⟩ := hp row hmem n (List.mem_of_getElem? ho)
          refine iteT ?_
          have hw := Wt_get (rs := rs.take i ++ [row.take j]) n0 n1
          have hw' : ((Wt (rs.take i ++ [row.take j]) rs.length).map V.int)[n.toNat]? = some (V.int ((tot (rs.take i ++ [row.take j]) n : Nat) : Int)) := by rw [List.getElem?_map, hw]; rfl
          refine ⟨_, rfl, _, rfl, L, _, _, _, rfl, rfl, SqL.of upd_same, at_of (j := n.toNat) (by omega) hw', _, _, rfl, rfl, _, rfl, _, rfl, L, _, _, _, rfl, rfl, upd_same, ixN_int n0 (by rw [List.length_map, Wt_len]; exact n1), ?_⟩
          refine ⟨_, rfl, ?_⟩
          rw [upd_upd, ← List.map_set, Wt_more n0 n1 (b := rs.take i ++ [row.take (j + 1)]) fun m => by rw [tot_append, tot_append, tot_cons, tot_cons, tot_nil, et, cnt_append, cnt_cons, cnt_nil]; omega]
      · rintro σ H' ⟨v3, rfl, rfl⟩
        refine ⟨_, _, rfl, ?_⟩
        rw [lV_len, List.take_length, ← take_get hrow]
    · rintro σ H' ⟨v2, v3, rfl, rfl⟩
      have e9 : rs.take (qs.map V.ref).length = rs := by rw [List.length_map, hqn, List.take_length]
      rw [e9]
      exact ⟨_, rfl, k L hL⟩
/-! ### what falls -/
def spFallen : Sp := fun vs H Q _ => ∃ (rl wl : Addr) (t : Int) (v0 : List V) (qs : List Addr) (rs : List (List (Option Int))) (W : List Int) (S : Pl), vs = [.ref rl, .ref wl, .int t] ∧ H rl = some (.lst (qs.map V.ref)) ∧ RoomsL H qs rs ∧ H wl = some (.lst (W.map V.int)) ∧ rl ≠ wl ∧ (∀ q ∈ qs, q ≠ wl) ∧
  Wf S [some t] ∧ Told S.boxes W ∧ (∀ n b, get S.boxes n = some b → rs[n.toNat]? = some b.slots) ∧ W.length ≤ 1000 ∧
  ∀ r H' W', H r = none → Same (upd H wl (.lst (W'.map V.int))) H' → H' r = some (.lst ((run S.boxes [some t]).2.map V.int)) → Told (run S.boxes [some t]).1 W' → Q (.ref r) H'
/-- the law's three lists beside the rest -/
def tri (H : Hp) (a b c : Addr) (x y z : List V) : Hp := upd (upd (upd H a (.lst x)) b (.lst y)) c (.lst z)
section
variable {H : Hp} {a b c : Addr} {x y z u : List V}
theorem tri_c : tri H a b c x y z c = some (.lst z) := upd_same
theorem tri_b (bc : b ≠ c) : tri H a b c x y z b = some (.lst y) := by unfold tri; rw [upd_ne bc, upd_same]
theorem tri_a (ab : a ≠ b) (ac : a ≠ c) : tri H a b c x y z a = some (.lst x) := by unfold tri; rw [upd_ne ac, upd_ne ab, upd_same]
theorem tri_o {d : Addr} (da : d ≠ a) (db : d ≠ b) (dc : d ≠ c) : tri H a b c x y z d = H d := by unfold tri; rw [upd_ne dc, upd_ne db, upd_ne da]
theorem tri_setc : upd (tri H a b c x y z) c (.lst u) = tri H a b c x y u := upd_upd
theorem tri_setb (bc : b ≠ c) : upd (tri H a b c x y z) b (.lst u) = tri H a b c x u z := by unfold tri; rw [upd_comm bc.symm, upd_upd]
theorem tri_seta (ab : a ≠ b) (ac : a ≠ c) : upd (tri H a b c x y z) a (.lst u) = tri H a b c u y z := by unfold tri; rw [upd_comm ac.symm, upd_comm ab.symm, upd_upd]
end
theorem scFallen : FnScope nFallen ["_law_rooms", "_law_weights_here", "_law_first"] (defScope sFallen) := ⟨rfl, rfl, rfl, by decide +kernel, rfl, by decide +kernel, by decide +kernel⟩
theorem ok_fallen {f : Addr} {fd : FuncData} (F : Fun K "_law_fallen" "_law_fallen" sFallen f fd) (TL : TxtL mg) : FnOk P w K mg base CX0 1 f fd ["_law_rooms", "_law_weights_here", "_law_first"] spFallen := by
  refine F.ok scFallen (fun vs H Q E h => ?_) (fun cdv A outer s H vs Q E hr h => ?_)
  · obtain ⟨rl, wl, t, v0, qs, rs, W, S, rfl, _⟩ := h
    rfl
  · obtain ⟨rl, wl, t, v0, qs, rs, W0, S, rfl, hrl, hq, hwl, nrw, nqw, WS, T0, sl0, hWl, k⟩ := h
    have nd := scFallen.nd
    refine ⟨_, (pss_cons (ps_set (i := 3) nd rfl (Or.inl rfl) (pe_lst pa_nil))
      (pss_cons (ps_set (i := 4) nd rfl (Or.inl rfl) (pe_lst (pa_cons (pe_lst (pa_cons (pv 2) pa_nil)) pa_nil)))
      (pss_cons (ps_set (i := 5) nd rfl (Or.inl rfl) pe_int)
      (pss_cons (ps_while PassesOwn.never (pt_cmpR op_lt (pv 5) (pe_callB call_len_seq (by rfl) TL.len PySem.boot_len (pa_cons (pv 4) pa_nil)) (nomark _)) (pss_cons (ps_set (i := 6) nd rfl (Or.inl rfl) (pe_ix ix_list (pv 4) (pv 5) (fun _ _ => rfl)))
      (pss_cons (ps_set (i := 5) nd rfl (Or.inl rfl) (pe_op op_add (pv 5) pe_int))
      (pss_one (ps_for PassesOwn.never rfl (pi_list (pv 6)) (pg_name (i := 7) nd rfl (Or.inl rfl))
      (pss_one (ps_mid (ps_if (pt_cmp (pc_notN (pv 7))) (pss_cons (ps_asg (pe_op op_sub (pe_ix ix_list (pv 1) (pv 7) (fun _ _ => rfl)) pe_int) (pg_sub (pv 1) (pv 7) set_list))
      (pss_one (ps_mid (ps_if (pt_cmpR op_eq (pe_ix ix_list (pv 1) (pv 7) (fun _ _ => rfl)) pe_int (nomark _)) (pss_cons (ps_expr (pe_bm PySem.F.plainAttrs_list PySem.F.slot_list_append PySem.F.type_list_append mt_append (pv 3) (pa_cons (pv 7) pa_nil)))
      (pss_one (ps_expr (pe_bm PySem.F.plainAttrs_list PySem.F.slot_list_append PySem.F.type_list_append mt_append (pv 4) (pa_cons (pe_ix ix_list (pv 0) (pv 7) (fun _ _ => rfl)) pa_nil))))) pss_nil)))) pss_nil))))))))
      (pss_one (ps_ret (pv 3))))))), ?_⟩
    refine ⟨(by show 0 ≤ sizeLine; decide), fun ro hro => ?_⟩
    refine ⟨_, rfl, (by show 1 ≤ sizeLine; decide), fun f1 hf1 => ⟨(by show 1 ≤ sizeLine; decide), fun wa hwa => ?_⟩⟩
    have nfo : f1 ≠ ro := fun q => by rw [q, upd_same] at hf1; cases hf1
    have naf : wa ≠ f1 := fun q => by rw [q, upd_same] at hwa; cases hwa
    have nao : wa ≠ ro := fun q => by rw [q, upd_ne nfo.symm, upd_same] at hwa; cases hwa
    have hf0 : H f1 = none := by rw [upd_ne nfo] at hf1; exact hf1
    have ha0 : H wa = none := by rw [upd_ne naf, upd_ne nao] at hwa; exact hwa
    have nwo : wl ≠ ro := ne_of_none hwl hro
    have nwf : wl ≠ f1 := ne_of_none hwl hf0
    have nwa : wl ≠ wa := ne_of_none hwl ha0
    obtain ⟨B0, eB0⟩ : ∃ B0, B0 = upd H f1 (.lst [.int t]) := ⟨_, rfl⟩
    have start : upd (upd (upd H ro (.lst [])) f1 (.lst [.int t])) wa (.lst [.ref f1]) = tri B0 wl ro wa (W0.map V.int) (([] : List Int).map V.int) ([f1].map V.ref) := by
      rw [eB0]
      funext d
      unfold tri
      by_cases d1 : d = wa
      · rw [d1, upd_same, upd_same]; rfl
      rw [upd_ne d1, upd_ne d1]
      by_cases d2 : d = f1
      · rw [d2, upd_same, upd_ne nfo, upd_ne nwf.symm, upd_same]
      by_cases d3 : d = ro
      · rw [d3, upd_ne nfo.symm, upd_same, upd_same]; rfl
      rw [upd_ne d2, upd_ne d3, upd_ne d3]
      by_cases d4 : d = wl
      · rw [d4, upd_same, hwl]
      · rw [upd_ne d4, upd_ne d2]
    have hB : Same H B0 := by rw [eB0]; exact same_upd hf0
    have hBq : ∀ q ∈ qs, ∀ o, H q = some o → q ≠ ro ∧ q ≠ wa := fun q hm o e => ⟨ne_of_none e hro, ne_of_none e ha0⟩
    have nrlo : rl ≠ ro := ne_of_none hrl hro
    have nrla : rl ≠ wa := ne_of_none hrl ha0
    have few0 : S.boxes.length ≤ 60 := WS.few
    have F0 : FS S (run S.boxes [some t]) rs S.boxes [some t] [] W0 := ⟨WS, rfl, rfl, T0, sl0, by rw [List.length_nil]; omega⟩
    refine ⟨fun m σ H' => ∃ (bs : List (Int × Bx)) (Wc row : List Int) (was : List Addr) (rws : List (List (Option Int))) (at_ : Nat) (v6 v7 : Option V), σ = [some (.ref rl), some (.ref wl), some (.int t), some (.ref ro), some (.ref wa), some (.int (at_ : Int)), v6, v7] ∧
      H' = tri B0 wl ro wa (Wc.map V.int) (row.map V.int) (was.map V.ref) ∧ was.length = rws.length ∧ (∀ (j : Nat) (q : Addr), was[j]? = some q → ∃ r, rws[j]? = some r ∧ B0 q = some (.lst (lV r)) ∧ q ≠ wl ∧ q ≠ ro ∧ q ≠ wa) ∧
      FS S (run S.boxes [some t]) rs bs ((rws.drop at_).flatten) row Wc ∧ Wc.length = W0.length ∧ at_ ≤ was.length ∧ m = (was.length - at_) + bs.length ∧ was.length + bs.length ≤ 61,
      ⟨_, S.boxes, W0, [], [f1], [[some t]], 0, none, none, rfl, start, rfl, fun j q e => ?_, F0, rfl, Nat.zero_le _, rfl, by show 1 + _ ≤ 61; omega⟩, ?_⟩
    · match j, e with
      | 0, e =>
        have : f1 = q := Option.some.inj e
        subst this
        exact ⟨[some t], rfl, by rw [eB0, upd_same]; rfl, nwf.symm, nfo, naf.symm⟩
      | j + 1, e => simp at e
    rintro m σ H' ⟨bs, Wc, row, was, rws, at_, v6, v7, rfl, rfl, hwr, hws, FSt, hWc, hat, rfl, h61⟩
    have few := FSt.few
    refine ⟨_, rfl, _, rfl, wa, _, rfl, .inl (SqL.of tri_c), _, _, rfl, rfl, _, rfl, ?_⟩
    rw [List.length_map]
    by_cases c : at_ < was.length
    case neg =>
      refine if_neg_of (decide_eq_false (by omega)) ?_
      have ed : rws.drop at_ = [] := List.drop_eq_nil_of_le (by omega)
      have e2 := FSt.e2
      have e1 := FSt.e1
      have tl := FSt.told
      rw [ed] at e2 e1
      have g0 : ∀ m, go m bs (([] : List (List (Option Int))).flatten) = (bs, []) := fun m => by cases m <;> rfl
      rw [g0] at e2 e1
      refine ⟨_, rfl, k ro _ Wc hro (fun d o e => ?_) ?_ ?_⟩
      · by_cases d1 : d = wl
        · rw [d1, upd_same] at e
          rw [d1, tri_a nwo nwa]
          exact e
        · rw [upd_ne d1] at e
          rw [tri_o d1 (ne_of_none e hro) (ne_of_none e ha0)]
          exact hB _ _ e
      · rw [tri_b nao.symm, ← e2, List.append_nil]
      · rw [← e1]
        exact tl
    refine if_pos_of (decide_eq_true (by omega)) ?_
    obtain ⟨q, hqa⟩ : ∃ q, was[at_]? = some q := ⟨_, List.getElem?_eq_getElem c⟩
    obtain ⟨r, hra, hBq', q1, q2, q3⟩ := hws at_ q hqa
    refine ⟨fun σ' H'' => ∃ m', m' < (was.length - at_) + bs.length ∧ ∃ (bs : List (Int × Bx)) (Wc row : List Int) (was : List Addr) (rws : List (List (Option Int))) (at_ : Nat) (v6 v7 : Option V), σ' = [some (.ref rl), some (.ref wl), some (.int t), some (.ref ro), some (.ref wa), some (.int (at_ : Int)), v6, v7] ∧
      H'' = tri B0 wl ro wa (Wc.map V.int) (row.map V.int) (was.map V.ref) ∧ was.length = rws.length ∧ (∀ (j : Nat) (q : Addr), was[j]? = some q → ∃ r, rws[j]? = some r ∧ B0 q = some (.lst (lV r)) ∧ q ≠ wl ∧ q ≠ ro ∧ q ≠ wa) ∧
      FS S (run S.boxes [some t]) rs bs ((rws.drop at_).flatten) row Wc ∧ Wc.length = W0.length ∧ at_ ≤ was.length ∧ m' = (was.length - at_) + bs.length ∧ was.length + bs.length ≤ 61, fun σ' H'' h => h, ?_⟩
    refine ⟨_, rfl, _, rfl, wa, _, _, _, rfl, rfl, SqL.of tri_c, at_of (j := at_) rfl (by rw [List.getElem?_map, hqa]; rfl), ?_⟩
    refine ⟨_, rfl, _, _, rfl, rfl, ?_⟩
    have er : rws.drop at_ = r :: rws.drop (at_ + 1) := by
      have hl : at_ < rws.length := by omega
      rw [List.drop_eq_getElem_cons hl]
      rw [List.getElem?_eq_getElem hl] at hra
      rw [Option.some.inj hra]
    rw [er] at FSt
    -- the pointers of one room
    refine ⟨_, rfl, q, rfl, ⟨_, SqL.of (by rw [tri_o q1 q2 q3]; exact hBq')⟩, for_list (K := K) (a := q) (xs := lV r) (fun j σ H' => ∃ (bs' : List (Int × Bx)) (Wc row : List Int) (was' : List Addr) (rws' : List (List (Option Int))) (v7 : Option V), σ = [some (.ref rl), some (.ref wl), some (.int t), some (.ref ro), some (.ref wa), some (.int ((at_ + 1 : Nat) : Int)), some (.ref q), v7] ∧
      H' = tri B0 wl ro wa (Wc.map V.int) (row.map V.int) (was'.map V.ref) ∧ was'.length = rws'.length ∧ (∀ (j : Nat) (q : Addr), was'[j]? = some q → ∃ r, rws'[j]? = some r ∧ B0 q = some (.lst (lV r)) ∧ q ≠ wl ∧ q ≠ ro ∧ q ≠ wa) ∧
      FS S (run S.boxes [some t]) rs bs' (r.drop j ++ (rws'.drop (at_ + 1)).flatten) row Wc ∧ Wc.length = W0.length ∧ at_ + 1 ≤ was'.length ∧ (was'.length - (at_ + 1)) + bs'.length + 1 = (was.length - at_) + bs.length ∧ was'.length + bs'.length ≤ 61)
      ⟨bs, Wc, row, was, rws, v7, ?_, rfl, hwr, hws, FSt, hWc, c, by omega, h61⟩ (fun j σ H' _ ⟨_, _, _, _, _, _, _, e, _⟩ => by rw [e]; exact SqL.of (by rw [tri_o q1 q2 q3]; exact hBq')) ?_ ?_⟩
    · rfl
    · clear FSt hWc h61 hws hwr few v6 v7 Wc row
      rintro j y σ H' hj ⟨bs', Wc, row, was', rws', v7, rfl, rfl, hwr, hws, FSt, hWc, hat', hm, h61⟩
      obtain ⟨o, ho, rfl⟩ := lV_at hj
      have edj : r.drop j = o :: r.drop (j + 1) := by
        have hl := (List.getElem?_eq_some_iff.mp ho).1
        rw [List.drop_eq_getElem_cons hl]
        rw [List.getElem?_eq_getElem hl] at ho
        rw [Option.some.inj ho]
      rw [edj, List.cons_append] at FSt
      have few := FSt.few
      refine ⟨_, ?_, fun σ' H' h => h⟩
      refine ⟨_, rfl, _, rfl, ?_⟩
      cases o with
      | none =>
        refine iteF ?_
        exact ⟨bs', Wc, row, was', rws', _, rfl, rfl, hwr, hws, FSt.skip, hWc, hat', hm, h61⟩
      | some n =>
        refine iteT ?_
        obtain ⟨b, hb⟩ := FSt.box
        obtain ⟨n0, hWn⟩ := FSt.told n b hb
        have nl := (List.getElem?_eq_some_iff.mp hWn).1
        have hWV : (Wc.map V.int)[n.toNat]? = some (V.int b.wt) := by rw [List.getElem?_map, hWn]; rfl
        refine ⟨_, rfl, _, rfl, wl, _, _, _, rfl, rfl, SqL.of (tri_a nwo nwa), at_of (j := n.toNat) (by omega) hWV, _, _, rfl, rfl, _, rfl, _, rfl, wl, _, _, _, rfl, rfl, tri_a nwo nwa, ixN_int n0 (by rw [List.length_map]; omega), ?_⟩
        rw [tri_seta nwo nwa, ← List.map_set]
        have hWn2 : ((Wc.set n.toNat (b.wt - 1)).map V.int)[n.toNat]? = some (V.int (b.wt - 1)) := by rw [List.getElem?_map, List.getElem?_set_self nl]; rfl
        have hWl2 : (Wc.set n.toNat (b.wt - 1)).length = W0.length := by rw [List.length_set]; exact hWc
        refine ⟨_, ?_, fun σ' H' h => h⟩
        refine ⟨_, rfl, _, rfl, wl, _, _, _, rfl, rfl, SqL.of (tri_a nwo nwa), at_of (j := n.toNat) (by omega) hWn2, rfl, _, rfl, ?_⟩
        by_cases cw : b.wt = 1
        · obtain ⟨F2, l2⟩ := FSt.free hb cw
          refine if_pos_of (decide_eq_true (by rw [cw]; rfl)) ?_
          refine ⟨_, rfl, .inl ⟨rfl, _, SqL.of (tri_b nao.symm)⟩, _, rfl, ro, _, _, rfl, rfl, tri_b nao.symm, (by rw [List.length_map, sizeLine_eq]; omega), ?_⟩
          rw [tri_setb nao.symm]
          -- waiting.append(rooms[other])
          have hrs := FSt.sl n b hb
          obtain ⟨qn, hqn⟩ : ∃ qn, qs[n.toNat]? = some qn := by
            have := (List.getElem?_eq_some_iff.mp hrs).1
            exact ⟨_, List.getElem?_eq_getElem (by rw [hq.n]; exact this)⟩
          obtain ⟨rown, hrown, hHn⟩ := hq.at_ _ _ hqn
          have ern : rown = b.slots := Option.some.inj (hrown.symm.trans hrs)
          subst ern
          have hm1 := List.mem_of_getElem? hqn
          obtain ⟨z1, z2⟩ := hBq qn hm1 _ hHn
          have hRL : tri B0 wl ro wa ((Wc.set n.toNat (b.wt - 1)).map V.int) (row.map V.int ++ [V.int n]) (was'.map V.ref) rl = some (.lst (qs.map V.ref)) := by rw [tri_o nrw nrlo nrla]; exact hB _ _ hrl
          refine ⟨_, rfl, .inl ⟨rfl, _, SqL.of tri_c⟩, _, rfl, _, rfl, rl, _, _, _, rfl, rfl, SqL.of hRL, at_of (j := n.toNat) (by omega) (by rw [List.getElem?_map, hqn]; rfl), wa, _, _, rfl, rfl, tri_c, (by rw [List.length_map, sizeLine_eq]; omega), ?_⟩
          rw [tri_setc]
          refine ⟨rm bs' n, Wc.set n.toNat (b.wt - 1), row ++ [n], was' ++ [qn], rws' ++ [b.slots], _, rfl, by rw [List.map_append, List.map_append]; rfl, by rw [List.length_append, List.length_append, hwr]; rfl, fun j' q' e => ?_, ?_, hWl2, by rw [List.length_append, List.length_singleton]; omega, by rw [List.length_append, List.length_singleton]; omega, by rw [List.length_append, List.length_singleton]; omega⟩
          · by_cases cj : j' < was'.length
            · rw [List.getElem?_append_left cj] at e
              obtain ⟨r', e1, e2⟩ := hws j' q' e
              exact ⟨r', by rw [List.getElem?_append_left (by omega)]; exact e1, e2⟩
            · rw [List.getElem?_append_right (by omega)] at e
              have e0 : j' - was'.length = 0 := by
                have := (List.getElem?_eq_some_iff.mp e).1
                rw [List.length_singleton] at this
                omega
              rw [e0] at e
              have : qn = q' := Option.some.inj e
              subst this
              exact ⟨b.slots, by rw [List.getElem?_append_right (by omega), ← hwr, e0]; rfl, hB _ _ hHn, nqw _ hm1, z1, z2⟩
          · rw [List.drop_append_of_le_length (by omega), List.flatten_append]
            rw [← List.append_assoc]
            have : ([b.slots] : List (List (Option Int))).flatten = b.slots := by simp
            rw [this]
            exact F2
        · refine if_neg_of (decide_eq_false (by intro z; injection z with z; omega)) ?_
          exact ⟨chg bs' n low, Wc.set n.toNat (b.wt - 1), row, was', rws', _, rfl, rfl, hwr, hws, FSt.low hb cw, hWl2, hat', by rw [len_chg]; exact hm, by rw [len_chg]; exact h61⟩
    · clear FSt hWc h61 hws hwr few v6 v7 Wc row
      rintro σ H' ⟨bs', Wc, row, was', rws', v7, rfl, rfl, hwr, hws, FSt, hWc, hat', hm, h61⟩
      rw [lV_len, List.drop_length, List.nil_append] at FSt
      exact ⟨_, by omega, bs', Wc, row, was', rws', at_ + 1, _, _, rfl, rfl, hwr, hws, FSt, hWc, hat', rfl, h61⟩
/-! ### the chain built -/
theorem RoomsL.snoc {H : Hp} {qs : List Addr} {rows : List (List (Option Int))} (h : RoomsL H qs rows) {L : Addr} {row : List (Option Int)} (hL : H L = some (.lst (lV row))) : RoomsL H (qs ++ [L]) (rows ++ [row]) :=
  ⟨by rw [List.length_append, List.length_append, h.n]; rfl, fun j q e => by
    have hn := h.n
    by_cases c : j < qs.length
    · rw [List.getElem?_append_left c] at e
      obtain ⟨r, h1, h2⟩ := h.at_ j q e
      exact ⟨r, by rw [List.getElem?_append_left (by omega)]; exact h1, h2⟩
    · rw [List.getElem?_append_right (by omega)] at e
      have e0 : j - qs.length = 0 := by
        have := (List.getElem?_eq_some_iff.mp e).1
        rw [List.length_singleton] at this
        omega
      rw [e0] at e
      have : L = q := Option.some.inj e
      subst this
      exact ⟨row, by rw [List.getElem?_append_right (by omega), ← hn, e0]; rfl, hL⟩⟩
theorem RoomsL.set {H : Hp} {qs : List Addr} {rows : List (List (Option Int))} (h : RoomsL H qs rows) (nd : qs.Nodup) {r0 : Nat} {L : Addr} (hL : qs[r0]? = some L) (row : List (Option Int)) : RoomsL (upd H L (.lst (lV row))) qs (rows.set r0 row) :=
  ⟨by rw [List.length_set, h.n], fun j q e => by
    obtain ⟨r, h1, h2⟩ := h.at_ j q e
    by_cases c : j = r0
    · subst c
      have : q = L := Option.some.inj (e.symm.trans hL)
      subst this
      exact ⟨row, by rw [List.getElem?_set_self (List.getElem?_eq_some_iff.mp h1).1], upd_same⟩
    · have : q ≠ L := fun z => c (nd_ix nd e (by rw [z]; exact hL))
      exact ⟨r, by rw [List.getElem?_set_ne (fun z => c z.symm)]; exact h1, by rw [upd_ne this]; exact h2⟩⟩
theorem nodup_snoc {qs : List Addr} {L : Addr} (h : qs.Nodup) (n : ∀ q ∈ qs, q ≠ L) : (qs ++ [L]).Nodup := by
  rw [List.nodup_append]
  exact ⟨h, by simp, fun a ha b hb => by rw [List.mem_singleton.mp hb]; exact n a ha⟩
/-- amid the building of a box: it is the r0-th, its room lies at L, hand 0 holds it -/
def BI (C B p rl L : Addr) (S : Hp) (tp kept : Option Int) (r0 sz n : Nat) (H : Hp) : Prop := ∃ (g : Geo) (P : Pl) (R : Hp) (qs : List Addr) (rws : List (List (Option Int))) (row : List (Option Int)),
  PileAt C B p g P R H ∧ Rows P ([] :: rws) ∧ P.hands = hd4 (some ((r0 : Int) + 1)) tp none kept ∧ R rl = some (.lst (oV tp :: qs.map V.ref)) ∧ RoomsL R qs rws ∧ (∀ q ∈ qs, q ≠ rl) ∧ qs.Nodup ∧ Same S R ∧ (∀ q ∈ qs, S q = none) ∧ qs[r0]? = some L ∧ rws[r0]? = some row ∧ row.length = sz ∧
  (∀ t, tp = some t → some t ∈ row) ∧ rws.length ≤ n
/-- the box that is built, as the pile has it -/
theorem own_box {P : Pl} {rws : List (List (Option Int))} {r0 : Nat} {row : List (Option Int)} (h : Rows P ([] :: rws)) (hr : rws[r0]? = some row) : ∃ b, get P.boxes ((r0 : Int) + 1) = some b ∧ b.slots = row := by
  have hl := (List.getElem?_eq_some_iff.mp hr).1
  obtain ⟨b, hb, e⟩ := h.get (n := (r0 : Int) + 1) (by omega) (by rw [List.length_cons]; omega)
  have e1 : ((r0 : Int) + 1).toNat = r0 + 1 := by omega
  rw [e1] at e
  exact ⟨b, hb, Option.some.inj ((show rws[r0]? = some b.slots from e).symm.trans hr)⟩
def spBuilt (K : PySem.W.Frag) (C B : Addr) : Sp := fun vs H Q _ => ∃ (p a rl : Addr) (many : Nat) (g : Geo) (P : Pl) (R S : Hp) (ns : List Int), vs = [.ref p, .ref a, .ref rl, .int many] ∧ PileAt C B p g P R H ∧ Rows P [[]] ∧ P.hands = hd4 none none none none ∧
  R rl = some (.lst [.non]) ∧ Same S R ∧ S rl = none ∧ SqL K S a (ns.map V.int) ∧ 1 ≤ many ∧ many ≤ 18 ∧
  ∀ (g' : Geo) (P' : Pl) (R' H' : Hp) (qs : List Addr) (rows : List (List (Option Int))) (t : Int) (kept : Option Int), PileAt C B p g' P' R' H' → Rows P' ([] :: rows) → P'.hands = hd4 none (some t) none kept → R' rl = some (.lst (.int t :: qs.map V.ref)) → RoomsL R' qs rows → (∀ q ∈ qs, q ≠ rl) → Same S R' → rows.length ≤ 54 → Q (oV kept) H'
theorem scBuilt : FnScope nBuilt ["_law_pile", "_law_script", "_law_rooms", "_law_many"] (defScope sBuilt) := ⟨rfl, rfl, rfl, by decide +kernel, rfl, by decide +kernel, by decide +kernel⟩
theorem ok_built {f fI fM fO fR fU fH fT fG fA fX fY fP fL fB fK fW fN fD fJ fV fE fCS : Addr} {fd dI dM dO dR dU dH dT dG dA dX dY dP dL dB dK dW dN dD dJ dV dE dCS : FuncData} (F : Fun K "_law_built" "_law_built" sBuilt f fd) (T : Txt K mg C B eH eS eF eB eL) (TL : TxtL mg) (D : Defs K mg C B fI fM fO fR fU fH fT fG fA fX fY fP fL fB fK fW fN fD fJ fV fE fCS dI dM dO dR dU dH dT dG dA dX dY dP dL dB dK dW dN dD dJ dV dE dCS) : FnOk P w K mg base CX0 4 f fd ["_law_pile", "_law_script", "_law_rooms", "_law_many"] (spBuilt K C B) := by
  have GM : FnOk P w K mg base (L2.CX P w) 3 fM dM ["self", "hand", "size"] (spMake C B eH eS eF) := ok_make D.FM T D.FL D.bL D.mL D.FP D.bP D.mP D.MB D.FB D.bB D.FK D.bK D.gK
  have GO : FnOk P w K mg base (L2.CX P w) 3 fO dO ["self", "hand", "other"] (spHold C B eH) := ok_hold D.FO T D.FL D.bL D.mL D.FP D.bP D.mP D.FK D.bK D.gK
  have GR : FnOk P w K mg base (L2.CX P w) 3 fR dR ["self", "hand"] (spDrop C B eH) := ok_drop D.FR T D.FL D.bL D.mL D.FP D.bP D.mP D.FK D.bK D.gK
  have GU : FnOk P w K mg base (L2.CX P w) 3 fU dU ["self", "hand", "slot", "other"] (spPut C B eH eB eL) := ok_put D.FU T D.FL D.bL D.mL D.FP D.bP D.mP D.FK D.bK D.gK D.FY D.bY D.mY D.FCS D.bCS D.gCS
  have GH : FnOk P w K mg base (L2.CX P w) 2 fH dH ["self", "hand"] (spHolds C B eH) := ok_holds D.FH T D.FK D.bK D.gK
  have GD : FnOk P w K mg base CX0 1 fD dD ["_law_script", "_law_k"] (spCellAt K) := ok_cellat D.FD TL
  refine F.ok scBuilt (fun vs H Q E h => ?_) (fun cdv A outer s H vs Q E hr h => ?_)
  · obtain ⟨p, a, rl, many, g, P, R, S, ns, rfl, _⟩ := h
    rfl
  · obtain ⟨p, a, rl, many, g, P0, R, S, ns, rfl, A, hRw, hh, hrl, sSR, srl, hS, m1, m18, k⟩ := h
    have nd := scBuilt.nd
    have hr1 : Room 1 _ := hr.mono (by decide)
    have hr2 : Room 2 _ := hr.mono (by decide)
    have hr3 : Room 3 _ := hr
    refine ⟨_, (pss_cons (ps_set (i := 4) nd rfl (Or.inl rfl) (pe_op op_modN (pe_call GD hr1 (by rfl) D.gD D.FD.kp D.bD .nil pass0 (pa_cons (pv 1) (pa_cons pe_int pa_nil))) (pv 3)))
      (pss_cons (ps_for PassesOwn.never rfl (pi_range1 (by rfl) TL.range (pa_cons (pv 3) pa_nil)) (pg_name (i := 5) nd rfl (Or.inl rfl))
      (pss_cons (ps_set (i := 6) nd rfl (Or.inl rfl) (pe_call GD hr1 (by rfl) D.gD D.FD.kp D.bD .nil pass0 (pa_cons (pv 1) (pa_cons (pe_op op_add pe_int (pv 5)) pa_nil))))
      (pss_cons (ps_set (i := 7) nd rfl (Or.inl rfl) (pe_op op_add pe_int (pe_op op_mod (pv 6) pe_int)))
      (pss_cons (ps_set (i := 8) nd rfl (Or.inl rfl) (pe_callB call_len_seq (by rfl) TL.len PySem.boot_len (pa_cons (pv 2) pa_nil)))
      (pss_cons (ps_setLc (i := 9) (own := [("_law_slot", 11)]) (g := gName 11) (tt := tYes) (te := tC .non) (by rfl) nd rfl rfl (sw_true rfl rfl rfl (by decide +kernel)) (pi_range1 (by rfl) TL.range (pa_cons (pv 7) pa_nil)) (blkOk_by (N := nBuilt) (sc := defScope sBuilt) (by decide +kernel)) (fun _ _ _ _ _ => pg_name (i := 11) nd rfl (Or.inl rfl)) (fun _ _ _ _ _ => pts_nil) (fun _ _ _ _ _ => pe_non))
      (pss_cons (ps_expr (pe_bm PySem.F.plainAttrs_list PySem.F.slot_list_append PySem.F.type_list_append mt_append (pv 2) (pa_cons (pv 9) pa_nil)))
      (pss_cons (ps_expr (pe_meth (pv 0) T.clC D.mM GM hr3 D.bM .nil passL (pa_cons pe_int (pa_cons (pv 7) pa_nil))))
      (pss_cons (ps_mid (ps_if (pt_cmpR op_gt (pv 5) pe_int (nomark _)) (pss_cons (ps_asg (pe_ix ix_list (pv 2) pe_int (fun _ _ => rfl)) (pg_sub (pv 9) (pe_op op_modN (pe_op op_fdiv (pv 6) pe_int) (pv 7)) set_list))
      (pss_one (ps_expr (pe_meth (pv 0) T.clC D.mU GU hr3 D.bU .nil passL (pa_cons pe_int (pa_cons (pe_op op_modN (pe_op op_fdiv (pv 6) pe_int) (pv 7)) (pa_cons pe_int pa_nil))))))) pss_nil))
      (pss_cons (ps_for PassesOwn.never rfl (pi_range1 (by rfl) TL.range (pa_cons (pe_op op_mod (pe_op op_fdiv (pv 6) pe_int) pe_int) pa_nil)) (pg_name (i := 10) nd rfl (Or.inl rfl))
      (pss_cons (ps_set (i := 11) nd rfl (Or.inl rfl) (pe_op op_add (pe_op op_mod (pe_op op_fdiv (pv 6) pe_int) pe_int) (pe_op op_mul pe_int (pv 10))))
      (pss_one (ps_mid (ps_if (PW.pt (pw_and (pt_cmpR op_lt (pv 11) (pv 7) (nomark _)) (pw_and1 (pt_cmp (pc_isN (pe_ix ix_list (pv 9) (pv 11) (fun _ _ => rfl))))))) (pss_one (ps_mid (ps_if (pt_mid (PW.pt (pw_and (pt_cmpR op_gt (pv 5) pe_int (nomark _)) (pw_and1 (pt_cmpR op_eq (pe_op op_mod (pe_op op_fdiv (pv 6) pe_int) pe_int) (pv 10) (nomark _)))))) (pss_cons (ps_asg (pe_ix ix_list (pv 2) pe_int (fun _ _ => rfl)) (pg_sub (pv 9) (pv 11) set_list))
      (pss_one (ps_expr (pe_meth (pv 0) T.clC D.mU GU hr3 D.bU .nil passL (pa_cons pe_int (pa_cons (pv 11) (pa_cons pe_int pa_nil))))))) (pss_cons (ps_asg (pe_callB call_len_seq (by rfl) TL.len PySem.boot_len (pa_cons (pv 2) pa_nil)) (pg_sub (pv 9) (pv 11) set_list))
      (pss_cons (ps_expr (pe_bm PySem.F.plainAttrs_list PySem.F.slot_list_append PySem.F.type_list_append mt_append (pv 2) (pa_cons (pe_lst pa_nil) pa_nil)))
      (pss_cons (ps_expr (pe_meth (pv 0) T.clC D.mM GM hr3 D.bM .nil passL (pa_cons pe_int (pa_cons pe_int pa_nil))))
      (pss_cons (ps_expr (pe_meth (pv 0) T.clC D.mU GU hr3 D.bU .nil passL (pa_cons pe_int (pa_cons (pv 11) (pa_cons pe_int pa_nil)))))
      (pss_one (ps_expr (pe_meth (pv 0) T.clC D.mR GR hr3 D.bR .nil passL (pa_cons pe_int pa_nil))))))))))) pss_nil)))))
      (pss_cons (ps_expr (pe_meth (pv 0) T.clC D.mO GO hr3 D.bO .nil passL (pa_cons pe_int (pa_cons pe_int pa_nil))))
      (pss_cons (ps_expr (pe_meth (pv 0) T.clC D.mR GR hr3 D.bR .nil passL (pa_cons pe_int pa_nil)))
      (pss_cons (ps_asg (pv 8) (pg_sub (pv 2) pe_int set_list))
      (pss_one (ps_mid (ps_if (pt_mid (PW.pt (pw_and (pt_cmpR op_eq (pv 5) (pv 4) (nomark _)) (pw_and1 (pt_cmpR op_eq (pe_op op_mod (pe_op op_fdivN (pe_call GD hr1 (by rfl) D.gD D.FD.kp D.bD .nil pass0 (pa_cons (pv 1) (pa_cons pe_int pa_nil))) (pv 3)) pe_int) pe_int (nomark _)))))) (pss_one (ps_expr (pe_meth (pv 0) T.clC D.mO GO hr3 D.bO .nil passL (pa_cons pe_int (pa_cons pe_int pa_nil))))) pss_nil)))))))))))))))
      (pss_one (ps_ret (pe_meth (pv 0) T.clC D.mH GH hr2 D.bH .nil passL (pa_cons pe_int pa_nil)))))), ?_⟩
    obtain ⟨kp, ekp⟩ : ∃ kp : Int, kp = (ns.getD 1 0).fmod (many : Int) := ⟨_, rfl⟩
    refine ⟨_, rfl, a, ns, 1, rfl, (sSR.trans A.same).seq hS, _, rfl, _, _, rfl, rfl, (by omega), ?_⟩
    refine ⟨_, rfl, _, rfl, by omega, by omega, ?_⟩
    refine for_range (lo := 0) (n := (many : Int).toNat) (fun k σ H' => ∃ (g : Geo) (P : Pl) (R : Hp) (qs : List Addr) (rows : List (List (Option Int))) (tp kept : Option Int) (v5 v6 v7 v8 v9 v10 v11 : Option V),
      σ = [some (.ref p), some (.ref a), some (.ref rl), some (.int many), some (.int kp), v5, v6, v7, v8, v9, v10, v11] ∧ PileAt C B p g P R H' ∧ Rows P ([] :: rows) ∧ P.hands = hd4 none tp none kept ∧ R rl = some (.lst (oV tp :: qs.map V.ref)) ∧ RoomsL R qs rows ∧ (∀ q ∈ qs, q ≠ rl) ∧ qs.Nodup ∧
      Same S R ∧ (∀ q ∈ qs, S q = none) ∧ rows.length ≤ 3 * k ∧ (k = 0 → tp = none) ∧ (0 < k → ∃ t, tp = some t) ∧ (∀ n, kept = some n → kp < (k : Int)))
      ⟨g, P0, R, [], [], none, none, none, none, none, none, none, none, none, (by rw [ekp]; rfl), A, hRw, hh, hrl, ⟨rfl, fun j q e => (by simp at e)⟩, fun q hq => (nomatch hq), List.nodup_nil, sSR, fun q hq => (nomatch hq), Nat.le_refl _, fun _ => rfl, fun z => absurd z (Nat.lt_irrefl 0), fun n e => (nomatch e)⟩ ?_ ?_
    · clear hh hRw A sSR hrl R g P0
      rintro i σ H1 hi ⟨g, P0, R, qs, rows, tp, kept, v5, v6, v7, v8, v9, v10, v11, rfl, A, hRw, hh, hrl, hq, hqr, hqn, sSR, hqS, hrows, ht0, ht1, hkp⟩
      have hi18 : i < 18 := by have : i < (many : Int).toNat := hi; omega
      obtain ⟨c, ec⟩ : ∃ c, c = ns.getD (2 + i) 0 := ⟨_, rfl⟩
      have hix : [V.ref a, V.int (2 + (0 + (i : Int)))] ++ [] = [V.ref a, V.int ((2 + i : Nat) : Int)] := by rw [List.append_nil, show (2 : Int) + (0 + (i : Int)) = ((2 + i : Nat) : Int) from by omega]
      refine ⟨_, rfl, _, rfl, _, _, rfl, rfl, a, ns, 2 + i, hix, (sSR.trans A.same).seq hS, ?_⟩
      rw [← ec]
      have c0 : 0 ≤ c % 6 := Int.emod_nonneg _ (by decide)
      have c6 : c % 6 < 6 := Int.emod_lt_of_pos _ (by decide)
      obtain ⟨sz, esz⟩ : ∃ sz : Nat, (sz : Int) = 1 + c % 6 := ⟨(1 + c % 6).toNat, by omega⟩
      have sz1 : 1 ≤ sz := by omega
      have sz6 : sz ≤ 6 := by omega
      refine ⟨_, rfl, _, _, rfl, rfl, (by show (0 : Int) < 6; decide), _, _, rfl, rfl, ?_⟩
      refine ⟨_, rfl, rl, _, rfl, .inl (SqL.of (A.same _ _ hrl)), ?_⟩
      -- its room
      have eszn : (1 + c % 6).toNat = sz := by omega
      refine ⟨_, rfl, _, rfl, (by show -(2 ^ 62) ≤ 1 + c % 6; omega), (by show 1 + c % 6 < 2 ^ 62; omega), fun L hL => lc_range (lo := 0) (n := (1 + c % 6).toNat) (fun j H' => PileAt C B p g P0 (upd R L (.lst (lV (List.replicate j none)))) H') (A.new hL) (fun j H' hj A => ?_) (fun H2 A2 => ?_)⟩
      · refine ⟨rfl, _, A.same _ _ upd_same, (by rw [lV_len, List.length_replicate, sizeLine_eq]; have : j < (1 + c % 6).toNat := hj; omega), ?_⟩
        have := A.set (a := L) (o := .lst (lV (List.replicate j none) ++ [.non])) upd_same
        rw [upd_upd] at this
        rw [List.replicate_succ']
        unfold lV
        rw [List.map_append]
        exact this
      rw [eszn] at A2
      have rL := A.same.free hL
      have sL : S L = none := sSR.free rL
      have nrL : rl ≠ L := ne_of_none hrl rL
      have nqL : ∀ q ∈ qs, q ≠ L := fun q hm => by
        obtain ⟨j, hj, e⟩ := List.mem_iff_getElem.mp hm
        obtain ⟨r, _, e2⟩ := hq.at_ j q (by rw [List.getElem?_eq_getElem hj, e])
        exact ne_of_none e2 rL
      have hqn' := hq.n
      have hrl2 : upd R L (.lst (lV (List.replicate sz none))) rl = some (.lst (oV tp :: qs.map V.ref)) := by rw [upd_ne nrL]; exact hrl
      refine ⟨_, rfl, .inl ⟨rfl, _, SqL.of (A2.same _ _ hrl2)⟩, _, rfl, rl, _, _, rfl, rfl, A2.same _ _ hrl2, (by rw [List.length_cons, List.length_map, sizeLine_eq]; omega), ?_⟩
      have A3 := A2.set (a := rl) (o := .lst ((oV tp :: qs.map V.ref) ++ [V.ref L])) hrl2
      generalize upd H2 rl (.lst ((oV tp :: qs.map V.ref) ++ [V.ref L])) = H3 at A3 ⊢
      -- the box
      have h0n : P0.hands.getD 0 none = none := by rw [hh]; rfl
      have few := hRw.len
      rw [List.length_cons] at few
      refine ⟨_, rfl, p, g.dx, _, rfl, A3.hp, pf_no _ _ _ (by decide +kernel) (by decide +kernel) (by decide +kernel), _, rfl, p, P0, _, 0, _, rfl, ⟨⟨g, A3⟩, hRw.wf⟩, fun z => absurd (by decide) z, fun _ z => absurd (by omega) z, fun _ _ z => absurd z (by omega), fun _ _ _ r H4 hr4 ⟨⟨g4, A4⟩, W4⟩ => ?_⟩
      obtain ⟨Rw4, f4, h4, _⟩ := hRw.make (i := 0) (size := (1 + c % 6).toNat) (by decide) (by omega) (by rw [List.length_cons]; omega) h0n
      have em : P0.made = (rows.length : Int) + 1 := by rw [hRw.made, List.length_cons]; rfl
      replace A4 := A4.less (same_upd hr4)
      replace A4 : PileAt C B p g4 (mk P0 0 (1 + c % 6).toNat).1 _ H4 := A4
      rw [hh, em] at h4
      generalize (mk P0 0 (1 + c % 6).toNat).1 = P4 at A4 Rw4 h4
      rw [eszn] at Rw4
      have h4' : P4.hands = hd4 (some ((rows.length : Int) + 1)) tp none kept := h4
      have Rw4' : Rows P4 ([] :: (rows ++ [List.replicate sz none])) := Rw4
      obtain ⟨R4, eR4⟩ : ∃ R4, R4 = upd (upd R L (.lst (lV (List.replicate sz none)))) rl (.lst ((oV tp :: qs.map V.ref) ++ [V.ref L])) := ⟨_, rfl⟩
      rw [← eR4] at A4
      have r4l : R4 rl = some (.lst (oV tp :: (qs ++ [L]).map V.ref)) := by rw [eR4, upd_same, List.map_append]; rfl
      have r4L : R4 L = some (.lst (lV (List.replicate sz none))) := by rw [eR4, upd_ne nrL.symm, upd_same]
      have hq4 : RoomsL R4 (qs ++ [L]) (rows ++ [List.replicate sz none]) := (hq.more (H' := R4) fun q hm o e => by rw [eR4, upd_ne (hqr q hm), upd_ne (nqL q hm)]; exact e).snoc r4L
      have hqr4 : ∀ q ∈ qs ++ [L], q ≠ rl := fun q hm => by
        rcases List.mem_append.mp hm with hm | hm
        · exact hqr q hm
        · rw [List.mem_singleton.mp hm]; exact nrL.symm
      have hqn4 := nodup_snoc hqn nqL
      have s4 : Same S R4 := fun b o e => by rw [eR4, upd_ne (ne_of_none e srl), upd_ne (ne_of_none e sL)]; exact sSR _ _ e
      have hqS4 : ∀ q ∈ qs ++ [L], S q = none := fun q hm => by
        rcases List.mem_append.mp hm with hm | hm
        · exact hqS q hm
        · rw [List.mem_singleton.mp hm]; exact sL
      have hqL : (qs ++ [L])[rows.length]? = some L := by rw [List.getElem?_append_right (by omega), hqn', Nat.sub_self]; rfl
      have hrL : (rows ++ [List.replicate sz none])[rows.length]? = some (List.replicate sz none) := by rw [List.getElem?_append_right (Nat.le_refl _), Nat.sub_self]; rfl
      clear eR4 A3 A2 h4 Rw4 f4 W4 hrl2
      -- the chain
      refine ⟨fun σ' H' => σ' = [some (.ref p), some (.ref a), some (.ref rl), some (.int many), some (.int kp), some (.int (0 + (i : Int))), some (.int c), some (.int (1 + c % 6)), some (.int (((oV tp :: qs.map V.ref).length : Nat) : Int)), some (.ref L), v10, v11] ∧ BI C B p rl L S tp kept rows.length sz (rows.length + 1) H', ?_, ?_⟩
      · refine ⟨_, rfl, _, _, rfl, rfl, _, rfl, ?_⟩
        by_cases ci : i = 0
        · refine if_neg_of (decide_eq_false (by omega)) ?_
          have htp := ht0 ci
          exact ⟨rfl, g4, P4, R4, qs ++ [L], _, _, A4, Rw4', h4', r4l, hq4, hqr4, hqn4, s4, hqS4, hqL, hrL, List.length_replicate, (fun t e => (by rw [htp] at e; cases e)), (by rw [List.length_append]; exact Nat.le_refl _)⟩
        · refine if_pos_of (decide_eq_true (by omega)) ?_
          obtain ⟨t, rfl⟩ := ht1 (by omega)
          have d0 : 0 ≤ (c / 6).fmod (1 + c % 6) := Int.fmod_nonneg_of_pos _ (by omega)
          have d1 : (c / 6).fmod (1 + c % 6) < 1 + c % 6 := Int.fmod_lt_of_pos _ (by omega)
          generalize hdx : (c / 6).fmod (1 + c % 6) = dx at d0 d1
          refine ⟨_, rfl, rl, _, _, _, rfl, rfl, SqL.of (A4.same _ _ r4l), at_of (j := 0) rfl rfl, _, rfl, _, rfl, _, _, rfl, rfl, ⟨by decide, by decide⟩, _, rfl, _, _, rfl, rfl, (by omega), L, _, _, dx.toNat, rfl, (by rw [← hdx]), A4.same _ _ r4L, ixN_int d0 (by rw [lV_len, List.length_replicate]; omega), ?_⟩
          rw [lV_set]
          have A5 := A4.set (a := L) (o := .lst (lV ((List.replicate sz none).set dx.toNat (some t)))) r4L
          generalize upd H4 L (.lst (lV ((List.replicate sz none).set dx.toNat (some t)))) = H5 at A5 ⊢
          obtain ⟨b, hb, hbs⟩ := own_box Rw4' hrL
          have hl : dx.toNat < b.slots.length := by rw [hbs, List.length_replicate]; omega
          have hn0 : b.slots.getD dx.toNat none = none := by
            rw [hbs, List.getD_eq_getElem?_getD]
            cases e : (List.replicate sz (none : Option Int))[dx.toNat]? with
            | none => rfl
            | some y => rw [List.eq_of_mem_replicate (List.mem_of_getElem? e)]; rfl
          have e0 : P4.hands.getD (0 : Int).toNat none = some ((rows.length : Int) + 1) := by rw [h4']; rfl
          have e1 : P4.hands.getD (1 : Int).toNat none = some t := by rw [h4']; rfl
          refine ⟨_, rfl, p, g4.dx, _, rfl, A5.hp, pf_no _ _ _ (by decide +kernel) (by decide +kernel) (by decide +kernel), _, rfl, _, _, rfl, rfl, ⟨by decide, by decide⟩, _, rfl, _, _, rfl, rfl, (by omega), p, P4, _, 0, dx, 1, (by rw [← hdx]; rfl), ⟨⟨g4, A5⟩, Rw4'.wf⟩, fun z => absurd (by decide) z, fun _ z => absurd (by decide) z, fun _ _ z => absurd (e0.symm.trans z) (by intro z; cases z), fun _ _ n b' q1 q2 z => ?_, fun _ _ n b' q1 q2 z r H' hr ⟨⟨g', A'⟩, W'⟩ => ?_⟩
          · have : n = (rows.length : Int) + 1 := Option.some.inj (q1.symm.trans e0)
            subst this
            have : b' = b := Option.some.inj (q2.symm.trans hb)
            subst this
            exact absurd ⟨d0, by omega⟩ z
          · have : n = (rows.length : Int) + 1 := Option.some.inj (q1.symm.trans e0)
            subst this
            have : b' = b := Option.some.inj (q2.symm.trans hb)
            subst this
            rw [e1] at A'
            obtain ⟨Rw5, f5, h5⟩ := Rw4'.slot hb hl hn0 (x := some t) (fun n e => Rw4'.wf.hand (by rw [← e]; exact e1))
            have en : ((rows.length : Int) + 1).toNat = rows.length + 1 := by omega
            rw [en, List.set_cons_succ, hbs] at Rw5
            exact ⟨rfl, g', _, _, qs ++ [L], _, (List.replicate sz none).set dx.toNat (some t), A'.less (same_upd hr), Rw5, by rw [h5]; exact h4', by rw [upd_ne nrL]; exact r4l, hq4.set hqn4 hqL _, hqr4, hqn4, fun b o e => by rw [upd_ne (ne_of_none e sL)]; exact s4 _ _ e, hqS4, hqL,
              by rw [List.getElem?_set_self (List.getElem?_eq_some_iff.mp hrL).1], by rw [List.length_set, List.length_replicate], fun t' e => by
                have : t = t' := Option.some.inj e
                subst this
                exact List.mem_of_getElem? (List.getElem?_set_self (by rw [List.length_replicate]; omega)), by rw [List.length_set, List.length_append]; exact Nat.le_refl _⟩
      rintro σ' H5 ⟨rfl, hBI⟩
      clear hqL hrL hqS4 s4 hqn4 hqr4 hq4 r4L r4l Rw4' h4' A4 hq hqr hqn hrl sSR hRw A hh h0n few nrL nqL rL hL
      generalize hmi : (((oV tp :: qs.map V.ref).length : Nat) : Int) = mi at hBI ⊢
      have hmi' : mi = (rows.length : Int) + 1 := by rw [← hmi, List.length_cons, List.length_map, hqn']; rfl
      clear hmi hix
      have t0 : 0 ≤ c / 36 % 3 := Int.emod_nonneg _ (by decide)
      have t3 : c / 36 % 3 < 3 := Int.emod_lt_of_pos _ (by decide)
      refine ⟨_, rfl, _, _, rfl, rfl, ⟨by decide, by decide⟩, _, _, rfl, rfl, (by show (0 : Int) < 3; decide), _, rfl, by omega, by omega, ?_⟩
      refine for_range (lo := 0) (n := (c / 36 % 3).toNat) (fun tn σ H' => ∃ v10 v11 : Option V, σ = [some (.ref p), some (.ref a), some (.ref rl), some (.int many), some (.int kp), some (.int (0 + (i : Int))), some (.int c), some (.int (1 + c % 6)), some (.int mi), some (.ref L), v10, v11] ∧ BI C B p rl L S tp kept rows.length sz (rows.length + 1 + tn) H')
        ⟨v10, v11, rfl, hBI⟩ ?_ ?_
      · clear hBI H5 v10 v11
        rintro tn σ H5 htn ⟨v10, v11, rfl, hBI⟩
        have htn' : tn < (c / 36 % 3).toNat := htn
        have s0 : 0 ≤ c / 108 % 6 := Int.emod_nonneg _ (by decide)
        refine ⟨_, rfl, _, _, rfl, rfl, ⟨by decide, by decide⟩, _, _, rfl, rfl, (by show (0 : Int) < 6; decide), ?_⟩
        refine ⟨_, rfl, _, _, rfl, rfl, Or.inl ⟨by decide, by decide⟩, _, _, rfl, rfl, ?_⟩
        obtain ⟨sl, esl⟩ : ∃ sl : Nat, (sl : Int) = c / 108 % 6 + 2 * (0 + (tn : Int)) := ⟨(c / 108 % 6 + 2 * (0 + (tn : Int))).toNat, by omega⟩
        show gName 11 (V.int (c / 108 % 6 + 2 * (0 + (tn : Int)))) _ _ _
        rw [← esl]
        refine ⟨fun σ' H' => σ' = [some (.ref p), some (.ref a), some (.ref rl), some (.int many), some (.int kp), some (.int (0 + (i : Int))), some (.int c), some (.int (1 + c % 6)), some (.int mi), some (.ref L), some (.int (0 + (tn : Int))), some (.int (sl : Int))] ∧ BI C B p rl L S tp kept rows.length sz (rows.length + 1 + (tn + 1)) H', ?_, ?_⟩
        · have hBI' := hBI
          obtain ⟨g, P, R, qs', rws, row, A5, hRw, hh, hrl, hq, hqr, hqn, sSR, hqS', hqL, hrL, hrow, htp, hrn⟩ := hBI'
          have stayed : BI C B p rl L S tp kept rows.length sz (rows.length + 1 + (tn + 1)) H5 := ⟨g, P, R, qs', rws, row, A5, hRw, hh, hrl, hq, hqr, hqn, sSR, hqS', hqL, hrL, hrow, htp, by omega⟩
          have hRL : R L = some (.lst (lV row)) := by
            obtain ⟨r', h1, h2⟩ := hq.at_ _ _ hqL
            have : r' = row := Option.some.inj (h1.symm.trans hrL)
            rw [← this]
            exact h2
          have nLrl : L ≠ rl := hqr L (List.mem_of_getElem? hqL)
          refine ⟨_, rfl, _, rfl, _, _, rfl, rfl, _, rfl, ?_⟩
          by_cases cs : (sl : Int) < 1 + c % 6
          · refine if_pos_of (decide_eq_true cs) ?_
            obtain ⟨o, ho⟩ : ∃ o, row[sl]? = some o := ⟨_, List.getElem?_eq_getElem (by omega)⟩
            refine ⟨_, rfl, _, rfl, L, _, _, _, rfl, rfl, SqL.of (A5.same _ _ hRL), at_of (j := sl) rfl (by unfold lV; rw [List.getElem?_map, ho]; rfl), ?_⟩
            refine ⟨_, rfl, ?_⟩
            cases o with
            | some n =>
              refine iteF ?_
              exact ⟨rfl, stayed⟩
            | none =>
              refine iteT ?_
              clear stayed
              have hn0 : row.getD sl none = none := by rw [List.getD_eq_getElem?_getD, ho]; rfl
              have hsz : sl < row.length := by omega
              refine ⟨_, ?_, fun σ' H' h => h⟩
              refine ⟨fun b H' => H' = H5 ∧ (b = true → 0 < i), ?_, ?_⟩
              · refine ⟨_, rfl, _, _, rfl, rfl, _, rfl, ?_⟩
                by_cases ci : 0 < 0 + (i : Int)
                · refine if_pos_of (decide_eq_true ci) ?_
                  refine ⟨_, rfl, _, _, rfl, rfl, ⟨by decide, by decide⟩, _, _, rfl, rfl, (by show (0 : Int) < 3; decide), ?_⟩
                  refine ⟨_, rfl, ?_⟩
                  refine ⟨rfl, _, rfl, ?_⟩
                  exact ⟨rfl, fun _ => by omega⟩
                · refine if_neg_of (decide_eq_false ci) ?_
                  exact ⟨rfl, fun z => by cases z⟩
              rintro b H6 ⟨rfl, hb⟩
              obtain ⟨bx, hbx, hbs⟩ := own_box hRw hrL
              have e0 : P.hands.getD (0 : Int).toNat none = some ((rows.length : Int) + 1) := by rw [hh]; rfl
              have e1 : P.hands.getD (1 : Int).toNat none = tp := by rw [hh]; rfl
              have en : ((rows.length : Int) + 1).toNat = rows.length + 1 := by omega
              have hrr : rows.length < rws.length := (List.getElem?_eq_some_iff.mp hrL).1
              cases b with
              | true =>
                refine iteT ?_
                obtain ⟨t, rfl⟩ := ht1 (hb rfl)
                refine ⟨_, rfl, rl, _, _, _, rfl, rfl, SqL.of (A5.same _ _ hrl), at_of (j := 0) rfl rfl, _, rfl, _, rfl, L, _, _, sl, rfl, rfl, A5.same _ _ hRL, ixN_int (by omega) (by rw [lV_len]; omega), ?_⟩
                rw [show (oV (some t)) = oV (some t) from rfl, lV_set]
                have A6 := A5.set (a := L) (o := .lst (lV (row.set sl (some t)))) hRL
                generalize upd H6 L (.lst (lV (row.set sl (some t)))) = H7 at A6 ⊢
                refine ⟨_, rfl, p, g.dx, _, rfl, A6.hp, pf_no _ _ _ (by decide +kernel) (by decide +kernel) (by decide +kernel), _, rfl, p, P, _, 0, (sl : Int), 1, rfl, ⟨⟨g, A6⟩, hRw.wf⟩, fun z => absurd (by decide) z, fun _ z => absurd (by decide) z, fun _ _ z => absurd (e0.symm.trans z) (by intro z; cases z), fun _ _ n b' q1 q2 z => ?_, fun _ _ n b' q1 q2 z r H' hr ⟨⟨g', A'⟩, W'⟩ => ?_⟩
                · have : n = (rows.length : Int) + 1 := Option.some.inj (q1.symm.trans e0)
                  subst this
                  have : b' = bx := Option.some.inj (q2.symm.trans hbx)
                  subst this
                  exact absurd ⟨by omega, by rw [hbs]; omega⟩ z
                · have : n = (rows.length : Int) + 1 := Option.some.inj (q1.symm.trans e0)
                  subst this
                  have : b' = bx := Option.some.inj (q2.symm.trans hbx)
                  subst this
                  rw [e1, Int.toNat_natCast] at A'
                  obtain ⟨Rw5, f5, h5⟩ := hRw.slot hbx (i := sl) (by rw [hbs]; exact hsz) (by rw [hbs]; exact hn0) (x := some t) (fun n e => hRw.wf.hand (by rw [← e]; exact e1))
                  rw [en, List.set_cons_succ, hbs] at Rw5
                  exact ⟨rfl, g', _, _, qs', _, row.set sl (some t), A'.less (same_upd hr), Rw5, by rw [h5]; exact hh, by rw [upd_ne nLrl.symm]; exact hrl, hq.set hqn hqL _, hqr, hqn, fun b o e => by rw [upd_ne (ne_of_none e sL)]; exact sSR _ _ e, hqS', hqL,
                    by rw [List.getElem?_set_self hrr], by rw [List.length_set, hrow], fun t' e => by
                      have : t = t' := Option.some.inj e
                      subst this
                      exact List.mem_of_getElem? (List.getElem?_set_self hsz), by rw [List.length_set]; omega⟩
              | false =>
                refine iteF ?_
                have elen : (((oV tp :: qs'.map V.ref).length : Nat) : Int) = (rws.length : Int) + 1 := by rw [List.length_cons, List.length_map, hq.n]; rfl
                refine ⟨_, rfl, rl, _, rfl, .inl (SqL.of (A5.same _ _ hrl)), ?_⟩
                rw [elen]
                refine ⟨_, rfl, _, rfl, L, _, _, sl, rfl, rfl, A5.same _ _ hRL, ixN_int (by omega) (by rw [lV_len]; omega), ?_⟩
                rw [show (V.int ((rws.length : Int) + 1)) = oV (some ((rws.length : Int) + 1)) from rfl, lV_set]
                obtain ⟨row', erow'⟩ : ∃ row', row' = row.set sl (some ((rws.length : Int) + 1)) := ⟨_, rfl⟩
                rw [← erow']
                have A6 := A5.set (a := L) (o := .lst (lV row')) hRL
                generalize upd H6 L (.lst (lV row')) = H7 at A6 ⊢
                have hq6 := hq.set hqn hqL row'
                have hrl6 : upd R L (.lst (lV row')) rl = some (.lst (oV tp :: qs'.map V.ref)) := by rw [upd_ne nLrl.symm]; exact hrl
                have s6 : Same S (upd R L (.lst (lV row'))) := fun b o e => by rw [upd_ne (ne_of_none e sL)]; exact sSR _ _ e
                generalize upd R L (.lst (lV row')) = R6 at A6 hq6 hrl6 s6
                refine ⟨_, rfl, .inl ⟨rfl, _, SqL.of (A6.same _ _ hrl6)⟩, (by show 0 ≤ sizeLine; decide), fun L2 hL2 => ?_⟩
                have A7 := A6.new (o := .lst []) hL2
                have rL2 : R6 L2 = none := A6.same.free hL2
                have hrl7 : upd R6 L2 (.lst []) rl = some (.lst (oV tp :: qs'.map V.ref)) := by rw [upd_ne (ne_of_none hrl6 rL2)]; exact hrl6
                refine ⟨rl, _, _, rfl, rfl, A7.same _ _ hrl7, (by rw [List.length_cons, List.length_map, sizeLine_eq, hq.n]; omega), ?_⟩
                have A8 := A7.set (a := rl) (o := .lst ((oV tp :: qs'.map V.ref) ++ [V.ref L2])) hrl7
                have hrl8 : upd (upd R6 L2 (.lst [])) rl (.lst ((oV tp :: qs'.map V.ref) ++ [V.ref L2])) rl = some (.lst (oV tp :: (qs' ++ [L2]).map V.ref)) := by rw [upd_same, List.map_append]; rfl
                have nL2 : rl ≠ L2 := ne_of_none hrl6 rL2
                have nq2 : ∀ q ∈ qs', q ≠ L2 := fun q hm => by
                  obtain ⟨j, hj, e⟩ := List.mem_iff_getElem.mp hm
                  obtain ⟨r, _, e2⟩ := hq6.at_ j q (by rw [List.getElem?_eq_getElem hj, e])
                  exact ne_of_none e2 rL2
                have hq8 : RoomsL (upd (upd R6 L2 (.lst [])) rl (.lst ((oV tp :: qs'.map V.ref) ++ [V.ref L2]))) (qs' ++ [L2]) (rws.set rows.length row' ++ [[]]) :=
                  (hq6.more fun q hm o e => by rw [upd_ne (hqr q hm), upd_ne (nq2 q hm)]; exact e).snoc (row := []) (by rw [upd_ne nL2.symm, upd_same]; rfl)
                have s8 : Same S (upd (upd R6 L2 (.lst [])) rl (.lst ((oV tp :: qs'.map V.ref) ++ [V.ref L2]))) := fun b o e => by
                  rw [upd_ne (ne_of_none e srl), upd_ne (ne_of_none (s6 _ _ e) rL2)]
                  exact s6 _ _ e
                have sL2 : S L2 = none := s6.free rL2
                generalize upd (upd R6 L2 (.lst [])) rl (.lst ((oV tp :: qs'.map V.ref) ++ [V.ref L2])) = R8 at A8 hrl8 hq8 s8
                generalize upd (upd H7 L2 (.lst [])) rl (.lst ((oV tp :: qs'.map V.ref) ++ [V.ref L2])) = H8 at A8 ⊢
                clear A7 A6 A5 hrl7 hrl6 hq6 s6 rL2 hL2 hrl hq sSR hRL
                -- the box of its own
                have few := hRw.len
                rw [List.length_cons] at few
                have e2 : P.hands.getD 2 none = none := by rw [hh]; rfl
                refine ⟨_, rfl, p, g.dx, _, rfl, A8.hp, pf_no _ _ _ (by decide +kernel) (by decide +kernel) (by decide +kernel), p, P, _, 2, 0, rfl, ⟨⟨g, A8⟩, hRw.wf⟩, fun z => absurd (by decide) z, fun _ z => absurd (by decide) z, fun _ _ z => absurd z (by omega), fun _ _ _ r9 H9 hr9 ⟨⟨g9, A9⟩, W9⟩ => ?_⟩
                obtain ⟨Rw9, _, h9, _⟩ := hRw.make (i := 2) (size := 0) (by decide) (by decide) (by rw [List.length_cons]; omega) e2
                have em9 : P.made = (rws.length : Int) + 1 := by rw [hRw.made, List.length_cons]; rfl
                replace A9 := A9.less (same_upd hr9)
                replace A9 : PileAt C B p g9 (mk P 2 0).1 _ H9 := A9
                rw [hh, em9] at h9
                generalize (mk P 2 0).1 = P9 at A9 Rw9 h9
                have h9' : P9.hands = hd4 (some ((rows.length : Int) + 1)) tp (some ((rws.length : Int) + 1)) kept := h9
                have Rw9' : Rows P9 ([] :: (rws ++ [[]])) := Rw9
                clear W9 Rw9 h9 hbx hbs bx e0 e1
                -- pointed at
                have hrL9 : (rws ++ [[]])[rows.length]? = some row := by rw [List.getElem?_append_left hrr]; exact hrL
                obtain ⟨bx, hbx, hbs⟩ := own_box Rw9' hrL9
                have e0 : P9.hands.getD (0 : Int).toNat none = some ((rows.length : Int) + 1) := by rw [h9']; rfl
                have e1 : P9.hands.getD (2 : Int).toNat none = some ((rws.length : Int) + 1) := by rw [h9']; rfl
                refine ⟨_, rfl, p, g9.dx, _, rfl, A9.hp, pf_no _ _ _ (by decide +kernel) (by decide +kernel) (by decide +kernel), _, rfl, p, P9, _, 0, (sl : Int), 2, rfl, ⟨⟨g9, A9⟩, Rw9'.wf⟩, fun z => absurd (by decide) z, fun _ z => absurd (by decide) z, fun _ _ z => absurd (e0.symm.trans z) (by intro z; cases z), fun _ _ n b' q1 q2 z => ?_, fun _ _ n b' q1 q2 z rA HA hrA ⟨⟨gA, AA⟩, WA⟩ => ?_⟩
                · have : n = (rows.length : Int) + 1 := Option.some.inj (q1.symm.trans e0)
                  subst this
                  have : b' = bx := Option.some.inj (q2.symm.trans hbx)
                  subst this
                  exact absurd ⟨by omega, by rw [hbs]; omega⟩ z
                have : n = (rows.length : Int) + 1 := Option.some.inj (q1.symm.trans e0)
                subst this
                have : b' = bx := Option.some.inj (q2.symm.trans hbx)
                subst this
                rw [e1, Int.toNat_natCast] at AA
                obtain ⟨RwA, fA, hA⟩ := Rw9'.slot hbx (i := sl) (by rw [hbs]; exact hsz) (by rw [hbs]; exact hn0) (x := some ((rws.length : Int) + 1)) (fun n e => Rw9'.wf.hand (by rw [← e]; exact e1))
                rw [en, List.set_cons_succ, hbs, List.set_append_left _ _ hrr, ← erow'] at RwA
                replace AA := AA.less (same_upd hrA)
                have hA' := hA.trans h9'
                generalize (ptSlot P9 ((rows.length : Int) + 1) sl (some ((rws.length : Int) + 1))).1 = PA at AA RwA hA'
                clear WA hA fA A9
                -- hand 2 lets it go
                have hsz' : sl < row.length := hsz
                have hrowA : ([] :: (rws.set rows.length row' ++ [[]]))[rows.length + 1]? = some row' := by
                  rw [List.getElem?_cons_succ, List.getElem?_append_left (by rw [List.length_set]; exact hrr), List.getElem?_set_self hrr]
                have hmemA : some ((rws.length : Int) + 1) ∈ row' := by rw [erow']; exact List.mem_of_getElem? (List.getElem?_set_self hsz)
                obtain ⟨RwB, _, hB, _⟩ := RwA.hand (i := 2) (by decide) (x := none) (fun n e => by cases e) (fun n e => by
                  rw [hA'] at e
                  have : (rws.length : Int) + 1 = n := Option.some.inj e
                  subst this
                  have := RwA.points (k := rows.length + 1) (by omega) hrowA hmemA
                  omega)
                rw [hA'] at hB
                refine ⟨_, rfl, p, gA.dx, _, rfl, AA.hp, pf_no _ _ _ (by decide +kernel) (by decide +kernel) (by decide +kernel), p, PA, _, 2, rfl, ⟨⟨gA, AA⟩, RwA.wf⟩, fun z => absurd (by decide) z, fun _ rB HB hrB ⟨⟨gB, AB⟩, WB⟩ => ?_⟩
                replace AB := AB.less (same_upd hrB)
                refine ⟨rfl, gB, _, R8, qs' ++ [L2], rws.set rows.length row' ++ [[]], row', AB, RwB, hB, hrl8, hq8, fun q hm => ?_, nodup_snoc hqn nq2, s8, fun q hm => ?_, ?_, by rw [List.getElem?_append_left (by rw [List.length_set]; exact hrr), List.getElem?_set_self hrr], by rw [erow', List.length_set, hrow], fun t e => by rw [erow']; exact mem_set_none (htp t e) hsz hn0, by rw [List.length_append, List.length_set, List.length_singleton]; omega⟩
                · rcases List.mem_append.mp hm with hm | hm
                  · exact hqr q hm
                  · rw [List.mem_singleton.mp hm]; exact nL2.symm
                · rcases List.mem_append.mp hm with hm | hm
                  · exact hqS' q hm
                  · rw [List.mem_singleton.mp hm]; exact sL2
                · rw [List.getElem?_append_left (List.getElem?_eq_some_iff.mp hqL).1]; exact hqL
          · refine if_neg_of (decide_eq_false cs) ?_
            exact ⟨rfl, stayed⟩
        · rintro σ' H' ⟨rfl, hBI⟩
          exact ⟨_, _, rfl, hBI⟩
      · clear hBI H5 v10 v11
        rintro σ H5 ⟨v10, v11, rfl, ⟨g, P, R, qs', rws, row, A5, hRw, hh, hrl, hq, hqr, hqn, sSR, hqS', hqL, hrL, hrow, htp, hrn⟩⟩
        obtain ⟨bx, hbx, hbs⟩ := own_box hRw hrL
        have e0 : P.hands.getD (0 : Int).toNat none = some ((rows.length : Int) + 1) := by rw [hh]; rfl
        have hrow1 : ([] :: rws)[rows.length + 1]? = some row := hrL
        -- hold(1, 0)
        refine ⟨_, rfl, p, g.dx, _, rfl, A5.hp, pf_no _ _ _ (by decide +kernel) (by decide +kernel) (by decide +kernel), p, P, _, 1, 0, rfl, ⟨⟨g, A5⟩, hRw.wf⟩, fun z => absurd (by decide) z, fun _ z => absurd (by decide) z, fun _ _ r6 H6 hr6 ⟨⟨g6, A6⟩, W6⟩ => ?_⟩
        rw [e0] at A6
        replace A6 := A6.less (same_upd hr6)
        obtain ⟨Rw6, _, h6, _⟩ := hRw.hand (i := 1) (by decide) (x := some ((rows.length : Int) + 1)) (fun n e => ⟨bx, by rw [← Option.some.inj e]; exact hbx⟩) (fun n e => by
          rw [hh] at e
          have e' : tp = some n := e
          have := hRw.points (k := rows.length + 1) (by omega) hrow1 (htp n e')
          omega)
        rw [hh] at h6
        have h6' : (ptHand P 1 (some ((rows.length : Int) + 1))).1.hands = hd4 (some ((rows.length : Int) + 1)) (some ((rows.length : Int) + 1)) none kept := h6
        replace A6 : PileAt C B p g6 (ptHand P 1 (some ((rows.length : Int) + 1))).1 _ H6 := A6
        generalize (ptHand P 1 (some ((rows.length : Int) + 1))).1 = P6 at A6 Rw6 h6'
        clear h6 W6 A5 hbx hbs e0
        -- drop(0)
        refine ⟨_, rfl, p, g6.dx, _, rfl, A6.hp, pf_no _ _ _ (by decide +kernel) (by decide +kernel) (by decide +kernel), p, P6, _, 0, rfl, ⟨⟨g6, A6⟩, Rw6.wf⟩, fun z => absurd (by decide) z, fun _ r7 H7 hr7 ⟨⟨g7, A7⟩, W7⟩ => ?_⟩
        replace A7 := A7.less (same_upd hr7)
        obtain ⟨Rw7, _, h7, _⟩ := Rw6.hand (i := 0) (by decide) (x := none) (fun n e => by cases e) (fun n e => by
          rw [h6'] at e
          have e' : (rows.length : Int) + 1 = n := Option.some.inj e
          rw [h6', ← e']
          have : 0 < cnt ((hd4 (some ((rows.length : Int) + 1)) (some ((rows.length : Int) + 1)) none kept).set 0 none) ((rows.length : Int) + 1) := by
            show 0 < cnt [none, some ((rows.length : Int) + 1), none, kept, none, none, none, none] ((rows.length : Int) + 1)
            rw [cnt_cons, cnt_cons]
            simp [one]
            omega
          omega)
        rw [h6'] at h7
        have h7' : (ptHand P6 0 none).1.hands = hd4 none (some ((rows.length : Int) + 1)) none kept := h7
        replace A7 : PileAt C B p g7 (ptHand P6 0 none).1 _ H7 := A7
        generalize (ptHand P6 0 none).1 = P7 at A7 Rw7 h7'
        clear h7 W7 A6 Rw6 h6'
        -- rooms[0] = mine
        refine ⟨_, rfl, _, rfl, rl, _, _, 0, rfl, rfl, A7.same _ _ hrl, ixN_int (by decide) (by rw [List.length_cons]; omega), ?_⟩
        have A8 := A7.set (a := rl) (o := .lst (oV (some ((rows.length : Int) + 1)) :: qs'.map V.ref)) hrl
        rw [show ((oV tp :: qs'.map V.ref).set 0 (V.int mi)) = oV (some ((rows.length : Int) + 1)) :: qs'.map V.ref from by rw [hmi']; rfl]
        generalize upd H7 rl (.lst (oV (some ((rows.length : Int) + 1)) :: qs'.map V.ref)) = H8 at A8 ⊢
        have hq8 : RoomsL (upd R rl (.lst (oV (some ((rows.length : Int) + 1)) :: qs'.map V.ref))) qs' rws := hq.more fun q hm o e => by rw [upd_ne (hqr q hm)]; exact e
        have s8 : Same S (upd R rl (.lst (oV (some ((rows.length : Int) + 1)) :: qs'.map V.ref))) := fun b o e => by rw [upd_ne (ne_of_none e srl)]; exact sSR _ _ e
        have hrl8 : upd R rl (.lst (oV (some ((rows.length : Int) + 1)) :: qs'.map V.ref)) rl = some (.lst (oV (some ((rows.length : Int) + 1)) :: qs'.map V.ref)) := upd_same
        generalize upd R rl (.lst (oV (some ((rows.length : Int) + 1)) :: qs'.map V.ref)) = R8 at A8 hq8 s8 hrl8
        have hrn' : rws.length ≤ 3 * (i + 1) := by omega
        -- kept
        refine ⟨_, ?_, fun σ' H' h => h⟩
        refine ⟨fun b H' => H' = H8 ∧ (b = true → kept = none ∧ kp = (i : Int)), ?_, ?_⟩
        · refine ⟨_, rfl, _, rfl, rfl, _, rfl, ?_⟩
          by_cases ck : V.int (0 + (i : Int)) = V.int kp
          · refine if_pos_of (decide_eq_true ck) ?_
            have eki : kp = (i : Int) := by
              injection ck with ck
              omega
            refine ⟨_, rfl, a, ns, 1, rfl, (s8.trans A8.same).seq hS, _, rfl, _, _, rfl, rfl, ⟨by omega, by omega⟩, _, _, rfl, rfl, (by show (0 : Int) < 2; decide), ?_⟩
            refine ⟨rfl, _, rfl, rfl, fun _ => ⟨?_, eki⟩⟩
            cases kept with
            | none => rfl
            | some n =>
              have := hkp n rfl
              omega
          · refine if_neg_of (decide_eq_false ck) ?_
            exact ⟨rfl, fun z => by cases z⟩
        rintro b H9 ⟨rfl, hb⟩
        cases b with
        | true =>
          refine iteT ?_
          obtain ⟨rfl, hki⟩ := hb rfl
          have e1 : P7.hands.getD (1 : Int).toNat none = some ((rows.length : Int) + 1) := by rw [h7']; rfl
          refine ⟨_, rfl, p, g7.dx, _, rfl, A8.hp, pf_no _ _ _ (by decide +kernel) (by decide +kernel) (by decide +kernel), p, P7, _, 3, 1, rfl, ⟨⟨g7, A8⟩, Rw7.wf⟩, fun z => absurd (by decide) z, fun _ z => absurd (by decide) z, fun _ _ rA HA hrA ⟨⟨gA, AA⟩, WA⟩ => ?_⟩
          rw [e1] at AA
          obtain ⟨RwA, _, hA, _⟩ := Rw7.hand (i := 3) (by decide) (x := some ((rows.length : Int) + 1)) (fun n e => Rw7.wf.hand (by rw [← e]; exact e1)) (fun n e => by
            rw [h7'] at e
            exact absurd e (by intro z; cases z))
          rw [h7'] at hA
          exact ⟨gA, _, R8, qs', rws, some ((rows.length : Int) + 1), some ((rows.length : Int) + 1), _, _, _, _, _, _, _, rfl, AA.less (same_upd hrA), RwA, hA, hrl8, hq8, hqr, hqn, s8, hqS', hrn', fun z => absurd z (Nat.succ_ne_zero i), fun _ => ⟨_, rfl⟩, fun n _ => by rw [hki]; omega⟩
        | false =>
          refine iteF ?_
          exact ⟨g7, P7, R8, qs', rws, some ((rows.length : Int) + 1), kept, _, _, _, _, _, _, _, rfl, A8, Rw7, h7', hrl8, hq8, hqr, hqn, s8, hqS', hrn', fun z => absurd z (Nat.succ_ne_zero i), fun _ => ⟨_, rfl⟩, fun n e => by have := hkp n e; omega⟩
    · clear hh hRw A sSR hrl R g P0
      rintro σ H1 ⟨g, P0, R, qs, rows, tp, kept, v5, v6, v7, v8, v9, v10, v11, rfl, A, hRw, hh, hrl, hq, hqr, hqn, sSR, hqS, hrows, ht0, ht1, hkp⟩
      obtain ⟨t, rfl⟩ := ht1 (by omega)
      refine ⟨_, rfl, p, g.dx, _, rfl, A.hp, pf_no _ _ _ (by decide +kernel) (by decide +kernel) (by decide +kernel), p, g, P0, _, 3, rfl, A, (by rw [hh]; rfl), fun z => absurd (by decide) z, fun _ => ?_⟩
      rw [hh]
      exact k g P0 R H1 qs rows t kept A hRw hh hrl hq hqr sSR (by omega)
theorem fall_nd {bs : List (Int × Bx)} (w : List (Option Int)) (x : Option Int) (h : (keys bs).Nodup) : (keys (fall bs w x).1).Nodup ∧ (fall bs w x).2.2.length + (fall bs w x).1.length = bs.length := by
  refine ⟨by rw [fall_keys]; exact h.filter _, ?_⟩
  cases x with
  | none => exact Nat.zero_add _
  | some n =>
    cases e : get bs n with
    | none => rw [fall_gone w e]; exact Nat.zero_add _
    | some b =>
      by_cases c : b.wt = 1
      · rw [fall_free w e c]
        have := rm_len h e
        show 1 + (rm bs n).length = _
        omega
      · rw [fall_low w e c]
        show 0 + (chg bs n low).length = _
        rw [len_chg, Nat.zero_add]
theorem go_len : ∀ (m : Nat) {bs : List (Int × Bx)} {w : List (Option Int)}, (keys bs).Nodup → (go m bs w).2.length + (go m bs w).1.length = bs.length
  | 0, bs, w, _ => Nat.zero_add _
  | m + 1, bs, [], _ => Nat.zero_add _
  | m + 1, bs, x :: w, h => by
    obtain ⟨h1, h2⟩ := fall_nd w x h
    have ih := go_len m (w := (fall bs w x).2.1) h1
    show ((fall bs w x).2.2 ++ (go m (fall bs w x).1 (fall bs w x).2.1).2).length + (go m (fall bs w x).1 (fall bs w x).2.1).1.length = _
    rw [List.length_append]
    omega
theorem RoomsL.cons {H : Hp} {qs : List Addr} {rows : List (List (Option Int))} (h : RoomsL H qs rows) {L : Addr} {row : List (Option Int)} (hL : H L = some (.lst (lV row))) : RoomsL H (L :: qs) (row :: rows) :=
  ⟨by rw [List.length_cons, List.length_cons, h.n], fun j q e => by
    cases j with
    | zero =>
      have : L = q := Option.some.inj e
      subst this
      exact ⟨row, rfl, hL⟩
    | succ j => exact h.at_ j q e⟩
/-- a list that came beside is known -/
theorem PileAt.know {C B p : Addr} {g : Geo} {P : Pl} {R H H' : Hp} (A : PileAt C B p g P R H) {r : Addr} {o : HO} (hr : H r = none) (s : Same H H') (e : H' r = some o) : PileAt C B p g P (upd R r o) H' :=
  (A.new (o := o) hr).grow fun b u h => by
    by_cases q : b = r
    · subst q
      rw [upd_same] at h
      rw [← h]
      exact e
    · rw [upd_ne q] at h
      exact s _ _ h
theorem scLaw : FnScope nLaw ["_law_script"] (defScope sLaw) := ⟨rfl, rfl, rfl, by decide +kernel, rfl, by decide +kernel, by decide +kernel⟩
theorem ok_law {f fI fM fO fR fU fH fT fG fA fX fY fP fL fB fK fW fN fD fJ fV fE fCS : Addr} {fd dI dM dO dR dU dH dT dG dA dX dY dP dL dB dK dW dN dD dJ dV dE dCS : FuncData} (F : Fun K "law" "law" sLaw f fd) (T : Txt K mg C B eH eS eF eB eL) (TL : TxtL mg) (D : Defs K mg C B fI fM fO fR fU fH fT fG fA fX fY fP fL fB fK fW fN fD fJ fV fE fCS dI dM dO dR dU dH dT dG dA dX dY dP dL dB dK dW dN dD dJ dV dE dCS) : FnOk P w K mg base CX0 5 f fd ["_law_script"] (spLaw K) := by
  have GI : FnOk P w K mg base CX0 1 fI dI ["self"] (spInit C B) := ok_init D.FI T
  have GM : FnOk P w K mg base (L2.CX P w) 3 fM dM ["self", "hand", "size"] (spMake C B eH eS eF) := ok_make D.FM T D.FL D.bL D.mL D.FP D.bP D.mP D.MB D.FB D.bB D.FK D.bK D.gK
  have GR : FnOk P w K mg base (L2.CX P w) 3 fR dR ["self", "hand"] (spDrop C B eH) := ok_drop D.FR T D.FL D.bL D.mL D.FP D.bP D.mP D.FK D.bK D.gK
  have GT : FnOk P w K mg base (L2.CX P w) 2 fT dT ["self", "number"] (spPoints C B eB) := ok_points D.FT T D.FX D.bX D.mX
  have GG : FnOk P w K mg base (L2.CX P w) 2 fG dG ["self", "number"] (spWeighs C B eB) := ok_weighs D.FG T D.FX D.bX D.mX
  have GA : FnOk P w K mg base CX0 1 fA dA ["self"] (spAlive C B) := ok_alive D.FA T
  have GW : FnOk P w K mg base CX0 1 fW dW ["_law_found"] spWhole := ok_whole D.FW TL
  have GN : FnOk P w K mg base CX0 2 fN dN ["_law_found", "_law_due"] spNums := ok_nums D.FN TL D.FW D.bW D.gW
  have GD : FnOk P w K mg base CX0 1 fD dD ["_law_script", "_law_k"] (spCellAt K) := ok_cellat D.FD TL
  have GJ : FnOk P w K mg base CX0 4 fJ dJ ["_law_pile", "_law_script", "_law_rooms", "_law_many"] (spBuilt K C B) := ok_built D.FJ T TL D
  have GV : FnOk P w K mg base CX0 1 fV dV ["_law_rooms"] spWeights := ok_weights D.FV TL
  have GE : FnOk P w K mg base CX0 1 fE dE ["_law_rooms", "_law_weights_here", "_law_first"] spFallen := ok_fallen D.FE TL
  refine F.ok scLaw (fun vs H Q E h => ?_) (fun cdv A outer s H vs Q E hr h => ?_)
  · obtain ⟨a, ns, rfl, _⟩ := h
    rfl
  · obtain ⟨a, ns, rfl, hS, hlen, k⟩ := h
    have nd := scLaw.nd
    have hr1 : Room 1 _ := hr.mono (by decide)
    have hr2 : Room 2 _ := hr.mono (by decide)
    have hr3 : Room 3 _ := hr.mono (by decide)
    have hr4 : Room 4 _ := hr
    refine ⟨_, (pss_cons (ps_set (i := 1) nd rfl (Or.inl rfl) (pe_make0 D.MC GI hr2 (by rfl) T.mgC D.bI .nil pass0))
      (pss_cons (ps_set (i := 2) nd rfl (Or.inl rfl) (pe_op op_add pe_int (pe_op op_mod (pe_call GD hr1 (by rfl) D.gD D.FD.kp D.bD .nil pass0 (pa_cons (pv 0) (pa_cons pe_int pa_nil))) pe_int)))
      (pss_cons (ps_set (i := 3) nd rfl (Or.inl rfl) (pe_lst (pa_cons pe_non pa_nil)))
      (pss_cons (ps_expr (pe_meth (pv 1) T.clC D.mM GM hr3 D.bM .nil passL (pa_cons pe_int (pa_cons pe_int pa_nil))))
      (pss_cons (ps_expr (pe_meth (pv 1) T.clC D.mR GR hr3 D.bR .nil passL (pa_cons pe_int pa_nil)))
      (pss_cons (ps_set (i := 4) nd rfl (Or.inl rfl) (pe_call GJ hr4 (by rfl) D.gJ D.FJ.kp D.bJ .nil pass0 (pa_cons (pv 1) (pa_cons (pv 0) (pa_cons (pv 3) (pa_cons (pv 2) pa_nil))))))
      (pss_cons (ps_set (i := 5) nd rfl (Or.inl rfl) (pe_ix ix_list (pv 3) pe_int (fun _ _ => rfl)))
      (pss_cons (ps_asg (pe_lst pa_nil) (pg_sub (pv 3) pe_int set_list))
      (pss_cons (ps_set (i := 6) nd rfl (Or.inl rfl) (pe_call GV hr1 (by rfl) D.gV D.FV.kp D.bV .nil pass0 (pa_cons (pv 3) pa_nil)))
      (pss_cons (ps_asg (pe_op op_add (pe_ix ix_list (pv 6) (pv 5) (fun _ _ => rfl)) pe_int) (pg_sub (pv 6) (pv 5) set_list))
      (pss_cons (ps_mid (ps_if (pt_cmp (pc_notN (pv 4))) (pss_cons (ps_if (pt_not (pt_val (pe_call GW hr1 (by rfl) D.gW D.FW.kp D.bW .nil pass0 (pa_cons (pv 4) pa_nil)))) (pss_one (ps_ret pe_bl)) pss_nil)
      (pss_one (ps_asg (pe_op op_add (pe_ix ix_list (pv 6) (pv 4) (fun _ _ => rfl)) pe_int) (pg_sub (pv 6) (pv 4) set_list)))) pss_nil))
      (pss_cons (ps_set (i := 7) nd rfl (Or.inr rfl) (pe_call GE hr1 (by rfl) D.gE D.FE.kp D.bE .nil pass0 (pa_cons (pv 3) (pa_cons (pv 6) (pa_cons (pv 5) pa_nil)))))
      (pss_cons (ps_if (pt_not (pt_val (pe_call GN hr2 (by rfl) D.gN D.FN.kp D.bN .nil pass0 (pa_cons (pe_meth (pv 1) T.clC D.mR GR hr3 D.bR .nil passL (pa_cons pe_int pa_nil)) (pa_cons (pv 7) pa_nil))))) (pss_one (ps_ret pe_bl)) pss_nil)
      (pss_cons (ps_setLc (i := 8) (own := [("_law_number", 9)]) (g := gName 9) (tt := tTest (tOp (rIn K true) (tVar 9) (tVar 7))) (te := tVar 9) (by rfl) nd rfl rfl (sw_true rfl rfl rfl (by decide +kernel)) (pi_range2 (by rfl) TL.range (pa_cons pe_int (pa_cons (pe_callB call_len_seq (by rfl) TL.len PySem.boot_len (pa_cons (pv 3) pa_nil)) pa_nil))) (blkOk_by (N := nLaw) (sc := defScope sLaw) (by decide +kernel)) (fun _ _ _ _ _ => pg_name (i := 9) nd rfl (Or.inl rfl)) (fun _ _ _ _ _ => pts_one (pt_cmpR op_notIn_seq (pv 9) (pv 7) (by rfl))) (fun _ _ _ _ _ => pv 9))
      (pss_cons (ps_if (pt_not (pt_val (pe_call GN hr2 (by rfl) D.gN D.FN.kp D.bN .nil pass0 (pa_cons (pe_meth0 (pv 1) T.clC D.mA GA hr1 D.bA .nil pass0) (pa_cons (pv 8) pa_nil))))) (pss_one (ps_ret pe_bl)) pss_nil)
      (pss_cons (ps_for PassesOwn.never rfl (pi_list (pv 8)) (pg_name (i := 9) nd rfl (Or.inl rfl))
      (pss_one (ps_if (PW.pt (pw_or (pt_cmpR op_ne (pe_meth (pv 1) T.clC D.mG GG hr2 D.bG .nil passL (pa_cons (pv 9) pa_nil)) (pe_ix ix_list (pv 6) (pv 9) (fun _ _ => rfl)) (nomark _)) (pw_or1 (pt_not (pt_val (pe_call GN hr2 (by rfl) D.gN D.FN.kp D.bN .nil pass0 (pa_cons (pe_meth (pv 1) T.clC D.mT GT hr2 D.bT .nil passL (pa_cons (pv 9) pa_nil)) (pa_cons (pe_ix ix_list (pv 3) (pv 9) (fun _ _ => rfl)) pa_nil)))))))) (pss_one (ps_ret pe_bl)) pss_nil)))
      (pss_one (ps_ret pe_bl)))))))))))))))))), ?_⟩
    -- the pile
    intro x dx nx ndx nex
    refine ⟨H, x, dx, rfl, fun b o e => by rw [upd_ne (ne_of_none e nx), upd_ne (ne_of_none e ndx)]; exact e, nx, upd_same, fun g1 H1 A1 => ⟨rfl, ?_⟩⟩
    have c0 : 0 ≤ ns.getD 0 0 % 18 := Int.emod_nonneg _ (by decide)
    have c18 : ns.getD 0 0 % 18 < 18 := Int.emod_lt_of_pos _ (by decide)
    obtain ⟨many, emany⟩ : ∃ many : Nat, (many : Int) = 1 + ns.getD 0 0 % 18 := ⟨(1 + ns.getD 0 0 % 18).toNat, by omega⟩
    refine ⟨_, rfl, a, ns, 0, rfl, A1.same.seq hS, _, _, rfl, rfl, (by show (0 : Int) < 18; decide), _, _, rfl, rfl, ?_⟩
    refine ⟨(by show 1 ≤ sizeLine; decide), fun rl hrl => ?_⟩
    have rrl : H rl = none := A1.same.free hrl
    have A2 := A1.new (o := .lst [.non]) hrl
    -- a box made and let go
    refine ⟨_, rfl, x, g1.dx, _, rfl, A2.hp, pf_no _ _ _ (by decide +kernel) (by decide +kernel) (by decide +kernel), x, pl0, _, 0, 0, rfl, ⟨⟨g1, A2⟩, wf0⟩, fun z => absurd (by decide) z, fun _ z => absurd (by decide) z, fun _ _ z => absurd z (by decide), fun _ _ _ r3 H3 hr3 ⟨⟨g3, A3⟩, W3⟩ => ?_⟩
    refine ⟨_, rfl, x, g3.dx, _, rfl, A3.hp, pf_no _ _ _ (by decide +kernel) (by decide +kernel) (by decide +kernel), x, _, _, 0, rfl, ⟨⟨g3, A3⟩, W3⟩, fun z => absurd (by decide) z, fun _ r4 H4 hr4' ⟨⟨g4, A4⟩, W4⟩ => ?_⟩
    replace A4 := (A4.less (same_upd hr4')).less (same_upd hr3)
    obtain ⟨Rw4, hh4⟩ := rows0
    replace A4 : PileAt C B x g4 (ptHand (BP.mk pl0 0 0).1 0 none).1 _ H4 := A4
    -- built
    refine ⟨_, rfl, _, rfl, _, rfl, _, rfl, x, a, rl, many, g4, _, _, H, ns, (by rw [emany]; rfl), A4, Rw4, hh4, upd_same, same_upd rrl, rrl, hS, by omega, by omega, fun g5 P5 R5 H5 qs rows t kept A5 Rw5 h5 hrl5 hq5 hqr5 s5 hn5 => ?_⟩
    clear A4 Rw4 hh4 W4 W3 A3 A2 hr4' hr3 A1 hrl
    refine ⟨_, rfl, rl, _, _, _, rfl, rfl, SqL.of (A5.same _ _ hrl5), at_of (j := 0) rfl rfl, ?_⟩
    refine ⟨(by show 0 ≤ sizeLine; decide), fun L0 hL0 => ?_⟩
    have A6 := A5.new (o := .lst ([] : List V)) hL0
    have rL0 := A5.same.free hL0
    have nrL0 : rl ≠ L0 := ne_of_none hrl5 rL0
    have hrl6 : upd R5 L0 (.lst ([] : List V)) rl = some (.lst (.int t :: qs.map V.ref)) := by rw [upd_ne nrL0]; exact hrl5
    refine ⟨_, rfl, rl, _, _, 0, rfl, rfl, A6.same _ _ hrl6, ixN_int (by decide) (by rw [List.length_cons]; omega), ?_⟩
    have A7 := A6.set (a := rl) (o := .lst ((L0 :: qs).map V.ref)) hrl6
    rw [show ((V.int t :: qs.map V.ref).set 0 (V.ref L0)) = (L0 :: qs).map V.ref from rfl]
    generalize upd (upd H5 L0 (.lst ([] : List V))) rl (.lst ((L0 :: qs).map V.ref)) = H7 at A7 ⊢
    have nq0 : ∀ q ∈ qs, q ≠ L0 := fun q hm => by
      obtain ⟨j, hj, e⟩ := List.mem_iff_getElem.mp hm
      obtain ⟨r, _, e2⟩ := hq5.at_ j q (by rw [List.getElem?_eq_getElem hj, e])
      exact ne_of_none e2 rL0
    have hq7 : RoomsL (upd (upd R5 L0 (.lst ([] : List V))) rl (.lst ((L0 :: qs).map V.ref))) (L0 :: qs) ([] :: rows) :=
      (hq5.more fun q hm o e => by rw [upd_ne (hqr5 q hm), upd_ne (nq0 q hm)]; exact e).cons (by rw [upd_ne nrL0.symm, upd_same]; rfl)
    have hrl7 : upd (upd R5 L0 (.lst ([] : List V))) rl (.lst ((L0 :: qs).map V.ref)) rl = some (.lst ((L0 :: qs).map V.ref)) := upd_same
    have hqr7 : ∀ q ∈ L0 :: qs, q ≠ rl := fun q hm => by
      rcases List.mem_cons.mp hm with rfl | hm
      · exact nrL0.symm
      · exact hqr5 q hm
    generalize upd (upd R5 L0 (.lst ([] : List V))) rl (.lst ((L0 :: qs).map V.ref)) = R7 at A7 hq7 hrl7
    generalize L0 :: qs = qs7 at hq7 hrl7 hqr7
    clear A6 A5 hrl6 hrl5 hq5 hqr5 nq0 nrL0 rL0 hL0 s5 L0 qs
    -- what is there
    have W5 := Rw5.wf
    have hl5 : ([] :: rows).length = rows.length + 1 := List.length_cons
    have bound : ∀ n b, get P5.boxes n = some b → 1 ≤ n ∧ n < (([] :: rows).length : Int) := fun n b e => (Rw5.ks n).mp (get_keys.mp ⟨b, e⟩)
    have inrow : ∀ row ∈ ([] :: rows : List (List (Option Int))), ∀ n, some n ∈ row → ∃ b, get P5.boxes n = some b := fun row hm n hn => by
      obtain ⟨j, hj, e⟩ := List.mem_iff_getElem.mp hm
      cases j with
      | zero =>
        have e' : [] = row := e
        rw [← e'] at hn
        cases hn
      | succ j =>
        have := Rw5.points (k := j + 1) (by omega) (by rw [List.getElem?_eq_getElem hj, e]) hn
        exact W5.cl n (by omega)
    obtain ⟨bt, hbt⟩ := W5.hand (i := 1) (n := t) (by rw [h5]; rfl)
    obtain ⟨t1, t2⟩ := bound t bt hbt
    -- weights
    refine ⟨_, rfl, rl, qs7, [] :: rows, rfl, A7.same _ _ hrl7, hq7.more fun q _ o e => A7.same _ _ e, fun row hm n hn => ?_, by omega, fun L1 hL1 => ?_⟩
    · obtain ⟨b, hb⟩ := inrow row hm n hn
      have := bound n b hb
      omega
    have nrL1 : rl ≠ L1 := ne_of_none (A7.same _ _ hrl7) hL1
    have hw : ((Wt ([] :: rows) ([] :: rows).length).map V.int)[t.toNat]? = some (V.int ((tot ([] :: rows) t : Nat) : Int)) := by rw [List.getElem?_map, Wt_get (by omega) t2]; rfl
    have lenW : ∀ rs : List (List (Option Int)), ((Wt rs ([] :: rows).length).map V.int).length = rows.length + 1 := fun rs => by rw [List.length_map, Wt_len, hl5]
    refine ⟨_, rfl, _, rfl, L1, _, _, _, rfl, rfl, SqL.of upd_same, at_of (j := t.toNat) (by omega) hw, _, _, rfl, rfl, _, rfl, _, rfl, L1, _, _, _, rfl, rfl, upd_same, ixN_int (by omega) (by rw [lenW]; omega), ?_⟩
    rw [upd_upd, ← List.map_set, Wt_more (by omega) t2 (b := ([] :: rows) ++ [[some t]]) fun m => by rw [tot_append, tot_cons [some t], tot_nil, cnt_cons, cnt_nil] <;> rfl]
    -- the kept one counts too
    refine ⟨fun σ' H' => σ' = [some (.ref a), some (.ref x), some (.int (1 + ns.getD 0 0 % 18)), some (.ref rl), some (oV kept), some (.int t), some (.ref L1), none, none, none] ∧ H' = upd H7 L1 (.lst ((Wt (([] :: rows) ++ [[some t]] ++ [[kept]]) ([] :: rows).length).map V.int)), ?_, ?_⟩
    · refine ⟨_, rfl, _, rfl, ?_⟩
      cases kept with
      | none =>
        refine if_neg_of (by show (!decide (V.non = V.non)) = false; rw [decide_eq_true rfl]; rfl) ?_
        exact ⟨rfl, by rw [Wt_congr (a := ([] :: rows) ++ [[some t]] ++ [[none]]) (b := ([] :: rows) ++ [[some t]]) fun n => by rw [tot_append _ [[none]], tot_cons [none], tot_nil, cnt_cons, cnt_nil]; simp [one]]⟩
      | some n =>
        refine if_pos_of (by show (!decide (V.int n = V.non)) = true; rw [decide_eq_false (by intro z; cases z)]; rfl) ?_
        obtain ⟨bn, hbn⟩ := W5.hand (i := 3) (n := n) (by rw [h5]; rfl)
        obtain ⟨n1, n2⟩ := bound n bn hbn
        refine ⟨_, rfl, n, rfl, _, rfl, ?_⟩
        refine iteF ?_
        have hw2 : ((Wt (([] :: rows) ++ [[some t]]) ([] :: rows).length).map V.int)[n.toNat]? = some (V.int ((tot (([] :: rows) ++ [[some t]]) n : Nat) : Int)) := by rw [List.getElem?_map, Wt_get (by omega) n2]; rfl
        refine ⟨_, rfl, _, rfl, L1, _, _, _, rfl, rfl, SqL.of upd_same, at_of (j := n.toNat) (by omega) hw2, _, _, rfl, rfl, _, rfl, _, rfl, L1, _, _, _, rfl, rfl, upd_same, ixN_int (by omega) (by rw [lenW]; omega), ?_⟩
        rw [upd_upd, ← List.map_set, Wt_more (by omega) n2 (b := ([] :: rows) ++ [[some t]] ++ [[some n]]) fun m => by rw [tot_append _ [[some n]], tot_cons [some n], tot_nil, cnt_cons, cnt_nil] <;> rfl]
        exact ⟨rfl, rfl⟩
    rintro σ' H8 ⟨rfl, rfl⟩
    obtain ⟨W3, eW3⟩ : ∃ W3, W3 = Wt (([] :: rows) ++ [[some t]] ++ [[kept]]) ([] :: rows).length := ⟨_, rfl⟩
    have lW3 : W3.length = rows.length + 1 := by rw [eW3, Wt_len, hl5]
    have A8 := A7.new (o := .lst (W3.map V.int)) hL1
    have rL1 := A7.same.free hL1
    rw [← eW3]
    have hW3 : upd H7 L1 (.lst (W3.map V.int)) L1 = some (.lst (W3.map V.int)) := upd_same
    have rW3 : upd R7 L1 (.lst (W3.map V.int)) L1 = some (.lst (W3.map V.int)) := upd_same
    have hrl8 : upd R7 L1 (.lst (W3.map V.int)) rl = some (.lst (qs7.map V.ref)) := by rw [upd_ne nrL1]; exact hrl7
    have nqL1 : ∀ q ∈ qs7, q ≠ L1 := fun q hm => by
      obtain ⟨j, hj, e⟩ := List.mem_iff_getElem.mp hm
      obtain ⟨r, _, e2⟩ := hq7.at_ j q (by rw [List.getElem?_eq_getElem hj, e])
      exact ne_of_none e2 rL1
    have hq8 : RoomsL (upd R7 L1 (.lst (W3.map V.int))) qs7 ([] :: rows) := hq7.more fun q hm o e => by rw [upd_ne (nqL1 q hm)]; exact e
    generalize upd R7 L1 (.lst (W3.map V.int)) = R8 at A8 hrl8 hq8 rW3
    generalize upd H7 L1 (.lst (W3.map V.int)) = H8 at A8 hW3 ⊢
    clear hq7 hrl7 A7 hL1 rL1 hw
    -- what falls
    have hg1 : P5.hands.getD 1 none = some t := by rw [h5]; rfl
    have pre := W5.pre (x := none) fun n e => (nomatch e)
    have WS : Wf { P5 with hands := P5.hands.set 1 none } [some t] := by
      have := pre.hand (i := 1) (by decide)
      rw [hg1] at this
      exact this
    have told : Told P5.boxes W3 := fun n b hb => by
      obtain ⟨n1, n2⟩ := bound n b hb
      refine ⟨by omega, ?_⟩
      rw [eW3, Wt_get (by omega) n2]
      have e1 := (W5.wt n b hb).1
      rw [e1, Rw5.scnt, h5]
      have e2 : cnt (hd4 none (some t) none kept) n = one (some t) n + one kept n := by
        unfold hd4
        rw [cnt_cons, cnt_cons, cnt_cons, cnt_cons, cnt_cons, cnt_cons, cnt_cons, cnt_cons, cnt_nil]
        simp [one]
      have e3 : tot (([] :: rows) ++ [[some t]] ++ [[kept]]) n = tot ([] :: rows).tail n + (one (some t) n + one kept n) := by
        rw [tot_append _ [[kept]], tot_append, tot_cons [], tot_cons [some t], tot_cons [kept], tot_nil, cnt_cons, cnt_cons, cnt_nil]
        show 0 + tot rows n + _ + _ = tot rows n + _
        omega
      rw [e2, e3, cnt_nil]
      congr 2
      omega
    have slots5 : ∀ n b, get P5.boxes n = some b → ([] :: rows : List (List (Option Int)))[n.toNat]? = some b.slots := fun n b hb => by
      obtain ⟨n1, n2⟩ := bound n b hb
      obtain ⟨b', hb', e⟩ := Rw5.get n1 n2
      have : b' = b := Option.some.inj (hb'.symm.trans hb)
      rw [← this]
      exact e
    refine ⟨_, rfl, _, rfl, _, rfl, rl, L1, t, [], qs7, [] :: rows, W3, { P5 with hands := P5.hands.set 1 none }, rfl, A8.same _ _ hrl8, hq8.more fun q _ o e => A8.same _ _ e, hW3, nrL1, nqL1, WS, told, slots5, by omega, fun r H9 W9 hr9 s9 hH9 told9 => ?_⟩
    have nr1 : L1 ≠ r := ne_of_none hW3 hr9
    have r8r : R8 r = none := A8.same.free hr9
    obtain ⟨due, edue⟩ : ∃ due, due = (run P5.boxes [some t]).2 := ⟨_, rfl⟩
    have ldue : due.length + (run P5.boxes [some t]).1.length = P5.boxes.length := by rw [edue]; exact go_len _ W5.nd
    have few5 := W5.few
    have A9 : PileAt C B x g5 P5 (upd (upd R8 L1 (.lst (W9.map V.int))) r (.lst (due.map V.int))) H9 := (A8.set (a := L1) (o := .lst (W9.map V.int)) rW3).know (r := r) (by rw [upd_ne nr1.symm]; exact hr9) s9 (by rw [edue]; exact hH9)
    have hrl9 : upd (upd R8 L1 (.lst (W9.map V.int))) r (.lst (due.map V.int)) rl = some (.lst (qs7.map V.ref)) := by rw [upd_ne (ne_of_none hrl8 r8r), upd_ne nrL1]; exact hrl8
    have rW9 : upd (upd R8 L1 (.lst (W9.map V.int))) r (.lst (due.map V.int)) L1 = some (.lst (W9.map V.int)) := by rw [upd_ne nr1, upd_same]
    have rr9 : upd (upd R8 L1 (.lst (W9.map V.int))) r (.lst (due.map V.int)) r = some (.lst (due.map V.int)) := upd_same
    have hq9 : RoomsL (upd (upd R8 L1 (.lst (W9.map V.int))) r (.lst (due.map V.int))) qs7 ([] :: rows) := hq8.more fun q hm o e => by rw [upd_ne (ne_of_none e r8r), upd_ne (nqL1 q hm)]; exact e
    generalize upd (upd R8 L1 (.lst (W9.map V.int))) r (.lst (due.map V.int)) = R9 at A9 hrl9 rW9 rr9 hq9
    clear A8 hrl8 hq8 rW3 hW3 hr9 s9 hH9 r8r
    -- drop(1)
    refine ⟨_, rfl, x, g5.dx, _, rfl, A9.hp, pf_no _ _ _ (by decide +kernel) (by decide +kernel) (by decide +kernel), x, P5, _, 1, rfl, ⟨⟨g5, A9⟩, W5⟩, fun z => absurd (by decide) z, fun _ r2 H10 hr2 ⟨⟨g10, A10⟩, W10⟩ => ?_⟩
    have ef : (ptHand P5 (1 : Int).toNat none).2 = due := by
      show (run (bumped P5.boxes none) [P5.hands.getD 1 none]).2 = due
      rw [hg1, edue]
      rfl
    have eb : (ptHand P5 (1 : Int).toNat none).1.boxes = (run P5.boxes [some t]).1 := by
      show (run (bumped P5.boxes none) [P5.hands.getD 1 none]).1 = _
      rw [hg1]
      rfl
    rw [ef] at A10
    generalize (ptHand P5 (1 : Int).toNat none).1 = P10 at A10 W10 eb
    have r10r := (same_upd (o := .lst (due.map V.int)) hr2) _ _ rr9
    refine ⟨_, rfl, r2, r, due.map some, rfl, by rw [← lV_int]; exact A10.same _ _ upd_same, by rw [← lV_int]; exact A10.same _ _ r10r, by rw [List.length_map]; omega, _, rfl, ?_⟩
    refine iteF ?_
    replace A10 := A10.less (same_upd hr2)
    clear r10r hr2
    -- alive
    have lq : (qs7.map V.ref).length = rows.length + 1 := by rw [List.length_map, hq9.n, hl5]
    have en : (((qs7.map V.ref).length : Nat) - 1 : Int).toNat = rows.length := by rw [lq]; omega
    refine ⟨_, rfl, rl, _, rfl, .inl (SqL.of (A10.same _ _ hrl9)), 1, _, rfl, ⟨by decide, by decide, by omega, by omega⟩, fun al hal => ?_⟩
    have ral := A10.same.free hal
    refine lc_range (lo := 1) (n := (((qs7.map V.ref).length : Nat) - 1 : Int).toNat) (fun i H' => PileAt C B x g10 P10 (upd R9 al (.lst ((((List.range i).map fun j => ((j : Nat) : Int) + 1).filter fun n => decide (n ∉ due)).map V.int))) H') (A10.new hal) (fun i H' hi A => ?_) (fun H11 A11 => ?_)
    · refine ⟨rfl, _, rfl, _, rfl, r, _, rfl, .inl (SqL.of (A.same _ _ (by rw [upd_ne (ne_of_none rr9 ral)]; exact rr9))), rfl, flat_ints _, _, rfl, ?_⟩
      rw [en] at hi
      rw [List.range_succ, List.map_append, List.filter_append, List.map_append]
      rw [show (1 : Int) + (i : Int) = (i : Int) + 1 from by omega]
      by_cases q : (i : Int) + 1 ∈ due
      · refine if_neg_of (c := !inV (V.int ((i : Int) + 1)) (due.map V.int)) (by rw [inV_ints]; simp [q]) ?_
        have e1 : ([i].map fun j => ((j : Nat) : Int) + 1).filter (fun n => decide (n ∉ due)) = [] := by simp [q]
        rw [e1, List.map_nil, List.append_nil]
        exact A
      · refine if_pos_of (c := !inV (V.int ((i : Int) + 1)) (due.map V.int)) (by rw [inV_ints]; simp [q]) ?_
        have e1 : ([i].map fun j => ((j : Nat) : Int) + 1).filter (fun n => decide (n ∉ due)) = [(i : Int) + 1] := by simp [q]
        refine ⟨_, rfl, _, A.same _ _ upd_same, ?_, ?_⟩
        · rw [List.length_map, sizeLine_eq]
          have h1 := List.length_filter_le (fun n => decide (n ∉ due)) ((List.range i).map fun j => ((j : Nat) : Int) + 1)
          rw [List.length_map, List.length_range] at h1
          omega
        · have := A.set (a := al) (o := .lst ((((List.range i).map fun j => ((j : Nat) : Int) + 1).filter fun n => decide (n ∉ due)).map V.int ++ [V.int ((i : Int) + 1)])) upd_same
          rw [upd_upd] at this
          rw [e1]
          exact this
    rw [en] at A11
    have ek : (((List.range rows.length).map fun j => ((j : Nat) : Int) + 1).filter fun n => decide (n ∉ due)) = keys P10.boxes := by
      have e1 : keys P5.boxes = (List.range rows.length).map fun j => ((j : Nat) : Int) + 1 := by
        have := Rw5.list
        rw [hl5] at this
        exact this
      rw [eb, edue, ← e1]
      exact (go_keys _ _ _).symm
    rw [ek] at A11
    have few10 : P10.boxes.length ≤ 60 := by rw [eb]; omega
    have lk : (keys P10.boxes).length = P10.boxes.length := List.length_map _
    have r11a : upd R9 al (.lst ((keys P10.boxes).map V.int)) al = some (.lst ((keys P10.boxes).map V.int)) := upd_same
    have hrl11 : upd R9 al (.lst ((keys P10.boxes).map V.int)) rl = some (.lst (qs7.map V.ref)) := by rw [upd_ne (ne_of_none hrl9 ral)]; exact hrl9
    have rW11 : upd R9 al (.lst ((keys P10.boxes).map V.int)) L1 = some (.lst (W9.map V.int)) := by rw [upd_ne (ne_of_none rW9 ral)]; exact rW9
    have hq11 : RoomsL (upd R9 al (.lst ((keys P10.boxes).map V.int))) qs7 ([] :: rows) := hq9.more fun q _ o e => (same_upd ral) _ _ e
    generalize upd R9 al (.lst ((keys P10.boxes).map V.int)) = R11 at A11 r11a hrl11 rW11 hq11
    clear A10 A9 hal ral rr9 rW9 hrl9 hq9
    refine ⟨_, rfl, x, g10.dx, _, rfl, A11.hp, pf_no _ _ _ (by decide +kernel) (by decide +kernel) (by decide +kernel), x, g10, P10, _, rfl, A11, W10, fun r3 hr3 => ?_⟩
    have A12 := A11.new (o := .lst ((keys P10.boxes).map V.int)) hr3
    have rr3 := A11.same.free hr3
    refine ⟨_, rfl, r3, al, (keys P10.boxes).map some, rfl, by rw [← lV_int]; exact upd_same, by rw [← lV_int]; exact A12.same _ _ ((same_upd rr3) _ _ r11a), by rw [List.length_map]; omega, _, rfl, ?_⟩
    refine iteF ?_
    replace A12 := A12.less (same_upd rr3)
    clear A11
    generalize upd H11 r3 (.lst ((keys P10.boxes).map V.int)) = H12 at A12 ⊢
    -- each of them
    refine ⟨_, rfl, al, rfl, ⟨_, SqL.of (A12.same _ _ r11a)⟩, for_list (K := K) (a := al) (xs := (keys P10.boxes).map V.int) (fun i σ H' => ∃ v9 : Option V, σ = [some (.ref a), some (.ref x), some (.int (1 + ns.getD 0 0 % 18)), some (.ref rl), some (oV kept), some (.int t), some (.ref L1), some (.ref r), some (.ref al), v9] ∧ PileAt C B x g10 P10 R11 H')
      ⟨none, rfl, A12⟩ (fun i σ H' _ ⟨_, _, A⟩ => SqL.of (A.same _ _ r11a)) ?_ ?_⟩
    · clear A12 H12
      rintro i y σ H12 hi ⟨v9, rfl, A12⟩
      obtain ⟨n, hn, rfl⟩ := ints_at hi
      obtain ⟨b, hb⟩ := get_keys.mpr (List.mem_of_getElem? hn)
      have hb' := hb
      rw [eb] at hb'
      obtain ⟨n0, hw9⟩ := told9 n b hb'
      obtain ⟨c, hc, ecs⟩ := go_slots hb'
      have hsl := slots5 n c hc
      rw [ecs] at hsl
      have hw9' : (W9.map V.int)[n.toNat]? = some (V.int b.wt) := by rw [List.getElem?_map, hw9]; rfl
      obtain ⟨qn, hqn⟩ : ∃ qn, qs7[n.toNat]? = some qn := by
        have := (List.getElem?_eq_some_iff.mp hsl).1
        exact ⟨_, List.getElem?_eq_getElem (by rw [hq11.n]; exact this)⟩
      obtain ⟨rown, hrown, hHn⟩ := hq11.at_ _ _ hqn
      have ern : rown = b.slots := Option.some.inj (hrown.symm.trans hsl)
      rw [ern] at hHn
      have hqv : (qs7.map V.ref)[n.toNat]? = some (V.ref qn) := by rw [List.getElem?_map, hqn]; rfl
      refine ⟨_, rfl, x, g10.dx, _, rfl, A12.hp, pf_no _ _ _ (by decide +kernel) (by decide +kernel) (by decide +kernel), _, rfl, x, g10, P10, _, n, rfl, A12, fun z => absurd (hb.symm.trans z) (by intro z; cases z), fun b2 hb2 => ?_⟩
      have : b2 = b := Option.some.inj (hb2.symm.trans hb)
      subst this
      refine ⟨_, rfl, _, rfl, L1, _, _, _, rfl, rfl, SqL.of (A12.same _ _ rW11), at_of (j := n.toNat) (by omega) hw9', ?_⟩
      refine ⟨rfl, _, rfl, ?_⟩
      refine if_neg_of (by rw [decide_eq_true rfl]; rfl) ?_
      refine ⟨_, rfl, x, g10.dx, _, rfl, A12.hp, pf_no _ _ _ (by decide +kernel) (by decide +kernel) (by decide +kernel), _, rfl, x, g10, P10, _, n, rfl, A12, fun b hb => W10.sl _ _ hb, fun z => absurd (hb.symm.trans z) (by intro z; cases z), fun b3 hb3 r5 hr5 => ?_⟩
      have : b3 = b2 := Option.some.inj (hb3.symm.trans hb)
      subst this
      have A13 := A12.new (o := .lst (lV b3.slots)) hr5
      have rr5 := A12.same.free hr5
      refine ⟨_, rfl, _, rfl, rl, _, _, _, rfl, rfl, SqL.of (A13.same _ _ ((same_upd rr5) _ _ hrl11)), at_of (j := n.toNat) (by omega) hqv, r5, qn, b3.slots, rfl, upd_same, A13.same _ _ ((same_upd rr5) _ _ hHn), (by have := W10.sl _ _ hb; omega), _, rfl, ?_⟩
      refine iteF ?_
      exact ⟨_, rfl, A13.less (same_upd rr5)⟩
    · rintro σ H13 ⟨v9, rfl, A13⟩
      exact k _

end
end BP

namespace BP
open PySem L2
/-! ### what the top has written, the head -/
theorem all_mk {l : PySem.W.OpenLaw} {w : World} {K : PySem.W.Frag} {h : Heap} {mg : Str → Option Value} {fa B C eH eS eF eB eL fI fM fO fR fU fH fT fG fA fX fY fP fL fB fK fW fN fD fJ fV fE fCS fZ : Addr} (X : K.In h) (G : h.Ns mainGlobals mg) (hfa : mg "law" = some (.ref fa))
    {odI anI odM anM odO anO odR anR odU anU odH anH odT anT odG anG odA anA odX anX odY anY odP anP odL anL odB anB odK anK odW anW odN anN odD anD odJ anJ odV anV odE anE odCS anCS odZ anZ : Option Addr} {slI slM slO slR slU slH slT slG slA slX slY slP slL slB slK slW slN slD slJ slV slE slCS slZ : Array (Option Value)} {ocI kVI dcI pmI cdI ctI ocM kVM dcM pmM cdM ctM ocO kVO dcO pmO cdO ctO ocR kVR dcR pmR cdR ctR ocU kVU dcU pmU cdU ctU ocH kVH dcH pmH cdH ctH ocT kVT dcT pmT cdT ctT ocG kVG dcG pmG cdG ctG ocA kVA dcA pmA cdA ctA ocX kVX dcX pmX cdX ctX ocY kVY dcY pmY cdY ctY ocP kVP dcP pmP cdP ctP ocL kVL dcL pmL cdL ctL ocB kVB dcB pmB cdB ctB ocK kVK dcK pmK cdK ctK ocW kVW dcW pmW cdW ctW ocN kVN dcN pmN cdN ctN ocD kVD dcD pmD cdD ctD ocJ kVJ dcJ pmJ cdJ ctJ ocV kVV dcV pmV cdV ctV ocE kVE dcE pmE cdE ctE ocCS kVCS dcCS pmCS cdCS ctCS ocZ kVZ dcZ pmZ cdZ ctZ : Value} {tHANDS tMOST_SLOTS tMOST_ALIVE : Tok}
    (acB : PySem.W.nsIn K mainGlobals "Box" = some (some (.ref B)))
    (acC : PySem.W.nsIn K mainGlobals "Pile" = some (some (.ref C)))
    (aeH : PySem.W.nsIn K mainGlobals "NoHand" = some (some (.ref eH)))
    (aeS : PySem.W.nsIn K mainGlobals "NoSize" = some (some (.ref eS)))
    (aeF : PySem.W.nsIn K mainGlobals "Full" = some (some (.ref eF)))
    (aeB : PySem.W.nsIn K mainGlobals "NoBox" = some (some (.ref eB)))
    (aeL : PySem.W.nsIn K mainGlobals "NoSlot" = some (some (.ref eL)))
    (aI : PySem.W.findIn K (.ref C) "__init__" = some (some (.ref fI)))
    (iI : PySem.W.isFn K (.ref fI) = true)
    (lI : K.lookup fI = some ⟨ocI, odI, .func (PySem.W.fnOf "__init__" "Pile.__init__" (defArgs sInit) (defBody sInit) (defScope sInit) .none kVI dcI pmI anI cdI ctI), slI⟩)
    (cI : PySem.W.codeIn K cdI "Pile.__init__" = true)
    (kI : PySem.W.keepIn K (.ref fI) = true)
    (aM : PySem.W.findIn K (.ref C) "make" = some (some (.ref fM)))
    (iM : PySem.W.isFn K (.ref fM) = true)
    (lM : K.lookup fM = some ⟨ocM, odM, .func (PySem.W.fnOf "make" "Pile.make" (defArgs sMake) (defBody sMake) (defScope sMake) .none kVM dcM pmM anM cdM ctM), slM⟩)
    (cM : PySem.W.codeIn K cdM "Pile.make" = true)
    (kM : PySem.W.keepIn K (.ref fM) = true)
    (aO : PySem.W.findIn K (.ref C) "hold" = some (some (.ref fO)))
    (iO : PySem.W.isFn K (.ref fO) = true)
    (lO : K.lookup fO = some ⟨ocO, odO, .func (PySem.W.fnOf "hold" "Pile.hold" (defArgs sHold) (defBody sHold) (defScope sHold) .none kVO dcO pmO anO cdO ctO), slO⟩)
    (cO : PySem.W.codeIn K cdO "Pile.hold" = true)
    (kO : PySem.W.keepIn K (.ref fO) = true)
    (aR : PySem.W.findIn K (.ref C) "drop" = some (some (.ref fR)))
    (iR : PySem.W.isFn K (.ref fR) = true)
    (lR : K.lookup fR = some ⟨ocR, odR, .func (PySem.W.fnOf "drop" "Pile.drop" (defArgs sDrop) (defBody sDrop) (defScope sDrop) .none kVR dcR pmR anR cdR ctR), slR⟩)
    (cR : PySem.W.codeIn K cdR "Pile.drop" = true)
    (kR : PySem.W.keepIn K (.ref fR) = true)
    (aU : PySem.W.findIn K (.ref C) "put" = some (some (.ref fU)))
    (iU : PySem.W.isFn K (.ref fU) = true)
    (lU : K.lookup fU = some ⟨ocU, odU, .func (PySem.W.fnOf "put" "Pile.put" (defArgs sPut) (defBody sPut) (defScope sPut) .none kVU dcU pmU anU cdU ctU), slU⟩)
    (cU : PySem.W.codeIn K cdU "Pile.put" = true)
    (kU : PySem.W.keepIn K (.ref fU) = true)
    (aH : PySem.W.findIn K (.ref C) "holds" = some (some (.ref fH)))
    (iH : PySem.W.isFn K (.ref fH) = true)
    (lH : K.lookup fH = some ⟨ocH, odH, .func (PySem.W.fnOf "holds" "Pile.holds" (defArgs sHolds) (defBody sHolds) (defScope sHolds) .none kVH dcH pmH anH cdH ctH), slH⟩)
    (cH : PySem.W.codeIn K cdH "Pile.holds" = true)
    (kH : PySem.W.keepIn K (.ref fH) = true)
    (aT : PySem.W.findIn K (.ref C) "points" = some (some (.ref fT)))
    (iT : PySem.W.isFn K (.ref fT) = true)
    (lT : K.lookup fT = some ⟨ocT, odT, .func (PySem.W.fnOf "points" "Pile.points" (defArgs sPoints) (defBody sPoints) (defScope sPoints) .none kVT dcT pmT anT cdT ctT), slT⟩)
    (cT : PySem.W.codeIn K cdT "Pile.points" = true)
    (kT : PySem.W.keepIn K (.ref fT) = true)
    (aG : PySem.W.findIn K (.ref C) "weighs" = some (some (.ref fG)))
    (iG : PySem.W.isFn K (.ref fG) = true)
    (lG : K.lookup fG = some ⟨ocG, odG, .func (PySem.W.fnOf "weighs" "Pile.weighs" (defArgs sWeighs) (defBody sWeighs) (defScope sWeighs) .none kVG dcG pmG anG cdG ctG), slG⟩)
    (cG : PySem.W.codeIn K cdG "Pile.weighs" = true)
    (kG : PySem.W.keepIn K (.ref fG) = true)
    (aA : PySem.W.findIn K (.ref C) "alive" = some (some (.ref fA)))
    (iA : PySem.W.isFn K (.ref fA) = true)
    (lA : K.lookup fA = some ⟨ocA, odA, .func (PySem.W.fnOf "alive" "Pile.alive" (defArgs sAlive) (defBody sAlive) (defScope sAlive) .none kVA dcA pmA anA cdA ctA), slA⟩)
    (cA : PySem.W.codeIn K cdA "Pile.alive" = true)
    (kA : PySem.W.keepIn K (.ref fA) = true)
    (aX : PySem.W.findIn K (.ref C) "_box" = some (some (.ref fX)))
    (iX : PySem.W.isFn K (.ref fX) = true)
    (lX : K.lookup fX = some ⟨ocX, odX, .func (PySem.W.fnOf "_box" "Pile._box" (defArgs sBox) (defBody sBox) (defScope sBox) .none kVX dcX pmX anX cdX ctX), slX⟩)
    (cX : PySem.W.codeIn K cdX "Pile._box" = true)
    (kX : PySem.W.keepIn K (.ref fX) = true)
    (aY : PySem.W.findIn K (.ref C) "_slots_with" = some (some (.ref fY)))
    (iY : PySem.W.isFn K (.ref fY) = true)
    (lY : K.lookup fY = some ⟨ocY, odY, .func (PySem.W.fnOf "_slots_with" "Pile._slots_with" (defArgs sSlotsWith) (defBody sSlotsWith) (defScope sSlotsWith) .none kVY dcY pmY anY cdY ctY), slY⟩)
    (cY : PySem.W.codeIn K cdY "Pile._slots_with" = true)
    (kY : PySem.W.keepIn K (.ref fY) = true)
    (aP : PySem.W.findIn K (.ref C) "_point" = some (some (.ref fP)))
    (iP : PySem.W.isFn K (.ref fP) = true)
    (lP : K.lookup fP = some ⟨ocP, odP, .func (PySem.W.fnOf "_point" "Pile._point" (defArgs sPoint) (defBody sPoint) (defScope sPoint) .none kVP dcP pmP anP cdP ctP), slP⟩)
    (cP : PySem.W.codeIn K cdP "Pile._point" = true)
    (kP : PySem.W.keepIn K (.ref fP) = true)
    (aL : PySem.W.findIn K (.ref C) "_let_go" = some (some (.ref fL)))
    (iL : PySem.W.isFn K (.ref fL) = true)
    (lL : K.lookup fL = some ⟨ocL, odL, .func (PySem.W.fnOf "_let_go" "Pile._let_go" (defArgs sLetGo) (defBody sLetGo) (defScope sLetGo) .none kVL dcL pmL anL cdL ctL), slL⟩)
    (cL : PySem.W.codeIn K cdL "Pile._let_go" = true)
    (kL : PySem.W.keepIn K (.ref fL) = true)
    (aB : PySem.W.findIn K (.ref B) "__init__" = some (some (.ref fB)))
    (iB : PySem.W.isFn K (.ref fB) = true)
    (lB : K.lookup fB = some ⟨ocB, odB, .func (PySem.W.fnOf "__init__" "Box.__init__" (defArgs sBoxInit) (defBody sBoxInit) (defScope sBoxInit) .none kVB dcB pmB anB cdB ctB), slB⟩)
    (cB : PySem.W.codeIn K cdB "Box.__init__" = true)
    (kB : PySem.W.keepIn K (.ref fB) = true)
    (aK : PySem.W.nsIn K mainGlobals "check_hand" = some (some (.ref fK)))
    (lK : K.lookup fK = some ⟨ocK, odK, .func (PySem.W.fnOf "check_hand" "check_hand" (defArgs sCheck) (defBody sCheck) (defScope sCheck) .none kVK dcK pmK anK cdK ctK), slK⟩)
    (cK : PySem.W.codeIn K cdK "check_hand" = true)
    (kK : PySem.W.keepIn K (.ref fK) = true)
    (aW : PySem.W.nsIn K mainGlobals "_law_whole" = some (some (.ref fW)))
    (lW : K.lookup fW = some ⟨ocW, odW, .func (PySem.W.fnOf "_law_whole" "_law_whole" (defArgs sWhole) (defBody sWhole) (defScope sWhole) .none kVW dcW pmW anW cdW ctW), slW⟩)
    (cW : PySem.W.codeIn K cdW "_law_whole" = true)
    (kW : PySem.W.keepIn K (.ref fW) = true)
    (aN : PySem.W.nsIn K mainGlobals "_law_numbers" = some (some (.ref fN)))
    (lN : K.lookup fN = some ⟨ocN, odN, .func (PySem.W.fnOf "_law_numbers" "_law_numbers" (defArgs sNums) (defBody sNums) (defScope sNums) .none kVN dcN pmN anN cdN ctN), slN⟩)
    (cN : PySem.W.codeIn K cdN "_law_numbers" = true)
    (kN : PySem.W.keepIn K (.ref fN) = true)
    (aD : PySem.W.nsIn K mainGlobals "_law_cell_at" = some (some (.ref fD)))
    (lD : K.lookup fD = some ⟨ocD, odD, .func (PySem.W.fnOf "_law_cell_at" "_law_cell_at" (defArgs sCellAt) (defBody sCellAt) (defScope sCellAt) .none kVD dcD pmD anD cdD ctD), slD⟩)
    (cD : PySem.W.codeIn K cdD "_law_cell_at" = true)
    (kD : PySem.W.keepIn K (.ref fD) = true)
    (aJ : PySem.W.nsIn K mainGlobals "_law_built" = some (some (.ref fJ)))
    (lJ : K.lookup fJ = some ⟨ocJ, odJ, .func (PySem.W.fnOf "_law_built" "_law_built" (defArgs sBuilt) (defBody sBuilt) (defScope sBuilt) .none kVJ dcJ pmJ anJ cdJ ctJ), slJ⟩)
    (cJ : PySem.W.codeIn K cdJ "_law_built" = true)
    (kJ : PySem.W.keepIn K (.ref fJ) = true)
    (aV : PySem.W.nsIn K mainGlobals "_law_weights" = some (some (.ref fV)))
    (lV : K.lookup fV = some ⟨ocV, odV, .func (PySem.W.fnOf "_law_weights" "_law_weights" (defArgs sWeights) (defBody sWeights) (defScope sWeights) .none kVV dcV pmV anV cdV ctV), slV⟩)
    (cV : PySem.W.codeIn K cdV "_law_weights" = true)
    (kV : PySem.W.keepIn K (.ref fV) = true)
    (aE : PySem.W.nsIn K mainGlobals "_law_fallen" = some (some (.ref fE)))
    (lE : K.lookup fE = some ⟨ocE, odE, .func (PySem.W.fnOf "_law_fallen" "_law_fallen" (defArgs sFallen) (defBody sFallen) (defScope sFallen) .none kVE dcE pmE anE cdE ctE), slE⟩)
    (cE : PySem.W.codeIn K cdE "_law_fallen" = true)
    (kE : PySem.W.keepIn K (.ref fE) = true)
    (aCS : PySem.W.nsIn K mainGlobals "check_slot" = some (some (.ref fCS)))
    (lCS : K.lookup fCS = some ⟨ocCS, odCS, .func (PySem.W.fnOf "check_slot" "check_slot" (defArgs sCheckSlot) (defBody sCheckSlot) (defScope sCheckSlot) .none kVCS dcCS pmCS anCS cdCS ctCS), slCS⟩)
    (cCS : PySem.W.codeIn K cdCS "check_slot" = true)
    (kCS : PySem.W.keepIn K (.ref fCS) = true)
    (aZ : PySem.W.nsIn K mainGlobals "law" = some (some (.ref fZ)))
    (lZ : K.lookup fZ = some ⟨ocZ, odZ, .func (PySem.W.fnOf "law" "law" (defArgs sLaw) (defBody sLaw) (defScope sLaw) .none kVZ dcZ pmZ anZ cdZ ctZ), slZ⟩)
    (cZ : PySem.W.codeIn K cdZ "law" = true)
    (kZ : PySem.W.keepIn K (.ref fZ) = true)
    (pgB : PySem.W.plainGet K B Str.empty = true)
    (hdB : PySem.W.hasDictIn K B = true)
    (poB : PySem.W.plainOver K B = true)
    (saB : PySem.W.findIn K (.ref B) "__setattr__" = some (some (.builtin "object.__setattr__")))
    (mkB : PySem.W.makesIn K B = true)
    (kcB : PySem.W.keepIn K (.ref B) = true)
    (nBslots : PySem.W.findIn K (.ref B) "slots" = some none)
    (nBweight : PySem.W.findIn K (.ref B) "weight" = some none)
    (nBsuspect : PySem.W.findIn K (.ref B) "suspect" = some none)
    (pgC : PySem.W.plainGet K C Str.empty = true)
    (hdC : PySem.W.hasDictIn K C = true)
    (poC : PySem.W.plainOver K C = true)
    (saC : PySem.W.findIn K (.ref C) "__setattr__" = some (some (.builtin "object.__setattr__")))
    (mkC : PySem.W.makesIn K C = true)
    (kcC : PySem.W.keepIn K (.ref C) = true)
    (nChands : PySem.W.findIn K (.ref C) "_hands" = some none)
    (nCboxes : PySem.W.findIn K (.ref C) "_boxes" = some none)
    (nCmade : PySem.W.findIn K (.ref C) "_made" = some none)
    (xeH : PySem.W.excIn K eH [.type "ValueError", .type "Exception", .type "BaseException", .type "object"] "ValueError.__new__" = true)
    (keeH : PySem.W.keepIn K (.ref eH) = true)
    (beH : PySem.W.subIn K (.ref eH) (.type "BaseException") = some true)
    (tyeH : PySem.W.typeIn K (.ref eH) = some (.type "type"))
    (xeS : PySem.W.excIn K eS [.type "ValueError", .type "Exception", .type "BaseException", .type "object"] "ValueError.__new__" = true)
    (keeS : PySem.W.keepIn K (.ref eS) = true)
    (beS : PySem.W.subIn K (.ref eS) (.type "BaseException") = some true)
    (tyeS : PySem.W.typeIn K (.ref eS) = some (.type "type"))
    (xeF : PySem.W.excIn K eF [.type "ValueError", .type "Exception", .type "BaseException", .type "object"] "ValueError.__new__" = true)
    (keeF : PySem.W.keepIn K (.ref eF) = true)
    (beF : PySem.W.subIn K (.ref eF) (.type "BaseException") = some true)
    (tyeF : PySem.W.typeIn K (.ref eF) = some (.type "type"))
    (xeB : PySem.W.excIn K eB [.type "ValueError", .type "Exception", .type "BaseException", .type "object"] "ValueError.__new__" = true)
    (keeB : PySem.W.keepIn K (.ref eB) = true)
    (beB : PySem.W.subIn K (.ref eB) (.type "BaseException") = some true)
    (tyeB : PySem.W.typeIn K (.ref eB) = some (.type "type"))
    (xeL : PySem.W.excIn K eL [.type "ValueError", .type "Exception", .type "BaseException", .type "object"] "ValueError.__new__" = true)
    (keeL : PySem.W.keepIn K (.ref eL) = true)
    (beL : PySem.W.subIn K (.ref eL) (.type "BaseException") = some true)
    (tyeL : PySem.W.typeIn K (.ref eL) = some (.type "type"))
    (cnHANDS : PySem.W.nsIn K mainGlobals "HANDS" = some (some (.int 8 tHANDS)))
    (cnMOST_SLOTS : PySem.W.nsIn K mainGlobals "MOST_SLOTS" = some (some (.int 6 tMOST_SLOTS)))
    (cnMOST_ALIVE : PySem.W.nsIn K mainGlobals "MOST_ALIVE" = some (some (.int 60 tMOST_ALIVE)))
    (zisinstance : PySem.W.nsIn K mainGlobals "isinstance" = some none)
    (zint : PySem.W.nsIn K mainGlobals "int" = some none)
    (zbool : PySem.W.nsIn K mainGlobals "bool" = some none)
    (zlist : PySem.W.nsIn K mainGlobals "list" = some none)
    (zlen : PySem.W.nsIn K mainGlobals "len" = some none)
    (zrange : PySem.W.nsIn K mainGlobals "range" = some none)
    (zmin : PySem.W.nsIn K mainGlobals "min" = some none)
    (zsorted : PySem.W.nsIn K mainGlobals "sorted" = some none)
    (zset : PySem.W.nsIn K mainGlobals "set" = some none)
    : ∃ fd : FuncData, (∀ (s : Shared) (v : Value), BindsTo s fd ⟨[v], []⟩ [("_law_script", v)]) ∧ ∀ base : Heap, K.In base → base.Ns mainGlobals mg → FnOk l.prog w K mg base CX0 5 fa fd ["_law_script"] (spLaw K) := by
  have e := hfa.symm.trans (PySem.W.mg_of X G aZ)
  cases e
  have FI := fun_mk (st := sInit) lI cI kI
  have bI := FI.binds (ps := ["self"]) fun _ _ _ _ _ _ us hl => match us, hl with | [_], _ => rfl
  have FM := fun_mk (st := sMake) lM cM kM
  have bM := FM.binds (ps := ["self", "hand", "size"]) fun _ _ _ _ _ _ us hl => match us, hl with | [_, _, _], _ => rfl
  have FO := fun_mk (st := sHold) lO cO kO
  have bO := FO.binds (ps := ["self", "hand", "other"]) fun _ _ _ _ _ _ us hl => match us, hl with | [_, _, _], _ => rfl
  have FR := fun_mk (st := sDrop) lR cR kR
  have bR := FR.binds (ps := ["self", "hand"]) fun _ _ _ _ _ _ us hl => match us, hl with | [_, _], _ => rfl
  have FU := fun_mk (st := sPut) lU cU kU
  have bU := FU.binds (ps := ["self", "hand", "slot", "other"]) fun _ _ _ _ _ _ us hl => match us, hl with | [_, _, _, _], _ => rfl
  have FH := fun_mk (st := sHolds) lH cH kH
  have bH := FH.binds (ps := ["self", "hand"]) fun _ _ _ _ _ _ us hl => match us, hl with | [_, _], _ => rfl
  have FT := fun_mk (st := sPoints) lT cT kT
  have bT := FT.binds (ps := ["self", "number"]) fun _ _ _ _ _ _ us hl => match us, hl with | [_, _], _ => rfl
  have FG := fun_mk (st := sWeighs) lG cG kG
  have bG := FG.binds (ps := ["self", "number"]) fun _ _ _ _ _ _ us hl => match us, hl with | [_, _], _ => rfl
  have FA := fun_mk (st := sAlive) lA cA kA
  have bA := FA.binds (ps := ["self"]) fun _ _ _ _ _ _ us hl => match us, hl with | [_], _ => rfl
  have FX := fun_mk (st := sBox) lX cX kX
  have bX := FX.binds (ps := ["self", "number"]) fun _ _ _ _ _ _ us hl => match us, hl with | [_, _], _ => rfl
  have FY := fun_mk (st := sSlotsWith) lY cY kY
  have bY := FY.binds (ps := ["self", "hand", "slot"]) fun _ _ _ _ _ _ us hl => match us, hl with | [_, _, _], _ => rfl
  have FP := fun_mk (st := sPoint) lP cP kP
  have bP := FP.binds (ps := ["self", "pointers", "at", "number"]) fun _ _ _ _ _ _ us hl => match us, hl with | [_, _, _, _], _ => rfl
  have FL := fun_mk (st := sLetGo) lL cL kL
  have bL := FL.binds (ps := ["self", "pointer"]) fun _ _ _ _ _ _ us hl => match us, hl with | [_, _], _ => rfl
  have FB := fun_mk (st := sBoxInit) lB cB kB
  have bB := FB.binds (ps := ["self", "size"]) fun _ _ _ _ _ _ us hl => match us, hl with | [_, _], _ => rfl
  have FK := fun_mk (st := sCheck) lK cK kK
  have bK := FK.binds (ps := ["hand"]) fun _ _ _ _ _ _ us hl => match us, hl with | [_], _ => rfl
  have FW := fun_mk (st := sWhole) lW cW kW
  have bW := FW.binds (ps := ["_law_found"]) fun _ _ _ _ _ _ us hl => match us, hl with | [_], _ => rfl
  have FN := fun_mk (st := sNums) lN cN kN
  have bN := FN.binds (ps := ["_law_found", "_law_due"]) fun _ _ _ _ _ _ us hl => match us, hl with | [_, _], _ => rfl
  have FD := fun_mk (st := sCellAt) lD cD kD
  have bD := FD.binds (ps := ["_law_script", "_law_k"]) fun _ _ _ _ _ _ us hl => match us, hl with | [_, _], _ => rfl
  have FJ := fun_mk (st := sBuilt) lJ cJ kJ
  have bJ := FJ.binds (ps := ["_law_pile", "_law_script", "_law_rooms", "_law_many"]) fun _ _ _ _ _ _ us hl => match us, hl with | [_, _, _, _], _ => rfl
  have FV := fun_mk (st := sWeights) lV cV kV
  have bV := FV.binds (ps := ["_law_rooms"]) fun _ _ _ _ _ _ us hl => match us, hl with | [_], _ => rfl
  have FE := fun_mk (st := sFallen) lE cE kE
  have bE := FE.binds (ps := ["_law_rooms", "_law_weights_here", "_law_first"]) fun _ _ _ _ _ _ us hl => match us, hl with | [_, _, _], _ => rfl
  have FCS := fun_mk (st := sCheckSlot) lCS cCS kCS
  have bCS := FCS.binds (ps := ["slots", "slot"]) fun _ _ _ _ _ _ us hl => match us, hl with | [_, _], _ => rfl
  have FZ := fun_mk (st := sLaw) lZ cZ kZ
  have T : Txt K mg C B eH eS eF eB eL := ⟨⟨pgC, hdC, poC, saC⟩, nChands, nCboxes, nCmade, ⟨pgB, hdB, poB, saB⟩, nBslots, nBweight, nBsuspect, PySem.W.mg_of X G acC, PySem.W.mg_of X G acB, PySem.W.mg_none_of X G zlen, PySem.W.mg_none_of X G zlist, PySem.W.mg_none_of X G zsorted,
    ⟨_, PySem.W.mg_of X G cnHANDS⟩, ⟨_, PySem.W.mg_of X G cnMOST_SLOTS⟩, ⟨_, PySem.W.mg_of X G cnMOST_ALIVE⟩, ⟨PySem.W.mg_of X G aeH, xeH, keeH, beH, tyeH⟩, ⟨PySem.W.mg_of X G aeS, xeS, keeS, beS, tyeS⟩, ⟨PySem.W.mg_of X G aeF, xeF, keeF, beF, tyeF⟩, ⟨PySem.W.mg_of X G aeB, xeB, keeB, beB, tyeB⟩, ⟨PySem.W.mg_of X G aeL, xeL, keeL, beL, tyeL⟩⟩
  have TL : TxtL mg := ⟨PySem.W.mg_none_of X G zisinstance, PySem.W.mg_none_of X G zint, PySem.W.mg_none_of X G zbool, PySem.W.mg_none_of X G zlist, PySem.W.mg_none_of X G zlen, PySem.W.mg_none_of X G zrange, PySem.W.mg_none_of X G zmin, PySem.W.mg_none_of X G zsorted, PySem.W.mg_none_of X G zset⟩
  have D : Defs K mg C B fI fM fO fR fU fH fT fG fA fX fY fP fL fB fK fW fN fD fJ fV fE fCS _ _ _ _ _ _ _ _ _ _ _ _ _ _ _ _ _ _ _ _ _ _ := ⟨FI, bI, ⟨mkC, aI, iI, kcC⟩, FM, bM, ⟨aM, iM, kM⟩, FO, bO, ⟨aO, iO, kO⟩, FR, bR, ⟨aR, iR, kR⟩, FU, bU, ⟨aU, iU, kU⟩, FH, bH, ⟨aH, iH, kH⟩, FT, bT, ⟨aT, iT, kT⟩, FG, bG, ⟨aG, iG, kG⟩, FA, bA, ⟨aA, iA, kA⟩, FX, bX, ⟨aX, iX, kX⟩, FY, bY, ⟨aY, iY, kY⟩, FP, bP, ⟨aP, iP, kP⟩, FL, bL, ⟨aL, iL, kL⟩, FB, bB, ⟨mkB, aB, iB, kcB⟩, FK, bK, PySem.W.mg_of X G aK, FW, bW, PySem.W.mg_of X G aW, FN, bN, PySem.W.mg_of X G aN, FD, bD, PySem.W.mg_of X G aD, FJ, bJ, PySem.W.mg_of X G aJ, FV, bV, PySem.W.mg_of X G aV, FE, bE, PySem.W.mg_of X G aE, FCS, bCS, PySem.W.mg_of X G aCS⟩
  exact ⟨PySem.W.fnOf "law" "law" (defArgs sLaw) (defBody sLaw) (defScope sLaw) .none kVZ dcZ pmZ anZ cdZ ctZ, fun s v => .of_eq rfl, fun base _ _ => ok_law FZ T TL D⟩
theorem walk {l : PySem.W.OpenLaw} {q : Program} {loose : List Str} {XP : (Str → Option Value) → Heap → Prop} {YP : World → Heap → Prop} {d : DefRec} {K : Params → PySem.W.Frag} (hn : l.most = some 63) (hdf : d.params.defaults = [])
    (hY : ∀ (w : World) (h : Heap), YP w h → (K w.params).In h)
    (F : ∀ (w : World) (mg : Str → Option Value) (fa : Addr) (h : Heap), (K w.params).In h → h.Ns mainGlobals mg → mg d.name = some (.ref fa) →
      ∃ fd : FuncData, (∀ (s : Shared) (u : Value), BindsTo s fd ⟨[u], []⟩ [("_law_script", u)]) ∧ ∀ base : Heap, (K w.params).In base → base.Ns mainGlobals mg → FnOk l.prog w (K w.params) mg base CX0 5 fa fd ["_law_script"] (spLaw (K w.params))) :
    PySem.W.WalkO q loose XP YP l.row.toRowW d [] (fun f vs => PySem.call f vs) :=
  L2.walk_of (n := 63) (k := 5) (x := "_law_script") (CX := fun _ => CX0) (sp := fun w => spLaw (K w.params)) hn (by decide) hdf ⟨rfl, by decide, by decide⟩ hY F (fun _ _ a ns hl _ hS => ⟨a, ns, rfl, hS, hl, fun _ => rfl⟩) fun _ _ _ _ _ z => z
end BP
open PySem PySem.W PyProof.Rows
set_option maxRecDepth 100000 in
set_option maxHeartbeats 0 in
theorem PySem.Challenge.cw_boxpile_k04_freed_in_order_holds : PySem.Challenge.rw_boxpile_k04_freed_in_order.Holds := by
  w_on; o_law; k_head; (case hw => w_witness2)
  k_fill
  refine BP.walk (l := PySem.Challenge.rw_boxpile_k04_freed_in_order) rfl rfl (fun w h Y => PySem.W.kIn_of Y) ?F
  case F =>
    intro w mg fa h KX G hmg
    refine' BP.all_mk KX G hmg ?acB ?acC ?aeH ?aeS ?aeF ?aeB ?aeL ?aI ?iI ?lI ?cI ?kI ?aM ?iM ?lM ?cM ?kM ?aO ?iO ?lO ?cO ?kO ?aR ?iR ?lR ?cR ?kR ?aU ?iU ?lU ?cU ?kU ?aH ?iH ?lH ?cH ?kH ?aT ?iT ?lT ?cT ?kT ?aG ?iG ?lG ?cG ?kG ?aA ?iA ?lA ?cA ?kA ?aX ?iX ?lX ?cX ?kX ?aY ?iY ?lY ?cY ?kY ?aP ?iP ?lP ?cP ?kP ?aL ?iL ?lL ?cL ?kL ?aB ?iB ?lB ?cB ?kB ?aK ?lK ?cK ?kK ?aW ?lW ?cW ?kW ?aN ?lN ?cN ?kN ?aD ?lD ?cD ?kD ?aJ ?lJ ?cJ ?kJ ?aV ?lV ?cV ?kV ?aE ?lE ?cE ?kE ?aCS ?lCS ?cCS ?kCS ?aZ ?lZ ?cZ ?kZ ?pgB ?hdB ?poB ?saB ?mkB ?kcB ?nBslots ?nBweight ?nBsuspect ?pgC ?hdC ?poC ?saC ?mkC ?kcC ?nChands ?nCboxes ?nCmade ?xeH ?keeH ?beH ?tyeH ?xeS ?keeS ?beS ?tyeS ?xeF ?keeF ?beF ?tyeF ?xeB ?keeB ?beB ?tyeB ?xeL ?keeL ?beL ?tyeL ?cnHANDS ?cnMOST_SLOTS ?cnMOST_ALIVE ?zisinstance ?zint ?zbool ?zlist ?zlen ?zrange ?zmin ?zsorted ?zset
    (case acB => k_is)
    (case acC => k_is)
    (case aeH => k_is)
    (case aeS => k_is)
    (case aeF => k_is)
    (case aeB => k_is)
    (case aeL => k_is)
    (case aI => k_is)
    (case iI => k_is)
    (case lI => k_is)
    (case cI => k_is)
    (case kI => k_is)
    (case aM => k_is)
    (case iM => k_is)
    (case lM => k_is)
    (case cM => k_is)
    (case kM => k_is)
    (case aO => k_is)
    (case iO => k_is)
    (case lO => k_is)
    (case cO => k_is)
    (case kO => k_is)
    (case aR => k_is)
    (case iR => k_is)
    (case lR => k_is)
    (case cR => k_is)
    (case kR => k_is)
    (case aU => k_is)
    (case iU => k_is)
    (case lU => k_is)
    (case cU => k_is)
    (case kU => k_is)
    (case aH => k_is)
    (case iH => k_is)
    (case lH => k_is)
    (case cH => k_is)
    (case kH => k_is)
    (case aT => k_is)
    (case iT => k_is)
    (case lT => k_is)
    (case cT => k_is)
    (case kT => k_is)
    (case aG => k_is)
    (case iG => k_is)
    (case lG => k_is)
    (case cG => k_is)
    (case kG => k_is)
    (case aA => k_is)
    (case iA => k_is)
    (case lA => k_is)
    (case cA => k_is)
    (case kA => k_is)
    (case aX => k_is)
    (case iX => k_is)
    (case lX => k_is)
    (case cX => k_is)
    (case kX => k_is)
    (case aY => k_is)
    (case iY => k_is)
    (case lY => k_is)
    (case cY => k_is)
    (case kY => k_is)
    (case aP => k_is)
    (case iP => k_is)
    (case lP => k_is)
    (case cP => k_is)
    (case kP => k_is)
    (case aL => k_is)
    (case iL => k_is)
    (case lL => k_is)
    (case cL => k_is)
    (case kL => k_is)
    (case aB => k_is)
    (case iB => k_is)
    (case lB => k_is)
    (case cB => k_is)
    (case kB => k_is)
    (case aK => k_is)
    (case lK => k_is)
    (case cK => k_is)
    (case kK => k_is)
    (case aW => k_is)
    (case lW => k_is)
    (case cW => k_is)
    (case kW => k_is)
    (case aN => k_is)
    (case lN => k_is)
    (case cN => k_is)
    (case kN => k_is)
    (case aD => k_is)
    (case lD => k_is)
    (case cD => k_is)
    (case kD => k_is)
    (case aJ => k_is)
    (case lJ => k_is)
    (case cJ => k_is)
    (case kJ => k_is)
    (case aV => k_is)
    (case lV => k_is)
    (case cV => k_is)
    (case kV => k_is)
    (case aE => k_is)
    (case lE => k_is)
    (case cE => k_is)
    (case kE => k_is)
    (case aCS => k_is)
    (case lCS => k_is)
    (case cCS => k_is)
    (case kCS => k_is)
    (case aZ => k_is)
    (case lZ => k_is)
    (case cZ => k_is)
    (case kZ => k_is)
    (case pgB => k_is)
    (case hdB => k_is)
    (case poB => k_is)
    (case saB => k_is)
    (case mkB => k_is)
    (case kcB => k_is)
    (case nBslots => k_is)
    (case nBweight => k_is)
    (case nBsuspect => k_is)
    (case pgC => k_is)
    (case hdC => k_is)
    (case poC => k_is)
    (case saC => k_is)
    (case mkC => k_is)
    (case kcC => k_is)
    (case nChands => k_is)
    (case nCboxes => k_is)
    (case nCmade => k_is)
    (case xeH => first | k_is | k_exc)
    (case keeH => k_is)
    (case beH => k_is)
    (case tyeH => k_is)
    (case xeS => first | k_is | k_exc)
    (case keeS => k_is)
    (case beS => k_is)
    (case tyeS => k_is)
    (case xeF => first | k_is | k_exc)
    (case keeF => k_is)
    (case beF => k_is)
    (case tyeF => k_is)
    (case xeB => first | k_is | k_exc)
    (case keeB => k_is)
    (case beB => k_is)
    (case tyeB => k_is)
    (case xeL => first | k_is | k_exc)
    (case keeL => k_is)
    (case beL => k_is)
    (case tyeL => k_is)
    (case cnHANDS => k_is)
    (case cnMOST_SLOTS => k_is)
    (case cnMOST_ALIVE => k_is)
    (case zisinstance => k_is)
    (case zint => k_is)
    (case zbool => k_is)
    (case zlist => k_is)
    (case zlen => k_is)
    (case zrange => k_is)
    (case zmin => k_is)
    (case zsorted => k_is)
    (case zset => k_is)
