import PyProof.Rows.All
import Wide.All
import OpenK.AllK
import Wide.FinOn
import HandS.ForMost
import HandS.ForExc
import HandS.More
import HandS.IsInst
import PySem.Challenge.RW_boxpile_k03_slots_point
set_option Elab.async false
set_option linter.all false
set_option maxRecDepth 100000
set_option maxHeartbeats 4000000
/-! The pile as plain data: hands, boxes by number, the row of what waits to be let go. Own work; core Lean alone. -/
namespace BP

structure Bx where
  slots : List (Option Int)
  wt : Int
  sus : Bool
structure Pl where
  hands : List (Option Int)
  boxes : List (Int × Bx)
  made : Int

/-! ### boxes by number -/
def get (bs : List (Int × Bx)) (n : Int) : Option Bx := (bs.find? fun e => decide (e.1 = n)).map (·.2)
def chg (bs : List (Int × Bx)) (n : Int) (f : Bx → Bx) : List (Int × Bx) := bs.map fun e => if e.1 = n then (e.1, f e.2) else e
def rm (bs : List (Int × Bx)) (n : Int) : List (Int × Bx) := bs.filter fun e => decide (e.1 ≠ n)
def keys (bs : List (Int × Bx)) : List Int := bs.map (·.1)

theorem get_nil (n : Int) : get [] n = none := rfl
theorem get_cons (e : Int × Bx) (bs : List (Int × Bx)) (n : Int) : get (e :: bs) n = if e.1 = n then some e.2 else get bs n := by
  unfold get
  rw [List.find?_cons]
  by_cases h : e.1 = n
  · simp [h]
  · simp [h]
theorem get_chg (n m : Int) (f : Bx → Bx) : ∀ bs, get (chg bs n f) m = (get bs m).map fun b => if m = n then f b else b
  | [] => rfl
  | e :: bs => by
    have ih := get_chg n m f bs
    have e1 : chg (e :: bs) n f = (if e.1 = n then (e.1, f e.2) else e) :: chg bs n f := rfl
    rw [e1, get_cons, get_cons, ih]
    by_cases h : e.1 = n
    · rw [if_pos h]
      by_cases h2 : e.1 = m
      · have : m = n := h2.symm.trans h
        simp [h2, this]
      · simp [h2]
    · rw [if_neg h]
      by_cases h2 : e.1 = m
      · have : ¬ m = n := fun q => h (h2.trans q)
        simp [h2, this]
      · simp [h2]
theorem get_rm (n m : Int) : ∀ bs, get (rm bs n) m = if m = n then none else get bs m
  | [] => by simp [rm, get]
  | e :: bs => by
    have ih := get_rm n m bs
    by_cases h : e.1 = n
    · have e1 : rm (e :: bs) n = rm bs n := by unfold rm; simp [List.filter_cons, h]
      rw [e1, ih, get_cons]
      by_cases h2 : m = n
      · simp [h2]
      · have : ¬ e.1 = m := fun q => h2 (q.symm.trans h)
        simp [h2, this]
    · have e1 : rm (e :: bs) n = e :: rm bs n := by unfold rm; simp [List.filter_cons, h]
      rw [e1, get_cons, get_cons, ih]
      by_cases h2 : e.1 = m
      · have : ¬ m = n := fun q => h (h2.trans q)
        simp [h2, this]
      · simp [h2]
theorem get_snoc (n m : Int) (b : Bx) : ∀ bs, get (bs ++ [(n, b)]) m = (match get bs m with | some x => some x | none => if n = m then some b else none)
  | [] => by simp [get_cons, get_nil]
  | e :: bs => by
    have ih := get_snoc n m b bs
    rw [List.cons_append, get_cons, get_cons, ih]
    by_cases h2 : e.1 = m
    · simp [h2]
    · simp [h2]
theorem keys_chg (n : Int) (f : Bx → Bx) : ∀ bs, keys (chg bs n f) = keys bs
  | [] => rfl
  | e :: bs => by
    have ih := keys_chg n f bs
    have e1 : keys (chg (e :: bs) n f) = (if e.1 = n then (e.1, f e.2) else e).1 :: keys (chg bs n f) := rfl
    rw [e1, ih]
    by_cases h : e.1 = n <;> simp [h, keys]
theorem keys_rm (n : Int) (bs : List (Int × Bx)) : keys (rm bs n) = (keys bs).filter fun k => decide (k ≠ n) := by
  unfold keys rm
  rw [List.filter_map]
  rfl
theorem len_chg (n : Int) (f : Bx → Bx) (bs : List (Int × Bx)) : (chg bs n f).length = bs.length := List.length_map _
theorem len_rm (n : Int) (bs : List (Int × Bx)) : (rm bs n).length ≤ bs.length := List.length_filter_le _ _
theorem get_keys {bs : List (Int × Bx)} {n : Int} : (∃ b, get bs n = some b) ↔ n ∈ keys bs := by
  induction bs with
  | nil => simp [get_nil, keys]
  | cons e bs ih =>
    rw [get_cons]
    by_cases h : e.1 = n
    · simp [h, keys]
    · have : n ≠ e.1 := fun q => h q.symm
      simp only [if_neg h, ih]
      simp [keys, this]
theorem get_none {bs : List (Int × Bx)} {n : Int} : get bs n = none ↔ n ∉ keys bs := by
  rw [← get_keys]
  cases get bs n <;> simp
theorem get_mem {bs : List (Int × Bx)} {n : Int} {b : Bx} (h : get bs n = some b) : (n, b) ∈ bs := by
  induction bs with
  | nil => simp [get_nil] at h
  | cons e bs ih =>
    rw [get_cons] at h
    by_cases h1 : e.1 = n
    · rw [if_pos h1] at h
      have : e = (n, b) := by
        cases e
        simp at h1 h
        simp [h1, h]
      simp [this]
    · rw [if_neg h1] at h
      exact List.mem_cons_of_mem _ (ih h)
theorem mem_get {bs : List (Int × Bx)} {n : Int} {b : Bx} (hn : (keys bs).Nodup) (h : (n, b) ∈ bs) : get bs n = some b := by
  induction bs with
  | nil => simp at h
  | cons e bs ih =>
    rw [get_cons]
    have hn' : e.1 ∉ keys bs ∧ (keys bs).Nodup := by simpa [keys] using hn
    rcases List.mem_cons.mp h with h | h
    · subst h
      simp
    · have : ¬ e.1 = n := fun q => hn'.1 (by rw [q]; exact List.mem_map.mpr ⟨_, h, rfl⟩)
      rw [if_neg this]
      exact ih hn'.2 h
theorem nodup_lt {l : List Int} (h : l.Pairwise (· < ·)) : l.Nodup := h.imp fun h => Int.ne_of_lt h

/-! ### pointers counted -/
def cnt (l : List (Option Int)) (n : Int) : Nat := l.count (some n)
def one (x : Option Int) (n : Int) : Nat := if x = some n then 1 else 0
def scnt (bs : List (Int × Bx)) (n : Int) : Nat := (bs.map fun e => cnt e.2.slots n).sum
theorem cnt_nil (n : Int) : cnt [] n = 0 := rfl
theorem cnt_cons (x : Option Int) (l : List (Option Int)) (n : Int) : cnt (x :: l) n = one x n + cnt l n := by
  unfold cnt one
  rw [List.count_cons]
  by_cases h : x = some n
  · simp [h]; omega
  · simp [h]
theorem cnt_append (a b : List (Option Int)) (n : Int) : cnt (a ++ b) n = cnt a n + cnt b n := List.count_append
theorem cnt_set : ∀ {l : List (Option Int)} {i : Nat} {o : Option Int} (x : Option Int) (n : Int), l[i]? = some o → cnt (l.set i x) n + one o n = cnt l n + one x n
  | [], i, o, x, n, h => by simp at h
  | y :: l, 0, o, x, n, h => by
    have : y = o := by simpa using h
    subst this
    rw [List.set_cons_zero, cnt_cons, cnt_cons]
    omega
  | y :: l, i + 1, o, x, n, h => by
    have ih := cnt_set x n (show l[i]? = some o by simpa using h)
    rw [List.set_cons_succ, cnt_cons, cnt_cons]
    omega
theorem cnt_pos {l : List (Option Int)} {n : Int} : 0 < cnt l n ↔ some n ∈ l := by
  unfold cnt
  exact List.count_pos_iff
theorem cnt_none : ∀ (k : Nat) (n : Int), cnt (List.replicate k none) n = 0
  | 0, n => rfl
  | k + 1, n => by
    rw [List.replicate_succ, cnt_cons, cnt_none k n]
    simp [one]
theorem scnt_nil (n : Int) : scnt [] n = 0 := rfl
theorem scnt_cons (e : Int × Bx) (bs : List (Int × Bx)) (n : Int) : scnt (e :: bs) n = cnt e.2.slots n + scnt bs n := by simp [scnt]
theorem scnt_append (a b : List (Int × Bx)) (n : Int) : scnt (a ++ b) n = scnt a n + scnt b n := by simp [scnt]
theorem scnt_chg_same {k : Int} {f : Bx → Bx} (hf : ∀ b, (f b).slots = b.slots) (n : Int) : ∀ bs, scnt (chg bs k f) n = scnt bs n
  | [] => rfl
  | e :: bs => by
    have ih := scnt_chg_same (k := k) hf n bs
    have e1 : chg (e :: bs) k f = (if e.1 = k then (e.1, f e.2) else e) :: chg bs k f := rfl
    rw [e1, scnt_cons, scnt_cons, ih]
    by_cases h : e.1 = k
    · simp [h, hf]
    · simp [h]
theorem chg_no {k : Int} {f : Bx → Bx} : ∀ {bs : List (Int × Bx)}, k ∉ keys bs → chg bs k f = bs
  | [], _ => rfl
  | e :: bs, h => by
    have h' : k ≠ e.1 ∧ k ∉ keys bs := by simpa [keys] using h
    have e1 : chg (e :: bs) k f = (if e.1 = k then (e.1, f e.2) else e) :: chg bs k f := rfl
    rw [e1, chg_no h'.2, if_neg (fun q => h'.1 q.symm)]
theorem rm_no {k : Int} : ∀ {bs : List (Int × Bx)}, k ∉ keys bs → rm bs k = bs
  | [], _ => rfl
  | e :: bs, h => by
    have h' : k ≠ e.1 ∧ k ∉ keys bs := by simpa [keys] using h
    have e1 : rm (e :: bs) k = e :: rm bs k := by
      unfold rm
      have : ¬ e.1 = k := fun q => h'.1 q.symm
      simp [List.filter_cons, this]
    rw [e1, rm_no h'.2]
theorem scnt_chg {k : Int} {f : Bx → Bx} {b : Bx} (n : Int) : ∀ {bs : List (Int × Bx)}, (keys bs).Nodup → get bs k = some b → scnt (chg bs k f) n + cnt b.slots n = scnt bs n + cnt (f b).slots n
  | [], _, h => by simp [get_nil] at h
  | e :: bs, hn, h => by
    have hn' : e.1 ∉ keys bs ∧ (keys bs).Nodup := by simpa [keys] using hn
    have e1 : chg (e :: bs) k f = (if e.1 = k then (e.1, f e.2) else e) :: chg bs k f := rfl
    rw [get_cons] at h
    rw [e1, scnt_cons, scnt_cons]
    by_cases h1 : e.1 = k
    · rw [if_pos h1] at h
      have : e.2 = b := Option.some.inj h
      rw [if_pos h1, chg_no (by rw [← h1]; exact hn'.1), this]
      show cnt (f b).slots n + _ + _ = _
      omega
    · rw [if_neg h1] at h
      have ih := scnt_chg (f := f) n hn'.2 h
      rw [if_neg h1]
      omega
theorem scnt_rm {k : Int} {b : Bx} (n : Int) : ∀ {bs : List (Int × Bx)}, (keys bs).Nodup → get bs k = some b → scnt (rm bs k) n + cnt b.slots n = scnt bs n
  | [], _, h => by simp [get_nil] at h
  | e :: bs, hn, h => by
    have hn' : e.1 ∉ keys bs ∧ (keys bs).Nodup := by simpa [keys] using hn
    rw [get_cons] at h
    rw [scnt_cons]
    by_cases h1 : e.1 = k
    · rw [if_pos h1] at h
      have : e.2 = b := Option.some.inj h
      have e1 : rm (e :: bs) k = rm bs k := by unfold rm; simp [List.filter_cons, h1]
      rw [e1, rm_no (by rw [← h1]; exact hn'.1), this]
      omega
    · rw [if_neg h1] at h
      have ih := scnt_rm n hn'.2 h
      have e1 : rm (e :: bs) k = e :: rm bs k := by unfold rm; simp [List.filter_cons, h1]
      rw [e1, scnt_cons]
      omega
theorem scnt_le {bs : List (Int × Bx)} {k : Int} {b : Bx} (n : Int) (h : get bs k = some b) : cnt b.slots n ≤ scnt bs n := by
  induction bs with
  | nil => simp [get_nil] at h
  | cons e bs ih =>
    rw [get_cons] at h
    rw [scnt_cons]
    by_cases h1 : e.1 = k
    · rw [if_pos h1] at h
      have : e.2 = b := Option.some.inj h
      rw [this]
      omega
    · rw [if_neg h1] at h
      have := ih h
      omega

/-! ### what a step of letting go does -/
def room (bs : List (Int × Bx)) : Nat := (bs.map fun e => e.2.slots.length).sum
theorem room_cons (e : Int × Bx) (bs : List (Int × Bx)) : room (e :: bs) = e.2.slots.length + room bs := by simp [room]
theorem room_chg {k : Int} {f : Bx → Bx} (hf : ∀ b, (f b).slots.length = b.slots.length) : ∀ bs, room (chg bs k f) = room bs
  | [] => rfl
  | e :: bs => by
    have ih := room_chg (k := k) hf bs
    have e1 : chg (e :: bs) k f = (if e.1 = k then (e.1, f e.2) else e) :: chg bs k f := rfl
    rw [e1, room_cons, room_cons, ih]
    by_cases h : e.1 = k
    · simp [h, hf]
    · simp [h]
theorem room_rm {k : Int} {b : Bx} : ∀ {bs : List (Int × Bx)}, (keys bs).Nodup → get bs k = some b → room (rm bs k) + b.slots.length = room bs
  | [], _, h => by simp [get_nil] at h
  | e :: bs, hn, h => by
    have hn' : e.1 ∉ keys bs ∧ (keys bs).Nodup := by simpa [keys] using hn
    rw [get_cons] at h
    rw [room_cons]
    by_cases h1 : e.1 = k
    · rw [if_pos h1] at h
      have : e.2 = b := Option.some.inj h
      have e1 : rm (e :: bs) k = rm bs k := by unfold rm; simp [List.filter_cons, h1]
      rw [e1, rm_no (by rw [← h1]; exact hn'.1), this]
      omega
    · rw [if_neg h1] at h
      have ih := room_rm hn'.2 h
      have e1 : rm (e :: bs) k = e :: rm bs k := by unfold rm; simp [List.filter_cons, h1]
      rw [e1, room_cons]
      omega
theorem room_le {bs : List (Int × Bx)} (h : ∀ n b, get bs n = some b → b.slots.length ≤ 6) (hn : (keys bs).Nodup) : room bs ≤ 6 * bs.length := by
  have h' : ∀ e ∈ bs, e.2.slots.length ≤ 6 := fun e he => h e.1 e.2 (mem_get hn he)
  clear h hn
  induction bs with
  | nil => simp [room]
  | cons e bs ih =>
    rw [room_cons, List.length_cons]
    have := ih fun e he => h' e (List.mem_cons_of_mem _ he)
    have := h' e List.mem_cons_self
    omega

def low (b : Bx) : Bx := { b with wt := b.wt - 1, sus := true }
def bump (b : Bx) : Bx := { b with wt := b.wt + 1 }
/-- the first of the row is let go: the boxes behind it, what waits behind it, what is freed by it -/
def fall (bs : List (Int × Bx)) (w : List (Option Int)) : Option Int → List (Int × Bx) × List (Option Int) × List Int
  | none => (bs, w, [])
  | some n => match get bs n with
    | none => (bs, w, [])
    | some b => if b.wt = 1 then (rm bs n, w ++ b.slots, [n]) else (chg bs n low, w, [])
def go : Nat → List (Int × Bx) → List (Option Int) → List (Int × Bx) × List Int
  | 0, bs, _ => (bs, [])
  | _ + 1, bs, [] => (bs, [])
  | m + 1, bs, x :: w => ((go m (fall bs w x).1 (fall bs w x).2.1).1, (fall bs w x).2.2 ++ (go m (fall bs w x).1 (fall bs w x).2.1).2)
/-- all of the row is let go -/
def run (bs : List (Int × Bx)) (w : List (Option Int)) : List (Int × Bx) × List Int := go (w.length + room bs) bs w

/-- weights are right, with the pointers of the row w counted too -/
structure Wf (P : Pl) (w : List (Option Int)) : Prop where
  hl : P.hands.length = 8
  ks : (keys P.boxes).Pairwise (· < ·)
  lo : ∀ n, n ∈ keys P.boxes → 0 ≤ n ∧ n < P.made
  few : P.boxes.length ≤ 60
  sl : ∀ n b, get P.boxes n = some b → b.slots.length ≤ 6
  wt : ∀ n b, get P.boxes n = some b → b.wt = ((cnt P.hands n + scnt P.boxes n + cnt w n : Nat) : Int) ∧ 1 ≤ b.wt
  cl : ∀ n, 0 < cnt P.hands n + scnt P.boxes n + cnt w n → ∃ b, get P.boxes n = some b
  m0 : 0 ≤ P.made
theorem Wf.nd {P : Pl} {w : List (Option Int)} (h : Wf P w) : (keys P.boxes).Nodup := nodup_lt h.ks

/-- one step keeps the weights right; the measure falls by one -/
theorem fall_ok {P : Pl} {x : Option Int} {w : List (Option Int)} (h : Wf P (x :: w)) :
    Wf { P with boxes := (fall P.boxes w x).1 } (fall P.boxes w x).2.1 ∧ (fall P.boxes w x).2.1.length + room (fall P.boxes w x).1 = w.length + room P.boxes := by
  cases x with
  | none =>
    have c0 : ∀ n, cnt (none :: w) n = cnt w n := fun n => by rw [cnt_cons]; simp [one]
    refine ⟨⟨h.hl, h.ks, h.lo, h.few, h.sl, fun n b e => ?_, fun n e => ?_, h.m0⟩, rfl⟩
    · have := h.wt n b e
      rw [c0] at this
      exact this
    · exact h.cl n (by rw [c0]; exact e)
  | some k =>
    have c0 : ∀ n, cnt (some k :: w) n = one (some k) n + cnt w n := fun n => cnt_cons _ _ _
    obtain ⟨b, hb⟩ := h.cl k (by rw [c0]; simp [one]; omega)
    obtain ⟨wb, w1⟩ := h.wt k b hb
    have nd := h.nd
    by_cases hw : b.wt = 1
    · have ef : fall P.boxes w (some k) = (rm P.boxes k, w ++ b.slots, [k]) := by
        show (match get P.boxes k with | none => _ | some b => _) = _
        rw [hb]
        show (if b.wt = 1 then _ else _) = _
        rw [if_pos hw]
      rw [ef]
      have o1 : one (some k) k = 1 := by simp [one]
      have z : cnt P.hands k + scnt P.boxes k + cnt w k = 0 := by
        rw [hw, c0, o1] at wb
        omega
      have sc : ∀ n, scnt (rm P.boxes k) n + cnt b.slots n = scnt P.boxes n := fun n => scnt_rm n nd hb
      refine ⟨⟨h.hl, ?_, fun n hn => ?_, Nat.le_trans (len_rm _ _) h.few, fun n c e => ?_, fun n c e => ?_, fun n e => ?_, h.m0⟩, ?_⟩
      · show (keys (rm P.boxes k)).Pairwise _
        rw [keys_rm]
        exact h.ks.filter _
      · have hn' : n ∈ keys (rm P.boxes k) := hn
        rw [keys_rm] at hn'
        exact h.lo n (List.mem_filter.mp hn').1
      · have e' : get (rm P.boxes k) n = some c := e
        rw [get_rm] at e'
        by_cases q : n = k
        · rw [if_pos q] at e'; cases e'
        · rw [if_neg q] at e'
          exact h.sl n c e'
      · have e' : get (rm P.boxes k) n = some c := e
        rw [get_rm] at e'
        by_cases q : n = k
        · rw [if_pos q] at e'; cases e'
        · rw [if_neg q] at e'
          obtain ⟨w2, w3⟩ := h.wt n c e'
          refine ⟨?_, w3⟩
          have := sc n
          show c.wt = ((cnt P.hands n + scnt (rm P.boxes k) n + cnt (w ++ b.slots) n : Nat) : Int)
          have o0 : one (some k) n = 0 := by
            unfold one
            rw [if_neg (fun q2 => q (Option.some.inj q2).symm)]
          rw [c0, o0] at w2
          rw [cnt_append, w2]
          omega
      · have e' : 0 < cnt P.hands n + scnt (rm P.boxes k) n + cnt (w ++ b.slots) n := e
        rw [cnt_append] at e'
        have := sc n
        show ∃ b, get (rm P.boxes k) n = some b
        rw [get_rm]
        by_cases q : n = k
        · subst q
          omega
        · rw [if_neg q]
          exact h.cl n (by rw [c0]; omega)
      · show (w ++ b.slots).length + room (rm P.boxes k) = _
        rw [List.length_append]
        have := room_rm nd hb
        omega
    · have ef : fall P.boxes w (some k) = (chg P.boxes k low, w, []) := by
        show (match get P.boxes k with | none => _ | some b => _) = _
        rw [hb]
        show (if b.wt = 1 then _ else _) = _
        rw [if_neg hw]
      rw [ef]
      have sc : ∀ n, scnt (chg P.boxes k low) n = scnt P.boxes n := fun n => scnt_chg_same (f := low) (fun _ => rfl) n _
      refine ⟨⟨h.hl, ?_, fun n hn => ?_, ?_, fun n c e => ?_, fun n c e => ?_, fun n e => ?_, h.m0⟩, ?_⟩
      · show (keys (chg P.boxes k low)).Pairwise _
        rw [keys_chg]
        exact h.ks
      · have hn' : n ∈ keys (chg P.boxes k low) := hn
        rw [keys_chg] at hn'
        exact h.lo n hn'
      · show (chg P.boxes k low).length ≤ 60
        rw [len_chg]
        exact h.few
      · have e' : get (chg P.boxes k low) n = some c := e
        rw [get_chg] at e'
        cases g : get P.boxes n with
        | none => rw [g] at e'; cases e'
        | some d =>
          rw [g] at e'
          have e2 : (if n = k then low d else d) = c := Option.some.inj e'
          subst e2
          have := h.sl n d g
          by_cases q : n = k
          · rw [if_pos q]; exact this
          · rw [if_neg q]; exact this
      · have e' : get (chg P.boxes k low) n = some c := e
        rw [get_chg] at e'
        cases g : get P.boxes n with
        | none => rw [g] at e'; cases e'
        | some d =>
          rw [g] at e'
          have e2 : (if n = k then low d else d) = c := Option.some.inj e'
          subst e2
          obtain ⟨w2, w3⟩ := h.wt n d g
          show (if n = k then low d else d).wt = ((cnt P.hands n + scnt (chg P.boxes k low) n + cnt w n : Nat) : Int) ∧ _
          rw [sc n]
          by_cases q : n = k
          · subst q
            rw [if_pos rfl]
            have : d = b := Option.some.inj (g.symm.trans hb)
            subst this
            show d.wt - 1 = _ ∧ 1 ≤ d.wt - 1
            have o1 : one (some n) n = 1 := by simp [one]
            rw [c0, o1] at w2
            refine ⟨by omega, by omega⟩
          · rw [if_neg q]
            have o0 : one (some k) n = 0 := by
              unfold one
              rw [if_neg (fun q2 => q (Option.some.inj q2).symm)]
            rw [c0, o0] at w2
            exact ⟨by omega, w3⟩
      · have e' : 0 < cnt P.hands n + scnt (chg P.boxes k low) n + cnt w n := e
        rw [sc] at e'
        obtain ⟨c, hc⟩ := h.cl n (by rw [c0]; omega)
        show ∃ b, get (chg P.boxes k low) n = some b
        rw [get_chg, hc]
        exact ⟨_, rfl⟩
      · show w.length + room (chg P.boxes k low) = _
        rw [room_chg (f := low) (fun _ => rfl)]
theorem go_ok : ∀ {m : Nat} {P : Pl} {w : List (Option Int)}, Wf P w → w.length + room P.boxes = m → Wf { P with boxes := (go m P.boxes w).1 } []
  | 0, P, w, h, e => by
    have : w = [] := List.eq_nil_of_length_eq_zero (by omega)
    subst this
    exact h
  | m + 1, P, [], h, e => h
  | m + 1, P, x :: w, h, e => by
    obtain ⟨h1, e1⟩ := fall_ok h
    have := go_ok (m := m) h1 (by rw [List.length_cons] at e; show _ + room (fall P.boxes w x).1 = m; omega)
    exact this
theorem run_ok {P : Pl} {w : List (Option Int)} (h : Wf P w) : Wf { P with boxes := (run P.boxes w).1 } [] := go_ok h rfl

/-! ### a pointer becomes another one -/
def bumped (bs : List (Int × Bx)) : Option Int → List (Int × Bx)
  | none => bs
  | some n => chg bs n bump
def setSlot (s : Nat) (x : Option Int) (b : Bx) : Bx := { b with slots := b.slots.set s x }
def slotOf (bs : List (Int × Bx)) (n : Int) (s : Nat) : Option Int := match get bs n with
  | none => none
  | some b => b.slots.getD s none
/-- a hand points at x -/
def ptHand (P : Pl) (h : Nat) (x : Option Int) : Pl × List Int :=
  ({ P with hands := P.hands.set h x, boxes := (run (bumped P.boxes x) [P.hands.getD h none]).1 }, (run (bumped P.boxes x) [P.hands.getD h none]).2)
/-- a slot of the box n points at x -/
def ptSlot (P : Pl) (n : Int) (s : Nat) (x : Option Int) : Pl × List Int :=
  ({ P with boxes := (run (chg (bumped P.boxes x) n (setSlot s x)) [slotOf P.boxes n s]).1 }, (run (chg (bumped P.boxes x) n (setSlot s x)) [slotOf P.boxes n s]).2)
/-- a new box stands there, at which nothing points -/
def born (P : Pl) (size : Nat) : Pl := { P with boxes := P.boxes ++ [(P.made, ⟨List.replicate size none, 0, false⟩)], made := P.made + 1 }
def mk (P : Pl) (h size : Nat) : Pl × List Int := ptHand (born P size) h (some P.made)

/-- weights are right, but that of x may be 0 yet -/
structure Pre (P : Pl) (x : Option Int) : Prop where
  hl : P.hands.length = 8
  ks : (keys P.boxes).Pairwise (· < ·)
  lo : ∀ n, n ∈ keys P.boxes → 0 ≤ n ∧ n < P.made
  few : P.boxes.length ≤ 60
  sl : ∀ n b, get P.boxes n = some b → b.slots.length ≤ 6
  wt : ∀ n b, get P.boxes n = some b → b.wt = ((cnt P.hands n + scnt P.boxes n : Nat) : Int) ∧ (1 ≤ b.wt ∨ x = some n)
  cl : ∀ n, 0 < cnt P.hands n + scnt P.boxes n → ∃ b, get P.boxes n = some b
  m0 : 0 ≤ P.made
  hx : ∀ n, x = some n → ∃ b, get P.boxes n = some b
theorem Wf.pre {P : Pl} {x : Option Int} (h : Wf P []) (hx : ∀ n, x = some n → ∃ b, get P.boxes n = some b) : Pre P x :=
  ⟨h.hl, h.ks, h.lo, h.few, h.sl, fun n b e => by
    obtain ⟨a, b⟩ := h.wt n b e
    exact ⟨a, .inl b⟩, fun n e => h.cl n e, h.m0, hx⟩
/-- what a hand holds is alive -/
theorem Wf.hand {P : Pl} {w : List (Option Int)} (h : Wf P w) {i : Nat} {n : Int} (e : P.hands.getD i none = some n) : ∃ b, get P.boxes n = some b := by
  refine h.cl n ?_
  have : some n ∈ P.hands := by
    rw [List.getD_eq_getElem?_getD] at e
    cases q : P.hands[i]? with
    | none => rw [q] at e; cases e
    | some y =>
      rw [q] at e
      have : y = some n := e
      rw [← this]
      exact List.mem_of_getElem? q
  have := cnt_pos.mpr this
  omega
theorem Wf.slot {P : Pl} {w : List (Option Int)} (h : Wf P w) {k : Int} {b : Bx} {i : Nat} {n : Int} (hb : get P.boxes k = some b) (e : b.slots.getD i none = some n) : ∃ b, get P.boxes n = some b := by
  refine h.cl n ?_
  have : some n ∈ b.slots := by
    rw [List.getD_eq_getElem?_getD] at e
    cases q : b.slots[i]? with
    | none => rw [q] at e; cases e
    | some y =>
      rw [q] at e
      have : y = some n := e
      rw [← this]
      exact List.mem_of_getElem? q
  have h1 := cnt_pos.mpr this
  have h2 := scnt_le n hb
  omega
theorem get_bumped {bs : List (Int × Bx)} {x : Option Int} {n : Int} : get (bumped bs x) n = (get bs n).map fun b => if x = some n then bump b else b := by
  cases x with
  | none =>
    show get bs n = _
    cases get bs n <;> simp
  | some k =>
    show get (chg bs k bump) n = _
    rw [get_chg]
    cases get bs n with
    | none => rfl
    | some b =>
      by_cases q : n = k
      · simp [q]
      · have : ¬ (some k = some n) := fun z => q (Option.some.inj z).symm
        simp [q, this]
theorem keys_bumped {bs : List (Int × Bx)} {x : Option Int} : keys (bumped bs x) = keys bs := by
  cases x with
  | none => rfl
  | some k => exact keys_chg _ _ _
theorem len_bumped {bs : List (Int × Bx)} {x : Option Int} : (bumped bs x).length = bs.length := by
  cases x with
  | none => rfl
  | some k => exact len_chg _ _ _
theorem scnt_bumped {bs : List (Int × Bx)} {x : Option Int} (n : Int) : scnt (bumped bs x) n = scnt bs n := by
  cases x with
  | none => rfl
  | some k => exact scnt_chg_same (f := bump) (fun _ => rfl) n _
theorem room_bumped {bs : List (Int × Bx)} {x : Option Int} : room (bumped bs x) = room bs := by
  cases x with
  | none => rfl
  | some k => exact room_chg (f := bump) (fun _ => rfl) _
theorem getD_some {l : List (Option Int)} {i : Nat} (h : i < l.length) : l[i]? = some (l.getD i none) := by
  rw [List.getD_eq_getElem?_getD, List.getElem?_eq_getElem h]
  rfl
/-- a hand is set: what it pointed at waits -/
theorem Pre.hand {P : Pl} {x : Option Int} (h : Pre P x) {i : Nat} (hi : i < 8) : Wf { P with hands := P.hands.set i x, boxes := bumped P.boxes x } [P.hands.getD i none] := by
  have hold := getD_some (l := P.hands) (i := i) (by rw [h.hl]; exact hi)
  have c1 : ∀ n, cnt (P.hands.set i x) n + one (P.hands.getD i none) n = cnt P.hands n + one x n := fun n => cnt_set x n hold
  have c2 : ∀ n, cnt [P.hands.getD i none] n = one (P.hands.getD i none) n := fun n => by rw [cnt_cons, cnt_nil]; rfl
  refine ⟨by show (P.hands.set i x).length = 8; rw [List.length_set]; exact h.hl, by show (keys (bumped P.boxes x)).Pairwise _; rw [keys_bumped]; exact h.ks, fun n hn => ?_, by show (bumped P.boxes x).length ≤ 60; rw [len_bumped]; exact h.few, fun n c e => ?_, fun n c e => ?_, fun n e => ?_, h.m0⟩
  · have hn' : n ∈ keys (bumped P.boxes x) := hn
    rw [keys_bumped] at hn'
    exact h.lo n hn'
  · have e' : get (bumped P.boxes x) n = some c := e
    rw [get_bumped] at e'
    cases g : get P.boxes n with
    | none => rw [g] at e'; cases e'
    | some d =>
      rw [g] at e'
      have e2 : (if x = some n then bump d else d) = c := Option.some.inj e'
      subst e2
      have := h.sl n d g
      by_cases q : x = some n
      · rw [if_pos q]; exact this
      · rw [if_neg q]; exact this
  · have e' : get (bumped P.boxes x) n = some c := e
    rw [get_bumped] at e'
    cases g : get P.boxes n with
    | none => rw [g] at e'; cases e'
    | some d =>
      rw [g] at e'
      have e2 : (if x = some n then bump d else d) = c := Option.some.inj e'
      subst e2
      obtain ⟨w2, w3⟩ := h.wt n d g
      show _ = ((cnt (P.hands.set i x) n + scnt (bumped P.boxes x) n + cnt [P.hands.getD i none] n : Nat) : Int) ∧ _
      rw [scnt_bumped, c2]
      have := c1 n
      by_cases q : x = some n
      · rw [if_pos q]
        have o1 : one x n = 1 := by simp [one, q]
        show d.wt + 1 = _ ∧ 1 ≤ d.wt + 1
        refine ⟨by omega, by omega⟩
      · rw [if_neg q]
        have o0 : one x n = 0 := by simp [one, q]
        refine ⟨by omega, w3.resolve_right q⟩
  · have e' : 0 < cnt (P.hands.set i x) n + scnt (bumped P.boxes x) n + cnt [P.hands.getD i none] n := e
    rw [scnt_bumped, c2] at e'
    have := c1 n
    show ∃ b, get (bumped P.boxes x) n = some b
    rw [get_bumped]
    have : ∃ b, get P.boxes n = some b := by
      by_cases q : x = some n
      · exact h.hx n q
      · have o0 : one x n = 0 := by simp [one, q]
        exact h.cl n (by omega)
    obtain ⟨b, hb⟩ := this
    rw [hb]
    exact ⟨_, rfl⟩
/-- a slot is set: what it pointed at waits -/
theorem Pre.slot {P : Pl} {x : Option Int} (h : Pre P x) {k : Int} {b : Bx} {i : Nat} (hb : get P.boxes k = some b) (hi : i < b.slots.length) :
    Wf { P with boxes := chg (bumped P.boxes x) k (setSlot i x) } [b.slots.getD i none] := by
  have hold := getD_some hi
  have nd : (keys P.boxes).Nodup := nodup_lt h.ks
  have c1 : ∀ n, cnt (b.slots.set i x) n + one (b.slots.getD i none) n = cnt b.slots n + one x n := fun n => cnt_set x n hold
  have c2 : ∀ n, cnt [b.slots.getD i none] n = one (b.slots.getD i none) n := fun n => by rw [cnt_cons, cnt_nil]; rfl
  have hb' : get (bumped P.boxes x) k = some (if x = some k then bump b else b) := by rw [get_bumped, hb]; rfl
  have hbs : (if x = some k then bump b else b).slots = b.slots := by
    by_cases q : x = some k
    · rw [if_pos q]; rfl
    · rw [if_neg q]
  have c3 : ∀ n, scnt (chg (bumped P.boxes x) k (setSlot i x)) n + cnt b.slots n = scnt P.boxes n + cnt (b.slots.set i x) n := fun n => by
    have := scnt_chg (f := setSlot i x) n (by rw [keys_bumped]; exact nd) hb'
    rw [scnt_bumped, hbs] at this
    have e : (setSlot i x (if x = some k then bump b else b)).slots = b.slots.set i x := by
      show (if x = some k then bump b else b).slots.set i x = _
      rw [hbs]
    rw [e] at this
    exact this
  have gg : ∀ n, get (chg (bumped P.boxes x) k (setSlot i x)) n = (get P.boxes n).map fun d => if n = k then setSlot i x (if x = some n then bump d else d) else (if x = some n then bump d else d) := fun n => by
    rw [get_chg, get_bumped]
    cases get P.boxes n <;> rfl
  have kk : keys (chg (bumped P.boxes x) k (setSlot i x)) = keys P.boxes := by rw [keys_chg, keys_bumped]
  refine ⟨h.hl, by show (keys (chg (bumped P.boxes x) k (setSlot i x))).Pairwise _; rw [kk]; exact h.ks, fun n hn => ?_, by show (chg (bumped P.boxes x) k (setSlot i x)).length ≤ 60; rw [len_chg, len_bumped]; exact h.few, fun n c e => ?_, fun n c e => ?_, fun n e => ?_, h.m0⟩
  · have hn' : n ∈ keys (chg (bumped P.boxes x) k (setSlot i x)) := hn
    rw [kk] at hn'
    exact h.lo n hn'
  · have e' : get (chg (bumped P.boxes x) k (setSlot i x)) n = some c := e
    rw [gg] at e'
    cases g : get P.boxes n with
    | none => rw [g] at e'; cases e'
    | some d =>
      rw [g] at e'
      have e2 : (if n = k then setSlot i x (if x = some n then bump d else d) else (if x = some n then bump d else d)) = c := Option.some.inj e'
      subst e2
      have := h.sl n d g
      have q : (if x = some n then bump d else d).slots = d.slots := by
        by_cases q : x = some n
        · rw [if_pos q]; rfl
        · rw [if_neg q]
      by_cases q2 : n = k
      · rw [if_pos q2]
        show ((if x = some n then bump d else d).slots.set i x).length ≤ 6
        rw [List.length_set, q]
        exact this
      · rw [if_neg q2, q]
        exact this
  · have e' : get (chg (bumped P.boxes x) k (setSlot i x)) n = some c := e
    rw [gg] at e'
    cases g : get P.boxes n with
    | none => rw [g] at e'; cases e'
    | some d =>
      rw [g] at e'
      have e2 : (if n = k then setSlot i x (if x = some n then bump d else d) else (if x = some n then bump d else d)) = c := Option.some.inj e'
      have wc : c.wt = (if x = some n then bump d else d).wt := by
        rw [← e2]
        by_cases q2 : n = k
        · rw [if_pos q2]; rfl
        · rw [if_neg q2]
      obtain ⟨w2, w3⟩ := h.wt n d g
      rw [wc]
      show _ = ((cnt P.hands n + scnt (chg (bumped P.boxes x) k (setSlot i x)) n + cnt [b.slots.getD i none] n : Nat) : Int) ∧ _
      rw [c2]
      have := c1 n
      have := c3 n
      by_cases q : x = some n
      · rw [if_pos q]
        have o1 : one x n = 1 := by simp [one, q]
        show d.wt + 1 = _ ∧ 1 ≤ d.wt + 1
        refine ⟨by omega, by omega⟩
      · rw [if_neg q]
        have o0 : one x n = 0 := by simp [one, q]
        refine ⟨by omega, w3.resolve_right q⟩
  · have e' : 0 < cnt P.hands n + scnt (chg (bumped P.boxes x) k (setSlot i x)) n + cnt [b.slots.getD i none] n := e
    rw [c2] at e'
    have := c1 n
    have := c3 n
    show ∃ b, get (chg (bumped P.boxes x) k (setSlot i x)) n = some b
    rw [gg]
    have : ∃ b, get P.boxes n = some b := by
      by_cases q : x = some n
      · exact h.hx n q
      · have o0 : one x n = 0 := by simp [one, q]
        exact h.cl n (by omega)
    obtain ⟨b, hb⟩ := this
    rw [hb]
    exact ⟨_, rfl⟩
theorem scnt_born (P : Pl) (size : Nat) (n : Int) : scnt (born P size).boxes n = scnt P.boxes n := by
  show scnt (P.boxes ++ _) n = _
  rw [scnt_append, scnt_cons, scnt_nil]
  show _ + (cnt (List.replicate size none) n + 0) = _
  rw [cnt_none]
  rfl
theorem get_born {P : Pl} {w : List (Option Int)} (h : Wf P w) (size : Nat) (n : Int) : get (born P size).boxes n = if n = P.made then some ⟨List.replicate size none, 0, false⟩ else get P.boxes n := by
  show get (P.boxes ++ _) n = _
  rw [get_snoc]
  by_cases q : n = P.made
  · have : get P.boxes n = none := get_none.mpr fun z => by have := (h.lo n z).2; omega
    rw [this]
    simp [q]
  · have : ¬ P.made = n := fun z => q z.symm
    rw [if_neg q]
    cases get P.boxes n <;> simp [this]
theorem Wf.born {P : Pl} (h : Wf P []) {size : Nat} (hs : size ≤ 6) (hf : P.boxes.length < 60) : Pre (born P size) (some P.made) := by
  have gm := get_born h size
  refine ⟨h.hl, ?_, fun n hn => ?_, ?_, fun n b e => ?_, fun n b e => ?_, fun n e => ?_, ?_, fun n e => ?_⟩
  · show (keys (P.boxes ++ _)).Pairwise _
    unfold keys
    rw [List.map_append, List.pairwise_append]
    refine ⟨h.ks, List.pairwise_singleton _ _, fun a ha b hb => ?_⟩
    have : b = P.made := by simpa using hb
    rw [this]
    exact (h.lo a ha).2
  · have hn' : n ∈ keys (P.boxes ++ [(P.made, _)]) := hn
    unfold keys at hn'
    rw [List.map_append, List.mem_append] at hn'
    have m0 := h.m0
    show 0 ≤ n ∧ n < P.made + 1
    rcases hn' with q | q
    · have := h.lo n q
      omega
    · have : n = P.made := by simpa using q
      omega
  · show (P.boxes ++ _).length ≤ 60
    rw [List.length_append]
    show P.boxes.length + 1 ≤ 60
    omega
  · rw [gm] at e
    by_cases q : n = P.made
    · rw [if_pos q] at e
      have := Option.some.inj e
      rw [← this]
      show (List.replicate size none).length ≤ 6
      rw [List.length_replicate]
      exact hs
    · rw [if_neg q] at e
      exact h.sl n b e
  · rw [gm] at e
    rw [scnt_born]
    show _ = ((cnt P.hands n + _ : Nat) : Int) ∧ _
    by_cases q : n = P.made
    · rw [if_pos q] at e
      have eb := Option.some.inj e
      refine ⟨?_, .inr (by rw [q])⟩
      rw [← eb]
      show (0 : Int) = _
      have : ¬ 0 < cnt P.hands n + scnt P.boxes n := fun z => by
        obtain ⟨c, hc⟩ := h.cl n z
        have := (h.lo n (get_keys.mp ⟨c, hc⟩)).2
        omega
      omega
    · rw [if_neg q] at e
      obtain ⟨a, c⟩ := h.wt n b e
      exact ⟨a, .inl c⟩
  · rw [scnt_born] at e
    have e' : 0 < cnt P.hands n + scnt P.boxes n := e
    obtain ⟨c, hc⟩ := h.cl n e'
    rw [gm]
    by_cases q : n = P.made
    · rw [if_pos q]; exact ⟨_, rfl⟩
    · rw [if_neg q]; exact ⟨c, hc⟩
  · have := h.m0
    show 0 ≤ P.made + 1
    omega
  · rw [gm, ← Option.some.inj e, if_pos rfl]
    exact ⟨_, rfl⟩
/-- the numbers of those that are suspects -/
def susp (P : Pl) : List Int := (keys P.boxes).filter fun n => match get P.boxes n with | none => false | some b => b.sus
theorem ptHand_ok {P : Pl} {x : Option Int} (h : Pre P x) {i : Nat} (hi : i < 8) : Wf (ptHand P i x).1 [] := run_ok (h.hand hi)
theorem ptSlot_ok {P : Pl} {x : Option Int} (h : Pre P x) {k : Int} {b : Bx} {i : Nat} (hb : get P.boxes k = some b) (hi : i < b.slots.length) : Wf (ptSlot P k i x).1 [] := by
  have e : slotOf P.boxes k i = b.slots.getD i none := by
    unfold slotOf
    rw [hb]
  have := run_ok (h.slot hb hi)
  rw [← e] at this
  exact this
theorem mk_ok {P : Pl} (h : Wf P []) {i size : Nat} (hi : i < 8) (hs : size ≤ 6) (hf : P.boxes.length < 60) : Wf (mk P i size).1 [] := ptHand_ok (h.born hs hf) hi
def pl0 : Pl := ⟨List.replicate 8 none, [], 0⟩
theorem wf0 : Wf pl0 [] := ⟨rfl, List.Pairwise.nil, fun n h => by simp [pl0, keys] at h, by decide, fun n b e => by simp [pl0, get_nil] at e, fun n b e => by simp [pl0, get_nil] at e, fun n e => by
  have h1 : cnt pl0.hands n = 0 := cnt_none 8 n
  have h2 : scnt pl0.boxes n = 0 := rfl
  rw [h1, h2, cnt_nil] at e
  omega, by decide⟩
end BP

/-! The pile as it lies in the heap. Own work. -/
namespace BP
open PySem L2

def oV : Option Int → V
  | none => .non
  | some n => .int n
def lV (l : List (Option Int)) : List V := l.map oV
theorem lV_get {l : List (Option Int)} {i : Nat} (h : i < l.length) : (lV l)[i]? = some (oV (l.getD i none)) := by
  unfold lV
  rw [List.getElem?_map, getD_some h]
  rfl
theorem lV_set (l : List (Option Int)) (i : Nat) (x : Option Int) : (lV l).set i (oV x) = lV (l.set i x) := by
  unfold lV
  rw [List.map_set]
theorem lV_len (l : List (Option Int)) : (lV l).length = l.length := List.length_map _

/-! ### the attributes -/
theorem s_hb : ¬ (("_hands" : Str) = "_boxes") := by decide +kernel
theorem s_hm : ¬ (("_hands" : Str) = "_made") := by decide +kernel
theorem s_bm : ¬ (("_boxes" : Str) = "_made") := by decide +kernel
theorem s_bh : ¬ (("_boxes" : Str) = "_hands") := by decide +kernel
theorem s_sw : ¬ (("slots" : Str) = "weight") := by decide +kernel
theorem s_ss : ¬ (("slots" : Str) = "suspect") := by decide +kernel
theorem s_ws : ¬ (("weight" : Str) = "suspect") := by decide +kernel
theorem s_hs : ¬ (("_hands" : Str) = "slots") := by decide +kernel
def pf (lh db : Addr) (m : Int) : List (Str × V) := putF "_made" (.int m) (putF "_boxes" (.ref db) (putF "_hands" (.ref lh) []))
theorem pf_eq (lh db : Addr) (m : Int) : pf lh db m = ([("_hands", V.ref lh), ("_boxes", V.ref db), ("_made", V.int m)] : List (Str × V)) := by
  show (putF "_made" (.int m) (if ("_hands" : Str) = "_boxes" then [(("_hands" : Str), V.ref db)] else (("_hands" : Str), V.ref lh) :: [(("_boxes" : Str), V.ref db)])) = _
  rw [if_neg s_hb]
  show (if ("_hands" : Str) = "_made" then _ else (("_hands" : Str), V.ref lh) :: (if ("_boxes" : Str) = "_made" then _ else (("_boxes" : Str), V.ref db) :: [(("_made" : Str), V.int m)])) = _
  rw [if_neg s_hm, if_neg s_bm]
theorem pf_hands (lh db : Addr) (m : Int) : (pf lh db m).lookup ("_hands" : Str) = some (.ref lh) := by
  unfold pf
  rw [lookup_putF, if_neg s_hm, lookup_putF, if_neg s_hb, lookup_putF, if_pos rfl]
theorem pf_boxes (lh db : Addr) (m : Int) : (pf lh db m).lookup ("_boxes" : Str) = some (.ref db) := by
  unfold pf
  rw [lookup_putF, if_neg s_bm, lookup_putF, if_pos rfl]
theorem pf_made (lh db : Addr) (m : Int) : (pf lh db m).lookup ("_made" : Str) = some (.int m) := by
  unfold pf
  rw [lookup_putF, if_pos rfl]
theorem pf_no (lh db : Addr) (m : Int) {x : Str} (h1 : ¬ x = "_made") (h2 : ¬ x = "_boxes") (h3 : ¬ x = "_hands") : (pf lh db m).lookup x = none := by
  unfold pf
  rw [lookup_putF, if_neg h1, lookup_putF, if_neg h2, lookup_putF, if_neg h3]
  rfl
theorem pf_put (lh db : Addr) (m z : Int) : putF "_made" (.int z) (pf lh db m) = pf lh db z := by
  rw [pf_eq, pf_eq]
  show (if ("_hands" : Str) = "_made" then _ else (("_hands" : Str), V.ref lh) :: (if ("_boxes" : Str) = "_made" then _ else (("_boxes" : Str), V.ref db) :: (if ("_made" : Str) = "_made" then [(("_made" : Str), V.int z)] else _))) = _
  rw [if_neg s_hm, if_neg s_bm, if_pos rfl]
theorem pf_len (lh db : Addr) (m : Int) : (pf lh db m).length = 3 := by rw [pf_eq]; rfl
def bf (sl : Addr) (w : Int) (s : Bool) : List (Str × V) := putF "suspect" (.bl s) (putF "weight" (.int w) (putF "slots" (.ref sl) []))
theorem bf_eq (sl : Addr) (w : Int) (s : Bool) : bf sl w s = ([("slots", V.ref sl), ("weight", V.int w), ("suspect", V.bl s)] : List (Str × V)) := by
  show (putF "suspect" (.bl s) (if ("slots" : Str) = "weight" then [(("slots" : Str), V.int w)] else (("slots" : Str), V.ref sl) :: [(("weight" : Str), V.int w)])) = _
  rw [if_neg s_sw]
  show (if ("slots" : Str) = "suspect" then _ else (("slots" : Str), V.ref sl) :: (if ("weight" : Str) = "suspect" then _ else (("weight" : Str), V.int w) :: [(("suspect" : Str), V.bl s)])) = _
  rw [if_neg s_ss, if_neg s_ws]
theorem bf_slots (sl : Addr) (w : Int) (s : Bool) : (bf sl w s).lookup ("slots" : Str) = some (.ref sl) := by
  unfold bf
  rw [lookup_putF, if_neg s_ss, lookup_putF, if_neg s_sw, lookup_putF, if_pos rfl]
theorem bf_weight (sl : Addr) (w : Int) (s : Bool) : (bf sl w s).lookup ("weight" : Str) = some (.int w) := by
  unfold bf
  rw [lookup_putF, if_neg s_ws, lookup_putF, if_pos rfl]
theorem bf_suspect (sl : Addr) (w : Int) (s : Bool) : (bf sl w s).lookup ("suspect" : Str) = some (.bl s) := by
  unfold bf
  rw [lookup_putF, if_pos rfl]
theorem bf_putw (sl : Addr) (w z : Int) (s : Bool) : putF "weight" (.int z) (bf sl w s) = bf sl z s := by
  rw [bf_eq, bf_eq]
  show (if ("slots" : Str) = "weight" then _ else (("slots" : Str), V.ref sl) :: (if ("weight" : Str) = "weight" then (("weight" : Str), V.int z) :: [(("suspect" : Str), V.bl s)] else _)) = _
  rw [if_neg s_sw, if_pos rfl]
theorem bf_puts (sl : Addr) (w : Int) (s t : Bool) : putF "suspect" (.bl t) (bf sl w s) = bf sl w t := by
  rw [bf_eq, bf_eq]
  show (if ("slots" : Str) = "suspect" then _ else (("slots" : Str), V.ref sl) :: (if ("weight" : Str) = "suspect" then _ else (("weight" : Str), V.int w) :: (if ("suspect" : Str) = "suspect" then [(("suspect" : Str), V.bl t)] else _))) = _
  rw [if_neg s_ss, if_neg s_ws, if_pos rfl]
theorem bf_len (sl : Addr) (w : Int) (s : Bool) : (bf sl w s).length = 3 := by rw [bf_eq]; rfl
theorem pf_bf (lh db sl : Addr) (m w : Int) (s : Bool) : pf lh db m ≠ bf sl w s := by
  rw [pf_eq, bf_eq]
  intro q
  injection q with q1 q2
  injection q1 with q3 q4
  exact s_hs q3

/-! ### the dict of the boxes -/
def dV (ba : Int → Addr) (bs : List (Int × Bx)) : List (Key × V) := bs.map fun e => ((Sum.inl e.1 : Key), V.ref (ba e.1))
theorem dV_cons (ba : Int → Addr) (e : Int × Bx) (bs : List (Int × Bx)) : dV ba (e :: bs) = ((Sum.inl e.1 : Key), V.ref (ba e.1)) :: dV ba bs := rfl
theorem valV_dV (ba : Int → Addr) (n : Int) : ∀ bs, valV (dV ba bs) (Sum.inl n : Key) = (get bs n).map fun _ => V.ref (ba n)
  | [] => rfl
  | e :: bs => by
    rw [dV_cons, get_cons]
    by_cases h : e.1 = n
    · rw [valV_pos (by rw [h]), if_pos h, h]
      rfl
    · rw [valV_neg (by intro q; injection q with q; exact h q), if_neg h]
      exact valV_dV ba n bs
theorem dV_len (ba : Int → Addr) (bs : List (Int × Bx)) : (dV ba bs).length = bs.length := List.length_map _
theorem dV_keys (ba : Int → Addr) (bs : List (Int × Bx)) : (dV ba bs).map (·.1) = (keys bs).map Sum.inl := by
  unfold dV keys
  rw [List.map_map, List.map_map]
  rfl
theorem dV_chg (ba : Int → Addr) (n : Int) (f : Bx → Bx) : ∀ bs, dV ba (chg bs n f) = dV ba bs
  | [] => rfl
  | e :: bs => by
    have ih := dV_chg ba n f bs
    have e1 : chg (e :: bs) n f = (if e.1 = n then (e.1, f e.2) else e) :: chg bs n f := rfl
    rw [e1, dV_cons, dV_cons, ih]
    by_cases h : e.1 = n <;> simp [h]
theorem dV_rm (ba : Int → Addr) (n : Int) : ∀ bs, dropK (dV ba bs) (Sum.inl n : Key) = dV ba (rm bs n)
  | [] => rfl
  | e :: bs => by
    have ih := dV_rm ba n bs
    rw [dV_cons]
    by_cases h : e.1 = n
    · have e1 : rm (e :: bs) n = rm bs n := by unfold rm; simp [List.filter_cons, h]
      rw [dropK_pos (by rw [h]), e1, ih]
    · have e1 : rm (e :: bs) n = e :: rm bs n := by unfold rm; simp [List.filter_cons, h]
      rw [dropK_neg (by intro q; injection q with q; exact h q), e1, ih]
      rfl
theorem dV_agree {ba bb : Int → Addr} : ∀ {bs : List (Int × Bx)}, (∀ n ∈ keys bs, ba n = bb n) → dV ba bs = dV bb bs
  | [], _ => rfl
  | e :: bs, h => by
    rw [dV_cons, dV_cons, h e.1 (by simp [keys]), dV_agree fun n hn => h n (by simp only [keys, List.map_cons, List.mem_cons]; exact .inr hn)]
theorem dV_snoc (ba : Int → Addr) (n : Int) (b : Bx) (bs : List (Int × Bx)) : dV ba (bs ++ [(n, b)]) = dV ba bs ++ [((Sum.inl n : Key), V.ref (ba n))] := by
  unfold dV
  rw [List.map_append]
  rfl

/-! ### the pile in the heap -/
/-- where the parts lie: the own dict, the hands' list, the boxes' dict, each box's own dict, each box, its slots' list -/
structure Geo where
  dx : Addr
  lh : Addr
  db : Addr
  bd : Int → Addr
  ba : Int → Addr
  sa : Int → Addr
/-- the pile P lies at p in H as g tells; R: what else of H is known, none of it the pile's -/
structure PileAt (C B p : Addr) (g : Geo) (P : Pl) (R H : Hp) : Prop where
  same : Same R H
  rp : R p = none
  rh : R g.lh = none
  rd : R g.db = none
  rb : ∀ n b, get P.boxes n = some b → R (g.ba n) = none
  rs : ∀ n b, get P.boxes n = some b → R (g.sa n) = none
  hp : H p = some (.ins C g.dx (pf g.lh g.db P.made))
  hh : H g.lh = some (.lst (lV P.hands))
  hd : H g.db = some (.dK (dV g.ba P.boxes))
  hb : ∀ n b, get P.boxes n = some b → H (g.ba n) = some (.ins B (g.bd n) (bf (g.sa n) b.wt b.sus))
  hs : ∀ n b, get P.boxes n = some b → H (g.sa n) = some (.lst (lV b.slots))
  ib : ∀ n m b c, get P.boxes n = some b → get P.boxes m = some c → g.ba n = g.ba m → n = m
  is : ∀ n m b c, get P.boxes n = some b → get P.boxes m = some c → g.sa n = g.sa m → n = m
  hn : ∀ n b, get P.boxes n = some b → g.sa n ≠ g.lh
section
variable {C B p : Addr} {g : Geo} {P : Pl} {R R' H : Hp}
theorem ins_ne_lst {C dx : Addr} {fs : List (Str × V)} {xs : List V} : HO.ins C dx fs ≠ HO.lst xs := by intro q; cases q
theorem ins_ne_dK {C dx : Addr} {fs : List (Str × V)} {xs : List (Key × V)} : HO.ins C dx fs ≠ HO.dK xs := by intro q; cases q
theorem lst_ne_dK {ys : List V} {xs : List (Key × V)} : HO.lst ys ≠ HO.dK xs := by intro q; cases q
theorem PileAt.p_lh (A : PileAt C B p g P R H) : p ≠ g.lh := ne_of A.hp A.hh ins_ne_lst
theorem PileAt.p_db (A : PileAt C B p g P R H) : p ≠ g.db := ne_of A.hp A.hd ins_ne_dK
theorem PileAt.lh_db (A : PileAt C B p g P R H) : g.lh ≠ g.db := ne_of A.hh A.hd lst_ne_dK
theorem PileAt.p_ba (A : PileAt C B p g P R H) {n : Int} {b : Bx} (h : get P.boxes n = some b) : p ≠ g.ba n := ne_of A.hp (A.hb n b h) fun q => by
  injection q with _ _ q
  exact pf_bf _ _ _ _ _ _ q
theorem PileAt.p_sa (A : PileAt C B p g P R H) {n : Int} {b : Bx} (h : get P.boxes n = some b) : p ≠ g.sa n := ne_of A.hp (A.hs n b h) ins_ne_lst
theorem PileAt.ba_lh (A : PileAt C B p g P R H) {n : Int} {b : Bx} (h : get P.boxes n = some b) : g.ba n ≠ g.lh := ne_of (A.hb n b h) A.hh ins_ne_lst
theorem PileAt.ba_db (A : PileAt C B p g P R H) {n : Int} {b : Bx} (h : get P.boxes n = some b) : g.ba n ≠ g.db := ne_of (A.hb n b h) A.hd ins_ne_dK
theorem PileAt.sa_db (A : PileAt C B p g P R H) {n : Int} {b : Bx} (h : get P.boxes n = some b) : g.sa n ≠ g.db := ne_of (A.hs n b h) A.hd lst_ne_dK
theorem PileAt.ba_sa (A : PileAt C B p g P R H) {n m : Int} {b c : Bx} (h : get P.boxes n = some b) (h2 : get P.boxes m = some c) : g.ba n ≠ g.sa m := ne_of (A.hb n b h) (A.hs m c h2) ins_ne_lst

/-- less is known -/
theorem PileAt.less (A : PileAt C B p g P R H) (s : Same R' R) : PileAt C B p g P R' H :=
  ⟨s.trans A.same, s.free A.rp, s.free A.rh, s.free A.rd, fun n b h => s.free (A.rb n b h), fun n b h => s.free (A.rs n b h), A.hp, A.hh, A.hd, A.hb, A.hs, A.ib, A.is, A.hn⟩
/-- the heap has grown -/
theorem PileAt.grow {H' : Hp} (A : PileAt C B p g P R H) (s : Same H H') : PileAt C B p g P R H' :=
  ⟨A.same.trans s, A.rp, A.rh, A.rd, A.rb, A.rs, s _ _ A.hp, s _ _ A.hh, s _ _ A.hd, fun n b e => s _ _ (A.hb n b e), fun n b e => s _ _ (A.hs n b e), A.ib, A.is, A.hn⟩
theorem same_upd {a : Addr} {o : HO} (h : R a = none) : Same R (upd R a o) := fun b u e => by
  rw [upd_ne (ne_of_none e h)]
  exact e
theorem upd_upd {a : Addr} {o u : HO} : upd (upd H a o) a u = upd H a u := by
  funext b
  by_cases h : b = a
  · rw [h, upd_same, upd_same]
  · rw [upd_ne h, upd_ne h, upd_ne h]
/-- a new object, known -/
theorem PileAt.new (A : PileAt C B p g P R H) {a : Addr} {o : HO} (h : H a = none) : PileAt C B p g P (upd R a o) (upd H a o) := by
  have n1 : ∀ {b u}, H b = some u → b ≠ a := fun e => ne_of_none e h
  refine ⟨fun b u e => ?_, ?_, ?_, ?_, fun n b e => ?_, fun n b e => ?_, ?_, ?_, ?_, fun n b e => ?_, fun n b e => ?_, A.ib, A.is, A.hn⟩
  · by_cases q : b = a
    · rw [q, upd_same] at e ⊢
      exact e
    · rw [upd_ne q] at e ⊢
      exact A.same b u e
  · rw [upd_ne (n1 A.hp)]; exact A.rp
  · rw [upd_ne (n1 A.hh)]; exact A.rh
  · rw [upd_ne (n1 A.hd)]; exact A.rd
  · rw [upd_ne (n1 (A.hb n b e))]; exact A.rb n b e
  · rw [upd_ne (n1 (A.hs n b e))]; exact A.rs n b e
  · rw [upd_ne (n1 A.hp)]; exact A.hp
  · rw [upd_ne (n1 A.hh)]; exact A.hh
  · rw [upd_ne (n1 A.hd)]; exact A.hd
  · rw [upd_ne (n1 (A.hb n b e))]; exact A.hb n b e
  · rw [upd_ne (n1 (A.hs n b e))]; exact A.hs n b e
/-- a known object is changed -/
theorem PileAt.set (A : PileAt C B p g P R H) {a : Addr} {o u : HO} (h : R a = some u) : PileAt C B p g P (upd R a o) (upd H a o) := by
  have n1 : ∀ {b}, R b = none → b ≠ a := fun e q => by rw [q, h] at e; cases e
  refine ⟨fun b u e => ?_, ?_, ?_, ?_, fun n b e => ?_, fun n b e => ?_, ?_, ?_, ?_, fun n b e => ?_, fun n b e => ?_, A.ib, A.is, A.hn⟩
  · by_cases q : b = a
    · rw [q, upd_same] at e ⊢
      exact e
    · rw [upd_ne q] at e ⊢
      exact A.same b u e
  · rw [upd_ne (n1 A.rp)]; exact A.rp
  · rw [upd_ne (n1 A.rh)]; exact A.rh
  · rw [upd_ne (n1 A.rd)]; exact A.rd
  · rw [upd_ne (n1 (A.rb n b e))]; exact A.rb n b e
  · rw [upd_ne (n1 (A.rs n b e))]; exact A.rs n b e
  · rw [upd_ne (n1 A.rp)]; exact A.hp
  · rw [upd_ne (n1 A.rh)]; exact A.hh
  · rw [upd_ne (n1 A.rd)]; exact A.hd
  · rw [upd_ne (n1 (A.rb n b e))]; exact A.hb n b e
  · rw [upd_ne (n1 (A.rs n b e))]; exact A.hs n b e
/-- a hand is set -/
theorem PileAt.hand (A : PileAt C B p g P R H) (hs : List (Option Int)) : PileAt C B p g { P with hands := hs } R (upd H g.lh (.lst (lV hs))) :=
  ⟨fun b u e => by rw [upd_ne (ne_of_none e A.rh)]; exact A.same b u e, A.rp, A.rh, A.rd, A.rb, A.rs, by rw [upd_ne A.p_lh]; exact A.hp, upd_same, by rw [upd_ne A.lh_db.symm]; exact A.hd,
    fun n b e => by rw [upd_ne (A.ba_lh e)]; exact A.hb n b e, fun n b e => by rw [upd_ne (A.hn n b e)]; exact A.hs n b e, A.ib, A.is, A.hn⟩
/-- what is known of the box n is changed, its slots are not -/
theorem PileAt.box (A : PileAt C B p g P R H) {n : Int} {b : Bx} (hb : get P.boxes n = some b) (f : Bx → Bx) (hf : (f b).slots = b.slots) :
    PileAt C B p g { P with boxes := chg P.boxes n f } R (upd H (g.ba n) (.ins B (g.bd n) (bf (g.sa n) (f b).wt (f b).sus))) := by
  have old : ∀ {m c}, get (chg P.boxes n f) m = some c → ∃ d, get P.boxes m = some d ∧ c = (if m = n then f d else d) := fun {m c} e => by
    rw [get_chg] at e
    cases q : get P.boxes m with
    | none => rw [q] at e; cases e
    | some d =>
      rw [q] at e
      exact ⟨d, rfl, (Option.some.inj e).symm⟩
  refine ⟨fun c u e => ?_, A.rp, A.rh, A.rd, fun m c e => ?_, fun m c e => ?_, ?_, ?_, ?_, fun m c e => ?_, fun m c e => ?_, fun m k c d e1 e2 => ?_, fun m k c d e1 e2 => ?_, fun m c e => ?_⟩
  · rw [upd_ne (ne_of_none e (A.rb n b hb))]; exact A.same c u e
  · obtain ⟨d, hd, _⟩ := old e; exact A.rb m d hd
  · obtain ⟨d, hd, _⟩ := old e; exact A.rs m d hd
  · rw [upd_ne (A.p_ba hb)]; exact A.hp
  · rw [upd_ne (A.ba_lh hb).symm]; exact A.hh
  · rw [upd_ne (A.ba_db hb).symm]
    show H g.db = some (.dK (dV g.ba (chg P.boxes n f)))
    rw [dV_chg]; exact A.hd
  · obtain ⟨d, hd, rfl⟩ := old e
    by_cases q : m = n
    · subst q
      have : d = b := Option.some.inj (hd.symm.trans hb)
      subst this
      rw [upd_same, if_pos rfl]
    · rw [if_neg q, upd_ne (fun z => q (A.ib m n d b hd hb z))]
      exact A.hb m d hd
  · obtain ⟨d, hd, rfl⟩ := old e
    rw [upd_ne (A.ba_sa hb hd).symm, A.hs m d hd]
    by_cases q : m = n
    · subst q
      have : d = b := Option.some.inj (hd.symm.trans hb)
      subst this
      rw [if_pos rfl, hf]
    · rw [if_neg q]
  · obtain ⟨d1, h1, _⟩ := old e1
    obtain ⟨d2, h2, _⟩ := old e2
    exact A.ib m k d1 d2 h1 h2
  · obtain ⟨d1, h1, _⟩ := old e1
    obtain ⟨d2, h2, _⟩ := old e2
    exact A.is m k d1 d2 h1 h2
  · obtain ⟨d, hd, _⟩ := old e; exact A.hn m d hd
/-- a slot of the box n is set -/
theorem PileAt.slot (A : PileAt C B p g P R H) {n : Int} {b : Bx} (hb : get P.boxes n = some b) (i : Nat) (x : Option Int) :
    PileAt C B p g { P with boxes := chg P.boxes n (setSlot i x) } R (upd H (g.sa n) (.lst (lV (b.slots.set i x)))) := by
  have old : ∀ {m c}, get (chg P.boxes n (setSlot i x)) m = some c → ∃ d, get P.boxes m = some d ∧ c = (if m = n then setSlot i x d else d) := fun {m c} e => by
    rw [get_chg] at e
    cases q : get P.boxes m with
    | none => rw [q] at e; cases e
    | some d =>
      rw [q] at e
      exact ⟨d, rfl, (Option.some.inj e).symm⟩
  refine ⟨fun c u e => ?_, A.rp, A.rh, A.rd, fun m c e => ?_, fun m c e => ?_, ?_, ?_, ?_, fun m c e => ?_, fun m c e => ?_, fun m k c d e1 e2 => ?_, fun m k c d e1 e2 => ?_, fun m c e => ?_⟩
  · rw [upd_ne (ne_of_none e (A.rs n b hb))]; exact A.same c u e
  · obtain ⟨d, hd, _⟩ := old e; exact A.rb m d hd
  · obtain ⟨d, hd, _⟩ := old e; exact A.rs m d hd
  · rw [upd_ne (A.p_sa hb)]; exact A.hp
  · rw [upd_ne (A.hn n b hb).symm]; exact A.hh
  · rw [upd_ne (A.sa_db hb).symm]
    show H g.db = some (.dK (dV g.ba (chg P.boxes n (setSlot i x))))
    rw [dV_chg]; exact A.hd
  · obtain ⟨d, hd, rfl⟩ := old e
    rw [upd_ne (A.ba_sa hd hb), A.hb m d hd]
    by_cases q : m = n
    · rw [if_pos q]; rfl
    · rw [if_neg q]
  · obtain ⟨d, hd, rfl⟩ := old e
    by_cases q : m = n
    · subst q
      have : d = b := Option.some.inj (hd.symm.trans hb)
      subst this
      rw [upd_same, if_pos rfl]
      rfl
    · rw [if_neg q, upd_ne (fun z => q (A.is m n d b hd hb z))]
      exact A.hs m d hd
  · obtain ⟨d1, h1, _⟩ := old e1
    obtain ⟨d2, h2, _⟩ := old e2
    exact A.ib m k d1 d2 h1 h2
  · obtain ⟨d1, h1, _⟩ := old e1
    obtain ⟨d2, h2, _⟩ := old e2
    exact A.is m k d1 d2 h1 h2
  · obtain ⟨d, hd, _⟩ := old e; exact A.hn m d hd
/-- a box goes -/
theorem PileAt.del (A : PileAt C B p g P R H) (n : Int) : PileAt C B p g { P with boxes := rm P.boxes n } R (upd H g.db (.dK (dropK (dV g.ba P.boxes) (Sum.inl n)))) := by
  have old : ∀ {m c}, get (rm P.boxes n) m = some c → get P.boxes m = some c := fun {m c} e => by
    rw [get_rm] at e
    by_cases q : m = n
    · rw [if_pos q] at e; cases e
    · rw [if_neg q] at e; exact e
  refine ⟨fun c u e => ?_, A.rp, A.rh, A.rd, fun m c e => A.rb m c (old e), fun m c e => A.rs m c (old e), ?_, ?_, ?_, fun m c e => ?_, fun m c e => ?_, fun m k c d e1 e2 => A.ib m k c d (old e1) (old e2), fun m k c d e1 e2 => A.is m k c d (old e1) (old e2), fun m c e => A.hn m c (old e)⟩
  · rw [upd_ne (ne_of_none e A.rd)]; exact A.same c u e
  · rw [upd_ne A.p_db]; exact A.hp
  · rw [upd_ne A.lh_db]; exact A.hh
  · rw [upd_same, dV_rm]
  · rw [upd_ne (A.ba_db (old e))]; exact A.hb m c (old e)
  · rw [upd_ne (A.sa_db (old e))]; exact A.hs m c (old e)
/-- one more is made -/
theorem PileAt.count (A : PileAt C B p g P R H) (m : Int) : PileAt C B p g { P with made := m } R (upd H p (.ins C g.dx (pf g.lh g.db m))) := by
  refine ⟨fun c u e => ?_, A.rp, A.rh, A.rd, A.rb, A.rs, upd_same, ?_, ?_, fun m c e => ?_, fun m c e => ?_, A.ib, A.is, A.hn⟩
  · rw [upd_ne (ne_of_none e A.rp)]; exact A.same c u e
  · rw [upd_ne A.p_lh.symm]; exact A.hh
  · rw [upd_ne A.p_db.symm]; exact A.hd
  · rw [upd_ne (A.p_ba e).symm]; exact A.hb m c e
  · rw [upd_ne (A.p_sa e).symm]; exact A.hs m c e
/-- a new box, known till now as an object of its own, is laid into the dict -/
theorem PileAt.add (A : PileAt C B p g P R H) {n : Int} {b : Bx} {x dx sl : Addr} (hn : get P.boxes n = none) (hx : R x = some (.ins B dx (bf sl b.wt b.sus))) (hsl : R sl = some (.lst (lV b.slots))) (hR : Same R' R) (rx : R' x = none) (rsl : R' sl = none) :
    PileAt C B p { g with bd := fun m => if m = n then dx else g.bd m, ba := fun m => if m = n then x else g.ba m, sa := fun m => if m = n then sl else g.sa m } { P with boxes := P.boxes ++ [(n, b)] } R' (upd H g.db (.dK (putK (dV g.ba P.boxes) (Sum.inl n) (.ref x)))) := by
  have hx' := A.same _ _ hx
  have hsl' := A.same _ _ hsl
  have gm : ∀ m, get (P.boxes ++ [(n, b)]) m = if m = n then some b else get P.boxes m := fun m => by
    rw [get_snoc]
    by_cases q : m = n
    · rw [q, hn, if_pos rfl]
    · have : ¬ n = m := fun z => q z.symm
      rw [if_neg q]
      cases get P.boxes m <;> simp [this]
  have old : ∀ {m c}, get (P.boxes ++ [(n, b)]) m = some c → (m = n ∧ c = b) ∨ (m ≠ n ∧ get P.boxes m = some c) := fun {m c} e => by
    rw [gm] at e
    by_cases q : m = n
    · rw [if_pos q] at e; exact .inl ⟨q, (Option.some.inj e).symm⟩
    · rw [if_neg q] at e; exact .inr ⟨q, e⟩
  have nba : ∀ {m c}, get P.boxes m = some c → g.ba m ≠ x := fun e q => by have := A.rb _ _ e; rw [q, hx] at this; cases this
  have nsa : ∀ {m c}, get P.boxes m = some c → g.sa m ≠ sl := fun e q => by have := A.rs _ _ e; rw [q, hsl] at this; cases this
  refine ⟨fun c u e => ?_, hR.free A.rp, hR.free A.rh, hR.free A.rd, fun m c e => ?_, fun m c e => ?_, ?_, ?_, ?_, fun m c e => ?_, fun m c e => ?_, fun m k c d e1 e2 => ?_, fun m k c d e1 e2 => ?_, fun m c e => ?_⟩
  · show upd H g.db _ c = _
    rw [upd_ne (ne_of_none e (hR.free A.rd))]; exact A.same c u (hR c u e)
  · show R' (if m = n then x else g.ba m) = none
    rcases old e with ⟨rfl, _⟩ | ⟨q, e'⟩
    · rw [if_pos rfl]; exact rx
    · rw [if_neg q]; exact hR.free (A.rb m c e')
  · show R' (if m = n then sl else g.sa m) = none
    rcases old e with ⟨rfl, _⟩ | ⟨q, e'⟩
    · rw [if_pos rfl]; exact rsl
    · rw [if_neg q]; exact hR.free (A.rs m c e')
  · show upd H g.db _ p = _
    rw [upd_ne A.p_db]; exact A.hp
  · show upd H g.db _ g.lh = _
    rw [upd_ne A.lh_db]; exact A.hh
  · show upd H g.db _ g.db = _
    rw [upd_same, putK_new _ (by rw [valV_dV, hn]; rfl)]
    show some (HO.dK (dV g.ba P.boxes ++ [((Sum.inl n : Key), V.ref x)])) = some (HO.dK (dV (fun m => if m = n then x else g.ba m) (P.boxes ++ [(n, b)])))
    rw [dV_snoc, dV_agree (ba := fun m => if m = n then x else g.ba m) (bb := g.ba) (fun m hm => by
      have : m ≠ n := fun z => by rw [z] at hm; exact get_none.mp hn hm
      show (if m = n then x else g.ba m) = _
      rw [if_neg this])]
    show _ = some (HO.dK (dV g.ba P.boxes ++ [((Sum.inl n : Key), V.ref (if n = n then x else g.ba n))]))
    rw [if_pos rfl]
  · show upd H g.db _ (if m = n then x else g.ba m) = some (.ins B (if m = n then dx else g.bd m) (bf (if m = n then sl else g.sa m) c.wt c.sus))
    rcases old e with ⟨rfl, rfl⟩ | ⟨q, e'⟩
    · rw [if_pos rfl, if_pos rfl, if_pos rfl, upd_ne (ne_of hx' A.hd ins_ne_dK)]; exact hx'
    · rw [if_neg q, if_neg q, if_neg q, upd_ne (A.ba_db e')]; exact A.hb m c e'
  · show upd H g.db _ (if m = n then sl else g.sa m) = some (.lst (lV c.slots))
    rcases old e with ⟨rfl, rfl⟩ | ⟨q, e'⟩
    · rw [if_pos rfl, upd_ne (ne_of hsl' A.hd lst_ne_dK)]; exact hsl'
    · rw [if_neg q, upd_ne (A.sa_db e')]; exact A.hs m c e'
  · show (if m = n then x else g.ba m) = (if k = n then x else g.ba k) → m = k
    rcases old e1 with ⟨rfl, _⟩ | ⟨q1, h1⟩
    · rcases old e2 with ⟨rfl, _⟩ | ⟨q2, h2⟩
      · intro _; rfl
      · rw [if_pos rfl, if_neg q2]
        intro z
        exact absurd z.symm (nba h2)
    · rcases old e2 with ⟨rfl, _⟩ | ⟨q2, h2⟩
      · rw [if_pos rfl, if_neg q1]
        intro z
        exact absurd z (nba h1)
      · rw [if_neg q1, if_neg q2]
        exact A.ib m k c d h1 h2
  · show (if m = n then sl else g.sa m) = (if k = n then sl else g.sa k) → m = k
    rcases old e1 with ⟨rfl, _⟩ | ⟨q1, h1⟩
    · rcases old e2 with ⟨rfl, _⟩ | ⟨q2, h2⟩
      · intro _; rfl
      · rw [if_pos rfl, if_neg q2]
        intro z
        exact absurd z.symm (nsa h2)
    · rcases old e2 with ⟨rfl, _⟩ | ⟨q2, h2⟩
      · rw [if_pos rfl, if_neg q1]
        intro z
        exact absurd z (nsa h1)
      · rw [if_neg q1, if_neg q2]
        exact A.is m k c d h1 h2
  · show (if m = n then sl else g.sa m) ≠ g.lh
    rcases old e with ⟨rfl, _⟩ | ⟨q, e'⟩
    · rw [if_pos rfl]
      intro z
      have := A.rh
      rw [← z, hsl] at this
      cases this
    · rw [if_neg q]; exact A.hn m c e'
end
/-- the pile P lies at p, its weights right; R: what else is known -/
def PileIn (C B p : Addr) (P : Pl) (R H : Hp) : Prop := (∃ g, PileAt C B p g P R H) ∧ Wf P []
end BP

/-! Piles whose slots are all empty. Own work; core Lean alone. -/
namespace BP
theorem go_nones : ∀ {m : Nat} {bs : List (Int × Bx)} {w : List (Option Int)}, (∀ x ∈ w, x = none) → go m bs w = (bs, [])
  | 0, bs, w, _ => rfl
  | m + 1, bs, [], _ => rfl
  | m + 1, bs, x :: w, h => by
    have e : x = none := h x List.mem_cons_self
    subst e
    show ((go m bs w).1, [] ++ (go m bs w).2) = (bs, [])
    rw [go_nones fun y hy => h y (List.mem_cons_of_mem _ hy)]
    rfl
theorem run_none (bs : List (Int × Bx)) : run bs [none] = (bs, []) := go_nones fun x hx => by simpa using hx
/-- a box without pointers of its own is let go -/
theorem run_some {bs : List (Int × Bx)} {n : Int} {b : Bx} (hb : get bs n = some b) (h0 : ∀ x ∈ b.slots, x = none) : run bs [some n] = if b.wt = 1 then (rm bs n, [n]) else (chg bs n low, []) := by
  show go (1 + room bs) bs [some n] = _
  rw [Nat.add_comm]
  show ((go (room bs) (fall bs [] (some n)).1 (fall bs [] (some n)).2.1).1, (fall bs [] (some n)).2.2 ++ (go (room bs) (fall bs [] (some n)).1 (fall bs [] (some n)).2.1).2) = _
  have ef : fall bs [] (some n) = if b.wt = 1 then (rm bs n, b.slots, [n]) else (chg bs n low, [], []) := by
    show (match get bs n with | none => _ | some b => _) = _
    rw [hb]
    rfl
  rw [ef]
  by_cases hw : b.wt = 1
  · rw [if_pos hw, if_pos hw, go_nones h0]
    rfl
  · rw [if_neg hw, if_neg hw, go_nones (fun x hx => by cases hx)]
    rfl
/-- all slots are empty -/
def Bare (P : Pl) : Prop := ∀ n b, get P.boxes n = some b → ∀ x ∈ b.slots, x = none
theorem cnt_nones {l : List (Option Int)} (h : ∀ x ∈ l, x = none) (n : Int) : cnt l n = 0 := by
  cases e : cnt l n with
  | zero => rfl
  | succ k =>
    have : 0 < cnt l n := by omega
    have := h _ (cnt_pos.mp this)
    cases this
theorem scnt_bare {bs : List (Int × Bx)} (hn : (keys bs).Nodup) (h : ∀ n b, get bs n = some b → ∀ x ∈ b.slots, x = none) (n : Int) : scnt bs n = 0 := by
  have h' : ∀ e ∈ bs, ∀ x ∈ e.2.slots, x = none := fun e he => h e.1 e.2 (mem_get hn he)
  clear h hn
  induction bs with
  | nil => rfl
  | cons e bs ih =>
    rw [scnt_cons, cnt_nones (h' e List.mem_cons_self), ih fun e he => h' e (List.mem_cons_of_mem _ he)]
theorem Bare.wt {P : Pl} (h : Bare P) (W : Wf P []) {n : Int} {b : Bx} (hb : get P.boxes n = some b) : b.wt = (cnt P.hands n : Int) ∧ 1 ≤ b.wt := by
  obtain ⟨a, c⟩ := W.wt n b hb
  rw [scnt_bare W.nd h n, cnt_nil] at a
  exact ⟨by omega, c⟩
theorem Bare.held {P : Pl} (h : Bare P) (W : Wf P []) (n : Int) : n ∈ keys P.boxes ↔ some n ∈ P.hands := by
  constructor
  · intro q
    obtain ⟨b, hb⟩ := get_keys.mpr q
    obtain ⟨a, c⟩ := h.wt W hb
    exact cnt_pos.mp (by omega)
  · intro q
    have := cnt_pos.mpr q
    exact get_keys.mp (W.cl n (by omega))
/-- what the hands hold, without the empty ones -/
def somes (hs : List (Option Int)) : List Int := hs.filterMap id
theorem mem_somes {hs : List (Option Int)} {n : Int} : n ∈ somes hs ↔ some n ∈ hs := by
  unfold somes
  rw [List.mem_filterMap]
  constructor
  · rintro ⟨x, hx, e⟩
    have : x = some n := e
    rw [← this]
    exact hx
  · intro h
    exact ⟨_, h, rfl⟩
theorem somes_len (hs : List (Option Int)) : (somes hs).length ≤ hs.length := List.length_filterMap_le _ _
theorem somes_cons (x : Option Int) (hs : List (Option Int)) : somes (x :: hs) = (match x with | none => somes hs | some n => n :: somes hs) := by
  cases x <;> rfl
theorem somes_append (a b : List (Option Int)) : somes (a ++ b) = somes a ++ somes b := List.filterMap_append
theorem count_somes (n : Int) : ∀ hs : List (Option Int), (somes hs).count n = cnt hs n
  | [] => rfl
  | x :: hs => by
    rw [somes_cons, cnt_cons, ← count_somes n hs]
    cases x with
    | none => simp [one]
    | some m =>
      show (m :: somes hs).count n = _
      rw [List.count_cons]
      by_cases q : m = n
      · simp [one, q]; omega
      · simp [one, q]
/-- as many alive as hands at most -/
theorem nodup_le {a : List Int} : ∀ {b : List Int}, a.Nodup → (∀ n ∈ a, n ∈ b) → a.length ≤ b.length := by
  induction a with
  | nil => intro b _ _; exact Nat.zero_le _
  | cons x a ih =>
    intro b hn h
    have hx := h x List.mem_cons_self
    have hn' := List.nodup_cons.mp hn
    have := ih (b := b.erase x) hn'.2 fun n q => (List.mem_erase_of_ne (fun z => hn'.1 (by rw [← z]; exact q))).mpr (h n (List.mem_cons_of_mem _ q))
    rw [List.length_erase_of_mem hx] at this
    have : 0 < b.length := List.length_pos_of_mem hx
    rw [List.length_cons]
    omega
theorem Bare.few {P : Pl} (h : Bare P) (W : Wf P []) : P.boxes.length ≤ 8 := by
  have e : (keys P.boxes).length = P.boxes.length := List.length_map _
  have h1 := nodup_le (b := somes P.hands) W.nd fun n q => mem_somes.mpr ((h.held W n).mp q)
  have h2 := somes_len P.hands
  rw [W.hl] at h2
  omega

/-! ### a box made -/
theorem Bare.born {P : Pl} (h : Bare P) (W : Wf P []) (size : Nat) : Bare (born P size) := fun n b e => by
  rw [get_born W size] at e
  by_cases q : n = P.made
  · rw [if_pos q] at e
    have := Option.some.inj e
    subst this
    intro x hx
    exact List.eq_of_mem_replicate hx
  · rw [if_neg q] at e
    exact h n b e
theorem slots_bumped {bs : List (Int × Bx)} {x : Option Int} (h : ∀ n b, get bs n = some b → ∀ y ∈ b.slots, y = none) : ∀ n b, get (bumped bs x) n = some b → ∀ y ∈ b.slots, y = none := fun n b e => by
  rw [get_bumped] at e
  cases g : get bs n with
  | none => rw [g] at e; cases e
  | some d =>
    rw [g] at e
    have e2 : (if x = some n then bump d else d) = b := Option.some.inj e
    subst e2
    have := h n d g
    by_cases q : x = some n
    · rw [if_pos q]; exact this
    · rw [if_neg q]; exact this
/-- a hand points at x: what becomes of the pile whose slots are empty -/
theorem ptHand_none {P : Pl} {h : Nat} {x : Option Int} (e : P.hands.getD h none = none) : ptHand P h x = ({ P with hands := P.hands.set h x, boxes := bumped P.boxes x }, []) := by
  unfold ptHand
  rw [e, run_none]
theorem ptHand_some {P : Pl} {h : Nat} {x : Option Int} {n : Int} {b : Bx} (B : Bare P) (e : P.hands.getD h none = some n) (hb : get P.boxes n = some b) :
    ptHand P h x = if (if x = some n then b.wt + 1 else b.wt) = 1 then ({ P with hands := P.hands.set h x, boxes := rm (bumped P.boxes x) n }, [n]) else ({ P with hands := P.hands.set h x, boxes := chg (bumped P.boxes x) n low }, []) := by
  have hb' : get (bumped P.boxes x) n = some (if x = some n then bump b else b) := by rw [get_bumped, hb]; rfl
  unfold ptHand
  rw [e, run_some hb' (slots_bumped B n _ hb')]
  have : (if x = some n then bump b else b).wt = (if x = some n then b.wt + 1 else b.wt) := by
    by_cases q : x = some n
    · rw [if_pos q, if_pos q]; rfl
    · rw [if_neg q, if_neg q]
  rw [this]
  by_cases q : (if x = some n then b.wt + 1 else b.wt) = 1
  · rw [if_pos q, if_pos q]
  · rw [if_neg q, if_neg q]
/-! ### each alive box is held once, none is a suspect -/
def lone : Option Int → List Int
  | none => []
  | some n => [n]
def One (P : Pl) : Prop := Bare P ∧ ∀ n b, get P.boxes n = some b → b.wt = 1 ∧ b.sus = false
theorem mk_one {P : Pl} (W : Wf P []) (O : One P) {h size : Nat} (hi : h < 8) (hs : size ≤ 6) :
    One (mk P h size).1 ∧ (mk P h size).1.hands = P.hands.set h (some P.made) ∧ (mk P h size).1.made = P.made + 1 ∧ (mk P h size).2 = lone (P.hands.getD h none) ∧
      get (mk P h size).1.boxes P.made = some ⟨List.replicate size none, 1, false⟩ := by
  have gb : ∀ n, get (bumped (born P size).boxes (some P.made)) n = if n = P.made then some ⟨List.replicate size none, 1, false⟩ else get P.boxes n := fun n => by
    rw [get_bumped, get_born W]
    by_cases q : n = P.made
    · rw [if_pos q, if_pos q, q]
      show some (if some P.made = some P.made then _ else _) = _
      rw [if_pos rfl]
      rfl
    · rw [if_neg q, if_neg q]
      cases get P.boxes n with
      | none => rfl
      | some b =>
        show some (if some P.made = some n then _ else _) = _
        rw [if_neg fun z => q (Option.some.inj z).symm]
  have one : ∀ n b, (if n = P.made then some (⟨List.replicate size none, 1, false⟩ : Bx) else get P.boxes n) = some b → (b.wt = 1 ∧ b.sus = false) ∧ ∀ x ∈ b.slots, x = none := fun n b e => by
    by_cases q : n = P.made
    · rw [if_pos q] at e
      have := Option.some.inj e
      subst this
      exact ⟨⟨rfl, rfl⟩, fun x hx => List.eq_of_mem_replicate hx⟩
    · rw [if_neg q] at e
      exact ⟨O.2 n b e, O.1 n b e⟩
  unfold mk
  cases e : P.hands.getD h none with
  | none =>
    rw [ptHand_none (P := born P size) e]
    refine ⟨⟨fun n b g => ?_, fun n b g => ?_⟩, rfl, rfl, rfl, ?_⟩
    · have g' := (gb n).symm.trans g
      exact (one n b g').2
    · have g' := (gb n).symm.trans g
      exact (one n b g').1
    · exact (gb P.made).trans (if_pos rfl)
  | some n =>
    obtain ⟨b, hb⟩ := W.hand e
    have nm : n ≠ P.made := fun z => by
      have := (W.lo n (get_keys.mp ⟨b, hb⟩)).2
      omega
    have hb' : get (born P size).boxes n = some b := by rw [get_born W, if_neg nm]; exact hb
    have nx : ¬ (some P.made = some n) := fun z => nm (Option.some.inj z).symm
    rw [ptHand_some (P := born P size) (Bare.born O.1 W size) e hb', if_neg nx, if_pos (O.2 n b hb).1]
    have gr : ∀ m, get (rm (bumped (born P size).boxes (some P.made)) n) m = if m = n then none else (if m = P.made then some ⟨List.replicate size none, 1, false⟩ else get P.boxes m) := fun m => by
      rw [get_rm, gb]
    refine ⟨⟨fun m c g => ?_, fun m c g => ?_⟩, rfl, rfl, rfl, ?_⟩
    · have g' := (gr m).symm.trans g
      by_cases q : m = n
      · rw [if_pos q] at g'; cases g'
      · rw [if_neg q] at g'
        exact (one m c g').2
    · have g' := (gr m).symm.trans g
      by_cases q : m = n
      · rw [if_pos q] at g'; cases g'
      · rw [if_neg q] at g'
        exact (one m c g').1
    · exact (gr P.made).trans (by rw [if_neg nm.symm, if_pos rfl])
theorem count_nodup {l : List Int} (h : l.Nodup) (n : Int) : l.count n = if n ∈ l then 1 else 0 := by
  by_cases q : n ∈ l
  · rw [if_pos q]
    have h1 := List.count_pos_iff.mpr q
    have h2 := List.nodup_iff_count.mp h n
    omega
  · rw [if_neg q]
    exact List.count_eq_zero.mpr q
/-- what is alive is what hands hold, each once -/
theorem One.perm {P : Pl} (W : Wf P []) (O : One P) : (somes P.hands).Perm (keys P.boxes) := by
  rw [List.perm_iff_count]
  intro n
  rw [count_somes, count_nodup W.nd]
  by_cases q : n ∈ keys P.boxes
  · rw [if_pos q]
    obtain ⟨b, hb⟩ := get_keys.mpr q
    have h1 := (O.1.wt W hb).1
    rw [(O.2 n b hb).1] at h1
    omega
  · rw [if_neg q]
    have := mt (O.1.held W n).mpr q
    cases e : cnt P.hands n with
    | zero => rfl
    | succ k => exact absurd (cnt_pos.mp (by omega)) this
theorem one0 : One pl0 := ⟨fun n b e => by simp [pl0, get_nil] at e, fun n b e => by simp [pl0, get_nil] at e⟩
end BP

/-! Two boxes that two hands hold for good. Own work; core Lean alone. -/
namespace BP
theorem run_stay {bs : List (Int × Bx)} {n : Int} {b : Bx} (hb : get bs n = some b) (hw : b.wt ≠ 1) : run bs [some n] = (chg bs n low, []) := by
  show go (1 + room bs) bs [some n] = _
  rw [Nat.add_comm]
  show ((go (room bs) (fall bs [] (some n)).1 (fall bs [] (some n)).2.1).1, (fall bs [] (some n)).2.2 ++ (go (room bs) (fall bs [] (some n)).1 (fall bs [] (some n)).2.1).2) = _
  have ef : fall bs [] (some n) = (chg bs n low, [], []) := by
    show (match get bs n with | none => _ | some b => _) = _
    rw [hb]
    show (if b.wt = 1 then _ else _) = _
    rw [if_neg hw]
  rw [ef, go_nones (fun x hx => by cases hx)]
  rfl
/-- the two boxes, by their slots -/
def Shape (bs : List (Int × Bx)) (s0 s1 : List (Option Int)) : Prop := ∃ b0 b1 : Bx, bs = [(0, b0), (1, b1)] ∧ b0.slots = s0 ∧ b1.slots = s1
theorem Shape.chg {bs : List (Int × Bx)} {s0 s1 : List (Option Int)} (h : Shape bs s0 s1) (n : Int) (f : Bx → Bx) (hf : ∀ b, (f b).slots = b.slots) : Shape (chg bs n f) s0 s1 := by
  obtain ⟨b0, b1, rfl, e0, e1⟩ := h
  refine ⟨if (0 : Int) = n then f b0 else b0, if (1 : Int) = n then f b1 else b1, ?_, ?_, ?_⟩
  · show [if (0 : Int) = n then (0, f b0) else (0, b0), if (1 : Int) = n then (1, f b1) else (1, b1)] = _
    by_cases q : (0 : Int) = n
    · by_cases q2 : (1 : Int) = n
      · omega
      · rw [if_pos q, if_pos q, if_neg q2, if_neg q2]
    · by_cases q2 : (1 : Int) = n
      · rw [if_neg q, if_neg q, if_pos q2, if_pos q2]
      · rw [if_neg q, if_neg q, if_neg q2, if_neg q2]
  · by_cases q : (0 : Int) = n
    · rw [if_pos q, hf]; exact e0
    · rw [if_neg q]; exact e0
  · by_cases q : (1 : Int) = n
    · rw [if_pos q, hf]; exact e1
    · rw [if_neg q]; exact e1
theorem Shape.bumped {bs : List (Int × Bx)} {s0 s1 : List (Option Int)} (h : Shape bs s0 s1) (x : Option Int) : Shape (bumped bs x) s0 s1 := by
  cases x with
  | none => exact h
  | some n => exact h.chg n bump fun _ => rfl
theorem Shape.low {bs : List (Int × Bx)} {s0 s1 : List (Option Int)} (h : Shape bs s0 s1) (n : Int) : Shape (BP.chg bs n BP.low) s0 s1 := h.chg n BP.low fun _ => rfl
theorem Shape.set {bs : List (Int × Bx)} {s0 s1 : List (Option Int)} (h : Shape bs s0 s1) (n : Int) (i : Nat) (x : Option Int) :
    Shape (BP.chg bs n (setSlot i x)) (if n = 0 then s0.set i x else s0) (if n = 1 then s1.set i x else s1) := by
  obtain ⟨b0, b1, rfl, rfl, rfl⟩ := h
  refine ⟨if (0 : Int) = n then setSlot i x b0 else b0, if (1 : Int) = n then setSlot i x b1 else b1, ?_, ?_, ?_⟩
  · show [if (0 : Int) = n then (0, setSlot i x b0) else (0, b0), if (1 : Int) = n then (1, setSlot i x b1) else (1, b1)] = _
    by_cases q : (0 : Int) = n
    · by_cases q2 : (1 : Int) = n
      · omega
      · rw [if_pos q, if_pos q, if_neg q2, if_neg q2]
    · by_cases q2 : (1 : Int) = n
      · rw [if_neg q, if_neg q, if_pos q2, if_pos q2]
      · rw [if_neg q, if_neg q, if_neg q2, if_neg q2]
  · by_cases q : (0 : Int) = n
    · rw [if_pos q, if_pos q.symm]; rfl
    · rw [if_neg q, if_neg fun z => q z.symm]
  · by_cases q : (1 : Int) = n
    · rw [if_pos q, if_pos q.symm]; rfl
    · rw [if_neg q, if_neg fun z => q z.symm]
theorem Shape.keys {bs : List (Int × Bx)} {s0 s1 : List (Option Int)} (h : Shape bs s0 s1) : keys bs = [0, 1] := by
  obtain ⟨b0, b1, rfl, _, _⟩ := h
  rfl
theorem Shape.get0 {bs : List (Int × Bx)} {s0 s1 : List (Option Int)} (h : Shape bs s0 s1) : ∃ b, get bs 0 = some b ∧ b.slots = s0 := by
  obtain ⟨b0, b1, rfl, e, _⟩ := h
  exact ⟨b0, rfl, e⟩
theorem Shape.get1 {bs : List (Int × Bx)} {s0 s1 : List (Option Int)} (h : Shape bs s0 s1) : ∃ b, get bs 1 = some b ∧ b.slots = s1 := by
  obtain ⟨b0, b1, rfl, _, e⟩ := h
  exact ⟨b1, rfl, e⟩
theorem Shape.scnt {bs : List (Int × Bx)} {s0 s1 : List (Option Int)} (h : Shape bs s0 s1) (n : Int) : scnt bs n = cnt s0 n + cnt s1 n := by
  obtain ⟨b0, b1, rfl, rfl, rfl⟩ := h
  rw [scnt_cons, scnt_cons, scnt_nil]
  rfl
/-- two boxes, held by hands 6 and 7 -/
structure Two (P : Pl) (s0 s1 : List (Option Int)) : Prop where
  wf : Wf P []
  sh : Shape P.boxes s0 s1
  h6 : P.hands.getD 6 none = some 0
  h7 : P.hands.getD 7 none = some 1
theorem Two.alive {P : Pl} {s0 s1 : List (Option Int)} (h : Two P s0 s1) {n : Int} {b : Bx} (hb : get P.boxes n = some b) : n = 0 ∨ n = 1 := by
  have := get_keys.mp ⟨b, hb⟩
  rw [h.sh.keys] at this
  simpa using this
theorem held67 {hs : List (Option Int)} (h6 : hs.getD 6 none = some 0) (h7 : hs.getD 7 none = some 1) {n : Int} (hn : n = 0 ∨ n = 1) : 1 ≤ cnt hs n := by
  have mem : ∀ i k, hs.getD i none = some k → some k ∈ hs := fun i k e => by
    rw [List.getD_eq_getElem?_getD] at e
    cases q : hs[i]? with
    | none => rw [q] at e; cases e
    | some y =>
      rw [q] at e
      have : y = some k := e
      rw [← this]
      exact List.mem_of_getElem? q
  rcases hn with rfl | rfl
  · exact cnt_pos.mpr (mem _ _ h6)
  · exact cnt_pos.mpr (mem _ _ h7)
/-- what is let go beside them is not freed -/
theorem two_run {P : Pl} {s0 s1 : List (Option Int)} {o : Option Int} (W : Wf P [o]) (sh : Shape P.boxes s0 s1) (h6 : P.hands.getD 6 none = some 0) (h7 : P.hands.getD 7 none = some 1) :
    Shape (run P.boxes [o]).1 s0 s1 ∧ (run P.boxes [o]).2 = [] := by
  cases o with
  | none =>
    rw [run_none]
    exact ⟨sh, rfl⟩
  | some n =>
    obtain ⟨b, hb⟩ := W.cl n (by rw [cnt_cons]; simp [one]; omega)
    have hn : n = 0 ∨ n = 1 := by
      have := get_keys.mp ⟨b, hb⟩
      rw [sh.keys] at this
      simpa using this
    have h1 := held67 h6 h7 hn
    have h2 := (W.wt n b hb).1
    rw [cnt_cons, cnt_nil] at h2
    have o1 : one (some n) n = 1 := by simp [one]
    rw [o1] at h2
    rw [run_stay hb (by omega)]
    exact ⟨sh.low n, rfl⟩
theorem getD_set_ne {l : List (Option Int)} {i j : Nat} {x : Option Int} (h : j ≠ i) : (l.set i x).getD j none = l.getD j none := by
  rw [List.getD_eq_getElem?_getD, List.getD_eq_getElem?_getD, List.getElem?_set_ne (fun q => h q.symm)]
theorem Two.hand {P : Pl} {s0 s1 : List (Option Int)} (h : Two P s0 s1) {i : Nat} (hi : i < 6) {x : Option Int} (hx : ∀ n, x = some n → ∃ b, get P.boxes n = some b) :
    Two (ptHand P i x).1 s0 s1 ∧ (ptHand P i x).2 = [] := by
  have pre := h.wf.pre hx
  have W := pre.hand (show i < 8 by omega)
  have e6 : (P.hands.set i x).getD 6 none = some 0 := by rw [getD_set_ne (by omega)]; exact h.h6
  have e7 : (P.hands.set i x).getD 7 none = some 1 := by rw [getD_set_ne (by omega)]; exact h.h7
  obtain ⟨a, b⟩ := two_run W (h.sh.bumped x) e6 e7
  exact ⟨⟨ptHand_ok pre (by omega), a, e6, e7⟩, b⟩
theorem Two.slot {P : Pl} {s0 s1 : List (Option Int)} (h : Two P s0 s1) {n : Int} {b : Bx} (hb : get P.boxes n = some b) {i : Nat} (hi : i < b.slots.length) {x : Option Int} (hx : ∀ n, x = some n → ∃ b, get P.boxes n = some b) :
    Two (ptSlot P n i x).1 (if n = 0 then s0.set i x else s0) (if n = 1 then s1.set i x else s1) ∧ (ptSlot P n i x).2 = [] := by
  have pre := h.wf.pre hx
  have W := pre.slot hb hi
  obtain ⟨a, c⟩ := two_run W ((h.sh.bumped x).set n i x) h.h6 h.h7
  have e : slotOf P.boxes n i = b.slots.getD i none := by
    unfold slotOf
    rw [hb]
  have W2 := ptSlot_ok pre hb hi
  unfold ptSlot at W2 ⊢
  rw [e] at W2 ⊢
  exact ⟨⟨W2, a, h.h6, h.h7⟩, c⟩
/-- the two are made -/
theorem two_made {a b : Nat} (ha : a ≤ 6) (hb : b ≤ 6) : Two (mk (mk pl0 6 a).1 7 b).1 (List.replicate a none) (List.replicate b none) ∧ (mk pl0 6 a).2 = [] ∧ (mk (mk pl0 6 a).1 7 b).2 = [] ∧
    (mk (mk pl0 6 a).1 7 b).1.hands = [none, none, none, none, none, none, some 0, some 1] := by
  have e1 : mk pl0 6 a = (⟨[none, none, none, none, none, none, some 0, none], [(0, ⟨List.replicate a none, 1, false⟩)], 1⟩, []) := by
    unfold mk
    rw [ptHand_none rfl]
    rfl
  have W1 := mk_ok wf0 (i := 6) (size := a) (by decide) ha (by decide)
  have e2 : mk (mk pl0 6 a).1 7 b = (⟨[none, none, none, none, none, none, some 0, some 1], [(0, ⟨List.replicate a none, 1, false⟩), (1, ⟨List.replicate b none, 1, false⟩)], 2⟩, []) := by
    rw [e1]
    unfold mk
    rw [ptHand_none rfl]
    rfl
  have W2 := mk_ok W1 (i := 7) (size := b) (by decide) hb (by rw [e1]; show 1 < 60; omega)
  refine ⟨⟨W2, ?_, ?_, ?_⟩, by rw [e1], by rw [e2], by rw [e2]⟩
  · rw [e2]; exact ⟨_, _, rfl, rfl, rfl⟩
  · rw [e2]; rfl
  · rw [e2]; rfl
end BP

namespace BP
open PySem L2
/-! ### the text by places -/
def top (i : Nat) : Stmt := PySem.Challenge.pw_boxpile_k03_slots_point.main.body.getD i (.Pass ⟨0, 0, 0, 0⟩)
abbrev sBoxInit : Stmt := inClass (top 12) 0
abbrev sInit : Stmt := inClass (top 13) 0
abbrev sMake : Stmt := inClass (top 13) 1
abbrev sHold : Stmt := inClass (top 13) 2
abbrev sDrop : Stmt := inClass (top 13) 3
abbrev sPut : Stmt := inClass (top 13) 4
abbrev sEmpty : Stmt := inClass (top 13) 5
abbrev sTake : Stmt := inClass (top 13) 6
abbrev sSlotsWith : Stmt := inClass (top 13) 14
abbrev sHolds : Stmt := inClass (top 13) 7
abbrev sPoints : Stmt := inClass (top 13) 8
abbrev sWeighs : Stmt := inClass (top 13) 9
abbrev sAlive : Stmt := inClass (top 13) 10
abbrev sSuspects : Stmt := inClass (top 13) 11
abbrev sBox : Stmt := inClass (top 13) 13
abbrev sPoint : Stmt := inClass (top 13) 15
abbrev sLetGo : Stmt := inClass (top 13) 16
abbrev sCheck : Stmt := top 14
abbrev sCheckSlot : Stmt := top (14 + 1)
abbrev sClear : Stmt := inClass (top 13) 12

/-- an error class of the text -/
structure Err (K : PySem.W.Frag) (mg : Str → Option Value) (x : Str) (E : Addr) : Prop where
  g : mg x = some (.ref E)
  x : PySem.W.excIn K E [.type "ValueError", .type "Exception", .type "BaseException", .type "object"] "ValueError.__new__" = true
  k : PySem.W.keepIn K (.ref E) = true
  b : PySem.W.subIn K (.ref E) (.type "BaseException") = some true
  t : PySem.W.typeIn K (.ref E) = some (.type "type")
/-- what the top has made -/
structure Txt (K : PySem.W.Frag) (mg : Str → Option Value) (C B eH eS eF eB eL : Addr) : Prop where
  clC : Cls K C
  nH : NoAttr K C "_hands"
  nB : NoAttr K C "_boxes"
  nM : NoAttr K C "_made"
  clB : Cls K B
  nS : NoAttr K B "slots"
  nW : NoAttr K B "weight"
  nU : NoAttr K B "suspect"
  mgC : mg "Pile" = some (.ref C)
  mgB : mg "Box" = some (.ref B)
  len : mg "len" = none
  list : mg "list" = none
  sorted : mg "sorted" = none
  hands : ∃ t, mg "HANDS" = some (.int 8 t)
  most : ∃ t, mg "MOST_SLOTS" = some (.int 6 t)
  alive : ∃ t, mg "MOST_ALIVE" = some (.int 60 t)
  eH : Err K mg "NoHand" eH
  eS : Err K mg "NoSize" eS
  eF : Err K mg "Full" eF
  eB : Err K mg "NoBox" eB
  eL : Err K mg "NoSlot" eL

/-! ### promises -/
def spCheck (eH : Addr) : Sp := fun vs H Q E => ∃ h : Int, vs = [.int h] ∧ ((0 ≤ h ∧ h < 8) → Q .non H) ∧ (¬ (0 ≤ h ∧ h < 8) → E (.ref eH) none H)
def spBoxInit (B : Addr) : Sp := fun vs H Q _ => ∃ (x dx : Addr) (n : Nat), vs = [.ref x, .int n] ∧ n ≤ 6 ∧ H x = some (.ins B dx []) ∧
  ∀ l sl, H l = none → upd H l (.lst [.non]) sl = none → Q .non (upd (upd (upd H l (.lst [.non])) sl (.lst (lV (List.replicate n none)))) x (.ins B dx (bf sl 0 false)))
def spInit (C B : Addr) : Sp := fun vs H Q _ => ∃ (R : Hp) (p dx : Addr), vs = [.ref p] ∧ Same R H ∧ R p = none ∧ H p = some (.ins C dx []) ∧ ∀ (g : Geo) (H' : Hp), PileAt C B p g pl0 R H' → Q .non H'
def spLetGo (C B : Addr) : Sp := fun vs H Q _ => ∃ (p : Addr) (g : Geo) (P : Pl) (R : Hp) (x : Option Int), vs = [.ref p, oV x] ∧ PileAt C B p g P R H ∧ Wf P [x] ∧
  ∀ (l : Addr) (H' : Hp), R l = none → PileAt C B p g { P with boxes := (run P.boxes [x]).1 } (upd R l (.lst ((run P.boxes [x]).2.map V.int))) H' → Q (.ref l) H'
/-- a pointer at a place of a list (the hands', or the slots of a box): S is the pile with the new one there -/
def spPoint (C B : Addr) : Sp := fun vs H Q _ => ∃ (p a : Addr) (g : Geo) (P S : Pl) (R : Hp) (x : Option Int) (l : List (Option Int)) (i : Nat), vs = [.ref p, .ref a, .int i, oV x] ∧ PileAt C B p g P R H ∧ (∀ n, x = some n → ∃ b, get P.boxes n = some b) ∧ i < l.length ∧
  (∀ H1, PileAt C B p g { P with boxes := bumped P.boxes x } R H1 → H1 a = some (.lst (lV l)) ∧ PileAt C B p g S R (upd H1 a (.lst (lV (l.set i x))))) ∧ Wf S [l.getD i none] ∧
  ∀ (r : Addr) (H' : Hp), R r = none → PileAt C B p g { S with boxes := (run S.boxes [l.getD i none]).1 } (upd R r (.lst ((run S.boxes [l.getD i none]).2.map V.int))) H' → Q (.ref r) H'
def spMake (C B eH eS eF : Addr) : Sp := fun vs H Q E => ∃ (p : Addr) (P : Pl) (R : Hp) (h s : Int), vs = [.ref p, .int h, .int s] ∧ PileIn C B p P R H ∧
  (¬ (0 ≤ h ∧ h < 8) → E (.ref eH) none H) ∧ ((0 ≤ h ∧ h < 8) → ¬ (0 ≤ s ∧ s ≤ 6) → E (.ref eS) none H) ∧ ((0 ≤ h ∧ h < 8) → (0 ≤ s ∧ s ≤ 6) → 60 ≤ P.boxes.length → E (.ref eF) none H) ∧
  ((0 ≤ h ∧ h < 8) → (0 ≤ s ∧ s ≤ 6) → P.boxes.length < 60 → ∀ (r : Addr) (H' : Hp), R r = none → PileIn C B p (mk P h.toNat s.toNat).1 (upd R r (.lst ((mk P h.toNat s.toNat).2.map V.int))) H' → Q (.ref r) H')
def spHold (C B eH : Addr) : Sp := fun vs H Q E => ∃ (p : Addr) (P : Pl) (R : Hp) (h o : Int), vs = [.ref p, .int h, .int o] ∧ PileIn C B p P R H ∧
  (¬ (0 ≤ h ∧ h < 8) → E (.ref eH) none H) ∧ ((0 ≤ h ∧ h < 8) → ¬ (0 ≤ o ∧ o < 8) → E (.ref eH) none H) ∧
  ((0 ≤ h ∧ h < 8) → (0 ≤ o ∧ o < 8) → ∀ (r : Addr) (H' : Hp), R r = none → PileIn C B p (ptHand P h.toNat (P.hands.getD o.toNat none)).1 (upd R r (.lst ((ptHand P h.toNat (P.hands.getD o.toNat none)).2.map V.int))) H' → Q (.ref r) H')
def spDrop (C B eH : Addr) : Sp := fun vs H Q E => ∃ (p : Addr) (P : Pl) (R : Hp) (h : Int), vs = [.ref p, .int h] ∧ PileIn C B p P R H ∧
  (¬ (0 ≤ h ∧ h < 8) → E (.ref eH) none H) ∧
  ((0 ≤ h ∧ h < 8) → ∀ (r : Addr) (H' : Hp), R r = none → PileIn C B p (ptHand P h.toNat none).1 (upd R r (.lst ((ptHand P h.toNat none).2.map V.int))) H' → Q (.ref r) H')
def spSlotsWith (C B eB eL : Addr) : Sp := fun vs H Q E => ∃ (p : Addr) (g : Geo) (P : Pl) (R : Hp) (h s : Int), vs = [.ref p, .int h, .int s] ∧ PileAt C B p g P R H ∧ Wf P [] ∧ (0 ≤ h ∧ h < 8) ∧
  (P.hands.getD h.toNat none = none → E (.ref eB) none H) ∧
  (∀ n b, P.hands.getD h.toNat none = some n → get P.boxes n = some b → ¬ (0 ≤ s ∧ s < (b.slots.length : Int)) → E (.ref eL) none H) ∧
  (∀ n b, P.hands.getD h.toNat none = some n → get P.boxes n = some b → (0 ≤ s ∧ s < (b.slots.length : Int)) → Q (.ref (g.sa n)) H)
def spPut (C B eH eB eL : Addr) : Sp := fun vs H Q E => ∃ (p : Addr) (P : Pl) (R : Hp) (h s o : Int), vs = [.ref p, .int h, .int s, .int o] ∧ PileIn C B p P R H ∧
  (¬ (0 ≤ h ∧ h < 8) → E (.ref eH) none H) ∧ ((0 ≤ h ∧ h < 8) → ¬ (0 ≤ o ∧ o < 8) → E (.ref eH) none H) ∧
  ((0 ≤ h ∧ h < 8) → (0 ≤ o ∧ o < 8) → P.hands.getD h.toNat none = none → E (.ref eB) none H) ∧
  ((0 ≤ h ∧ h < 8) → (0 ≤ o ∧ o < 8) → ∀ n b, P.hands.getD h.toNat none = some n → get P.boxes n = some b → ¬ (0 ≤ s ∧ s < (b.slots.length : Int)) → E (.ref eL) none H) ∧
  ((0 ≤ h ∧ h < 8) → (0 ≤ o ∧ o < 8) → ∀ n b, P.hands.getD h.toNat none = some n → get P.boxes n = some b → (0 ≤ s ∧ s < (b.slots.length : Int)) →
    ∀ (r : Addr) (H' : Hp), R r = none → PileIn C B p (ptSlot P n s.toNat (P.hands.getD o.toNat none)).1 (upd R r (.lst ((ptSlot P n s.toNat (P.hands.getD o.toNat none)).2.map V.int))) H' → Q (.ref r) H')
def spEmpty (C B eH eB eL : Addr) : Sp := fun vs H Q E => ∃ (p : Addr) (P : Pl) (R : Hp) (h s : Int), vs = [.ref p, .int h, .int s] ∧ PileIn C B p P R H ∧
  (¬ (0 ≤ h ∧ h < 8) → E (.ref eH) none H) ∧ ((0 ≤ h ∧ h < 8) → P.hands.getD h.toNat none = none → E (.ref eB) none H) ∧
  ((0 ≤ h ∧ h < 8) → ∀ n b, P.hands.getD h.toNat none = some n → get P.boxes n = some b → ¬ (0 ≤ s ∧ s < (b.slots.length : Int)) → E (.ref eL) none H) ∧
  ((0 ≤ h ∧ h < 8) → ∀ n b, P.hands.getD h.toNat none = some n → get P.boxes n = some b → (0 ≤ s ∧ s < (b.slots.length : Int)) →
    ∀ (r : Addr) (H' : Hp), R r = none → PileIn C B p (ptSlot P n s.toNat none).1 (upd R r (.lst ((ptSlot P n s.toNat none).2.map V.int))) H' → Q (.ref r) H')
def spTake (C B eH eB eL : Addr) : Sp := fun vs H Q E => ∃ (p : Addr) (P : Pl) (R : Hp) (h o s : Int), vs = [.ref p, .int h, .int o, .int s] ∧ PileIn C B p P R H ∧
  (¬ (0 ≤ h ∧ h < 8) → E (.ref eH) none H) ∧ ((0 ≤ h ∧ h < 8) → ¬ (0 ≤ o ∧ o < 8) → E (.ref eH) none H) ∧
  ((0 ≤ h ∧ h < 8) → (0 ≤ o ∧ o < 8) → P.hands.getD o.toNat none = none → E (.ref eB) none H) ∧
  ((0 ≤ h ∧ h < 8) → (0 ≤ o ∧ o < 8) → ∀ n b, P.hands.getD o.toNat none = some n → get P.boxes n = some b → ¬ (0 ≤ s ∧ s < (b.slots.length : Int)) → E (.ref eL) none H) ∧
  ((0 ≤ h ∧ h < 8) → (0 ≤ o ∧ o < 8) → ∀ n b, P.hands.getD o.toNat none = some n → get P.boxes n = some b → (0 ≤ s ∧ s < (b.slots.length : Int)) →
    ∀ (r : Addr) (H' : Hp), R r = none → PileIn C B p (ptHand P h.toNat (b.slots.getD s.toNat none)).1 (upd R r (.lst ((ptHand P h.toNat (b.slots.getD s.toNat none)).2.map V.int))) H' → Q (.ref r) H')
def spHolds (C B eH : Addr) : Sp := fun vs H Q E => ∃ (p : Addr) (g : Geo) (P : Pl) (R : Hp) (h : Int), vs = [.ref p, .int h] ∧ PileAt C B p g P R H ∧ P.hands.length = 8 ∧
  (¬ (0 ≤ h ∧ h < 8) → E (.ref eH) none H) ∧ ((0 ≤ h ∧ h < 8) → Q (oV (P.hands.getD h.toNat none)) H)
def spBox (C B eB : Addr) : Sp := fun vs H Q E => ∃ (p : Addr) (g : Geo) (P : Pl) (R : Hp) (n : Int), vs = [.ref p, .int n] ∧ PileAt C B p g P R H ∧
  (get P.boxes n = none → E (.ref eB) none H) ∧ (∀ b, get P.boxes n = some b → Q (.ref (g.ba n)) H)
def spPoints (C B eB : Addr) : Sp := fun vs H Q E => ∃ (p : Addr) (g : Geo) (P : Pl) (R : Hp) (n : Int), vs = [.ref p, .int n] ∧ PileAt C B p g P R H ∧ (∀ b, get P.boxes n = some b → b.slots.length ≤ 6) ∧
  (get P.boxes n = none → E (.ref eB) none H) ∧ (∀ b, get P.boxes n = some b → ∀ r, H r = none → Q (.ref r) (upd H r (.lst (lV b.slots))))
def spWeighs (C B eB : Addr) : Sp := fun vs H Q E => ∃ (p : Addr) (g : Geo) (P : Pl) (R : Hp) (n : Int), vs = [.ref p, .int n] ∧ PileAt C B p g P R H ∧
  (get P.boxes n = none → E (.ref eB) none H) ∧ (∀ b, get P.boxes n = some b → Q (.int b.wt) H)
def spAlive (C B : Addr) : Sp := fun vs H Q _ => ∃ (p : Addr) (g : Geo) (P : Pl) (R : Hp), vs = [.ref p] ∧ PileAt C B p g P R H ∧ Wf P [] ∧ ∀ r, H r = none → Q (.ref r) (upd H r (.lst ((keys P.boxes).map V.int)))
def spSuspects (C B : Addr) : Sp := fun vs H Q _ => ∃ (p : Addr) (g : Geo) (P : Pl) (R : Hp), vs = [.ref p] ∧ PileAt C B p g P R H ∧ Wf P [] ∧ ∀ r H', R r = none → PileAt C B p g P (upd R r (.lst ((susp P).map V.int))) H' → Q (.ref r) H'

section
variable {P : Program} {w : World} {K : PySem.W.Frag} {mg : Str → Option Value} {base : Heap} {C B eH eS eF eB eL : Addr}
/-- a statement read in two steps: what holds behind it, then what is wanted of that -/
def tMid (t : TS) : TS := fun D σ H => ∃ M : St → Hp → Prop, t { D with nx := M } σ H ∧ ∀ σ' H', M σ' H' → D.nx σ' H'
theorem ps_mid {X : Cx} {st : Stmt} {t : TS} (h : PS X st t) : PS X st (tMid t) := by
  refine ⟨fun pins s σ H D I q => ?_⟩
  obtain ⟨M, q1, q2⟩ := q
  refine wpAny_mono (h.run pins s σ H { D with nx := M } I q1) (fun f s1 z => ?_) fun _ _ z => z
  cases f with
  | next =>
    obtain ⟨σ', H', I', m⟩ := z
    exact ⟨σ', H', I', q2 σ' H' m⟩
  | ret v => exact z
  | brk => exact z
  | cont => exact z
/-- a test read in two steps -/
def tMidT (t : TT) : TT := fun σ H Q => ∃ M : Bool → Hp → Prop, t σ H M ∧ ∀ b H', M b H' → Q b H'
theorem pt_mid {X : Cx} {e : Expr} {t : TT} (h : PT X e t) : PT X e (tMidT t) := by
  refine ⟨fun pins s σ H Q I q => ?_⟩
  obtain ⟨M, q1, q2⟩ := q
  refine wpAny_mono (h.run pins s σ H M I q1) (fun b s1 z => ?_) fun _ _ z => z
  obtain ⟨H', I', m⟩ := z
  exact ⟨H', I', q2 b H' m⟩
theorem if_pos_of {c : Bool} {A B : Prop} (hc : c = true) (h : A) : if c = true then A else B := by
  rw [if_pos hc]
  exact h
theorem if_neg_of {c : Bool} {A B : Prop} (hc : c = false) (h : B) : if c = true then A else B := by
  rw [hc, if_neg Bool.false_ne_true]
  exact h
theorem err_raises {X : Cx} {x : Str} {E : Addr} (e : Err X.K X.mg x E) : Raises X (.ref E) := raises_own e.b e.t
/-! ### check_hand -/
theorem scCheck : FnScope ["hand"] ["hand"] (defScope sCheck) := ⟨rfl, rfl, rfl, by decide +kernel, rfl, by decide +kernel, by decide +kernel⟩
theorem ok_check {f : Addr} {fd : FuncData} (F : Fun K "check_hand" "check_hand" sCheck f fd) (T : Txt K mg C B eH eS eF eB eL) : FnOk P w K mg base (L2.CX P w) 1 f fd ["hand"] (spCheck eH) := by
  refine F.okX scCheck (fun vs H Q E h => ?_) (fun cdv A outer s H vs Q E hr h => ?_)
  · obtain ⟨h, rfl, _⟩ := h
    rfl
  · obtain ⟨h, rfl, k1, k2⟩ := h
    obtain ⟨t, hT⟩ := T.hands
    refine ⟨_, pss_one (ps_if (pt_not (pt_chain op_le op_lt pe_int (pv 0) (pe_glob (v := .int 8) rfl hT ⟨_, rfl⟩))) (pss_one (ps_raise rfl (takes_of rfl rfl rfl rfl) (pmk_own PySem.F.excBase_ValueError T.eH.x T.eH.g T.eH.k (raises_own T.eH.b T.eH.t) rfl))) pss_nil), ?_⟩
    refine ⟨_, rfl, _, _, rfl, rfl, _, rfl, ?_⟩
    by_cases h0 : 0 ≤ h
    · rw [decide_eq_true h0]
      refine iteT ⟨_, _, rfl, rfl, _, rfl, ?_⟩
      by_cases h8 : h < 8
      · rw [decide_eq_true h8]
        exact iteF (k1 ⟨h0, h8⟩)
      · rw [decide_eq_false h8]
        exact iteT (k2 fun z => h8 z.2)
    · rw [decide_eq_false h0]
      refine iteF ⟨_, rfl, ?_⟩
      exact iteT (k2 fun z => h0 z.1)
/-! ### Box.__init__ -/
theorem scBoxInit : FnScope ["self", "size"] ["self", "size"] (defScope sBoxInit) := ⟨rfl, rfl, rfl, by decide +kernel, rfl, by decide +kernel, by decide +kernel⟩
theorem rep_none (n : Nat) : (List.replicate n [V.non]).flatten = lV (List.replicate n none) := by
  unfold lV
  rw [List.map_replicate]
  induction n with
  | zero => rfl
  | succ n ih => rw [List.replicate_succ, List.flatten_cons, ih]; rfl
theorem ok_boxinit {f : Addr} {fd : FuncData} (F : Fun K "__init__" "Box.__init__" sBoxInit f fd) (T : Txt K mg C B eH eS eF eB eL) : FnOk P w K mg base CX0 1 f fd ["self", "size"] (spBoxInit B) := by
  refine F.ok scBoxInit (fun vs H Q E h => ?_) (fun cdv A outer s H vs Q E hr h => ?_)
  · obtain ⟨x, dx, n, rfl, _⟩ := h
    rfl
  · obtain ⟨x, dx, n, rfl, hn, hx, k⟩ := h
    refine ⟨_, pss_cons (ps_fld (pv 0) (pe_op op_rep (pe_lst (pa_cons pe_non pa_nil)) (pv 1)) rfl) (pss_cons (ps_fld (pv 0) pe_int rfl) (pss_one (ps_fld (pv 0) pe_bl rfl))), ?_⟩
    refine ⟨(by show 1 ≤ sizeLine; decide), fun l hl => ?_⟩
    have nx : x ≠ l := ne_of_none hx hl
    refine ⟨_, rfl, l, n, [.non], rfl, rfl, upd_same, by omega, by omega, (by show 1 * n ≤ sizeLine; rw [sizeLine_eq]; omega), fun sl hsl => ?_⟩
    have nx2 : x ≠ sl := ne_of_none (by rw [upd_ne nx]; exact hx) hsl
    refine ⟨_, rfl, x, B, dx, [], rfl, (by rw [upd_ne nx2, upd_ne nx]; exact hx), T.clB, T.nS, (by show 0 < 1000; decide), ?_⟩
    refine ⟨_, rfl, x, B, dx, _, rfl, upd_same, T.clB, T.nW, (by show 1 < 1000; decide), ?_⟩
    refine ⟨_, rfl, x, B, dx, _, rfl, upd_same, T.clB, T.nU, (by show (putF "weight" (.int 0) (putF "slots" (.ref sl) [])).length < 1000; show (if ("slots" : Str) = "weight" then [(("slots" : Str), V.int 0)] else (("slots" : Str), V.ref sl) :: [(("weight" : Str), V.int 0)]).length < 1000; rw [if_neg s_sw]; show 2 < 1000; decide), ?_⟩
    have k' := k l sl hl hsl
    rw [← rep_none] at k'
    rw [upd_upd, upd_upd]
    exact k'
/-! ### Pile.__init__ -/
theorem scInit : FnScope ["self"] ["self"] (defScope sInit) := ⟨rfl, rfl, rfl, by decide +kernel, rfl, by decide +kernel, by decide +kernel⟩
theorem ok_init {f : Addr} {fd : FuncData} (F : Fun K "__init__" "Pile.__init__" sInit f fd) (T : Txt K mg C B eH eS eF eB eL) : FnOk P w K mg base CX0 1 f fd ["self"] (spInit C B) := by
  refine F.ok scInit (fun vs H Q E h => ?_) (fun cdv A outer s H vs Q E hr h => ?_)
  · obtain ⟨R, p, dx, rfl, _⟩ := h
    rfl
  · obtain ⟨R, p, dx, rfl, hs, rp, hp, k⟩ := h
    obtain ⟨t, hT⟩ := T.hands
    refine ⟨_, pss_cons (ps_fld (pv 0) (pe_op op_rep (pe_lst (pa_cons pe_non pa_nil)) (pe_glob (v := .int 8) rfl hT ⟨_, rfl⟩)) rfl) (pss_cons (ps_fld (pv 0) pe_dnewK rfl) (pss_one (ps_fld (pv 0) pe_int rfl))), ?_⟩
    refine ⟨(by show 1 ≤ sizeLine; decide), fun l hl => ?_⟩
    have npl : p ≠ l := ne_of_none hp hl
    refine ⟨l, 8, [.non], rfl, rfl, upd_same, by omega, by omega, (by show 8 ≤ sizeLine; rw [sizeLine_eq]; omega), fun lh hlh => ?_⟩
    have npm : p ≠ lh := ne_of_none (by rw [upd_ne npl]; exact hp) hlh
    refine ⟨_, rfl, p, C, dx, [], rfl, (by rw [upd_ne npm, upd_ne npl]; exact hp), T.clC, T.nH, (by show 0 < 1000; decide), fun db hdb => ?_⟩
    have npd : p ≠ db := ne_of_none upd_same hdb
    have nhd : lh ≠ db := ne_of_none (by rw [upd_ne npm.symm, upd_same]) hdb
    refine ⟨_, rfl, p, C, dx, _, rfl, (by rw [upd_ne npd, upd_same]), T.clC, T.nB, (by show 1 < 1000; decide), ?_⟩
    refine ⟨_, rfl, p, C, dx, _, rfl, upd_same, T.clC, T.nM, (by show (putF "_boxes" (.ref db) (putF "_hands" (.ref lh) [])).length < 1000; show (if ("_hands" : Str) = "_boxes" then [(("_hands" : Str), V.ref db)] else (("_hands" : Str), V.ref lh) :: [(("_boxes" : Str), V.ref db)]).length < 1000; rw [if_neg s_hb]; show 2 < 1000; decide), ?_⟩
    rw [upd_upd]
    have fl : H l = none := hl
    have flh : H lh = none := by
      by_cases q : lh = l
      · rw [q]; exact hl
      · rw [upd_ne q] at hlh; exact hlh
    have fdb : H db = none := by
      have n1 : db ≠ p := npd.symm
      have n2 : db ≠ lh := nhd.symm
      rw [upd_ne n1, upd_ne n2] at hdb
      by_cases q : db = l
      · rw [q]; exact hl
      · rw [upd_ne q] at hdb; exact hdb
    have e8 : (List.replicate (Int.toNat 8) [V.non]).flatten = lV pl0.hands := rep_none 8
    refine k ⟨dx, lh, db, fun _ => 0, fun _ => 0, fun _ => 0⟩ _ ⟨fun b o e => ?_, rp, hs.free flh, hs.free fdb, fun n b e => ?_, fun n b e => ?_, upd_same, ?_, ?_, fun n b e => ?_, fun n b e => ?_, fun n m b c e => ?_, fun n m b c e => ?_, fun n b e => ?_⟩
    · have e' := hs b o e
      rw [upd_ne (fun q => by rw [q, rp] at e; cases e), upd_ne (ne_of_none e' fdb), upd_ne (fun q => by rw [q, rp] at e; cases e), upd_ne (ne_of_none e' flh), upd_ne (ne_of_none e' fl)]
      exact e'
    · cases e
    · cases e
    · show upd _ p _ lh = _
      rw [upd_ne npm.symm, upd_ne nhd, upd_ne npm.symm, upd_same, e8]
    · show upd _ p _ db = _
      rw [upd_ne npd.symm, upd_same]
      rfl
    · cases e
    · cases e
    · cases e
    · cases e
    · cases e
/-! ### _let_go -/
theorem scLetGo : FnScope ["self", "pointer", "waiting", "freed", "number", "box"] ["self", "pointer"] (defScope sLetGo) := ⟨rfl, rfl, rfl, by decide +kernel, rfl, by decide +kernel, by decide +kernel⟩
/-- two lists of the def's own beside what is known -/
def twoL (R : Hp) (a b : Addr) (xs ys : List V) : Hp := upd (upd R a (.lst xs)) b (.lst ys)
theorem upd_comm {H : Hp} {a b : Addr} {o u : HO} (h : a ≠ b) : upd (upd H a o) b u = upd (upd H b u) a o := by
  funext c
  by_cases q : c = a
  · rw [q, upd_ne h, upd_same, upd_same]
  · by_cases q2 : c = b
    · rw [q2, upd_same, upd_ne h.symm, upd_same]
    · rw [upd_ne q2, upd_ne q, upd_ne q, upd_ne q2]
theorem twoL_a {R : Hp} {a b : Addr} {xs ys zs : List V} (h : a ≠ b) : upd (twoL R a b xs ys) a (.lst zs) = twoL R a b zs ys := by
  unfold twoL
  rw [upd_comm h, upd_upd, ← upd_comm h]
theorem twoL_b {R : Hp} {a b : Addr} {xs ys zs : List V} : upd (twoL R a b xs ys) b (.lst zs) = twoL R a b xs zs := upd_upd
theorem chg_chg (n : Int) (f g : Bx → Bx) : ∀ bs, chg (chg bs n f) n g = chg bs n fun b => g (f b)
  | [] => rfl
  | e :: bs => by
    have e1 : ∀ (e : Int × Bx) (bs : List (Int × Bx)) (f : Bx → Bx), chg (e :: bs) n f = (if e.1 = n then (e.1, f e.2) else e) :: chg bs n f := fun _ _ _ => rfl
    rw [e1, e1, e1, chg_chg n f g bs]
    by_cases h : e.1 = n
    · simp [h]
    · simp [h]
theorem rm_chg (n : Int) (f : Bx → Bx) : ∀ bs, rm (chg bs n f) n = rm bs n
  | [] => rfl
  | e :: bs => by
    have e1 : chg (e :: bs) n f = (if e.1 = n then (e.1, f e.2) else e) :: chg bs n f := rfl
    have ih := rm_chg n f bs
    unfold rm at ih ⊢
    rw [e1, List.filter_cons, List.filter_cons, ih]
    by_cases h : e.1 = n
    · simp [h]
    · simp [h]
theorem seq0 {n : Nat} (h : 0 < n) : seqIndex? 0 n = some 0 := by
  unfold seqIndex?
  simp [h]
theorem ok_letgo {f : Addr} {fd : FuncData} (F : Fun K "_let_go" "Pile._let_go" sLetGo f fd) (T : Txt K mg C B eH eS eF eB eL) : FnOk P w K mg base CX0 1 f fd ["self", "pointer"] (spLetGo C B) := by
  refine F.ok scLetGo (fun vs H Q E h => ?_) (fun cdv A outer s H vs Q E hr h => ?_)
  · obtain ⟨p, g, P, R, x, rfl, _⟩ := h
    rfl
  · obtain ⟨p, g, Q0, R, x, rfl, A0, W0, k⟩ := h
    have hu := hu_of hr
    refine ⟨_, pss_cons (ps_set (i := 2) scLetGo.nd rfl (Or.inl rfl) (pe_lst (pa_cons (pv 1) pa_nil))) (pss_cons (ps_set (i := 3) scLetGo.nd rfl (Or.inl rfl) (pe_lst pa_nil))
      (pss_cons (ps_while PassesOwn.never (pt_truth (pv 2) (by intro _; rfl))
        (pss_cons (ps_set (i := 4) scLetGo.nd rfl (Or.inl rfl) (pe_bm PySem.F.plainAttrs_list PySem.F.slot_list_pop PySem.F.type_list_pop mt_popAt (pv 2) (pa_cons pe_int pa_nil)))
        (pss_cons (ps_if (pt_cmpR op_isN (pv 4) pe_non (nomark _)) (pss_one ps_continue) pss_nil)
        (pss_cons (ps_set (i := 5) scLetGo.nd rfl (Or.inl rfl) (pe_dget hu (pe_fld (pv 0) rfl) (pv 4) (fun _ _ => rfl)))
        (pss_cons (ps_fldaug (pv 5) pe_int in_sub)
        (pss_cons (ps_fld (pv 5) pe_bl rfl)
        (pss_one (ps_if (pt_cmpR op_eq (pe_fld (pv 5) rfl) pe_int (nomark _))
          (pss_cons (ps_ddel (pe_fld (pv 0) rfl) (pv 4))
          (pss_cons (ps_expr (pe_bm PySem.F.plainAttrs_list PySem.F.slot_list_append PySem.F.type_list_append mt_append (pv 3) (pa_cons (pv 4) pa_nil)))
          (pss_one (ps_expr (pe_bm PySem.F.plainAttrs_list PySem.F.slot_list_extend PySem.F.type_list_extend mt_extend (pv 2) (pa_cons (pe_fld (pv 5) rfl) pa_nil)))))) pss_nil))))))))
      (pss_one (ps_ret (pv 3))))), ?_⟩
    refine ⟨_, rfl, (by show 1 ≤ sizeLine; decide), fun wl hwl => ?_⟩
    refine ⟨(by show 0 ≤ sizeLine; decide), fun fl hfl => ?_⟩
    have nwf : wl ≠ fl := ne_of_none upd_same hfl
    have rwl : R wl = none := A0.same.free hwl
    have rfl' : R fl = none := by
      have : H fl = none := by rw [upd_ne nwf.symm] at hfl; exact hfl
      exact A0.same.free this
    have A1 : PileAt C B p g Q0 (twoL R wl fl (lV [x]) ([] : List V)) (upd (upd H wl (.lst [oV x])) fl (.lst [])) := (A0.new hwl).new hfl
    have hm0 : [x].length + room Q0.boxes ≤ 400 := by
      have := room_le W0.sl W0.nd
      have := W0.few
      show 1 + _ ≤ 400
      omega
    refine ⟨fun m σ H => ∃ (bs : List (Int × Bx)) (w : List (Option Int)) (f : List Int) (v4 v5 : Option V), σ = [some (.ref p), some (oV x), some (.ref wl), some (.ref fl), v4, v5] ∧
      PileAt C B p g { Q0 with boxes := bs } (twoL R wl fl (lV w) (f.map V.int)) H ∧ Wf { Q0 with boxes := bs } w ∧ w.length + room bs = m ∧ f ++ (go m bs w).2 = (run Q0.boxes [x]).2 ∧ (go m bs w).1 = (run Q0.boxes [x]).1 ∧ f.length + m ≤ 400,
      ⟨_, Q0.boxes, [x], [], none, none, rfl, A1, W0, rfl, rfl, rfl, by rw [List.length_nil]; omega⟩, ?_⟩
    rintro m σ H ⟨bs, w, f, v4, v5, rfl, A, W, hm, e2, e1, hle⟩
    have hwl : H wl = some (.lst (lV w)) := A.same _ _ (by unfold twoL; rw [upd_ne nwf, upd_same])
    have hfl : H fl = some (.lst (f.map V.int)) := A.same _ _ (by unfold twoL; rw [upd_same])
    refine ⟨_, rfl, !(lV w).isEmpty, .inl ⟨_, SqL.of hwl, rfl⟩, ?_⟩
    cases w with
    | nil =>
      refine iteF ?_
      have m0 : (go m bs []).1 = bs ∧ (go m bs []).2 = [] := by cases m <;> exact ⟨rfl, rfl⟩
      rw [m0.2, List.append_nil] at e2
      rw [m0.1] at e1
      refine ⟨_, rfl, k fl _ rfl' ?_⟩
      rw [← e1, ← e2]
      refine A.less fun b o e => ?_
      by_cases q : b = fl
      · rw [q, upd_same] at e
        rw [q]
        unfold twoL
        rw [upd_same]
        exact e
      · rw [upd_ne q] at e
        unfold twoL
        rw [upd_ne q, upd_ne (ne_of_none e rwl)]
        exact e
    | cons y w =>
      refine iteT ?_
      obtain ⟨m', rfl⟩ : ∃ m', m = m' + 1 := ⟨w.length + room bs, by rw [List.length_cons] at hm; omega⟩
      refine ⟨fun σ' H' => ∃ (bs : List (Int × Bx)) (w : List (Option Int)) (f : List Int) (v4 v5 : Option V), σ' = [some (.ref p), some (oV x), some (.ref wl), some (.ref fl), v4, v5] ∧
        PileAt C B p g { Q0 with boxes := bs } (twoL R wl fl (lV w) (f.map V.int)) H' ∧ Wf { Q0 with boxes := bs } w ∧ w.length + room bs = m' ∧ f ++ (go m' bs w).2 = (run Q0.boxes [x]).2 ∧ (go m' bs w).1 = (run Q0.boxes [x]).1 ∧ f.length + m' ≤ 400,
        fun σ' H' h' => ⟨m', Nat.lt_succ_self _, h'⟩, ?_⟩
      obtain ⟨Wf', mf'⟩ := fall_ok W
      have mf : (fall bs w y).2.1.length + room (fall bs w y).1 = m' := by
        have q : (fall bs w y).2.1.length + room (fall bs w y).1 = w.length + room bs := mf'
        rw [List.length_cons] at hm
        omega
      have e2' : (f ++ (fall bs w y).2.2) ++ (go m' (fall bs w y).1 (fall bs w y).2.1).2 = (run Q0.boxes [x]).2 := by rw [List.append_assoc]; exact e2
      have e1' : (go m' (fall bs w y).1 (fall bs w y).2.1).1 = (run Q0.boxes [x]).1 := e1
      -- number = waiting.pop(0)
      refine ⟨_, rfl, .inl ⟨rfl, _, SqL.of hwl⟩, wl, lV (y :: w), 0, 0, oV y, rfl, rfl, hwl, by omega, by omega, seq0 (by show 0 < (lV (y :: w)).length; rw [lV_len]; exact Nat.succ_pos _), rfl, ?_⟩
      have A2 : PileAt C B p g { Q0 with boxes := bs } (twoL R wl fl (lV w) (f.map V.int)) (upd H wl (.lst (lV w))) := by
        have := A.set (a := wl) (o := .lst (lV w)) (by unfold twoL; rw [upd_ne nwf, upd_same])
        rw [twoL_a nwf] at this
        exact this
      show (tSeq _ _ : TS) _ _ (upd H wl (.lst (lV w)))
      generalize upd H wl (.lst (lV w)) = H2 at A2 ⊢
      cases y with
      | none =>
        refine ⟨_, rfl, rfl, _, rfl, ?_⟩
        refine iteT ?_
        exact ⟨bs, w, f, _, _, rfl, A2, Wf', mf, by simpa [fall] using e2', e1', by omega⟩
      | some n =>
        refine ⟨_, rfl, rfl, _, rfl, ?_⟩
        refine iteF ?_
        obtain ⟨b, hb'⟩ := W.cl n (by rw [cnt_cons]; show 0 < _ + (one (some n) n + _); simp [one]; omega)
        have hb : get bs n = some b := hb'
        have hg : valV (dV g.ba bs) (Sum.inl n : Key) = some (V.ref (g.ba n)) := by rw [valV_dV, hb]; rfl
        have hD : DGet H2 g.db (.int n) (some (V.ref (g.ba n))) := by
          have := DGet.k (k := Sum.inl n) A2.hd
          rw [hg] at this
          exact this
        have hB := A2.hb n b hb
        have eo : putF "suspect" (.bl true) (putF "weight" (.int (b.wt - 1)) (bf (g.sa n) b.wt b.sus)) = bf (g.sa n) (low b).wt (low b).sus := by rw [bf_putw, bf_puts]; rfl
        refine ⟨_, rfl, p, C, g.dx, _, _, rfl, A2.hp, T.clC, T.nB, pf_boxes _ _ _, _, rfl, g.db, _, rfl, hD, ?_⟩
        refine ⟨_, rfl, g.ba n, B, g.bd n, _, _, rfl, hB, T.clB, T.nW, bf_weight _ _ _, _, _, rfl, rfl, g.bd n, _, hB, (by rw [bf_len]; decide), ?_⟩
        refine ⟨_, rfl, g.ba n, B, g.bd n, _, rfl, upd_same, T.clB, T.nU, (by rw [bf_putw, bf_len]; decide), ?_⟩
        rw [eo, upd_upd]
        have A3 : PileAt C B p g { Q0 with boxes := chg bs n low } (twoL R wl fl (lV w) (f.map V.int)) (upd H2 (g.ba n) (.ins B (g.bd n) (bf (g.sa n) (low b).wt (low b).sus))) := A2.box hb low rfl
        have hb3 : get (chg bs n low) n = some (low b) := by rw [get_chg, hb]; simp
        have hB3 := A3.hb n (low b) hb3
        have hS3 := A3.hs n (low b) hb3
        generalize upd H2 (g.ba n) (.ins B (g.bd n) (bf (g.sa n) (low b).wt (low b).sus)) = H3 at A3 hB3 hS3 ⊢
        refine ⟨_, rfl, g.ba n, B, g.bd n, _, _, rfl, hB3, T.clB, T.nW, bf_weight _ _ _, rfl, _, rfl, ?_⟩
        by_cases hw : b.wt = 1
        · have ef : fall bs w (some n) = (rm bs n, w ++ b.slots, [n]) := by
            show (match get bs n with | none => _ | some b => _) = _
            rw [hb]
            show (if b.wt = 1 then _ else _) = _
            rw [if_pos hw]
          rw [ef] at Wf' mf e2' e1'
          have hz : decide (V.int (low b).wt = V.int 0) = true := decide_eq_true (by show V.int (b.wt - 1) = V.int 0; rw [hw]; rfl)
          rw [hz]
          refine iteT ?_
          have hk : valV (dV g.ba (chg bs n low)) (Sum.inl n : Key) = some (V.ref (g.ba n)) := by rw [valV_dV, hb3]; rfl
          refine ⟨_, rfl, p, C, g.dx, _, _, rfl, A3.hp, T.clC, T.nB, pf_boxes _ _ _, _, rfl, g.db, _, Sum.inl n, rfl, A3.hd, rfl, (by simp [hk]), ?_⟩
          have A4 : PileAt C B p g { Q0 with boxes := rm bs n } (twoL R wl fl (lV w) (f.map V.int)) (upd H3 g.db (.dK (dropK (dV g.ba (chg bs n low)) (Sum.inl n)))) := by
            have := A3.del n
            have e : rm (chg bs n low) n = rm bs n := rm_chg n low bs
            rw [show ({ ({ Q0 with boxes := chg bs n low } : Pl) with boxes := rm ({ Q0 with boxes := chg bs n low } : Pl).boxes n } : Pl) = { Q0 with boxes := rm bs n } from by rw [← e]] at this
            exact this
          have hB4 : upd H3 g.db (.dK (dropK (dV g.ba (chg bs n low)) (Sum.inl n))) (g.ba n) = some (.ins B (g.bd n) (bf (g.sa n) (low b).wt (low b).sus)) := by rw [upd_ne (A3.ba_db hb3)]; exact hB3
          have hS4 : upd H3 g.db (.dK (dropK (dV g.ba (chg bs n low)) (Sum.inl n))) (g.sa n) = some (.lst (lV b.slots)) := by rw [upd_ne (A3.sa_db hb3)]; exact hS3
          have nsf : g.sa n ≠ fl := fun q => by
            have := A3.rs n (low b) hb3
            rw [q] at this
            unfold twoL at this
            rw [upd_same] at this
            cases this
          have nsw : g.sa n ≠ wl := fun q => by
            have := A3.rs n (low b) hb3
            rw [q] at this
            unfold twoL at this
            rw [upd_ne nwf, upd_same] at this
            cases this
          generalize upd H3 g.db (.dK (dropK (dV g.ba (chg bs n low)) (Sum.inl n))) = H4 at A4 hB4 hS4 ⊢
          have hfl4 : H4 fl = some (.lst (f.map V.int)) := A4.same _ _ (by unfold twoL; rw [upd_same])
          refine ⟨_, rfl, .inl ⟨rfl, _, SqL.of hfl4⟩, _, rfl, fl, _, _, rfl, rfl, hfl4, (by rw [List.length_map, sizeLine_eq]; omega), ?_⟩
          have A5 : PileAt C B p g { Q0 with boxes := rm bs n } (twoL R wl fl (lV w) ((f ++ [n]).map V.int)) (upd H4 fl (.lst (f.map V.int ++ [V.int n]))) := by
            have := A4.set (a := fl) (o := .lst (f.map V.int ++ [V.int n])) (by unfold twoL; rw [upd_same])
            rw [twoL_b] at this
            rw [List.map_append]
            exact this
          have hB5 : upd H4 fl (.lst (f.map V.int ++ [V.int n])) (g.ba n) = some (.ins B (g.bd n) (bf (g.sa n) (low b).wt (low b).sus)) := by rw [upd_ne (ne_of hB4 hfl4 ins_ne_lst)]; exact hB4
          have hS5 : upd H4 fl (.lst (f.map V.int ++ [V.int n])) (g.sa n) = some (.lst (lV b.slots)) := by rw [upd_ne nsf]; exact hS4
          rw [show oV (some n) = V.int n from rfl]
          generalize upd H4 fl (.lst (f.map V.int ++ [V.int n])) = H5 at A5 hB5 hS5 ⊢
          have hwl5 : H5 wl = some (.lst (lV w)) := A5.same _ _ (by unfold twoL; rw [upd_ne nwf, upd_same])
          refine ⟨_, rfl, .inl ⟨rfl, _, SqL.of hwl5⟩, _, rfl, g.ba n, B, g.bd n, _, _, rfl, hB5, T.clB, T.nS, bf_slots _ _ _, wl, g.sa n, _, _, rfl, rfl, hwl5, hS5, ?_, ?_⟩
          · have h6 : b.slots.length ≤ 6 := W.sl n b hb
            rw [lV_len, lV_len, sizeLine_eq]
            rw [List.length_cons] at hm
            omega
          · have A6 : PileAt C B p g { Q0 with boxes := rm bs n } (twoL R wl fl (lV (w ++ b.slots)) ((f ++ [n]).map V.int)) (upd H5 wl (.lst (lV w ++ lV b.slots))) := by
              have := A5.set (a := wl) (o := .lst (lV w ++ lV b.slots)) (by unfold twoL; rw [upd_ne nwf, upd_same])
              rw [twoL_a nwf] at this
              have e : lV (w ++ b.slots) = lV w ++ lV b.slots := List.map_append
              rw [e]
              exact this
            exact ⟨rm bs n, w ++ b.slots, f ++ [n], _, _, rfl, A6, Wf', mf, e2', e1', by rw [List.length_append, List.length_singleton]; omega⟩
        · have ef : fall bs w (some n) = (chg bs n low, w, []) := by
            show (match get bs n with | none => _ | some b => _) = _
            rw [hb]
            show (if b.wt = 1 then _ else _) = _
            rw [if_neg hw]
          rw [ef] at Wf' mf e2' e1'
          have hz : decide (V.int (low b).wt = V.int 0) = false := decide_eq_false (by show ¬ V.int (b.wt - 1) = V.int 0; intro q; injection q with q; omega)
          rw [hz]
          refine iteF ?_
          exact ⟨chg bs n low, w, f, _, _, rfl, A3, Wf', mf, by simpa using e2', e1', by omega⟩
/-! ### _point -/
theorem scPoint : FnScope ["self", "pointers", "at", "number", "box", "old"] ["self", "pointers", "at", "number"] (defScope sPoint) := ⟨rfl, rfl, rfl, by decide +kernel, rfl, by decide +kernel, by decide +kernel⟩
theorem ixN_of {n i : Nat} (h : i < n) : ixN n (i : Int) = some i := by
  unfold ixN
  rw [if_pos (by omega), if_pos (by omega)]
  rfl
theorem ok_point {f fL : Addr} {fd fdL : FuncData} (F : Fun K "_point" "Pile._point" sPoint f fd) (T : Txt K mg C B eH eS eF eB eL) (FL : Fun K "_let_go" "Pile._let_go" sLetGo fL fdL) (bL : Binds K fdL ["self", "pointer"] []) (mL : Meth K C "_let_go" fL) :
    FnOk P w K mg base CX0 2 f fd ["self", "pointers", "at", "number"] (spPoint C B) := by
  have GL : FnOk P w K mg base CX0 1 fL fdL ["self", "pointer"] (spLetGo C B) := ok_letgo FL T
  refine F.ok scPoint (fun vs H Q E h => ?_) (fun cdv A outer s H vs Q E hr h => ?_)
  · obtain ⟨p, a, g, P, S, R, x, l, i, rfl, _⟩ := h
    rfl
  · obtain ⟨p, a, g, P0, S, R, x, l, i, rfl, A0, hx, hi, hset, WS, k⟩ := h
    have hu := hu_of hr
    refine ⟨_, pss_cons (ps_if (pt_cmpR op_notN (pv 3) pe_non (nomark _))
        (pss_cons (ps_set (i := 4) scPoint.nd rfl (Or.inl rfl) (pe_dget hu (pe_fld (pv 0) rfl) (pv 3) (fun _ _ => rfl))) (pss_one (ps_fldaug (pv 4) pe_int in_add))) pss_nil)
      (pss_cons (ps_set (i := 5) scPoint.nd rfl (Or.inl rfl) (pe_ix ix_list (pv 1) (pv 2) (fun _ _ => rfl)))
      (pss_cons (ps_asg (pv 3) (pg_sub (pv 1) (pv 2) set_list))
      (pss_one (ps_ret (pe_meth (pv 0) T.clC mL GL hr bL .nil pass0 (pa_cons (pv 5) pa_nil)))))), ?_⟩
    refine ⟨_, rfl, rfl, _, rfl, ?_⟩
    cases x
    case' none =>
      refine iteF ?_
      have A1 : PileAt C B p g { P0 with boxes := bumped P0.boxes none } R H := A0
    case' some n =>
      refine iteT ?_
      obtain ⟨b, hb⟩ := hx n rfl
      have hD : DGet H g.db (.int n) (some (V.ref (g.ba n))) := by
        have := DGet.k (k := Sum.inl n) A0.hd
        rw [valV_dV, hb] at this
        exact this
      have hB := A0.hb n b hb
      refine ⟨_, rfl, p, C, g.dx, _, _, rfl, A0.hp, T.clC, T.nB, pf_boxes _ _ _, _, rfl, g.db, _, rfl, hD, ?_⟩
      refine ⟨_, rfl, g.ba n, B, g.bd n, _, _, rfl, hB, T.clB, T.nW, bf_weight _ _ _, _, _, rfl, rfl, g.bd n, _, hB, (by rw [bf_len]; decide), ?_⟩
      rw [bf_putw]
      have A1 : PileAt C B p g { P0 with boxes := bumped P0.boxes (some n) } R (upd H (g.ba n) (.ins B (g.bd n) (bf (g.sa n) (bump b).wt (bump b).sus))) := A0.box hb bump rfl
      show (tSeq _ _ : TS) _ _ (upd H (g.ba n) (.ins B (g.bd n) (bf (g.sa n) (bump b).wt (bump b).sus)))
      generalize upd H (g.ba n) (.ins B (g.bd n) (bf (g.sa n) (bump b).wt (bump b).sus)) = H1 at A1 ⊢
    all_goals
      obtain ⟨h1, A2⟩ := hset _ A1
      refine ⟨_, rfl, _, rfl, a, _, _, _, rfl, rfl, SqL.of h1, at_of (j := i) rfl (lV_get hi), ?_⟩
      refine ⟨_, rfl, _, rfl, _, rfl, a, _, _, i, rfl, rfl, h1, ixN_of (by rw [lV_len]; exact hi), ?_⟩
      rw [lV_set]
      exact ⟨_, rfl, p, g.dx, _, rfl, A2.hp, pf_no _ _ _ (by decide +kernel) (by decide +kernel) (by decide +kernel), _, rfl, p, g, S, R, l.getD i none, rfl, A2, WS, k⟩
/-! ### make -/
theorem scMake : FnScope ["self", "hand", "size", "number"] ["self", "hand", "size"] (defScope sMake) := ⟨rfl, rfl, rfl, by decide +kernel, rfl, by decide +kernel, by decide +kernel⟩
theorem ok_make {f fL fP fB fK : Addr} {fd fdL fdP fdB fdK : FuncData} (F : Fun K "make" "Pile.make" sMake f fd) (T : Txt K mg C B eH eS eF eB eL) (FL : Fun K "_let_go" "Pile._let_go" sLetGo fL fdL) (bL : Binds K fdL ["self", "pointer"] []) (mL : Meth K C "_let_go" fL)
    (FP : Fun K "_point" "Pile._point" sPoint fP fdP) (bP : Binds K fdP ["self", "pointers", "at", "number"] []) (mP : Meth K C "_point" fP) (MB : Mk K B fB) (FB : Fun K "__init__" "Box.__init__" sBoxInit fB fdB) (bB : Binds K fdB ["self", "size"] [])
    (FK : Fun K "check_hand" "check_hand" sCheck fK fdK) (bK : Binds K fdK ["hand"] []) (gK : mg "check_hand" = some (.ref fK)) :
    FnOk P w K mg base (L2.CX P w) 3 f fd ["self", "hand", "size"] (spMake C B eH eS eF) := by
  have GK : FnOk P w K mg base (L2.CX P w) 1 fK fdK ["hand"] (spCheck eH) := ok_check FK T
  have GB : FnOk P w K mg base CX0 1 fB fdB ["self", "size"] (spBoxInit B) := ok_boxinit FB T
  have GP : FnOk P w K mg base CX0 2 fP fdP ["self", "pointers", "at", "number"] (spPoint C B) := ok_point FP T FL bL mL
  refine F.okX scMake (fun vs H Q E h => ?_) (fun cdv A outer s H vs Q E hr h => ?_)
  · obtain ⟨p, P, R, h, s, rfl, _⟩ := h
    rfl
  · obtain ⟨p, P0, R, h, z, rfl, ⟨⟨g, A0⟩, W0⟩, kH, kS, kF, k⟩ := h
    have hu := hu_of hr
    have hr1 : Room 1 _ := hr.mono (by decide)
    obtain ⟨t6, hT6⟩ := T.most
    obtain ⟨t60, hT60⟩ := T.alive
    refine ⟨_, pss_cons (ps_expr (pe_call GK hr1 rfl gK FK.kp bK .nil (passes_call (takes_of rfl rfl rfl rfl) (fun _ _ _ _ h => h)) (pa_cons (pv 1) pa_nil)))
      (pss_cons (ps_if (pt_not (pt_chain op_le op_le pe_int (pv 2) (pe_glob (v := .int 6) rfl hT6 ⟨_, rfl⟩))) (pss_one (ps_raise rfl (takes_of rfl rfl rfl rfl) (pmk_own PySem.F.excBase_ValueError T.eS.x T.eS.g T.eS.k (raises_own T.eS.b T.eS.t) rfl))) pss_nil)
      (pss_cons (ps_if (pt_cmpR op_ge (pe_callB call_lenD (by rfl) T.len PySem.boot_len (pa_cons (pe_fld (pv 0) rfl) pa_nil)) (pe_glob (v := .int 60) rfl hT60 ⟨_, rfl⟩) (nomark _)) (pss_one (ps_raise rfl (takes_of rfl rfl rfl rfl) (pmk_own PySem.F.excBase_ValueError T.eF.x T.eF.g T.eF.k (raises_own T.eF.b T.eF.t) rfl))) pss_nil)
      (pss_cons (ps_set (i := 3) scMake.nd rfl (Or.inl rfl) (pe_fld (pv 0) rfl))
      (pss_cons (ps_fldaug (pv 0) pe_int in_add)
      (pss_cons (ps_dput hu (pe_fld (pv 0) rfl) (pv 3) (pe_make MB GB hr rfl T.mgB bB .nil pass0 (pa_cons (pv 2) pa_nil)) rfl)
      (pss_one (ps_ret (pe_meth (pv 0) T.clC mP GP hr bP .nil pass0 (pa_cons (pe_fld (pv 0) rfl) (pa_cons (pv 1) (pa_cons (pv 3) pa_nil))))))))))), ?_⟩
    refine ⟨_, rfl, h, rfl, fun ch => ?_, fun ch => kH ch⟩
    refine ⟨_, rfl, _, _, rfl, rfl, _, rfl, ?_⟩
    have size : ∀ {A B : Prop}, ((0 ≤ z ∧ z ≤ 6) → B) → (¬ (0 ≤ z ∧ z ≤ 6) → A) → True := fun _ _ => trivial
    by_cases z0 : 0 ≤ z
    case neg =>
      rw [decide_eq_false z0]
      refine iteF ⟨_, rfl, ?_⟩
      exact iteT (kS ch fun q => z0 q.1)
    rw [decide_eq_true z0]
    refine iteT ⟨_, _, rfl, rfl, _, rfl, ?_⟩
    by_cases z6 : z ≤ 6
    case neg =>
      rw [decide_eq_false z6]
      exact iteT (kS ch fun q => z6 q.2)
    rw [decide_eq_true z6]
    refine iteF ?_
    have kF' := kF ch ⟨z0, z6⟩
    have k' := k ch ⟨z0, z6⟩
    refine ⟨_, rfl, p, C, g.dx, _, _, rfl, A0.hp, T.clC, T.nB, pf_boxes _ _ _, _, _, rfl, A0.hd, _, _, rfl, rfl, _, rfl, ?_⟩
    rw [dV_len]
    by_cases c60 : 60 ≤ P0.boxes.length
    · refine if_pos_of (decide_eq_true (by omega)) ?_
      exact kF' c60
    refine if_neg_of (decide_eq_false (by omega)) ?_
    have c60' : P0.boxes.length < 60 := by omega
    have hsz : z.toNat ≤ 6 := by omega
    have hh8 : h.toNat < 8 := by omega
    refine ⟨_, rfl, p, C, g.dx, _, _, rfl, A0.hp, T.clC, T.nM, pf_made _ _ _, ?_⟩
    refine ⟨_, rfl, p, C, g.dx, _, _, rfl, A0.hp, T.clC, T.nM, pf_made _ _ _, _, _, rfl, rfl, g.dx, _, A0.hp, (by rw [pf_len]; decide), ?_⟩
    rw [pf_put]
    have A1 := A0.count (P0.made + 1)
    generalize upd H p (.ins C g.dx (pf g.lh g.db (P0.made + 1))) = H1 at A1 ⊢
    refine ⟨_, rfl, ?_⟩
    intro x dx nx ndx nex
    refine ⟨x, dx, z.toNat, (by rw [Int.toNat_of_nonneg z0]; rfl), hsz, upd_same, fun l sl hl hsl => ⟨rfl, ?_⟩⟩
    have A2 := A1.new (o := .own x) ndx
    have A3 := A2.new (a := x) (o := .ins B dx []) (by rw [upd_ne nex.symm]; exact nx)
    have A4 := A3.new (o := .lst [.non]) hl
    have A5 := A4.new (o := .lst (lV (List.replicate z.toNat none))) hsl
    have xl : x ≠ l := ne_of_none upd_same hl
    have xsl : x ≠ sl := ne_of_none (by rw [upd_ne xl]; exact upd_same) hsl
    have A6 := A5.set (a := x) (o := .ins B dx (bf sl 0 false)) (by rw [upd_ne xsl, upd_ne xl]; exact upd_same)
    have rx : R x = none := A1.same.free nx
    have rdx : R dx = none := A1.same.free ndx
    have r2 : Same R (upd (upd R dx (.own x)) x (.ins B dx [])) := (same_upd rdx).trans (same_upd (by rw [upd_ne nex.symm]; exact rx))
    have rl : upd (upd R dx (.own x)) x (.ins B dx []) l = none := A3.same.free hl
    have rsl : upd (upd (upd R dx (.own x)) x (.ins B dx [])) l (.lst [.non]) sl = none := A4.same.free hsl
    have r3 := r2.trans (same_upd (o := .lst [.non]) rl)
    have r4 := r3.trans (same_upd (o := .lst (lV (List.replicate z.toNat none))) rsl)
    have r5 : Same R (upd (upd (upd (upd (upd R dx (.own x)) x (.ins B dx [])) l (.lst [.non])) sl (.lst (lV (List.replicate z.toNat none)))) x (.ins B dx (bf sl 0 false))) := fun b o e => by
      rw [upd_ne (ne_of_none e rx)]
      exact r4 b o e
    have gn : get ({ P0 with made := P0.made + 1 } : Pl).boxes P0.made = none := get_none.mpr fun q => by
      have := (W0.lo P0.made q).2
      omega
    have A7 := A6.add (R' := R) (n := P0.made) (b := ⟨List.replicate z.toNat none, 0, false⟩) (x := x) (dx := dx) (sl := sl) gn upd_same (by rw [upd_ne xsl.symm]; exact upd_same) r5 rx (r3.free rsl)
    generalize upd (upd (upd (upd (upd H1 dx (.own x)) x (.ins B dx [])) l (.lst [.non])) sl (.lst (lV (List.replicate z.toNat none)))) x (.ins B dx (bf sl 0 false)) = H6 at A6 A7 ⊢
    refine ⟨_, rfl, p, C, g.dx, _, _, rfl, A6.hp, T.clC, T.nB, pf_boxes _ _ _, _, rfl, g.db, _, rfl, DPut.k (k := Sum.inl P0.made) A6.hd (by rw [dV_len, sizeLine_eq]; show P0.boxes.length < _; omega), ?_⟩
    refine ⟨_, rfl, p, g.dx, _, rfl, A7.hp, pf_no _ _ _ (by decide +kernel) (by decide +kernel) (by decide +kernel), _, rfl, p, C, g.dx, _, _, rfl, A7.hp, T.clC, T.nH, pf_hands _ _ _, _, rfl, _, rfl, ?_⟩
    refine ⟨p, g.lh, _, born P0 z.toNat, { born P0 z.toNat with hands := P0.hands.set h.toNat (some P0.made), boxes := bumped (born P0 z.toNat).boxes (some P0.made) }, R, some P0.made, P0.hands, h.toNat, ?_, A7, (W0.born hsz c60').hx, by rw [W0.hl]; exact hh8,
      fun H1 A => ⟨A.hh, A.hand _⟩, (W0.born hsz c60').hand hh8, fun r H' hr A => k' c60' r H' hr ⟨⟨_, A⟩, mk_ok W0 hh8 hsz c60'⟩⟩
    rw [Int.toNat_of_nonneg ch.1]
    rfl
/-! ### check_slot -/
def spCheckSlot (eL : Addr) : Sp := fun vs H Q E => ∃ (a : Addr) (xs : List V) (z : Int), vs = [.ref a, .int z] ∧ H a = some (.lst xs) ∧ ((0 ≤ z ∧ z < (xs.length : Int)) → Q .non H) ∧ (¬ (0 ≤ z ∧ z < (xs.length : Int)) → E (.ref eL) none H)
theorem scCheckSlot : FnScope ["slots", "slot"] ["slots", "slot"] (defScope sCheckSlot) := ⟨rfl, rfl, rfl, by decide +kernel, rfl, by decide +kernel, by decide +kernel⟩
theorem ok_checkslot {f : Addr} {fd : FuncData} (F : Fun K "check_slot" "check_slot" sCheckSlot f fd) (T : Txt K mg C B eH eS eF eB eL) : FnOk P w K mg base (L2.CX P w) 1 f fd ["slots", "slot"] (spCheckSlot eL) := by
  refine F.okX scCheckSlot (fun vs H Q E h => ?_) (fun cdv A outer s H vs Q E hr h => ?_)
  · obtain ⟨a, xs, z, rfl, _⟩ := h
    rfl
  · obtain ⟨a, xs, z, rfl, ha, k1, k2⟩ := h
    refine ⟨_, pss_one (ps_if (pt_not (pt_chain op_le op_lt pe_int (pv 1) (pe_callB call_len_seq (by rfl) T.len PySem.boot_len (pa_cons (pv 0) pa_nil)))) (pss_one (ps_raise rfl (takes_of rfl rfl rfl rfl) (pmk_own PySem.F.excBase_ValueError T.eL.x T.eL.g T.eL.k (raises_own T.eL.b T.eL.t) rfl))) pss_nil), ?_⟩
    refine ⟨_, rfl, _, _, rfl, rfl, _, rfl, ?_⟩
    by_cases z0 : 0 ≤ z
    case neg =>
      rw [decide_eq_false z0]
      refine iteF ⟨_, rfl, ?_⟩
      exact iteT (k2 fun q => z0 q.1)
    rw [decide_eq_true z0]
    refine iteT ⟨_, rfl, a, _, rfl, .inl (SqL.of ha), _, _, rfl, rfl, _, rfl, ?_⟩
    by_cases zl : z < (xs.length : Int)
    case neg =>
      rw [decide_eq_false zl]
      exact iteT (k2 fun q => zl q.2)
    rw [decide_eq_true zl]
    exact iteF (k1 ⟨z0, zl⟩)
/-! ### _slots_with -/
theorem scSlotsWith : FnScope ["self", "hand", "slot", "number", "slots"] ["self", "hand", "slot"] (defScope sSlotsWith) := ⟨rfl, rfl, rfl, by decide +kernel, rfl, by decide +kernel, by decide +kernel⟩
theorem ok_slotswith {f fCS : Addr} {fd fdCS : FuncData} (F : Fun K "_slots_with" "Pile._slots_with" sSlotsWith f fd) (T : Txt K mg C B eH eS eF eB eL) (FCS : Fun K "check_slot" "check_slot" sCheckSlot fCS fdCS) (bCS : Binds K fdCS ["slots", "slot"] []) (gCS : mg "check_slot" = some (.ref fCS)) : FnOk P w K mg base (L2.CX P w) 2 f fd ["self", "hand", "slot"] (spSlotsWith C B eB eL) := by
  have GCS : FnOk P w K mg base (L2.CX P w) 1 fCS fdCS ["slots", "slot"] (spCheckSlot eL) := ok_checkslot FCS T
  refine F.okX scSlotsWith (fun vs H Q E h => ?_) (fun cdv A outer s H vs Q E hr h => ?_)
  · obtain ⟨p, g, P, R, h, s, rfl, _⟩ := h
    rfl
  · obtain ⟨p, g, P0, R, h, z, rfl, A0, W0, ch, kB, kL, k⟩ := h
    have hu := hu_of hr
    refine ⟨_, pss_cons (ps_set (i := 3) scSlotsWith.nd rfl (Or.inl rfl) (pe_ix ix_list (pe_fld (pv 0) rfl) (pv 1) (fun _ _ => rfl)))
      (pss_cons (ps_if (pt_cmpR op_isN (pv 3) pe_non (nomark _)) (pss_one (ps_raise rfl (takes_of rfl rfl rfl rfl) (pmk_own PySem.F.excBase_ValueError T.eB.x T.eB.g T.eB.k (raises_own T.eB.b T.eB.t) rfl))) pss_nil)
      (pss_cons (ps_set (i := 4) scSlotsWith.nd rfl (Or.inl rfl) (pe_fld (pe_dget hu (pe_fld (pv 0) rfl) (pv 3) (fun _ _ => rfl)) rfl))
      (pss_cons (ps_expr (pe_call GCS hr rfl gCS FCS.kp bCS .nil (passes_call (takes_of rfl rfl rfl rfl) (fun _ _ _ _ h => h)) (pa_cons (pv 4) (pa_cons (pv 2) pa_nil))))
      (pss_one (ps_ret (pv 4)))))), ?_⟩
    have hl : h.toNat < P0.hands.length := by rw [W0.hl]; omega
    have hx := lV_get hl
    refine ⟨_, rfl, p, C, g.dx, _, _, rfl, A0.hp, T.clC, T.nH, pf_hands _ _ _, _, rfl, g.lh, _, _, _, rfl, rfl, SqL.of A0.hh, at_of (j := h.toNat) (by rw [Int.toNat_of_nonneg ch.1]) hx, ?_⟩
    refine ⟨_, rfl, rfl, _, rfl, ?_⟩
    cases e : P0.hands.getD h.toNat none with
    | none => exact iteT (kB e)
    | some n =>
      refine iteF ?_
      obtain ⟨b, hb⟩ := W0.hand e
      have hD : DGet H g.db (.int n) (some (V.ref (g.ba n))) := by
        have := DGet.k (k := Sum.inl n) A0.hd
        rw [valV_dV, hb] at this
        exact this
      refine ⟨_, rfl, p, C, g.dx, _, _, rfl, A0.hp, T.clC, T.nB, pf_boxes _ _ _, _, rfl, g.db, _, rfl, hD, g.ba n, B, g.bd n, _, _, rfl, A0.hb n b hb, T.clB, T.nS, bf_slots _ _ _, ?_⟩
      exact ⟨_, rfl, _, rfl, g.sa n, _, z, rfl, A0.hs n b hb, fun c => ⟨_, rfl, k n b e hb (by rw [lV_len] at c; exact c)⟩, fun c => kL n b e hb (by rw [lV_len] at c; exact c)⟩
/-- a slot is set, as _point does it -/
theorem PileAt.slot' {p : Addr} {g : Geo} {P0 : Pl} {R H1 : Hp} {x : Option Int} {n : Int} {b : Bx} (hb : get P0.boxes n = some b) (i : Nat) (A : PileAt C B p g { P0 with boxes := bumped P0.boxes x } R H1) :
    H1 (g.sa n) = some (.lst (lV b.slots)) ∧ PileAt C B p g { P0 with boxes := chg (bumped P0.boxes x) n (setSlot i x) } R (upd H1 (g.sa n) (.lst (lV (b.slots.set i x)))) := by
  have hb' : get (bumped P0.boxes x) n = some (if x = some n then bump b else b) := by rw [get_bumped, hb]; rfl
  have es : (if x = some n then bump b else b).slots = b.slots := by
    by_cases q : x = some n
    · rw [if_pos q]; rfl
    · rw [if_neg q]
  have h1 := A.hs n _ hb'
  have h2 := A.slot hb' i x
  rw [es] at h1 h2
  exact ⟨h1, h2⟩
theorem slotOf_eq {bs : List (Int × Bx)} {n : Int} {b : Bx} (hb : get bs n = some b) (i : Nat) : slotOf bs n i = b.slots.getD i none := by
  unfold slotOf
  rw [hb]
/-! ### put -/
theorem scPut : FnScope ["self", "hand", "slot", "other"] ["self", "hand", "slot", "other"] (defScope sPut) := ⟨rfl, rfl, rfl, by decide +kernel, rfl, by decide +kernel, by decide +kernel⟩
theorem ok_put {f fL fP fK fY fCS : Addr} {fd fdL fdP fdK fdY fdCS : FuncData} (F : Fun K "put" "Pile.put" sPut f fd) (T : Txt K mg C B eH eS eF eB eL) (FL : Fun K "_let_go" "Pile._let_go" sLetGo fL fdL) (bL : Binds K fdL ["self", "pointer"] []) (mL : Meth K C "_let_go" fL)
    (FP : Fun K "_point" "Pile._point" sPoint fP fdP) (bP : Binds K fdP ["self", "pointers", "at", "number"] []) (mP : Meth K C "_point" fP) (FK : Fun K "check_hand" "check_hand" sCheck fK fdK) (bK : Binds K fdK ["hand"] []) (gK : mg "check_hand" = some (.ref fK)) (FY : Fun K "_slots_with" "Pile._slots_with" sSlotsWith fY fdY) (bY : Binds K fdY ["self", "hand", "slot"] []) (mY : Meth K C "_slots_with" fY) (FCS : Fun K "check_slot" "check_slot" sCheckSlot fCS fdCS) (bCS : Binds K fdCS ["slots", "slot"] []) (gCS : mg "check_slot" = some (.ref fCS)) :
    FnOk P w K mg base (L2.CX P w) 3 f fd ["self", "hand", "slot", "other"] (spPut C B eH eB eL) := by
  have GK : FnOk P w K mg base (L2.CX P w) 1 fK fdK ["hand"] (spCheck eH) := ok_check FK T
  have GP : FnOk P w K mg base CX0 2 fP fdP ["self", "pointers", "at", "number"] (spPoint C B) := ok_point FP T FL bL mL
  have GY : FnOk P w K mg base (L2.CX P w) 2 fY fdY ["self", "hand", "slot"] (spSlotsWith C B eB eL) := ok_slotswith FY T FCS bCS gCS
  refine F.okX scPut (fun vs H Q E h => ?_) (fun cdv A outer s H vs Q E hr h => ?_)
  · obtain ⟨p, P, R, h, s, o, rfl, _⟩ := h
    rfl
  · obtain ⟨p, P0, R, h, z, o, rfl, ⟨⟨g, A0⟩, W0⟩, kH, kO, kB, kL, k⟩ := h
    have hr1 : Room 1 _ := hr.mono (by decide)
    refine ⟨_, pss_cons (ps_expr (pe_call GK hr1 rfl gK FK.kp bK .nil (passes_call (takes_of rfl rfl rfl rfl) (fun _ _ _ _ h => h)) (pa_cons (pv 1) pa_nil))) (pss_cons (ps_expr (pe_call GK hr1 rfl gK FK.kp bK .nil (passes_call (takes_of rfl rfl rfl rfl) (fun _ _ _ _ h => h)) (pa_cons (pv 3) pa_nil)))
      (pss_one (ps_ret (pe_meth (pv 0) T.clC mP GP hr bP .nil pass0 (pa_cons (pe_meth (pv 0) T.clC mY GY hr bY .nil (passes_call (takes_of rfl rfl rfl rfl) (fun _ _ _ _ h => h)) (pa_cons (pv 1) (pa_cons (pv 2) pa_nil))) (pa_cons (pv 2) (pa_cons (pe_ix ix_list (pe_fld (pv 0) rfl) (pv 3) (fun _ _ => rfl)) pa_nil))))))), ?_⟩
    refine ⟨_, rfl, h, rfl, fun ch => ?_, fun ch => kH ch⟩
    refine ⟨_, rfl, o, rfl, fun co => ?_, fun co => kO ch co⟩
    have ol : o.toNat < P0.hands.length := by rw [W0.hl]; omega
    have hpre : Pre P0 (P0.hands.getD o.toNat none) := W0.pre fun n e => W0.hand e
    refine ⟨_, rfl, p, g.dx, _, rfl, A0.hp, pf_no _ _ _ (by decide +kernel) (by decide +kernel) (by decide +kernel), _, rfl, p, g.dx, _, rfl, A0.hp, pf_no _ _ _ (by decide +kernel) (by decide +kernel) (by decide +kernel), _, rfl, _, rfl, p, g, P0, R, h, z, rfl, A0, W0, ch, kB ch co, kL ch co, fun n b e hb cz => ?_⟩
    refine ⟨_, rfl, _, rfl, p, C, g.dx, _, _, rfl, A0.hp, T.clC, T.nH, pf_hands _ _ _, _, rfl, g.lh, _, _, _, rfl, rfl, SqL.of A0.hh, at_of (j := o.toNat) (by rw [Int.toNat_of_nonneg co.1]) (lV_get ol), ?_⟩
    have zl : z.toNat < b.slots.length := by omega
    have k' := k ch co n b e hb cz
    unfold ptSlot at k'
    rw [slotOf_eq hb] at k'
    have W' := ptSlot_ok hpre hb zl
    unfold ptSlot at W'
    rw [slotOf_eq hb] at W'
    exact ⟨p, g.sa n, g, P0, { P0 with boxes := chg (bumped P0.boxes (P0.hands.getD o.toNat none)) n (setSlot z.toNat (P0.hands.getD o.toNat none)) }, R, P0.hands.getD o.toNat none, b.slots, z.toNat, (by rw [Int.toNat_of_nonneg cz.1]; rfl), A0, hpre.hx, zl,
      fun H1 A => A.slot' hb z.toNat, hpre.slot hb zl, fun r H' hr A => k' r H' hr ⟨⟨_, A⟩, W'⟩⟩
/-! ### empty -/
theorem scEmpty : FnScope ["self", "hand", "slot"] ["self", "hand", "slot"] (defScope sEmpty) := ⟨rfl, rfl, rfl, by decide +kernel, rfl, by decide +kernel, by decide +kernel⟩
theorem ok_empty {f fL fP fK fY fCS : Addr} {fd fdL fdP fdK fdY fdCS : FuncData} (F : Fun K "empty" "Pile.empty" sEmpty f fd) (T : Txt K mg C B eH eS eF eB eL) (FL : Fun K "_let_go" "Pile._let_go" sLetGo fL fdL) (bL : Binds K fdL ["self", "pointer"] []) (mL : Meth K C "_let_go" fL)
    (FP : Fun K "_point" "Pile._point" sPoint fP fdP) (bP : Binds K fdP ["self", "pointers", "at", "number"] []) (mP : Meth K C "_point" fP) (FK : Fun K "check_hand" "check_hand" sCheck fK fdK) (bK : Binds K fdK ["hand"] []) (gK : mg "check_hand" = some (.ref fK)) (FY : Fun K "_slots_with" "Pile._slots_with" sSlotsWith fY fdY) (bY : Binds K fdY ["self", "hand", "slot"] []) (mY : Meth K C "_slots_with" fY) (FCS : Fun K "check_slot" "check_slot" sCheckSlot fCS fdCS) (bCS : Binds K fdCS ["slots", "slot"] []) (gCS : mg "check_slot" = some (.ref fCS)) :
    FnOk P w K mg base (L2.CX P w) 3 f fd ["self", "hand", "slot"] (spEmpty C B eH eB eL) := by
  have GK : FnOk P w K mg base (L2.CX P w) 1 fK fdK ["hand"] (spCheck eH) := ok_check FK T
  have GP : FnOk P w K mg base CX0 2 fP fdP ["self", "pointers", "at", "number"] (spPoint C B) := ok_point FP T FL bL mL
  have GY : FnOk P w K mg base (L2.CX P w) 2 fY fdY ["self", "hand", "slot"] (spSlotsWith C B eB eL) := ok_slotswith FY T FCS bCS gCS
  refine F.okX scEmpty (fun vs H Q E h => ?_) (fun cdv A outer s H vs Q E hr h => ?_)
  · obtain ⟨p, P, R, h, s, rfl, _⟩ := h
    rfl
  · obtain ⟨p, P0, R, h, z, rfl, ⟨⟨g, A0⟩, W0⟩, kH, kB, kL, k⟩ := h
    have hr1 : Room 1 _ := hr.mono (by decide)
    refine ⟨_, pss_cons (ps_expr (pe_call GK hr1 rfl gK FK.kp bK .nil (passes_call (takes_of rfl rfl rfl rfl) (fun _ _ _ _ h => h)) (pa_cons (pv 1) pa_nil)))
      (pss_one (ps_ret (pe_meth (pv 0) T.clC mP GP hr bP .nil pass0 (pa_cons (pe_meth (pv 0) T.clC mY GY hr bY .nil (passes_call (takes_of rfl rfl rfl rfl) (fun _ _ _ _ h => h)) (pa_cons (pv 1) (pa_cons (pv 2) pa_nil))) (pa_cons (pv 2) (pa_cons pe_non pa_nil)))))), ?_⟩
    refine ⟨_, rfl, h, rfl, fun ch => ?_, fun ch => kH ch⟩
    have hpre : Pre P0 none := W0.pre fun n e => by cases e
    refine ⟨_, rfl, p, g.dx, _, rfl, A0.hp, pf_no _ _ _ (by decide +kernel) (by decide +kernel) (by decide +kernel), _, rfl, p, g.dx, _, rfl, A0.hp, pf_no _ _ _ (by decide +kernel) (by decide +kernel) (by decide +kernel), _, rfl, _, rfl, p, g, P0, R, h, z, rfl, A0, W0, ch, kB ch, kL ch, fun n b e hb cz => ?_⟩
    refine ⟨_, rfl, ?_⟩
    have zl : z.toNat < b.slots.length := by omega
    have k' := k ch n b e hb cz
    unfold ptSlot at k'
    rw [slotOf_eq hb] at k'
    have W' := ptSlot_ok hpre hb zl
    unfold ptSlot at W'
    rw [slotOf_eq hb] at W'
    exact ⟨p, g.sa n, g, P0, { P0 with boxes := chg (bumped P0.boxes none) n (setSlot z.toNat none) }, R, none, b.slots, z.toNat, (by rw [Int.toNat_of_nonneg cz.1]; rfl), A0, hpre.hx, zl,
      fun H1 A => A.slot' hb z.toNat, hpre.slot hb zl, fun r H' hr A => k' r H' hr ⟨⟨_, A⟩, W'⟩⟩
/-! ### take -/
theorem scTake : FnScope ["self", "hand", "other", "slot", "slots"] ["self", "hand", "other", "slot"] (defScope sTake) := ⟨rfl, rfl, rfl, by decide +kernel, rfl, by decide +kernel, by decide +kernel⟩
theorem ok_take {f fL fP fK fY fCS : Addr} {fd fdL fdP fdK fdY fdCS : FuncData} (F : Fun K "take" "Pile.take" sTake f fd) (T : Txt K mg C B eH eS eF eB eL) (FL : Fun K "_let_go" "Pile._let_go" sLetGo fL fdL) (bL : Binds K fdL ["self", "pointer"] []) (mL : Meth K C "_let_go" fL)
    (FP : Fun K "_point" "Pile._point" sPoint fP fdP) (bP : Binds K fdP ["self", "pointers", "at", "number"] []) (mP : Meth K C "_point" fP) (FK : Fun K "check_hand" "check_hand" sCheck fK fdK) (bK : Binds K fdK ["hand"] []) (gK : mg "check_hand" = some (.ref fK)) (FY : Fun K "_slots_with" "Pile._slots_with" sSlotsWith fY fdY) (bY : Binds K fdY ["self", "hand", "slot"] []) (mY : Meth K C "_slots_with" fY) (FCS : Fun K "check_slot" "check_slot" sCheckSlot fCS fdCS) (bCS : Binds K fdCS ["slots", "slot"] []) (gCS : mg "check_slot" = some (.ref fCS)) :
    FnOk P w K mg base (L2.CX P w) 3 f fd ["self", "hand", "other", "slot"] (spTake C B eH eB eL) := by
  have GK : FnOk P w K mg base (L2.CX P w) 1 fK fdK ["hand"] (spCheck eH) := ok_check FK T
  have GP : FnOk P w K mg base CX0 2 fP fdP ["self", "pointers", "at", "number"] (spPoint C B) := ok_point FP T FL bL mL
  have GY : FnOk P w K mg base (L2.CX P w) 2 fY fdY ["self", "hand", "slot"] (spSlotsWith C B eB eL) := ok_slotswith FY T FCS bCS gCS
  refine F.okX scTake (fun vs H Q E h => ?_) (fun cdv A outer s H vs Q E hr h => ?_)
  · obtain ⟨p, P, R, h, o, s, rfl, _⟩ := h
    rfl
  · obtain ⟨p, P0, R, h, o, z, rfl, ⟨⟨g, A0⟩, W0⟩, kH, kO, kB, kL, k⟩ := h
    have hr1 : Room 1 _ := hr.mono (by decide)
    refine ⟨_, pss_cons (ps_expr (pe_call GK hr1 rfl gK FK.kp bK .nil (passes_call (takes_of rfl rfl rfl rfl) (fun _ _ _ _ h => h)) (pa_cons (pv 1) pa_nil))) (pss_cons (ps_expr (pe_call GK hr1 rfl gK FK.kp bK .nil (passes_call (takes_of rfl rfl rfl rfl) (fun _ _ _ _ h => h)) (pa_cons (pv 2) pa_nil)))
      (pss_cons (ps_set (i := 4) scTake.nd rfl (Or.inl rfl) (pe_meth (pv 0) T.clC mY GY hr bY .nil (passes_call (takes_of rfl rfl rfl rfl) (fun _ _ _ _ h => h)) (pa_cons (pv 2) (pa_cons (pv 3) pa_nil))))
      (pss_one (ps_ret (pe_meth (pv 0) T.clC mP GP hr bP .nil pass0 (pa_cons (pe_fld (pv 0) rfl) (pa_cons (pv 1) (pa_cons (pe_ix ix_list (pv 4) (pv 3) (fun _ _ => rfl)) pa_nil)))))))), ?_⟩
    refine ⟨_, rfl, h, rfl, fun ch => ?_, fun ch => kH ch⟩
    refine ⟨_, rfl, o, rfl, fun co => ?_, fun co => kO ch co⟩
    have h8 : h.toNat < 8 := by omega
    refine ⟨_, rfl, p, g.dx, _, rfl, A0.hp, pf_no _ _ _ (by decide +kernel) (by decide +kernel) (by decide +kernel), _, rfl, _, rfl, p, g, P0, R, o, z, rfl, A0, W0, co, kB ch co, kL ch co, fun n b e hb cz => ?_⟩
    have zl : z.toNat < b.slots.length := by omega
    have hpre : Pre P0 (b.slots.getD z.toNat none) := W0.pre fun n e => W0.slot hb e
    refine ⟨_, rfl, p, g.dx, _, rfl, A0.hp, pf_no _ _ _ (by decide +kernel) (by decide +kernel) (by decide +kernel), _, rfl, p, C, g.dx, _, _, rfl, A0.hp, T.clC, T.nH, pf_hands _ _ _, _, rfl, _, rfl, _, rfl, g.sa n, _, _, _, rfl, rfl, SqL.of (A0.hs n b hb), at_of (j := z.toNat) (by rw [Int.toNat_of_nonneg cz.1]) (lV_get zl), ?_⟩
    have k' := k ch co n b e hb cz
    exact ⟨p, g.lh, g, P0, { P0 with hands := P0.hands.set h.toNat (b.slots.getD z.toNat none), boxes := bumped P0.boxes (b.slots.getD z.toNat none) }, R, b.slots.getD z.toNat none, P0.hands, h.toNat, (by rw [Int.toNat_of_nonneg ch.1]; rfl), A0, hpre.hx, by rw [W0.hl]; exact h8,
      fun H1 A => ⟨A.hh, A.hand _⟩, hpre.hand h8, fun r H' hr A => k' r H' hr ⟨⟨_, A⟩, ptHand_ok hpre h8⟩⟩
/-! ### what a pile tells -/
theorem scHolds : FnScope ["self", "hand"] ["self", "hand"] (defScope sHolds) := ⟨rfl, rfl, rfl, by decide +kernel, rfl, by decide +kernel, by decide +kernel⟩
theorem ok_holds {f fK : Addr} {fd fdK : FuncData} (F : Fun K "holds" "Pile.holds" sHolds f fd) (T : Txt K mg C B eH eS eF eB eL) (FK : Fun K "check_hand" "check_hand" sCheck fK fdK) (bK : Binds K fdK ["hand"] []) (gK : mg "check_hand" = some (.ref fK)) :
    FnOk P w K mg base (L2.CX P w) 2 f fd ["self", "hand"] (spHolds C B eH) := by
  have GK : FnOk P w K mg base (L2.CX P w) 1 fK fdK ["hand"] (spCheck eH) := ok_check FK T
  refine F.okX scHolds (fun vs H Q E h => ?_) (fun cdv A outer s H vs Q E hr h => ?_)
  · obtain ⟨p, g, P, R, h, rfl, _⟩ := h
    rfl
  · obtain ⟨p, g, P0, R, h, rfl, A0, h8, kH, k⟩ := h
    refine ⟨_, pss_cons (ps_expr (pe_call GK hr rfl gK FK.kp bK .nil (passes_call (takes_of rfl rfl rfl rfl) (fun _ _ _ _ h => h)) (pa_cons (pv 1) pa_nil)))
      (pss_one (ps_ret (pe_ix ix_list (pe_fld (pv 0) rfl) (pv 1) (fun _ _ => rfl)))), ?_⟩
    refine ⟨_, rfl, h, rfl, fun ch => ?_, fun ch => kH ch⟩
    exact ⟨_, rfl, p, C, g.dx, _, _, rfl, A0.hp, T.clC, T.nH, pf_hands _ _ _, _, rfl, g.lh, _, _, _, rfl, rfl, SqL.of A0.hh, at_of (j := h.toNat) (by rw [Int.toNat_of_nonneg ch.1]) (lV_get (by omega)), k ch⟩
theorem scBox : FnScope ["self", "number"] ["self", "number"] (defScope sBox) := ⟨rfl, rfl, rfl, by decide +kernel, rfl, by decide +kernel, by decide +kernel⟩
theorem ok_box {f : Addr} {fd : FuncData} (F : Fun K "_box" "Pile._box" sBox f fd) (T : Txt K mg C B eH eS eF eB eL) : FnOk P w K mg base (L2.CX P w) 1 f fd ["self", "number"] (spBox C B eB) := by
  refine F.okX scBox (fun vs H Q E h => ?_) (fun cdv A outer s H vs Q E hr h => ?_)
  · obtain ⟨p, g, P, R, h, rfl, _⟩ := h
    rfl
  · obtain ⟨p, g, P0, R, n, rfl, A0, kB, k⟩ := h
    have hu := hu_of hr
    refine ⟨_, pss_cons (ps_if (pt_cmp (pc_dnotin hu (pv 1) (pe_fld (pv 0) rfl))) (pss_one (ps_raise rfl (takes_of rfl rfl rfl rfl) (pmk_own PySem.F.excBase_ValueError T.eB.x T.eB.g T.eB.k (raises_own T.eB.b T.eB.t) rfl))) pss_nil)
      (pss_one (ps_ret (pe_dget hu (pe_fld (pv 0) rfl) (pv 1) (fun _ _ => rfl)))), ?_⟩
    refine ⟨_, rfl, _, rfl, p, C, g.dx, _, _, rfl, A0.hp, T.clC, T.nB, pf_boxes _ _ _, g.db, _, rfl, DGet.k (k := Sum.inl n) A0.hd, _, rfl, ?_⟩
    have hD := DGet.k (k := Sum.inl n) A0.hd
    rw [valV_dV] at hD ⊢
    cases e : get P0.boxes n with
    | none => exact iteT (kB e)
    | some b =>
      rw [e] at hD
      refine iteF ?_
      exact ⟨_, rfl, p, C, g.dx, _, _, rfl, A0.hp, T.clC, T.nB, pf_boxes _ _ _, _, rfl, g.db, _, rfl, hD, k b e⟩
theorem scPoints : FnScope ["self", "number"] ["self", "number"] (defScope sPoints) := ⟨rfl, rfl, rfl, by decide +kernel, rfl, by decide +kernel, by decide +kernel⟩
theorem ok_points {f fX : Addr} {fd fdX : FuncData} (F : Fun K "points" "Pile.points" sPoints f fd) (T : Txt K mg C B eH eS eF eB eL) (FX : Fun K "_box" "Pile._box" sBox fX fdX) (bX : Binds K fdX ["self", "number"] []) (mX : Meth K C "_box" fX) :
    FnOk P w K mg base (L2.CX P w) 2 f fd ["self", "number"] (spPoints C B eB) := by
  have GX : FnOk P w K mg base (L2.CX P w) 1 fX fdX ["self", "number"] (spBox C B eB) := ok_box FX T
  refine F.okX scPoints (fun vs H Q E h => ?_) (fun cdv A outer s H vs Q E hr h => ?_)
  · obtain ⟨p, g, P, R, h, rfl, _⟩ := h
    rfl
  · obtain ⟨p, g, P0, R, n, rfl, A0, hl6, kB, k⟩ := h
    refine ⟨_, pss_one (ps_ret (pe_callTy call_list_of (by rfl) T.list (by decide +kernel) (pa_cons (pe_fld (pe_meth (pv 0) T.clC mX GX hr bX .nil (passes_call (takes_of rfl rfl rfl rfl) (fun _ _ _ _ h => h)) (pa_cons (pv 1) pa_nil)) rfl) pa_nil))), ?_⟩
    refine ⟨_, rfl, p, g.dx, _, rfl, A0.hp, pf_no _ _ _ (by decide +kernel) (by decide +kernel) (by decide +kernel), _, rfl, p, g, P0, R, n, rfl, A0, kB, fun b hb => ?_⟩
    exact ⟨g.ba n, B, g.bd n, _, _, rfl, A0.hb n b hb, T.clB, T.nS, bf_slots _ _ _, g.sa n, _, rfl, .inl (SqL.of (A0.hs n b hb)), fun r hr => k b hb r hr⟩
theorem scWeighs : FnScope ["self", "number"] ["self", "number"] (defScope sWeighs) := ⟨rfl, rfl, rfl, by decide +kernel, rfl, by decide +kernel, by decide +kernel⟩
theorem ok_weighs {f fX : Addr} {fd fdX : FuncData} (F : Fun K "weighs" "Pile.weighs" sWeighs f fd) (T : Txt K mg C B eH eS eF eB eL) (FX : Fun K "_box" "Pile._box" sBox fX fdX) (bX : Binds K fdX ["self", "number"] []) (mX : Meth K C "_box" fX) :
    FnOk P w K mg base (L2.CX P w) 2 f fd ["self", "number"] (spWeighs C B eB) := by
  have GX : FnOk P w K mg base (L2.CX P w) 1 fX fdX ["self", "number"] (spBox C B eB) := ok_box FX T
  refine F.okX scWeighs (fun vs H Q E h => ?_) (fun cdv A outer s H vs Q E hr h => ?_)
  · obtain ⟨p, g, P, R, h, rfl, _⟩ := h
    rfl
  · obtain ⟨p, g, P0, R, n, rfl, A0, kB, k⟩ := h
    refine ⟨_, pss_one (ps_ret (pe_fld (pe_meth (pv 0) T.clC mX GX hr bX .nil (passes_call (takes_of rfl rfl rfl rfl) (fun _ _ _ _ h => h)) (pa_cons (pv 1) pa_nil)) rfl)), ?_⟩
    refine ⟨_, rfl, p, g.dx, _, rfl, A0.hp, pf_no _ _ _ (by decide +kernel) (by decide +kernel) (by decide +kernel), _, rfl, p, g, P0, R, n, rfl, A0, kB, fun b hb => ?_⟩
    exact ⟨g.ba n, B, g.bd n, _, _, rfl, A0.hb n b hb, T.clB, T.nW, bf_weight _ _ _, k b hb⟩
theorem scAlive : FnScope ["self"] ["self"] (defScope sAlive) := ⟨rfl, rfl, rfl, by decide +kernel, rfl, by decide +kernel, by decide +kernel⟩
theorem sorted_same {ys ks : List Int} (p : ys.Perm ks) (h : ys.Pairwise (· ≤ ·)) (hk : ks.Pairwise (· < ·)) : ys = ks :=
  p.eq_of_pairwise (fun a b _ _ h1 h2 => Int.le_antisymm h1 h2) h (hk.imp fun h => Int.le_of_lt h)
theorem ok_alive {f : Addr} {fd : FuncData} (F : Fun K "alive" "Pile.alive" sAlive f fd) (T : Txt K mg C B eH eS eF eB eL) : FnOk P w K mg base CX0 1 f fd ["self"] (spAlive C B) := by
  refine F.ok scAlive (fun vs H Q E h => ?_) (fun cdv A outer s H vs Q E hr h => ?_)
  · obtain ⟨p, g, P, R, rfl, _⟩ := h
    rfl
  · obtain ⟨p, g, P0, R, rfl, A0, W0, k⟩ := h
    refine ⟨_, pss_one (ps_ret (pe_callB (call_sortedDI rfl) (by rfl) T.sorted (by decide +kernel) (pa_cons (pe_fld (pv 0) rfl) pa_nil))), ?_⟩
    refine ⟨_, rfl, p, C, g.dx, _, _, rfl, A0.hp, T.clC, T.nB, pf_boxes _ _ _, g.db, _, keys P0.boxes, rfl, .inl A0.hd, dV_keys _ _, ?_, fun ys r hp hs hr => ?_⟩
    · have := W0.few
      have e : (keys P0.boxes).length = P0.boxes.length := List.length_map _
      omega
    · rw [sorted_same hp hs W0.ks]
      exact k r hr
theorem scSuspects : FnScope ["self", "number"] ["self"] (defScope sSuspects) := ⟨rfl, rfl, rfl, by decide +kernel, rfl, by decide +kernel, by decide +kernel⟩
theorem take_get {α : Type} : ∀ {l : List α} {i : Nat} {x : α}, l[i]? = some x → l.take (i + 1) = l.take i ++ [x]
  | [], i, x, h => by simp at h
  | a :: l, 0, x, h => by
    have e : a = x := Option.some.inj h
    subst e
    rfl
  | a :: l, i + 1, x, h => by
    have ih := take_get (l := l) (i := i) (x := x) h
    show a :: l.take (i + 1) = a :: l.take i ++ [x]
    rw [ih]
    rfl
theorem ok_suspects {f : Addr} {fd : FuncData} (F : Fun K "suspects" "Pile.suspects" sSuspects f fd) (T : Txt K mg C B eH eS eF eB eL) : FnOk P w K mg base CX0 1 f fd ["self"] (spSuspects C B) := by
  refine F.ok scSuspects (fun vs H Q E h => ?_) (fun cdv A outer s H vs Q E hr h => ?_)
  · obtain ⟨p, g, P, R, rfl, _⟩ := h
    rfl
  · obtain ⟨p, g, P0, R, rfl, A0, W0, k⟩ := h
    have hu := hu_of hr
    refine ⟨_, pss_one (ps_ret (pe_lc (own := [("number", 1)]) (g := gName 1) (tt := tB (tFld K (tDGet (tFld K (tVar 0) "_boxes") (tVar 1)) "suspect")) rfl scSuspects.nd (pi_list (pe_callB (call_sortedDI rfl) (by rfl) T.sorted (by decide +kernel) (pa_cons (pe_fld (pv 0) rfl) pa_nil)))
      (blkOk_by (N := ["self", "number"]) (sc := defScope sSuspects) (by decide +kernel)) (fun _ _ _ _ _ => pg_name (i := 1) scSuspects.nd rfl (Or.inl rfl))
      (fun _ _ _ _ _ => pts_one (pt_val (pe_fld (pe_dget hu (pe_fld (pv 0) rfl) (pv 1) (fun _ _ => rfl)) rfl))) (fun _ _ _ _ _ => by exact (pv 1)))), ?_⟩
    refine ⟨_, rfl, p, C, g.dx, _, _, rfl, A0.hp, T.clC, T.nB, pf_boxes _ _ _, g.db, _, keys P0.boxes, rfl, .inl A0.hd, dV_keys _ _, ?_, fun ys r hp hs hr => ?_⟩
    · have := W0.few
      have e : (keys P0.boxes).length = P0.boxes.length := List.length_map _
      omega
    · rw [sorted_same hp hs W0.ks]
      refine ⟨r, rfl, ⟨_, SqL.of upd_same⟩, fun D hD => ?_⟩
      have A1 := A0.new (o := .lst ((keys P0.boxes).map V.int)) hr
      have nrD : r ≠ D := ne_of_none upd_same hD
      have A2 := A1.new (o := .lst []) hD
      refine lc_list (K := K) (a := r) (xs := (keys P0.boxes).map V.int) (fun i H' => PileAt C B p g P0 (twoL R r D ((keys P0.boxes).map V.int) ((((keys P0.boxes).take i).filter fun n => match get P0.boxes n with | none => false | some b => b.sus).map V.int)) H') A2 ?_ ?_ ?_
      · intro i H' _ A
        exact SqL.of (A.same _ _ (by unfold twoL; rw [upd_ne nrD, upd_same]))
      · intro i y H' hi A
        obtain ⟨n, hn, rfl⟩ : ∃ n, (keys P0.boxes)[i]? = some n ∧ y = V.int n := by
          rw [List.getElem?_map] at hi
          cases e : (keys P0.boxes)[i]? with
          | none => rw [e] at hi; cases hi
          | some n =>
            rw [e] at hi
            exact ⟨n, rfl, (Option.some.inj hi).symm⟩
        obtain ⟨b, hb⟩ := get_keys.mpr (List.mem_of_getElem? hn)
        have hD' : DGet H' g.db (.int n) (some (V.ref (g.ba n))) := by
          have := DGet.k (k := Sum.inl n) A.hd
          rw [valV_dV, hb] at this
          exact this
        have hacc : H' D = some (.lst ((((keys P0.boxes).take i).filter fun n => match get P0.boxes n with | none => false | some b => b.sus).map V.int)) := A.same _ _ (by unfold twoL; rw [upd_same])
        refine ⟨rfl, _, rfl, p, C, g.dx, _, _, rfl, A.hp, T.clC, T.nB, pf_boxes _ _ _, _, rfl, g.db, _, rfl, hD', g.ba n, B, g.bd n, _, _, rfl, A.hb n b hb, T.clB, T.nU, bf_suspect _ _ _, b.sus, rfl, ?_⟩
        cases q : b.sus with
        | true =>
          refine iteT ⟨_, rfl, _, hacc, ?_, ?_⟩
          · rw [List.length_map, sizeLine_eq]
            have h1 := List.length_filter_le (fun n => match get P0.boxes n with | none => false | some b => b.sus) ((keys P0.boxes).take i)
            have h2 : ((keys P0.boxes).take i).length ≤ (keys P0.boxes).length := by rw [List.length_take]; exact Nat.min_le_right _ _
            have e : (keys P0.boxes).length = P0.boxes.length := List.length_map _
            have := W0.few
            omega
          · have := A.set (a := D) (o := .lst ((((keys P0.boxes).take i).filter fun n => match get P0.boxes n with | none => false | some b => b.sus).map V.int ++ [V.int n])) (by unfold twoL; rw [upd_same])
            rw [twoL_b] at this
            rw [take_get hn, List.filter_append, List.map_append]
            have e1 : (List.filter (fun n => match get P0.boxes n with | none => false | some b => b.sus) [n]) = [n] := by simp [hb, q]
            rw [e1]
            exact this
        | false =>
          refine iteF ?_
          rw [take_get hn, List.filter_append, List.map_append]
          have e1 : (List.filter (fun n => match get P0.boxes n with | none => false | some b => b.sus) [n]) = [] := by simp [hb, q]
          rw [e1, List.map_nil, List.append_nil]
          exact A
      · intro H' A
        have el : ((keys P0.boxes).map V.int).length = (keys P0.boxes).length := List.length_map _
        rw [el, List.take_length] at A
        refine k D H' (A0.same.free (by rw [upd_ne nrD.symm] at hD; exact hD)) (A.less fun b o e => ?_)
        by_cases q : b = D
        · rw [q, upd_same] at e
          rw [q]
          unfold twoL
          rw [upd_same]
          exact e
        · rw [upd_ne q] at e
          unfold twoL
          rw [upd_ne q, upd_ne (ne_of_none (A0.same _ _ e) hr)]
          exact e
end
end BP

namespace BP
open PySem L2
abbrev sWhole : Stmt := top 17
abbrev sNums : Stmt := top 19
abbrev sCellAt : Stmt := top 18
abbrev sDone : Stmt := top 20
abbrev sPointers : Stmt := top 21
abbrev sStands : Stmt := top 22
abbrev sLaw : Stmt := top 23
/-- the names of the built-ins that the law's helpers call -/
structure TxtL (mg : Str → Option Value) : Prop where
  isi : mg "isinstance" = none
  int : mg "int" = none
  bool : mg "bool" = none
  list : mg "list" = none
  len : mg "len" = none
  range : mg "range" = none
  min : mg "min" = none
  sorted : mg "sorted" = none
  set : mg "set" = none
def spWhole : Sp := fun vs H Q _ => ∃ n : Int, vs = [.int n] ∧ Q (.bl true) H
def spLaw (K : PySem.W.Frag) : Sp := fun vs H Q _ => ∃ (a : Addr) (ns : List Int), vs = [.ref a] ∧ SqL K H a (ns.map V.int) ∧ ns.length ≤ 63 ∧ ∀ H', Q (.bl true) H'
def spNums : Sp := fun vs H Q _ => ∃ (a b : Addr) (l : List (Option Int)), vs = [.ref a, .ref b] ∧ H a = some (.lst (lV l)) ∧ H b = some (.lst (lV l)) ∧ l.length ≤ 1000 ∧ Q (.bl true) H
section
variable {P : Program} {w : World} {K : PySem.W.Frag} {mg : Str → Option Value} {base : Heap} {C B eH eS eF eB eL : Addr}
theorem scWhole : FnScope ["_law_found"] ["_law_found"] (defScope sWhole) := ⟨rfl, rfl, rfl, by decide +kernel, rfl, by decide +kernel, by decide +kernel⟩
theorem ok_whole {f : Addr} {fd : FuncData} (F : Fun K "_law_whole" "_law_whole" sWhole f fd) (T : TxtL mg) : FnOk P w K mg base CX0 1 f fd ["_law_found"] spWhole := by
  refine F.ok scWhole (fun vs H Q E h => ?_) (fun cdv A outer s H vs Q E hr h => ?_)
  · obtain ⟨n, rfl, _⟩ := h
    rfl
  · obtain ⟨n, rfl, k⟩ := h
    refine ⟨_, pss_one (ps_ret (pe_and (pe_callB call_isi (by rfl) T.isi PyProof.Rows.boot_isinstance (pa_cons (pv 0) (pa_cons (pe_bltn (v := .ty "int") (by rfl) T.int PyProof.Rows.boot_int rfl) pa_nil)))
      (pe_one (pe_not (pe_callB call_isi (by rfl) T.isi PyProof.Rows.boot_isinstance (pa_cons (pv 0) (pa_cons (pe_bltn (v := .ty "bool") (by rfl) T.bool (by decide +kernel) rfl) pa_nil))))))), ?_⟩
    refine ⟨_, rfl, _, _, _, _, true, rfl, .ty "int", .base (.int n), kit_ty (by decide +kernel), _, rfl, ?_⟩
    refine iteT ⟨_, rfl, _, _, _, _, false, rfl, .ty "bool", .base (.int n), kit_ty (by decide +kernel), _, rfl, ?_⟩
    exact k
theorem scNums : FnScope ["_law_found", "_law_due", "_law_k"] ["_law_found", "_law_due"] (defScope sNums) := ⟨rfl, rfl, rfl, by decide +kernel, rfl, by decide +kernel, by decide +kernel⟩
theorem ok_nums {f fW : Addr} {fd fdW : FuncData} (F : Fun K "_law_numbers" "_law_numbers" sNums f fd) (T : TxtL mg) (FW : Fun K "_law_whole" "_law_whole" sWhole fW fdW) (bW : Binds K fdW ["_law_found"] []) (gW : mg "_law_whole" = some (.ref fW)) :
    FnOk P w K mg base CX0 2 f fd ["_law_found", "_law_due"] spNums := by
  have GW : FnOk P w K mg base CX0 1 fW fdW ["_law_found"] spWhole := ok_whole FW T
  refine F.ok scNums (fun vs H Q E h => ?_) (fun cdv A outer s H vs Q E hr h => ?_)
  · obtain ⟨a, b, l, rfl, _⟩ := h
    rfl
  · obtain ⟨a, b, l, rfl, ha, hb, hl, k⟩ := h
    refine ⟨_, pss_cons (ps_if (PW.pt (pw_or (pt_not (pt_val (pe_callB call_isi (by rfl) T.isi PyProof.Rows.boot_isinstance (pa_cons (pv 0) (pa_cons (pe_bltn (v := .ty "list") (by rfl) T.list (by decide +kernel) rfl) pa_nil)))))
          (pw_or1 (pt_cmpR op_ne (pe_callB call_len_seq (by rfl) T.len PySem.boot_len (pa_cons (pv 0) pa_nil)) (pe_callB call_len_seq (by rfl) T.len PySem.boot_len (pa_cons (pv 1) pa_nil)) (nomark _))))) (pss_one (ps_ret pe_bl)) pss_nil)
      (pss_cons (ps_for PassesOwn.never rfl (pi_range1 (by rfl) T.range (pa_cons (pe_callB call_len_seq (by rfl) T.len PySem.boot_len (pa_cons (pv 1) pa_nil)) pa_nil)) (pg_name (i := 2) scNums.nd rfl (Or.inl rfl))
        (pss_one (ps_if (pt_cmpR op_isN (pe_ix ix_list (pv 1) (pv 2) (fun _ _ => rfl)) pe_non (nomark _))
          (pss_one (ps_if (pt_cmpR op_notN (pe_ix ix_list (pv 0) (pv 2) (fun _ _ => rfl)) pe_non (nomark _)) (pss_one (ps_ret pe_bl)) pss_nil))
          (pss_one (ps_if (PW.pt (pw_or (pt_not (pt_val (pe_call GW hr rfl gW FW.kp bW .nil pass0 (pa_cons (pe_ix ix_list (pv 0) (pv 2) (fun _ _ => rfl)) pa_nil))))
            (pw_or1 (pt_cmpR op_ne (pe_ix ix_list (pv 0) (pv 2) (fun _ _ => rfl)) (pe_ix ix_list (pv 1) (pv 2) (fun _ _ => rfl)) (nomark _))))) (pss_one (ps_ret pe_bl)) pss_nil)))))
      (pss_one (ps_ret pe_bl))), ?_⟩
    refine ⟨_, rfl, _, _, _, _, true, rfl, .ty "list", .base (.lst ha), kit_ty (by decide +kernel), _, rfl, ?_⟩
    refine iteF ⟨_, rfl, a, _, rfl, .inl (SqL.of ha), _, rfl, b, _, rfl, .inl (SqL.of hb), rfl, _, rfl, ?_⟩
    refine iteNS rfl ?_
    have ell : (lV l).length = l.length := lV_len l
    refine ⟨_, rfl, b, _, rfl, .inl (SqL.of hb), _, rfl, by omega, by omega, ?_⟩
    rw [ell]
    refine for_range (lo := 0) (n := (l.length : Int).toNat) (fun i σ H' => ∃ v : Option V, σ = [some (.ref a), some (.ref b), v] ∧ H' = H) ⟨none, rfl, rfl⟩ ?_ ?_
    · rintro i σ H' hi ⟨v, rfl, rfl⟩
      have hi' : i < l.length := by omega
      have hx := lV_get hi'
      have hix : (0 : Int) + (i : Int) = ((i : Nat) : Int) := by omega
      refine ⟨_, rfl, _, rfl, b, _, _, _, rfl, rfl, SqL.of hb, at_of (j := i) hix hx, rfl, _, rfl, ?_⟩
      cases e : l.getD i none with
      | none =>
        rw [e] at hx
        refine iteT ⟨_, rfl, _, rfl, a, _, _, _, rfl, rfl, SqL.of ha, at_of (j := i) hix hx, rfl, _, rfl, ?_⟩
        exact iteF ⟨_, rfl, rfl⟩
      | some n =>
        rw [e] at hx
        refine iteF ⟨_, rfl, _, rfl, a, _, _, _, rfl, rfl, SqL.of ha, at_of (j := i) hix hx, n, rfl, _, rfl, ?_⟩
        refine iteF ⟨_, rfl, _, rfl, a, _, _, _, rfl, rfl, SqL.of ha, at_of (j := i) hix hx, _, rfl, _, rfl, b, _, _, _, rfl, rfl, SqL.of hb, at_of (j := i) hix hx, rfl, _, rfl, ?_⟩
        exact iteNS rfl ⟨_, rfl, rfl⟩
    · rintro σ H' ⟨v, rfl, rfl⟩
      exact k
theorem ixN_int {n : Nat} {h : Int} (h0 : 0 ≤ h) (h1 : h < n) : ixN n h = some h.toNat := by
  unfold ixN
  rw [if_pos h0, if_pos h1]
theorem lV_int (l : List Int) : l.map V.int = lV (l.map some) := by
  unfold lV
  rw [List.map_map]
  rfl
theorem inV_ints (n : Int) : ∀ l : List Int, inV (V.int n) (l.map V.int) = decide (n ∈ l)
  | [] => rfl
  | m :: l => by
    have ih := inV_ints n l
    unfold inV at ih ⊢
    rw [List.map_cons, List.any_cons, ih]
    show ((m == n) || decide (n ∈ l)) = decide (n ∈ m :: l)
    by_cases q : m = n
    · subst q; simp
    · have : ¬ n = m := fun z => q z.symm
      simp [q, this]
theorem flat_ints : ∀ l : List Int, (l.map V.int).all flatV = true
  | [] => rfl
  | m :: l => by rw [List.map_cons, List.all_cons, flat_ints l]; rfl
theorem lV_at {l : List (Option Int)} {i : Nat} {y : V} (hi : (lV l)[i]? = some y) : ∃ o, l[i]? = some o ∧ y = oV o := by
  unfold lV at hi
  rw [List.getElem?_map] at hi
  cases e : l[i]? with
  | none => rw [e] at hi; cases hi
  | some o =>
    rw [e] at hi
    exact ⟨o, rfl, (Option.some.inj hi).symm⟩
theorem ints_at {l : List Int} {i : Nat} {y : V} (hi : (l.map V.int)[i]? = some y) : ∃ n, l[i]? = some n ∧ y = V.int n := by
  rw [List.getElem?_map] at hi
  cases e : l[i]? with
  | none => rw [e] at hi; cases hi
  | some o =>
    rw [e] at hi
    exact ⟨o, rfl, (Option.some.inj hi).symm⟩
/-- the addresses and facts of the program's defs -/
structure Defs (K : PySem.W.Frag) (mg : Str → Option Value) (C B : Addr) (fI fM fU fE fQ fH fT fG fA fS fX fY fP fL fB fK fW fN fD fJ fV fO fCS : Addr) (dI dM dU dE dQ dH dT dG dA dS dX dY dP dL dB dK dW dN dD dJ dV dO dCS : FuncData) : Prop where
  FI : Fun K "__init__" "Pile.__init__" sInit fI dI
  bI : Binds K dI ["self"] []
  MC : Mk K C fI
  FM : Fun K "make" "Pile.make" sMake fM dM
  bM : Binds K dM ["self", "hand", "size"] []
  mM : Meth K C "make" fM
  FU : Fun K "put" "Pile.put" sPut fU dU
  bU : Binds K dU ["self", "hand", "slot", "other"] []
  mU : Meth K C "put" fU
  FE : Fun K "empty" "Pile.empty" sEmpty fE dE
  bE : Binds K dE ["self", "hand", "slot"] []
  mE : Meth K C "empty" fE
  FQ : Fun K "take" "Pile.take" sTake fQ dQ
  bQ : Binds K dQ ["self", "hand", "other", "slot"] []
  mQ : Meth K C "take" fQ
  FH : Fun K "holds" "Pile.holds" sHolds fH dH
  bH : Binds K dH ["self", "hand"] []
  mH : Meth K C "holds" fH
  FT : Fun K "points" "Pile.points" sPoints fT dT
  bT : Binds K dT ["self", "number"] []
  mT : Meth K C "points" fT
  FG : Fun K "weighs" "Pile.weighs" sWeighs fG dG
  bG : Binds K dG ["self", "number"] []
  mG : Meth K C "weighs" fG
  FA : Fun K "alive" "Pile.alive" sAlive fA dA
  bA : Binds K dA ["self"] []
  mA : Meth K C "alive" fA
  FS : Fun K "suspects" "Pile.suspects" sSuspects fS dS
  bS : Binds K dS ["self"] []
  mS : Meth K C "suspects" fS
  FX : Fun K "_box" "Pile._box" sBox fX dX
  bX : Binds K dX ["self", "number"] []
  mX : Meth K C "_box" fX
  FY : Fun K "_slots_with" "Pile._slots_with" sSlotsWith fY dY
  bY : Binds K dY ["self", "hand", "slot"] []
  mY : Meth K C "_slots_with" fY
  FP : Fun K "_point" "Pile._point" sPoint fP dP
  bP : Binds K dP ["self", "pointers", "at", "number"] []
  mP : Meth K C "_point" fP
  FL : Fun K "_let_go" "Pile._let_go" sLetGo fL dL
  bL : Binds K dL ["self", "pointer"] []
  mL : Meth K C "_let_go" fL
  FB : Fun K "__init__" "Box.__init__" sBoxInit fB dB
  bB : Binds K dB ["self", "size"] []
  MB : Mk K B fB
  FK : Fun K "check_hand" "check_hand" sCheck fK dK
  bK : Binds K dK ["hand"] []
  gK : mg "check_hand" = some (.ref fK)
  FW : Fun K "_law_whole" "_law_whole" sWhole fW dW
  bW : Binds K dW ["_law_found"] []
  gW : mg "_law_whole" = some (.ref fW)
  FN : Fun K "_law_numbers" "_law_numbers" sNums fN dN
  bN : Binds K dN ["_law_found", "_law_due"] []
  gN : mg "_law_numbers" = some (.ref fN)
  FD : Fun K "_law_cell_at" "_law_cell_at" sCellAt fD dD
  bD : Binds K dD ["_law_script", "_law_k"] []
  gD : mg "_law_cell_at" = some (.ref fD)
  FJ : Fun K "_law_done" "_law_done" sDone fJ dJ
  bJ : Binds K dJ ["_law_pile", "_law_deed"] []
  gJ : mg "_law_done" = some (.ref fJ)
  FV : Fun K "_law_pointers" "_law_pointers" sPointers fV dV
  bV : Binds K dV ["_law_hands", "_law_rooms", "_law_number"] []
  gV : mg "_law_pointers" = some (.ref fV)
  FO : Fun K "_law_stands" "_law_stands" sStands fO dO
  bO : Binds K dO ["_law_pile", "_law_hands", "_law_rooms"] []
  gO : mg "_law_stands" = some (.ref fO)
  FCS : Fun K "check_slot" "check_slot" sCheckSlot fCS dCS
  bCS : Binds K dCS ["slots", "slot"] []
  gCS : mg "check_slot" = some (.ref fCS)
abbrev nCellAt : List Str := ["_law_script", "_law_k"]
abbrev nPointers : List Str := ["_law_hands", "_law_rooms", "_law_number", "_law_many", "_law_room", "_law_held", "_law_other"]
abbrev nStands : List Str := ["_law_pile", "_law_hands", "_law_rooms", "_law_k"]
abbrev nLaw : List Str := ["_law_script", "_law_pile", "_law_rooms", "_law_k", "_law_size", "_law_hands", "_law_cell", "_law_which", "_law_slot", "_law_hand", "_law_deed", "_law_found"]
/-! ### the law's small helpers -/
def spCellAt (K : PySem.W.Frag) : Sp := fun vs H Q _ => ∃ (a : Addr) (ns : List Int) (k : Nat), vs = [.ref a, .int k] ∧ SqL K H a (ns.map V.int) ∧ Q (.int (ns.getD k 0)) H
theorem scCellAt : FnScope nCellAt ["_law_script", "_law_k"] (defScope sCellAt) := ⟨rfl, rfl, rfl, by decide +kernel, rfl, by decide +kernel, by decide +kernel⟩
theorem ok_cellat {f : Addr} {fd : FuncData} (F : Fun K "_law_cell_at" "_law_cell_at" sCellAt f fd) (TL : TxtL mg) : FnOk P w K mg base CX0 1 f fd ["_law_script", "_law_k"] (spCellAt K) := by
  refine F.ok scCellAt (fun vs H Q E h => ?_) (fun cdv A outer s H vs Q E hr h => ?_)
  · obtain ⟨a, ns, n, rfl, _⟩ := h
    rfl
  · obtain ⟨a, ns, n, rfl, hS, k⟩ := h
    have nd := scCellAt.nd
    refine ⟨_, (pss_cons (ps_if (pt_cmpR op_lt (pv 1) (pe_callB call_len_seq (by rfl) TL.len PySem.boot_len (pa_cons (pv 0) pa_nil)) (nomark _)) (pss_one (ps_ret (pe_ix ix_list (pv 0) (pv 1) (fun _ _ => rfl)))) pss_nil)
      (pss_one (ps_ret pe_int))), ?_⟩
    refine ⟨_, rfl, _, rfl, a, _, rfl, .inl hS, _, _, rfl, rfl, _, rfl, ?_⟩
    rw [List.length_map]
    by_cases c : n < ns.length
    · refine if_pos_of (decide_eq_true (by omega)) ?_
      have e : ns.getD n 0 = ns[n] := by rw [List.getD_eq_getElem?_getD, List.getElem?_eq_getElem c]; rfl
      rw [e] at k
      exact ⟨_, rfl, _, rfl, a, _, _, _, rfl, rfl, hS, at_of (j := n) rfl (by rw [List.getElem?_map, List.getElem?_eq_getElem c]; rfl), k⟩
    · refine if_neg_of (decide_eq_false (by omega)) ?_
      have e : ns.getD n 0 = 0 := by rw [List.getD_eq_getElem?_getD, List.getElem?_eq_none (by omega)]; rfl
      rw [e] at k
      exact k
/-- two rooms -/
structure Rooms (H : Hp) (b q0 q1 : Addr) (s0 s1 : List (Option Int)) : Prop where
  rm : H b = some (.lst [.ref q0, .ref q1])
  r0 : H q0 = some (.lst (lV s0))
  r1 : H q1 = some (.lst (lV s1))
theorem Rooms.more {H H' : Hp} {b q0 q1 : Addr} {s0 s1 : List (Option Int)} (h : Rooms H b q0 q1 s0 s1) (s : Same H H') : Rooms H' b q0 q1 s0 s1 := ⟨s _ _ h.rm, s _ _ h.r0, s _ _ h.r1⟩
def spPointers : Sp := fun vs H Q _ => ∃ (a b q0 q1 : Addr) (l s0 s1 : List (Option Int)) (n : Int), vs = [.ref a, .ref b, .int n] ∧ H a = some (.lst (lV l)) ∧ Rooms H b q0 q1 s0 s1 ∧ l.length ≤ 1000 ∧ s0.length ≤ 1000 ∧ s1.length ≤ 1000 ∧
  ∀ H', Same H H' → Q (.int ((cnt l n + cnt s0 n + cnt s1 n : Nat) : Int)) H'
theorem scPointers : FnScope nPointers ["_law_hands", "_law_rooms", "_law_number"] (defScope sPointers) := ⟨rfl, rfl, rfl, by decide +kernel, rfl, by decide +kernel, by decide +kernel⟩
theorem cnt_le (l : List (Option Int)) (n : Int) : cnt l n ≤ l.length := List.count_le_length
theorem ok_pointers {f : Addr} {fd : FuncData} (F : Fun K "_law_pointers" "_law_pointers" sPointers f fd) (TL : TxtL mg) : FnOk P w K mg base CX0 1 f fd ["_law_hands", "_law_rooms", "_law_number"] spPointers := by
  refine F.ok scPointers (fun vs H Q E h => ?_) (fun cdv A outer s H vs Q E hr h => ?_)
  · obtain ⟨a, b, q0, q1, l, s0, s1, n, rfl, _⟩ := h
    rfl
  · obtain ⟨a, b, q0, q1, l, s0, s1, n, rfl, ha, hb, l1, l2, l3, k⟩ := h
    have nd := scPointers.nd
    refine ⟨_, (pss_cons (ps_set (i := 3) nd rfl (Or.inl rfl) (pe_callB call_len_seq (by rfl) TL.len PySem.boot_len (pa_cons (pe_lc (own := [("_law_held", 5)]) (g := gName 5) (tt := tTest (tOp rEq (tVar 5) (tVar 2))) (te := tC (.int 1)) (by rfl) nd (pi_list (pv 0)) (blkOk_by (N := nPointers) (sc := defScope sPointers) (by decide +kernel)) (fun _ _ _ _ _ => pg_name (i := 5) nd rfl (Or.inl rfl)) (fun _ _ _ _ _ => pts_one (pt_cmpR op_eq (pv 5) (pv 2) (nomark _))) (fun _ _ _ _ _ => pe_int)) pa_nil)))
      (pss_cons (ps_for PassesOwn.never rfl (pi_list (pv 1)) (pg_name (i := 4) nd rfl (Or.inl rfl))
      (pss_one (ps_set (i := 3) nd rfl (Or.inl rfl) (pe_op op_add (pv 3) (pe_callB call_len_seq (by rfl) TL.len PySem.boot_len (pa_cons (pe_lc (own := [("_law_other", 6)]) (g := gName 6) (tt := tTest (tOp rEq (tVar 6) (tVar 2))) (te := tC (.int 1)) (by rfl) nd (pi_list (pv 4)) (blkOk_by (N := nPointers) (sc := defScope sPointers) (by decide +kernel)) (fun _ _ _ _ _ => pg_name (i := 6) nd rfl (Or.inl rfl)) (fun _ _ _ _ _ => pts_one (pt_cmpR op_eq (pv 6) (pv 2) (nomark _))) (fun _ _ _ _ _ => pe_int)) pa_nil))))))
      (pss_one (ps_ret (pv 3))))), ?_⟩
    have step : ∀ {l : List (Option Int)} {i : Nat} {o : Option Int} {H H' : Hp} {L : Addr} {Qx : Prop}, l.length ≤ 1000 → l[i]? = some o → Same H H' → H' L = some (.lst (List.replicate (cnt (l.take i) n) (V.int 1))) →
        ((decide (oV o = V.int n) = true → (List.replicate (cnt (l.take i) n) (V.int 1)).length < sizeLine) ) := fun {l i o H H' L Qx} hl ho s e _ => by
      rw [List.length_replicate, sizeLine_eq]
      have := cnt_le (l.take i) n
      rw [List.length_take] at this
      omega
    have scl : ∀ o : Option Int, scal (oV o) (V.int n) = true := fun o => by cases o <;> rfl
    have ne : ∀ {o : Option Int}, ¬ o = some n → ¬ oV o = V.int n := fun {o} c q => by
      cases o with
      | none => cases q
      | some m => injection q with q; exact c (by rw [q])
    -- the hands
    refine ⟨_, rfl, a, rfl, ⟨_, SqL.of ha⟩, fun L hL => lc_list (K := K) (a := a) (xs := lV l) (fun i H' => H' = upd H L (.lst (List.replicate (cnt (l.take i) n) (V.int 1)))) rfl (fun i H' _ e => ?_) (fun i y H' hi e => ?_) (fun H1 e1 => ?_)⟩
    · rw [e]
      exact SqL.of (by rw [upd_ne (ne_of_none ha hL)]; exact ha)
    · obtain ⟨o, ho, rfl⟩ := lV_at hi
      refine ⟨rfl, _, rfl, _, rfl, scl o, _, rfl, ?_⟩
      rw [take_get ho, cnt_append, cnt_cons, cnt_nil, Nat.add_zero]
      by_cases c : o = some n
      · subst c
        refine if_pos_of (decide_eq_true rfl) ?_
        refine ⟨_, by rw [e]; exact upd_same, step l1 ho (Same.refl H') (by rw [e]; exact upd_same) (Qx := True) (decide_eq_true rfl), ?_⟩
        rw [e, upd_upd]
        have : one (some n) n = 1 := by simp [one]
        rw [this, List.replicate_succ']
      · refine if_neg_of (decide_eq_false (ne c)) ?_
        rw [e]
        have : one o n = 0 := by simp [one, c]
        rw [this, Nat.add_zero]
    rw [lV_len, List.take_length] at e1
    refine ⟨L, _, rfl, .inl (SqL.of (by rw [e1]; exact upd_same)), ?_⟩
    rw [List.length_replicate]
    have s1' : Same H H1 := by rw [e1]; exact same_upd hL
    -- the rooms
    refine ⟨_, rfl, b, rfl, ⟨_, SqL.of (s1' _ _ hb.rm)⟩, for_list (K := K) (a := b) (xs := [.ref q0, .ref q1]) (fun i σ H' => ∃ v4 : Option V, σ = [some (.ref a), some (.ref b), some (.int n), some (.int ((cnt l n + (if 0 < i then cnt s0 n else 0) + (if 1 < i then cnt s1 n else 0) : Nat) : Int)), v4, none, none] ∧ Same H H')
      ⟨none, rfl, s1'⟩ (fun i σ H' _ ⟨_, _, s⟩ => SqL.of (s _ _ hb.rm)) ?_ ?_⟩
    · rintro i y σ H' hi ⟨v4, rfl, sH⟩
      obtain ⟨q, sq, hq, hy, hlq, hcn⟩ : ∃ (q : Addr) (sq : List (Option Int)), H q = some (.lst (lV sq)) ∧ y = V.ref q ∧ sq.length ≤ 1000 ∧ cnt l n + (if 0 < i then cnt s0 n else 0) + (if 1 < i then cnt s1 n else 0) + cnt sq n = cnt l n + (if 0 < i + 1 then cnt s0 n else 0) + (if 1 < i + 1 then cnt s1 n else 0) := by
        match i, hi with
        | 0, hi => exact ⟨q0, s0, hb.r0, (Option.some.inj hi).symm, l2, by simp⟩
        | 1, hi => exact ⟨q1, s1, hb.r1, (Option.some.inj hi).symm, l3, by simp⟩
        | i + 2, hi => simp at hi
      subst hy
      have hq' := sH _ _ hq
      refine ⟨_, rfl, _, rfl, q, rfl, ⟨_, SqL.of hq'⟩, fun L2 hL2 => lc_list (K := K) (a := q) (xs := lV sq) (fun i H2 => H2 = upd H' L2 (.lst (List.replicate (cnt (sq.take i) n) (V.int 1)))) rfl (fun i H2 _ e => ?_) (fun i y H2 hi e => ?_) (fun H2 e2 => ?_)⟩
      · rw [e]
        exact SqL.of (by rw [upd_ne (ne_of_none hq' hL2)]; exact hq')
      · obtain ⟨o, ho, rfl⟩ := lV_at hi
        refine ⟨rfl, _, rfl, _, rfl, scl o, _, rfl, ?_⟩
        rw [take_get ho, cnt_append, cnt_cons, cnt_nil, Nat.add_zero]
        by_cases c : o = some n
        · subst c
          refine if_pos_of (decide_eq_true rfl) ?_
          refine ⟨_, by rw [e]; exact upd_same, step hlq ho (Same.refl H2) (by rw [e]; exact upd_same) (Qx := True) (decide_eq_true rfl), ?_⟩
          rw [e, upd_upd]
          have : one (some n) n = 1 := by simp [one]
          rw [this, List.replicate_succ']
        · refine if_neg_of (decide_eq_false (ne c)) ?_
          rw [e]
          have : one o n = 0 := by simp [one, c]
          rw [this, Nat.add_zero]
      · rw [lV_len, List.take_length] at e2
        refine ⟨L2, _, rfl, .inl (SqL.of (by rw [e2]; exact upd_same)), _, _, rfl, rfl, ?_⟩
        refine ⟨some (.ref q), ?_, by rw [e2]; exact sH.trans (same_upd hL2)⟩
        rw [List.length_replicate, ← hcn]
        generalize cnt l n + (if 0 < i then cnt s0 n else 0) + (if 1 < i then cnt s1 n else 0) = X
        show [some (V.ref a), some (V.ref b), some (V.int n), some (V.int ((X : Int) + (cnt sq n : Int))), some (V.ref q), none, none] = [some (V.ref a), some (V.ref b), some (V.int n), some (V.int ((X + cnt sq n : Nat) : Int)), some (V.ref q), none, none]
        rw [Int.natCast_add]
    · rintro σ H' ⟨v4, rfl, sH⟩
      refine ⟨_, rfl, ?_⟩
      exact k _ sH
/-! ### a deed done -/
structure TxtE (K : PySem.W.Frag) (eL : Addr) : Prop where
  i : PySem.W.isClsIn K eL = true
  s : PySem.W.subIn K (.ref eL) (.ref eL) = some true
theorem exm_same {S : Addr} {x : Str} (e : Err K mg x S) (t : TxtE K S) : PySem.W.exmOne K (.ref S) (.ref S) = some true := by
  have h1 : (PySem.W.subIn K (.ref S) (.type "BaseException") == some true) = true := by rw [e.b] <;> rfl
  have h2 : ((PySem.W.clsIn K S).isSome && PySem.W.typeIn K (.ref S) == some (.type "type")) = true := by rw [show (PySem.W.clsIn K S).isSome = true from t.i, e.t] <;> rfl
  unfold PySem.W.exmOne
  rw [if_pos h1]
  exact (if_pos h2).trans t.s
/-- what is wished of an error within a try, whatever the slots -/
abbrev EW (W : WX) : XK := fun cls d H => ∀ σ, W cls d σ H
def spDone (C B : Addr) : Sp := fun vs H Q _ => ∃ (p t : Addr) (P : Pl) (R : Hp) (kd : Str) (h s o : Int), vs = [.ref p, .ref t] ∧ R t = some (.tup [.str kd, .int h, .int s, .int o]) ∧ PileIn C B p P R H ∧ (0 ≤ h ∧ h < 8) ∧
  ((kd = "put" ∧ (0 ≤ o ∧ o < 8) ∧ ∃ n b, P.hands.getD h.toNat none = some n ∧ get P.boxes n = some b ∧
      ((0 ≤ s ∧ s < (b.slots.length : Int)) → ∀ (r : Addr) (H' : Hp), R r = none → PileIn C B p (ptSlot P n s.toNat (P.hands.getD o.toNat none)).1 (upd R r (.lst ((ptSlot P n s.toNat (P.hands.getD o.toNat none)).2.map V.int))) H' → Q (.ref r) H') ∧
      (¬ (0 ≤ s ∧ s < (b.slots.length : Int)) → Q (.str "no slot") H)) ∨
   (kd = "empty" ∧ ∃ n b, P.hands.getD h.toNat none = some n ∧ get P.boxes n = some b ∧
      ((0 ≤ s ∧ s < (b.slots.length : Int)) → ∀ (r : Addr) (H' : Hp), R r = none → PileIn C B p (ptSlot P n s.toNat none).1 (upd R r (.lst ((ptSlot P n s.toNat none).2.map V.int))) H' → Q (.ref r) H') ∧
      (¬ (0 ≤ s ∧ s < (b.slots.length : Int)) → Q (.str "no slot") H)) ∨
   (kd = "take" ∧ (0 ≤ o ∧ o < 8) ∧ ∃ n b, P.hands.getD o.toNat none = some n ∧ get P.boxes n = some b ∧
      ((0 ≤ s ∧ s < (b.slots.length : Int)) → ∀ (r : Addr) (H' : Hp), R r = none → PileIn C B p (ptHand P h.toNat (b.slots.getD s.toNat none)).1 (upd R r (.lst ((ptHand P h.toNat (b.slots.getD s.toNat none)).2.map V.int))) H' → Q (.ref r) H') ∧
      (¬ (0 ≤ s ∧ s < (b.slots.length : Int)) → Q (.str "no slot") H)))
theorem scDone : FnScope ["_law_pile", "_law_deed"] ["_law_pile", "_law_deed"] (defScope sDone) := ⟨rfl, rfl, rfl, by decide +kernel, rfl, by decide +kernel, by decide +kernel⟩
def tAt (K : PySem.W.Frag) (j : Int) : TE := tOp (rIxT K) (tVar 1) (tC (.int j))
def tIsD (K : PySem.W.Frag) (z : Str) : TT := tTest (tOp rEq (tAt K 0) (tC (.str z)))
def tDoneB (K : PySem.W.Frag) (C B eH eB eL : Addr) (W : WX) : TS :=
  tSeq (tIfS (tIsD K "put") (tRet (tMeth C "put" (spPut C B eH eB eL) [] (EW W) (tVar 0) (tCons (tAt K 1) (tCons (tAt K 2) (tCons (tAt K 3) tNil))))) tNext)
  (tSeq (tIfS (tIsD K "empty") (tRet (tMeth C "empty" (spEmpty C B eH eB eL) [] (EW W) (tVar 0) (tCons (tAt K 1) (tCons (tAt K 2) tNil)))) tNext)
  (tRet (tMeth C "take" (spTake C B eH eB eL) [] (EW W) (tVar 0) (tCons (tAt K 1) (tCons (tAt K 3) (tCons (tAt K 2) tNil))))))
theorem ok_done {f fI fM fU fE fQ fH fT fG fA fS fX fY fP fL fB fK fW fN fD fJ fV fO fCS : Addr} {fd dI dM dU dE dQ dH dT dG dA dS dX dY dP dL dB dK dW dN dD dJ dV dO dCS : FuncData} (F : Fun K "_law_done" "_law_done" sDone f fd) (T : Txt K mg C B eH eS eF eB eL) (TE : TxtE K eL) (D : Defs K mg C B fI fM fU fE fQ fH fT fG fA fS fX fY fP fL fB fK fW fN fD fJ fV fO fCS dI dM dU dE dQ dH dT dG dA dS dX dY dP dL dB dK dW dN dD dJ dV dO dCS) : FnOk P w K mg base CX0 4 f fd ["_law_pile", "_law_deed"] (spDone C B) := by
  have GU : FnOk P w K mg base (L2.CX P w) 3 fU dU ["self", "hand", "slot", "other"] (spPut C B eH eB eL) := ok_put D.FU T D.FL D.bL D.mL D.FP D.bP D.mP D.FK D.bK D.gK D.FY D.bY D.mY D.FCS D.bCS D.gCS
  have GE : FnOk P w K mg base (L2.CX P w) 3 fE dE ["self", "hand", "slot"] (spEmpty C B eH eB eL) := ok_empty D.FE T D.FL D.bL D.mL D.FP D.bP D.mP D.FK D.bK D.gK D.FY D.bY D.mY D.FCS D.bCS D.gCS
  have GQ : FnOk P w K mg base (L2.CX P w) 3 fQ dQ ["self", "hand", "other", "slot"] (spTake C B eH eB eL) := ok_take D.FQ T D.FL D.bL D.mL D.FP D.bP D.mP D.FK D.bK D.gK D.FY D.bY D.mY D.FCS D.bCS D.gCS
  refine F.ok scDone (fun vs H Q E h => ?_) (fun cdv A outer s H vs Q E hr h => ?_)
  · obtain ⟨p, t, P, R, kd, h, s, o, rfl, _⟩ := h
    rfl
  · obtain ⟨p, t, P0, R, kd, h, z, o, rfl, ht, ⟨⟨g, A⟩, W⟩, ch, kk⟩ := h
    refine ⟨_, pss_one (ps_try_only (c := .ref eL) (tb := tDoneB K C B eH eB eL) (ts := fun _ _ _ => tRet (tC (.str "no slot"))) (Wout := fun _ _ _ _ => False) rfl rfl ⟨rfl, by decide, .inl T.eL.g⟩ takes0
      (fun W pn xe tk _ => pss_cons (ps_if (pt_cmpR op_eq (pe_ix ix_tup (pv 1) pe_int (fun _ _ => rfl)) pe_str (nomark _))
          (pss_one (ps_ret (pe_meth (E := EW W) (pv 0) T.clC D.mU GU hr D.bU .nil (passes_call tk (fun cls d σ H h => h σ)) (pa_cons (pe_ix ix_tup (pv 1) pe_int (fun _ _ => rfl)) (pa_cons (pe_ix ix_tup (pv 1) pe_int (fun _ _ => rfl)) (pa_cons (pe_ix ix_tup (pv 1) pe_int (fun _ _ => rfl)) pa_nil)))))) pss_nil)
        (pss_cons (ps_if (pt_cmpR op_eq (pe_ix ix_tup (pv 1) pe_int (fun _ _ => rfl)) pe_str (nomark _))
          (pss_one (ps_ret (pe_meth (E := EW W) (pv 0) T.clC D.mE GE hr D.bE .nil (passes_call tk (fun cls d σ H h => h σ)) (pa_cons (pe_ix ix_tup (pv 1) pe_int (fun _ _ => rfl)) (pa_cons (pe_ix ix_tup (pv 1) pe_int (fun _ _ => rfl)) pa_nil))))) pss_nil)
        (pss_one (ps_ret (pe_meth (E := EW W) (pv 0) T.clC D.mQ GQ hr D.bQ .nil (passes_call tk (fun cls d σ H h => h σ)) (pa_cons (pe_ix ix_tup (pv 1) pe_int (fun _ _ => rfl)) (pa_cons (pe_ix ix_tup (pv 1) pe_int (fun _ _ => rfl)) (pa_cons (pe_ix ix_tup (pv 1) pe_int (fun _ _ => rfl)) pa_nil))))))))
      (fun a oe cls d pn _ _ => pss_one (ps_ret pe_str))), ?_⟩
    have hT := SqT.of (K := K) (A.same _ _ ht)
    have te := exm_same T.eL TE
    have seq : ∀ {z z' : Str}, z = z' → decide (V.str z = V.str z') = true := fun e => decide_eq_true (by rw [e])
    have sne : ∀ {z z' : Str}, z ≠ z' → decide (V.str z = V.str z') = false := fun e => decide_eq_false (by intro q; injection q with q; exact e q)
    refine ⟨_, rfl, t, _, _, _, rfl, rfl, hT, at_of (j := 0) rfl rfl, rfl, _, rfl, ?_⟩
    rcases kk with ⟨rfl, co, n, b, hn, hb, k1, k2⟩ | ⟨rfl, n, b, hn, hb, k1, k2⟩ | ⟨rfl, co, n, b, hn, hb, k1, k2⟩
    · refine if_pos_of (seq rfl) ?_
      refine ⟨_, rfl, p, g.dx, _, rfl, A.hp, pf_no _ _ _ (by decide +kernel) (by decide +kernel) (by decide +kernel), _, rfl, t, _, _, _, rfl, rfl, hT, at_of (j := 1) rfl rfl, _, rfl, t, _, _, _, rfl, rfl, hT, at_of (j := 2) rfl rfl, _, rfl, t, _, _, _, rfl, rfl, hT, at_of (j := 3) rfl rfl, ?_⟩
      refine ⟨p, P0, R, h, z, o, rfl, ⟨⟨g, A⟩, W⟩, fun c => absurd ch c, fun _ c => absurd co c, fun _ _ c => absurd (hn.symm.trans c) (by intro q; cases q), fun _ _ n' b' e1 e2 c => ?_, fun _ _ n' b' e1 e2 c r H' hr A' => ?_⟩
      · have : n' = n := Option.some.inj (e1.symm.trans hn)
        subst this
        have : b' = b := Option.some.inj (e2.symm.trans hb)
        subst this
        exact fun σ => ⟨true, te, fun _ a ha => k2 c, fun q => nomatch q⟩
      · have : n' = n := Option.some.inj (e1.symm.trans hn)
        subst this
        have : b' = b := Option.some.inj (e2.symm.trans hb)
        subst this
        exact k1 c r H' hr A'
    · refine if_neg_of (sne (by decide +kernel)) ?_
      refine ⟨_, rfl, t, _, _, _, rfl, rfl, hT, at_of (j := 0) rfl rfl, rfl, _, rfl, ?_⟩
      refine if_pos_of (seq rfl) ?_
      refine ⟨_, rfl, p, g.dx, _, rfl, A.hp, pf_no _ _ _ (by decide +kernel) (by decide +kernel) (by decide +kernel), _, rfl, t, _, _, _, rfl, rfl, hT, at_of (j := 1) rfl rfl, _, rfl, t, _, _, _, rfl, rfl, hT, at_of (j := 2) rfl rfl, ?_⟩
      refine ⟨p, P0, R, h, z, rfl, ⟨⟨g, A⟩, W⟩, fun c => absurd ch c, fun _ c => absurd (hn.symm.trans c) (by intro q; cases q), fun _ n' b' e1 e2 c => ?_, fun _ n' b' e1 e2 c r H' hr A' => ?_⟩
      · have : n' = n := Option.some.inj (e1.symm.trans hn)
        subst this
        have : b' = b := Option.some.inj (e2.symm.trans hb)
        subst this
        exact fun σ => ⟨true, te, fun _ a ha => k2 c, fun q => nomatch q⟩
      · have : n' = n := Option.some.inj (e1.symm.trans hn)
        subst this
        have : b' = b := Option.some.inj (e2.symm.trans hb)
        subst this
        exact k1 c r H' hr A'
    · refine if_neg_of (sne (by decide +kernel)) ?_
      refine ⟨_, rfl, t, _, _, _, rfl, rfl, hT, at_of (j := 0) rfl rfl, rfl, _, rfl, ?_⟩
      refine if_neg_of (sne (by decide +kernel)) ?_
      refine ⟨_, rfl, p, g.dx, _, rfl, A.hp, pf_no _ _ _ (by decide +kernel) (by decide +kernel) (by decide +kernel), _, rfl, t, _, _, _, rfl, rfl, hT, at_of (j := 1) rfl rfl, _, rfl, t, _, _, _, rfl, rfl, hT, at_of (j := 3) rfl rfl, _, rfl, t, _, _, _, rfl, rfl, hT, at_of (j := 2) rfl rfl, ?_⟩
      refine ⟨p, P0, R, h, o, z, rfl, ⟨⟨g, A⟩, W⟩, fun c => absurd ch c, fun _ c => absurd co c, fun _ _ c => absurd (hn.symm.trans c) (by intro q; cases q), fun _ _ n' b' e1 e2 c => ?_, fun _ _ n' b' e1 e2 c r H' hr A' => ?_⟩
      · have : n' = n := Option.some.inj (e1.symm.trans hn)
        subst this
        have : b' = b := Option.some.inj (e2.symm.trans hb)
        subst this
        exact fun σ => ⟨true, te, fun _ a ha => k2 c, fun q => nomatch q⟩
      · have : n' = n := Option.some.inj (e1.symm.trans hn)
        subst this
        have : b' = b := Option.some.inj (e2.symm.trans hb)
        subst this
        exact k1 c r H' hr A'
/-! ### all stands -/
def spStands (C B : Addr) : Sp := fun vs H Q _ => ∃ (p a b q0 q1 : Addr) (g : Geo) (P : Pl) (R : Hp) (s0 s1 : List (Option Int)), vs = [.ref p, .ref a, .ref b] ∧ PileAt C B p g P R H ∧ Two P s0 s1 ∧ R a = some (.lst (lV P.hands)) ∧ Rooms R b q0 q1 s0 s1 ∧
  ∀ H', PileAt C B p g P R H' → Q (.bl true) H'
theorem scStands : FnScope nStands ["_law_pile", "_law_hands", "_law_rooms"] (defScope sStands) := ⟨rfl, rfl, rfl, by decide +kernel, rfl, by decide +kernel, by decide +kernel⟩
theorem Two.len {P : Pl} {s0 s1 : List (Option Int)} (h : Two P s0 s1) : s0.length ≤ 6 ∧ s1.length ≤ 6 := by
  obtain ⟨b0, e0, f0⟩ := h.sh.get0
  obtain ⟨b1, e1, f1⟩ := h.sh.get1
  exact ⟨by rw [← f0]; exact h.wf.sl _ _ e0, by rw [← f1]; exact h.wf.sl _ _ e1⟩
theorem ok_stands {f fI fM fU fE fQ fH fT fG fA fS fX fY fP fL fB fK fW fN fD fJ fV fO fCS : Addr} {fd dI dM dU dE dQ dH dT dG dA dS dX dY dP dL dB dK dW dN dD dJ dV dO dCS : FuncData} (F : Fun K "_law_stands" "_law_stands" sStands f fd) (T : Txt K mg C B eH eS eF eB eL) (TL : TxtL mg) (D : Defs K mg C B fI fM fU fE fQ fH fT fG fA fS fX fY fP fL fB fK fW fN fD fJ fV fO fCS dI dM dU dE dQ dH dT dG dA dS dX dY dP dL dB dK dW dN dD dJ dV dO dCS) : FnOk P w K mg base CX0 3 f fd ["_law_pile", "_law_hands", "_law_rooms"] (spStands C B) := by
  have GH : FnOk P w K mg base (L2.CX P w) 2 fH dH ["self", "hand"] (spHolds C B eH) := ok_holds D.FH T D.FK D.bK D.gK
  have GT : FnOk P w K mg base (L2.CX P w) 2 fT dT ["self", "number"] (spPoints C B eB) := ok_points D.FT T D.FX D.bX D.mX
  have GG : FnOk P w K mg base (L2.CX P w) 2 fG dG ["self", "number"] (spWeighs C B eB) := ok_weighs D.FG T D.FX D.bX D.mX
  have GW : FnOk P w K mg base CX0 1 fW dW ["_law_found"] spWhole := ok_whole D.FW TL
  have GN : FnOk P w K mg base CX0 2 fN dN ["_law_found", "_law_due"] spNums := ok_nums D.FN TL D.FW D.bW D.gW
  have GV : FnOk P w K mg base CX0 1 fV dV ["_law_hands", "_law_rooms", "_law_number"] spPointers := ok_pointers D.FV TL
  refine F.ok scStands (fun vs H Q E h => ?_) (fun cdv A outer s H vs Q E hr h => ?_)
  · obtain ⟨p, a, b, q0, q1, g, P, R, s0, s1, rfl, _⟩ := h
    rfl
  · obtain ⟨p, a, b, q0, q1, g, P0, R, s0, s1, rfl, A, TW, ra, rr, k⟩ := h
    have nd := scStands.nd
    have hr1 : Room 1 _ := hr.mono (by decide)
    have hr2 : Room 2 _ := hr
    have W := TW.wf
    obtain ⟨l0, l1⟩ := TW.len
    refine ⟨_, (pss_cons (ps_for PassesOwn.never rfl (pi_range1 (by rfl) TL.range (pa_cons pe_int pa_nil)) (pg_name (i := 3) nd rfl (Or.inl rfl))
      (pss_cons (ps_if (pt_not (pt_val (pe_call GN hr2 (by rfl) D.gN D.FN.kp D.bN .nil pass0 (pa_cons (pe_meth (pv 0) T.clC D.mT GT hr2 D.bT .nil passL (pa_cons (pv 3) pa_nil)) (pa_cons (pe_ix ix_list (pv 2) (pv 3) (fun _ _ => rfl)) pa_nil))))) (pss_one (ps_ret pe_bl)) pss_nil)
      (pss_one (ps_if (PW.pt (pw_or (pt_not (pt_val (pe_call GW hr1 (by rfl) D.gW D.FW.kp D.bW .nil pass0 (pa_cons (pe_meth (pv 0) T.clC D.mG GG hr2 D.bG .nil passL (pa_cons (pv 3) pa_nil)) pa_nil)))) (pw_or1 (pt_cmpR op_ne (pe_meth (pv 0) T.clC D.mG GG hr2 D.bG .nil passL (pa_cons (pv 3) pa_nil)) (pe_call GV hr1 (by rfl) D.gV D.FV.kp D.bV .nil pass0 (pa_cons (pv 1) (pa_cons (pv 2) (pa_cons (pv 3) pa_nil)))) (nomark _))))) (pss_one (ps_ret pe_bl)) pss_nil))))
      (pss_one (ps_ret (pe_call GN hr2 (by rfl) D.gN D.FN.kp D.bN .nil pass0 (pa_cons (pe_lc (own := [("_law_k", 3)]) (g := gName 3) (tt := tYes) (te := tMeth C "holds" (spHolds C B eH) [] E0 (tVar 0) (tCons (tVar 3) tNil)) (by rfl) nd (pi_range1 (by rfl) TL.range (pa_cons pe_int pa_nil)) (blkOk_by (N := nStands) (sc := defScope sStands) (by decide +kernel)) (fun _ _ _ _ _ => pg_name (i := 3) nd rfl (Or.inl rfl)) (fun _ _ _ _ _ => pts_nil) (fun _ _ _ _ _ => pe_meth (pv 0) T.clC D.mH GH hr2 D.bH .nil passL (pa_cons (pv 3) pa_nil))) (pa_cons (pv 1) pa_nil)))))), ?_⟩
    refine ⟨2, rfl, by decide, by decide, for_range (lo := 0) (n := (2 : Int).toNat) (fun i σ H' => ∃ v : Option V, σ = [some (.ref p), some (.ref a), some (.ref b), v] ∧ PileAt C B p g P0 R H') ⟨none, rfl, A⟩ ?_ ?_⟩
    · rintro i σ H1 hi ⟨v, rfl, A1⟩
      -- the box that the turn looks at
      obtain ⟨n, q, sq, bn, en, hb, hbs, hq, hrm, hlq⟩ : ∃ (n : Int) (q : Addr) (sq : List (Option Int)) (bn : Bx), (0 : Int) + (i : Int) = n ∧ get P0.boxes n = some bn ∧ bn.slots = sq ∧ R q = some (.lst (lV sq)) ∧ ([V.ref q0, V.ref q1])[i]? = some (V.ref q) ∧ sq.length ≤ 6 := by
        obtain ⟨b0, e0, f0⟩ := TW.sh.get0
        obtain ⟨b1, e1, f1⟩ := TW.sh.get1
        match i, hi with
        | 0, _ => exact ⟨0, q0, s0, b0, rfl, e0, f0, rr.r0, rfl, l0⟩
        | 1, _ => exact ⟨1, q1, s1, b1, rfl, e1, f1, rr.r1, rfl, l1⟩
        | i + 2, hi => exact absurd hi (by show ¬ (i + 2 < 2); omega)
      have hi0 : (0 : Int) + (i : Int) = ((i : Nat) : Int) := by omega
      refine ⟨_, rfl, p, g.dx, _, rfl, A1.hp, pf_no _ _ _ (by decide +kernel) (by decide +kernel) (by decide +kernel), _, rfl, p, g, P0, R, n, (by rw [en]; rfl), A1, fun b' hb' => W.sl _ _ hb', fun z => absurd (hb.symm.trans z) (by intro z; cases z), fun b' hb' r hr' => ?_⟩
      have : b' = bn := Option.some.inj (hb'.symm.trans hb)
      subst this
      have A2 := A1.new (o := .lst (lV b'.slots)) hr'
      have rr' := A1.same.free hr'
      refine ⟨_, rfl, _, rfl, b, _, _, _, rfl, rfl, SqL.of (A2.same _ _ (same_upd rr' _ _ rr.rm)), at_of (j := i) hi0 hrm, ?_⟩
      refine ⟨r, q, sq, rfl, A2.same _ _ (by rw [upd_same, hbs]), A2.same _ _ (same_upd rr' _ _ hq), by omega, _, rfl, ?_⟩
      refine iteF ?_
      have A3 := A2.less (same_upd rr')
      generalize upd H1 r (.lst (lV b'.slots)) = H3 at A3 ⊢
      refine ⟨_, rfl, p, g.dx, _, rfl, A3.hp, pf_no _ _ _ (by decide +kernel) (by decide +kernel) (by decide +kernel), _, rfl, p, g, P0, R, n, (by rw [en]; rfl), A3, fun z => absurd (hb.symm.trans z) (by intro z; cases z), fun b'' hb'' => ⟨_, rfl, _, rfl, ?_⟩⟩
      refine iteF ?_
      refine ⟨_, rfl, p, g.dx, _, rfl, A3.hp, pf_no _ _ _ (by decide +kernel) (by decide +kernel) (by decide +kernel), _, rfl, p, g, P0, R, n, (by rw [en]; rfl), A3, fun z => absurd (hb.symm.trans z) (by intro z; cases z), fun b'' hb'' => ?_⟩
      have : b'' = b' := Option.some.inj (hb''.symm.trans hb)
      subst this
      refine ⟨_, rfl, _, rfl, _, rfl, a, b, q0, q1, P0.hands, s0, s1, n, (by rw [en]; rfl), A3.same _ _ ra, rr.more A3.same, (by rw [W.hl]; omega), by omega, by omega, fun H4 s4 => ?_⟩
      have ew : b''.wt = ((cnt P0.hands n + cnt s0 n + cnt s1 n : Nat) : Int) := by
        have := (W.wt n b'' hb).1
        rw [TW.sh.scnt, cnt_nil] at this
        rw [this]
        congr 1
        omega
      refine ⟨rfl, _, rfl, ?_⟩
      refine iteNS (by rw [ew]) ?_
      exact ⟨_, rfl, A3.grow s4⟩
    · rintro σ H1 ⟨v, rfl, A1⟩
      refine ⟨8, rfl, by decide, by decide, fun L8 hL8 => lc_range (lo := 0) (n := (8 : Int).toNat) (fun i H' => PileAt C B p g P0 (upd R L8 (.lst (lV (P0.hands.take i)))) H') (A1.new hL8) (fun i H' hi A => ?_) (fun H13 A13 => ?_)⟩
      · refine ⟨rfl, _, rfl, p, g.dx, _, rfl, A.hp, pf_no _ _ _ (by decide +kernel) (by decide +kernel) (by decide +kernel), _, rfl, p, g, P0, _, _, rfl, A, W.hl, fun c => absurd ⟨by omega, by show (0 : Int) + (i : Int) < 8; have : i < 8 := hi; omega⟩ c, fun _ => ?_⟩
        refine ⟨_, A.same _ _ upd_same, (by rw [lV_len, List.length_take, sizeLine_eq]; omega), ?_⟩
        have hi8 : i < P0.hands.length := by rw [W.hl]; exact hi
        have := A.set (a := L8) (o := .lst (lV (P0.hands.take i) ++ [oV (P0.hands.getD ((0 : Int) + (i : Int)).toNat none)])) upd_same
        rw [upd_upd] at this
        rw [take_get (getD_some hi8)]
        unfold lV
        rw [List.map_append]
        have e0i : ((0 : Int) + (i : Int)).toNat = i := by omega
        rw [e0i] at this ⊢
        exact this
      have t8 : P0.hands.take (8 : Int).toNat = P0.hands := List.take_of_length_le (by rw [W.hl]; exact Nat.le_refl _)
      rw [t8] at A13
      have rL8 := A1.same.free hL8
      exact ⟨_, rfl, L8, a, P0.hands, rfl, A13.same _ _ upd_same, A13.same _ _ (same_upd rL8 _ _ ra), by rw [W.hl]; omega, k _ (A13.less (same_upd rL8))⟩
/-! ### the law -/
theorem mk1 (a : Nat) : (mk pl0 6 a).1 = ⟨[none, none, none, none, none, none, some 0, none], [(0, ⟨List.replicate a none, 1, false⟩)], 1⟩ := by
  unfold mk
  rw [ptHand_none rfl]
  rfl
theorem scLaw : FnScope nLaw ["_law_script"] (defScope sLaw) := ⟨rfl, rfl, rfl, by decide +kernel, rfl, by decide +kernel, by decide +kernel⟩
theorem ok_law {f fI fM fU fE fQ fH fT fG fA fS fX fY fP fL fB fK fW fN fD fJ fV fO fCS : Addr} {fd dI dM dU dE dQ dH dT dG dA dS dX dY dP dL dB dK dW dN dD dJ dV dO dCS : FuncData} (F : Fun K "law" "law" sLaw f fd) (T : Txt K mg C B eH eS eF eB eL) (TL : TxtL mg) (TE : TxtE K eL) (D : Defs K mg C B fI fM fU fE fQ fH fT fG fA fS fX fY fP fL fB fK fW fN fD fJ fV fO fCS dI dM dU dE dQ dH dT dG dA dS dX dY dP dL dB dK dW dN dD dJ dV dO dCS) : FnOk P w K mg base CX0 5 f fd ["_law_script"] (spLaw K) := by
  have GI : FnOk P w K mg base CX0 1 fI dI ["self"] (spInit C B) := ok_init D.FI T
  have GM : FnOk P w K mg base (L2.CX P w) 3 fM dM ["self", "hand", "size"] (spMake C B eH eS eF) := ok_make D.FM T D.FL D.bL D.mL D.FP D.bP D.mP D.MB D.FB D.bB D.FK D.bK D.gK
  have GH : FnOk P w K mg base (L2.CX P w) 2 fH dH ["self", "hand"] (spHolds C B eH) := ok_holds D.FH T D.FK D.bK D.gK
  have GT : FnOk P w K mg base (L2.CX P w) 2 fT dT ["self", "number"] (spPoints C B eB) := ok_points D.FT T D.FX D.bX D.mX
  have GG : FnOk P w K mg base (L2.CX P w) 2 fG dG ["self", "number"] (spWeighs C B eB) := ok_weighs D.FG T D.FX D.bX D.mX
  have GA : FnOk P w K mg base CX0 1 fA dA ["self"] (spAlive C B) := ok_alive D.FA T
  have GS : FnOk P w K mg base CX0 1 fS dS ["self"] (spSuspects C B) := ok_suspects D.FS T
  have GW : FnOk P w K mg base CX0 1 fW dW ["_law_found"] spWhole := ok_whole D.FW TL
  have GN : FnOk P w K mg base CX0 2 fN dN ["_law_found", "_law_due"] spNums := ok_nums D.FN TL D.FW D.bW D.gW
  have GD : FnOk P w K mg base CX0 1 fD dD ["_law_script", "_law_k"] (spCellAt K) := ok_cellat D.FD TL
  have GJ : FnOk P w K mg base CX0 4 fJ dJ ["_law_pile", "_law_deed"] (spDone C B) := ok_done D.FJ T TE D
  have GV : FnOk P w K mg base CX0 1 fV dV ["_law_hands", "_law_rooms", "_law_number"] spPointers := ok_pointers D.FV TL
  have GO : FnOk P w K mg base CX0 3 fO dO ["_law_pile", "_law_hands", "_law_rooms"] (spStands C B) := ok_stands D.FO T TL D
  refine F.ok scLaw (fun vs H Q E h => ?_) (fun cdv A outer s H vs Q E hr h => ?_)
  · obtain ⟨a, ns, rfl, _⟩ := h
    rfl
  · obtain ⟨a, ns, rfl, hS, hlen, k⟩ := h
    have nd := scLaw.nd
    have hr1 : Room 1 _ := hr.mono (by decide)
    have hr2 : Room 2 _ := hr.mono (by decide)
    have hr3 : Room 3 _ := hr.mono (by decide)
    have hr4 : Room 4 _ := hr
    refine ⟨_, (pss_cons (ps_set (i := 1) nd rfl (Or.inl rfl) (pe_make0 D.MC GI hr2 (by rfl) T.mgC D.bI .nil pass0))
      (pss_cons (ps_set (i := 2) nd rfl (Or.inl rfl) (pe_lst pa_nil))
      (pss_cons (ps_for PassesOwn.never rfl (pi_range1 (by rfl) TL.range (pa_cons pe_int pa_nil)) (pg_name (i := 3) nd rfl (Or.inl rfl))
      (pss_cons (ps_set (i := 4) nd rfl (Or.inl rfl) (pe_op op_mod (pe_call GD hr1 (by rfl) D.gD D.FD.kp D.bD .nil pass0 (pa_cons (pv 0) (pa_cons (pv 3) pa_nil))) pe_int))
      (pss_cons (ps_expr (pe_meth (pv 1) T.clC D.mM GM hr3 D.bM .nil passL (pa_cons (pe_op op_add pe_int (pv 3)) (pa_cons (pv 4) pa_nil))))
      (pss_one (ps_expr (pe_bm PySem.F.plainAttrs_list PySem.F.slot_list_append PySem.F.type_list_append mt_append (pv 2) (pa_cons (pe_lc (own := [("_law_slot", 8)]) (g := gName 8) (tt := tYes) (te := tC .non) (by rfl) nd (pi_range1 (by rfl) TL.range (pa_cons (pv 4) pa_nil)) (blkOk_by (N := nLaw) (sc := defScope sLaw) (by decide +kernel)) (fun _ _ _ _ _ => pg_name (i := 8) nd rfl (Or.inl rfl)) (fun _ _ _ _ _ => pts_nil) (fun _ _ _ _ _ => pe_non)) pa_nil)))))))
      (pss_cons (ps_set (i := 5) nd rfl (Or.inl rfl) (pe_lst (pa_cons pe_non (pa_cons pe_non (pa_cons pe_non (pa_cons pe_non (pa_cons pe_non (pa_cons pe_non (pa_cons pe_int (pa_cons pe_int pa_nil))))))))))
      (pss_cons (ps_for PassesOwn.never rfl (pi_list (pe_slice sl_list (pv 0) (po_some pe_int) (po_some pe_int))) (pg_name (i := 6) nd rfl (Or.inl rfl))
      (pss_cons (ps_set (i := 7) nd rfl (Or.inl rfl) (pe_op op_mod (pe_op op_fdiv (pv 6) pe_int) pe_int))
      (pss_cons (ps_set (i := 8) nd rfl (Or.inl rfl) (pe_op op_mod (pe_op op_fdiv (pv 6) pe_int) pe_int))
      (pss_cons (ps_set (i := 9) nd rfl (Or.inl rfl) (pe_op op_mod (pe_op op_fdiv (pv 6) pe_int) pe_int))
      (pss_cons (ps_set (i := 10) nd rfl (Or.inl rfl) (pe_tup (pa_cons pe_str (pa_cons (pe_op op_add pe_int (pv 7)) (pa_cons (pv 8) (pa_cons (pv 9) pa_nil))))))
      (pss_cons (ps_mid (ps_if (pt_cmpR op_eq (pe_op op_mod (pv 6) pe_int) pe_int (nomark _)) (pss_one (ps_set (i := 10) nd rfl (Or.inl rfl) (pe_tup (pa_cons pe_str (pa_cons (pe_op op_add pe_int (pv 7)) (pa_cons (pv 8) (pa_cons pe_int pa_nil))))))) pss_nil))
      (pss_cons (ps_mid (ps_if (pt_cmpR op_eq (pe_op op_mod (pv 6) pe_int) pe_int (nomark _)) (pss_one (ps_set (i := 10) nd rfl (Or.inl rfl) (pe_tup (pa_cons pe_str (pa_cons (pe_op op_mod (pv 9) pe_int) (pa_cons (pv 8) (pa_cons (pe_op op_add pe_int (pv 7)) pa_nil))))))) pss_nil))
      (pss_cons (ps_mid (ps_set (i := 11) nd rfl (Or.inl rfl) (pe_call GJ hr4 (by rfl) D.gJ D.FJ.kp D.bJ .nil pass0 (pa_cons (pv 1) (pa_cons (pv 10) pa_nil)))))
      (pss_cons (ps_mid (ps_if (pt_cmpR op_ge (pv 8) (pe_callB call_len_seq (by rfl) TL.len PySem.boot_len (pa_cons (pe_ix ix_list (pv 2) (pv 7) (fun _ _ => rfl)) pa_nil)) (nomark _)) (pss_one (ps_if (pt_cmpR op_ne (pv 11) pe_str (nomark _)) (pss_one (ps_ret pe_bl)) pss_nil)) (pss_cons (ps_if (pt_not (pt_val (pe_call GN hr2 (by rfl) D.gN D.FN.kp D.bN .nil pass0 (pa_cons (pv 11) (pa_cons (pe_lst pa_nil) pa_nil))))) (pss_one (ps_ret pe_bl)) pss_nil)
      (pss_one (ps_mid (ps_if (pt_cmpR op_eq (pe_ix ix_tup (pv 10) pe_int (fun _ _ => rfl)) pe_str (nomark _)) (pss_one (ps_asg (pe_ix ix_list (pv 5) (pv 9) (fun _ _ => rfl)) (pg_sub (pe_ix ix_list (pv 2) (pv 7) (fun _ _ => rfl)) (pv 8) set_list))) (pss_one (ps_mid (ps_if (pt_cmpR op_eq (pe_ix ix_tup (pv 10) pe_int (fun _ _ => rfl)) pe_str (nomark _)) (pss_one (ps_asg pe_non (pg_sub (pe_ix ix_list (pv 2) (pv 7) (fun _ _ => rfl)) (pv 8) set_list))) (pss_one (ps_asg (pe_ix ix_list (pe_ix ix_list (pv 2) (pv 7) (fun _ _ => rfl)) (pv 8) (fun _ _ => rfl)) (pg_sub (pv 5) (pe_op op_mod (pv 9) pe_int) set_list))))))))))))
      (pss_one (ps_if (pt_not (pt_val (pe_call GO hr3 (by rfl) D.gO D.FO.kp D.bO .nil pass0 (pa_cons (pv 1) (pa_cons (pv 5) (pa_cons (pv 2) pa_nil)))))) (pss_one (ps_ret pe_bl)) pss_nil)))))))))))
      (pss_cons (ps_for PassesOwn.never rfl (pi_list (pe_lst (pa_cons (pe_meth (pv 1) T.clC D.mT GT hr2 D.bT .nil passL (pa_cons pe_int pa_nil)) (pa_cons (pe_meth (pv 1) T.clC D.mT GT hr2 D.bT .nil passL (pa_cons pe_int pa_nil)) (pa_cons (pe_meth0 (pv 1) T.clC D.mA GA hr1 D.bA .nil pass0) (pa_cons (pe_meth0 (pv 1) T.clC D.mS GS hr1 D.bS .nil pass0) pa_nil)))))) (pg_name (i := 11) nd rfl (Or.inl rfl))
      (pss_one (ps_expr (pe_bm0 PySem.F.plainAttrs_list PySem.F.slot_list_clear PySem.F.type_list_clear mt_clear (pv 11)))))
      (pss_one (ps_ret (pe_and (pe_call GO hr3 (by rfl) D.gO D.FO.kp D.bO .nil pass0 (pa_cons (pv 1) (pa_cons (pv 5) (pa_cons (pv 2) pa_nil)))) (pe_one (pe_call GN hr2 (by rfl) D.gN D.FN.kp D.bN .nil pass0 (pa_cons (pe_meth0 (pv 1) T.clC D.mA GA hr1 D.bA .nil pass0) (pa_cons (pe_lst (pa_cons pe_int (pa_cons pe_int pa_nil))) pa_nil))))))))))))), ?_⟩
    -- the pile
    intro x dx nx ndx nex
    refine ⟨H, x, dx, rfl, fun b o e => by rw [upd_ne (ne_of_none e nx), upd_ne (ne_of_none e ndx)]; exact e, nx, upd_same, fun g1 H1 A1 => ⟨rfl, ?_⟩⟩
    refine ⟨(by show 0 ≤ sizeLine; decide), fun rm hrm => ?_⟩
    have A2 := A1.new (o := .lst ([] : List V)) hrm
    have rrm := A1.same.free hrm
    obtain ⟨sz, esz⟩ : ∃ sz : Nat → Nat, sz = fun j => (ns.getD j 0 % 7).toNat := ⟨_, rfl⟩
    have sz6 : ∀ j, sz j ≤ 6 ∧ ((sz j : Nat) : Int) = ns.getD j 0 % 7 := fun j => by
      have h0 : 0 ≤ ns.getD j 0 % 7 := Int.emod_nonneg _ (by decide)
      have h7 : ns.getD j 0 % 7 < 7 := Int.emod_lt_of_pos _ (by decide)
      rw [esz]
      show (ns.getD j 0 % 7).toNat ≤ 6 ∧ (((ns.getD j 0 % 7).toNat : Nat) : Int) = _
      omega
    obtain ⟨pk, epk⟩ : ∃ pk : Nat → Pl, pk = fun i => match i with | 0 => pl0 | 1 => (mk pl0 6 (sz 0)).1 | _ => (mk (mk pl0 6 (sz 0)).1 7 (sz 1)).1 := ⟨_, rfl⟩
    have pk0 : pk 0 = pl0 := by rw [epk]; rfl
    have pk1 : pk 1 = (mk pl0 6 (sz 0)).1 := by rw [epk]; rfl
    have pk2 : pk 2 = (mk (mk pl0 6 (sz 0)).1 7 (sz 1)).1 := by rw [epk]; rfl
    have pkS : ∀ i, i < 2 → pk (i + 1) = (mk (pk i) (6 + (0 + (i : Int))).toNat (sz i)).1 ∧ (pk i).boxes.length < 60 ∧ (mk (pk i) (6 + (0 + (i : Int))).toNat (sz i)).2 = [] := fun i hi => by
      obtain ⟨_, f1, f2, _⟩ := two_made (sz6 0).1 (sz6 1).1
      match i, hi with
      | 0, _ => exact ⟨by rw [pk1, pk0]; rfl, by rw [pk0]; decide, by rw [pk0]; exact f1⟩
      | 1, _ => exact ⟨by rw [pk2, pk1]; rfl, by rw [pk1, mk1]; show 1 < 60; omega, by rw [pk1]; exact f2⟩
    -- two boxes
    refine ⟨2, rfl, by decide, by decide, for_range (lo := 0) (n := (2 : Int).toNat) (fun i σ H' => ∃ (g : Geo) (R : Hp) (qs : List Addr) (v3 v4 : Option V), σ = [some (.ref a), some (.ref x), some (.ref rm), v3, v4, none, none, none, none, none, none, none] ∧
      PileAt C B x g (pk i) R H' ∧ Wf (pk i) [] ∧ R rm = some (.lst (qs.map V.ref)) ∧ qs.length = i ∧ (∀ j q, qs[j]? = some q → R q = some (.lst (lV (List.replicate (sz j) none))) ∧ q ≠ rm) ∧ qs.Nodup ∧ Same H R)
      ⟨g1, _, [], none, none, rfl, by rw [pk0]; exact A2, by rw [pk0]; exact wf0, upd_same, rfl, fun j q e => by simp at e, List.nodup_nil, same_upd rrm⟩ ?_ ?_⟩
    · rintro i σ H3 hi ⟨g, R, qs, v3, v4, rfl, A, W, hR, hql, hqs, hnd, sR⟩
      have hi2 : i < 2 := hi
      obtain ⟨ek, elen, efr⟩ := pkS i hi2
      obtain ⟨z6, ez⟩ := sz6 i
      have hix : [V.ref a, V.int (0 + (i : Int))] ++ [] = [V.ref a, V.int ((i : Nat) : Int)] := by rw [List.append_nil, show (0 : Int) + (i : Int) = (i : Int) from by omega]
      refine ⟨_, rfl, _, rfl, a, ns, i, hix, (sR.trans A.same).seq hS, _, _, rfl, rfl, (by show (0 : Int) < 7; decide), ?_⟩
      refine ⟨_, rfl, x, g.dx, _, rfl, A.hp, pf_no _ _ _ (by decide +kernel) (by decide +kernel) (by decide +kernel), _, rfl, _, _, rfl, rfl, _, rfl, x, pk i, R, _, _, rfl, ⟨⟨g, A⟩, W⟩, fun c => absurd (by omega) c, fun _ c => absurd (by omega) c, fun _ _ c => absurd c (by omega), fun _ _ _ r H4 hr4 ⟨⟨g4, A4⟩, W4⟩ => ?_⟩
      have esi : (ns.getD i 0 % 7).toNat = sz i := by rw [esz]
      rw [esi] at A4 W4
      rw [← ek] at A4 W4
      rw [efr] at A4
      have A5 := A4.less (same_upd hr4)
      -- its room
      refine ⟨_, rfl, .inl ⟨rfl, _, SqL.of (A5.same _ _ hR)⟩, _, rfl, _, rfl, by omega, by omega, fun L hL => lc_range (lo := 0) (n := (ns.getD i 0 % 7).toNat) (fun j H' => PileAt C B x g4 (pk (i + 1)) (upd R L (.lst (lV (List.replicate j none)))) H') (A5.new hL) (fun j H' hj A => ?_) (fun H6 A6 => ?_)⟩
      · refine ⟨rfl, _, A.same _ _ upd_same, (by rw [lV_len, List.length_replicate, sizeLine_eq]; omega), ?_⟩
        have := A.set (a := L) (o := .lst (lV (List.replicate j none) ++ [.non])) upd_same
        rw [upd_upd] at this
        rw [List.replicate_succ']
        unfold lV
        rw [List.map_append]
        exact this
      rw [esi] at A6
      have rL := A5.same.free hL
      have nrL : rm ≠ L := ne_of_none hR rL
      have hR6 : upd R L (.lst (lV (List.replicate (sz i) none))) rm = some (.lst (qs.map V.ref)) := by rw [upd_ne nrL]; exact hR
      refine ⟨rm, _, _, rfl, rfl, A6.same _ _ hR6, (by rw [List.length_map, sizeLine_eq]; omega), ?_⟩
      have A7 := A6.set (a := rm) (o := .lst (qs.map V.ref ++ [V.ref L])) hR6
      refine ⟨g4, _, qs ++ [L], _, _, rfl, A7, W4, by rw [upd_same, List.map_append]; rfl, by rw [List.length_append, List.length_singleton, hql], fun j q e => ?_, ?_, fun b o e => ?_⟩
      · by_cases c : j < qs.length
        · rw [List.getElem?_append_left c] at e
          obtain ⟨e1, e2⟩ := hqs j q e
          exact ⟨by rw [upd_ne e2, upd_ne (ne_of_none e1 rL)]; exact e1, e2⟩
        · rw [List.getElem?_append_right (by omega)] at e
          have : j - qs.length = 0 := by
            have := (List.getElem?_eq_some_iff.mp e).1
            rw [List.length_singleton] at this
            omega
          rw [this] at e
          have : L = q := Option.some.inj e
          subst this
          have : j = i := by omega
          subst this
          exact ⟨by rw [upd_ne nrL.symm, upd_same], nrL.symm⟩
      · rw [List.nodup_append]
        refine ⟨hnd, by simp, fun u hu v hv => ?_⟩
        have : v = L := List.mem_singleton.mp hv
        subst this
        obtain ⟨j, hj, e⟩ := List.mem_iff_getElem.mp hu
        exact ne_of_none (hqs j u (by rw [List.getElem?_eq_getElem hj, e])).1 rL
      · have e1 := sR _ _ e
        rw [upd_ne (ne_of_none e rrm), upd_ne (ne_of_none e1 rL)]
        exact e1
    rintro σ H3 ⟨g, R, qs, v3, v4, rfl, A, W, hR, hql, hqs, hnd, sR⟩
    obtain ⟨q0, q1, rfl⟩ : ∃ q0 q1, qs = [q0, q1] := by
      match qs, hql with
      | [q0, q1], _ => exact ⟨q0, q1, rfl⟩
    obtain ⟨rq0, nq0⟩ := hqs 0 q0 rfl
    obtain ⟨rq1, nq1⟩ := hqs 1 q1 rfl
    have n01 : q0 ≠ q1 := by
      have := List.nodup_cons.mp hnd
      exact fun z => this.1 (by rw [z]; exact List.mem_singleton.mpr rfl)
    obtain ⟨TW, _, _, eh⟩ := two_made (sz6 0).1 (sz6 1).1
    replace A : PileAt C B x g (pk 2) R H3 := A
    rw [← pk2] at TW eh
    generalize pk 2 = P2 at A TW eh
    -- the hands as the law has them
    refine ⟨(by show 8 ≤ sizeLine; decide), fun hl hhl => ?_⟩
    have A4 := A.new (o := .lst (lV P2.hands)) hhl
    have rhl := A.same.free hhl
    have ehl : ([.non, .non, .non, .non, .non, .non, .int 0, .int 1] : List V) = lV P2.hands := by rw [eh]; rfl
    have nlm : hl ≠ rm := (ne_of_none hR rhl).symm
    have nl0 : hl ≠ q0 := (ne_of_none rq0 rhl).symm
    have nl1 : hl ≠ q1 := (ne_of_none rq1 rhl).symm
    show (tSeq _ _ : TS) _ _ (upd H3 hl (.lst [.non, .non, .non, .non, .non, .non, .int 0, .int 1]))
    rw [ehl]
    have sR4 : Same H (upd R hl (.lst (lV P2.hands))) := sR.trans (same_upd rhl)
    have rr4 : Rooms (upd R hl (.lst (lV P2.hands))) rm q0 q1 (List.replicate (sz 0) none) (List.replicate (sz 1) none) := ⟨by rw [upd_ne nlm.symm]; exact hR, by rw [upd_ne nl0.symm]; exact rq0, by rw [upd_ne nl1.symm]; exact rq1⟩
    -- for cell in script[2:32]
    refine ⟨_, rfl, 2, rfl, 32, rfl, a, _, rfl, (sR4.trans A4.same).seq hS, fun sp hsp => ?_⟩
    obtain ⟨xs, hxs⟩ : ∃ xs, xs = cutV (ns.map V.int) (some 2) (some 32) := ⟨_, rfl⟩
    have hxi : ∀ y ∈ xs, ∃ z, y = V.int z := fun y hy => by
      rw [hxs] at hy
      unfold cutV at hy
      obtain ⟨z, _, e⟩ := List.mem_map.mp (List.mem_of_mem_drop (List.mem_of_mem_take hy))
      exact ⟨z, e.symm⟩
    have A5 := A4.new (o := .lst xs) hsp
    have rsp := A4.same.free hsp
    refine ⟨sp, rfl, ⟨_, SqL.of upd_same⟩, ?_⟩
    rw [← hxs]
    have nsl : sp ≠ hl := (ne_of_none upd_same rsp).symm
    have ns0 : sp ≠ q0 := (ne_of_none rr4.r0 rsp).symm
    have ns1 : sp ≠ q1 := (ne_of_none rr4.r1 rsp).symm
    refine for_list (K := K) (a := sp) (xs := xs) (fun i σ H' => ∃ (g : Geo) (P0 : Pl) (R : Hp) (s0 s1 : List (Option Int)) (v3 v4 v6 v7 v8 v9 v10 v11 : Option V),
      σ = [some (.ref a), some (.ref x), some (.ref rm), v3, v4, some (.ref hl), v6, v7, v8, v9, v10, v11] ∧ PileAt C B x g P0 R H' ∧ Two P0 s0 s1 ∧ R hl = some (.lst (lV P0.hands)) ∧ Rooms R rm q0 q1 s0 s1 ∧ R sp = some (.lst xs))
      ⟨g, P2, _, _, _, v3, v4, none, none, none, none, none, none, rfl, A5, TW, by rw [upd_ne nsl.symm]; exact upd_same, rr4.more (same_upd rsp), upd_same⟩
      (fun i σ H' _ ⟨g, P0, R, s0, s1, v3, v4, v6, v7, v8, v9, v10, v11, _, A, TW, rh, rr, rs⟩ => SqL.of (A.same _ _ rs)) ?_ ?_
    · rintro i y σ H6 hi ⟨g, P0, R, s0, s1, v3, v4, v6, v7, v8, v9, v10, v11, rfl, A, TW, rh, rr, rs⟩
      obtain ⟨z, rfl⟩ := hxi y (List.mem_of_getElem? hi)
      have w0 : 0 ≤ z / 3 % 2 := Int.emod_nonneg _ (by decide)
      have w2 : z / 3 % 2 < 2 := Int.emod_lt_of_pos _ (by decide)
      have t0 : 0 ≤ z / 6 % 8 := Int.emod_nonneg _ (by decide)
      have h0 : 0 ≤ z / 48 % 8 := Int.emod_nonneg _ (by decide)
      have h8 : z / 48 % 8 < 8 := Int.emod_lt_of_pos _ (by decide)
      have g0 : 0 ≤ z / 48 % 8 % 6 := Int.emod_nonneg _ (by decide)
      have g6 : z / 48 % 8 % 6 < 6 := Int.emod_lt_of_pos _ (by decide)
      have W := TW.wf
      obtain ⟨l0, l1⟩ := TW.len
      -- the box whose slot is meant
      obtain ⟨qw, sw, bw, hq, hrm, hb, hbs, hhw, hsw, e0, e1⟩ : ∃ (qw : Addr) (sw : List (Option Int)) (bw : Bx), R qw = some (.lst (lV sw)) ∧ ([V.ref q0, V.ref q1])[(z / 3 % 2).toNat]? = some (V.ref qw) ∧ get P0.boxes (z / 3 % 2) = some bw ∧ bw.slots = sw ∧
          P0.hands.getD (6 + z / 3 % 2).toNat none = some (z / 3 % 2) ∧ sw.length ≤ 6 ∧ (z / 3 % 2 = 0 → qw = q0 ∧ sw = s0) ∧ (z / 3 % 2 = 1 → qw = q1 ∧ sw = s1) := by
        obtain ⟨b0, c0, f0⟩ := TW.sh.get0
        obtain ⟨b1, c1, f1⟩ := TW.sh.get1
        have h6 := TW.h6
        have h7 := TW.h7
        generalize z / 3 % 2 = wh at w0 w2 ⊢
        have : wh = 0 ∨ wh = 1 := by omega
        rcases this with rfl | rfl
        · exact ⟨q0, s0, b0, rr.r0, rfl, c0, f0, h6, l0, fun _ => ⟨rfl, rfl⟩, fun q => absurd q (by decide)⟩
        · exact ⟨q1, s1, b1, rr.r1, rfl, c1, f1, h7, l1, fun q => absurd q (by decide), fun _ => ⟨rfl, rfl⟩⟩
      have w01 : z / 3 % 2 = 0 ∨ z / 3 % 2 = 1 := by omega
      -- which, slot, hand
      refine ⟨_, rfl, _, _, rfl, rfl, ⟨by decide, by decide⟩, _, _, rfl, rfl, (by show (0 : Int) < 2; decide), ?_⟩
      refine ⟨_, rfl, _, _, rfl, rfl, ⟨by decide, by decide⟩, _, _, rfl, rfl, (by show (0 : Int) < 8; decide), ?_⟩
      refine ⟨_, rfl, _, _, rfl, rfl, ⟨by decide, by decide⟩, _, _, rfl, rfl, (by show (0 : Int) < 8; decide), ?_⟩
      -- the deed
      refine ⟨_, rfl, _, _, rfl, rfl, _, rfl, _, rfl, (by show 4 ≤ sizeLine; decide), fun t1 ht1 => ?_⟩
      have B1 := A.new (o := .tup [.str "put", .int (6 + z / 3 % 2), .int (z / 6 % 8), .int (z / 48 % 8)]) ht1
      have rt1 := A.same.free ht1
      refine ⟨fun σ' H' => ∃ (t : Addr) (R' : Hp) (kd : Str) (h o : Int), σ' = [some (.ref a), some (.ref x), some (.ref rm), v3, v4, some (.ref hl), some (.int z), some (.int (z / 3 % 2)), some (.int (z / 6 % 8)), some (.int (z / 48 % 8)), some (.ref t), v11] ∧
        PileAt C B x g P0 R' H' ∧ Same R R' ∧ R' t = some (.tup [.str kd, .int h, .int (z / 6 % 8), .int o]) ∧
        ((kd = "put" ∧ h = 6 + z / 3 % 2 ∧ o = z / 48 % 8) ∨ (kd = "empty" ∧ h = 6 + z / 3 % 2 ∧ o = 0) ∨ (kd = "take" ∧ h = z / 48 % 8 % 6 ∧ o = 6 + z / 3 % 2)), ?_, ?_⟩
      · refine ⟨_, rfl, _, _, rfl, rfl, (by show (0 : Int) < 3; decide), rfl, _, rfl, ?_⟩
        refine ite2 (fun _ => ?_) (fun _ => ?_)
        · refine ⟨_, rfl, _, _, rfl, rfl, _, rfl, (by show 4 ≤ sizeLine; decide), fun t2 ht2 => ?_⟩
          have B2 := B1.new (o := .tup [.str "empty", .int (6 + z / 3 % 2), .int (z / 6 % 8), .int 0]) ht2
          exact ⟨t2, _, "empty", _, 0, rfl, B2, (same_upd rt1).trans (same_upd (B1.same.free ht2)), upd_same, .inr (.inl ⟨rfl, rfl, rfl⟩)⟩
        · exact ⟨t1, _, "put", _, _, rfl, B1, same_upd rt1, upd_same, .inl ⟨rfl, rfl, rfl⟩⟩
      clear B1 rt1 ht1 t1
      rintro σ' H7 ⟨t1, R1, kd1, hd1, od1, rfl, B1, sR1, ht1, hk1⟩
      refine ⟨fun σ' H' => ∃ (t : Addr) (R' : Hp) (kd : Str) (h o : Int), σ' = [some (.ref a), some (.ref x), some (.ref rm), v3, v4, some (.ref hl), some (.int z), some (.int (z / 3 % 2)), some (.int (z / 6 % 8)), some (.int (z / 48 % 8)), some (.ref t), v11] ∧
        PileAt C B x g P0 R' H' ∧ Same R R' ∧ R' t = some (.tup [.str kd, .int h, .int (z / 6 % 8), .int o]) ∧
        ((kd = "put" ∧ h = 6 + z / 3 % 2 ∧ o = z / 48 % 8) ∨ (kd = "empty" ∧ h = 6 + z / 3 % 2 ∧ o = 0) ∨ (kd = "take" ∧ h = z / 48 % 8 % 6 ∧ o = 6 + z / 3 % 2)), ?_, ?_⟩
      · refine ⟨_, rfl, _, _, rfl, rfl, (by show (0 : Int) < 3; decide), rfl, _, rfl, ?_⟩
        refine ite2 (fun _ => ?_) (fun _ => ?_)
        · refine ⟨_, rfl, _, _, rfl, rfl, (by show (0 : Int) < 6; decide), _, rfl, _, rfl, _, _, rfl, rfl, (by show 4 ≤ sizeLine; decide), fun t2 ht2 => ?_⟩
          have B2 := B1.new (o := .tup [.str "take", .int (z / 48 % 8 % 6), .int (z / 6 % 8), .int (6 + z / 3 % 2)]) ht2
          exact ⟨t2, _, "take", _, _, rfl, B2, sR1.trans (same_upd (B1.same.free ht2)), upd_same, .inr (.inr ⟨rfl, rfl, rfl⟩)⟩
        · exact ⟨t1, R1, kd1, hd1, od1, rfl, B1, sR1, ht1, hk1⟩
      clear B1 sR1 ht1 hk1 t1 R1 kd1 hd1 od1
      rintro σ' H8 ⟨t, R1, kd, hd, od, rfl, B1, sR1, ht, hk⟩
      have hwb : ∀ {s : Int}, (0 ≤ s ∧ s < (bw.slots.length : Int)) ↔ (0 ≤ s ∧ s < (sw.length : Int)) := fun {s} => by rw [hbs]
      have hxa : ∀ (j : Nat) n, P0.hands.getD j none = some n → ∃ b, get P0.boxes n = some b := fun j n e => W.hand e
      -- found
      refine ⟨fun σ' H' => ∃ (g' : Geo) (P' : Pl) (R' : Hp) (s0' s1' : List (Option Int)) (fv : V), σ' = [some (.ref a), some (.ref x), some (.ref rm), v3, v4, some (.ref hl), some (.int z), some (.int (z / 3 % 2)), some (.int (z / 6 % 8)), some (.int (z / 48 % 8)), some (.ref t), some fv] ∧
        PileAt C B x g' P' R' H' ∧ Two P' s0' s1' ∧ Same R1 R' ∧
        ((z / 6 % 8 < (sw.length : Int) ∧ ∃ r, fv = .ref r ∧ R' r = some (.lst []) ∧ ((kd = "take" ∧ P'.hands = P0.hands.set (z / 48 % 8 % 6).toNat (sw.getD (z / 6 % 8).toNat none) ∧ s0' = s0 ∧ s1' = s1) ∨
            (∃ xo, ((kd = "put" ∧ xo = P0.hands.getD (z / 48 % 8).toNat none) ∨ (kd = "empty" ∧ xo = none)) ∧ P'.hands = P0.hands ∧ s0' = (if z / 3 % 2 = 0 then s0.set (z / 6 % 8).toNat xo else s0) ∧ s1' = (if z / 3 % 2 = 1 then s1.set (z / 6 % 8).toNat xo else s1)))) ∨
          (¬ z / 6 % 8 < (sw.length : Int) ∧ fv = .str "no slot" ∧ P'.hands = P0.hands ∧ s0' = s0 ∧ s1' = s1)), ?_, ?_⟩
      · have bad : ∀ {H'' : Hp}, PileAt C B x g P0 R1 H'' → ¬ (0 ≤ z / 6 % 8 ∧ z / 6 % 8 < (bw.slots.length : Int)) → ∃ (g' : Geo) (P' : Pl) (R' : Hp) (s0' s1' : List (Option Int)) (fv : V), ([some (.ref a), some (.ref x), some (.ref rm), v3, v4, some (.ref hl), some (.int z), some (.int (z / 3 % 2)), some (.int (z / 6 % 8)), some (.int (z / 48 % 8)), some (.ref t), some (.str "no slot")] : St) = [some (.ref a), some (.ref x), some (.ref rm), v3, v4, some (.ref hl), some (.int z), some (.int (z / 3 % 2)), some (.int (z / 6 % 8)), some (.int (z / 48 % 8)), some (.ref t), some fv] ∧
            PileAt C B x g' P' R' H'' ∧ Two P' s0' s1' ∧ Same R1 R' ∧
            ((z / 6 % 8 < (sw.length : Int) ∧ ∃ r, fv = .ref r ∧ R' r = some (.lst []) ∧ ((kd = "take" ∧ P'.hands = P0.hands.set (z / 48 % 8 % 6).toNat (sw.getD (z / 6 % 8).toNat none) ∧ s0' = s0 ∧ s1' = s1) ∨
                (∃ xo, ((kd = "put" ∧ xo = P0.hands.getD (z / 48 % 8).toNat none) ∨ (kd = "empty" ∧ xo = none)) ∧ P'.hands = P0.hands ∧ s0' = (if z / 3 % 2 = 0 then s0.set (z / 6 % 8).toNat xo else s0) ∧ s1' = (if z / 3 % 2 = 1 then s1.set (z / 6 % 8).toNat xo else s1)))) ∨
              (¬ z / 6 % 8 < (sw.length : Int) ∧ fv = .str "no slot" ∧ P'.hands = P0.hands ∧ s0' = s0 ∧ s1' = s1)) := fun {H''} A c =>
          ⟨g, P0, R1, s0, s1, _, rfl, A, TW, Same.refl R1, .inr ⟨fun q => c (hwb.mpr ⟨t0, q⟩), rfl, rfl, rfl, rfl⟩⟩
        rcases hk with ⟨rfl, rfl, rfl⟩ | ⟨rfl, rfl, rfl⟩ | ⟨rfl, rfl, rfl⟩
        · refine ⟨_, rfl, _, rfl, x, t, P0, R1, "put", _, _, _, rfl, ht, ⟨⟨g, B1⟩, W⟩, by omega, .inl ⟨rfl, ⟨h0, h8⟩, z / 3 % 2, bw, hhw, hb, fun c r H' hr ⟨⟨g', A'⟩, W'⟩ => ?_, fun c => bad B1 c⟩⟩
          obtain ⟨T2, f2⟩ := TW.slot hb (i := (z / 6 % 8).toNat) (by omega) (x := P0.hands.getD (z / 48 % 8).toNat none) (fun n e => hxa _ n e)
          rw [f2] at A'
          exact ⟨g', _, _, _, _, _, rfl, A', T2, same_upd hr, .inl ⟨(hwb.mp c).2, r, rfl, upd_same, .inr ⟨_, .inl ⟨rfl, rfl⟩, rfl, rfl, rfl⟩⟩⟩
        · refine ⟨_, rfl, _, rfl, x, t, P0, R1, "empty", _, _, _, rfl, ht, ⟨⟨g, B1⟩, W⟩, by omega, .inr (.inl ⟨rfl, z / 3 % 2, bw, hhw, hb, fun c r H' hr ⟨⟨g', A'⟩, W'⟩ => ?_, fun c => bad B1 c⟩)⟩
          obtain ⟨T2, f2⟩ := TW.slot hb (i := (z / 6 % 8).toNat) (by omega) (x := none) (fun n e => by cases e)
          rw [f2] at A'
          exact ⟨g', _, _, _, _, _, rfl, A', T2, same_upd hr, .inl ⟨(hwb.mp c).2, r, rfl, upd_same, .inr ⟨_, .inr ⟨rfl, rfl⟩, rfl, rfl, rfl⟩⟩⟩
        · refine ⟨_, rfl, _, rfl, x, t, P0, R1, "take", _, _, _, rfl, ht, ⟨⟨g, B1⟩, W⟩, by omega, .inr (.inr ⟨rfl, by omega, z / 3 % 2, bw, hhw, hb, fun c r H' hr ⟨⟨g', A'⟩, W'⟩ => ?_, fun c => bad B1 c⟩)⟩
          obtain ⟨T2, f2⟩ := TW.hand (i := (z / 48 % 8 % 6).toNat) (by omega) (x := bw.slots.getD (z / 6 % 8).toNat none) (fun n e => W.slot hb e)
          rw [f2] at A'
          exact ⟨g', _, _, s0, s1, _, rfl, A', T2, same_upd hr, .inl ⟨(hwb.mp c).2, r, rfl, upd_same, .inl ⟨rfl, by rw [← hbs]; rfl, rfl, rfl⟩⟩⟩
      rintro σ' H9 ⟨g9, P9, R9, s09, s19, fv, rfl, A9, T9, sR9, hfv⟩
      have sR : Same R R9 := sR1.trans sR9
      have rr9 := rr.more sR
      have rh9 := sR _ _ rh
      have rs9 := sR _ _ rs
      have hq9 := sR _ _ hq
      have ht9 := sR9 _ _ ht
      have hT9 := SqT.of (K := K) (A9.same _ _ ht9)
      have eww : z / 3 % 2 = (((z / 3 % 2).toNat : Nat) : Int) := by omega
      have seq : ∀ {z z' : Str}, z = z' → decide (V.str z = V.str z') = true := fun e => decide_eq_true (by rw [e])
      have sne : ∀ {z z' : Str}, z ≠ z' → decide (V.str z = V.str z') = false := fun e => decide_eq_false (by intro q; injection q with q; exact e q)
      -- what the law makes of it
      refine ⟨fun σ' H' => ∃ (g' : Geo) (P' : Pl) (R' : Hp) (s0' s1' : List (Option Int)), σ' = [some (.ref a), some (.ref x), some (.ref rm), v3, v4, some (.ref hl), some (.int z), some (.int (z / 3 % 2)), some (.int (z / 6 % 8)), some (.int (z / 48 % 8)), some (.ref t), some fv] ∧
        PileAt C B x g' P' R' H' ∧ Two P' s0' s1' ∧ R' hl = some (.lst (lV P'.hands)) ∧ Rooms R' rm q0 q1 s0' s1' ∧ R' sp = some (.lst xs), ?_, ?_⟩
      · refine ⟨_, rfl, _, rfl, _, rfl, rm, _, _, _, rfl, rfl, SqL.of (A9.same _ _ rr9.rm), at_of (j := (z / 3 % 2).toNat) eww hrm, qw, _, rfl, .inl (SqL.of (A9.same _ _ hq9)), _, _, rfl, rfl, _, rfl, ?_⟩
        rw [lV_len]
        rcases hfv with ⟨cl, r, rfl, hr, hres⟩ | ⟨cl, rfl, eh, rfl, rfl⟩
        case inr =>
          refine if_pos_of (decide_eq_true (by omega)) ?_
          refine ⟨_, rfl, rfl, _, rfl, ?_⟩
          refine iteNS rfl ?_
          exact ⟨g9, P9, R9, _, _, rfl, A9, T9, by rw [eh]; exact rh9, rr9, rs9⟩
        refine if_neg_of (decide_eq_false (by omega)) ?_
        refine ⟨_, rfl, (by show 0 ≤ sizeLine; decide), fun L hL => ?_⟩
        have A10 := A9.new (o := .lst ([] : List V)) hL
        have rL := A9.same.free hL
        refine ⟨r, L, [], rfl, A10.same _ _ (by rw [upd_ne (ne_of_none hr rL)]; exact hr), A10.same _ _ upd_same, Nat.zero_le _, _, rfl, ?_⟩
        refine iteF ?_
        replace A10 := A10.less (same_upd rL)
        generalize upd H9 L (.lst []) = H10 at A10 ⊢
        have hT10 := SqT.of (K := K) (A10.same _ _ ht9)
        have wlt : (z / 6 % 8).toNat < sw.length := by omega
        have ews : z / 6 % 8 = (((z / 6 % 8).toNat : Nat) : Int) := by omega
        refine ⟨_, ?_, fun σ' H' h => h⟩
        refine ⟨_, rfl, t, _, _, _, rfl, rfl, hT10, at_of (j := 0) rfl rfl, rfl, _, rfl, ?_⟩
        -- a room is set
        have setroom : ∀ (xo : Option Int) (s0' s1' : List (Option Int)), s0' = (if z / 3 % 2 = 0 then s0.set (z / 6 % 8).toNat xo else s0) → s1' = (if z / 3 % 2 = 1 then s1.set (z / 6 % 8).toNat xo else s1) →
            Rooms (upd R9 qw (.lst (lV (sw.set (z / 6 % 8).toNat xo)))) rm q0 q1 s0' s1' := fun xo s0' s1' f0 f1 => by
          rcases w01 with c | c
          · obtain ⟨rfl, rfl⟩ := e0 c
            rw [if_pos c] at f0
            rw [if_neg (by omega)] at f1
            subst f0 f1
            exact ⟨by rw [upd_ne nq0.symm]; exact rr9.rm, upd_same, by rw [upd_ne n01.symm]; exact rr9.r1⟩
          · obtain ⟨rfl, rfl⟩ := e1 c
            rw [if_neg (by omega)] at f0
            rw [if_pos c] at f1
            subst f0 f1
            exact ⟨by rw [upd_ne nq1.symm]; exact rr9.rm, by rw [upd_ne n01]; exact rr9.r0, upd_same⟩
        have nlq : hl ≠ qw := by
          rcases w01 with c | c
          · rw [(e0 c).1]; exact nl0
          · rw [(e1 c).1]; exact nl1
        have nsq : sp ≠ qw := by
          rcases w01 with c | c
          · rw [(e0 c).1]; exact ns0
          · rw [(e1 c).1]; exact ns1
        rcases hres with ⟨rfl, eh, rfl, rfl⟩ | ⟨xo, hxo, eh, f0, f1⟩
        · -- take
          refine if_neg_of (sne (by decide +kernel)) ?_
          refine ⟨_, ?_, fun σ' H' h => h⟩
          refine ⟨_, rfl, t, _, _, _, rfl, rfl, hT10, at_of (j := 0) rfl rfl, rfl, _, rfl, ?_⟩
          refine if_neg_of (sne (by decide +kernel)) ?_
          refine ⟨_, rfl, _, rfl, rm, _, _, _, rfl, rfl, SqL.of (A10.same _ _ rr9.rm), at_of (j := (z / 3 % 2).toNat) eww hrm, _, rfl, qw, _, _, _, rfl, rfl, SqL.of (A10.same _ _ hq9), at_of (j := (z / 6 % 8).toNat) ews (lV_get wlt), _, rfl, _, rfl, _, _, rfl, rfl, (by show (0 : Int) < 6; decide), ?_⟩
          refine ⟨hl, _, _, _, rfl, rfl, A10.same _ _ rh9, ixN_int g0 (by rw [lV_len, W.hl]; omega), ?_⟩
          rw [lV_set, ← eh]
          have A11 := A10.set (a := hl) (o := .lst (lV P9.hands)) rh9
          exact ⟨g9, P9, _, _, _, rfl, A11, T9, upd_same, ⟨by rw [upd_ne nlm.symm]; exact rr9.rm, by rw [upd_ne nl0.symm]; exact rr9.r0, by rw [upd_ne nl1.symm]; exact rr9.r1⟩, by rw [upd_ne nsl]; exact rs9⟩
        · have A11 := A10.set (a := qw) (o := .lst (lV (sw.set (z / 6 % 8).toNat xo))) hq9
          rcases hxo with ⟨rfl, rfl⟩ | ⟨rfl, rfl⟩
          · -- put
            refine if_pos_of (seq rfl) ?_
            have hx := lV_get (l := P0.hands) (i := (z / 48 % 8).toNat) (by rw [W.hl]; omega)
            refine ⟨_, rfl, _, rfl, hl, _, _, _, rfl, rfl, SqL.of (A10.same _ _ rh9), at_of (j := (z / 48 % 8).toNat) (by omega) hx, _, rfl, _, rfl, rm, _, _, _, rfl, rfl, SqL.of (A10.same _ _ rr9.rm), at_of (j := (z / 3 % 2).toNat) eww hrm, _, rfl, ?_⟩
            refine ⟨qw, _, _, _, rfl, rfl, A10.same _ _ hq9, ixN_int t0 (by rw [lV_len]; exact cl), ?_⟩
            rw [lV_set]
            exact ⟨g9, P9, _, _, _, rfl, A11, T9, by rw [upd_ne nlq, eh]; exact rh9, setroom _ _ _ f0 f1, by rw [upd_ne nsq]; exact rs9⟩
          · -- empty
            refine if_neg_of (sne (by decide +kernel)) ?_
            refine ⟨_, ?_, fun σ' H' h => h⟩
            refine ⟨_, rfl, t, _, _, _, rfl, rfl, hT10, at_of (j := 0) rfl rfl, rfl, _, rfl, ?_⟩
            refine if_pos_of (seq rfl) ?_
            refine ⟨_, rfl, _, rfl, rm, _, _, _, rfl, rfl, SqL.of (A10.same _ _ rr9.rm), at_of (j := (z / 3 % 2).toNat) eww hrm, _, rfl, ?_⟩
            refine ⟨qw, _, _, _, rfl, rfl, A10.same _ _ hq9, ixN_int t0 (by rw [lV_len]; exact cl), ?_⟩
            rw [show V.non = oV none from rfl, lV_set]
            exact ⟨g9, P9, _, _, _, rfl, A11, T9, by rw [upd_ne nlq, eh]; exact rh9, setroom _ _ _ f0 f1, by rw [upd_ne nsq]; exact rs9⟩
      clear hT9 ht9 hq9 rs9 rh9 rr9 sR hfv sR9 T9 A9 s09 s19 R9 P9 g9 H9
      rintro σ' H9 ⟨g9, P9, R9, s09, s19, rfl, A9, T9, rh9, rr9, rs9⟩
      refine ⟨_, rfl, _, rfl, _, rfl, x, hl, rm, q0, q1, g9, P9, R9, s09, s19, rfl, A9, T9, rh9, rr9, fun H10 A10 => ⟨_, rfl, ?_⟩⟩
      refine iteF ?_
      exact ⟨g9, P9, R9, s09, s19, _, _, _, _, _, _, _, _, rfl, A10, T9, rh9, rr9, rs9⟩
    · rintro σ H6 ⟨g, P0, R, s0, s1, v3, v4, v6, v7, v8, v9, v10, v11, rfl, A, TW, rh, rr, rs⟩
      obtain ⟨b0, c0, f0⟩ := TW.sh.get0
      obtain ⟨b1, c1, f1⟩ := TW.sh.get1
      have W := TW.wf
      -- lists told are cleared
      refine ⟨_, rfl, x, g.dx, _, rfl, A.hp, pf_no _ _ _ (by decide +kernel) (by decide +kernel) (by decide +kernel), x, g, P0, R, 0, rfl, A, fun b hb => W.sl _ _ hb, fun q => absurd (c0.symm.trans q) (by intro q; cases q), fun b hb r1 hr1 => ?_⟩
      have A1 := A.new (o := .lst (lV b.slots)) hr1
      have n1 := A.same.free hr1
      refine ⟨_, rfl, x, g.dx, _, rfl, A1.hp, pf_no _ _ _ (by decide +kernel) (by decide +kernel) (by decide +kernel), x, g, P0, _, 1, rfl, A1, fun b hb => W.sl _ _ hb, fun q => absurd (c1.symm.trans q) (by intro q; cases q), fun b' hb' r2 hr2 => ?_⟩
      have A2 := A1.new (o := .lst (lV b'.slots)) hr2
      have n2 := A1.same.free hr2
      refine ⟨_, rfl, x, g.dx, _, rfl, A2.hp, pf_no _ _ _ (by decide +kernel) (by decide +kernel) (by decide +kernel), x, g, P0, _, rfl, A2, W, fun r3 hr3 => ?_⟩
      have A3 := A2.new (o := .lst ((keys P0.boxes).map V.int)) hr3
      have n3 := A2.same.free hr3
      refine ⟨_, rfl, x, g.dx, _, rfl, A3.hp, pf_no _ _ _ (by decide +kernel) (by decide +kernel) (by decide +kernel), x, g, P0, _, rfl, A3, W, fun r4 H7 n4 A4 => ?_⟩
      refine ⟨(by show 4 ≤ sizeLine; decide), fun L hL => ?_⟩
      have A5 := A4.new (o := .lst [.ref r1, .ref r2, .ref r3, .ref r4]) hL
      have nL := A4.same.free hL
      have s1 := same_upd (o := .lst (lV b.slots)) n1
      have s2 := s1.trans (same_upd (o := .lst (lV b'.slots)) n2)
      have s3 := s2.trans (same_upd (o := .lst ((keys P0.boxes).map V.int)) n3)
      have s4 := s3.trans (same_upd (o := .lst ((susp P0).map V.int)) n4)
      have s5 := s4.trans (same_upd (o := .lst [.ref r1, .ref r2, .ref r3, .ref r4]) nL)
      obtain ⟨R5, eR5⟩ : ∃ R5, R5 = upd (upd (upd (upd (upd R r1 (.lst (lV b.slots))) r2 (.lst (lV b'.slots))) r3 (.lst ((keys P0.boxes).map V.int))) r4 (.lst ((susp P0).map V.int))) L (.lst [.ref r1, .ref r2, .ref r3, .ref r4]) := ⟨_, rfl⟩
      rw [← eR5] at A5 s5
      have z1 : upd (upd (upd (upd R r1 (.lst (lV b.slots))) r2 (.lst (lV b'.slots))) r3 (.lst ((keys P0.boxes).map V.int))) r4 (.lst ((susp P0).map V.int)) r1 = some (.lst (lV b.slots)) :=
        (((same_upd n2).trans (same_upd n3)).trans (same_upd n4)) _ _ upd_same
      have z2 : upd (upd (upd (upd R r1 (.lst (lV b.slots))) r2 (.lst (lV b'.slots))) r3 (.lst ((keys P0.boxes).map V.int))) r4 (.lst ((susp P0).map V.int)) r2 = some (.lst (lV b'.slots)) :=
        ((same_upd n3).trans (same_upd n4)) _ _ upd_same
      have z3 : upd (upd (upd (upd R r1 (.lst (lV b.slots))) r2 (.lst (lV b'.slots))) r3 (.lst ((keys P0.boxes).map V.int))) r4 (.lst ((susp P0).map V.int)) r3 = some (.lst ((keys P0.boxes).map V.int)) :=
        (same_upd n4) _ _ upd_same
      have z4 : upd (upd (upd (upd R r1 (.lst (lV b.slots))) r2 (.lst (lV b'.slots))) r3 (.lst ((keys P0.boxes).map V.int))) r4 (.lst ((susp P0).map V.int)) r4 = some (.lst ((susp P0).map V.int)) := upd_same
      have all4 : ∀ r ∈ [r1, r2, r3, r4], (∃ l, R5 r = some (.lst l)) ∧ R r = none ∧ r ≠ L := fun r hr => by
        have e5 : ∀ {l}, upd (upd (upd (upd R r1 (.lst (lV b.slots))) r2 (.lst (lV b'.slots))) r3 (.lst ((keys P0.boxes).map V.int))) r4 (.lst ((susp P0).map V.int)) r = some (.lst l) → (∃ l, R5 r = some (.lst l)) ∧ r ≠ L := fun {l} e =>
          ⟨⟨l, by rw [eR5, upd_ne (ne_of_none e nL)]; exact e⟩, ne_of_none e nL⟩
        simp only [List.mem_cons, List.not_mem_nil, or_false] at hr
        rcases hr with rfl | rfl | rfl | rfl
        · exact ⟨(e5 z1).1, n1, (e5 z1).2⟩
        · exact ⟨(e5 z2).1, s1.free n2, (e5 z2).2⟩
        · exact ⟨(e5 z3).1, s2.free n3, (e5 z3).2⟩
        · exact ⟨(e5 z4).1, s3.free n4, (e5 z4).2⟩
      have r5L : R5 L = some (.lst ([r1, r2, r3, r4].map V.ref)) := by rw [eR5, upd_same]; rfl
      refine ⟨L, rfl, ⟨_, SqL.of upd_same⟩, ?_⟩
      clear eR5 z1 z2 z3 z4 s4 s3 s2 s1
      refine for_list (K := K) (a := L) (xs := [r1, r2, r3, r4].map V.ref) (fun i σ H' => ∃ (v11 : Option V) (R' : Hp), σ = [some (.ref a), some (.ref x), some (.ref rm), v3, v4, some (.ref hl), v6, v7, v8, v9, v10, v11] ∧ PileAt C B x g P0 R' H' ∧ Same R R' ∧ R' L = some (.lst ([r1, r2, r3, r4].map V.ref)) ∧ (∀ r ∈ [r1, r2, r3, r4], ∃ l, R' r = some (.lst l)))
        ⟨v11, R5, rfl, A5, s5, r5L, fun r hr => (all4 r hr).1⟩ (fun i σ H' _ ⟨v, R', _, A, _, rl, _⟩ => SqL.of (A.same _ _ rl)) ?_ ?_
      · rintro i y σ H8 hi ⟨v, R', rfl, A8, s8, rl, ra⟩
        obtain ⟨r, hr, rfl⟩ : ∃ r, r ∈ [r1, r2, r3, r4] ∧ y = V.ref r := by
          have := List.mem_of_getElem? hi
          obtain ⟨r, hr, e⟩ := List.mem_map.mp this
          exact ⟨r, hr, e.symm⟩
        obtain ⟨_, nr, nrL⟩ := all4 r hr
        obtain ⟨l, hl8⟩ := ra r hr
        refine ⟨_, rfl, .inl ⟨rfl, _, SqL.of (A8.same _ _ hl8)⟩, r, _, rfl, rfl, A8.same _ _ hl8, ?_⟩
        have A9 := A8.set (a := r) (o := .lst []) hl8
        refine ⟨_, _, rfl, A9, fun b o e => by rw [upd_ne (ne_of_none e nr)]; exact s8 _ _ e, by rw [upd_ne nrL.symm]; exact rl, fun u hu => ?_⟩
        by_cases q : u = r
        · exact ⟨[], by rw [q, upd_same]⟩
        · obtain ⟨l2, e2⟩ := ra u hu
          exact ⟨l2, by rw [upd_ne q]; exact e2⟩
      · rintro σ H8 ⟨v, R', rfl, A8, s8, rl, ra⟩
        replace A8 := A8.less s8
        -- all stands yet
        refine ⟨_, rfl, _, rfl, _, rfl, x, hl, rm, q0, q1, g, P0, R, s0, s1, rfl, A8, TW, rh, rr, fun H9 A9 => ⟨_, rfl, ?_⟩⟩
        refine iteT ?_
        refine ⟨_, rfl, x, g.dx, _, rfl, A9.hp, pf_no _ _ _ (by decide +kernel) (by decide +kernel) (by decide +kernel), x, g, P0, R, rfl, A9, W, fun r hr => ?_⟩
        have A10 := A9.new (o := .lst ((keys P0.boxes).map V.int)) hr
        refine ⟨(by show 2 ≤ sizeLine; decide), fun L2 hL2 => ?_⟩
        have A11 := A10.new (o := .lst [.int 0, .int 1]) hL2
        have nL2 := A10.same.free hL2
        refine ⟨r, L2, [some 0, some 1], rfl, A11.same _ _ (by rw [upd_ne (ne_of_none upd_same nL2), upd_same, TW.sh.keys]; rfl), A11.same _ _ (by rw [upd_same]; rfl), by show 2 ≤ 1000; omega, k _⟩

end
end BP

namespace BP
open PySem L2
/-! ### what the top has written, the head -/
theorem all_mk {l : PySem.W.OpenLaw} {w : World} {K : PySem.W.Frag} {h : Heap} {mg : Str → Option Value} {fa B C eH eS eF eB eL fI fM fU fE fQ fH fT fG fA fS fX fY fP fL fB fK fW fN fD fJ fV fO fCS fZ : Addr} (X : K.In h) (G : h.Ns mainGlobals mg) (hfa : mg "law" = some (.ref fa))
    {odI anI odM anM odU anU odE anE odQ anQ odH anH odT anT odG anG odA anA odS anS odX anX odY anY odP anP odL anL odB anB odK anK odW anW odN anN odD anD odJ anJ odV anV odO anO odCS anCS odZ anZ : Option Addr} {slI slM slU slE slQ slH slT slG slA slS slX slY slP slL slB slK slW slN slD slJ slV slO slCS slZ : Array (Option Value)} {ocI kVI dcI pmI cdI ctI ocM kVM dcM pmM cdM ctM ocU kVU dcU pmU cdU ctU ocE kVE dcE pmE cdE ctE ocQ kVQ dcQ pmQ cdQ ctQ ocH kVH dcH pmH cdH ctH ocT kVT dcT pmT cdT ctT ocG kVG dcG pmG cdG ctG ocA kVA dcA pmA cdA ctA ocS kVS dcS pmS cdS ctS ocX kVX dcX pmX cdX ctX ocY kVY dcY pmY cdY ctY ocP kVP dcP pmP cdP ctP ocL kVL dcL pmL cdL ctL ocB kVB dcB pmB cdB ctB ocK kVK dcK pmK cdK ctK ocW kVW dcW pmW cdW ctW ocN kVN dcN pmN cdN ctN ocD kVD dcD pmD cdD ctD ocJ kVJ dcJ pmJ cdJ ctJ ocV kVV dcV pmV cdV ctV ocO kVO dcO pmO cdO ctO ocCS kVCS dcCS pmCS cdCS ctCS ocZ kVZ dcZ pmZ cdZ ctZ : Value} {tHANDS tMOST_SLOTS tMOST_ALIVE : Tok}
    (acB : PySem.W.nsIn K mainGlobals "Box" = some (some (.ref B)))
    (acC : PySem.W.nsIn K mainGlobals "Pile" = some (some (.ref C)))
    (aeH : PySem.W.nsIn K mainGlobals "NoHand" = some (some (.ref eH)))
    (aeS : PySem.W.nsIn K mainGlobals "NoSize" = some (some (.ref eS)))
    (aeF : PySem.W.nsIn K mainGlobals "Full" = some (some (.ref eF)))
    (aeB : PySem.W.nsIn K mainGlobals "NoBox" = some (some (.ref eB)))
    (aeL : PySem.W.nsIn K mainGlobals "NoSlot" = some (some (.ref eL)))
    (aI : PySem.W.findIn K (.ref C) "__init__" = some (some (.ref fI)))
    (iI : PySem.W.isFn K (.ref fI) = true)
    (lI : K.lookup fI = some ⟨ocI, odI, .func (PySem.W.fnOf "__init__" "Pile.__init__" (defArgs sInit) (defBody sInit) (defScope sInit) .none kVI dcI pmI anI cdI ctI), slI⟩)
    (cI : PySem.W.codeIn K cdI "Pile.__init__" = true)
    (kI : PySem.W.keepIn K (.ref fI) = true)
    (aM : PySem.W.findIn K (.ref C) "make" = some (some (.ref fM)))
    (iM : PySem.W.isFn K (.ref fM) = true)
    (lM : K.lookup fM = some ⟨ocM, odM, .func (PySem.W.fnOf "make" "Pile.make" (defArgs sMake) (defBody sMake) (defScope sMake) .none kVM dcM pmM anM cdM ctM), slM⟩)
    (cM : PySem.W.codeIn K cdM "Pile.make" = true)
    (kM : PySem.W.keepIn K (.ref fM) = true)
    (aU : PySem.W.findIn K (.ref C) "put" = some (some (.ref fU)))
    (iU : PySem.W.isFn K (.ref fU) = true)
    (lU : K.lookup fU = some ⟨ocU, odU, .func (PySem.W.fnOf "put" "Pile.put" (defArgs sPut) (defBody sPut) (defScope sPut) .none kVU dcU pmU anU cdU ctU), slU⟩)
    (cU : PySem.W.codeIn K cdU "Pile.put" = true)
    (kU : PySem.W.keepIn K (.ref fU) = true)
    (aE : PySem.W.findIn K (.ref C) "empty" = some (some (.ref fE)))
    (iE : PySem.W.isFn K (.ref fE) = true)
    (lE : K.lookup fE = some ⟨ocE, odE, .func (PySem.W.fnOf "empty" "Pile.empty" (defArgs sEmpty) (defBody sEmpty) (defScope sEmpty) .none kVE dcE pmE anE cdE ctE), slE⟩)
    (cE : PySem.W.codeIn K cdE "Pile.empty" = true)
    (kE : PySem.W.keepIn K (.ref fE) = true)
    (aQ : PySem.W.findIn K (.ref C) "take" = some (some (.ref fQ)))
    (iQ : PySem.W.isFn K (.ref fQ) = true)
    (lQ : K.lookup fQ = some ⟨ocQ, odQ, .func (PySem.W.fnOf "take" "Pile.take" (defArgs sTake) (defBody sTake) (defScope sTake) .none kVQ dcQ pmQ anQ cdQ ctQ), slQ⟩)
    (cQ : PySem.W.codeIn K cdQ "Pile.take" = true)
    (kQ : PySem.W.keepIn K (.ref fQ) = true)
    (aH : PySem.W.findIn K (.ref C) "holds" = some (some (.ref fH)))
    (iH : PySem.W.isFn K (.ref fH) = true)
    (lH : K.lookup fH = some ⟨ocH, odH, .func (PySem.W.fnOf "holds" "Pile.holds" (defArgs sHolds) (defBody sHolds) (defScope sHolds) .none kVH dcH pmH anH cdH ctH), slH⟩)
    (cH : PySem.W.codeIn K cdH "Pile.holds" = true)
    (kH : PySem.W.keepIn K (.ref fH) = true)
    (aT : PySem.W.findIn K (.ref C) "points" = some (some (.ref fT)))
    (iT : PySem.W.isFn K (.ref fT) = true)
    (lT : K.lookup fT = some ⟨ocT, odT, .func (PySem.W.fnOf "points" "Pile.points" (defArgs sPoints) (defBody sPoints) (defScope sPoints) .none kVT dcT pmT anT cdT ctT), slT⟩)
    (cT : PySem.W.codeIn K cdT "Pile.points" = true)
    (kT : PySem.W.keepIn K (.ref fT) = true)
    (aG : PySem.W.findIn K (.ref C) "weighs" = some (some (.ref fG)))
    (iG : PySem.W.isFn K (.ref fG) = true)
    (lG : K.lookup fG = some ⟨ocG, odG, .func (PySem.W.fnOf "weighs" "Pile.weighs" (defArgs sWeighs) (defBody sWeighs) (defScope sWeighs) .none kVG dcG pmG anG cdG ctG), slG⟩)
    (cG : PySem.W.codeIn K cdG "Pile.weighs" = true)
    (kG : PySem.W.keepIn K (.ref fG) = true)
    (aA : PySem.W.findIn K (.ref C) "alive" = some (some (.ref fA)))
    (iA : PySem.W.isFn K (.ref fA) = true)
    (lA : K.lookup fA = some ⟨ocA, odA, .func (PySem.W.fnOf "alive" "Pile.alive" (defArgs sAlive) (defBody sAlive) (defScope sAlive) .none kVA dcA pmA anA cdA ctA), slA⟩)
    (cA : PySem.W.codeIn K cdA "Pile.alive" = true)
    (kA : PySem.W.keepIn K (.ref fA) = true)
    (aS : PySem.W.findIn K (.ref C) "suspects" = some (some (.ref fS)))
    (iS : PySem.W.isFn K (.ref fS) = true)
    (lS : K.lookup fS = some ⟨ocS, odS, .func (PySem.W.fnOf "suspects" "Pile.suspects" (defArgs sSuspects) (defBody sSuspects) (defScope sSuspects) .none kVS dcS pmS anS cdS ctS), slS⟩)
    (cS : PySem.W.codeIn K cdS "Pile.suspects" = true)
    (kS : PySem.W.keepIn K (.ref fS) = true)
    (aX : PySem.W.findIn K (.ref C) "_box" = some (some (.ref fX)))
    (iX : PySem.W.isFn K (.ref fX) = true)
    (lX : K.lookup fX = some ⟨ocX, odX, .func (PySem.W.fnOf "_box" "Pile._box" (defArgs sBox) (defBody sBox) (defScope sBox) .none kVX dcX pmX anX cdX ctX), slX⟩)
    (cX : PySem.W.codeIn K cdX "Pile._box" = true)
    (kX : PySem.W.keepIn K (.ref fX) = true)
    (aY : PySem.W.findIn K (.ref C) "_slots_with" = some (some (.ref fY)))
    (iY : PySem.W.isFn K (.ref fY) = true)
    (lY : K.lookup fY = some ⟨ocY, odY, .func (PySem.W.fnOf "_slots_with" "Pile._slots_with" (defArgs sSlotsWith) (defBody sSlotsWith) (defScope sSlotsWith) .none kVY dcY pmY anY cdY ctY), slY⟩)
    (cY : PySem.W.codeIn K cdY "Pile._slots_with" = true)
    (kY : PySem.W.keepIn K (.ref fY) = true)
    (aP : PySem.W.findIn K (.ref C) "_point" = some (some (.ref fP)))
    (iP : PySem.W.isFn K (.ref fP) = true)
    (lP : K.lookup fP = some ⟨ocP, odP, .func (PySem.W.fnOf "_point" "Pile._point" (defArgs sPoint) (defBody sPoint) (defScope sPoint) .none kVP dcP pmP anP cdP ctP), slP⟩)
    (cP : PySem.W.codeIn K cdP "Pile._point" = true)
    (kP : PySem.W.keepIn K (.ref fP) = true)
    (aL : PySem.W.findIn K (.ref C) "_let_go" = some (some (.ref fL)))
    (iL : PySem.W.isFn K (.ref fL) = true)
    (lL : K.lookup fL = some ⟨ocL, odL, .func (PySem.W.fnOf "_let_go" "Pile._let_go" (defArgs sLetGo) (defBody sLetGo) (defScope sLetGo) .none kVL dcL pmL anL cdL ctL), slL⟩)
    (cL : PySem.W.codeIn K cdL "Pile._let_go" = true)
    (kL : PySem.W.keepIn K (.ref fL) = true)
    (aB : PySem.W.findIn K (.ref B) "__init__" = some (some (.ref fB)))
    (iB : PySem.W.isFn K (.ref fB) = true)
    (lB : K.lookup fB = some ⟨ocB, odB, .func (PySem.W.fnOf "__init__" "Box.__init__" (defArgs sBoxInit) (defBody sBoxInit) (defScope sBoxInit) .none kVB dcB pmB anB cdB ctB), slB⟩)
    (cB : PySem.W.codeIn K cdB "Box.__init__" = true)
    (kB : PySem.W.keepIn K (.ref fB) = true)
    (aK : PySem.W.nsIn K mainGlobals "check_hand" = some (some (.ref fK)))
    (lK : K.lookup fK = some ⟨ocK, odK, .func (PySem.W.fnOf "check_hand" "check_hand" (defArgs sCheck) (defBody sCheck) (defScope sCheck) .none kVK dcK pmK anK cdK ctK), slK⟩)
    (cK : PySem.W.codeIn K cdK "check_hand" = true)
    (kK : PySem.W.keepIn K (.ref fK) = true)
    (aW : PySem.W.nsIn K mainGlobals "_law_whole" = some (some (.ref fW)))
    (lW : K.lookup fW = some ⟨ocW, odW, .func (PySem.W.fnOf "_law_whole" "_law_whole" (defArgs sWhole) (defBody sWhole) (defScope sWhole) .none kVW dcW pmW anW cdW ctW), slW⟩)
    (cW : PySem.W.codeIn K cdW "_law_whole" = true)
    (kW : PySem.W.keepIn K (.ref fW) = true)
    (aN : PySem.W.nsIn K mainGlobals "_law_numbers" = some (some (.ref fN)))
    (lN : K.lookup fN = some ⟨ocN, odN, .func (PySem.W.fnOf "_law_numbers" "_law_numbers" (defArgs sNums) (defBody sNums) (defScope sNums) .none kVN dcN pmN anN cdN ctN), slN⟩)
    (cN : PySem.W.codeIn K cdN "_law_numbers" = true)
    (kN : PySem.W.keepIn K (.ref fN) = true)
    (aD : PySem.W.nsIn K mainGlobals "_law_cell_at" = some (some (.ref fD)))
    (lD : K.lookup fD = some ⟨ocD, odD, .func (PySem.W.fnOf "_law_cell_at" "_law_cell_at" (defArgs sCellAt) (defBody sCellAt) (defScope sCellAt) .none kVD dcD pmD anD cdD ctD), slD⟩)
    (cD : PySem.W.codeIn K cdD "_law_cell_at" = true)
    (kD : PySem.W.keepIn K (.ref fD) = true)
    (aJ : PySem.W.nsIn K mainGlobals "_law_done" = some (some (.ref fJ)))
    (lJ : K.lookup fJ = some ⟨ocJ, odJ, .func (PySem.W.fnOf "_law_done" "_law_done" (defArgs sDone) (defBody sDone) (defScope sDone) .none kVJ dcJ pmJ anJ cdJ ctJ), slJ⟩)
    (cJ : PySem.W.codeIn K cdJ "_law_done" = true)
    (kJ : PySem.W.keepIn K (.ref fJ) = true)
    (aV : PySem.W.nsIn K mainGlobals "_law_pointers" = some (some (.ref fV)))
    (lV : K.lookup fV = some ⟨ocV, odV, .func (PySem.W.fnOf "_law_pointers" "_law_pointers" (defArgs sPointers) (defBody sPointers) (defScope sPointers) .none kVV dcV pmV anV cdV ctV), slV⟩)
    (cV : PySem.W.codeIn K cdV "_law_pointers" = true)
    (kV : PySem.W.keepIn K (.ref fV) = true)
    (aO : PySem.W.nsIn K mainGlobals "_law_stands" = some (some (.ref fO)))
    (lO : K.lookup fO = some ⟨ocO, odO, .func (PySem.W.fnOf "_law_stands" "_law_stands" (defArgs sStands) (defBody sStands) (defScope sStands) .none kVO dcO pmO anO cdO ctO), slO⟩)
    (cO : PySem.W.codeIn K cdO "_law_stands" = true)
    (kO : PySem.W.keepIn K (.ref fO) = true)
    (aCS : PySem.W.nsIn K mainGlobals "check_slot" = some (some (.ref fCS)))
    (lCS : K.lookup fCS = some ⟨ocCS, odCS, .func (PySem.W.fnOf "check_slot" "check_slot" (defArgs sCheckSlot) (defBody sCheckSlot) (defScope sCheckSlot) .none kVCS dcCS pmCS anCS cdCS ctCS), slCS⟩)
    (cCS : PySem.W.codeIn K cdCS "check_slot" = true)
    (kCS : PySem.W.keepIn K (.ref fCS) = true)
    (aZ : PySem.W.nsIn K mainGlobals "law" = some (some (.ref fZ)))
    (lZ : K.lookup fZ = some ⟨ocZ, odZ, .func (PySem.W.fnOf "law" "law" (defArgs sLaw) (defBody sLaw) (defScope sLaw) .none kVZ dcZ pmZ anZ cdZ ctZ), slZ⟩)
    (cZ : PySem.W.codeIn K cdZ "law" = true)
    (kZ : PySem.W.keepIn K (.ref fZ) = true)
    (pgB : PySem.W.plainGet K B Str.empty = true)
    (hdB : PySem.W.hasDictIn K B = true)
    (poB : PySem.W.plainOver K B = true)
    (saB : PySem.W.findIn K (.ref B) "__setattr__" = some (some (.builtin "object.__setattr__")))
    (mkB : PySem.W.makesIn K B = true)
    (kcB : PySem.W.keepIn K (.ref B) = true)
    (nBslots : PySem.W.findIn K (.ref B) "slots" = some none)
    (nBweight : PySem.W.findIn K (.ref B) "weight" = some none)
    (nBsuspect : PySem.W.findIn K (.ref B) "suspect" = some none)
    (pgC : PySem.W.plainGet K C Str.empty = true)
    (hdC : PySem.W.hasDictIn K C = true)
    (poC : PySem.W.plainOver K C = true)
    (saC : PySem.W.findIn K (.ref C) "__setattr__" = some (some (.builtin "object.__setattr__")))
    (mkC : PySem.W.makesIn K C = true)
    (kcC : PySem.W.keepIn K (.ref C) = true)
    (nChands : PySem.W.findIn K (.ref C) "_hands" = some none)
    (nCboxes : PySem.W.findIn K (.ref C) "_boxes" = some none)
    (nCmade : PySem.W.findIn K (.ref C) "_made" = some none)
    (xeH : PySem.W.excIn K eH [.type "ValueError", .type "Exception", .type "BaseException", .type "object"] "ValueError.__new__" = true)
    (keeH : PySem.W.keepIn K (.ref eH) = true)
    (beH : PySem.W.subIn K (.ref eH) (.type "BaseException") = some true)
    (tyeH : PySem.W.typeIn K (.ref eH) = some (.type "type"))
    (xeS : PySem.W.excIn K eS [.type "ValueError", .type "Exception", .type "BaseException", .type "object"] "ValueError.__new__" = true)
    (keeS : PySem.W.keepIn K (.ref eS) = true)
    (beS : PySem.W.subIn K (.ref eS) (.type "BaseException") = some true)
    (tyeS : PySem.W.typeIn K (.ref eS) = some (.type "type"))
    (xeF : PySem.W.excIn K eF [.type "ValueError", .type "Exception", .type "BaseException", .type "object"] "ValueError.__new__" = true)
    (keeF : PySem.W.keepIn K (.ref eF) = true)
    (beF : PySem.W.subIn K (.ref eF) (.type "BaseException") = some true)
    (tyeF : PySem.W.typeIn K (.ref eF) = some (.type "type"))
    (xeB : PySem.W.excIn K eB [.type "ValueError", .type "Exception", .type "BaseException", .type "object"] "ValueError.__new__" = true)
    (keeB : PySem.W.keepIn K (.ref eB) = true)
    (beB : PySem.W.subIn K (.ref eB) (.type "BaseException") = some true)
    (tyeB : PySem.W.typeIn K (.ref eB) = some (.type "type"))
    (xeL : PySem.W.excIn K eL [.type "ValueError", .type "Exception", .type "BaseException", .type "object"] "ValueError.__new__" = true)
    (keeL : PySem.W.keepIn K (.ref eL) = true)
    (beL : PySem.W.subIn K (.ref eL) (.type "BaseException") = some true)
    (tyeL : PySem.W.typeIn K (.ref eL) = some (.type "type"))
    (iseL : PySem.W.isClsIn K eL = true)
    (sseL : PySem.W.subIn K (.ref eL) (.ref eL) = some true)
    (cnHANDS : PySem.W.nsIn K mainGlobals "HANDS" = some (some (.int 8 tHANDS)))
    (cnMOST_SLOTS : PySem.W.nsIn K mainGlobals "MOST_SLOTS" = some (some (.int 6 tMOST_SLOTS)))
    (cnMOST_ALIVE : PySem.W.nsIn K mainGlobals "MOST_ALIVE" = some (some (.int 60 tMOST_ALIVE)))
    (zisinstance : PySem.W.nsIn K mainGlobals "isinstance" = some none)
    (zint : PySem.W.nsIn K mainGlobals "int" = some none)
    (zbool : PySem.W.nsIn K mainGlobals "bool" = some none)
    (zlist : PySem.W.nsIn K mainGlobals "list" = some none)
    (zlen : PySem.W.nsIn K mainGlobals "len" = some none)
    (zrange : PySem.W.nsIn K mainGlobals "range" = some none)
    (zmin : PySem.W.nsIn K mainGlobals "min" = some none)
    (zsorted : PySem.W.nsIn K mainGlobals "sorted" = some none)
    (zset : PySem.W.nsIn K mainGlobals "set" = some none)
    : ∃ fd : FuncData, (∀ (s : Shared) (v : Value), BindsTo s fd ⟨[v], []⟩ [("_law_script", v)]) ∧ ∀ base : Heap, K.In base → base.Ns mainGlobals mg → FnOk l.prog w K mg base CX0 5 fa fd ["_law_script"] (spLaw K) := by
  have e := hfa.symm.trans (PySem.W.mg_of X G aZ)
  cases e
  have FI := fun_mk (st := sInit) lI cI kI
  have bI := FI.binds (ps := ["self"]) fun _ _ _ _ _ _ us hl => match us, hl with | [_], _ => rfl
  have FM := fun_mk (st := sMake) lM cM kM
  have bM := FM.binds (ps := ["self", "hand", "size"]) fun _ _ _ _ _ _ us hl => match us, hl with | [_, _, _], _ => rfl
  have FU := fun_mk (st := sPut) lU cU kU
  have bU := FU.binds (ps := ["self", "hand", "slot", "other"]) fun _ _ _ _ _ _ us hl => match us, hl with | [_, _, _, _], _ => rfl
  have FE := fun_mk (st := sEmpty) lE cE kE
  have bE := FE.binds (ps := ["self", "hand", "slot"]) fun _ _ _ _ _ _ us hl => match us, hl with | [_, _, _], _ => rfl
  have FQ := fun_mk (st := sTake) lQ cQ kQ
  have bQ := FQ.binds (ps := ["self", "hand", "other", "slot"]) fun _ _ _ _ _ _ us hl => match us, hl with | [_, _, _, _], _ => rfl
  have FH := fun_mk (st := sHolds) lH cH kH
  have bH := FH.binds (ps := ["self", "hand"]) fun _ _ _ _ _ _ us hl => match us, hl with | [_, _], _ => rfl
  have FT := fun_mk (st := sPoints) lT cT kT
  have bT := FT.binds (ps := ["self", "number"]) fun _ _ _ _ _ _ us hl => match us, hl with | [_, _], _ => rfl
  have FG := fun_mk (st := sWeighs) lG cG kG
  have bG := FG.binds (ps := ["self", "number"]) fun _ _ _ _ _ _ us hl => match us, hl with | [_, _], _ => rfl
  have FA := fun_mk (st := sAlive) lA cA kA
  have bA := FA.binds (ps := ["self"]) fun _ _ _ _ _ _ us hl => match us, hl with | [_], _ => rfl
  have FS := fun_mk (st := sSuspects) lS cS kS
  have bS := FS.binds (ps := ["self"]) fun _ _ _ _ _ _ us hl => match us, hl with | [_], _ => rfl
  have FX := fun_mk (st := sBox) lX cX kX
  have bX := FX.binds (ps := ["self", "number"]) fun _ _ _ _ _ _ us hl => match us, hl with | [_, _], _ => rfl
  have FY := fun_mk (st := sSlotsWith) lY cY kY
  have bY := FY.binds (ps := ["self", "hand", "slot"]) fun _ _ _ _ _ _ us hl => match us, hl with | [_, _, _], _ => rfl
  have FP := fun_mk (st := sPoint) lP cP kP
  have bP := FP.binds (ps := ["self", "pointers", "at", "number"]) fun _ _ _ _ _ _ us hl => match us, hl with | [_, _, _, _], _ => rfl
  have FL := fun_mk (st := sLetGo) lL cL kL
  have bL := FL.binds (ps := ["self", "pointer"]) fun _ _ _ _ _ _ us hl => match us, hl with | [_, _], _ => rfl
  have FB := fun_mk (st := sBoxInit) lB cB kB
  have bB := FB.binds (ps := ["self", "size"]) fun _ _ _ _ _ _ us hl => match us, hl with | [_, _], _ => rfl
  have FK := fun_mk (st := sCheck) lK cK kK
  have bK := FK.binds (ps := ["hand"]) fun _ _ _ _ _ _ us hl => match us, hl with | [_], _ => rfl
  have FW := fun_mk (st := sWhole) lW cW kW
  have bW := FW.binds (ps := ["_law_found"]) fun _ _ _ _ _ _ us hl => match us, hl with | [_], _ => rfl
  have FN := fun_mk (st := sNums) lN cN kN
  have bN := FN.binds (ps := ["_law_found", "_law_due"]) fun _ _ _ _ _ _ us hl => match us, hl with | [_, _], _ => rfl
  have FD := fun_mk (st := sCellAt) lD cD kD
  have bD := FD.binds (ps := ["_law_script", "_law_k"]) fun _ _ _ _ _ _ us hl => match us, hl with | [_, _], _ => rfl
  have FJ := fun_mk (st := sDone) lJ cJ kJ
  have bJ := FJ.binds (ps := ["_law_pile", "_law_deed"]) fun _ _ _ _ _ _ us hl => match us, hl with | [_, _], _ => rfl
  have FV := fun_mk (st := sPointers) lV cV kV
  have bV := FV.binds (ps := ["_law_hands", "_law_rooms", "_law_number"]) fun _ _ _ _ _ _ us hl => match us, hl with | [_, _, _], _ => rfl
  have FO := fun_mk (st := sStands) lO cO kO
  have bO := FO.binds (ps := ["_law_pile", "_law_hands", "_law_rooms"]) fun _ _ _ _ _ _ us hl => match us, hl with | [_, _, _], _ => rfl
  have FCS := fun_mk (st := sCheckSlot) lCS cCS kCS
  have bCS := FCS.binds (ps := ["slots", "slot"]) fun _ _ _ _ _ _ us hl => match us, hl with | [_, _], _ => rfl
  have FZ := fun_mk (st := sLaw) lZ cZ kZ
  have T : Txt K mg C B eH eS eF eB eL := ⟨⟨pgC, hdC, poC, saC⟩, nChands, nCboxes, nCmade, ⟨pgB, hdB, poB, saB⟩, nBslots, nBweight, nBsuspect, PySem.W.mg_of X G acC, PySem.W.mg_of X G acB, PySem.W.mg_none_of X G zlen, PySem.W.mg_none_of X G zlist, PySem.W.mg_none_of X G zsorted,
    ⟨_, PySem.W.mg_of X G cnHANDS⟩, ⟨_, PySem.W.mg_of X G cnMOST_SLOTS⟩, ⟨_, PySem.W.mg_of X G cnMOST_ALIVE⟩, ⟨PySem.W.mg_of X G aeH, xeH, keeH, beH, tyeH⟩, ⟨PySem.W.mg_of X G aeS, xeS, keeS, beS, tyeS⟩, ⟨PySem.W.mg_of X G aeF, xeF, keeF, beF, tyeF⟩, ⟨PySem.W.mg_of X G aeB, xeB, keeB, beB, tyeB⟩, ⟨PySem.W.mg_of X G aeL, xeL, keeL, beL, tyeL⟩⟩
  have TL : TxtL mg := ⟨PySem.W.mg_none_of X G zisinstance, PySem.W.mg_none_of X G zint, PySem.W.mg_none_of X G zbool, PySem.W.mg_none_of X G zlist, PySem.W.mg_none_of X G zlen, PySem.W.mg_none_of X G zrange, PySem.W.mg_none_of X G zmin, PySem.W.mg_none_of X G zsorted, PySem.W.mg_none_of X G zset⟩
  have D : Defs K mg C B fI fM fU fE fQ fH fT fG fA fS fX fY fP fL fB fK fW fN fD fJ fV fO fCS _ _ _ _ _ _ _ _ _ _ _ _ _ _ _ _ _ _ _ _ _ _ _ := ⟨FI, bI, ⟨mkC, aI, iI, kcC⟩, FM, bM, ⟨aM, iM, kM⟩, FU, bU, ⟨aU, iU, kU⟩, FE, bE, ⟨aE, iE, kE⟩, FQ, bQ, ⟨aQ, iQ, kQ⟩, FH, bH, ⟨aH, iH, kH⟩, FT, bT, ⟨aT, iT, kT⟩, FG, bG, ⟨aG, iG, kG⟩, FA, bA, ⟨aA, iA, kA⟩, FS, bS, ⟨aS, iS, kS⟩, FX, bX, ⟨aX, iX, kX⟩, FY, bY, ⟨aY, iY, kY⟩, FP, bP, ⟨aP, iP, kP⟩, FL, bL, ⟨aL, iL, kL⟩, FB, bB, ⟨mkB, aB, iB, kcB⟩, FK, bK, PySem.W.mg_of X G aK, FW, bW, PySem.W.mg_of X G aW, FN, bN, PySem.W.mg_of X G aN, FD, bD, PySem.W.mg_of X G aD, FJ, bJ, PySem.W.mg_of X G aJ, FV, bV, PySem.W.mg_of X G aV, FO, bO, PySem.W.mg_of X G aO, FCS, bCS, PySem.W.mg_of X G aCS⟩
  have TE : TxtE K eL := ⟨iseL, sseL⟩
  exact ⟨PySem.W.fnOf "law" "law" (defArgs sLaw) (defBody sLaw) (defScope sLaw) .none kVZ dcZ pmZ anZ cdZ ctZ, fun s v => .of_eq rfl, fun base _ _ => ok_law FZ T TL TE D⟩
theorem walk {l : PySem.W.OpenLaw} {q : Program} {loose : List Str} {XP : (Str → Option Value) → Heap → Prop} {YP : World → Heap → Prop} {d : DefRec} {K : Params → PySem.W.Frag} (hn : l.most = some 63) (hdf : d.params.defaults = [])
    (hY : ∀ (w : World) (h : Heap), YP w h → (K w.params).In h)
    (F : ∀ (w : World) (mg : Str → Option Value) (fa : Addr) (h : Heap), (K w.params).In h → h.Ns mainGlobals mg → mg d.name = some (.ref fa) →
      ∃ fd : FuncData, (∀ (s : Shared) (u : Value), BindsTo s fd ⟨[u], []⟩ [("_law_script", u)]) ∧ ∀ base : Heap, (K w.params).In base → base.Ns mainGlobals mg → FnOk l.prog w (K w.params) mg base CX0 5 fa fd ["_law_script"] (spLaw (K w.params))) :
    PySem.W.WalkO q loose XP YP l.row.toRowW d [] (fun f vs => PySem.call f vs) :=
  L2.walk_of (n := 63) (k := 5) (x := "_law_script") (CX := fun _ => CX0) (sp := fun w => spLaw (K w.params)) hn (by decide) hdf ⟨rfl, by decide, by decide⟩ hY F (fun _ _ a ns hl _ hS => ⟨a, ns, rfl, hS, hl, fun _ => rfl⟩) fun _ _ _ _ _ z => z
end BP
open PySem PySem.W PyProof.Rows
set_option maxRecDepth 100000 in
set_option maxHeartbeats 0 in
theorem PySem.Challenge.cw_boxpile_k03_slots_point_holds : PySem.Challenge.rw_boxpile_k03_slots_point.Holds := by
  w_on; o_law; k_head; (case hw => w_witness2)
  k_fill
  refine BP.walk (l := PySem.Challenge.rw_boxpile_k03_slots_point) rfl rfl (fun w h Y => PySem.W.kIn_of Y) ?F
  case F =>
    intro w mg fa h KX G hmg
    refine' BP.all_mk KX G hmg ?acB ?acC ?aeH ?aeS ?aeF ?aeB ?aeL ?aI ?iI ?lI ?cI ?kI ?aM ?iM ?lM ?cM ?kM ?aU ?iU ?lU ?cU ?kU ?aE ?iE ?lE ?cE ?kE ?aQ ?iQ ?lQ ?cQ ?kQ ?aH ?iH ?lH ?cH ?kH ?aT ?iT ?lT ?cT ?kT ?aG ?iG ?lG ?cG ?kG ?aA ?iA ?lA ?cA ?kA ?aS ?iS ?lS ?cS ?kS ?aX ?iX ?lX ?cX ?kX ?aY ?iY ?lY ?cY ?kY ?aP ?iP ?lP ?cP ?kP ?aL ?iL ?lL ?cL ?kL ?aB ?iB ?lB ?cB ?kB ?aK ?lK ?cK ?kK ?aW ?lW ?cW ?kW ?aN ?lN ?cN ?kN ?aD ?lD ?cD ?kD ?aJ ?lJ ?cJ ?kJ ?aV ?lV ?cV ?kV ?aO ?lO ?cO ?kO ?aCS ?lCS ?cCS ?kCS ?aZ ?lZ ?cZ ?kZ ?pgB ?hdB ?poB ?saB ?mkB ?kcB ?nBslots ?nBweight ?nBsuspect ?pgC ?hdC ?poC ?saC ?mkC ?kcC ?nChands ?nCboxes ?nCmade ?xeH ?keeH ?beH ?tyeH ?xeS ?keeS ?beS ?tyeS ?xeF ?keeF ?beF ?tyeF ?xeB ?keeB ?beB ?tyeB ?xeL ?keeL ?beL ?tyeL ?iseL ?sseL ?cnHANDS ?cnMOST_SLOTS ?cnMOST_ALIVE ?zisinstance ?zint ?zbool ?zlist ?zlen ?zrange ?zmin ?zsorted ?zset
    (case acB => k_is)
    (case acC => k_is)
    (case aeH => k_is)
    (case aeS => k_is)
    (case aeF => k_is)
    (case aeB => k_is)
    (case aeL => k_is)
    (case aI => k_is)
    (case iI => k_is)
    (case lI => k_is)
    (case cI => k_is)
    (case kI => k_is)
    (case aM => k_is)
    (case iM => k_is)
    (case lM => k_is)
    (case cM => k_is)
    (case kM => k_is)
    (case aU => k_is)
    (case iU => k_is)
    (case lU => k_is)
    (case cU => k_is)
    (case kU => k_is)
    (case aE => k_is)
    (case iE => k_is)
    (case lE => k_is)
    (case cE => k_is)
    (case kE => k_is)
    (case aQ => k_is)
    (case iQ => k_is)
    (case lQ => k_is)
    (case cQ => k_is)
    (case kQ => k_is)
    (case aH => k_is)
    (case iH => k_is)
    (case lH => k_is)
    (case cH => k_is)
    (case kH => k_is)
    (case aT => k_is)
    (case iT => k_is)
    (case lT => k_is)
    (case cT => k_is)
    (case kT => k_is)
    (case aG => k_is)
    (case iG => k_is)
    (case lG => k_is)
    (case cG => k_is)
    (case kG => k_is)
    (case aA => k_is)
    (case iA => k_is)
    (case lA => k_is)
    (case cA => k_is)
    (case kA => k_is)
    (case aS => k_is)
    (case iS => k_is)
    (case lS => k_is)
    (case cS => k_is)
    (case kS => k_is)
    (case aX => k_is)
    (case iX => k_is)
    (case lX => k_is)
    (case cX => k_is)
    (case kX => k_is)
    (case aY => k_is)
    (case iY => k_is)
    (case lY => k_is)
    (case cY => k_is)
    (case kY => k_is)
    (case aP => k_is)
    (case iP => k_is)
    (case lP => k_is)
    (case cP => k_is)
    (case kP => k_is)
    (case aL => k_is)
    (case iL => k_is)
    (case lL => k_is)
    (case cL => k_is)
    (case kL => k_is)
    (case aB => k_is)
    (case iB => k_is)
    (case lB => k_is)
    (case cB => k_is)
    (case kB => k_is)
    (case aK => k_is)
    (case lK => k_is)
    (case cK => k_is)
    (case kK => k_is)
    (case aW => k_is)
    (case lW => k_is)
    (case cW => k_is)
    (case kW => k_is)
    (case aN => k_is)
    (case lN => k_is)
    (case cN => k_is)
    (case kN => k_is)
    (case aD => k_is)
    (case lD => k_is)
    (case cD => k_is)
    (case kD => k_is)
    (case aJ => k_is)
    (case lJ => k_is)
    (case cJ => k_is)
    (case kJ => k_is)
    (case aV => k_is)
    (case lV => k_is)
    (case cV => k_is)
    (case kV => k_is)
    (case aO => k_is)
    (case lO => k_is)
    (case cO => k_is)
    (case kO => k_is)
    (case aCS => k_is)
    (case lCS => k_is)
    (case cCS => k_is)
    (case kCS => k_is)
    (case aZ => k_is)
    (case lZ => k_is)
    (case cZ => k_is)
    (case kZ => k_is)
    (case pgB => k_is)
    (case hdB => k_is)
    (case poB => k_is)
    (case saB => k_is)
    (case mkB => k_is)
    (case kcB => k_is)
    (case nBslots => k_is)
    (case nBweight => k_is)
    (case nBsuspect => k_is)
    (case pgC => k_is)
    (case hdC => k_is)
    (case poC => k_is)
    (case saC => k_is)
    (case mkC => k_is)
    (case kcC => k_is)
    (case nChands => k_is)
    (case nCboxes => k_is)
    (case nCmade => k_is)
    (case xeH => first | k_is | k_exc)
    (case keeH => k_is)
    (case beH => k_is)
    (case tyeH => k_is)
    (case xeS => first | k_is | k_exc)
    (case keeS => k_is)
    (case beS => k_is)
    (case tyeS => k_is)
    (case xeF => first | k_is | k_exc)
    (case keeF => k_is)
    (case beF => k_is)
    (case tyeF => k_is)
    (case xeB => first | k_is | k_exc)
    (case keeB => k_is)
    (case beB => k_is)
    (case tyeB => k_is)
    (case xeL => first | k_is | k_exc)
    (case keeL => k_is)
    (case beL => k_is)
    (case tyeL => k_is)
    (case iseL => k_is)
    (case sseL => first | rfl | k_is)
    (case cnHANDS => k_is)
    (case cnMOST_SLOTS => k_is)
    (case cnMOST_ALIVE => k_is)
    (case zisinstance => k_is)
    (case zint => k_is)
    (case zbool => k_is)
    (case zlist => k_is)
    (case zlen => k_is)
    (case zrange => k_is)
    (case zmin => k_is)
    (case zsorted => k_is)
    (case zset => k_is)
