import PyProof.Rows.All
import Wide.All
import OpenK.AllK
import Wide.FinOn
import HandS.ForMost
import HandS.ForExc
import HandS.More
import HandS.SetFor
import HandS.Strs
import HandS.IsInst
import PySem.Challenge.RW_boxpile_k02_hands_hold
set_option Elab.async false
set_option linter.all false
set_option maxRecDepth 100000
set_option maxHeartbeats 4000000
/-! The pile as plain data: hands, boxes by number, the row of what waits to be let go. Own work; core Lean alone. -/
namespace BP

structure Bx where
  slots : List (Option Int)
  wt : Int
  sus : Bool
structure Pl where
  hands : List (Option Int)
  boxes : List (Int × Bx)
  made : Int

/-! ### boxes by number -/
def get (bs : List (Int × Bx)) (n : Int) : Option Bx := (bs.find? fun e => decide (e.1 = n)).map (·.2)
def chg (bs : List (Int × Bx)) (n : Int) (f : Bx → Bx) : List (Int × Bx) := bs.map fun e => if e.1 = n then (e.1, f e.2) else e
def rm (bs : List (Int × Bx)) (n : Int) : List (Int × Bx) := bs.filter fun e => decide (e.1 ≠ n)
def keys (bs : List (Int × Bx)) : List Int := bs.map (·.1)

theorem get_nil (n : Int) : get [] n = none := rfl
theorem get_cons (e : Int × Bx) (bs : List (Int × Bx)) (n : Int) : get (e :: bs) n = if e.1 = n then some e.2 else get bs n := by
  unfold get
  rw [List.find?_cons]
  by_cases h : e.1 = n
  · simp [h]
  · simp [h]
theorem get_chg (n m : Int) (f : Bx → Bx) : ∀ bs, get (chg bs n f) m = (get bs m).map fun b => if m = n then f b else b
  | [] => rfl
  | e :: bs => by
    have ih := get_chg n m f bs
    have e1 : chg (e :: bs) n f = (if e.1 = n then (e.1, f e.2) else e) :: chg bs n f := rfl
    rw [e1, get_cons, get_cons, ih]
    by_cases h : e.1 = n
    · rw [if_pos h]
      by_cases h2 : e.1 = m
      · have : m = n := h2.symm.trans h
        simp [h2, this]
      · simp [h2]
    · rw [if_neg h]
      by_cases h2 : e.1 = m
      · have : ¬ m = n := fun q => h (h2.trans q)
        simp [h2, this]
      · simp [h2]
theorem get_rm (n m : Int) : ∀ bs, get (rm bs n) m = if m = n then none else get bs m
  | [] => by simp [rm, get]
  | e :: bs => by
    have ih := get_rm n m bs
    by_cases h : e.1 = n
    · have e1 : rm (e :: bs) n = rm bs n := by unfold rm; simp [List.filter_cons, h]
      rw [e1, ih, get_cons]
      by_cases h2 : m = n
      · simp [h2]
      · have : ¬ e.1 = m := fun q => h2 (q.symm.trans h)
        simp [h2, this]
    · have e1 : rm (e :: bs) n = e :: rm bs n := by unfold rm; simp [List.filter_cons, h]
      rw [e1, get_cons, get_cons, ih]
      by_cases h2 : e.1 = m
      · have : ¬ m = n := fun q => h (h2.trans q)
        simp [h2, this]
      · simp [h2]
theorem get_snoc (n m : Int) (b : Bx) : ∀ bs, get (bs ++ [(n, b)]) m = (match get bs m with | some x => some x | none => if n = m then some b else none)
  | [] => by simp [get_cons, get_nil]
  | e :: bs => by
    have ih := get_snoc n m b bs
    rw [List.cons_append, get_cons, get_cons, ih]
    by_cases h2 : e.1 = m
    · simp [h2]
    · simp [h2]
theorem keys_chg (n : Int) (f : Bx → Bx) : ∀ bs, keys (chg bs n f) = keys bs
  | [] => rfl
  | e :: bs => by
    have ih := keys_chg n f bs
    have e1 : keys (chg (e :: bs) n f) = (if e.1 = n then (e.1, f e.2) else e).1 :: keys (chg bs n f) := rfl
    rw [e1, ih]
    by_cases h : e.1 = n <;> simp [h, keys]
theorem keys_rm (n : Int) (bs : List (Int × Bx)) : keys (rm bs n) = (keys bs).filter fun k => decide (k ≠ n) := by
  unfold keys rm
  rw [List.filter_map]
  rfl
theorem len_chg (n : Int) (f : Bx → Bx) (bs : List (Int × Bx)) : (chg bs n f).length = bs.length := List.length_map _
theorem len_rm (n : Int) (bs : List (Int × Bx)) : (rm bs n).length ≤ bs.length := List.length_filter_le _ _
theorem get_keys {bs : List (Int × Bx)} {n : Int} : (∃ b, get bs n = some b) ↔ n ∈ keys bs := by
  induction bs with
  | nil => simp [get_nil, keys]
  | cons e bs ih =>
    rw [get_cons]
    by_cases h : e.1 = n
    · simp [h, keys]
    · have : n ≠ e.1 := fun q => h q.symm
      simp only [if_neg h, ih]
      simp [keys, this]
theorem get_none {bs : List (Int × Bx)} {n : Int} : get bs n = none ↔ n ∉ keys bs := by
  rw [← get_keys]
  cases get bs n <;> simp
theorem get_mem {bs : List (Int × Bx)} {n : Int} {b : Bx} (h : get bs n = some b) : (n, b) ∈ bs := by
  induction bs with
  | nil => simp [get_nil] at h
  | cons e bs ih =>
    rw [get_cons] at h
    by_cases h1 : e.1 = n
    · rw [if_pos h1] at h
      have : e = (n, b) := by
        cases e
        simp at h1 h
        simp [h1, h]
      simp [this]
    · rw [if_neg h1] at h
      exact List.mem_cons_of_mem _ (ih h)
theorem mem_get {bs : List (Int × Bx)} {n : Int} {b : Bx} (hn : (keys bs).Nodup) (h : (n, b) ∈ bs) : get bs n = some b := by
  induction bs with
  | nil => simp at h
  | cons e bs ih =>
    rw [get_cons]
    have hn' : e.1 ∉ keys bs ∧ (keys bs).Nodup := by simpa [keys] using hn
    rcases List.mem_cons.mp h with h | h
    · subst h
      simp
    · have : ¬ e.1 = n := fun q => hn'.1 (by rw [q]; exact List.mem_map.mpr ⟨_, h, rfl⟩)
      rw [if_neg this]
      exact ih hn'.2 h
theorem nodup_lt {l : List Int} (h : l.Pairwise (· < ·)) : l.Nodup := h.imp fun h => Int.ne_of_lt h

/-! ### pointers counted -/
def cnt (l : List (Option Int)) (n : Int) : Nat := l.count (some n)
def one (x : Option Int) (n : Int) : Nat := if x = some n then 1 else 0
def scnt (bs : List (Int × Bx)) (n : Int) : Nat := (bs.map fun e => cnt e.2.slots n).sum
theorem cnt_nil (n : Int) : cnt [] n = 0 := rfl
theorem cnt_cons (x : Option Int) (l : List (Option Int)) (n : Int) : cnt (x :: l) n = one x n + cnt l n := by
  unfold cnt one
  rw [List.count_cons]
  by_cases h : x = some n
  · simp [h]; omega
  · simp [h]
theorem cnt_append (a b : List (Option Int)) (n : Int) : cnt (a ++ b) n = cnt a n + cnt b n := List.count_append
theorem cnt_set : ∀ {l : List (Option Int)} {i : Nat} {o : Option Int} (x : Option Int) (n : Int), l[i]? = some o → cnt (l.set i x) n + one o n = cnt l n + one x n
  | [], i, o, x, n, h => by simp at h
  | y :: l, 0, o, x, n, h => by
    have : y = o := by simpa using h
    subst this
    rw [List.set_cons_zero, cnt_cons, cnt_cons]
    omega
  | y :: l, i + 1, o, x, n, h => by
    have ih := cnt_set x n (show l[i]? = some o by simpa using h)
    rw [List.set_cons_succ, cnt_cons, cnt_cons]
    omega
theorem cnt_pos {l : List (Option Int)} {n : Int} : 0 < cnt l n ↔ some n ∈ l := by
  unfold cnt
  exact List.count_pos_iff
theorem cnt_none : ∀ (k : Nat) (n : Int), cnt (List.replicate k none) n = 0
  | 0, n => rfl
  | k + 1, n => by
    rw [List.replicate_succ, cnt_cons, cnt_none k n]
    simp [one]
theorem scnt_nil (n : Int) : scnt [] n = 0 := rfl
theorem scnt_cons (e : Int × Bx) (bs : List (Int × Bx)) (n : Int) : scnt (e :: bs) n = cnt e.2.slots n + scnt bs n := by simp [scnt]
theorem scnt_append (a b : List (Int × Bx)) (n : Int) : scnt (a ++ b) n = scnt a n + scnt b n := by simp [scnt]
theorem scnt_chg_same {k : Int} {f : Bx → Bx} (hf : ∀ b, (f b).slots = b.slots) (n : Int) : ∀ bs, scnt (chg bs k f) n = scnt bs n
  | [] => rfl
  | e :: bs => by
    have ih := scnt_chg_same (k := k) hf n bs
    have e1 : chg (e :: bs) k f = (if e.1 = k then (e.1, f e.2) else e) :: chg bs k f := rfl
    rw [e1, scnt_cons, scnt_cons, ih]
    by_cases h : e.1 = k
    · simp [h, hf]
    · simp [h]
theorem chg_no {k : Int} {f : Bx → Bx} : ∀ {bs : List (Int × Bx)}, k ∉ keys bs → chg bs k f = bs
  | [], _ => rfl
  | e :: bs, h => by
    have h' : k ≠ e.1 ∧ k ∉ keys bs := by simpa [keys] using h
    have e1 : chg (e :: bs) k f = (if e.1 = k then (e.1, f e.2) else e) :: chg bs k f := rfl
    rw [e1, chg_no h'.2, if_neg (fun q => h'.1 q.symm)]
theorem rm_no {k : Int} : ∀ {bs : List (Int × Bx)}, k ∉ keys bs → rm bs k = bs
  | [], _ => rfl
  | e :: bs, h => by
    have h' : k ≠ e.1 ∧ k ∉ keys bs := by simpa [keys] using h
    have e1 : rm (e :: bs) k = e :: rm bs k := by
      unfold rm
      have : ¬ e.1 = k := fun q => h'.1 q.symm
      simp [List.filter_cons, this]
    rw [e1, rm_no h'.2]
theorem scnt_chg {k : Int} {f : Bx → Bx} {b : Bx} (n : Int) : ∀ {bs : List (Int × Bx)}, (keys bs).Nodup → get bs k = some b → scnt (chg bs k f) n + cnt b.slots n = scnt bs n + cnt (f b).slots n
  | [], _, h => by simp [get_nil] at h
  | e :: bs, hn, h => by
    have hn' : e.1 ∉ keys bs ∧ (keys bs).Nodup := by simpa [keys] using hn
    have e1 : chg (e :: bs) k f = (if e.1 = k then (e.1, f e.2) else e) :: chg bs k f := rfl
    rw [get_cons] at h
    rw [e1, scnt_cons, scnt_cons]
    by_cases h1 : e.1 = k
    · rw [if_pos h1] at h
      have : e.2 = b := Option.some.inj h
      rw [if_pos h1, chg_no (by rw [← h1]; exact hn'.1), this]
      show cnt (f b).slots n + _ + _ = _
      omega
    · rw [if_neg h1] at h
      have ih := scnt_chg (f := f) n hn'.2 h
      rw [if_neg h1]
      omega
theorem scnt_rm {k : Int} {b : Bx} (n : Int) : ∀ {bs : List (Int × Bx)}, (keys bs).Nodup → get bs k = some b → scnt (rm bs k) n + cnt b.slots n = scnt bs n
  | [], _, h => by simp [get_nil] at h
  | e :: bs, hn, h => by
    have hn' : e.1 ∉ keys bs ∧ (keys bs).Nodup := by simpa [keys] using hn
    rw [get_cons] at h
    rw [scnt_cons]
    by_cases h1 : e.1 = k
    · rw [if_pos h1] at h
      have : e.2 = b := Option.some.inj h
      have e1 : rm (e :: bs) k = rm bs k := by unfold rm; simp [List.filter_cons, h1]
      rw [e1, rm_no (by rw [← h1]; exact hn'.1), this]
      omega
    · rw [if_neg h1] at h
      have ih := scnt_rm n hn'.2 h
      have e1 : rm (e :: bs) k = e :: rm bs k := by unfold rm; simp [List.filter_cons, h1]
      rw [e1, scnt_cons]
      omega
theorem scnt_le {bs : List (Int × Bx)} {k : Int} {b : Bx} (n : Int) (h : get bs k = some b) : cnt b.slots n ≤ scnt bs n := by
  induction bs with
  | nil => simp [get_nil] at h
  | cons e bs ih =>
    rw [get_cons] at h
    rw [scnt_cons]
    by_cases h1 : e.1 = k
    · rw [if_pos h1] at h
      have : e.2 = b := Option.some.inj h
      rw [this]
      omega
    · rw [if_neg h1] at h
      have := ih h
      omega

/-! ### what a step of letting go does -/
def room (bs : List (Int × Bx)) : Nat := (bs.map fun e => e.2.slots.length).sum
theorem room_cons (e : Int × Bx) (bs : List (Int × Bx)) : room (e :: bs) = e.2.slots.length + room bs := by simp [room]
theorem room_chg {k : Int} {f : Bx → Bx} (hf : ∀ b, (f b).slots.length = b.slots.length) : ∀ bs, room (chg bs k f) = room bs
  | [] => rfl
  | e :: bs => by
    have ih := room_chg (k := k) hf bs
    have e1 : chg (e :: bs) k f = (if e.1 = k then (e.1, f e.2) else e) :: chg bs k f := rfl
    rw [e1, room_cons, room_cons, ih]
    by_cases h : e.1 = k
    · simp [h, hf]
    · simp [h]
theorem room_rm {k : Int} {b : Bx} : ∀ {bs : List (Int × Bx)}, (keys bs).Nodup → get bs k = some b → room (rm bs k) + b.slots.length = room bs
  | [], _, h => by simp [get_nil] at h
  | e :: bs, hn, h => by
    have hn' : e.1 ∉ keys bs ∧ (keys bs).Nodup := by simpa [keys] using hn
    rw [get_cons] at h
    rw [room_cons]
    by_cases h1 : e.1 = k
    · rw [if_pos h1] at h
      have : e.2 = b := Option.some.inj h
      have e1 : rm (e :: bs) k = rm bs k := by unfold rm; simp [List.filter_cons, h1]
      rw [e1, rm_no (by rw [← h1]; exact hn'.1), this]
      omega
    · rw [if_neg h1] at h
      have ih := room_rm hn'.2 h
      have e1 : rm (e :: bs) k = e :: rm bs k := by unfold rm; simp [List.filter_cons, h1]
      rw [e1, room_cons]
      omega
theorem room_le {bs : List (Int × Bx)} (h : ∀ n b, get bs n = some b → b.slots.length ≤ 6) (hn : (keys bs).Nodup) : room bs ≤ 6 * bs.length := by
  have h' : ∀ e ∈ bs, e.2.slots.length ≤ 6 := fun e he => h e.1 e.2 (mem_get hn he)
  clear h hn
  induction bs with
  | nil => simp [room]
  | cons e bs ih =>
    rw [room_cons, List.length_cons]
    have := ih fun e he => h' e (List.mem_cons_of_mem _ he)
    have := h' e List.mem_cons_self
    omega

def low (b : Bx) : Bx := { b with wt := b.wt - 1, sus := true }
def bump (b : Bx) : Bx := { b with wt := b.wt + 1 }
/-- the first of the row is let go: the boxes behind it, what waits behind it, what is freed by it -/
def fall (bs : List (Int × Bx)) (w : List (Option Int)) : Option Int → List (Int × Bx) × List (Option Int) × List Int
  | none => (bs, w, [])
  | some n => match get bs n with
    | none => (bs, w, [])
    | some b => if b.wt = 1 then (rm bs n, w ++ b.slots, [n]) else (chg bs n low, w, [])
def go : Nat → List (Int × Bx) → List (Option Int) → List (Int × Bx) × List Int
  | 0, bs, _ => (bs, [])
  | _ + 1, bs, [] => (bs, [])
  | m + 1, bs, x :: w => ((go m (fall bs w x).1 (fall bs w x).2.1).1, (fall bs w x).2.2 ++ (go m (fall bs w x).1 (fall bs w x).2.1).2)
/-- all of the row is let go -/
def run (bs : List (Int × Bx)) (w : List (Option Int)) : List (Int × Bx) × List Int := go (w.length + room bs) bs w

/-- weights are right, with the pointers of the row w counted too -/
structure Wf (P : Pl) (w : List (Option Int)) : Prop where
  hl : P.hands.length = 8
  ks : (keys P.boxes).Pairwise (· < ·)
  lo : ∀ n, n ∈ keys P.boxes → 0 ≤ n ∧ n < P.made
  few : P.boxes.length ≤ 60
  sl : ∀ n b, get P.boxes n = some b → b.slots.length ≤ 6
  wt : ∀ n b, get P.boxes n = some b → b.wt = ((cnt P.hands n + scnt P.boxes n + cnt w n : Nat) : Int) ∧ 1 ≤ b.wt
  cl : ∀ n, 0 < cnt P.hands n + scnt P.boxes n + cnt w n → ∃ b, get P.boxes n = some b
  m0 : 0 ≤ P.made
theorem Wf.nd {P : Pl} {w : List (Option Int)} (h : Wf P w) : (keys P.boxes).Nodup := nodup_lt h.ks

/-- one step keeps the weights right; the measure falls by one -/
theorem fall_ok {P : Pl} {x : Option Int} {w : List (Option Int)} (h : Wf P (x :: w)) :
    Wf { P with boxes := (fall P.boxes w x).1 } (fall P.boxes w x).2.1 ∧ (fall P.boxes w x).2.1.length + room (fall P.boxes w x).1 = w.length + room P.boxes := by
  cases x with
  | none =>
    have c0 : ∀ n, cnt (none :: w) n = cnt w n := fun n => by rw [cnt_cons]; simp [one]
    refine ⟨⟨h.hl, h.ks, h.lo, h.few, h.sl, fun n b e => ?_, fun n e => ?_, h.m0⟩, rfl⟩
    · have := h.wt n b e
      rw [c0] at this
      exact this
    · exact h.cl n (by rw [c0]; exact e)
  | some k =>
    have c0 : ∀ n, cnt (some k :: w) n = one (some k) n + cnt w n := fun n => cnt_cons _ _ _
    obtain ⟨b, hb⟩ := h.cl k (by rw [c0]; simp [one]; omega)
    obtain ⟨wb, w1⟩ := h.wt k b hb
    have nd := h.nd
    by_cases hw : b.wt = 1
    · have ef : fall P.boxes w (some k) = (rm P.boxes k, w ++ b.slots, [k]) := by
        show (match get P.boxes k with | none => _ | some b => _) = _
        rw [hb]
        show (if b.wt = 1 then _ else _) = _
        rw [if_pos hw]
      rw [ef]
      have o1 : one (some k) k = 1 := by simp [one]
      have z : cnt P.hands k + scnt P.boxes k + cnt w k = 0 := by
        rw [hw, c0, o1] at wb
        omega
      have sc : ∀ n, scnt (rm P.boxes k) n + cnt b.slots n = scnt P.boxes n := fun n => scnt_rm n nd hb
      refine ⟨⟨h.hl, ?_, fun n hn => ?_, Nat.le_trans (len_rm _ _) h.few, fun n c e => ?_, fun n c e => ?_, fun n e => ?_, h.m0⟩, ?_⟩
      · show (keys (rm P.boxes k)).Pairwise _
        rw [keys_rm]
        exact h.ks.filter _
      · have hn' : n ∈ keys (rm P.boxes k) := hn
        rw [keys_rm] at hn'
        exact h.lo n (List.mem_filter.mp hn').1
      · have e' : get (rm P.boxes k) n = some c := e
        rw [get_rm] at e'
        by_cases q : n = k
        · rw [if_pos q] at e'; cases e'
        · rw [if_neg q] at e'
          exact h.sl n c e'
      · have e' : get (rm P.boxes k) n = some c := e
        rw [get_rm] at e'
        by_cases q : n = k
        · rw [if_pos q] at e'; cases e'
        · rw [if_neg q] at e'
          obtain ⟨w2, w3⟩ := h.wt n c e'
          refine ⟨?_, w3⟩
          have := sc n
          show c.wt = ((cnt P.hands n + scnt (rm P.boxes k) n + cnt (w ++ b.slots) n : Nat) : Int)
          have o0 : one (some k) n = 0 := by
            unfold one
            rw [if_neg (fun q2 => q (Option.some.inj q2).symm)]
          rw [c0, o0] at w2
          rw [cnt_append, w2]
          omega
      · have e' : 0 < cnt P.hands n + scnt (rm P.boxes k) n + cnt (w ++ b.slots) n := e
        rw [cnt_append] at e'
        have := sc n
        show ∃ b, get (rm P.boxes k) n = some b
        rw [get_rm]
        by_cases q : n = k
        · subst q
          omega
        · rw [if_neg q]
          exact h.cl n (by rw [c0]; omega)
      · show (w ++ b.slots).length + room (rm P.boxes k) = _
        rw [List.length_append]
        have := room_rm nd hb
        omega
    · have ef : fall P.boxes w (some k) = (chg P.boxes k low, w, []) := by
        show (match get P.boxes k with | none => _ | some b => _) = _
        rw [hb]
        show (if b.wt = 1 then _ else _) = _
        rw [if_neg hw]
      rw [ef]
      have sc : ∀ n, scnt (chg P.boxes k low) n = scnt P.boxes n := fun n => scnt_chg_same (f := low) (fun _ => rfl) n _
      refine ⟨⟨h.hl, ?_, fun n hn => ?_, ?_, fun n c e => ?_, fun n c e => ?_, fun n e => ?_, h.m0⟩, ?_⟩
      · show (keys (chg P.boxes k low)).Pairwise _
        rw [keys_chg]
        exact h.ks
      · have hn' : n ∈ keys (chg P.boxes k low) := hn
        rw [keys_chg] at hn'
        exact h.lo n hn'
      · show (chg P.boxes k low).length ≤ 60
        rw [len_chg]
        exact h.few
      · have e' : get (chg P.boxes k low) n = some c := e
        rw [get_chg] at e'
        cases g : get P.boxes n with
        | none => rw [g] at e'; cases e'
        | some d =>
          rw [g] at e'
          have e2 : (if n = k then low d else d) = c := Option.some.inj e'
          subst e2
          have := h.sl n d g
          by_cases q : n = k
          · rw [if_pos q]; exact this
          · rw [if_neg q]; exact this
      · have e' : get (chg P.boxes k low) n = some c := e
        rw [get_chg] at e'
        cases g : get P.boxes n with
        | none => rw [g] at e'; cases e'
        | some d =>
          rw [g] at e'
          have e2 : (if n = k then low d else d) = c := Option.some.inj e'
          subst e2
          obtain ⟨w2, w3⟩ := h.wt n d g
          show (if n = k then low d else d).wt = ((cnt P.hands n + scnt (chg P.boxes k low) n + cnt w n : Nat) : Int) ∧ _
          rw [sc n]
          by_cases q : n = k
          · subst q
            rw [if_pos rfl]
            have : d = b := Option.some.inj (g.symm.trans hb)
            subst this
            show d.wt - 1 = _ ∧ 1 ≤ d.wt - 1
            have o1 : one (some n) n = 1 := by simp [one]
            rw [c0, o1] at w2
            refine ⟨by omega, by omega⟩
          · rw [if_neg q]
            have o0 : one (some k) n = 0 := by
              unfold one
              rw [if_neg (fun q2 => q (Option.some.inj q2).symm)]
            rw [c0, o0] at w2
            exact ⟨by omega, w3⟩
      · have e' : 0 < cnt P.hands n + scnt (chg P.boxes k low) n + cnt w n := e
        rw [sc] at e'
        obtain ⟨c, hc⟩ := h.cl n (by rw [c0]; omega)
        show ∃ b, get (chg P.boxes k low) n = some b
        rw [get_chg, hc]
        exact ⟨_, rfl⟩
      · show w.length + room (chg P.boxes k low) = _
        rw [room_chg (f := low) (fun _ => rfl)]
theorem go_ok : ∀ {m : Nat} {P : Pl} {w : List (Option Int)}, Wf P w → w.length + room P.boxes = m → Wf { P with boxes := (go m P.boxes w).1 } []
  | 0, P, w, h, e => by
    have : w = [] := List.eq_nil_of_length_eq_zero (by omega)
    subst this
    exact h
  | m + 1, P, [], h, e => h
  | m + 1, P, x :: w, h, e => by
    obtain ⟨h1, e1⟩ := fall_ok h
    have := go_ok (m := m) h1 (by rw [List.length_cons] at e; show _ + room (fall P.boxes w x).1 = m; omega)
    exact this
theorem run_ok {P : Pl} {w : List (Option Int)} (h : Wf P w) : Wf { P with boxes := (run P.boxes w).1 } [] := go_ok h rfl

/-! ### a pointer becomes another one -/
def bumped (bs : List (Int × Bx)) : Option Int → List (Int × Bx)
  | none => bs
  | some n => chg bs n bump
def setSlot (s : Nat) (x : Option Int) (b : Bx) : Bx := { b with slots := b.slots.set s x }
def slotOf (bs : List (Int × Bx)) (n : Int) (s : Nat) : Option Int := match get bs n with
  | none => none
  | some b => b.slots.getD s none
/-- a hand points at x -/
def ptHand (P : Pl) (h : Nat) (x : Option Int) : Pl × List Int :=
  ({ P with hands := P.hands.set h x, boxes := (run (bumped P.boxes x) [P.hands.getD h none]).1 }, (run (bumped P.boxes x) [P.hands.getD h none]).2)
/-- a slot of the box n points at x -/
def ptSlot (P : Pl) (n : Int) (s : Nat) (x : Option Int) : Pl × List Int :=
  ({ P with boxes := (run (chg (bumped P.boxes x) n (setSlot s x)) [slotOf P.boxes n s]).1 }, (run (chg (bumped P.boxes x) n (setSlot s x)) [slotOf P.boxes n s]).2)
/-- a new box stands there, at which nothing points -/
def born (P : Pl) (size : Nat) : Pl := { P with boxes := P.boxes ++ [(P.made, ⟨List.replicate size none, 0, false⟩)], made := P.made + 1 }
def mk (P : Pl) (h size : Nat) : Pl × List Int := ptHand (born P size) h (some P.made)

/-- weights are right, but that of x may be 0 yet -/
structure Pre (P : Pl) (x : Option Int) : Prop where
  hl : P.hands.length = 8
  ks : (keys P.boxes).Pairwise (· < ·)
  lo : ∀ n, n ∈ keys P.boxes → 0 ≤ n ∧ n < P.made
  few : P.boxes.length ≤ 60
  sl : ∀ n b, get P.boxes n = some b → b.slots.length ≤ 6
  wt : ∀ n b, get P.boxes n = some b → b.wt = ((cnt P.hands n + scnt P.boxes n : Nat) : Int) ∧ (1 ≤ b.wt ∨ x = some n)
  cl : ∀ n, 0 < cnt P.hands n + scnt P.boxes n → ∃ b, get P.boxes n = some b
  m0 : 0 ≤ P.made
  hx : ∀ n, x = some n → ∃ b, get P.boxes n = some b
theorem Wf.pre {P : Pl} {x : Option Int} (h : Wf P []) (hx : ∀ n, x = some n → ∃ b, get P.boxes n = some b) : Pre P x :=
  ⟨h.hl, h.ks, h.lo, h.few, h.sl, fun n b e => by
    obtain ⟨a, b⟩ := h.wt n b e
    exact ⟨a, .inl b⟩, fun n e => h.cl n e, h.m0, hx⟩
/-- what a hand holds is alive -/
theorem Wf.hand {P : Pl} {w : List (Option Int)} (h : Wf P w) {i : Nat} {n : Int} (e : P.hands.getD i none = some n) : ∃ b, get P.boxes n = some b := by
  refine h.cl n ?_
  have : some n ∈ P.hands := by
    rw [List.getD_eq_getElem?_getD] at e
    cases q : P.hands[i]? with
    | none => rw [q] at e; cases e
    | some y =>
      rw [q] at e
      have : y = some n := e
      rw [← this]
      exact List.mem_of_getElem? q
  have := cnt_pos.mpr this
  omega
theorem Wf.slot {P : Pl} {w : List (Option Int)} (h : Wf P w) {k : Int} {b : Bx} {i : Nat} {n : Int} (hb : get P.boxes k = some b) (e : b.slots.getD i none = some n) : ∃ b, get P.boxes n = some b := by
  refine h.cl n ?_
  have : some n ∈ b.slots := by
    rw [List.getD_eq_getElem?_getD] at e
    cases q : b.slots[i]? with
    | none => rw [q] at e; cases e
    | some y =>
      rw [q] at e
      have : y = some n := e
      rw [← this]
      exact List.mem_of_getElem? q
  have h1 := cnt_pos.mpr this
  have h2 := scnt_le n hb
  omega
theorem get_bumped {bs : List (Int × Bx)} {x : Option Int} {n : Int} : get (bumped bs x) n = (get bs n).map fun b => if x = some n then bump b else b := by
  cases x with
  | none =>
    show get bs n = _
    cases get bs n <;> simp
  | some k =>
    show get (chg bs k bump) n = _
    rw [get_chg]
    cases get bs n with
    | none => rfl
    | some b =>
      by_cases q : n = k
      · simp [q]
      · have : ¬ (some k = some n) := fun z => q (Option.some.inj z).symm
        simp [q, this]
theorem keys_bumped {bs : List (Int × Bx)} {x : Option Int} : keys (bumped bs x) = keys bs := by
  cases x with
  | none => rfl
  | some k => exact keys_chg _ _ _
theorem len_bumped {bs : List (Int × Bx)} {x : Option Int} : (bumped bs x).length = bs.length := by
  cases x with
  | none => rfl
  | some k => exact len_chg _ _ _
theorem scnt_bumped {bs : List (Int × Bx)} {x : Option Int} (n : Int) : scnt (bumped bs x) n = scnt bs n := by
  cases x with
  | none => rfl
  | some k => exact scnt_chg_same (f := bump) (fun _ => rfl) n _
theorem room_bumped {bs : List (Int × Bx)} {x : Option Int} : room (bumped bs x) = room bs := by
  cases x with
  | none => rfl
  | some k => exact room_chg (f := bump) (fun _ => rfl) _
theorem getD_some {l : List (Option Int)} {i : Nat} (h : i < l.length) : l[i]? = some (l.getD i none) := by
  rw [List.getD_eq_getElem?_getD, List.getElem?_eq_getElem h]
  rfl
/-- a hand is set: what it pointed at waits -/
theorem Pre.hand {P : Pl} {x : Option Int} (h : Pre P x) {i : Nat} (hi : i < 8) : Wf { P with hands := P.hands.set i x, boxes := bumped P.boxes x } [P.hands.getD i none] := by
  have hold := getD_some (l := P.hands) (i := i) (by rw [h.hl]; exact hi)
  have c1 : ∀ n, cnt (P.hands.set i x) n + one (P.hands.getD i none) n = cnt P.hands n + one x n := fun n => cnt_set x n hold
  have c2 : ∀ n, cnt [P.hands.getD i none] n = one (P.hands.getD i none) n := fun n => by rw [cnt_cons, cnt_nil]; rfl
  refine ⟨by show (P.hands.set i x).length = 8; rw [List.length_set]; exact h.hl, by show (keys (bumped P.boxes x)).Pairwise _; rw [keys_bumped]; exact h.ks, fun n hn => ?_, by show (bumped P.boxes x).length ≤ 60; rw [len_bumped]; exact h.few, fun n c e => ?_, fun n c e => ?_, fun n e => ?_, h.m0⟩
  · have hn' : n ∈ keys (bumped P.boxes x) := hn
    rw [keys_bumped] at hn'
    exact h.lo n hn'
  · have e' : get (bumped P.boxes x) n = some c := e
    rw [get_bumped] at e'
    cases g : get P.boxes n with
    | none => rw [g] at e'; cases e'
    | some d =>
      rw [g] at e'
      have e2 : (if x = some n then bump d else d) = c := Option.some.inj e'
      subst e2
      have := h.sl n d g
      by_cases q : x = some n
      · rw [if_pos q]; exact this
      · rw [if_neg q]; exact this
  · have e' : get (bumped P.boxes x) n = some c := e
    rw [get_bumped] at e'
    cases g : get P.boxes n with
    | none => rw [g] at e'; cases e'
    | some d =>
      rw [g] at e'
      have e2 : (if x = some n then bump d else d) = c := Option.some.inj e'
      subst e2
      obtain ⟨w2, w3⟩ := h.wt n d g
      show _ = ((cnt (P.hands.set i x) n + scnt (bumped P.boxes x) n + cnt [P.hands.getD i none] n : Nat) : Int) ∧ _
      rw [scnt_bumped, c2]
      have := c1 n
      by_cases q : x = some n
      · rw [if_pos q]
        have o1 : one x n = 1 := by simp [one, q]
        show d.wt + 1 = _ ∧ 1 ≤ d.wt + 1
        refine ⟨by omega, by omega⟩
      · rw [if_neg q]
        have o0 : one x n = 0 := by simp [one, q]
        refine ⟨by omega, w3.resolve_right q⟩
  · have e' : 0 < cnt (P.hands.set i x) n + scnt (bumped P.boxes x) n + cnt [P.hands.getD i none] n := e
    rw [scnt_bumped, c2] at e'
    have := c1 n
    show ∃ b, get (bumped P.boxes x) n = some b
    rw [get_bumped]
    have : ∃ b, get P.boxes n = some b := by
      by_cases q : x = some n
      · exact h.hx n q
      · have o0 : one x n = 0 := by simp [one, q]
        exact h.cl n (by omega)
    obtain ⟨b, hb⟩ := this
    rw [hb]
    exact ⟨_, rfl⟩
/-- a slot is set: what it pointed at waits -/
theorem Pre.slot {P : Pl} {x : Option Int} (h : Pre P x) {k : Int} {b : Bx} {i : Nat} (hb : get P.boxes k = some b) (hi : i < b.slots.length) :
    Wf { P with boxes := chg (bumped P.boxes x) k (setSlot i x) } [b.slots.getD i none] := by
  have hold := getD_some hi
  have nd : (keys P.boxes).Nodup := nodup_lt h.ks
  have c1 : ∀ n, cnt (b.slots.set i x) n + one (b.slots.getD i none) n = cnt b.slots n + one x n := fun n => cnt_set x n hold
  have c2 : ∀ n, cnt [b.slots.getD i none] n = one (b.slots.getD i none) n := fun n => by rw [cnt_cons, cnt_nil]; rfl
  have hb' : get (bumped P.boxes x) k = some (if x = some k then bump b else b) := by rw [get_bumped, hb]; rfl
  have hbs : (if x = some k then bump b else b).slots = b.slots := by
    by_cases q : x = some k
    · rw [if_pos q]; rfl
    · rw [if_neg q]
  have c3 : ∀ n, scnt (chg (bumped P.boxes x) k (setSlot i x)) n + cnt b.slots n = scnt P.boxes n + cnt (b.slots.set i x) n := fun n => by
    have := scnt_chg (f := setSlot i x) n (by rw [keys_bumped]; exact nd) hb'
    rw [scnt_bumped, hbs] at this
    have e : (setSlot i x (if x = some k then bump b else b)).slots = b.slots.set i x := by
      show (if x = some k then bump b else b).slots.set i x = _
      rw [hbs]
    rw [e] at this
    exact this
  have gg : ∀ n, get (chg (bumped P.boxes x) k (setSlot i x)) n = (get P.boxes n).map fun d => if n = k then setSlot i x (if x = some n then bump d else d) else (if x = some n then bump d else d) := fun n => by
    rw [get_chg, get_bumped]
    cases get P.boxes n <;> rfl
  have kk : keys (chg (bumped P.boxes x) k (setSlot i x)) = keys P.boxes := by rw [keys_chg, keys_bumped]
  refine ⟨h.hl, by show (keys (chg (bumped P.boxes x) k (setSlot i x))).Pairwise _; rw [kk]; exact h.ks, fun n hn => ?_, by show (chg (bumped P.boxes x) k (setSlot i x)).length ≤ 60; rw [len_chg, len_bumped]; exact h.few, fun n c e => ?_, fun n c e => ?_, fun n e => ?_, h.m0⟩
  · have hn' : n ∈ keys (chg (bumped P.boxes x) k (setSlot i x)) := hn
    rw [kk] at hn'
    exact h.lo n hn'
  · have e' : get (chg (bumped P.boxes x) k (setSlot i x)) n = some c := e
    rw [gg] at e'
    cases g : get P.boxes n with
    | none => rw [g] at e'; cases e'
    | some d =>
      rw [g] at e'
      have e2 : (if n = k then setSlot i x (if x = some n then bump d else d) else (if x = some n then bump d else d)) = c := Option.some.inj e'
      subst e2
      have := h.sl n d g
      have q : (if x = some n then bump d else d).slots = d.slots := by
        by_cases q : x = some n
        · rw [if_pos q]; rfl
        · rw [if_neg q]
      by_cases q2 : n = k
      · rw [if_pos q2]
        show ((if x = some n then bump d else d).slots.set i x).length ≤ 6
        rw [List.length_set, q]
        exact this
      · rw [if_neg q2, q]
        exact this
  · have e' : get (chg (bumped P.boxes x) k (setSlot i x)) n = some c := e
    rw [gg] at e'
    cases g : get P.boxes n with
    | none => rw [g] at e'; cases e'
    | some d =>
      rw [g] at e'
      have e2 : (if n = k then setSlot i x (if x = some n then bump d else d) else (if x = some n then bump d else d)) = c := Option.some.inj e'
      have wc : c.wt = (if x = some n then bump d else d).wt := by
        rw [← e2]
        by_cases q2 : n = k
        · rw [if_pos q2]; rfl
        · rw [if_neg q2]
      obtain ⟨w2, w3⟩ := h.wt n d g
      rw [wc]
      show _ = ((cnt P.hands n + scnt (chg (bumped P.boxes x) k (setSlot i x)) n + cnt [b.slots.getD i none] n : Nat) : Int) ∧ _
      rw [c2]
      have := c1 n
      have := c3 n
      by_cases q : x = some n
      · rw [if_pos q]
        have o1 : one x n = 1 := by simp [one, q]
        show d.wt + 1 = _ ∧ 1 ≤ d.wt + 1
        refine ⟨by omega, by omega⟩
      · rw [if_neg q]
        have o0 : one x n = 0 := by simp [one, q]
        refine ⟨by omega, w3.resolve_right q⟩
  · have e' : 0 < cnt P.hands n + scnt (chg (bumped P.boxes x) k (setSlot i x)) n + cnt [b.slots.getD i none] n := e
    rw [c2] at e'
    have := c1 n
    have := c3 n
    show ∃ b, get (chg (bumped P.boxes x) k (setSlot i x)) n = some b
    rw [gg]
    have : ∃ b, get P.boxes n = some b := by
      by_cases q : x = some n
      · exact h.hx n q
      · have o0 : one x n = 0 := by simp [one, q]
        exact h.cl n (by omega)
    obtain ⟨b, hb⟩ := this
    rw [hb]
    exact ⟨_, rfl⟩
theorem scnt_born (P : Pl) (size : Nat) (n : Int) : scnt (born P size).boxes n = scnt P.boxes n := by
  show scnt (P.boxes ++ _) n = _
  rw [scnt_append, scnt_cons, scnt_nil]
  show _ + (cnt (List.replicate size none) n + 0) = _
  rw [cnt_none]
  rfl
theorem get_born {P : Pl} {w : List (Option Int)} (h : Wf P w) (size : Nat) (n : Int) : get (born P size).boxes n = if n = P.made then some ⟨List.replicate size none, 0, false⟩ else get P.boxes n := by
  show get (P.boxes ++ _) n = _
  rw [get_snoc]
  by_cases q : n = P.made
  · have : get P.boxes n = none := get_none.mpr fun z => by have := (h.lo n z).2; omega
    rw [this]
    simp [q]
  · have : ¬ P.made = n := fun z => q z.symm
    rw [if_neg q]
    cases get P.boxes n <;> simp [this]
theorem Wf.born {P : Pl} (h : Wf P []) {size : Nat} (hs : size ≤ 6) (hf : P.boxes.length < 60) : Pre (born P size) (some P.made) := by
  have gm := get_born h size
  refine ⟨h.hl, ?_, fun n hn => ?_, ?_, fun n b e => ?_, fun n b e => ?_, fun n e => ?_, ?_, fun n e => ?_⟩
  · show (keys (P.boxes ++ _)).Pairwise _
    unfold keys
    rw [List.map_append, List.pairwise_append]
    refine ⟨h.ks, List.pairwise_singleton _ _, fun a ha b hb => ?_⟩
    have : b = P.made := by simpa using hb
    rw [this]
    exact (h.lo a ha).2
  · have hn' : n ∈ keys (P.boxes ++ [(P.made, _)]) := hn
    unfold keys at hn'
    rw [List.map_append, List.mem_append] at hn'
    have m0 := h.m0
    show 0 ≤ n ∧ n < P.made + 1
    rcases hn' with q | q
    · have := h.lo n q
      omega
    · have : n = P.made := by simpa using q
      omega
  · show (P.boxes ++ _).length ≤ 60
    rw [List.length_append]
    show P.boxes.length + 1 ≤ 60
    omega
  · rw [gm] at e
    by_cases q : n = P.made
    · rw [if_pos q] at e
      have := Option.some.inj e
      rw [← this]
      show (List.replicate size none).length ≤ 6
      rw [List.length_replicate]
      exact hs
    · rw [if_neg q] at e
      exact h.sl n b e
  · rw [gm] at e
    rw [scnt_born]
    show _ = ((cnt P.hands n + _ : Nat) : Int) ∧ _
    by_cases q : n = P.made
    · rw [if_pos q] at e
      have eb := Option.some.inj e
      refine ⟨?_, .inr (by rw [q])⟩
      rw [← eb]
      show (0 : Int) = _
      have : ¬ 0 < cnt P.hands n + scnt P.boxes n := fun z => by
        obtain ⟨c, hc⟩ := h.cl n z
        have := (h.lo n (get_keys.mp ⟨c, hc⟩)).2
        omega
      omega
    · rw [if_neg q] at e
      obtain ⟨a, c⟩ := h.wt n b e
      exact ⟨a, .inl c⟩
  · rw [scnt_born] at e
    have e' : 0 < cnt P.hands n + scnt P.boxes n := e
    obtain ⟨c, hc⟩ := h.cl n e'
    rw [gm]
    by_cases q : n = P.made
    · rw [if_pos q]; exact ⟨_, rfl⟩
    · rw [if_neg q]; exact ⟨c, hc⟩
  · have := h.m0
    show 0 ≤ P.made + 1
    omega
  · rw [gm, ← Option.some.inj e, if_pos rfl]
    exact ⟨_, rfl⟩
/-- the numbers of those that are suspects -/
def susp (P : Pl) : List Int := (keys P.boxes).filter fun n => match get P.boxes n with | none => false | some b => b.sus
theorem ptHand_ok {P : Pl} {x : Option Int} (h : Pre P x) {i : Nat} (hi : i < 8) : Wf (ptHand P i x).1 [] := run_ok (h.hand hi)
theorem ptSlot_ok {P : Pl} {x : Option Int} (h : Pre P x) {k : Int} {b : Bx} {i : Nat} (hb : get P.boxes k = some b) (hi : i < b.slots.length) : Wf (ptSlot P k i x).1 [] := by
  have e : slotOf P.boxes k i = b.slots.getD i none := by
    unfold slotOf
    rw [hb]
  have := run_ok (h.slot hb hi)
  rw [← e] at this
  exact this
theorem mk_ok {P : Pl} (h : Wf P []) {i size : Nat} (hi : i < 8) (hs : size ≤ 6) (hf : P.boxes.length < 60) : Wf (mk P i size).1 [] := ptHand_ok (h.born hs hf) hi
def pl0 : Pl := ⟨List.replicate 8 none, [], 0⟩
theorem wf0 : Wf pl0 [] := ⟨rfl, List.Pairwise.nil, fun n h => by simp [pl0, keys] at h, by decide, fun n b e => by simp [pl0, get_nil] at e, fun n b e => by simp [pl0, get_nil] at e, fun n e => by
  have h1 : cnt pl0.hands n = 0 := cnt_none 8 n
  have h2 : scnt pl0.boxes n = 0 := rfl
  rw [h1, h2, cnt_nil] at e
  omega, by decide⟩
end BP

/-! The pile as it lies in the heap. Own work. -/
namespace BP
open PySem L2

def oV : Option Int → V
  | none => .non
  | some n => .int n
def lV (l : List (Option Int)) : List V := l.map oV
theorem lV_get {l : List (Option Int)} {i : Nat} (h : i < l.length) : (lV l)[i]? = some (oV (l.getD i none)) := by
  unfold lV
  rw [List.getElem?_map, getD_some h]
  rfl
theorem lV_set (l : List (Option Int)) (i : Nat) (x : Option Int) : (lV l).set i (oV x) = lV (l.set i x) := by
  unfold lV
  rw [List.map_set]
theorem lV_len (l : List (Option Int)) : (lV l).length = l.length := List.length_map _

/-! ### the attributes -/
theorem s_hb : ¬ (("_hands" : Str) = "_boxes") := by decide +kernel
theorem s_hm : ¬ (("_hands" : Str) = "_made") := by decide +kernel
theorem s_bm : ¬ (("_boxes" : Str) = "_made") := by decide +kernel
theorem s_bh : ¬ (("_boxes" : Str) = "_hands") := by decide +kernel
theorem s_sw : ¬ (("slots" : Str) = "weight") := by decide +kernel
theorem s_ss : ¬ (("slots" : Str) = "suspect") := by decide +kernel
theorem s_ws : ¬ (("weight" : Str) = "suspect") := by decide +kernel
theorem s_hs : ¬ (("_hands" : Str) = "slots") := by decide +kernel
def pf (lh db : Addr) (m : Int) : List (Str × V) := putF "_made" (.int m) (putF "_boxes" (.ref db) (putF "_hands" (.ref lh) []))
theorem pf_eq (lh db : Addr) (m : Int) : pf lh db m = ([("_hands", V.ref lh), ("_boxes", V.ref db), ("_made", V.int m)] : List (Str × V)) := by
  show (putF "_made" (.int m) (if ("_hands" : Str) = "_boxes" then [(("_hands" : Str), V.ref db)] else (("_hands" : Str), V.ref lh) :: [(("_boxes" : Str), V.ref db)])) = _
  rw [if_neg s_hb]
  show (if ("_hands" : Str) = "_made" then _ else (("_hands" : Str), V.ref lh) :: (if ("_boxes" : Str) = "_made" then _ else (("_boxes" : Str), V.ref db) :: [(("_made" : Str), V.int m)])) = _
  rw [if_neg s_hm, if_neg s_bm]
theorem pf_hands (lh db : Addr) (m : Int) : (pf lh db m).lookup ("_hands" : Str) = some (.ref lh) := by
  unfold pf
  rw [lookup_putF, if_neg s_hm, lookup_putF, if_neg s_hb, lookup_putF, if_pos rfl]
theorem pf_boxes (lh db : Addr) (m : Int) : (pf lh db m).lookup ("_boxes" : Str) = some (.ref db) := by
  unfold pf
  rw [lookup_putF, if_neg s_bm, lookup_putF, if_pos rfl]
theorem pf_made (lh db : Addr) (m : Int) : (pf lh db m).lookup ("_made" : Str) = some (.int m) := by
  unfold pf
  rw [lookup_putF, if_pos rfl]
theorem pf_no (lh db : Addr) (m : Int) {x : Str} (h1 : ¬ x = "_made") (h2 : ¬ x = "_boxes") (h3 : ¬ x = "_hands") : (pf lh db m).lookup x = none := by
  unfold pf
  rw [lookup_putF, if_neg h1, lookup_putF, if_neg h2, lookup_putF, if_neg h3]
  rfl
theorem pf_put (lh db : Addr) (m z : Int) : putF "_made" (.int z) (pf lh db m) = pf lh db z := by
  rw [pf_eq, pf_eq]
  show (if ("_hands" : Str) = "_made" then _ else (("_hands" : Str), V.ref lh) :: (if ("_boxes" : Str) = "_made" then _ else (("_boxes" : Str), V.ref db) :: (if ("_made" : Str) = "_made" then [(("_made" : Str), V.int z)] else _))) = _
  rw [if_neg s_hm, if_neg s_bm, if_pos rfl]
theorem pf_len (lh db : Addr) (m : Int) : (pf lh db m).length = 3 := by rw [pf_eq]; rfl
def bf (sl : Addr) (w : Int) (s : Bool) : List (Str × V) := putF "suspect" (.bl s) (putF "weight" (.int w) (putF "slots" (.ref sl) []))
theorem bf_eq (sl : Addr) (w : Int) (s : Bool) : bf sl w s = ([("slots", V.ref sl), ("weight", V.int w), ("suspect", V.bl s)] : List (Str × V)) := by
  show (putF "suspect" (.bl s) (if ("slots" : Str) = "weight" then [(("slots" : Str), V.int w)] else (("slots" : Str), V.ref sl) :: [(("weight" : Str), V.int w)])) = _
  rw [if_neg s_sw]
  show (if ("slots" : Str) = "suspect" then _ else (("slots" : Str), V.ref sl) :: (if ("weight" : Str) = "suspect" then _ else (("weight" : Str), V.int w) :: [(("suspect" : Str), V.bl s)])) = _
  rw [if_neg s_ss, if_neg s_ws]
theorem bf_slots (sl : Addr) (w : Int) (s : Bool) : (bf sl w s).lookup ("slots" : Str) = some (.ref sl) := by
  unfold bf
  rw [lookup_putF, if_neg s_ss, lookup_putF, if_neg s_sw, lookup_putF, if_pos rfl]
theorem bf_weight (sl : Addr) (w : Int) (s : Bool) : (bf sl w s).lookup ("weight" : Str) = some (.int w) := by
  unfold bf
  rw [lookup_putF, if_neg s_ws, lookup_putF, if_pos rfl]
theorem bf_suspect (sl : Addr) (w : Int) (s : Bool) : (bf sl w s).lookup ("suspect" : Str) = some (.bl s) := by
  unfold bf
  rw [lookup_putF, if_pos rfl]
theorem bf_putw (sl : Addr) (w z : Int) (s : Bool) : putF "weight" (.int z) (bf sl w s) = bf sl z s := by
  rw [bf_eq, bf_eq]
  show (if ("slots" : Str) = "weight" then _ else (("slots" : Str), V.ref sl) :: (if ("weight" : Str) = "weight" then (("weight" : Str), V.int z) :: [(("suspect" : Str), V.bl s)] else _)) = _
  rw [if_neg s_sw, if_pos rfl]
theorem bf_puts (sl : Addr) (w : Int) (s t : Bool) : putF "suspect" (.bl t) (bf sl w s) = bf sl w t := by
  rw [bf_eq, bf_eq]
  show (if ("slots" : Str) = "suspect" then _ else (("slots" : Str), V.ref sl) :: (if ("weight" : Str) = "suspect" then _ else (("weight" : Str), V.int w) :: (if ("suspect" : Str) = "suspect" then [(("suspect" : Str), V.bl t)] else _))) = _
  rw [if_neg s_ss, if_neg s_ws, if_pos rfl]
theorem bf_len (sl : Addr) (w : Int) (s : Bool) : (bf sl w s).length = 3 := by rw [bf_eq]; rfl
theorem pf_bf (lh db sl : Addr) (m w : Int) (s : Bool) : pf lh db m ≠ bf sl w s := by
  rw [pf_eq, bf_eq]
  intro q
  injection q with q1 q2
  injection q1 with q3 q4
  exact s_hs q3

/-! ### the dict of the boxes -/
def dV (ba : Int → Addr) (bs : List (Int × Bx)) : List (Key × V) := bs.map fun e => ((Sum.inl e.1 : Key), V.ref (ba e.1))
theorem dV_cons (ba : Int → Addr) (e : Int × Bx) (bs : List (Int × Bx)) : dV ba (e :: bs) = ((Sum.inl e.1 : Key), V.ref (ba e.1)) :: dV ba bs := rfl
theorem valV_dV (ba : Int → Addr) (n : Int) : ∀ bs, valV (dV ba bs) (Sum.inl n : Key) = (get bs n).map fun _ => V.ref (ba n)
  | [] => rfl
  | e :: bs => by
    rw [dV_cons, get_cons]
    by_cases h : e.1 = n
    · rw [valV_pos (by rw [h]), if_pos h, h]
      rfl
    · rw [valV_neg (by intro q; injection q with q; exact h q), if_neg h]
      exact valV_dV ba n bs
theorem dV_len (ba : Int → Addr) (bs : List (Int × Bx)) : (dV ba bs).length = bs.length := List.length_map _
theorem dV_keys (ba : Int → Addr) (bs : List (Int × Bx)) : (dV ba bs).map (·.1) = (keys bs).map Sum.inl := by
  unfold dV keys
  rw [List.map_map, List.map_map]
  rfl
theorem dV_chg (ba : Int → Addr) (n : Int) (f : Bx → Bx) : ∀ bs, dV ba (chg bs n f) = dV ba bs
  | [] => rfl
  | e :: bs => by
    have ih := dV_chg ba n f bs
    have e1 : chg (e :: bs) n f = (if e.1 = n then (e.1, f e.2) else e) :: chg bs n f := rfl
    rw [e1, dV_cons, dV_cons, ih]
    by_cases h : e.1 = n <;> simp [h]
theorem dV_rm (ba : Int → Addr) (n : Int) : ∀ bs, dropK (dV ba bs) (Sum.inl n : Key) = dV ba (rm bs n)
  | [] => rfl
  | e :: bs => by
    have ih := dV_rm ba n bs
    rw [dV_cons]
    by_cases h : e.1 = n
    · have e1 : rm (e :: bs) n = rm bs n := by unfold rm; simp [List.filter_cons, h]
      rw [dropK_pos (by rw [h]), e1, ih]
    · have e1 : rm (e :: bs) n = e :: rm bs n := by unfold rm; simp [List.filter_cons, h]
      rw [dropK_neg (by intro q; injection q with q; exact h q), e1, ih]
      rfl
theorem dV_agree {ba bb : Int → Addr} : ∀ {bs : List (Int × Bx)}, (∀ n ∈ keys bs, ba n = bb n) → dV ba bs = dV bb bs
  | [], _ => rfl
  | e :: bs, h => by
    rw [dV_cons, dV_cons, h e.1 (by simp [keys]), dV_agree fun n hn => h n (by simp only [keys, List.map_cons, List.mem_cons]; exact .inr hn)]
theorem dV_snoc (ba : Int → Addr) (n : Int) (b : Bx) (bs : List (Int × Bx)) : dV ba (bs ++ [(n, b)]) = dV ba bs ++ [((Sum.inl n : Key), V.ref (ba n))] := by
  unfold dV
  rw [List.map_append]
  rfl

/-! ### the pile in the heap -/
/-- where the parts lie: the own dict, the hands' list, the boxes' dict, each box's own dict, each box, its slots' list -/
structure Geo where
  dx : Addr
  lh : Addr
  db : Addr
  bd : Int → Addr
  ba : Int → Addr
  sa : Int → Addr
/-- the pile P lies at p in H as g tells; R: what else of H is known, none of it the pile's -/
structure PileAt (C B p : Addr) (g : Geo) (P : Pl) (R H : Hp) : Prop where
  same : Same R H
  rp : R p = none
  rh : R g.lh = none
  rd : R g.db = none
  rb : ∀ n b, get P.boxes n = some b → R (g.ba n) = none
  rs : ∀ n b, get P.boxes n = some b → R (g.sa n) = none
  hp : H p = some (.ins C g.dx (pf g.lh g.db P.made))
  hh : H g.lh = some (.lst (lV P.hands))
  hd : H g.db = some (.dK (dV g.ba P.boxes))
  hb : ∀ n b, get P.boxes n = some b → H (g.ba n) = some (.ins B (g.bd n) (bf (g.sa n) b.wt b.sus))
  hs : ∀ n b, get P.boxes n = some b → H (g.sa n) = some (.lst (lV b.slots))
  ib : ∀ n m b c, get P.boxes n = some b → get P.boxes m = some c → g.ba n = g.ba m → n = m
  is : ∀ n m b c, get P.boxes n = some b → get P.boxes m = some c → g.sa n = g.sa m → n = m
  hn : ∀ n b, get P.boxes n = some b → g.sa n ≠ g.lh
section
variable {C B p : Addr} {g : Geo} {P : Pl} {R R' H : Hp}
theorem ins_ne_lst {C dx : Addr} {fs : List (Str × V)} {xs : List V} : HO.ins C dx fs ≠ HO.lst xs := by intro q; cases q
theorem ins_ne_dK {C dx : Addr} {fs : List (Str × V)} {xs : List (Key × V)} : HO.ins C dx fs ≠ HO.dK xs := by intro q; cases q
theorem lst_ne_dK {ys : List V} {xs : List (Key × V)} : HO.lst ys ≠ HO.dK xs := by intro q; cases q
theorem PileAt.p_lh (A : PileAt C B p g P R H) : p ≠ g.lh := ne_of A.hp A.hh ins_ne_lst
theorem PileAt.p_db (A : PileAt C B p g P R H) : p ≠ g.db := ne_of A.hp A.hd ins_ne_dK
theorem PileAt.lh_db (A : PileAt C B p g P R H) : g.lh ≠ g.db := ne_of A.hh A.hd lst_ne_dK
theorem PileAt.p_ba (A : PileAt C B p g P R H) {n : Int} {b : Bx} (h : get P.boxes n = some b) : p ≠ g.ba n := ne_of A.hp (A.hb n b h) fun q => by
  injection q with _ _ q
  exact pf_bf _ _ _ _ _ _ q
theorem PileAt.p_sa (A : PileAt C B p g P R H) {n : Int} {b : Bx} (h : get P.boxes n = some b) : p ≠ g.sa n := ne_of A.hp (A.hs n b h) ins_ne_lst
theorem PileAt.ba_lh (A : PileAt C B p g P R H) {n : Int} {b : Bx} (h : get P.boxes n = some b) : g.ba n ≠ g.lh := ne_of (A.hb n b h) A.hh ins_ne_lst
theorem PileAt.ba_db (A : PileAt C B p g P R H) {n : Int} {b : Bx} (h : get P.boxes n = some b) : g.ba n ≠ g.db := ne_of (A.hb n b h) A.hd ins_ne_dK
theorem PileAt.sa_db (A : PileAt C B p g P R H) {n : Int} {b : Bx} (h : get P.boxes n = some b) : g.sa n ≠ g.db := ne_of (A.hs n b h) A.hd lst_ne_dK
theorem PileAt.ba_sa (A : PileAt C B p g P R H) {n m : Int} {b c : Bx} (h : get P.boxes n = some b) (h2 : get P.boxes m = some c) : g.ba n ≠ g.sa m := ne_of (A.hb n b h) (A.hs m c h2) ins_ne_lst

/-- less is known -/
theorem PileAt.less (A : PileAt C B p g P R H) (s : Same R' R) : PileAt C B p g P R' H :=
  ⟨s.trans A.same, s.free A.rp, s.free A.rh, s.free A.rd, fun n b h => s.free (A.rb n b h), fun n b h => s.free (A.rs n b h), A.hp, A.hh, A.hd, A.hb, A.hs, A.ib, A.is, A.hn⟩
/-- the heap has grown -/
theorem PileAt.grow {H' : Hp} (A : PileAt C B p g P R H) (s : Same H H') : PileAt C B p g P R H' :=
  ⟨A.same.trans s, A.rp, A.rh, A.rd, A.rb, A.rs, s _ _ A.hp, s _ _ A.hh, s _ _ A.hd, fun n b e => s _ _ (A.hb n b e), fun n b e => s _ _ (A.hs n b e), A.ib, A.is, A.hn⟩
theorem same_upd {a : Addr} {o : HO} (h : R a = none) : Same R (upd R a o) := fun b u e => by
  rw [upd_ne (ne_of_none e h)]
  exact e
theorem upd_upd {a : Addr} {o u : HO} : upd (upd H a o) a u = upd H a u := by
  funext b
  by_cases h : b = a
  · rw [h, upd_same, upd_same]
  · rw [upd_ne h, upd_ne h, upd_ne h]
/-- a new object, known -/
theorem PileAt.new (A : PileAt C B p g P R H) {a : Addr} {o : HO} (h : H a = none) : PileAt C B p g P (upd R a o) (upd H a o) := by
  have n1 : ∀ {b u}, H b = some u → b ≠ a := fun e => ne_of_none e h
  refine ⟨fun b u e => ?_, ?_, ?_, ?_, fun n b e => ?_, fun n b e => ?_, ?_, ?_, ?_, fun n b e => ?_, fun n b e => ?_, A.ib, A.is, A.hn⟩
  · by_cases q : b = a
    · rw [q, upd_same] at e ⊢
      exact e
    · rw [upd_ne q] at e ⊢
      exact A.same b u e
  · rw [upd_ne (n1 A.hp)]; exact A.rp
  · rw [upd_ne (n1 A.hh)]; exact A.rh
  · rw [upd_ne (n1 A.hd)]; exact A.rd
  · rw [upd_ne (n1 (A.hb n b e))]; exact A.rb n b e
  · rw [upd_ne (n1 (A.hs n b e))]; exact A.rs n b e
  · rw [upd_ne (n1 A.hp)]; exact A.hp
  · rw [upd_ne (n1 A.hh)]; exact A.hh
  · rw [upd_ne (n1 A.hd)]; exact A.hd
  · rw [upd_ne (n1 (A.hb n b e))]; exact A.hb n b e
  · rw [upd_ne (n1 (A.hs n b e))]; exact A.hs n b e
/-- a known object is changed -/
theorem PileAt.set (A : PileAt C B p g P R H) {a : Addr} {o u : HO} (h : R a = some u) : PileAt C B p g P (upd R a o) (upd H a o) := by
  have n1 : ∀ {b}, R b = none → b ≠ a := fun e q => by rw [q, h] at e; cases e
  refine ⟨fun b u e => ?_, ?_, ?_, ?_, fun n b e => ?_, fun n b e => ?_, ?_, ?_, ?_, fun n b e => ?_, fun n b e => ?_, A.ib, A.is, A.hn⟩
  · by_cases q : b = a
    · rw [q, upd_same] at e ⊢
      exact e
    · rw [upd_ne q] at e ⊢
      exact A.same b u e
  · rw [upd_ne (n1 A.rp)]; exact A.rp
  · rw [upd_ne (n1 A.rh)]; exact A.rh
  · rw [upd_ne (n1 A.rd)]; exact A.rd
  · rw [upd_ne (n1 (A.rb n b e))]; exact A.rb n b e
  · rw [upd_ne (n1 (A.rs n b e))]; exact A.rs n b e
  · rw [upd_ne (n1 A.rp)]; exact A.hp
  · rw [upd_ne (n1 A.rh)]; exact A.hh
  · rw [upd_ne (n1 A.rd)]; exact A.hd
  · rw [upd_ne (n1 (A.rb n b e))]; exact A.hb n b e
  · rw [upd_ne (n1 (A.rs n b e))]; exact A.hs n b e
/-- a hand is set -/
theorem PileAt.hand (A : PileAt C B p g P R H) (hs : List (Option Int)) : PileAt C B p g { P with hands := hs } R (upd H g.lh (.lst (lV hs))) :=
  ⟨fun b u e => by rw [upd_ne (ne_of_none e A.rh)]; exact A.same b u e, A.rp, A.rh, A.rd, A.rb, A.rs, by rw [upd_ne A.p_lh]; exact A.hp, upd_same, by rw [upd_ne A.lh_db.symm]; exact A.hd,
    fun n b e => by rw [upd_ne (A.ba_lh e)]; exact A.hb n b e, fun n b e => by rw [upd_ne (A.hn n b e)]; exact A.hs n b e, A.ib, A.is, A.hn⟩
/-- what is known of the box n is changed, its slots are not -/
theorem PileAt.box (A : PileAt C B p g P R H) {n : Int} {b : Bx} (hb : get P.boxes n = some b) (f : Bx → Bx) (hf : (f b).slots = b.slots) :
    PileAt C B p g { P with boxes := chg P.boxes n f } R (upd H (g.ba n) (.ins B (g.bd n) (bf (g.sa n) (f b).wt (f b).sus))) := by
  have old : ∀ {m c}, get (chg P.boxes n f) m = some c → ∃ d, get P.boxes m = some d ∧ c = (if m = n then f d else d) := fun {m c} e => by
    rw [get_chg] at e
    cases q : get P.boxes m with
    | none => rw [q] at e; cases e
    | some d =>
      rw [q] at e
      exact ⟨d, rfl, (Option.some.inj e).symm⟩
  refine ⟨fun c u e => ?_, A.rp, A.rh, A.rd, fun m c e => ?_, fun m c e => ?_, ?_, ?_, ?_, fun m c e => ?_, fun m c e => ?_, fun m k c d e1 e2 => ?_, fun m k c d e1 e2 => ?_, fun m c e => ?_⟩
  · rw [upd_ne (ne_of_none e (A.rb n b hb))]; exact A.same c u e
  · obtain ⟨d, hd, _⟩ := old e; exact A.rb m d hd
  · obtain ⟨d, hd, _⟩ := old e; exact A.rs m d hd
  · rw [upd_ne (A.p_ba hb)]; exact A.hp
  · rw [upd_ne (A.ba_lh hb).symm]; exact A.hh
  · rw [upd_ne (A.ba_db hb).symm]
    show H g.db = some (.dK (dV g.ba (chg P.boxes n f)))
    rw [dV_chg]; exact A.hd
  · obtain ⟨d, hd, rfl⟩ := old e
    by_cases q : m = n
    · subst q
      have : d = b := Option.some.inj (hd.symm.trans hb)
      subst this
      rw [upd_same, if_pos rfl]
    · rw [if_neg q, upd_ne (fun z => q (A.ib m n d b hd hb z))]
      exact A.hb m d hd
  · obtain ⟨d, hd, rfl⟩ := old e
    rw [upd_ne (A.ba_sa hb hd).symm, A.hs m d hd]
    by_cases q : m = n
    · subst q
      have : d = b := Option.some.inj (hd.symm.trans hb)
      subst this
      rw [if_pos rfl, hf]
    · rw [if_neg q]
  · obtain ⟨d1, h1, _⟩ := old e1
    obtain ⟨d2, h2, _⟩ := old e2
    exact A.ib m k d1 d2 h1 h2
  · obtain ⟨d1, h1, _⟩ := old e1
    obtain ⟨d2, h2, _⟩ := old e2
    exact A.is m k d1 d2 h1 h2
  · obtain ⟨d, hd, _⟩ := old e; exact A.hn m d hd
/-- a slot of the box n is set -/
theorem PileAt.slot (A : PileAt C B p g P R H) {n : Int} {b : Bx} (hb : get P.boxes n = some b) (i : Nat) (x : Option Int) :
    PileAt C B p g { P with boxes := chg P.boxes n (setSlot i x) } R (upd H (g.sa n) (.lst (lV (b.slots.set i x)))) := by
  have old : ∀ {m c}, get (chg P.boxes n (setSlot i x)) m = some c → ∃ d, get P.boxes m = some d ∧ c = (if m = n then setSlot i x d else d) := fun {m c} e => by
    rw [get_chg] at e
    cases q : get P.boxes m with
    | none => rw [q] at e; cases e
    | some d =>
      rw [q] at e
      exact ⟨d, rfl, (Option.some.inj e).symm⟩
  refine ⟨fun c u e => ?_, A.rp, A.rh, A.rd, fun m c e => ?_, fun m c e => ?_, ?_, ?_, ?_, fun m c e => ?_, fun m c e => ?_, fun m k c d e1 e2 => ?_, fun m k c d e1 e2 => ?_, fun m c e => ?_⟩
  · rw [upd_ne (ne_of_none e (A.rs n b hb))]; exact A.same c u e
  · obtain ⟨d, hd, _⟩ := old e; exact A.rb m d hd
  · obtain ⟨d, hd, _⟩ := old e; exact A.rs m d hd
  · rw [upd_ne (A.p_sa hb)]; exact A.hp
  · rw [upd_ne (A.hn n b hb).symm]; exact A.hh
  · rw [upd_ne (A.sa_db hb).symm]
    show H g.db = some (.dK (dV g.ba (chg P.boxes n (setSlot i x))))
    rw [dV_chg]; exact A.hd
  · obtain ⟨d, hd, rfl⟩ := old e
    rw [upd_ne (A.ba_sa hd hb), A.hb m d hd]
    by_cases q : m = n
    · rw [if_pos q]; rfl
    · rw [if_neg q]
  · obtain ⟨d, hd, rfl⟩ := old e
    by_cases q : m = n
    · subst q
      have : d = b := Option.some.inj (hd.symm.trans hb)
      subst this
      rw [upd_same, if_pos rfl]
      rfl
    · rw [if_neg q, upd_ne (fun z => q (A.is m n d b hd hb z))]
      exact A.hs m d hd
  · obtain ⟨d1, h1, _⟩ := old e1
    obtain ⟨d2, h2, _⟩ := old e2
    exact A.ib m k d1 d2 h1 h2
  · obtain ⟨d1, h1, _⟩ := old e1
    obtain ⟨d2, h2, _⟩ := old e2
    exact A.is m k d1 d2 h1 h2
  · obtain ⟨d, hd, _⟩ := old e; exact A.hn m d hd
/-- a box goes -/
theorem PileAt.del (A : PileAt C B p g P R H) (n : Int) : PileAt C B p g { P with boxes := rm P.boxes n } R (upd H g.db (.dK (dropK (dV g.ba P.boxes) (Sum.inl n)))) := by
  have old : ∀ {m c}, get (rm P.boxes n) m = some c → get P.boxes m = some c := fun {m c} e => by
    rw [get_rm] at e
    by_cases q : m = n
    · rw [if_pos q] at e; cases e
    · rw [if_neg q] at e; exact e
  refine ⟨fun c u e => ?_, A.rp, A.rh, A.rd, fun m c e => A.rb m c (old e), fun m c e => A.rs m c (old e), ?_, ?_, ?_, fun m c e => ?_, fun m c e => ?_, fun m k c d e1 e2 => A.ib m k c d (old e1) (old e2), fun m k c d e1 e2 => A.is m k c d (old e1) (old e2), fun m c e => A.hn m c (old e)⟩
  · rw [upd_ne (ne_of_none e A.rd)]; exact A.same c u e
  · rw [upd_ne A.p_db]; exact A.hp
  · rw [upd_ne A.lh_db]; exact A.hh
  · rw [upd_same, dV_rm]
  · rw [upd_ne (A.ba_db (old e))]; exact A.hb m c (old e)
  · rw [upd_ne (A.sa_db (old e))]; exact A.hs m c (old e)
/-- one more is made -/
theorem PileAt.count (A : PileAt C B p g P R H) (m : Int) : PileAt C B p g { P with made := m } R (upd H p (.ins C g.dx (pf g.lh g.db m))) := by
  refine ⟨fun c u e => ?_, A.rp, A.rh, A.rd, A.rb, A.rs, upd_same, ?_, ?_, fun m c e => ?_, fun m c e => ?_, A.ib, A.is, A.hn⟩
  · rw [upd_ne (ne_of_none e A.rp)]; exact A.same c u e
  · rw [upd_ne A.p_lh.symm]; exact A.hh
  · rw [upd_ne A.p_db.symm]; exact A.hd
  · rw [upd_ne (A.p_ba e).symm]; exact A.hb m c e
  · rw [upd_ne (A.p_sa e).symm]; exact A.hs m c e
/-- a new box, known till now as an object of its own, is laid into the dict -/
theorem PileAt.add (A : PileAt C B p g P R H) {n : Int} {b : Bx} {x dx sl : Addr} (hn : get P.boxes n = none) (hx : R x = some (.ins B dx (bf sl b.wt b.sus))) (hsl : R sl = some (.lst (lV b.slots))) (hR : Same R' R) (rx : R' x = none) (rsl : R' sl = none) :
    PileAt C B p { g with bd := fun m => if m = n then dx else g.bd m, ba := fun m => if m = n then x else g.ba m, sa := fun m => if m = n then sl else g.sa m } { P with boxes := P.boxes ++ [(n, b)] } R' (upd H g.db (.dK (putK (dV g.ba P.boxes) (Sum.inl n) (.ref x)))) := by
  have hx' := A.same _ _ hx
  have hsl' := A.same _ _ hsl
  have gm : ∀ m, get (P.boxes ++ [(n, b)]) m = if m = n then some b else get P.boxes m := fun m => by
    rw [get_snoc]
    by_cases q : m = n
    · rw [q, hn, if_pos rfl]
    · have : ¬ n = m := fun z => q z.symm
      rw [if_neg q]
      cases get P.boxes m <;> simp [this]
  have old : ∀ {m c}, get (P.boxes ++ [(n, b)]) m = some c → (m = n ∧ c = b) ∨ (m ≠ n ∧ get P.boxes m = some c) := fun {m c} e => by
    rw [gm] at e
    by_cases q : m = n
    · rw [if_pos q] at e; exact .inl ⟨q, (Option.some.inj e).symm⟩
    · rw [if_neg q] at e; exact .inr ⟨q, e⟩
  have nba : ∀ {m c}, get P.boxes m = some c → g.ba m ≠ x := fun e q => by have := A.rb _ _ e; rw [q, hx] at this; cases this
  have nsa : ∀ {m c}, get P.boxes m = some c → g.sa m ≠ sl := fun e q => by have := A.rs _ _ e; rw [q, hsl] at this; cases this
  refine ⟨fun c u e => ?_, hR.free A.rp, hR.free A.rh, hR.free A.rd, fun m c e => ?_, fun m c e => ?_, ?_, ?_, ?_, fun m c e => ?_, fun m c e => ?_, fun m k c d e1 e2 => ?_, fun m k c d e1 e2 => ?_, fun m c e => ?_⟩
  · show upd H g.db _ c = _
    rw [upd_ne (ne_of_none e (hR.free A.rd))]; exact A.same c u (hR c u e)
  · show R' (if m = n then x else g.ba m) = none
    rcases old e with ⟨rfl, _⟩ | ⟨q, e'⟩
    · rw [if_pos rfl]; exact rx
    · rw [if_neg q]; exact hR.free (A.rb m c e')
  · show R' (if m = n then sl else g.sa m) = none
    rcases old e with ⟨rfl, _⟩ | ⟨q, e'⟩
    · rw [if_pos rfl]; exact rsl
    · rw [if_neg q]; exact hR.free (A.rs m c e')
  · show upd H g.db _ p = _
    rw [upd_ne A.p_db]; exact A.hp
  · show upd H g.db _ g.lh = _
    rw [upd_ne A.lh_db]; exact A.hh
  · show upd H g.db _ g.db = _
    rw [upd_same, putK_new _ (by rw [valV_dV, hn]; rfl)]
    show some (HO.dK (dV g.ba P.boxes ++ [((Sum.inl n : Key), V.ref x)])) = some (HO.dK (dV (fun m => if m = n then x else g.ba m) (P.boxes ++ [(n, b)])))
    rw [dV_snoc, dV_agree (ba := fun m => if m = n then x else g.ba m) (bb := g.ba) (fun m hm => by
      have : m ≠ n := fun z => by rw [z] at hm; exact get_none.mp hn hm
      show (if m = n then x else g.ba m) = _
      rw [if_neg this])]
    show _ = some (HO.dK (dV g.ba P.boxes ++ [((Sum.inl n : Key), V.ref (if n = n then x else g.ba n))]))
    rw [if_pos rfl]
  · show upd H g.db _ (if m = n then x else g.ba m) = some (.ins B (if m = n then dx else g.bd m) (bf (if m = n then sl else g.sa m) c.wt c.sus))
    rcases old e with ⟨rfl, rfl⟩ | ⟨q, e'⟩
    · rw [if_pos rfl, if_pos rfl, if_pos rfl, upd_ne (ne_of hx' A.hd ins_ne_dK)]; exact hx'
    · rw [if_neg q, if_neg q, if_neg q, upd_ne (A.ba_db e')]; exact A.hb m c e'
  · show upd H g.db _ (if m = n then sl else g.sa m) = some (.lst (lV c.slots))
    rcases old e with ⟨rfl, rfl⟩ | ⟨q, e'⟩
    · rw [if_pos rfl, upd_ne (ne_of hsl' A.hd lst_ne_dK)]; exact hsl'
    · rw [if_neg q, upd_ne (A.sa_db e')]; exact A.hs m c e'
  · show (if m = n then x else g.ba m) = (if k = n then x else g.ba k) → m = k
    rcases old e1 with ⟨rfl, _⟩ | ⟨q1, h1⟩
    · rcases old e2 with ⟨rfl, _⟩ | ⟨q2, h2⟩
      · intro _; rfl
      · rw [if_pos rfl, if_neg q2]
        intro z
        exact absurd z.symm (nba h2)
    · rcases old e2 with ⟨rfl, _⟩ | ⟨q2, h2⟩
      · rw [if_pos rfl, if_neg q1]
        intro z
        exact absurd z (nba h1)
      · rw [if_neg q1, if_neg q2]
        exact A.ib m k c d h1 h2
  · show (if m = n then sl else g.sa m) = (if k = n then sl else g.sa k) → m = k
    rcases old e1 with ⟨rfl, _⟩ | ⟨q1, h1⟩
    · rcases old e2 with ⟨rfl, _⟩ | ⟨q2, h2⟩
      · intro _; rfl
      · rw [if_pos rfl, if_neg q2]
        intro z
        exact absurd z.symm (nsa h2)
    · rcases old e2 with ⟨rfl, _⟩ | ⟨q2, h2⟩
      · rw [if_pos rfl, if_neg q1]
        intro z
        exact absurd z (nsa h1)
      · rw [if_neg q1, if_neg q2]
        exact A.is m k c d h1 h2
  · show (if m = n then sl else g.sa m) ≠ g.lh
    rcases old e with ⟨rfl, _⟩ | ⟨q, e'⟩
    · rw [if_pos rfl]
      intro z
      have := A.rh
      rw [← z, hsl] at this
      cases this
    · rw [if_neg q]; exact A.hn m c e'
end
/-- the pile P lies at p, its weights right; R: what else is known -/
def PileIn (C B p : Addr) (P : Pl) (R H : Hp) : Prop := (∃ g, PileAt C B p g P R H) ∧ Wf P []
end BP

/-! Piles whose slots are all empty. Own work; core Lean alone. -/
namespace BP
theorem go_nones : ∀ {m : Nat} {bs : List (Int × Bx)} {w : List (Option Int)}, (∀ x ∈ w, x = none) → go m bs w = (bs, [])
  | 0, bs, w, _ => rfl
  | m + 1, bs, [], _ => rfl
  | m + 1, bs, x :: w, h => by
    have e : x = none := h x List.mem_cons_self
    subst e
    show ((go m bs w).1, [] ++ (go m bs w).2) = (bs, [])
    rw [go_nones fun y hy => h y (List.mem_cons_of_mem _ hy)]
    rfl
theorem run_none (bs : List (Int × Bx)) : run bs [none] = (bs, []) := go_nones fun x hx => by simpa using hx
/-- a box without pointers of its own is let go -/
theorem run_some {bs : List (Int × Bx)} {n : Int} {b : Bx} (hb : get bs n = some b) (h0 : ∀ x ∈ b.slots, x = none) : run bs [some n] = if b.wt = 1 then (rm bs n, [n]) else (chg bs n low, []) := by
  show go (1 + room bs) bs [some n] = _
  rw [Nat.add_comm]
  show ((go (room bs) (fall bs [] (some n)).1 (fall bs [] (some n)).2.1).1, (fall bs [] (some n)).2.2 ++ (go (room bs) (fall bs [] (some n)).1 (fall bs [] (some n)).2.1).2) = _
  have ef : fall bs [] (some n) = if b.wt = 1 then (rm bs n, b.slots, [n]) else (chg bs n low, [], []) := by
    show (match get bs n with | none => _ | some b => _) = _
    rw [hb]
    rfl
  rw [ef]
  by_cases hw : b.wt = 1
  · rw [if_pos hw, if_pos hw, go_nones h0]
    rfl
  · rw [if_neg hw, if_neg hw, go_nones (fun x hx => by cases hx)]
    rfl
/-- all slots are empty -/
def Bare (P : Pl) : Prop := ∀ n b, get P.boxes n = some b → ∀ x ∈ b.slots, x = none
theorem cnt_nones {l : List (Option Int)} (h : ∀ x ∈ l, x = none) (n : Int) : cnt l n = 0 := by
  cases e : cnt l n with
  | zero => rfl
  | succ k =>
    have : 0 < cnt l n := by omega
    have := h _ (cnt_pos.mp this)
    cases this
theorem scnt_bare {bs : List (Int × Bx)} (hn : (keys bs).Nodup) (h : ∀ n b, get bs n = some b → ∀ x ∈ b.slots, x = none) (n : Int) : scnt bs n = 0 := by
  have h' : ∀ e ∈ bs, ∀ x ∈ e.2.slots, x = none := fun e he => h e.1 e.2 (mem_get hn he)
  clear h hn
  induction bs with
  | nil => rfl
  | cons e bs ih =>
    rw [scnt_cons, cnt_nones (h' e List.mem_cons_self), ih fun e he => h' e (List.mem_cons_of_mem _ he)]
theorem Bare.wt {P : Pl} (h : Bare P) (W : Wf P []) {n : Int} {b : Bx} (hb : get P.boxes n = some b) : b.wt = (cnt P.hands n : Int) ∧ 1 ≤ b.wt := by
  obtain ⟨a, c⟩ := W.wt n b hb
  rw [scnt_bare W.nd h n, cnt_nil] at a
  exact ⟨by omega, c⟩
theorem Bare.held {P : Pl} (h : Bare P) (W : Wf P []) (n : Int) : n ∈ keys P.boxes ↔ some n ∈ P.hands := by
  constructor
  · intro q
    obtain ⟨b, hb⟩ := get_keys.mpr q
    obtain ⟨a, c⟩ := h.wt W hb
    exact cnt_pos.mp (by omega)
  · intro q
    have := cnt_pos.mpr q
    exact get_keys.mp (W.cl n (by omega))
/-- what the hands hold, without the empty ones -/
def somes (hs : List (Option Int)) : List Int := hs.filterMap id
theorem mem_somes {hs : List (Option Int)} {n : Int} : n ∈ somes hs ↔ some n ∈ hs := by
  unfold somes
  rw [List.mem_filterMap]
  constructor
  · rintro ⟨x, hx, e⟩
    have : x = some n := e
    rw [← this]
    exact hx
  · intro h
    exact ⟨_, h, rfl⟩
theorem somes_len (hs : List (Option Int)) : (somes hs).length ≤ hs.length := List.length_filterMap_le _ _
theorem somes_cons (x : Option Int) (hs : List (Option Int)) : somes (x :: hs) = (match x with | none => somes hs | some n => n :: somes hs) := by
  cases x <;> rfl
theorem somes_append (a b : List (Option Int)) : somes (a ++ b) = somes a ++ somes b := List.filterMap_append
theorem count_somes (n : Int) : ∀ hs : List (Option Int), (somes hs).count n = cnt hs n
  | [] => rfl
  | x :: hs => by
    rw [somes_cons, cnt_cons, ← count_somes n hs]
    cases x with
    | none => simp [one]
    | some m =>
      show (m :: somes hs).count n = _
      rw [List.count_cons]
      by_cases q : m = n
      · simp [one, q]; omega
      · simp [one, q]
/-- as many alive as hands at most -/
theorem nodup_le {a : List Int} : ∀ {b : List Int}, a.Nodup → (∀ n ∈ a, n ∈ b) → a.length ≤ b.length := by
  induction a with
  | nil => intro b _ _; exact Nat.zero_le _
  | cons x a ih =>
    intro b hn h
    have hx := h x List.mem_cons_self
    have hn' := List.nodup_cons.mp hn
    have := ih (b := b.erase x) hn'.2 fun n q => (List.mem_erase_of_ne (fun z => hn'.1 (by rw [← z]; exact q))).mpr (h n (List.mem_cons_of_mem _ q))
    rw [List.length_erase_of_mem hx] at this
    have : 0 < b.length := List.length_pos_of_mem hx
    rw [List.length_cons]
    omega
theorem Bare.few {P : Pl} (h : Bare P) (W : Wf P []) : P.boxes.length ≤ 8 := by
  have e : (keys P.boxes).length = P.boxes.length := List.length_map _
  have h1 := nodup_le (b := somes P.hands) W.nd fun n q => mem_somes.mpr ((h.held W n).mp q)
  have h2 := somes_len P.hands
  rw [W.hl] at h2
  omega

/-! ### a box made -/
theorem Bare.born {P : Pl} (h : Bare P) (W : Wf P []) (size : Nat) : Bare (born P size) := fun n b e => by
  rw [get_born W size] at e
  by_cases q : n = P.made
  · rw [if_pos q] at e
    have := Option.some.inj e
    subst this
    intro x hx
    exact List.eq_of_mem_replicate hx
  · rw [if_neg q] at e
    exact h n b e
theorem slots_bumped {bs : List (Int × Bx)} {x : Option Int} (h : ∀ n b, get bs n = some b → ∀ y ∈ b.slots, y = none) : ∀ n b, get (bumped bs x) n = some b → ∀ y ∈ b.slots, y = none := fun n b e => by
  rw [get_bumped] at e
  cases g : get bs n with
  | none => rw [g] at e; cases e
  | some d =>
    rw [g] at e
    have e2 : (if x = some n then bump d else d) = b := Option.some.inj e
    subst e2
    have := h n d g
    by_cases q : x = some n
    · rw [if_pos q]; exact this
    · rw [if_neg q]; exact this
/-- a hand points at x: what becomes of the pile whose slots are empty -/
theorem ptHand_none {P : Pl} {h : Nat} {x : Option Int} (e : P.hands.getD h none = none) : ptHand P h x = ({ P with hands := P.hands.set h x, boxes := bumped P.boxes x }, []) := by
  unfold ptHand
  rw [e, run_none]
theorem ptHand_some {P : Pl} {h : Nat} {x : Option Int} {n : Int} {b : Bx} (B : Bare P) (e : P.hands.getD h none = some n) (hb : get P.boxes n = some b) :
    ptHand P h x = if (if x = some n then b.wt + 1 else b.wt) = 1 then ({ P with hands := P.hands.set h x, boxes := rm (bumped P.boxes x) n }, [n]) else ({ P with hands := P.hands.set h x, boxes := chg (bumped P.boxes x) n low }, []) := by
  have hb' : get (bumped P.boxes x) n = some (if x = some n then bump b else b) := by rw [get_bumped, hb]; rfl
  unfold ptHand
  rw [e, run_some hb' (slots_bumped B n _ hb')]
  have : (if x = some n then bump b else b).wt = (if x = some n then b.wt + 1 else b.wt) := by
    by_cases q : x = some n
    · rw [if_pos q, if_pos q]; rfl
    · rw [if_neg q, if_neg q]
  rw [this]
  by_cases q : (if x = some n then b.wt + 1 else b.wt) = 1
  · rw [if_pos q, if_pos q]
  · rw [if_neg q, if_neg q]
/-! ### each alive box is held once, none is a suspect -/
def lone : Option Int → List Int
  | none => []
  | some n => [n]
def One (P : Pl) : Prop := Bare P ∧ ∀ n b, get P.boxes n = some b → b.wt = 1 ∧ b.sus = false
theorem mk_one {P : Pl} (W : Wf P []) (O : One P) {h size : Nat} (hi : h < 8) (hs : size ≤ 6) :
    One (mk P h size).1 ∧ (mk P h size).1.hands = P.hands.set h (some P.made) ∧ (mk P h size).1.made = P.made + 1 ∧ (mk P h size).2 = lone (P.hands.getD h none) ∧
      get (mk P h size).1.boxes P.made = some ⟨List.replicate size none, 1, false⟩ := by
  have gb : ∀ n, get (bumped (born P size).boxes (some P.made)) n = if n = P.made then some ⟨List.replicate size none, 1, false⟩ else get P.boxes n := fun n => by
    rw [get_bumped, get_born W]
    by_cases q : n = P.made
    · rw [if_pos q, if_pos q, q]
      show some (if some P.made = some P.made then _ else _) = _
      rw [if_pos rfl]
      rfl
    · rw [if_neg q, if_neg q]
      cases get P.boxes n with
      | none => rfl
      | some b =>
        show some (if some P.made = some n then _ else _) = _
        rw [if_neg fun z => q (Option.some.inj z).symm]
  have one : ∀ n b, (if n = P.made then some (⟨List.replicate size none, 1, false⟩ : Bx) else get P.boxes n) = some b → (b.wt = 1 ∧ b.sus = false) ∧ ∀ x ∈ b.slots, x = none := fun n b e => by
    by_cases q : n = P.made
    · rw [if_pos q] at e
      have := Option.some.inj e
      subst this
      exact ⟨⟨rfl, rfl⟩, fun x hx => List.eq_of_mem_replicate hx⟩
    · rw [if_neg q] at e
      exact ⟨O.2 n b e, O.1 n b e⟩
  unfold mk
  cases e : P.hands.getD h none with
  | none =>
    rw [ptHand_none (P := born P size) e]
    refine ⟨⟨fun n b g => ?_, fun n b g => ?_⟩, rfl, rfl, rfl, ?_⟩
    · have g' := (gb n).symm.trans g
      exact (one n b g').2
    · have g' := (gb n).symm.trans g
      exact (one n b g').1
    · exact (gb P.made).trans (if_pos rfl)
  | some n =>
    obtain ⟨b, hb⟩ := W.hand e
    have nm : n ≠ P.made := fun z => by
      have := (W.lo n (get_keys.mp ⟨b, hb⟩)).2
      omega
    have hb' : get (born P size).boxes n = some b := by rw [get_born W, if_neg nm]; exact hb
    have nx : ¬ (some P.made = some n) := fun z => nm (Option.some.inj z).symm
    rw [ptHand_some (P := born P size) (Bare.born O.1 W size) e hb', if_neg nx, if_pos (O.2 n b hb).1]
    have gr : ∀ m, get (rm (bumped (born P size).boxes (some P.made)) n) m = if m = n then none else (if m = P.made then some ⟨List.replicate size none, 1, false⟩ else get P.boxes m) := fun m => by
      rw [get_rm, gb]
    refine ⟨⟨fun m c g => ?_, fun m c g => ?_⟩, rfl, rfl, rfl, ?_⟩
    · have g' := (gr m).symm.trans g
      by_cases q : m = n
      · rw [if_pos q] at g'; cases g'
      · rw [if_neg q] at g'
        exact (one m c g').2
    · have g' := (gr m).symm.trans g
      by_cases q : m = n
      · rw [if_pos q] at g'; cases g'
      · rw [if_neg q] at g'
        exact (one m c g').1
    · exact (gr P.made).trans (by rw [if_neg nm.symm, if_pos rfl])
theorem count_nodup {l : List Int} (h : l.Nodup) (n : Int) : l.count n = if n ∈ l then 1 else 0 := by
  by_cases q : n ∈ l
  · rw [if_pos q]
    have h1 := List.count_pos_iff.mpr q
    have h2 := List.nodup_iff_count.mp h n
    omega
  · rw [if_neg q]
    exact List.count_eq_zero.mpr q
/-- what is alive is what hands hold, each once -/
theorem One.perm {P : Pl} (W : Wf P []) (O : One P) : (somes P.hands).Perm (keys P.boxes) := by
  rw [List.perm_iff_count]
  intro n
  rw [count_somes, count_nodup W.nd]
  by_cases q : n ∈ keys P.boxes
  · rw [if_pos q]
    obtain ⟨b, hb⟩ := get_keys.mpr q
    have h1 := (O.1.wt W hb).1
    rw [(O.2 n b hb).1] at h1
    omega
  · rw [if_neg q]
    have := mt (O.1.held W n).mpr q
    cases e : cnt P.hands n with
    | zero => rfl
    | succ k => exact absurd (cnt_pos.mp (by omega)) this
theorem one0 : One pl0 := ⟨fun n b e => by simp [pl0, get_nil] at e, fun n b e => by simp [pl0, get_nil] at e⟩
end BP

/-! Hands that hold boxes without pointers: what a deed frees, who is a suspect. Own work; core Lean alone. -/
namespace BP
/-- what a hand lets go of is freed where no hand holds it any more -/
def gone (hs : List (Option Int)) : Option Int → List Int
  | none => []
  | some n => if cnt hs n = 0 then [n] else []
theorem gone_sub {hs : List (Option Int)} {o : Option Int} {n : Int} : n ∈ gone hs o ↔ o = some n ∧ cnt hs n = 0 := by
  cases o with
  | none => simp [gone]
  | some m =>
    show (n ∈ if cnt hs m = 0 then [m] else []) ↔ _
    by_cases c : cnt hs m = 0
    · rw [if_pos c, List.mem_singleton]
      constructor
      · intro e; subst e; exact ⟨rfl, c⟩
      · rintro ⟨e, _⟩; exact (Option.some.inj e).symm
    · rw [if_neg c]
      constructor
      · intro e; cases e
      · rintro ⟨e, z⟩
        have : m = n := Option.some.inj e
        subst this
        exact absurd z c
/-- weights of boxes without pointers, the new one's too -/
theorem Pre.bareWt {P : Pl} {x : Option Int} (h : Pre P x) (B : Bare P) {n : Int} {b : Bx} (hb : get P.boxes n = some b) : b.wt = (cnt P.hands n : Int) := by
  have := (h.wt n b hb).1
  rw [scnt_bare (nodup_lt h.ks) B n] at this
  omega
structure HeldStep (P : Pl) (h : Nat) (x : Option Int) : Prop where
  bare : Bare (ptHand P h x).1
  hands : (ptHand P h x).1.hands = P.hands.set h x
  made : (ptHand P h x).1.made = P.made
  freed : (ptHand P h x).2 = gone (P.hands.set h x) (P.hands.getD h none)
  sus : ∀ m, (∃ b, get (ptHand P h x).1.boxes m = some b ∧ b.sus = true) ↔ (m ∉ gone (P.hands.set h x) (P.hands.getD h none) ∧ ((∃ b, get P.boxes m = some b ∧ b.sus = true) ∨ (P.hands.getD h none = some m)))
theorem heldStep {P : Pl} {x : Option Int} (B : Bare P) (h : Pre P x) {i : Nat} (hi : i < 8) : HeldStep P i x := by
  have gbs : ∀ m, get (bumped P.boxes x) m = (get P.boxes m).map fun b => if x = some m then bump b else b := fun m => get_bumped
  have sb : ∀ m b, get (bumped P.boxes x) m = some b → ∃ d, get P.boxes m = some d ∧ b.sus = d.sus ∧ b.slots = d.slots := fun m b e => by
    rw [gbs] at e
    cases g : get P.boxes m with
    | none => rw [g] at e; cases e
    | some d =>
      rw [g] at e
      have e2 : (if x = some m then bump d else d) = b := Option.some.inj e
      subst e2
      refine ⟨d, rfl, ?_⟩
      by_cases q : x = some m
      · rw [if_pos q]; exact ⟨rfl, rfl⟩
      · rw [if_neg q]; exact ⟨rfl, rfl⟩
  have sb2 : ∀ m d, get P.boxes m = some d → ∃ b, get (bumped P.boxes x) m = some b ∧ b.sus = d.sus := fun m d e => by
    rw [gbs, e]
    refine ⟨_, rfl, ?_⟩
    show (if x = some m then bump d else d).sus = d.sus
    by_cases q : x = some m
    · rw [if_pos q]; rfl
    · rw [if_neg q]
  have hold := getD_some (l := P.hands) (i := i) (by rw [h.hl]; exact hi)
  cases e : P.hands.getD i none with
  | none =>
    have ep := ptHand_none (P := P) (x := x) e
    rw [e] at hold
    refine ⟨?_, by rw [ep], by rw [ep], by rw [ep, e]; rfl, fun m => ?_⟩
    · rw [ep]
      intro n b g
      obtain ⟨d, hd, _, es⟩ := sb n b g
      rw [es]
      exact B n d hd
    · rw [ep, e]
      constructor
      · rintro ⟨b, g, s⟩
        obtain ⟨d, hd, es, _⟩ := sb m b g
        exact ⟨fun z => (by cases z), .inl ⟨d, hd, by rw [← es]; exact s⟩⟩
      · rintro ⟨_, z | z⟩
        · obtain ⟨d, hd, s⟩ := z
          obtain ⟨b, g, es⟩ := sb2 m d hd
          exact ⟨b, g, by rw [es]; exact s⟩
        · cases z
  | some n =>
    rw [e] at hold
    obtain ⟨b, hb⟩ : ∃ b, get P.boxes n = some b := h.cl n (by
      have : 0 < cnt P.hands n := cnt_pos.mpr (List.mem_of_getElem? hold)
      omega)
    have ep := ptHand_some (x := x) B e hb
    have ew := h.bareWt B hb
    have ec := cnt_set x n hold
    have o1 : one (some n) n = 1 := by simp [one]
    rw [o1] at ec
    have key : ((if x = some n then b.wt + 1 else b.wt) = 1) ↔ cnt (P.hands.set i x) n = 0 := by
      by_cases q : x = some n
      · rw [if_pos q]
        have : one x n = 1 := by simp [one, q]
        rw [this] at ec
        omega
      · rw [if_neg q]
        have : one x n = 0 := by simp [one, q]
        rw [this] at ec
        omega
    by_cases c : cnt (P.hands.set i x) n = 0
    · rw [if_pos (key.mpr c)] at ep
      have eg : gone (P.hands.set i x) (some n) = [n] := if_pos c
      refine ⟨?_, by rw [ep], by rw [ep], by rw [ep, e, eg], fun m => ?_⟩
      · rw [ep]
        intro m d g
        have g' : get (rm (bumped P.boxes x) n) m = some d := g
        rw [get_rm] at g'
        by_cases q : m = n
        · rw [if_pos q] at g'; cases g'
        · rw [if_neg q] at g'
          obtain ⟨d2, hd, _, es⟩ := sb m d g'
          rw [es]
          exact B m d2 hd
      · rw [ep, e, eg]
        constructor
        · rintro ⟨d, g, s⟩
          have g' : get (rm (bumped P.boxes x) n) m = some d := g
          rw [get_rm] at g'
          by_cases q : m = n
          · rw [if_pos q] at g'; cases g'
          · rw [if_neg q] at g'
            obtain ⟨d2, hd, es, _⟩ := sb m d g'
            exact ⟨fun z => q (List.mem_singleton.mp z), .inl ⟨d2, hd, by rw [← es]; exact s⟩⟩
        · rintro ⟨nm, z⟩
          have q : m ≠ n := fun z => nm (List.mem_singleton.mpr z)
          rcases z with ⟨d, hd, s⟩ | z
          · obtain ⟨d2, g, es⟩ := sb2 m d hd
            refine ⟨d2, ?_, by rw [es]; exact s⟩
            show get (rm (bumped P.boxes x) n) m = some d2
            rw [get_rm, if_neg q]
            exact g
          · exact absurd (Option.some.inj z).symm q
    · rw [if_neg (mt key.mp c)] at ep
      have eg : gone (P.hands.set i x) (some n) = [] := if_neg c
      refine ⟨?_, by rw [ep], by rw [ep], by rw [ep, e, eg], fun m => ?_⟩
      · rw [ep]
        intro m d g
        have g' : get (chg (bumped P.boxes x) n low) m = some d := g
        rw [get_chg] at g'
        cases g2 : get (bumped P.boxes x) m with
        | none => rw [g2] at g'; cases g'
        | some d2 =>
          rw [g2] at g'
          have e2 : (if m = n then low d2 else d2) = d := Option.some.inj g'
          obtain ⟨d3, hd, _, es⟩ := sb m d2 g2
          have : d.slots = d3.slots := by
            rw [← e2, ← es]
            by_cases q : m = n
            · rw [if_pos q]; rfl
            · rw [if_neg q]
          rw [this]
          exact B m d3 hd
      · rw [ep, e, eg]
        constructor
        · rintro ⟨d, g, s⟩
          have g' : get (chg (bumped P.boxes x) n low) m = some d := g
          rw [get_chg] at g'
          cases g2 : get (bumped P.boxes x) m with
          | none => rw [g2] at g'; cases g'
          | some d2 =>
            rw [g2] at g'
            have e2 : (if m = n then low d2 else d2) = d := Option.some.inj g'
            obtain ⟨d3, hd, es, _⟩ := sb m d2 g2
            refine ⟨fun z => (by cases z), ?_⟩
            by_cases q : m = n
            · exact .inr (by rw [q])
            · rw [if_neg q] at e2
              subst e2
              exact .inl ⟨d3, hd, by rw [← es]; exact s⟩
        · rintro ⟨_, z⟩
          have : ∃ d, get P.boxes m = some d ∧ (m = n ∨ d.sus = true) := by
            rcases z with ⟨d, hd, s⟩ | z
            · exact ⟨d, hd, .inr s⟩
            · have : n = m := Option.some.inj z
              subst this
              exact ⟨b, hb, .inl rfl⟩
          obtain ⟨d, hd, s⟩ := this
          obtain ⟨d2, g, es⟩ := sb2 m d hd
          refine ⟨if m = n then low d2 else d2, ?_, ?_⟩
          · show get (chg (bumped P.boxes x) n low) m = _
            rw [get_chg, g]
            rfl
          · by_cases q : m = n
            · rw [if_pos q]; rfl
            · rw [if_neg q, es]
              exact s.resolve_left q
/-- D names just the suspects, each once -/
def Doubt (D : List Int) (P : Pl) : Prop := D.Nodup ∧ ∀ n, n ∈ D ↔ ∃ b, get P.boxes n = some b ∧ b.sus = true
theorem doubt0 : Doubt [] pl0 := ⟨List.nodup_nil, fun n => ⟨fun h => (by cases h), fun ⟨b, e, _⟩ => by simp [pl0, get_nil] at e⟩⟩
theorem Doubt.born {D : List Int} {P : Pl} (h : Doubt D P) (W : Wf P []) (size : Nat) : Doubt D (born P size) := ⟨h.1, fun n => by
  rw [h.2 n]
  constructor
  · rintro ⟨b, hb, s⟩
    refine ⟨b, ?_, s⟩
    have : n ≠ P.made := fun z => by
      have := (W.lo n (get_keys.mp ⟨b, hb⟩)).2
      omega
    rw [get_born W, if_neg this]
    exact hb
  · rintro ⟨b, hb, s⟩
    rw [get_born W] at hb
    by_cases q : n = P.made
    · rw [if_pos q] at hb
      have := Option.some.inj hb
      rw [← this] at s
      cases s
    · rw [if_neg q] at hb
      exact ⟨b, hb, s⟩⟩
/-- how the law goes on with them: the old one comes to them, what is freed goes -/
def doubted (D : List Int) (hs : List (Option Int)) (o : Option Int) : List Int :=
  match o with
  | none => D
  | some n => if cnt hs n = 0 then D else if n ∈ D then D else D ++ [n]
theorem doubted_nodup {D : List Int} {hs : List (Option Int)} {o : Option Int} (h : D.Nodup) : (doubted D hs o).Nodup := by
  unfold doubted
  cases o with
  | none => exact h
  | some n =>
    show (if cnt hs n = 0 then D else if n ∈ D then D else D ++ [n]).Nodup
    by_cases c : cnt hs n = 0
    · rw [if_pos c]; exact h
    · rw [if_neg c]
      by_cases q : n ∈ D
      · rw [if_pos q]; exact h
      · rw [if_neg q, List.nodup_append]
        refine ⟨h, by simp, fun a ha b hb => ?_⟩
        have : b = n := by simpa using hb
        subst this
        exact fun z => q (by rw [← z]; exact ha)
theorem mem_doubted {D : List Int} {hs : List (Option Int)} {o : Option Int} {m : Int} : m ∈ doubted D hs o ↔ m ∈ D ∨ (o = some m ∧ cnt hs m ≠ 0) := by
  unfold doubted
  cases o with
  | none => simp
  | some n =>
    show m ∈ (if cnt hs n = 0 then D else if n ∈ D then D else D ++ [n]) ↔ _
    by_cases c : cnt hs n = 0
    · rw [if_pos c]
      constructor
      · exact .inl
      · rintro (z | ⟨z, y⟩)
        · exact z
        · have : n = m := Option.some.inj z
          subst this
          exact absurd c y
    · rw [if_neg c]
      by_cases q : n ∈ D
      · rw [if_pos q]
        constructor
        · exact .inl
        · rintro (z | ⟨z, y⟩)
          · exact z
          · have : n = m := Option.some.inj z
            subst this
            exact q
      · rw [if_neg q, List.mem_append, List.mem_singleton]
        constructor
        · rintro (z | z)
          · exact .inl z
          · subst z; exact .inr ⟨rfl, c⟩
        · rintro (z | ⟨z, y⟩)
          · exact .inl z
          · exact .inr (Option.some.inj z).symm
theorem Doubt.step {D : List Int} {P : Pl} {i : Nat} {x : Option Int} (h : Doubt D P) (S : HeldStep P i x) :
    Doubt ((doubted D (P.hands.set i x) (P.hands.getD i none)).filter fun n => decide (n ∉ gone (P.hands.set i x) (P.hands.getD i none))) (ptHand P i x).1 := by
  refine ⟨(doubted_nodup h.1).filter _, fun m => ?_⟩
  rw [S.sus m, List.mem_filter, mem_doubted, h.2 m, decide_eq_true_iff]
  constructor
  · rintro ⟨a | ⟨a, b⟩, c⟩
    · exact ⟨c, .inl a⟩
    · exact ⟨c, .inr a⟩
  · rintro ⟨c, a | a⟩
    · exact ⟨.inl a, c⟩
    · refine ⟨.inr ⟨a, fun z => c (gone_sub.mpr ⟨a, z⟩)⟩, c⟩
theorem mem_susp {P : Pl} {n : Int} : n ∈ susp P ↔ ∃ b, get P.boxes n = some b ∧ b.sus = true := by
  unfold susp
  rw [List.mem_filter]
  constructor
  · rintro ⟨_, e⟩
    cases g : get P.boxes n with
    | none => rw [g] at e; cases e
    | some b =>
      rw [g] at e
      exact ⟨b, rfl, e⟩
  · rintro ⟨b, g, s⟩
    refine ⟨get_keys.mp ⟨b, g⟩, ?_⟩
    rw [g]
    exact s
theorem susp_sorted {P : Pl} {w : List (Option Int)} (W : Wf P w) : (susp P).Pairwise (· < ·) := W.ks.filter _
theorem perm_of_mem {a b : List Int} (ha : a.Nodup) (hb : b.Nodup) (h : ∀ n, n ∈ a ↔ n ∈ b) : a.Perm b := by
  rw [List.perm_iff_count]
  intro n
  rw [count_nodup ha, count_nodup hb]
  by_cases q : n ∈ a
  · rw [if_pos q, if_pos ((h n).mp q)]
  · rw [if_neg q, if_neg (mt (h n).mpr q)]
theorem Doubt.perm {D : List Int} {P : Pl} {w : List (Option Int)} (h : Doubt D P) (W : Wf P w) : D.Perm (susp P) :=
  perm_of_mem h.1 (nodup_lt (susp_sorted W)) fun n => by rw [h.2 n, mem_susp]
theorem sorted_mem_eq {a b : List Int} (ha : a.Pairwise (· < ·)) (hb : b.Pairwise (· < ·)) (h : ∀ n, n ∈ a ↔ n ∈ b) : a = b :=
  (perm_of_mem (nodup_lt ha) (nodup_lt hb) h).eq_of_pairwise (fun x y _ _ h1 h2 => Int.le_antisymm h1 h2) (ha.imp fun h => Int.le_of_lt h) (hb.imp fun h => Int.le_of_lt h)
end BP

/-! set(xs) of a list of ints, as a set that can be walked. Own work. -/
namespace BP
open PySem PySem.Spec PyProof.Rows L2
/-- a set without members, as it is made -/
abbrev noSet (w : World) : Obj := { cls := .type "set", dict := none, data := .set #[] 0 (.fresh 0 0 (!w.params.followText "set-order")) }
section
variable {P : Program} {w : World} {A : Around} {E : Value → Shared → Prop} {s : Shared}
theorem list_ints_at {items : Array Value} {ns : List Int} (hit : IntsAre items.toList ns) (hz : items.size = ns.length) : ∀ (i : Nat) (v : Value), items[i]? = some v → ∃ k t, ns[i]? = some k ∧ v = .int k t := by
  intro i v hv
  have hi : i < ns.length := hz ▸ (Array.getElem?_eq_some_iff.mp hv).1
  obtain ⟨t, e⟩ := IntsAre.int_at hit i v ((Array.getElem?_toList (xs := items) (i := i)).trans hv)
  have eg : ns.getD i 0 = ns[i] := by rw [List.getD_eq_getElem?_getD, List.getElem?_eq_getElem hi]; rfl
  exact ⟨ns[i], t, List.getElem?_eq_getElem hi, by rw [e, eg]⟩
theorem set_of_list {l : Addr} {items : Array Value} (ns : List Int) {Q : Value → Shared → Prop} (hh : A.handled = none) (hl : s.heap.IsList l items) (hit : IntsAre items.toList ns) (hb : ns.length + 1 < scanBound)
    (h : ∀ (h' : Heap) (tk c : Nat), SetR w h' s.heap.objs.size (fun j => decide (j ∈ ns)) c → c ≤ ns.length → (∀ b o, s.heap.get? b = some o → h'.get? b = some o) → Q (.ref s.heap.objs.size) { s with heap := h', toks := tk }) :
    wpAny (model P w) A (call (.type "set") [.ref l]) Q E s := by
  have hz : items.size = ns.length := (Array.length_toList (xs := items)).symm.trans (IntsAre.length hit)
  obtain ⟨c, tl, hmro⟩ := F.called_set.mro
  have m1 := F.called_set.made; have m2 := F.called_set.sub
  refine wpAny_call (codeAny_of_tree (show wpAny _ _ (callAny (.type "set") _) _ _ _ from wpAny_pure ⟨Code.quiet_builtin _ (by decide +kernel), codeAny_builtin F.entry_type_call ?_⟩))
  rw [Around.under_plain (weight_type_call_type "set" [.ref l] []) rfl]
  have m3 := F.called_set.notType; have m4 := F.called_set.canCreate; have m5 := F.typeCall_set_1 (.ref l)
  repeat any_goals first | assumption | wp_step
  refine codeAny_mono (code_set_led1 (.ref l) (E := E) (Q₁ := fun v s₁ => v = .ref s.heap.objs.size ∧ s₁ = { s with heap := s.heap.push (noSet w) }) ⟨rfl, rfl⟩) fun r s₁ hr => ?_
  cases r with
  | error e => exact hr
  | ok fl =>
    cases fl with
    | next => exact hr.elim
    | brk => exact hr.elim
    | cont => exact hr.elim
    | ret v =>
      obtain ⟨rfl, rfl⟩ := hr
      have hS : (s.heap.push (noSet w)).get? s.heap.objs.size = some (noSet w) := Heap.get?_push_size _ rfl
      have hT : Shared.TypeIs { s with heap := s.heap.push (noSet w) } (.ref s.heap.objs.size) "set" := ⟨_, hS, rfl⟩
      have i1 := F.called_set.init.lookup; have i2 := F.called_set.init.bind (.ref s.heap.objs.size)
      repeat any_goals first | assumption | wp_step
      refine codeAny_mono (codeAny_call_builtin (R := wants (fun v s₂ => v = .none ∧ ∃ h' tk c, s₂ = { s with heap := h', toks := tk } ∧ SetR w h' s.heap.objs.size (fun j => decide (j ∈ ns)) c ∧ c ≤ ns.length ∧ (∀ b o, s.heap.get? b = some o → h'.get? b = some o)) E)
        F.called_set.init.plain F.entry_set_init (check_set_init_1 hT ?_)) fun r₂ s₂ hr₂ => ?_
      · obtain ⟨⟨ocls, odict, odata, oslots⟩, hol, hcl, nl, hdl⟩ := hl
        dsimp only at hcl hdl
        subst hcl hdl
        have hol' : (s.heap.push (noSet w)).get? l = some { cls := .type "list", dict := odict, data := .seq items nl, slots := oslots } := Heap.get?_push_of_some _ hol
        have n1 := F.sub_list_set; have n2 := F.sub_list_frozenset
        have n3 : (Value.type "list" == Value.type "dict") = false := by decide
        have hl1 : (s.heap.push (noSet w)).IsList l items := ⟨_, hol', rfl, nl, rfl⟩
        unfold Builtin.«set.__init__» noKeywords Builtin.Frozenset.updateFrom
        generalize hPI : pyIter = PI
        wp_walk
        subst hPI
        refine wpAny_pyIter_list hl1 (wpAny_bind (wpAny_runValue ?_))
        have lS : l < s.heap.objs.size := Heap.lt_size hol
        have h3 : A.in1.in1.in1.handled = none := by simp [hh]
        have zS : (s.heap.push (noSet w)).objs.size = s.heap.objs.size + 1 := Heap.size_push ..
        have nI : l ≠ (s.heap.push (noSet w)).objs.size := Nat.ne_of_lt (by rw [zS]; exact Nat.lt_succ_of_lt lS)
        have nS : s.heap.objs.size ∉ [(s.heap.push (noSet w)).objs.size, l] := by
          rw [zS]
          intro q
          simp only [List.mem_cons, List.not_mem_nil, or_false] at q
          rcases q with q | q
          · exact absurd q (Nat.ne_of_lt (Nat.lt_succ_self _))
          · exact absurd q (Nat.ne_of_gt lS)
        refine set_update_ints ((Walks.list h3 _ l nI items).toS) s.heap.objs.size nS ns hz hb (list_ints_at hit hz) (items.size - 0) 0 _ (by omega) (Nat.zero_le _) ⟨⟨_, Heap.get?_push_size _ rfl, rfl, rfl⟩, (hl1.push _)⟩ ⟨0, Nat.le_refl 0, setR_new_at (Heap.get?_push_of_some _ hS)⟩ fun s' c' hm hc' hS' => ?_
        obtain ⟨h', g2, d', tk', os'⟩ := s'
        obtain rfl : g2 = s.gens := hm.gens
        obtain rfl : d' = s.drawn := hm.drawn
        obtain rfl : os' = s.os := hm.os
        refine wpAny_pure (wpAny_pure ⟨rfl, h', tk', c', rfl, hS', by omega, fun b o e => ?_⟩)
        have b0 : b < s.heap.objs.size := Heap.lt_size e
        refine hm.heap b o (fun q => ?_) (Heap.get?_push_of_some _ (Heap.get?_push_of_some _ e))
        rw [zS] at q
        simp only [List.mem_cons, List.not_mem_nil, or_false] at q
        rcases q with q | q
        · exact absurd q (Nat.ne_of_lt b0)
        · exact absurd q (Nat.ne_of_lt (Nat.lt_succ_of_lt b0))
      · cases r₂ with
        | error e => exact hr₂
        | ok fl₂ =>
          cases fl₂ with
          | next => exact hr₂.elim
          | brk => exact hr₂.elim
          | cont => exact hr₂.elim
          | ret v =>
            obtain ⟨rfl, h', tk, c', rfl, hS', hc', hk'⟩ := hr₂
            repeat any_goals first | assumption | wp_step
            exact h _ _ _ hS' hc' hk'
end
section
variable {X : Cx}
theorem ints_from : ∀ (ns : List Int) {us : List Value}, Vals (ns.map V.int) us → IntsAre us ns
  | [], _, r => by cases r; exact .nil
  | n :: ns, _, r => by
    cases r with
    | cons h t =>
      obtain ⟨k, rfl⟩ := h
      exact .cons n k (ints_from ns t)
/-- set(xs), xs a list of ints -/
def rSetL (K : PySem.W.Frag) (w : World) : List V → Hp → VK → Prop := fun xs H Q => ∃ (l : Addr) (ns : List Int), xs = [.ref l] ∧ SqL K H l (ns.map V.int) ∧ ns.length < 64 ∧ ∀ (p : Addr) (c : Nat), c ≤ ns.length → H p = none → Q (.ref p) (upd H p (SetO w p (fun j => decide (j ∈ ns)) c))
theorem cr_setL (hc : X.calm = true) : CallR X (.type "set") (rSetL X.K X.w) := by
  intro pins s σ H xs us Q I r h
  obtain ⟨l, ns, rfl, hS, h64, q⟩ := h
  obtain ⟨u, rfl, ru⟩ := vals1 r
  cases ru
  obtain ⟨its, rv, pl, hz⟩ := I.list hS
  have hi : IntsAre its.toArray.toList ns := by simpa using ints_from ns rv
  refine set_of_list ns (I.ok.hd hc) pl.isList hi (by unfold scanBound; omega) fun h' tk c R hle k => ?_
  have hn : H s.heap.objs.size = none := I.hok.fresh (Nat.le_refl _)
  exact ⟨.ref _, upd H s.heap.objs.size (SetO X.w s.heap.objs.size (fun j => decide (j ∈ ns)) c), I.laid (t' := tk) k (Nat.le_refl _) (setO_new R), rfl, q _ c hle hn⟩
end
end BP

namespace BP
open PySem L2
/-! ### the text by places -/
def top (i : Nat) : Stmt := PySem.Challenge.pw_boxpile_k02_hands_hold.main.body.getD i (.Pass ⟨0, 0, 0, 0⟩)
abbrev sBoxInit : Stmt := inClass (top 12) 0
abbrev sInit : Stmt := inClass (top 13) 0
abbrev sMake : Stmt := inClass (top 13) 1
abbrev sHold : Stmt := inClass (top 13) 2
abbrev sDrop : Stmt := inClass (top 13) 3
abbrev sPut : Stmt := inClass (top 13) 4
abbrev sEmpty : Stmt := inClass (top 13) 5
abbrev sTake : Stmt := inClass (top 13) 6
abbrev sSlotsWith : Stmt := inClass (top 13) 14
abbrev sHolds : Stmt := inClass (top 13) 7
abbrev sPoints : Stmt := inClass (top 13) 8
abbrev sWeighs : Stmt := inClass (top 13) 9
abbrev sAlive : Stmt := inClass (top 13) 10
abbrev sSuspects : Stmt := inClass (top 13) 11
abbrev sBox : Stmt := inClass (top 13) 13
abbrev sPoint : Stmt := inClass (top 13) 15
abbrev sLetGo : Stmt := inClass (top 13) 16
abbrev sCheck : Stmt := top 14
abbrev sCheckSlot : Stmt := top (14 + 1)
abbrev sClear : Stmt := inClass (top 13) 12

/-- an error class of the text -/
structure Err (K : PySem.W.Frag) (mg : Str → Option Value) (x : Str) (E : Addr) : Prop where
  g : mg x = some (.ref E)
  x : PySem.W.excIn K E [.type "ValueError", .type "Exception", .type "BaseException", .type "object"] "ValueError.__new__" = true
  k : PySem.W.keepIn K (.ref E) = true
  b : PySem.W.subIn K (.ref E) (.type "BaseException") = some true
  t : PySem.W.typeIn K (.ref E) = some (.type "type")
/-- what the top has made -/
structure Txt (K : PySem.W.Frag) (mg : Str → Option Value) (C B eH eS eF eB eL : Addr) : Prop where
  clC : Cls K C
  nH : NoAttr K C "_hands"
  nB : NoAttr K C "_boxes"
  nM : NoAttr K C "_made"
  clB : Cls K B
  nS : NoAttr K B "slots"
  nW : NoAttr K B "weight"
  nU : NoAttr K B "suspect"
  mgC : mg "Pile" = some (.ref C)
  mgB : mg "Box" = some (.ref B)
  len : mg "len" = none
  list : mg "list" = none
  sorted : mg "sorted" = none
  hands : ∃ t, mg "HANDS" = some (.int 8 t)
  most : ∃ t, mg "MOST_SLOTS" = some (.int 6 t)
  alive : ∃ t, mg "MOST_ALIVE" = some (.int 60 t)
  eH : Err K mg "NoHand" eH
  eS : Err K mg "NoSize" eS
  eF : Err K mg "Full" eF
  eB : Err K mg "NoBox" eB
  eL : Err K mg "NoSlot" eL

/-! ### promises -/
def spCheck (eH : Addr) : Sp := fun vs H Q E => ∃ h : Int, vs = [.int h] ∧ ((0 ≤ h ∧ h < 8) → Q .non H) ∧ (¬ (0 ≤ h ∧ h < 8) → E (.ref eH) none H)
def spBoxInit (B : Addr) : Sp := fun vs H Q _ => ∃ (x dx : Addr) (n : Nat), vs = [.ref x, .int n] ∧ n ≤ 6 ∧ H x = some (.ins B dx []) ∧
  ∀ l sl, H l = none → upd H l (.lst [.non]) sl = none → Q .non (upd (upd (upd H l (.lst [.non])) sl (.lst (lV (List.replicate n none)))) x (.ins B dx (bf sl 0 false)))
def spInit (C B : Addr) : Sp := fun vs H Q _ => ∃ (R : Hp) (p dx : Addr), vs = [.ref p] ∧ Same R H ∧ R p = none ∧ H p = some (.ins C dx []) ∧ ∀ (g : Geo) (H' : Hp), PileAt C B p g pl0 R H' → Q .non H'
def spLetGo (C B : Addr) : Sp := fun vs H Q _ => ∃ (p : Addr) (g : Geo) (P : Pl) (R : Hp) (x : Option Int), vs = [.ref p, oV x] ∧ PileAt C B p g P R H ∧ Wf P [x] ∧
  ∀ (l : Addr) (H' : Hp), R l = none → PileAt C B p g { P with boxes := (run P.boxes [x]).1 } (upd R l (.lst ((run P.boxes [x]).2.map V.int))) H' → Q (.ref l) H'
/-- a pointer at a place of a list (the hands', or the slots of a box): S is the pile with the new one there -/
def spPoint (C B : Addr) : Sp := fun vs H Q _ => ∃ (p a : Addr) (g : Geo) (P S : Pl) (R : Hp) (x : Option Int) (l : List (Option Int)) (i : Nat), vs = [.ref p, .ref a, .int i, oV x] ∧ PileAt C B p g P R H ∧ (∀ n, x = some n → ∃ b, get P.boxes n = some b) ∧ i < l.length ∧
  (∀ H1, PileAt C B p g { P with boxes := bumped P.boxes x } R H1 → H1 a = some (.lst (lV l)) ∧ PileAt C B p g S R (upd H1 a (.lst (lV (l.set i x))))) ∧ Wf S [l.getD i none] ∧
  ∀ (r : Addr) (H' : Hp), R r = none → PileAt C B p g { S with boxes := (run S.boxes [l.getD i none]).1 } (upd R r (.lst ((run S.boxes [l.getD i none]).2.map V.int))) H' → Q (.ref r) H'
def spMake (C B eH eS eF : Addr) : Sp := fun vs H Q E => ∃ (p : Addr) (P : Pl) (R : Hp) (h s : Int), vs = [.ref p, .int h, .int s] ∧ PileIn C B p P R H ∧
  (¬ (0 ≤ h ∧ h < 8) → E (.ref eH) none H) ∧ ((0 ≤ h ∧ h < 8) → ¬ (0 ≤ s ∧ s ≤ 6) → E (.ref eS) none H) ∧ ((0 ≤ h ∧ h < 8) → (0 ≤ s ∧ s ≤ 6) → 60 ≤ P.boxes.length → E (.ref eF) none H) ∧
  ((0 ≤ h ∧ h < 8) → (0 ≤ s ∧ s ≤ 6) → P.boxes.length < 60 → ∀ (r : Addr) (H' : Hp), R r = none → PileIn C B p (mk P h.toNat s.toNat).1 (upd R r (.lst ((mk P h.toNat s.toNat).2.map V.int))) H' → Q (.ref r) H')
def spHold (C B eH : Addr) : Sp := fun vs H Q E => ∃ (p : Addr) (P : Pl) (R : Hp) (h o : Int), vs = [.ref p, .int h, .int o] ∧ PileIn C B p P R H ∧
  (¬ (0 ≤ h ∧ h < 8) → E (.ref eH) none H) ∧ ((0 ≤ h ∧ h < 8) → ¬ (0 ≤ o ∧ o < 8) → E (.ref eH) none H) ∧
  ((0 ≤ h ∧ h < 8) → (0 ≤ o ∧ o < 8) → ∀ (r : Addr) (H' : Hp), R r = none → PileIn C B p (ptHand P h.toNat (P.hands.getD o.toNat none)).1 (upd R r (.lst ((ptHand P h.toNat (P.hands.getD o.toNat none)).2.map V.int))) H' → Q (.ref r) H')
def spDrop (C B eH : Addr) : Sp := fun vs H Q E => ∃ (p : Addr) (P : Pl) (R : Hp) (h : Int), vs = [.ref p, .int h] ∧ PileIn C B p P R H ∧
  (¬ (0 ≤ h ∧ h < 8) → E (.ref eH) none H) ∧
  ((0 ≤ h ∧ h < 8) → ∀ (r : Addr) (H' : Hp), R r = none → PileIn C B p (ptHand P h.toNat none).1 (upd R r (.lst ((ptHand P h.toNat none).2.map V.int))) H' → Q (.ref r) H')
def spSlotsWith (C B eB eL : Addr) : Sp := fun vs H Q E => ∃ (p : Addr) (g : Geo) (P : Pl) (R : Hp) (h s : Int), vs = [.ref p, .int h, .int s] ∧ PileAt C B p g P R H ∧ Wf P [] ∧ (0 ≤ h ∧ h < 8) ∧
  (P.hands.getD h.toNat none = none → E (.ref eB) none H) ∧
  (∀ n b, P.hands.getD h.toNat none = some n → get P.boxes n = some b → ¬ (0 ≤ s ∧ s < (b.slots.length : Int)) → E (.ref eL) none H) ∧
  (∀ n b, P.hands.getD h.toNat none = some n → get P.boxes n = some b → (0 ≤ s ∧ s < (b.slots.length : Int)) → Q (.ref (g.sa n)) H)
def spPut (C B eH eB eL : Addr) : Sp := fun vs H Q E => ∃ (p : Addr) (P : Pl) (R : Hp) (h s o : Int), vs = [.ref p, .int h, .int s, .int o] ∧ PileIn C B p P R H ∧
  (¬ (0 ≤ h ∧ h < 8) → E (.ref eH) none H) ∧ ((0 ≤ h ∧ h < 8) → ¬ (0 ≤ o ∧ o < 8) → E (.ref eH) none H) ∧
  ((0 ≤ h ∧ h < 8) → (0 ≤ o ∧ o < 8) → P.hands.getD h.toNat none = none → E (.ref eB) none H) ∧
  ((0 ≤ h ∧ h < 8) → (0 ≤ o ∧ o < 8) → ∀ n b, P.hands.getD h.toNat none = some n → get P.boxes n = some b → ¬ (0 ≤ s ∧ s < (b.slots.length : Int)) → E (.ref eL) none H) ∧
  ((0 ≤ h ∧ h < 8) → (0 ≤ o ∧ o < 8) → ∀ n b, P.hands.getD h.toNat none = some n → get P.boxes n = some b → (0 ≤ s ∧ s < (b.slots.length : Int)) →
    ∀ (r : Addr) (H' : Hp), R r = none → PileIn C B p (ptSlot P n s.toNat (P.hands.getD o.toNat none)).1 (upd R r (.lst ((ptSlot P n s.toNat (P.hands.getD o.toNat none)).2.map V.int))) H' → Q (.ref r) H')
def spEmpty (C B eH eB eL : Addr) : Sp := fun vs H Q E => ∃ (p : Addr) (P : Pl) (R : Hp) (h s : Int), vs = [.ref p, .int h, .int s] ∧ PileIn C B p P R H ∧
  (¬ (0 ≤ h ∧ h < 8) → E (.ref eH) none H) ∧ ((0 ≤ h ∧ h < 8) → P.hands.getD h.toNat none = none → E (.ref eB) none H) ∧
  ((0 ≤ h ∧ h < 8) → ∀ n b, P.hands.getD h.toNat none = some n → get P.boxes n = some b → ¬ (0 ≤ s ∧ s < (b.slots.length : Int)) → E (.ref eL) none H) ∧
  ((0 ≤ h ∧ h < 8) → ∀ n b, P.hands.getD h.toNat none = some n → get P.boxes n = some b → (0 ≤ s ∧ s < (b.slots.length : Int)) →
    ∀ (r : Addr) (H' : Hp), R r = none → PileIn C B p (ptSlot P n s.toNat none).1 (upd R r (.lst ((ptSlot P n s.toNat none).2.map V.int))) H' → Q (.ref r) H')
def spTake (C B eH eB eL : Addr) : Sp := fun vs H Q E => ∃ (p : Addr) (P : Pl) (R : Hp) (h o s : Int), vs = [.ref p, .int h, .int o, .int s] ∧ PileIn C B p P R H ∧
  (¬ (0 ≤ h ∧ h < 8) → E (.ref eH) none H) ∧ ((0 ≤ h ∧ h < 8) → ¬ (0 ≤ o ∧ o < 8) → E (.ref eH) none H) ∧
  ((0 ≤ h ∧ h < 8) → (0 ≤ o ∧ o < 8) → P.hands.getD o.toNat none = none → E (.ref eB) none H) ∧
  ((0 ≤ h ∧ h < 8) → (0 ≤ o ∧ o < 8) → ∀ n b, P.hands.getD o.toNat none = some n → get P.boxes n = some b → ¬ (0 ≤ s ∧ s < (b.slots.length : Int)) → E (.ref eL) none H) ∧
  ((0 ≤ h ∧ h < 8) → (0 ≤ o ∧ o < 8) → ∀ n b, P.hands.getD o.toNat none = some n → get P.boxes n = some b → (0 ≤ s ∧ s < (b.slots.length : Int)) →
    ∀ (r : Addr) (H' : Hp), R r = none → PileIn C B p (ptHand P h.toNat (b.slots.getD s.toNat none)).1 (upd R r (.lst ((ptHand P h.toNat (b.slots.getD s.toNat none)).2.map V.int))) H' → Q (.ref r) H')
def spHolds (C B eH : Addr) : Sp := fun vs H Q E => ∃ (p : Addr) (g : Geo) (P : Pl) (R : Hp) (h : Int), vs = [.ref p, .int h] ∧ PileAt C B p g P R H ∧ P.hands.length = 8 ∧
  (¬ (0 ≤ h ∧ h < 8) → E (.ref eH) none H) ∧ ((0 ≤ h ∧ h < 8) → Q (oV (P.hands.getD h.toNat none)) H)
def spBox (C B eB : Addr) : Sp := fun vs H Q E => ∃ (p : Addr) (g : Geo) (P : Pl) (R : Hp) (n : Int), vs = [.ref p, .int n] ∧ PileAt C B p g P R H ∧
  (get P.boxes n = none → E (.ref eB) none H) ∧ (∀ b, get P.boxes n = some b → Q (.ref (g.ba n)) H)
def spPoints (C B eB : Addr) : Sp := fun vs H Q E => ∃ (p : Addr) (g : Geo) (P : Pl) (R : Hp) (n : Int), vs = [.ref p, .int n] ∧ PileAt C B p g P R H ∧ (∀ b, get P.boxes n = some b → b.slots.length ≤ 6) ∧
  (get P.boxes n = none → E (.ref eB) none H) ∧ (∀ b, get P.boxes n = some b → ∀ r, H r = none → Q (.ref r) (upd H r (.lst (lV b.slots))))
def spWeighs (C B eB : Addr) : Sp := fun vs H Q E => ∃ (p : Addr) (g : Geo) (P : Pl) (R : Hp) (n : Int), vs = [.ref p, .int n] ∧ PileAt C B p g P R H ∧
  (get P.boxes n = none → E (.ref eB) none H) ∧ (∀ b, get P.boxes n = some b → Q (.int b.wt) H)
def spAlive (C B : Addr) : Sp := fun vs H Q _ => ∃ (p : Addr) (g : Geo) (P : Pl) (R : Hp), vs = [.ref p] ∧ PileAt C B p g P R H ∧ Wf P [] ∧ ∀ r, H r = none → Q (.ref r) (upd H r (.lst ((keys P.boxes).map V.int)))
def spSuspects (C B : Addr) : Sp := fun vs H Q _ => ∃ (p : Addr) (g : Geo) (P : Pl) (R : Hp), vs = [.ref p] ∧ PileAt C B p g P R H ∧ Wf P [] ∧ ∀ r H', R r = none → PileAt C B p g P (upd R r (.lst ((susp P).map V.int))) H' → Q (.ref r) H'

section
variable {P : Program} {w : World} {K : PySem.W.Frag} {mg : Str → Option Value} {base : Heap} {C B eH eS eF eB eL : Addr}
/-- a statement read in two steps: what holds behind it, then what is wanted of that -/
def tMid (t : TS) : TS := fun D σ H => ∃ M : St → Hp → Prop, t { D with nx := M } σ H ∧ ∀ σ' H', M σ' H' → D.nx σ' H'
theorem ps_mid {X : Cx} {st : Stmt} {t : TS} (h : PS X st t) : PS X st (tMid t) := by
  refine ⟨fun pins s σ H D I q => ?_⟩
  obtain ⟨M, q1, q2⟩ := q
  refine wpAny_mono (h.run pins s σ H { D with nx := M } I q1) (fun f s1 z => ?_) fun _ _ z => z
  cases f with
  | next =>
    obtain ⟨σ', H', I', m⟩ := z
    exact ⟨σ', H', I', q2 σ' H' m⟩
  | ret v => exact z
  | brk => exact z
  | cont => exact z
/-- a test read in two steps -/
def tMidT (t : TT) : TT := fun σ H Q => ∃ M : Bool → Hp → Prop, t σ H M ∧ ∀ b H', M b H' → Q b H'
theorem pt_mid {X : Cx} {e : Expr} {t : TT} (h : PT X e t) : PT X e (tMidT t) := by
  refine ⟨fun pins s σ H Q I q => ?_⟩
  obtain ⟨M, q1, q2⟩ := q
  refine wpAny_mono (h.run pins s σ H M I q1) (fun b s1 z => ?_) fun _ _ z => z
  obtain ⟨H', I', m⟩ := z
  exact ⟨H', I', q2 b H' m⟩
theorem if_pos_of {c : Bool} {A B : Prop} (hc : c = true) (h : A) : if c = true then A else B := by
  rw [if_pos hc]
  exact h
theorem if_neg_of {c : Bool} {A B : Prop} (hc : c = false) (h : B) : if c = true then A else B := by
  rw [hc, if_neg Bool.false_ne_true]
  exact h
theorem err_raises {X : Cx} {x : Str} {E : Addr} (e : Err X.K X.mg x E) : Raises X (.ref E) := raises_own e.b e.t
/-! ### check_hand -/
theorem scCheck : FnScope ["hand"] ["hand"] (defScope sCheck) := ⟨rfl, rfl, rfl, by decide +kernel, rfl, by decide +kernel, by decide +kernel⟩
theorem ok_check {f : Addr} {fd : FuncData} (F : Fun K "check_hand" "check_hand" sCheck f fd) (T : Txt K mg C B eH eS eF eB eL) : FnOk P w K mg base (L2.CX P w) 1 f fd ["hand"] (spCheck eH) := by
  refine F.okX scCheck (fun vs H Q E h => ?_) (fun cdv A outer s H vs Q E hr h => ?_)
  · obtain ⟨h, rfl, _⟩ := h
    rfl
  · obtain ⟨h, rfl, k1, k2⟩ := h
    obtain ⟨t, hT⟩ := T.hands
    refine ⟨_, pss_one (ps_if (pt_not (pt_chain op_le op_lt pe_int (pv 0) (pe_glob (v := .int 8) rfl hT ⟨_, rfl⟩))) (pss_one (ps_raise rfl (takes_of rfl rfl rfl rfl) (pmk_own PySem.F.excBase_ValueError T.eH.x T.eH.g T.eH.k (raises_own T.eH.b T.eH.t) rfl))) pss_nil), ?_⟩
    refine ⟨_, rfl, _, _, rfl, rfl, _, rfl, ?_⟩
    by_cases h0 : 0 ≤ h
    · rw [decide_eq_true h0]
      refine iteT ⟨_, _, rfl, rfl, _, rfl, ?_⟩
      by_cases h8 : h < 8
      · rw [decide_eq_true h8]
        exact iteF (k1 ⟨h0, h8⟩)
      · rw [decide_eq_false h8]
        exact iteT (k2 fun z => h8 z.2)
    · rw [decide_eq_false h0]
      refine iteF ⟨_, rfl, ?_⟩
      exact iteT (k2 fun z => h0 z.1)
/-! ### Box.__init__ -/
theorem scBoxInit : FnScope ["self", "size"] ["self", "size"] (defScope sBoxInit) := ⟨rfl, rfl, rfl, by decide +kernel, rfl, by decide +kernel, by decide +kernel⟩
theorem rep_none (n : Nat) : (List.replicate n [V.non]).flatten = lV (List.replicate n none) := by
  unfold lV
  rw [List.map_replicate]
  induction n with
  | zero => rfl
  | succ n ih => rw [List.replicate_succ, List.flatten_cons, ih]; rfl
theorem ok_boxinit {f : Addr} {fd : FuncData} (F : Fun K "__init__" "Box.__init__" sBoxInit f fd) (T : Txt K mg C B eH eS eF eB eL) : FnOk P w K mg base CX0 1 f fd ["self", "size"] (spBoxInit B) := by
  refine F.ok scBoxInit (fun vs H Q E h => ?_) (fun cdv A outer s H vs Q E hr h => ?_)
  · obtain ⟨x, dx, n, rfl, _⟩ := h
    rfl
  · obtain ⟨x, dx, n, rfl, hn, hx, k⟩ := h
    refine ⟨_, pss_cons (ps_fld (pv 0) (pe_op op_rep (pe_lst (pa_cons pe_non pa_nil)) (pv 1)) rfl) (pss_cons (ps_fld (pv 0) pe_int rfl) (pss_one (ps_fld (pv 0) pe_bl rfl))), ?_⟩
    refine ⟨(by show 1 ≤ sizeLine; decide), fun l hl => ?_⟩
    have nx : x ≠ l := ne_of_none hx hl
    refine ⟨_, rfl, l, n, [.non], rfl, rfl, upd_same, by omega, by omega, (by show 1 * n ≤ sizeLine; rw [sizeLine_eq]; omega), fun sl hsl => ?_⟩
    have nx2 : x ≠ sl := ne_of_none (by rw [upd_ne nx]; exact hx) hsl
    refine ⟨_, rfl, x, B, dx, [], rfl, (by rw [upd_ne nx2, upd_ne nx]; exact hx), T.clB, T.nS, (by show 0 < 1000; decide), ?_⟩
    refine ⟨_, rfl, x, B, dx, _, rfl, upd_same, T.clB, T.nW, (by show 1 < 1000; decide), ?_⟩
    refine ⟨_, rfl, x, B, dx, _, rfl, upd_same, T.clB, T.nU, (by show (putF "weight" (.int 0) (putF "slots" (.ref sl) [])).length < 1000; show (if ("slots" : Str) = "weight" then [(("slots" : Str), V.int 0)] else (("slots" : Str), V.ref sl) :: [(("weight" : Str), V.int 0)]).length < 1000; rw [if_neg s_sw]; show 2 < 1000; decide), ?_⟩
    have k' := k l sl hl hsl
    rw [← rep_none] at k'
    rw [upd_upd, upd_upd]
    exact k'
/-! ### Pile.__init__ -/
theorem scInit : FnScope ["self"] ["self"] (defScope sInit) := ⟨rfl, rfl, rfl, by decide +kernel, rfl, by decide +kernel, by decide +kernel⟩
theorem ok_init {f : Addr} {fd : FuncData} (F : Fun K "__init__" "Pile.__init__" sInit f fd) (T : Txt K mg C B eH eS eF eB eL) : FnOk P w K mg base CX0 1 f fd ["self"] (spInit C B) := by
  refine F.ok scInit (fun vs H Q E h => ?_) (fun cdv A outer s H vs Q E hr h => ?_)
  · obtain ⟨R, p, dx, rfl, _⟩ := h
    rfl
  · obtain ⟨R, p, dx, rfl, hs, rp, hp, k⟩ := h
    obtain ⟨t, hT⟩ := T.hands
    refine ⟨_, pss_cons (ps_fld (pv 0) (pe_op op_rep (pe_lst (pa_cons pe_non pa_nil)) (pe_glob (v := .int 8) rfl hT ⟨_, rfl⟩)) rfl) (pss_cons (ps_fld (pv 0) pe_dnewK rfl) (pss_one (ps_fld (pv 0) pe_int rfl))), ?_⟩
    refine ⟨(by show 1 ≤ sizeLine; decide), fun l hl => ?_⟩
    have npl : p ≠ l := ne_of_none hp hl
    refine ⟨l, 8, [.non], rfl, rfl, upd_same, by omega, by omega, (by show 8 ≤ sizeLine; rw [sizeLine_eq]; omega), fun lh hlh => ?_⟩
    have npm : p ≠ lh := ne_of_none (by rw [upd_ne npl]; exact hp) hlh
    refine ⟨_, rfl, p, C, dx, [], rfl, (by rw [upd_ne npm, upd_ne npl]; exact hp), T.clC, T.nH, (by show 0 < 1000; decide), fun db hdb => ?_⟩
    have npd : p ≠ db := ne_of_none upd_same hdb
    have nhd : lh ≠ db := ne_of_none (by rw [upd_ne npm.symm, upd_same]) hdb
    refine ⟨_, rfl, p, C, dx, _, rfl, (by rw [upd_ne npd, upd_same]), T.clC, T.nB, (by show 1 < 1000; decide), ?_⟩
    refine ⟨_, rfl, p, C, dx, _, rfl, upd_same, T.clC, T.nM, (by show (putF "_boxes" (.ref db) (putF "_hands" (.ref lh) [])).length < 1000; show (if ("_hands" : Str) = "_boxes" then [(("_hands" : Str), V.ref db)] else (("_hands" : Str), V.ref lh) :: [(("_boxes" : Str), V.ref db)]).length < 1000; rw [if_neg s_hb]; show 2 < 1000; decide), ?_⟩
    rw [upd_upd]
    have fl : H l = none := hl
    have flh : H lh = none := by
      by_cases q : lh = l
      · rw [q]; exact hl
      · rw [upd_ne q] at hlh; exact hlh
    have fdb : H db = none := by
      have n1 : db ≠ p := npd.symm
      have n2 : db ≠ lh := nhd.symm
      rw [upd_ne n1, upd_ne n2] at hdb
      by_cases q : db = l
      · rw [q]; exact hl
      · rw [upd_ne q] at hdb; exact hdb
    have e8 : (List.replicate (Int.toNat 8) [V.non]).flatten = lV pl0.hands := rep_none 8
    refine k ⟨dx, lh, db, fun _ => 0, fun _ => 0, fun _ => 0⟩ _ ⟨fun b o e => ?_, rp, hs.free flh, hs.free fdb, fun n b e => ?_, fun n b e => ?_, upd_same, ?_, ?_, fun n b e => ?_, fun n b e => ?_, fun n m b c e => ?_, fun n m b c e => ?_, fun n b e => ?_⟩
    · have e' := hs b o e
      rw [upd_ne (fun q => by rw [q, rp] at e; cases e), upd_ne (ne_of_none e' fdb), upd_ne (fun q => by rw [q, rp] at e; cases e), upd_ne (ne_of_none e' flh), upd_ne (ne_of_none e' fl)]
      exact e'
    · cases e
    · cases e
    · show upd _ p _ lh = _
      rw [upd_ne npm.symm, upd_ne nhd, upd_ne npm.symm, upd_same, e8]
    · show upd _ p _ db = _
      rw [upd_ne npd.symm, upd_same]
      rfl
    · cases e
    · cases e
    · cases e
    · cases e
    · cases e
/-! ### _let_go -/
theorem scLetGo : FnScope ["self", "pointer", "waiting", "freed", "number", "box"] ["self", "pointer"] (defScope sLetGo) := ⟨rfl, rfl, rfl, by decide +kernel, rfl, by decide +kernel, by decide +kernel⟩
/-- two lists of the def's own beside what is known -/
def twoL (R : Hp) (a b : Addr) (xs ys : List V) : Hp := upd (upd R a (.lst xs)) b (.lst ys)
theorem upd_comm {H : Hp} {a b : Addr} {o u : HO} (h : a ≠ b) : upd (upd H a o) b u = upd (upd H b u) a o := by
  funext c
  by_cases q : c = a
  · rw [q, upd_ne h, upd_same, upd_same]
  · by_cases q2 : c = b
    · rw [q2, upd_same, upd_ne h.symm, upd_same]
    · rw [upd_ne q2, upd_ne q, upd_ne q, upd_ne q2]
theorem twoL_a {R : Hp} {a b : Addr} {xs ys zs : List V} (h : a ≠ b) : upd (twoL R a b xs ys) a (.lst zs) = twoL R a b zs ys := by
  unfold twoL
  rw [upd_comm h, upd_upd, ← upd_comm h]
theorem twoL_b {R : Hp} {a b : Addr} {xs ys zs : List V} : upd (twoL R a b xs ys) b (.lst zs) = twoL R a b xs zs := upd_upd
theorem chg_chg (n : Int) (f g : Bx → Bx) : ∀ bs, chg (chg bs n f) n g = chg bs n fun b => g (f b)
  | [] => rfl
  | e :: bs => by
    have e1 : ∀ (e : Int × Bx) (bs : List (Int × Bx)) (f : Bx → Bx), chg (e :: bs) n f = (if e.1 = n then (e.1, f e.2) else e) :: chg bs n f := fun _ _ _ => rfl
    rw [e1, e1, e1, chg_chg n f g bs]
    by_cases h : e.1 = n
    · simp [h]
    · simp [h]
theorem rm_chg (n : Int) (f : Bx → Bx) : ∀ bs, rm (chg bs n f) n = rm bs n
  | [] => rfl
  | e :: bs => by
    have e1 : chg (e :: bs) n f = (if e.1 = n then (e.1, f e.2) else e) :: chg bs n f := rfl
    have ih := rm_chg n f bs
    unfold rm at ih ⊢
    rw [e1, List.filter_cons, List.filter_cons, ih]
    by_cases h : e.1 = n
    · simp [h]
    · simp [h]
theorem seq0 {n : Nat} (h : 0 < n) : seqIndex? 0 n = some 0 := by
  unfold seqIndex?
  simp [h]
theorem ok_letgo {f : Addr} {fd : FuncData} (F : Fun K "_let_go" "Pile._let_go" sLetGo f fd) (T : Txt K mg C B eH eS eF eB eL) : FnOk P w K mg base CX0 1 f fd ["self", "pointer"] (spLetGo C B) := by
  refine F.ok scLetGo (fun vs H Q E h => ?_) (fun cdv A outer s H vs Q E hr h => ?_)
  · obtain ⟨p, g, P, R, x, rfl, _⟩ := h
    rfl
  · obtain ⟨p, g, Q0, R, x, rfl, A0, W0, k⟩ := h
    have hu := hu_of hr
    refine ⟨_, pss_cons (ps_set (i := 2) scLetGo.nd rfl (Or.inl rfl) (pe_lst (pa_cons (pv 1) pa_nil))) (pss_cons (ps_set (i := 3) scLetGo.nd rfl (Or.inl rfl) (pe_lst pa_nil))
      (pss_cons (ps_while PassesOwn.never (pt_truth (pv 2) (by intro _; rfl))
        (pss_cons (ps_set (i := 4) scLetGo.nd rfl (Or.inl rfl) (pe_bm PySem.F.plainAttrs_list PySem.F.slot_list_pop PySem.F.type_list_pop mt_popAt (pv 2) (pa_cons pe_int pa_nil)))
        (pss_cons (ps_if (pt_cmpR op_isN (pv 4) pe_non (nomark _)) (pss_one ps_continue) pss_nil)
        (pss_cons (ps_set (i := 5) scLetGo.nd rfl (Or.inl rfl) (pe_dget hu (pe_fld (pv 0) rfl) (pv 4) (fun _ _ => rfl)))
        (pss_cons (ps_fldaug (pv 5) pe_int in_sub)
        (pss_cons (ps_fld (pv 5) pe_bl rfl)
        (pss_one (ps_if (pt_cmpR op_eq (pe_fld (pv 5) rfl) pe_int (nomark _))
          (pss_cons (ps_ddel (pe_fld (pv 0) rfl) (pv 4))
          (pss_cons (ps_expr (pe_bm PySem.F.plainAttrs_list PySem.F.slot_list_append PySem.F.type_list_append mt_append (pv 3) (pa_cons (pv 4) pa_nil)))
          (pss_one (ps_expr (pe_bm PySem.F.plainAttrs_list PySem.F.slot_list_extend PySem.F.type_list_extend mt_extend (pv 2) (pa_cons (pe_fld (pv 5) rfl) pa_nil)))))) pss_nil))))))))
      (pss_one (ps_ret (pv 3))))), ?_⟩
    refine ⟨_, rfl, (by show 1 ≤ sizeLine; decide), fun wl hwl => ?_⟩
    refine ⟨(by show 0 ≤ sizeLine; decide), fun fl hfl => ?_⟩
    have nwf : wl ≠ fl := ne_of_none upd_same hfl
    have rwl : R wl = none := A0.same.free hwl
    have rfl' : R fl = none := by
      have : H fl = none := by rw [upd_ne nwf.symm] at hfl; exact hfl
      exact A0.same.free this
    have A1 : PileAt C B p g Q0 (twoL R wl fl (lV [x]) ([] : List V)) (upd (upd H wl (.lst [oV x])) fl (.lst [])) := (A0.new hwl).new hfl
    have hm0 : [x].length + room Q0.boxes ≤ 400 := by
      have := room_le W0.sl W0.nd
      have := W0.few
      show 1 + _ ≤ 400
      omega
    refine ⟨fun m σ H => ∃ (bs : List (Int × Bx)) (w : List (Option Int)) (f : List Int) (v4 v5 : Option V), σ = [some (.ref p), some (oV x), some (.ref wl), some (.ref fl), v4, v5] ∧
      PileAt C B p g { Q0 with boxes := bs } (twoL R wl fl (lV w) (f.map V.int)) H ∧ Wf { Q0 with boxes := bs } w ∧ w.length + room bs = m ∧ f ++ (go m bs w).2 = (run Q0.boxes [x]).2 ∧ (go m bs w).1 = (run Q0.boxes [x]).1 ∧ f.length + m ≤ 400,
      ⟨_, Q0.boxes, [x], [], none, none, rfl, A1, W0, rfl, rfl, rfl, by rw [List.length_nil]; omega⟩, ?_⟩
    rintro m σ H ⟨bs, w, f, v4, v5, rfl, A, W, hm, e2, e1, hle⟩
    have hwl : H wl = some (.lst (lV w)) := A.same _ _ (by unfold twoL; rw [upd_ne nwf, upd_same])
    have hfl : H fl = some (.lst (f.map V.int)) := A.same _ _ (by unfold twoL; rw [upd_same])
    refine ⟨_, rfl, !(lV w).isEmpty, .inl ⟨_, SqL.of hwl, rfl⟩, ?_⟩
    cases w with
    | nil =>
      refine iteF ?_
      have m0 : (go m bs []).1 = bs ∧ (go m bs []).2 = [] := by cases m <;> exact ⟨rfl, rfl⟩
      rw [m0.2, List.append_nil] at e2
      rw [m0.1] at e1
      refine ⟨_, rfl, k fl _ rfl' ?_⟩
      rw [← e1, ← e2]
      refine A.less fun b o e => ?_
      by_cases q : b = fl
      · rw [q, upd_same] at e
        rw [q]
        unfold twoL
        rw [upd_same]
        exact e
      · rw [upd_ne q] at e
        unfold twoL
        rw [upd_ne q, upd_ne (ne_of_none e rwl)]
        exact e
    | cons y w =>
      refine iteT ?_
      obtain ⟨m', rfl⟩ : ∃ m', m = m' + 1 := ⟨w.length + room bs, by rw [List.length_cons] at hm; omega⟩
      refine ⟨fun σ' H' => ∃ (bs : List (Int × Bx)) (w : List (Option Int)) (f : List Int) (v4 v5 : Option V), σ' = [some (.ref p), some (oV x), some (.ref wl), some (.ref fl), v4, v5] ∧
        PileAt C B p g { Q0 with boxes := bs } (twoL R wl fl (lV w) (f.map V.int)) H' ∧ Wf { Q0 with boxes := bs } w ∧ w.length + room bs = m' ∧ f ++ (go m' bs w).2 = (run Q0.boxes [x]).2 ∧ (go m' bs w).1 = (run Q0.boxes [x]).1 ∧ f.length + m' ≤ 400,
        fun σ' H' h' => ⟨m', Nat.lt_succ_self _, h'⟩, ?_⟩
      obtain ⟨Wf', mf'⟩ := fall_ok W
      have mf : (fall bs w y).2.1.length + room (fall bs w y).1 = m' := by
        have q : (fall bs w y).2.1.length + room (fall bs w y).1 = w.length + room bs := mf'
        rw [List.length_cons] at hm
        omega
      have e2' : (f ++ (fall bs w y).2.2) ++ (go m' (fall bs w y).1 (fall bs w y).2.1).2 = (run Q0.boxes [x]).2 := by rw [List.append_assoc]; exact e2
      have e1' : (go m' (fall bs w y).1 (fall bs w y).2.1).1 = (run Q0.boxes [x]).1 := e1
      -- number = waiting.pop(0)
      refine ⟨_, rfl, .inl ⟨rfl, _, SqL.of hwl⟩, wl, lV (y :: w), 0, 0, oV y, rfl, rfl, hwl, by omega, by omega, seq0 (by show 0 < (lV (y :: w)).length; rw [lV_len]; exact Nat.succ_pos _), rfl, ?_⟩
      have A2 : PileAt C B p g { Q0 with boxes := bs } (twoL R wl fl (lV w) (f.map V.int)) (upd H wl (.lst (lV w))) := by
        have := A.set (a := wl) (o := .lst (lV w)) (by unfold twoL; rw [upd_ne nwf, upd_same])
        rw [twoL_a nwf] at this
        exact this
      show (tSeq _ _ : TS) _ _ (upd H wl (.lst (lV w)))
      generalize upd H wl (.lst (lV w)) = H2 at A2 ⊢
      cases y with
      | none =>
        refine ⟨_, rfl, rfl, _, rfl, ?_⟩
        refine iteT ?_
        exact ⟨bs, w, f, _, _, rfl, A2, Wf', mf, by simpa [fall] using e2', e1', by omega⟩
      | some n =>
        refine ⟨_, rfl, rfl, _, rfl, ?_⟩
        refine iteF ?_
        obtain ⟨b, hb'⟩ := W.cl n (by rw [cnt_cons]; show 0 < _ + (one (some n) n + _); simp [one]; omega)
        have hb : get bs n = some b := hb'
        have hg : valV (dV g.ba bs) (Sum.inl n : Key) = some (V.ref (g.ba n)) := by rw [valV_dV, hb]; rfl
        have hD : DGet H2 g.db (.int n) (some (V.ref (g.ba n))) := by
          have := DGet.k (k := Sum.inl n) A2.hd
          rw [hg] at this
          exact this
        have hB := A2.hb n b hb
        have eo : putF "suspect" (.bl true) (putF "weight" (.int (b.wt - 1)) (bf (g.sa n) b.wt b.sus)) = bf (g.sa n) (low b).wt (low b).sus := by rw [bf_putw, bf_puts]; rfl
        refine ⟨_, rfl, p, C, g.dx, _, _, rfl, A2.hp, T.clC, T.nB, pf_boxes _ _ _, _, rfl, g.db, _, rfl, hD, ?_⟩
        refine ⟨_, rfl, g.ba n, B, g.bd n, _, _, rfl, hB, T.clB, T.nW, bf_weight _ _ _, _, _, rfl, rfl, g.bd n, _, hB, (by rw [bf_len]; decide), ?_⟩
        refine ⟨_, rfl, g.ba n, B, g.bd n, _, rfl, upd_same, T.clB, T.nU, (by rw [bf_putw, bf_len]; decide), ?_⟩
        rw [eo, upd_upd]
        have A3 : PileAt C B p g { Q0 with boxes := chg bs n low } (twoL R wl fl (lV w) (f.map V.int)) (upd H2 (g.ba n) (.ins B (g.bd n) (bf (g.sa n) (low b).wt (low b).sus))) := A2.box hb low rfl
        have hb3 : get (chg bs n low) n = some (low b) := by rw [get_chg, hb]; simp
        have hB3 := A3.hb n (low b) hb3
        have hS3 := A3.hs n (low b) hb3
        generalize upd H2 (g.ba n) (.ins B (g.bd n) (bf (g.sa n) (low b).wt (low b).sus)) = H3 at A3 hB3 hS3 ⊢
        refine ⟨_, rfl, g.ba n, B, g.bd n, _, _, rfl, hB3, T.clB, T.nW, bf_weight _ _ _, rfl, _, rfl, ?_⟩
        by_cases hw : b.wt = 1
        · have ef : fall bs w (some n) = (rm bs n, w ++ b.slots, [n]) := by
            show (match get bs n with | none => _ | some b => _) = _
            rw [hb]
            show (if b.wt = 1 then _ else _) = _
            rw [if_pos hw]
          rw [ef] at Wf' mf e2' e1'
          have hz : decide (V.int (low b).wt = V.int 0) = true := decide_eq_true (by show V.int (b.wt - 1) = V.int 0; rw [hw]; rfl)
          rw [hz]
          refine iteT ?_
          have hk : valV (dV g.ba (chg bs n low)) (Sum.inl n : Key) = some (V.ref (g.ba n)) := by rw [valV_dV, hb3]; rfl
          refine ⟨_, rfl, p, C, g.dx, _, _, rfl, A3.hp, T.clC, T.nB, pf_boxes _ _ _, _, rfl, g.db, _, Sum.inl n, rfl, A3.hd, rfl, (by simp [hk]), ?_⟩
          have A4 : PileAt C B p g { Q0 with boxes := rm bs n } (twoL R wl fl (lV w) (f.map V.int)) (upd H3 g.db (.dK (dropK (dV g.ba (chg bs n low)) (Sum.inl n)))) := by
            have := A3.del n
            have e : rm (chg bs n low) n = rm bs n := rm_chg n low bs
            rw [show ({ ({ Q0 with boxes := chg bs n low } : Pl) with boxes := rm ({ Q0 with boxes := chg bs n low } : Pl).boxes n } : Pl) = { Q0 with boxes := rm bs n } from by rw [← e]] at this
            exact this
          have hB4 : upd H3 g.db (.dK (dropK (dV g.ba (chg bs n low)) (Sum.inl n))) (g.ba n) = some (.ins B (g.bd n) (bf (g.sa n) (low b).wt (low b).sus)) := by rw [upd_ne (A3.ba_db hb3)]; exact hB3
          have hS4 : upd H3 g.db (.dK (dropK (dV g.ba (chg bs n low)) (Sum.inl n))) (g.sa n) = some (.lst (lV b.slots)) := by rw [upd_ne (A3.sa_db hb3)]; exact hS3
          have nsf : g.sa n ≠ fl := fun q => by
            have := A3.rs n (low b) hb3
            rw [q] at this
            unfold twoL at this
            rw [upd_same] at this
            cases this
          have nsw : g.sa n ≠ wl := fun q => by
            have := A3.rs n (low b) hb3
            rw [q] at this
            unfold twoL at this
            rw [upd_ne nwf, upd_same] at this
            cases this
          generalize upd H3 g.db (.dK (dropK (dV g.ba (chg bs n low)) (Sum.inl n))) = H4 at A4 hB4 hS4 ⊢
          have hfl4 : H4 fl = some (.lst (f.map V.int)) := A4.same _ _ (by unfold twoL; rw [upd_same])
          refine ⟨_, rfl, .inl ⟨rfl, _, SqL.of hfl4⟩, _, rfl, fl, _, _, rfl, rfl, hfl4, (by rw [List.length_map, sizeLine_eq]; omega), ?_⟩
          have A5 : PileAt C B p g { Q0 with boxes := rm bs n } (twoL R wl fl (lV w) ((f ++ [n]).map V.int)) (upd H4 fl (.lst (f.map V.int ++ [V.int n]))) := by
            have := A4.set (a := fl) (o := .lst (f.map V.int ++ [V.int n])) (by unfold twoL; rw [upd_same])
            rw [twoL_b] at this
            rw [List.map_append]
            exact this
          have hB5 : upd H4 fl (.lst (f.map V.int ++ [V.int n])) (g.ba n) = some (.ins B (g.bd n) (bf (g.sa n) (low b).wt (low b).sus)) := by rw [upd_ne (ne_of hB4 hfl4 ins_ne_lst)]; exact hB4
          have hS5 : upd H4 fl (.lst (f.map V.int ++ [V.int n])) (g.sa n) = some (.lst (lV b.slots)) := by rw [upd_ne nsf]; exact hS4
          rw [show oV (some n) = V.int n from rfl]
          generalize upd H4 fl (.lst (f.map V.int ++ [V.int n])) = H5 at A5 hB5 hS5 ⊢
          have hwl5 : H5 wl = some (.lst (lV w)) := A5.same _ _ (by unfold twoL; rw [upd_ne nwf, upd_same])
          refine ⟨_, rfl, .inl ⟨rfl, _, SqL.of hwl5⟩, _, rfl, g.ba n, B, g.bd n, _, _, rfl, hB5, T.clB, T.nS, bf_slots _ _ _, wl, g.sa n, _, _, rfl, rfl, hwl5, hS5, ?_, ?_⟩
          · have h6 : b.slots.length ≤ 6 := W.sl n b hb
            rw [lV_len, lV_len, sizeLine_eq]
            rw [List.length_cons] at hm
            omega
          · have A6 : PileAt C B p g { Q0 with boxes := rm bs n } (twoL R wl fl (lV (w ++ b.slots)) ((f ++ [n]).map V.int)) (upd H5 wl (.lst (lV w ++ lV b.slots))) := by
              have := A5.set (a := wl) (o := .lst (lV w ++ lV b.slots)) (by unfold twoL; rw [upd_ne nwf, upd_same])
              rw [twoL_a nwf] at this
              have e : lV (w ++ b.slots) = lV w ++ lV b.slots := List.map_append
              rw [e]
              exact this
            exact ⟨rm bs n, w ++ b.slots, f ++ [n], _, _, rfl, A6, Wf', mf, e2', e1', by rw [List.length_append, List.length_singleton]; omega⟩
        · have ef : fall bs w (some n) = (chg bs n low, w, []) := by
            show (match get bs n with | none => _ | some b => _) = _
            rw [hb]
            show (if b.wt = 1 then _ else _) = _
            rw [if_neg hw]
          rw [ef] at Wf' mf e2' e1'
          have hz : decide (V.int (low b).wt = V.int 0) = false := decide_eq_false (by show ¬ V.int (b.wt - 1) = V.int 0; intro q; injection q with q; omega)
          rw [hz]
          refine iteF ?_
          exact ⟨chg bs n low, w, f, _, _, rfl, A3, Wf', mf, by simpa using e2', e1', by omega⟩
/-! ### _point -/
theorem scPoint : FnScope ["self", "pointers", "at", "number", "box", "old"] ["self", "pointers", "at", "number"] (defScope sPoint) := ⟨rfl, rfl, rfl, by decide +kernel, rfl, by decide +kernel, by decide +kernel⟩
theorem ixN_of {n i : Nat} (h : i < n) : ixN n (i : Int) = some i := by
  unfold ixN
  rw [if_pos (by omega), if_pos (by omega)]
  rfl
theorem ok_point {f fL : Addr} {fd fdL : FuncData} (F : Fun K "_point" "Pile._point" sPoint f fd) (T : Txt K mg C B eH eS eF eB eL) (FL : Fun K "_let_go" "Pile._let_go" sLetGo fL fdL) (bL : Binds K fdL ["self", "pointer"] []) (mL : Meth K C "_let_go" fL) :
    FnOk P w K mg base CX0 2 f fd ["self", "pointers", "at", "number"] (spPoint C B) := by
  have GL : FnOk P w K mg base CX0 1 fL fdL ["self", "pointer"] (spLetGo C B) := ok_letgo FL T
  refine F.ok scPoint (fun vs H Q E h => ?_) (fun cdv A outer s H vs Q E hr h => ?_)
  · obtain ⟨p, a, g, P, S, R, x, l, i, rfl, _⟩ := h
    rfl
  · obtain ⟨p, a, g, P0, S, R, x, l, i, rfl, A0, hx, hi, hset, WS, k⟩ := h
    have hu := hu_of hr
    refine ⟨_, pss_cons (ps_if (pt_cmpR op_notN (pv 3) pe_non (nomark _))
        (pss_cons (ps_set (i := 4) scPoint.nd rfl (Or.inl rfl) (pe_dget hu (pe_fld (pv 0) rfl) (pv 3) (fun _ _ => rfl))) (pss_one (ps_fldaug (pv 4) pe_int in_add))) pss_nil)
      (pss_cons (ps_set (i := 5) scPoint.nd rfl (Or.inl rfl) (pe_ix ix_list (pv 1) (pv 2) (fun _ _ => rfl)))
      (pss_cons (ps_asg (pv 3) (pg_sub (pv 1) (pv 2) set_list))
      (pss_one (ps_ret (pe_meth (pv 0) T.clC mL GL hr bL .nil pass0 (pa_cons (pv 5) pa_nil)))))), ?_⟩
    refine ⟨_, rfl, rfl, _, rfl, ?_⟩
    cases x
    case' none =>
      refine iteF ?_
      have A1 : PileAt C B p g { P0 with boxes := bumped P0.boxes none } R H := A0
    case' some n =>
      refine iteT ?_
      obtain ⟨b, hb⟩ := hx n rfl
      have hD : DGet H g.db (.int n) (some (V.ref (g.ba n))) := by
        have := DGet.k (k := Sum.inl n) A0.hd
        rw [valV_dV, hb] at this
        exact this
      have hB := A0.hb n b hb
      refine ⟨_, rfl, p, C, g.dx, _, _, rfl, A0.hp, T.clC, T.nB, pf_boxes _ _ _, _, rfl, g.db, _, rfl, hD, ?_⟩
      refine ⟨_, rfl, g.ba n, B, g.bd n, _, _, rfl, hB, T.clB, T.nW, bf_weight _ _ _, _, _, rfl, rfl, g.bd n, _, hB, (by rw [bf_len]; decide), ?_⟩
      rw [bf_putw]
      have A1 : PileAt C B p g { P0 with boxes := bumped P0.boxes (some n) } R (upd H (g.ba n) (.ins B (g.bd n) (bf (g.sa n) (bump b).wt (bump b).sus))) := A0.box hb bump rfl
      show (tSeq _ _ : TS) _ _ (upd H (g.ba n) (.ins B (g.bd n) (bf (g.sa n) (bump b).wt (bump b).sus)))
      generalize upd H (g.ba n) (.ins B (g.bd n) (bf (g.sa n) (bump b).wt (bump b).sus)) = H1 at A1 ⊢
    all_goals
      obtain ⟨h1, A2⟩ := hset _ A1
      refine ⟨_, rfl, _, rfl, a, _, _, _, rfl, rfl, SqL.of h1, at_of (j := i) rfl (lV_get hi), ?_⟩
      refine ⟨_, rfl, _, rfl, _, rfl, a, _, _, i, rfl, rfl, h1, ixN_of (by rw [lV_len]; exact hi), ?_⟩
      rw [lV_set]
      exact ⟨_, rfl, p, g.dx, _, rfl, A2.hp, pf_no _ _ _ (by decide +kernel) (by decide +kernel) (by decide +kernel), _, rfl, p, g, S, R, l.getD i none, rfl, A2, WS, k⟩
/-! ### make -/
theorem scMake : FnScope ["self", "hand", "size", "number"] ["self", "hand", "size"] (defScope sMake) := ⟨rfl, rfl, rfl, by decide +kernel, rfl, by decide +kernel, by decide +kernel⟩
theorem ok_make {f fL fP fB fK : Addr} {fd fdL fdP fdB fdK : FuncData} (F : Fun K "make" "Pile.make" sMake f fd) (T : Txt K mg C B eH eS eF eB eL) (FL : Fun K "_let_go" "Pile._let_go" sLetGo fL fdL) (bL : Binds K fdL ["self", "pointer"] []) (mL : Meth K C "_let_go" fL)
    (FP : Fun K "_point" "Pile._point" sPoint fP fdP) (bP : Binds K fdP ["self", "pointers", "at", "number"] []) (mP : Meth K C "_point" fP) (MB : Mk K B fB) (FB : Fun K "__init__" "Box.__init__" sBoxInit fB fdB) (bB : Binds K fdB ["self", "size"] [])
    (FK : Fun K "check_hand" "check_hand" sCheck fK fdK) (bK : Binds K fdK ["hand"] []) (gK : mg "check_hand" = some (.ref fK)) :
    FnOk P w K mg base (L2.CX P w) 3 f fd ["self", "hand", "size"] (spMake C B eH eS eF) := by
  have GK : FnOk P w K mg base (L2.CX P w) 1 fK fdK ["hand"] (spCheck eH) := ok_check FK T
  have GB : FnOk P w K mg base CX0 1 fB fdB ["self", "size"] (spBoxInit B) := ok_boxinit FB T
  have GP : FnOk P w K mg base CX0 2 fP fdP ["self", "pointers", "at", "number"] (spPoint C B) := ok_point FP T FL bL mL
  refine F.okX scMake (fun vs H Q E h => ?_) (fun cdv A outer s H vs Q E hr h => ?_)
  · obtain ⟨p, P, R, h, s, rfl, _⟩ := h
    rfl
  · obtain ⟨p, P0, R, h, z, rfl, ⟨⟨g, A0⟩, W0⟩, kH, kS, kF, k⟩ := h
    have hu := hu_of hr
    have hr1 : Room 1 _ := hr.mono (by decide)
    obtain ⟨t6, hT6⟩ := T.most
    obtain ⟨t60, hT60⟩ := T.alive
    refine ⟨_, pss_cons (ps_expr (pe_call GK hr1 rfl gK FK.kp bK .nil (passes_call (takes_of rfl rfl rfl rfl) (fun _ _ _ _ h => h)) (pa_cons (pv 1) pa_nil)))
      (pss_cons (ps_if (pt_not (pt_chain op_le op_le pe_int (pv 2) (pe_glob (v := .int 6) rfl hT6 ⟨_, rfl⟩))) (pss_one (ps_raise rfl (takes_of rfl rfl rfl rfl) (pmk_own PySem.F.excBase_ValueError T.eS.x T.eS.g T.eS.k (raises_own T.eS.b T.eS.t) rfl))) pss_nil)
      (pss_cons (ps_if (pt_cmpR op_ge (pe_callB call_lenD (by rfl) T.len PySem.boot_len (pa_cons (pe_fld (pv 0) rfl) pa_nil)) (pe_glob (v := .int 60) rfl hT60 ⟨_, rfl⟩) (nomark _)) (pss_one (ps_raise rfl (takes_of rfl rfl rfl rfl) (pmk_own PySem.F.excBase_ValueError T.eF.x T.eF.g T.eF.k (raises_own T.eF.b T.eF.t) rfl))) pss_nil)
      (pss_cons (ps_set (i := 3) scMake.nd rfl (Or.inl rfl) (pe_fld (pv 0) rfl))
      (pss_cons (ps_fldaug (pv 0) pe_int in_add)
      (pss_cons (ps_dput hu (pe_fld (pv 0) rfl) (pv 3) (pe_make MB GB hr rfl T.mgB bB .nil pass0 (pa_cons (pv 2) pa_nil)) rfl)
      (pss_one (ps_ret (pe_meth (pv 0) T.clC mP GP hr bP .nil pass0 (pa_cons (pe_fld (pv 0) rfl) (pa_cons (pv 1) (pa_cons (pv 3) pa_nil))))))))))), ?_⟩
    refine ⟨_, rfl, h, rfl, fun ch => ?_, fun ch => kH ch⟩
    refine ⟨_, rfl, _, _, rfl, rfl, _, rfl, ?_⟩
    have size : ∀ {A B : Prop}, ((0 ≤ z ∧ z ≤ 6) → B) → (¬ (0 ≤ z ∧ z ≤ 6) → A) → True := fun _ _ => trivial
    by_cases z0 : 0 ≤ z
    case neg =>
      rw [decide_eq_false z0]
      refine iteF ⟨_, rfl, ?_⟩
      exact iteT (kS ch fun q => z0 q.1)
    rw [decide_eq_true z0]
    refine iteT ⟨_, _, rfl, rfl, _, rfl, ?_⟩
    by_cases z6 : z ≤ 6
    case neg =>
      rw [decide_eq_false z6]
      exact iteT (kS ch fun q => z6 q.2)
    rw [decide_eq_true z6]
    refine iteF ?_
    have kF' := kF ch ⟨z0, z6⟩
    have k' := k ch ⟨z0, z6⟩
    refine ⟨_, rfl, p, C, g.dx, _, _, rfl, A0.hp, T.clC, T.nB, pf_boxes _ _ _, _, _, rfl, A0.hd, _, _, rfl, rfl, _, rfl, ?_⟩
    rw [dV_len]
    by_cases c60 : 60 ≤ P0.boxes.length
    · refine if_pos_of (decide_eq_true (by omega)) ?_
      exact kF' c60
    refine if_neg_of (decide_eq_false (by omega)) ?_
    have c60' : P0.boxes.length < 60 := by omega
    have hsz : z.toNat ≤ 6 := by omega
    have hh8 : h.toNat < 8 := by omega
    refine ⟨_, rfl, p, C, g.dx, _, _, rfl, A0.hp, T.clC, T.nM, pf_made _ _ _, ?_⟩
    refine ⟨_, rfl, p, C, g.dx, _, _, rfl, A0.hp, T.clC, T.nM, pf_made _ _ _, _, _, rfl, rfl, g.dx, _, A0.hp, (by rw [pf_len]; decide), ?_⟩
    rw [pf_put]
    have A1 := A0.count (P0.made + 1)
    generalize upd H p (.ins C g.dx (pf g.lh g.db (P0.made + 1))) = H1 at A1 ⊢
    refine ⟨_, rfl, ?_⟩
    intro x dx nx ndx nex
    refine ⟨x, dx, z.toNat, (by rw [Int.toNat_of_nonneg z0]; rfl), hsz, upd_same, fun l sl hl hsl => ⟨rfl, ?_⟩⟩
    have A2 := A1.new (o := .own x) ndx
    have A3 := A2.new (a := x) (o := .ins B dx []) (by rw [upd_ne nex.symm]; exact nx)
    have A4 := A3.new (o := .lst [.non]) hl
    have A5 := A4.new (o := .lst (lV (List.replicate z.toNat none))) hsl
    have xl : x ≠ l := ne_of_none upd_same hl
    have xsl : x ≠ sl := ne_of_none (by rw [upd_ne xl]; exact upd_same) hsl
    have A6 := A5.set (a := x) (o := .ins B dx (bf sl 0 false)) (by rw [upd_ne xsl, upd_ne xl]; exact upd_same)
    have rx : R x = none := A1.same.free nx
    have rdx : R dx = none := A1.same.free ndx
    have r2 : Same R (upd (upd R dx (.own x)) x (.ins B dx [])) := (same_upd rdx).trans (same_upd (by rw [upd_ne nex.symm]; exact rx))
    have rl : upd (upd R dx (.own x)) x (.ins B dx []) l = none := A3.same.free hl
    have rsl : upd (upd (upd R dx (.own x)) x (.ins B dx [])) l (.lst [.non]) sl = none := A4.same.free hsl
    have r3 := r2.trans (same_upd (o := .lst [.non]) rl)
    have r4 := r3.trans (same_upd (o := .lst (lV (List.replicate z.toNat none))) rsl)
    have r5 : Same R (upd (upd (upd (upd (upd R dx (.own x)) x (.ins B dx [])) l (.lst [.non])) sl (.lst (lV (List.replicate z.toNat none)))) x (.ins B dx (bf sl 0 false))) := fun b o e => by
      rw [upd_ne (ne_of_none e rx)]
      exact r4 b o e
    have gn : get ({ P0 with made := P0.made + 1 } : Pl).boxes P0.made = none := get_none.mpr fun q => by
      have := (W0.lo P0.made q).2
      omega
    have A7 := A6.add (R' := R) (n := P0.made) (b := ⟨List.replicate z.toNat none, 0, false⟩) (x := x) (dx := dx) (sl := sl) gn upd_same (by rw [upd_ne xsl.symm]; exact upd_same) r5 rx (r3.free rsl)
    generalize upd (upd (upd (upd (upd H1 dx (.own x)) x (.ins B dx [])) l (.lst [.non])) sl (.lst (lV (List.replicate z.toNat none)))) x (.ins B dx (bf sl 0 false)) = H6 at A6 A7 ⊢
    refine ⟨_, rfl, p, C, g.dx, _, _, rfl, A6.hp, T.clC, T.nB, pf_boxes _ _ _, _, rfl, g.db, _, rfl, DPut.k (k := Sum.inl P0.made) A6.hd (by rw [dV_len, sizeLine_eq]; show P0.boxes.length < _; omega), ?_⟩
    refine ⟨_, rfl, p, g.dx, _, rfl, A7.hp, pf_no _ _ _ (by decide +kernel) (by decide +kernel) (by decide +kernel), _, rfl, p, C, g.dx, _, _, rfl, A7.hp, T.clC, T.nH, pf_hands _ _ _, _, rfl, _, rfl, ?_⟩
    refine ⟨p, g.lh, _, born P0 z.toNat, { born P0 z.toNat with hands := P0.hands.set h.toNat (some P0.made), boxes := bumped (born P0 z.toNat).boxes (some P0.made) }, R, some P0.made, P0.hands, h.toNat, ?_, A7, (W0.born hsz c60').hx, by rw [W0.hl]; exact hh8,
      fun H1 A => ⟨A.hh, A.hand _⟩, (W0.born hsz c60').hand hh8, fun r H' hr A => k' c60' r H' hr ⟨⟨_, A⟩, mk_ok W0 hh8 hsz c60'⟩⟩
    rw [Int.toNat_of_nonneg ch.1]
    rfl
/-! ### hold -/
theorem scHold : FnScope ["self", "hand", "other"] ["self", "hand", "other"] (defScope sHold) := ⟨rfl, rfl, rfl, by decide +kernel, rfl, by decide +kernel, by decide +kernel⟩
theorem ok_hold {f fL fP fK : Addr} {fd fdL fdP fdK : FuncData} (F : Fun K "hold" "Pile.hold" sHold f fd) (T : Txt K mg C B eH eS eF eB eL) (FL : Fun K "_let_go" "Pile._let_go" sLetGo fL fdL) (bL : Binds K fdL ["self", "pointer"] []) (mL : Meth K C "_let_go" fL)
    (FP : Fun K "_point" "Pile._point" sPoint fP fdP) (bP : Binds K fdP ["self", "pointers", "at", "number"] []) (mP : Meth K C "_point" fP) (FK : Fun K "check_hand" "check_hand" sCheck fK fdK) (bK : Binds K fdK ["hand"] []) (gK : mg "check_hand" = some (.ref fK)) :
    FnOk P w K mg base (L2.CX P w) 3 f fd ["self", "hand", "other"] (spHold C B eH) := by
  have GK : FnOk P w K mg base (L2.CX P w) 1 fK fdK ["hand"] (spCheck eH) := ok_check FK T
  have GP : FnOk P w K mg base CX0 2 fP fdP ["self", "pointers", "at", "number"] (spPoint C B) := ok_point FP T FL bL mL
  refine F.okX scHold (fun vs H Q E h => ?_) (fun cdv A outer s H vs Q E hr h => ?_)
  · obtain ⟨p, P, R, h, o, rfl, _⟩ := h
    rfl
  · obtain ⟨p, P0, R, h, o, rfl, ⟨⟨g, A0⟩, W0⟩, kH, kO, k⟩ := h
    have hr1 : Room 1 _ := hr.mono (by decide)
    refine ⟨_, pss_cons (ps_expr (pe_call GK hr1 rfl gK FK.kp bK .nil (passes_call (takes_of rfl rfl rfl rfl) (fun _ _ _ _ h => h)) (pa_cons (pv 1) pa_nil))) (pss_cons (ps_expr (pe_call GK hr1 rfl gK FK.kp bK .nil (passes_call (takes_of rfl rfl rfl rfl) (fun _ _ _ _ h => h)) (pa_cons (pv 2) pa_nil)))
      (pss_one (ps_ret (pe_meth (pv 0) T.clC mP GP hr bP .nil pass0 (pa_cons (pe_fld (pv 0) rfl) (pa_cons (pv 1) (pa_cons (pe_ix ix_list (pe_fld (pv 0) rfl) (pv 2) (fun _ _ => rfl)) pa_nil))))))), ?_⟩
    refine ⟨_, rfl, h, rfl, fun ch => ?_, fun ch => kH ch⟩
    refine ⟨_, rfl, o, rfl, fun co => ?_, fun co => kO ch co⟩
    have h8 : h.toNat < 8 := by omega
    have ol : o.toNat < P0.hands.length := by rw [W0.hl]; omega
    have hpre : Pre P0 (P0.hands.getD o.toNat none) := W0.pre fun n e => W0.hand e
    refine ⟨_, rfl, p, g.dx, _, rfl, A0.hp, pf_no _ _ _ (by decide +kernel) (by decide +kernel) (by decide +kernel), _, rfl, p, C, g.dx, _, _, rfl, A0.hp, T.clC, T.nH, pf_hands _ _ _, _, rfl, _, rfl, p, C, g.dx, _, _, rfl, A0.hp, T.clC, T.nH, pf_hands _ _ _, _, rfl, g.lh, _, _, _, rfl, rfl, SqL.of A0.hh, at_of (j := o.toNat) (by rw [Int.toNat_of_nonneg co.1]) (lV_get ol), ?_⟩
    refine ⟨p, g.lh, g, P0, { P0 with hands := P0.hands.set h.toNat (P0.hands.getD o.toNat none), boxes := bumped P0.boxes (P0.hands.getD o.toNat none) }, R, P0.hands.getD o.toNat none, P0.hands, h.toNat, (by rw [Int.toNat_of_nonneg ch.1]; rfl), A0, hpre.hx, by rw [W0.hl]; exact h8,
      fun H1 A => ⟨A.hh, A.hand _⟩, hpre.hand h8, fun r H' hr A => k ch co r H' hr ⟨⟨_, A⟩, ptHand_ok hpre h8⟩⟩
/-! ### drop -/
theorem scDrop : FnScope ["self", "hand"] ["self", "hand"] (defScope sDrop) := ⟨rfl, rfl, rfl, by decide +kernel, rfl, by decide +kernel, by decide +kernel⟩
theorem ok_drop {f fL fP fK : Addr} {fd fdL fdP fdK : FuncData} (F : Fun K "drop" "Pile.drop" sDrop f fd) (T : Txt K mg C B eH eS eF eB eL) (FL : Fun K "_let_go" "Pile._let_go" sLetGo fL fdL) (bL : Binds K fdL ["self", "pointer"] []) (mL : Meth K C "_let_go" fL)
    (FP : Fun K "_point" "Pile._point" sPoint fP fdP) (bP : Binds K fdP ["self", "pointers", "at", "number"] []) (mP : Meth K C "_point" fP) (FK : Fun K "check_hand" "check_hand" sCheck fK fdK) (bK : Binds K fdK ["hand"] []) (gK : mg "check_hand" = some (.ref fK)) :
    FnOk P w K mg base (L2.CX P w) 3 f fd ["self", "hand"] (spDrop C B eH) := by
  have GK : FnOk P w K mg base (L2.CX P w) 1 fK fdK ["hand"] (spCheck eH) := ok_check FK T
  have GP : FnOk P w K mg base CX0 2 fP fdP ["self", "pointers", "at", "number"] (spPoint C B) := ok_point FP T FL bL mL
  refine F.okX scDrop (fun vs H Q E h => ?_) (fun cdv A outer s H vs Q E hr h => ?_)
  · obtain ⟨p, P, R, h, rfl, _⟩ := h
    rfl
  · obtain ⟨p, P0, R, h, rfl, ⟨⟨g, A0⟩, W0⟩, kH, k⟩ := h
    have hr1 : Room 1 _ := hr.mono (by decide)
    refine ⟨_, pss_cons (ps_expr (pe_call GK hr1 rfl gK FK.kp bK .nil (passes_call (takes_of rfl rfl rfl rfl) (fun _ _ _ _ h => h)) (pa_cons (pv 1) pa_nil)))
      (pss_one (ps_ret (pe_meth (pv 0) T.clC mP GP hr bP .nil pass0 (pa_cons (pe_fld (pv 0) rfl) (pa_cons (pv 1) (pa_cons pe_non pa_nil)))))), ?_⟩
    refine ⟨_, rfl, h, rfl, fun ch => ?_, fun ch => kH ch⟩
    have h8 : h.toNat < 8 := by omega
    have hpre : Pre P0 none := W0.pre fun n e => by cases e
    refine ⟨_, rfl, p, g.dx, _, rfl, A0.hp, pf_no _ _ _ (by decide +kernel) (by decide +kernel) (by decide +kernel), _, rfl, p, C, g.dx, _, _, rfl, A0.hp, T.clC, T.nH, pf_hands _ _ _, _, rfl, ?_⟩
    refine ⟨p, g.lh, g, P0, { P0 with hands := P0.hands.set h.toNat none, boxes := bumped P0.boxes none }, R, none, P0.hands, h.toNat, (by rw [Int.toNat_of_nonneg ch.1]; rfl), A0, hpre.hx, by rw [W0.hl]; exact h8,
      fun H1 A => ⟨A.hh, A.hand _⟩, hpre.hand h8, fun r H' hr A => k ch r H' hr ⟨⟨_, A⟩, ptHand_ok hpre h8⟩⟩
/-! ### what a pile tells -/
theorem scHolds : FnScope ["self", "hand"] ["self", "hand"] (defScope sHolds) := ⟨rfl, rfl, rfl, by decide +kernel, rfl, by decide +kernel, by decide +kernel⟩
theorem ok_holds {f fK : Addr} {fd fdK : FuncData} (F : Fun K "holds" "Pile.holds" sHolds f fd) (T : Txt K mg C B eH eS eF eB eL) (FK : Fun K "check_hand" "check_hand" sCheck fK fdK) (bK : Binds K fdK ["hand"] []) (gK : mg "check_hand" = some (.ref fK)) :
    FnOk P w K mg base (L2.CX P w) 2 f fd ["self", "hand"] (spHolds C B eH) := by
  have GK : FnOk P w K mg base (L2.CX P w) 1 fK fdK ["hand"] (spCheck eH) := ok_check FK T
  refine F.okX scHolds (fun vs H Q E h => ?_) (fun cdv A outer s H vs Q E hr h => ?_)
  · obtain ⟨p, g, P, R, h, rfl, _⟩ := h
    rfl
  · obtain ⟨p, g, P0, R, h, rfl, A0, h8, kH, k⟩ := h
    refine ⟨_, pss_cons (ps_expr (pe_call GK hr rfl gK FK.kp bK .nil (passes_call (takes_of rfl rfl rfl rfl) (fun _ _ _ _ h => h)) (pa_cons (pv 1) pa_nil)))
      (pss_one (ps_ret (pe_ix ix_list (pe_fld (pv 0) rfl) (pv 1) (fun _ _ => rfl)))), ?_⟩
    refine ⟨_, rfl, h, rfl, fun ch => ?_, fun ch => kH ch⟩
    exact ⟨_, rfl, p, C, g.dx, _, _, rfl, A0.hp, T.clC, T.nH, pf_hands _ _ _, _, rfl, g.lh, _, _, _, rfl, rfl, SqL.of A0.hh, at_of (j := h.toNat) (by rw [Int.toNat_of_nonneg ch.1]) (lV_get (by omega)), k ch⟩
theorem scBox : FnScope ["self", "number"] ["self", "number"] (defScope sBox) := ⟨rfl, rfl, rfl, by decide +kernel, rfl, by decide +kernel, by decide +kernel⟩
theorem ok_box {f : Addr} {fd : FuncData} (F : Fun K "_box" "Pile._box" sBox f fd) (T : Txt K mg C B eH eS eF eB eL) : FnOk P w K mg base (L2.CX P w) 1 f fd ["self", "number"] (spBox C B eB) := by
  refine F.okX scBox (fun vs H Q E h => ?_) (fun cdv A outer s H vs Q E hr h => ?_)
  · obtain ⟨p, g, P, R, h, rfl, _⟩ := h
    rfl
  · obtain ⟨p, g, P0, R, n, rfl, A0, kB, k⟩ := h
    have hu := hu_of hr
    refine ⟨_, pss_cons (ps_if (pt_cmp (pc_dnotin hu (pv 1) (pe_fld (pv 0) rfl))) (pss_one (ps_raise rfl (takes_of rfl rfl rfl rfl) (pmk_own PySem.F.excBase_ValueError T.eB.x T.eB.g T.eB.k (raises_own T.eB.b T.eB.t) rfl))) pss_nil)
      (pss_one (ps_ret (pe_dget hu (pe_fld (pv 0) rfl) (pv 1) (fun _ _ => rfl)))), ?_⟩
    refine ⟨_, rfl, _, rfl, p, C, g.dx, _, _, rfl, A0.hp, T.clC, T.nB, pf_boxes _ _ _, g.db, _, rfl, DGet.k (k := Sum.inl n) A0.hd, _, rfl, ?_⟩
    have hD := DGet.k (k := Sum.inl n) A0.hd
    rw [valV_dV] at hD ⊢
    cases e : get P0.boxes n with
    | none => exact iteT (kB e)
    | some b =>
      rw [e] at hD
      refine iteF ?_
      exact ⟨_, rfl, p, C, g.dx, _, _, rfl, A0.hp, T.clC, T.nB, pf_boxes _ _ _, _, rfl, g.db, _, rfl, hD, k b e⟩
theorem scPoints : FnScope ["self", "number"] ["self", "number"] (defScope sPoints) := ⟨rfl, rfl, rfl, by decide +kernel, rfl, by decide +kernel, by decide +kernel⟩
theorem ok_points {f fX : Addr} {fd fdX : FuncData} (F : Fun K "points" "Pile.points" sPoints f fd) (T : Txt K mg C B eH eS eF eB eL) (FX : Fun K "_box" "Pile._box" sBox fX fdX) (bX : Binds K fdX ["self", "number"] []) (mX : Meth K C "_box" fX) :
    FnOk P w K mg base (L2.CX P w) 2 f fd ["self", "number"] (spPoints C B eB) := by
  have GX : FnOk P w K mg base (L2.CX P w) 1 fX fdX ["self", "number"] (spBox C B eB) := ok_box FX T
  refine F.okX scPoints (fun vs H Q E h => ?_) (fun cdv A outer s H vs Q E hr h => ?_)
  · obtain ⟨p, g, P, R, h, rfl, _⟩ := h
    rfl
  · obtain ⟨p, g, P0, R, n, rfl, A0, hl6, kB, k⟩ := h
    refine ⟨_, pss_one (ps_ret (pe_callTy call_list_of (by rfl) T.list (by decide +kernel) (pa_cons (pe_fld (pe_meth (pv 0) T.clC mX GX hr bX .nil (passes_call (takes_of rfl rfl rfl rfl) (fun _ _ _ _ h => h)) (pa_cons (pv 1) pa_nil)) rfl) pa_nil))), ?_⟩
    refine ⟨_, rfl, p, g.dx, _, rfl, A0.hp, pf_no _ _ _ (by decide +kernel) (by decide +kernel) (by decide +kernel), _, rfl, p, g, P0, R, n, rfl, A0, kB, fun b hb => ?_⟩
    exact ⟨g.ba n, B, g.bd n, _, _, rfl, A0.hb n b hb, T.clB, T.nS, bf_slots _ _ _, g.sa n, _, rfl, .inl (SqL.of (A0.hs n b hb)), fun r hr => k b hb r hr⟩
theorem scWeighs : FnScope ["self", "number"] ["self", "number"] (defScope sWeighs) := ⟨rfl, rfl, rfl, by decide +kernel, rfl, by decide +kernel, by decide +kernel⟩
theorem ok_weighs {f fX : Addr} {fd fdX : FuncData} (F : Fun K "weighs" "Pile.weighs" sWeighs f fd) (T : Txt K mg C B eH eS eF eB eL) (FX : Fun K "_box" "Pile._box" sBox fX fdX) (bX : Binds K fdX ["self", "number"] []) (mX : Meth K C "_box" fX) :
    FnOk P w K mg base (L2.CX P w) 2 f fd ["self", "number"] (spWeighs C B eB) := by
  have GX : FnOk P w K mg base (L2.CX P w) 1 fX fdX ["self", "number"] (spBox C B eB) := ok_box FX T
  refine F.okX scWeighs (fun vs H Q E h => ?_) (fun cdv A outer s H vs Q E hr h => ?_)
  · obtain ⟨p, g, P, R, h, rfl, _⟩ := h
    rfl
  · obtain ⟨p, g, P0, R, n, rfl, A0, kB, k⟩ := h
    refine ⟨_, pss_one (ps_ret (pe_fld (pe_meth (pv 0) T.clC mX GX hr bX .nil (passes_call (takes_of rfl rfl rfl rfl) (fun _ _ _ _ h => h)) (pa_cons (pv 1) pa_nil)) rfl)), ?_⟩
    refine ⟨_, rfl, p, g.dx, _, rfl, A0.hp, pf_no _ _ _ (by decide +kernel) (by decide +kernel) (by decide +kernel), _, rfl, p, g, P0, R, n, rfl, A0, kB, fun b hb => ?_⟩
    exact ⟨g.ba n, B, g.bd n, _, _, rfl, A0.hb n b hb, T.clB, T.nW, bf_weight _ _ _, k b hb⟩
theorem scAlive : FnScope ["self"] ["self"] (defScope sAlive) := ⟨rfl, rfl, rfl, by decide +kernel, rfl, by decide +kernel, by decide +kernel⟩
theorem sorted_same {ys ks : List Int} (p : ys.Perm ks) (h : ys.Pairwise (· ≤ ·)) (hk : ks.Pairwise (· < ·)) : ys = ks :=
  p.eq_of_pairwise (fun a b _ _ h1 h2 => Int.le_antisymm h1 h2) h (hk.imp fun h => Int.le_of_lt h)
theorem ok_alive {f : Addr} {fd : FuncData} (F : Fun K "alive" "Pile.alive" sAlive f fd) (T : Txt K mg C B eH eS eF eB eL) : FnOk P w K mg base CX0 1 f fd ["self"] (spAlive C B) := by
  refine F.ok scAlive (fun vs H Q E h => ?_) (fun cdv A outer s H vs Q E hr h => ?_)
  · obtain ⟨p, g, P, R, rfl, _⟩ := h
    rfl
  · obtain ⟨p, g, P0, R, rfl, A0, W0, k⟩ := h
    refine ⟨_, pss_one (ps_ret (pe_callB (call_sortedDI rfl) (by rfl) T.sorted (by decide +kernel) (pa_cons (pe_fld (pv 0) rfl) pa_nil))), ?_⟩
    refine ⟨_, rfl, p, C, g.dx, _, _, rfl, A0.hp, T.clC, T.nB, pf_boxes _ _ _, g.db, _, keys P0.boxes, rfl, .inl A0.hd, dV_keys _ _, ?_, fun ys r hp hs hr => ?_⟩
    · have := W0.few
      have e : (keys P0.boxes).length = P0.boxes.length := List.length_map _
      omega
    · rw [sorted_same hp hs W0.ks]
      exact k r hr
theorem scSuspects : FnScope ["self", "number"] ["self"] (defScope sSuspects) := ⟨rfl, rfl, rfl, by decide +kernel, rfl, by decide +kernel, by decide +kernel⟩
theorem take_get {α : Type} : ∀ {l : List α} {i : Nat} {x : α}, l[i]? = some x → l.take (i + 1) = l.take i ++ [x]
  | [], i, x, h => by simp at h
  | a :: l, 0, x, h => by
    have e : a = x := Option.some.inj h
    subst e
    rfl
  | a :: l, i + 1, x, h => by
    have ih := take_get (l := l) (i := i) (x := x) h
    show a :: l.take (i + 1) = a :: l.take i ++ [x]
    rw [ih]
    rfl
theorem ok_suspects {f : Addr} {fd : FuncData} (F : Fun K "suspects" "Pile.suspects" sSuspects f fd) (T : Txt K mg C B eH eS eF eB eL) : FnOk P w K mg base CX0 1 f fd ["self"] (spSuspects C B) := by
  refine F.ok scSuspects (fun vs H Q E h => ?_) (fun cdv A outer s H vs Q E hr h => ?_)
  · obtain ⟨p, g, P, R, rfl, _⟩ := h
    rfl
  · obtain ⟨p, g, P0, R, rfl, A0, W0, k⟩ := h
    have hu := hu_of hr
    refine ⟨_, pss_one (ps_ret (pe_lc (own := [("number", 1)]) (g := gName 1) (tt := tB (tFld K (tDGet (tFld K (tVar 0) "_boxes") (tVar 1)) "suspect")) rfl scSuspects.nd (pi_list (pe_callB (call_sortedDI rfl) (by rfl) T.sorted (by decide +kernel) (pa_cons (pe_fld (pv 0) rfl) pa_nil)))
      (blkOk_by (N := ["self", "number"]) (sc := defScope sSuspects) (by decide +kernel)) (fun _ _ _ _ _ => pg_name (i := 1) scSuspects.nd rfl (Or.inl rfl))
      (fun _ _ _ _ _ => pts_one (pt_val (pe_fld (pe_dget hu (pe_fld (pv 0) rfl) (pv 1) (fun _ _ => rfl)) rfl))) (fun _ _ _ _ _ => by exact (pv 1)))), ?_⟩
    refine ⟨_, rfl, p, C, g.dx, _, _, rfl, A0.hp, T.clC, T.nB, pf_boxes _ _ _, g.db, _, keys P0.boxes, rfl, .inl A0.hd, dV_keys _ _, ?_, fun ys r hp hs hr => ?_⟩
    · have := W0.few
      have e : (keys P0.boxes).length = P0.boxes.length := List.length_map _
      omega
    · rw [sorted_same hp hs W0.ks]
      refine ⟨r, rfl, ⟨_, SqL.of upd_same⟩, fun D hD => ?_⟩
      have A1 := A0.new (o := .lst ((keys P0.boxes).map V.int)) hr
      have nrD : r ≠ D := ne_of_none upd_same hD
      have A2 := A1.new (o := .lst []) hD
      refine lc_list (K := K) (a := r) (xs := (keys P0.boxes).map V.int) (fun i H' => PileAt C B p g P0 (twoL R r D ((keys P0.boxes).map V.int) ((((keys P0.boxes).take i).filter fun n => match get P0.boxes n with | none => false | some b => b.sus).map V.int)) H') A2 ?_ ?_ ?_
      · intro i H' _ A
        exact SqL.of (A.same _ _ (by unfold twoL; rw [upd_ne nrD, upd_same]))
      · intro i y H' hi A
        obtain ⟨n, hn, rfl⟩ : ∃ n, (keys P0.boxes)[i]? = some n ∧ y = V.int n := by
          rw [List.getElem?_map] at hi
          cases e : (keys P0.boxes)[i]? with
          | none => rw [e] at hi; cases hi
          | some n =>
            rw [e] at hi
            exact ⟨n, rfl, (Option.some.inj hi).symm⟩
        obtain ⟨b, hb⟩ := get_keys.mpr (List.mem_of_getElem? hn)
        have hD' : DGet H' g.db (.int n) (some (V.ref (g.ba n))) := by
          have := DGet.k (k := Sum.inl n) A.hd
          rw [valV_dV, hb] at this
          exact this
        have hacc : H' D = some (.lst ((((keys P0.boxes).take i).filter fun n => match get P0.boxes n with | none => false | some b => b.sus).map V.int)) := A.same _ _ (by unfold twoL; rw [upd_same])
        refine ⟨rfl, _, rfl, p, C, g.dx, _, _, rfl, A.hp, T.clC, T.nB, pf_boxes _ _ _, _, rfl, g.db, _, rfl, hD', g.ba n, B, g.bd n, _, _, rfl, A.hb n b hb, T.clB, T.nU, bf_suspect _ _ _, b.sus, rfl, ?_⟩
        cases q : b.sus with
        | true =>
          refine iteT ⟨_, rfl, _, hacc, ?_, ?_⟩
          · rw [List.length_map, sizeLine_eq]
            have h1 := List.length_filter_le (fun n => match get P0.boxes n with | none => false | some b => b.sus) ((keys P0.boxes).take i)
            have h2 : ((keys P0.boxes).take i).length ≤ (keys P0.boxes).length := by rw [List.length_take]; exact Nat.min_le_right _ _
            have e : (keys P0.boxes).length = P0.boxes.length := List.length_map _
            have := W0.few
            omega
          · have := A.set (a := D) (o := .lst ((((keys P0.boxes).take i).filter fun n => match get P0.boxes n with | none => false | some b => b.sus).map V.int ++ [V.int n])) (by unfold twoL; rw [upd_same])
            rw [twoL_b] at this
            rw [take_get hn, List.filter_append, List.map_append]
            have e1 : (List.filter (fun n => match get P0.boxes n with | none => false | some b => b.sus) [n]) = [n] := by simp [hb, q]
            rw [e1]
            exact this
        | false =>
          refine iteF ?_
          rw [take_get hn, List.filter_append, List.map_append]
          have e1 : (List.filter (fun n => match get P0.boxes n with | none => false | some b => b.sus) [n]) = [] := by simp [hb, q]
          rw [e1, List.map_nil, List.append_nil]
          exact A
      · intro H' A
        have el : ((keys P0.boxes).map V.int).length = (keys P0.boxes).length := List.length_map _
        rw [el, List.take_length] at A
        refine k D H' (A0.same.free (by rw [upd_ne nrD.symm] at hD; exact hD)) (A.less fun b o e => ?_)
        by_cases q : b = D
        · rw [q, upd_same] at e
          rw [q]
          unfold twoL
          rw [upd_same]
          exact e
        · rw [upd_ne q] at e
          unfold twoL
          rw [upd_ne q, upd_ne (ne_of_none (A0.same _ _ e) hr)]
          exact e
end
end BP

namespace BP
open PySem L2
abbrev sWhole : Stmt := top 17
abbrev sNums : Stmt := top 19
abbrev sHeldBy : Stmt := top 20
abbrev sLaw : Stmt := top 21
/-- the names of the built-ins that the law's helpers call -/
structure TxtL (mg : Str → Option Value) : Prop where
  isi : mg "isinstance" = none
  int : mg "int" = none
  bool : mg "bool" = none
  list : mg "list" = none
  len : mg "len" = none
  range : mg "range" = none
  min : mg "min" = none
  sorted : mg "sorted" = none
  set : mg "set" = none
def spWhole : Sp := fun vs H Q _ => ∃ n : Int, vs = [.int n] ∧ Q (.bl true) H
def spLaw (K : PySem.W.Frag) : Sp := fun vs H Q _ => ∃ (a : Addr) (ns : List Int), vs = [.ref a] ∧ SqL K H a (ns.map V.int) ∧ ns.length ≤ 63 ∧ ∀ H', Q (.bl true) H'
def spNums : Sp := fun vs H Q _ => ∃ (a b : Addr) (l : List (Option Int)), vs = [.ref a, .ref b] ∧ H a = some (.lst (lV l)) ∧ H b = some (.lst (lV l)) ∧ l.length ≤ 1000 ∧ Q (.bl true) H
section
variable {P : Program} {w : World} {K : PySem.W.Frag} {mg : Str → Option Value} {base : Heap} {C B eH eS eF eB eL : Addr}
theorem scWhole : FnScope ["_law_found"] ["_law_found"] (defScope sWhole) := ⟨rfl, rfl, rfl, by decide +kernel, rfl, by decide +kernel, by decide +kernel⟩
theorem ok_whole {f : Addr} {fd : FuncData} (F : Fun K "_law_whole" "_law_whole" sWhole f fd) (T : TxtL mg) : FnOk P w K mg base CX0 1 f fd ["_law_found"] spWhole := by
  refine F.ok scWhole (fun vs H Q E h => ?_) (fun cdv A outer s H vs Q E hr h => ?_)
  · obtain ⟨n, rfl, _⟩ := h
    rfl
  · obtain ⟨n, rfl, k⟩ := h
    refine ⟨_, pss_one (ps_ret (pe_and (pe_callB call_isi (by rfl) T.isi PyProof.Rows.boot_isinstance (pa_cons (pv 0) (pa_cons (pe_bltn (v := .ty "int") (by rfl) T.int PyProof.Rows.boot_int rfl) pa_nil)))
      (pe_one (pe_not (pe_callB call_isi (by rfl) T.isi PyProof.Rows.boot_isinstance (pa_cons (pv 0) (pa_cons (pe_bltn (v := .ty "bool") (by rfl) T.bool (by decide +kernel) rfl) pa_nil))))))), ?_⟩
    refine ⟨_, rfl, _, _, _, _, true, rfl, .ty "int", .base (.int n), kit_ty (by decide +kernel), _, rfl, ?_⟩
    refine iteT ⟨_, rfl, _, _, _, _, false, rfl, .ty "bool", .base (.int n), kit_ty (by decide +kernel), _, rfl, ?_⟩
    exact k
theorem scNums : FnScope ["_law_found", "_law_due", "_law_k"] ["_law_found", "_law_due"] (defScope sNums) := ⟨rfl, rfl, rfl, by decide +kernel, rfl, by decide +kernel, by decide +kernel⟩
theorem ok_nums {f fW : Addr} {fd fdW : FuncData} (F : Fun K "_law_numbers" "_law_numbers" sNums f fd) (T : TxtL mg) (FW : Fun K "_law_whole" "_law_whole" sWhole fW fdW) (bW : Binds K fdW ["_law_found"] []) (gW : mg "_law_whole" = some (.ref fW)) :
    FnOk P w K mg base CX0 2 f fd ["_law_found", "_law_due"] spNums := by
  have GW : FnOk P w K mg base CX0 1 fW fdW ["_law_found"] spWhole := ok_whole FW T
  refine F.ok scNums (fun vs H Q E h => ?_) (fun cdv A outer s H vs Q E hr h => ?_)
  · obtain ⟨a, b, l, rfl, _⟩ := h
    rfl
  · obtain ⟨a, b, l, rfl, ha, hb, hl, k⟩ := h
    refine ⟨_, pss_cons (ps_if (PW.pt (pw_or (pt_not (pt_val (pe_callB call_isi (by rfl) T.isi PyProof.Rows.boot_isinstance (pa_cons (pv 0) (pa_cons (pe_bltn (v := .ty "list") (by rfl) T.list (by decide +kernel) rfl) pa_nil)))))
          (pw_or1 (pt_cmpR op_ne (pe_callB call_len_seq (by rfl) T.len PySem.boot_len (pa_cons (pv 0) pa_nil)) (pe_callB call_len_seq (by rfl) T.len PySem.boot_len (pa_cons (pv 1) pa_nil)) (nomark _))))) (pss_one (ps_ret pe_bl)) pss_nil)
      (pss_cons (ps_for PassesOwn.never rfl (pi_range1 (by rfl) T.range (pa_cons (pe_callB call_len_seq (by rfl) T.len PySem.boot_len (pa_cons (pv 1) pa_nil)) pa_nil)) (pg_name (i := 2) scNums.nd rfl (Or.inl rfl))
        (pss_one (ps_if (pt_cmpR op_isN (pe_ix ix_list (pv 1) (pv 2) (fun _ _ => rfl)) pe_non (nomark _))
          (pss_one (ps_if (pt_cmpR op_notN (pe_ix ix_list (pv 0) (pv 2) (fun _ _ => rfl)) pe_non (nomark _)) (pss_one (ps_ret pe_bl)) pss_nil))
          (pss_one (ps_if (PW.pt (pw_or (pt_not (pt_val (pe_call GW hr rfl gW FW.kp bW .nil pass0 (pa_cons (pe_ix ix_list (pv 0) (pv 2) (fun _ _ => rfl)) pa_nil))))
            (pw_or1 (pt_cmpR op_ne (pe_ix ix_list (pv 0) (pv 2) (fun _ _ => rfl)) (pe_ix ix_list (pv 1) (pv 2) (fun _ _ => rfl)) (nomark _))))) (pss_one (ps_ret pe_bl)) pss_nil)))))
      (pss_one (ps_ret pe_bl))), ?_⟩
    refine ⟨_, rfl, _, _, _, _, true, rfl, .ty "list", .base (.lst ha), kit_ty (by decide +kernel), _, rfl, ?_⟩
    refine iteF ⟨_, rfl, a, _, rfl, .inl (SqL.of ha), _, rfl, b, _, rfl, .inl (SqL.of hb), rfl, _, rfl, ?_⟩
    refine iteNS rfl ?_
    have ell : (lV l).length = l.length := lV_len l
    refine ⟨_, rfl, b, _, rfl, .inl (SqL.of hb), _, rfl, by omega, by omega, ?_⟩
    rw [ell]
    refine for_range (lo := 0) (n := (l.length : Int).toNat) (fun i σ H' => ∃ v : Option V, σ = [some (.ref a), some (.ref b), v] ∧ H' = H) ⟨none, rfl, rfl⟩ ?_ ?_
    · rintro i σ H' hi ⟨v, rfl, rfl⟩
      have hi' : i < l.length := by omega
      have hx := lV_get hi'
      have hix : (0 : Int) + (i : Int) = ((i : Nat) : Int) := by omega
      refine ⟨_, rfl, _, rfl, b, _, _, _, rfl, rfl, SqL.of hb, at_of (j := i) hix hx, rfl, _, rfl, ?_⟩
      cases e : l.getD i none with
      | none =>
        rw [e] at hx
        refine iteT ⟨_, rfl, _, rfl, a, _, _, _, rfl, rfl, SqL.of ha, at_of (j := i) hix hx, rfl, _, rfl, ?_⟩
        exact iteF ⟨_, rfl, rfl⟩
      | some n =>
        rw [e] at hx
        refine iteF ⟨_, rfl, _, rfl, a, _, _, _, rfl, rfl, SqL.of ha, at_of (j := i) hix hx, n, rfl, _, rfl, ?_⟩
        refine iteF ⟨_, rfl, _, rfl, a, _, _, _, rfl, rfl, SqL.of ha, at_of (j := i) hix hx, _, rfl, _, rfl, b, _, _, _, rfl, rfl, SqL.of hb, at_of (j := i) hix hx, rfl, _, rfl, ?_⟩
        exact iteNS rfl ⟨_, rfl, rfl⟩
    · rintro σ H' ⟨v, rfl, rfl⟩
      exact k
theorem ixN_int {n : Nat} {h : Int} (h0 : 0 ≤ h) (h1 : h < n) : ixN n h = some h.toNat := by
  unfold ixN
  rw [if_pos h0, if_pos h1]
theorem lV_int (l : List Int) : l.map V.int = lV (l.map some) := by
  unfold lV
  rw [List.map_map]
  rfl
theorem inV_ints (n : Int) : ∀ l : List Int, inV (V.int n) (l.map V.int) = decide (n ∈ l)
  | [] => rfl
  | m :: l => by
    have ih := inV_ints n l
    unfold inV at ih ⊢
    rw [List.map_cons, List.any_cons, ih]
    show ((m == n) || decide (n ∈ l)) = decide (n ∈ m :: l)
    by_cases q : m = n
    · subst q; simp
    · have : ¬ n = m := fun z => q z.symm
      simp [q, this]
theorem flat_ints : ∀ l : List Int, (l.map V.int).all flatV = true
  | [] => rfl
  | m :: l => by rw [List.map_cons, List.all_cons, flat_ints l]; rfl
theorem lV_at {l : List (Option Int)} {i : Nat} {y : V} (hi : (lV l)[i]? = some y) : ∃ o, l[i]? = some o ∧ y = oV o := by
  unfold lV at hi
  rw [List.getElem?_map] at hi
  cases e : l[i]? with
  | none => rw [e] at hi; cases hi
  | some o =>
    rw [e] at hi
    exact ⟨o, rfl, (Option.some.inj hi).symm⟩
theorem ints_at {l : List Int} {i : Nat} {y : V} (hi : (l.map V.int)[i]? = some y) : ∃ n, l[i]? = some n ∧ y = V.int n := by
  rw [List.getElem?_map] at hi
  cases e : l[i]? with
  | none => rw [e] at hi; cases hi
  | some o =>
    rw [e] at hi
    exact ⟨o, rfl, (Option.some.inj hi).symm⟩
/-- the addresses and facts of the program's defs -/
structure Defs (K : PySem.W.Frag) (mg : Str → Option Value) (C B : Addr) (fI fM fO fR fH fT fG fA fS fX fP fL fB fK fW fN fV : Addr) (dI dM dO dR dH dT dG dA dS dX dP dL dB dK dW dN dV : FuncData) : Prop where
  FI : Fun K "__init__" "Pile.__init__" sInit fI dI
  bI : Binds K dI ["self"] []
  MC : Mk K C fI
  FM : Fun K "make" "Pile.make" sMake fM dM
  bM : Binds K dM ["self", "hand", "size"] []
  mM : Meth K C "make" fM
  FO : Fun K "hold" "Pile.hold" sHold fO dO
  bO : Binds K dO ["self", "hand", "other"] []
  mO : Meth K C "hold" fO
  FR : Fun K "drop" "Pile.drop" sDrop fR dR
  bR : Binds K dR ["self", "hand"] []
  mR : Meth K C "drop" fR
  FH : Fun K "holds" "Pile.holds" sHolds fH dH
  bH : Binds K dH ["self", "hand"] []
  mH : Meth K C "holds" fH
  FT : Fun K "points" "Pile.points" sPoints fT dT
  bT : Binds K dT ["self", "number"] []
  mT : Meth K C "points" fT
  FG : Fun K "weighs" "Pile.weighs" sWeighs fG dG
  bG : Binds K dG ["self", "number"] []
  mG : Meth K C "weighs" fG
  FA : Fun K "alive" "Pile.alive" sAlive fA dA
  bA : Binds K dA ["self"] []
  mA : Meth K C "alive" fA
  FS : Fun K "suspects" "Pile.suspects" sSuspects fS dS
  bS : Binds K dS ["self"] []
  mS : Meth K C "suspects" fS
  FX : Fun K "_box" "Pile._box" sBox fX dX
  bX : Binds K dX ["self", "number"] []
  mX : Meth K C "_box" fX
  FP : Fun K "_point" "Pile._point" sPoint fP dP
  bP : Binds K dP ["self", "pointers", "at", "number"] []
  mP : Meth K C "_point" fP
  FL : Fun K "_let_go" "Pile._let_go" sLetGo fL dL
  bL : Binds K dL ["self", "pointer"] []
  mL : Meth K C "_let_go" fL
  FB : Fun K "__init__" "Box.__init__" sBoxInit fB dB
  bB : Binds K dB ["self", "size"] []
  MB : Mk K B fB
  FK : Fun K "check_hand" "check_hand" sCheck fK dK
  bK : Binds K dK ["hand"] []
  gK : mg "check_hand" = some (.ref fK)
  FW : Fun K "_law_whole" "_law_whole" sWhole fW dW
  bW : Binds K dW ["_law_found"] []
  gW : mg "_law_whole" = some (.ref fW)
  FN : Fun K "_law_numbers" "_law_numbers" sNums fN dN
  bN : Binds K dN ["_law_found", "_law_due"] []
  gN : mg "_law_numbers" = some (.ref fN)
  FV : Fun K "_law_held_by" "_law_held_by" sHeldBy fV dV
  bV : Binds K dV ["_law_hands", "_law_number"] []
  gV : mg "_law_held_by" = some (.ref fV)
abbrev nLaw : List Str := ["_law_script", "_law_pile", "_law_hands", "_law_made", "_law_doubts", "_law_kept", "_law_cell", "_law_hand", "_law_other", "_law_old", "_law_new", "_law_freed", "_law_due", "_law_alive", "_law_number", "_law_k", "_law_held"]
abbrev nHeldBy : List Str := ["_law_hands", "_law_number", "_law_held"]
def spHeldBy : Sp := fun vs H Q _ => ∃ (a : Addr) (l : List (Option Int)) (n : Int), vs = [.ref a, .int n] ∧ H a = some (.lst (lV l)) ∧ l.length ≤ 1000 ∧ ∀ (L : Addr) (xs : List V), H L = none → Q (.int (cnt l n)) (upd H L (.lst xs))
theorem scHeldBy : FnScope nHeldBy ["_law_hands", "_law_number"] (defScope sHeldBy) := ⟨rfl, rfl, rfl, by decide +kernel, rfl, by decide +kernel, by decide +kernel⟩
theorem ok_heldby {f : Addr} {fd : FuncData} (F : Fun K "_law_held_by" "_law_held_by" sHeldBy f fd) (TL : TxtL mg) : FnOk P w K mg base CX0 1 f fd ["_law_hands", "_law_number"] spHeldBy := by
  refine F.ok scHeldBy (fun vs H Q E h => ?_) (fun cdv A outer s H vs Q E hr h => ?_)
  · obtain ⟨a, l, n, rfl, _⟩ := h
    rfl
  · obtain ⟨a, l, n, rfl, ha, hl, k⟩ := h
    have nd := scHeldBy.nd
    refine ⟨_, (pss_one (ps_ret (pe_callB call_len_seq (by rfl) TL.len PySem.boot_len (pa_cons (pe_lc (own := [("_law_held", 2)]) (g := gName 2) (tt := tTest (tOp rEq (tVar 2) (tVar 1))) (te := tC (.int 1)) (by rfl) nd (pi_list (pv 0)) (blkOk_by (N := nHeldBy) (sc := defScope sHeldBy) (by decide +kernel)) (fun _ _ _ _ _ => pg_name (i := 2) nd rfl (Or.inl rfl)) (fun _ _ _ _ _ => pts_one (pt_cmpR op_eq (pv 2) (pv 1) (nomark _))) (fun _ _ _ _ _ => pe_int)) pa_nil)))), ?_⟩
    refine ⟨_, rfl, a, rfl, ⟨_, SqL.of ha⟩, fun L hL => lc_list (K := K) (a := a) (xs := lV l) (fun i H' => H' = upd H L (.lst (List.replicate (cnt (l.take i) n) (V.int 1)))) rfl (fun i H' _ e => ?_) (fun i y H' hi e => ?_) (fun H' e => ?_)⟩
    · rw [e]
      exact SqL.of (by rw [upd_ne (ne_of_none ha hL)]; exact ha)
    · obtain ⟨o, ho, rfl⟩ : ∃ o, l[i]? = some o ∧ y = oV o := by
        unfold lV at hi
        rw [List.getElem?_map] at hi
        cases e : l[i]? with
        | none => rw [e] at hi; cases hi
        | some o =>
          rw [e] at hi
          exact ⟨o, rfl, (Option.some.inj hi).symm⟩
      have sc : scal (oV o) (V.int n) = true := by cases o <;> rfl
      refine ⟨rfl, _, rfl, _, rfl, sc, _, rfl, ?_⟩
      rw [take_get ho, cnt_append, cnt_cons, cnt_nil, Nat.add_zero]
      by_cases c : o = some n
      · subst c
        refine if_pos_of (decide_eq_true rfl) ?_
        refine ⟨_, by rw [e]; exact upd_same, (by rw [List.length_replicate, sizeLine_eq]; have := List.count_le_length (l := l.take i) (a := some n); rw [List.length_take] at this; show cnt (l.take i) n < _; unfold cnt; omega), ?_⟩
        rw [e, upd_upd]
        have : one (some n) n = 1 := by simp [one]
        rw [this, List.replicate_succ']
      · refine if_neg_of (decide_eq_false (by cases o with | none => intro q; cases q | some m => intro q; injection q with q; exact c (by rw [q]))) ?_
        rw [e]
        have : one o n = 0 := by simp [one, c]
        rw [this, Nat.add_zero]
    · rw [lV_len, List.take_length] at e
      refine ⟨L, _, rfl, .inl (SqL.of (by rw [e]; exact upd_same)), ?_⟩
      rw [List.length_replicate, e]
      exact k L _ hL
/-- what was told and what was due, as kept: a pair of two lists alike -/
def KeptAt (S : Hp) (t : Addr) : Prop := ∃ (r d : Addr) (l : List (Option Int)), S t = some (.tup [.ref r, .ref d]) ∧ S r = some (.lst (lV l)) ∧ S d = some (.lst (lV l)) ∧ l.length ≤ 1000
theorem KeptAt.more {S S' : Hp} {t : Addr} (h : KeptAt S t) (s : Same S S') : KeptAt S' t := by
  obtain ⟨r, d, l, a, b, c, e⟩ := h
  exact ⟨r, d, l, s _ _ a, s _ _ b, s _ _ c, e⟩
theorem scLaw : FnScope nLaw ["_law_script"] (defScope sLaw) := ⟨rfl, rfl, rfl, by decide +kernel, rfl, by decide +kernel, by decide +kernel⟩
theorem ok_law {f fI fM fO fR fH fT fG fA fS fX fP fL fB fK fW fN fV : Addr} {fd dI dM dO dR dH dT dG dA dS dX dP dL dB dK dW dN dV : FuncData} (F : Fun K "law" "law" sLaw f fd) (T : Txt K mg C B eH eS eF eB eL) (TL : TxtL mg)
    (D : Defs K mg C B fI fM fO fR fH fT fG fA fS fX fP fL fB fK fW fN fV dI dM dO dR dH dT dG dA dS dX dP dL dB dK dW dN dV) : FnOk P w K mg base CX0 5 f fd ["_law_script"] (spLaw K) := by
  have GI : FnOk P w K mg base CX0 1 fI dI ["self"] (spInit C B) := ok_init D.FI T
  have GM : FnOk P w K mg base (L2.CX P w) 3 fM dM ["self", "hand", "size"] (spMake C B eH eS eF) := ok_make D.FM T D.FL D.bL D.mL D.FP D.bP D.mP D.MB D.FB D.bB D.FK D.bK D.gK
  have GO : FnOk P w K mg base (L2.CX P w) 3 fO dO ["self", "hand", "other"] (spHold C B eH) := ok_hold D.FO T D.FL D.bL D.mL D.FP D.bP D.mP D.FK D.bK D.gK
  have GR : FnOk P w K mg base (L2.CX P w) 3 fR dR ["self", "hand"] (spDrop C B eH) := ok_drop D.FR T D.FL D.bL D.mL D.FP D.bP D.mP D.FK D.bK D.gK
  have GH : FnOk P w K mg base (L2.CX P w) 2 fH dH ["self", "hand"] (spHolds C B eH) := ok_holds D.FH T D.FK D.bK D.gK
  have GT : FnOk P w K mg base (L2.CX P w) 2 fT dT ["self", "number"] (spPoints C B eB) := ok_points D.FT T D.FX D.bX D.mX
  have GG : FnOk P w K mg base (L2.CX P w) 2 fG dG ["self", "number"] (spWeighs C B eB) := ok_weighs D.FG T D.FX D.bX D.mX
  have GA : FnOk P w K mg base CX0 1 fA dA ["self"] (spAlive C B) := ok_alive D.FA T
  have GS : FnOk P w K mg base CX0 1 fS dS ["self"] (spSuspects C B) := ok_suspects D.FS T
  have GW : FnOk P w K mg base CX0 1 fW dW ["_law_found"] spWhole := ok_whole D.FW TL
  have GN : FnOk P w K mg base CX0 2 fN dN ["_law_found", "_law_due"] spNums := ok_nums D.FN TL D.FW D.bW D.gW
  have GV : FnOk P w K mg base CX0 1 fV dV ["_law_hands", "_law_number"] spHeldBy := ok_heldby D.FV TL
  refine F.ok scLaw (fun vs H Q E h => ?_) (fun cdv A outer s H vs Q E hr h => ?_)
  · obtain ⟨a, ns, rfl, _⟩ := h
    rfl
  · obtain ⟨a, ns, rfl, hS, hlen, k⟩ := h
    have nd := scLaw.nd
    have hr1 : Room 1 _ := hr.mono (by decide)
    have hr2 : Room 2 _ := hr.mono (by decide)
    have hr3 : Room 3 _ := hr.mono (by decide)
    refine ⟨_, (pss_cons (ps_set (i := 1) nd rfl (Or.inr rfl) (pe_make0 D.MC GI hr2 (by rfl) T.mgC D.bI .nil pass0))
      (pss_cons (ps_set (i := 2) nd rfl (Or.inr rfl) (pe_lc (own := [("_law_hand", 7)]) (g := gName 7) (tt := tYes) (te := tC .non) (by rfl) nd (pi_range1 (by rfl) TL.range (pa_cons pe_int pa_nil)) (blkOk_by (N := nLaw) (sc := defScope sLaw) (by decide +kernel)) (fun _ _ _ _ _ => pg_name (i := 7) nd rfl (Or.inl rfl)) (fun _ _ _ _ _ => pts_nil) (fun _ _ _ _ _ => pe_non)))
      (pss_cons (ps_set (i := 3) nd rfl (Or.inl rfl) pe_int)
      (pss_cons (ps_set (i := 4) nd rfl (Or.inl rfl) (pe_lst pa_nil))
      (pss_cons (ps_set (i := 5) nd rfl (Or.inl rfl) (pe_lst pa_nil))
      (pss_cons (ps_for PassesOwn.never rfl (pi_list (pe_slice sl_list (pv 0) po_none (po_some pe_int))) (pg_name (i := 6) nd rfl (Or.inl rfl))
      (pss_cons (ps_set (i := 7) nd rfl (Or.inl rfl) (pe_op op_mod (pe_op op_fdiv (pv 6) pe_int) pe_int))
      (pss_cons (ps_set (i := 8) nd rfl (Or.inl rfl) (pe_op op_mod (pe_op op_fdiv (pv 6) pe_int) pe_int))
      (pss_cons (ps_set (i := 9) nd rfl (Or.inl rfl) (pe_ix ix_list (pv 2) (pv 7) (fun _ _ => rfl)))
      (pss_cons (ps_set (i := 10) nd rfl (Or.inl rfl) pe_non)
      (pss_cons (ps_mid (ps_if (pt_cmpR op_lt (pe_op op_mod (pv 6) pe_int) pe_int (nomark _)) (pss_cons (ps_set (i := 10) nd rfl (Or.inl rfl) (pv 3))
      (pss_cons (ps_set (i := 3) nd rfl (Or.inl rfl) (pe_op op_add (pv 3) pe_int))
      (pss_one (ps_set (i := 11) nd rfl (Or.inl rfl) (pe_meth (pv 1) T.clC D.mM GM hr3 D.bM .nil passL (pa_cons (pv 7) (pa_cons (pe_op op_mod (pe_op op_fdiv (pv 6) pe_int) pe_int) pa_nil))))))) (pss_one (ps_mid (ps_if (pt_cmpR op_eq (pe_op op_mod (pv 6) pe_int) pe_int (nomark _)) (pss_cons (ps_set (i := 10) nd rfl (Or.inl rfl) (pe_ix ix_list (pv 2) (pv 8) (fun _ _ => rfl)))
      (pss_one (ps_set (i := 11) nd rfl (Or.inl rfl) (pe_meth (pv 1) T.clC D.mO GO hr3 D.bO .nil passL (pa_cons (pv 7) (pa_cons (pv 8) pa_nil)))))) (pss_one (ps_set (i := 11) nd rfl (Or.inl rfl) (pe_meth (pv 1) T.clC D.mR GR hr3 D.bR .nil passL (pa_cons (pv 7) pa_nil)))))))))
      (pss_cons (ps_asg (pv 10) (pg_sub (pv 2) (pv 7) set_list))
      (pss_cons (ps_set (i := 12) nd rfl (Or.inr rfl) (pe_lst pa_nil))
      (pss_cons (ps_mid (ps_if (PW.pt (pw_and (pt_cmp (pc_notN (pv 9))) (pw_and1 (pt_cmpR op_eq (pe_call GV hr1 (by rfl) D.gV D.FV.kp D.bV .nil pass0 (pa_cons (pv 2) (pa_cons (pv 9) pa_nil))) pe_int (nomark _))))) (pss_one (ps_set (i := 12) nd rfl (Or.inr rfl) (pe_lst (pa_cons (pv 9) pa_nil)))) (pss_one (ps_mid (ps_if (PW.pt (pw_and (pt_cmp (pc_notN (pv 9))) (pw_and1 (pt_cmpR op_notIn_seq (pv 9) (pv 4) (by rfl))))) (pss_one (ps_expr (pe_bm PySem.F.plainAttrs_list PySem.F.slot_list_append PySem.F.type_list_append mt_append (pv 4) (pa_cons (pv 9) pa_nil)))) pss_nil)))))
      (pss_cons (ps_setLc (i := 4) (own := [("_law_number", 14)]) (g := gName 14) (tt := tTest (tOp (rIn K true) (tVar 14) (tVar 12))) (te := tVar 14) (by rfl) nd rfl rfl (sw_true rfl rfl rfl (by decide +kernel)) (pi_list (pv 4)) (blkOk_by (N := nLaw) (sc := defScope sLaw) (by decide +kernel)) (fun _ _ _ _ _ => pg_name (i := 14) nd rfl (Or.inl rfl)) (fun _ _ _ _ _ => pts_one (pt_cmpR op_notIn_seq (pv 14) (pv 12) (by rfl))) (fun _ _ _ _ _ => pv 14))
      (pss_cons (ps_expr (pe_bm PySem.F.plainAttrs_list PySem.F.slot_list_append PySem.F.type_list_append mt_append (pv 5) (pa_cons (pe_tup (pa_cons (pv 11) (pa_cons (pv 12) pa_nil))) pa_nil)))
      (pss_cons (ps_if (pt_not (pt_val (pe_call GN hr2 (by rfl) D.gN D.FN.kp D.bN .nil pass0 (pa_cons (pv 11) (pa_cons (pv 12) pa_nil))))) (pss_one (ps_ret pe_bl)) pss_nil)
      (pss_cons (ps_if (pt_not (pt_val (pe_call GN hr2 (by rfl) D.gN D.FN.kp D.bN .nil pass0 (pa_cons (pe_lc (own := [("_law_k", 15)]) (g := gName 15) (tt := tYes) (te := tMeth C "holds" (spHolds C B eH) [] E0 (tVar 1) (tCons (tVar 15) tNil)) (by rfl) nd (pi_range1 (by rfl) TL.range (pa_cons pe_int pa_nil)) (blkOk_by (N := nLaw) (sc := defScope sLaw) (by decide +kernel)) (fun _ _ _ _ _ => pg_name (i := 15) nd rfl (Or.inl rfl)) (fun _ _ _ _ _ => pts_nil) (fun _ _ _ _ _ => pe_meth (pv 1) T.clC D.mH GH hr2 D.bH .nil passL (pa_cons (pv 15) pa_nil))) (pa_cons (pv 2) pa_nil))))) (pss_one (ps_ret pe_bl)) pss_nil)
      (pss_cons (ps_set (i := 13) nd rfl (Or.inl rfl) (pe_callB (cr_sortedSet rfl) (by rfl) TL.sorted (by decide +kernel) (pa_cons (pe_callTy (cr_setL rfl) (by rfl) TL.set (by decide +kernel) (pa_cons (pe_lc (own := [("_law_held", 16)]) (g := gName 16) (tt := tB (tNotN (tVar 16))) (te := tVar 16) (by rfl) nd (pi_list (pv 2)) (blkOk_by (N := nLaw) (sc := defScope sLaw) (by decide +kernel)) (fun _ _ _ _ _ => pg_name (i := 16) nd rfl (Or.inl rfl)) (fun _ _ _ _ _ => pts_one (pt_cmp (pc_notN (pv 16)))) (fun _ _ _ _ _ => pv 16)) pa_nil)) pa_nil)))
      (pss_cons (ps_if (PW.pt (pw_or (pt_not (pt_val (pe_call GN hr2 (by rfl) D.gN D.FN.kp D.bN .nil pass0 (pa_cons (pe_meth0 (pv 1) T.clC D.mA GA hr1 D.bA .nil pass0) (pa_cons (pv 13) pa_nil))))) (pw_or1 (pt_not (pt_val (pe_call GN hr2 (by rfl) D.gN D.FN.kp D.bN .nil pass0 (pa_cons (pe_meth0 (pv 1) T.clC D.mS GS hr1 D.bS .nil pass0) (pa_cons (pe_callB cr_sorted (by rfl) TL.sorted (by decide +kernel) (pa_cons (pv 4) pa_nil)) pa_nil)))))))) (pss_one (ps_ret pe_bl)) pss_nil)
      (pss_cons (ps_set (i := 12) nd rfl (Or.inr rfl) (pe_lc (own := [("_law_number", 14)]) (g := gName 14) (tt := tYes) (te := tCall spHeldBy [] E0 (tCons (tVar 2) (tCons (tVar 14) tNil))) (by rfl) nd (pi_list (pv 13)) (blkOk_by (N := nLaw) (sc := defScope sLaw) (by decide +kernel)) (fun _ _ _ _ _ => pg_name (i := 14) nd rfl (Or.inl rfl)) (fun _ _ _ _ _ => pts_nil) (fun _ _ _ _ _ => pe_call GV hr1 (by rfl) D.gV D.FV.kp D.bV .nil pass0 (pa_cons (pv 2) (pa_cons (pv 14) pa_nil)))))
      (pss_one (ps_if (pt_not (pt_val (pe_call GN hr2 (by rfl) D.gN D.FN.kp D.bN .nil pass0 (pa_cons (pe_lc (own := [("_law_number", 14)]) (g := gName 14) (tt := tYes) (te := tMeth C "weighs" (spWeighs C B eB) [] E0 (tVar 1) (tCons (tVar 14) tNil)) (by rfl) nd (pi_list (pv 13)) (blkOk_by (N := nLaw) (sc := defScope sLaw) (by decide +kernel)) (fun _ _ _ _ _ => pg_name (i := 14) nd rfl (Or.inl rfl)) (fun _ _ _ _ _ => pts_nil) (fun _ _ _ _ _ => pe_meth (pv 1) T.clC D.mG GG hr2 D.bG .nil passL (pa_cons (pv 14) pa_nil))) (pa_cons (pv 12) pa_nil))))) (pss_one (ps_ret pe_bl)) pss_nil))))))))))))))))))
      (pss_one (ps_ret (pe_cmpR (op_eqD hr.units) (pe_lc (own := [("_law_freed", 11), ("_law_due", 12)]) (g := gTup K 2 (gCons (gName 11) (gCons (gName 12) gNil))) (tt := tNot (tB (tCall spNums [] E0 (tCons (tVar 11) (tCons (tVar 12) tNil))))) (te := tC (.int 1)) (by rfl) nd (pi_list (pv 5)) (blkOk_by (N := nLaw) (sc := defScope sLaw) (by decide +kernel)) (fun _ _ _ _ _ => pg_tup rfl (pgs_cons (pg_name (i := 11) nd rfl (Or.inl rfl)) (pgs_cons (pg_name (i := 12) nd rfl (Or.inl rfl)) pgs_nil))) (fun _ _ _ _ _ => pts_one (pt_not (pt_val (pe_call GN hr2 (by rfl) D.gN D.FN.kp D.bN .nil pass0 (pa_cons (pv 11) (pa_cons (pv 12) pa_nil)))))) (fun _ _ _ _ _ => pe_int)) (pe_lst pa_nil) (nomark _)))))))))), ?_⟩
    -- the pile
    intro x dx nx ndx nex
    refine ⟨H, x, dx, rfl, fun b o e => by rw [upd_ne (ne_of_none e nx), upd_ne (ne_of_none e ndx)]; exact e, nx, upd_same, fun g1 H1 A1 => ⟨rfl, ?_⟩⟩
    -- the hands as the law has them
    refine ⟨8, rfl, by decide, by decide, fun hl hhl => lc_range (lo := 0) (n := (8 : Int).toNat) (fun i H' => PileAt C B x g1 pl0 (upd H hl (.lst (lV (List.replicate i none)))) H') (A1.new hhl) (fun i H' hi A => ?_) (fun H2 A2 => ?_)⟩
    · refine ⟨rfl, _, A.same _ _ upd_same, (by rw [lV_len, List.length_replicate, sizeLine_eq]; omega), ?_⟩
      have := A.set (a := hl) (o := .lst (lV (List.replicate i none) ++ [.non])) upd_same
      rw [upd_upd] at this
      rw [List.replicate_succ']
      unfold lV
      rw [List.map_append]
      exact this
    have rhl : H hl = none := A1.same.free hhl
    replace A2 : PileAt C B x g1 pl0 (upd H hl (.lst (lV (List.replicate 8 none)))) H2 := A2
    -- made, doubts, kept
    refine ⟨(by show 0 ≤ sizeLine; decide), fun dl hdl => ⟨(by show 0 ≤ sizeLine; decide), fun kl hkl => ?_⟩⟩
    have A3 := A2.new (o := .lst ([] : List V)) hdl
    have A4 := A3.new (o := .lst ([] : List V)) hkl
    have rdl := A2.same.free hdl
    have rkl := A3.same.free hkl
    have nhd : hl ≠ dl := ne_of_none upd_same rdl
    have nhk : hl ≠ kl := ne_of_none (by rw [upd_ne nhd]; exact upd_same) rkl
    have ndk : dl ≠ kl := ne_of_none upd_same rkl
    have sH4 : Same H (upd (upd (upd H hl (.lst (lV (List.replicate 8 none)))) dl (.lst [])) kl (.lst [])) := ((same_upd rhl).trans (same_upd rdl)).trans (same_upd rkl)
    have hSa := (sH4.trans A4.same).seq hS
    -- for cell in script[:30]
    refine ⟨_, rfl, 30, rfl, a, _, rfl, hSa, fun sp hsp => ?_⟩
    have A5 := A4.new (o := .lst (cutV (ns.map V.int) none (some 30))) hsp
    have rsp := A4.same.free hsp
    obtain ⟨xs, hxs⟩ : ∃ xs, xs = cutV (ns.map V.int) none (some 30) := ⟨_, rfl⟩
    have hxl : xs.length ≤ 63 := by
      rw [hxs]
      have := cutV_length (ns.map V.int) none (some 30)
      rw [List.length_map] at this
      omega
    have hxi : ∀ y ∈ xs, ∃ z, y = V.int z := fun y hy => by
      rw [hxs] at hy
      unfold cutV at hy
      obtain ⟨z, _, e⟩ := List.mem_map.mp (List.mem_of_mem_drop (List.mem_of_mem_take hy))
      exact ⟨z, e.symm⟩
    rw [← hxs] at A5
    refine ⟨sp, rfl, ⟨_, SqL.of upd_same⟩, ?_⟩
    rw [← hxs]
    have nsh : sp ≠ hl := (ne_of_none (by rw [upd_ne nhk, upd_ne nhd]; exact upd_same) rsp).symm
    have nsd : sp ≠ dl := (ne_of_none (by rw [upd_ne ndk]; exact upd_same) rsp).symm
    have nsk : sp ≠ kl := (ne_of_none upd_same rsp).symm
    obtain ⟨R5, eR5⟩ : ∃ R5, R5 = upd (upd (upd (upd H hl (.lst (lV (List.replicate 8 none)))) dl (.lst [])) kl (.lst [])) sp (.lst xs) := ⟨_, rfl⟩
    rw [← eR5] at A5
    have r5h : R5 hl = some (.lst (lV (List.replicate 8 none))) := by rw [eR5, upd_ne nsh.symm, upd_ne nhk, upd_ne nhd, upd_same]
    have r5d : R5 dl = some (.lst []) := by rw [eR5, upd_ne nsd.symm, upd_ne ndk, upd_same]
    have r5k : R5 kl = some (.lst []) := by rw [eR5, upd_ne nsk.symm, upd_same]
    obtain ⟨S0, eS0⟩ : ∃ S0, S0 = (fun b => if b = sp then some (.lst xs) else none : Hp) := ⟨_, rfl⟩
    have s0p : S0 sp = some (.lst xs) := by rw [eS0]; show (if sp = sp then _ else _) = _; rw [if_pos rfl]
    have s0n : ∀ {b}, b ≠ sp → S0 b = none := fun q => by rw [eS0]; show (if _ then _ else _) = _; rw [if_neg q]
    have s05 : Same S0 R5 := fun b o e => by
      by_cases q : b = sp
      · rw [q, s0p] at e
        rw [q, eR5, upd_same]
        exact e
      · rw [s0n q] at e; cases e
    clear eR5 eS0 sH4 A4 A3 A2 rsp
    -- what is kept of the turns
    refine for_list (K := K) (a := sp) (xs := xs) (fun i σ H' => ∃ (g : Geo) (P0 : Pl) (R S : Hp) (dl : Addr) (D0 : List Int) (ts : List Addr) (v6 v7 v8 v9 v10 v11 v12 v13 : Option V),
      σ = [some (.ref a), some (.ref x), some (.ref hl), some (.int P0.made), some (.ref dl), some (.ref kl), v6, v7, v8, v9, v10, v11, v12, v13, none, none, none] ∧
      PileAt C B x g P0 R H' ∧ Wf P0 [] ∧ Bare P0 ∧ Doubt D0 P0 ∧ R hl = some (.lst (lV P0.hands)) ∧ R dl = some (.lst (D0.map V.int)) ∧ R kl = some (.lst (ts.map V.ref)) ∧ ts.length ≤ i ∧
      Same S R ∧ S sp = some (.lst xs) ∧ S hl = none ∧ S dl = none ∧ S kl = none ∧ hl ≠ dl ∧ hl ≠ kl ∧ dl ≠ kl ∧ (∀ t ∈ ts, KeptAt S t))
      ⟨g1, pl0, R5, S0, dl, [], [], none, none, none, none, none, none, none, none, rfl, A5, wf0, one0.1, doubt0, r5h, r5d, r5k, Nat.zero_le _, s05, s0p, s0n nsh.symm, s0n nsd.symm, s0n nsk.symm, nhd, nhk, ndk, fun t ht => by cases ht⟩
      (fun i σ H' _ ⟨g, P0, R, S, dl, D0, ts, v6, v7, v8, v9, v10, v11, v12, v13, _, A, W, Ba, Do, rh, rd, rk, tl, sS, ss, _⟩ => SqL.of (A.same _ _ (sS _ _ ss))) ?_ ?_
    · rintro i y σ H' hi ⟨g, P0, R, S, dl, D0, ts, v6, v7, v8, v9, v10, v11, v12, v13, rfl, A, W, Ba, Do, rh, rd, rk, tl, sS, ss, sh, sd, sk, nhd, nhk, ndk, hts⟩
      obtain ⟨z, rfl⟩ := hxi y (List.mem_of_getElem? hi)
      have hi63 : i < 63 := by have := (List.getElem?_eq_some_iff.mp hi).1; omega
      refine ⟨_, rfl, _, _, rfl, rfl, ⟨by decide, by decide⟩, _, _, rfl, rfl, (by show (0 : Int) < 8; decide), ?_⟩
      refine ⟨_, rfl, _, _, rfl, rfl, ⟨by decide, by decide⟩, _, _, rfl, rfl, (by show (0 : Int) < 8; decide), ?_⟩
      have h0 : 0 ≤ z / 4 % 8 := Int.emod_nonneg _ (by decide)
      have h8 : z / 4 % 8 < 8 := Int.emod_lt_of_pos _ (by decide)
      have o0 : 0 ≤ z / 32 % 8 := Int.emod_nonneg _ (by decide)
      have o8 : z / 32 % 8 < 8 := Int.emod_lt_of_pos _ (by decide)
      have ej : (z / 4 % 8) = (((z / 4 % 8).toNat : Nat) : Int) := by omega
      have j8 : (z / 4 % 8).toNat < 8 := by omega
      have jl : (z / 4 % 8).toNat < P0.hands.length := by rw [W.hl]; exact j8
      have ol : (z / 32 % 8).toNat < P0.hands.length := by rw [W.hl]; omega
      have hx := lV_get jl
      refine ⟨_, rfl, _, rfl, hl, _, _, _, rfl, rfl, SqL.of (A.same _ _ rh), at_of ej hx, ?_⟩
      -- the deed
      refine ⟨fun σ' H' => ∃ (g6 : Geo) (P1 : Pl) (x1 : Option Int) (r : Addr), σ' = [some (.ref a), some (.ref x), some (.ref hl), some (.int P1.made), some (.ref dl), some (.ref kl), some (.int z), some (.int (z / 4 % 8)), some (.int (z / 32 % 8)), some (oV (P0.hands.getD (z / 4 % 8).toNat none)), some (oV x1), some (.ref r), v12, v13, none, none, none] ∧
        Bare P1 ∧ Pre P1 x1 ∧ Doubt D0 P1 ∧ P1.hands = P0.hands ∧ R r = none ∧ Wf (ptHand P1 (z / 4 % 8).toNat x1).1 [] ∧ PileAt C B x g6 (ptHand P1 (z / 4 % 8).toNat x1).1 (upd R r (.lst ((ptHand P1 (z / 4 % 8).toNat x1).2.map V.int))) H', ?_, ?_⟩
      · refine ⟨_, rfl, _, _, rfl, rfl, (by show (0 : Int) < 4; decide), _, _, rfl, rfl, _, rfl, ?_⟩
        refine ite2 (fun _ => ?_) (fun _ => ?_)
        · -- a box is made
          have s0 : 0 ≤ z / 32 % 7 := Int.emod_nonneg _ (by decide)
          have s7 : z / 32 % 7 < 7 := Int.emod_lt_of_pos _ (by decide)
          have few := Ba.few W
          refine ⟨_, rfl, _, rfl, _, _, rfl, rfl, ?_⟩
          refine ⟨_, rfl, x, g.dx, _, rfl, A.hp, pf_no _ _ _ (by decide +kernel) (by decide +kernel) (by decide +kernel), _, rfl, _, rfl, _, _, rfl, rfl, ⟨by decide, by decide⟩, _, _, rfl, rfl, (by show (0 : Int) < 7; decide), x, P0, R, _, _, rfl, ⟨⟨g, A⟩, W⟩, fun c => absurd ⟨h0, h8⟩ c, fun _ c => absurd ⟨s0, by omega⟩ c, fun _ _ c => absurd c (by omega),
            fun _ _ _ r H6 hr6 ⟨⟨g6, A6⟩, W6⟩ => ?_⟩
          exact ⟨g6, born P0 (z / 32 % 7).toNat, some P0.made, r, rfl, Ba.born W _, W.born (by omega) (by omega), Do.born W _, rfl, hr6, W6, A6⟩
        · refine ⟨_, ?_, fun σ' H' h => h⟩
          refine ⟨_, rfl, _, _, rfl, rfl, (by show (0 : Int) < 4; decide), rfl, _, rfl, ?_⟩
          refine ite2 (fun _ => ?_) (fun _ => ?_)
          · -- a hand holds what another one holds
            refine ⟨_, rfl, _, rfl, hl, _, _, _, rfl, rfl, SqL.of (A.same _ _ rh), at_of (j := (z / 32 % 8).toNat) (by omega) (lV_get ol), ?_⟩
            refine ⟨_, rfl, x, g.dx, _, rfl, A.hp, pf_no _ _ _ (by decide +kernel) (by decide +kernel) (by decide +kernel), _, rfl, _, rfl, x, P0, R, _, _, rfl, ⟨⟨g, A⟩, W⟩, fun c => absurd ⟨h0, h8⟩ c, fun _ c => absurd ⟨o0, o8⟩ c, fun _ _ r H6 hr6 ⟨⟨g6, A6⟩, W6⟩ => ?_⟩
            exact ⟨g6, P0, P0.hands.getD (z / 32 % 8).toNat none, r, rfl, Ba, W.pre fun n e => W.hand e, Do, rfl, hr6, W6, A6⟩
          · -- a hand lets go
            refine ⟨_, rfl, x, g.dx, _, rfl, A.hp, pf_no _ _ _ (by decide +kernel) (by decide +kernel) (by decide +kernel), _, rfl, x, P0, R, _, rfl, ⟨⟨g, A⟩, W⟩, fun c => absurd ⟨h0, h8⟩ c, fun _ r H6 hr6 ⟨⟨g6, A6⟩, W6⟩ => ?_⟩
            exact ⟨g6, P0, none, r, rfl, Ba, W.pre fun n e => (by cases e), Do, rfl, hr6, W6, A6⟩
      rintro σ' H6 ⟨g6, P1, x1, r, rfl, Ba1, Pr1, Do1, eh1, hr6, W6, A6⟩
      have St := heldStep Ba1 Pr1 j8
      have Do6 := Do1.step St
      rw [St.freed, eh1] at A6
      rw [eh1] at Do6
      have eh6 : (ptHand P1 (z / 4 % 8).toNat x1).1.hands = P0.hands.set (z / 4 % 8).toNat x1 := by rw [St.hands, eh1]
      have em6 : (ptHand P1 (z / 4 % 8).toNat x1).1.made = P1.made := St.made
      have Ba6 := St.bare
      rw [← em6]
      generalize (ptHand P1 (z / 4 % 8).toNat x1).1 = P6 at W6 A6 Do6 eh6 em6 Ba6 ⊢
      clear St em6 Pr1 Do1 Ba1 eh1 P1
      have ehs : (lV P0.hands).set (z / 4 % 8).toNat (oV x1) = lV P6.hands := by rw [lV_set, eh6]
      have nhr : hl ≠ r := ne_of_none rh hr6
      have ndr : dl ≠ r := ne_of_none rd hr6
      have nkr : kl ≠ r := ne_of_none rk hr6
      rw [← eh6] at A6 Do6
      -- hands[hand] = new
      refine ⟨_, rfl, _, rfl, _, rfl, hl, _, _, _, rfl, rfl, A6.same _ _ (by rw [upd_ne nhr]; exact rh), ixN_int h0 (by rw [lV_len, W.hl]; exact h8), ?_⟩
      rw [ehs]
      have A7 := A6.set (a := hl) (o := .lst (lV P6.hands)) (by rw [upd_ne nhr]; exact rh)
      generalize upd H6 hl (.lst (lV P6.hands)) = H7 at A7 ⊢
      obtain ⟨old, eold⟩ : ∃ old, old = P0.hands.getD (z / 4 % 8).toNat none := ⟨_, rfl⟩
      rw [← eold] at A7 Do6 ⊢
      obtain ⟨R7, eR7⟩ : ∃ R7, R7 = upd (upd R r (.lst ((gone P6.hands old).map V.int))) hl (.lst (lV P6.hands)) := ⟨_, rfl⟩
      rw [← eR7] at A7
      have r7h : R7 hl = some (.lst (lV P6.hands)) := by rw [eR7, upd_same]
      have r7d : R7 dl = some (.lst (D0.map V.int)) := by rw [eR7, upd_ne nhd.symm, upd_ne ndr]; exact rd
      have r7k : R7 kl = some (.lst (ts.map V.ref)) := by rw [eR7, upd_ne nhk.symm, upd_ne nkr]; exact rk
      have r7r : R7 r = some (.lst ((gone P6.hands old).map V.int)) := by rw [eR7, upd_ne nhr.symm, upd_same]
      have s7 : Same S R7 := fun b o e => by
        rw [eR7, upd_ne (ne_of_none e sh), upd_ne (ne_of_none (sS _ _ e) hr6)]
        exact sS b o e
      have sr : S r = none := sS.free hr6
      clear eR7 A6 ehs
      -- due
      refine ⟨(by show 0 ≤ sizeLine; decide), fun du0 hdu0 => ?_⟩
      have D60 : D0.length ≤ 60 := by
        have e1 := (Do.perm W).length_eq
        have e2 : (susp P0).length ≤ (keys P0.boxes).length := List.length_filter_le _ _
        have e3 : (keys P0.boxes).length = P0.boxes.length := List.length_map _
        have := W.few
        omega
      have B0 := A7.new (o := .lst ([] : List V)) hdu0
      have rdu0 := A7.same.free hdu0
      have h8l : P6.hands.length ≤ 1000 := by rw [W6.hl]; omega
      refine ⟨fun σ' H' => ∃ (du : Addr) (R9 : Hp), σ' = [some (.ref a), some (.ref x), some (.ref hl), some (.int P6.made), some (.ref dl), some (.ref kl), some (.int z), some (.int (z / 4 % 8)), some (.int (z / 32 % 8)), some (oV old), some (oV x1), some (.ref r), some (.ref du), v13, none, none, none] ∧
        PileAt C B x g6 P6 R9 H' ∧ R9 hl = some (.lst (lV P6.hands)) ∧ R9 dl = some (.lst ((doubted D0 P6.hands old).map V.int)) ∧ R9 kl = some (.lst (ts.map V.ref)) ∧ R9 r = some (.lst ((gone P6.hands old).map V.int)) ∧ R9 du = some (.lst ((gone P6.hands old).map V.int)) ∧
        Same S R9 ∧ S du = none ∧ du ≠ hl ∧ du ≠ kl ∧ du ≠ r, ?_, ?_⟩
      · have plain : ∀ {H' : Hp}, PileAt C B x g6 P6 (upd R7 du0 (.lst [])) H' → doubted D0 P6.hands old = D0 → gone P6.hands old = [] →
            (∃ (du : Addr) (R9 : Hp), ([some (.ref a), some (.ref x), some (.ref hl), some (.int P6.made), some (.ref dl), some (.ref kl), some (.int z), some (.int (z / 4 % 8)), some (.int (z / 32 % 8)), some (oV old), some (oV x1), some (.ref r), some (.ref du0), v13, none, none, none] : St) = [some (.ref a), some (.ref x), some (.ref hl), some (.int P6.made), some (.ref dl), some (.ref kl), some (.int z), some (.int (z / 4 % 8)), some (.int (z / 32 % 8)), some (oV old), some (oV x1), some (.ref r), some (.ref du), v13, none, none, none] ∧
              PileAt C B x g6 P6 R9 H' ∧ R9 hl = some (.lst (lV P6.hands)) ∧ R9 dl = some (.lst ((doubted D0 P6.hands old).map V.int)) ∧ R9 kl = some (.lst (ts.map V.ref)) ∧ R9 r = some (.lst ((gone P6.hands old).map V.int)) ∧ R9 du = some (.lst ((gone P6.hands old).map V.int)) ∧
              Same S R9 ∧ S du = none ∧ du ≠ hl ∧ du ≠ kl ∧ du ≠ r) := fun {H'} A e1 e2 => by
          refine ⟨du0, _, rfl, A, by rw [upd_ne (ne_of_none r7h rdu0)]; exact r7h, by rw [upd_ne (ne_of_none r7d rdu0), e1]; exact r7d, by rw [upd_ne (ne_of_none r7k rdu0)]; exact r7k, by rw [upd_ne (ne_of_none r7r rdu0)]; exact r7r, by rw [upd_same, e2]; rfl,
            s7.trans (same_upd rdu0), s7.free rdu0, (ne_of_none r7h rdu0).symm, (ne_of_none r7k rdu0).symm, (ne_of_none r7r rdu0).symm⟩
        refine ⟨_, rfl, _, rfl, ?_⟩
        cases old with
        | none =>
          refine iteF ?_
          refine iteF ?_
          refine ⟨_, ?_, fun σ' H' h => h⟩
          refine ⟨_, rfl, _, rfl, ?_⟩
          refine iteF ?_
          refine iteF ?_
          exact plain B0 rfl rfl
        | some n =>
          refine iteT ?_
          refine ⟨_, rfl, _, rfl, hl, P6.hands, n, rfl, B0.same _ _ (by rw [upd_ne (ne_of_none r7h rdu0)]; exact r7h), h8l, fun L ys hL => ⟨rfl, _, rfl, ?_⟩⟩
          have B1 := (B0.new (o := .lst ys) hL).less (same_upd (B0.same.free hL))
          generalize upd (upd H7 du0 (.lst [])) L (.lst ys) = H8 at B1 ⊢
          by_cases c : cnt P6.hands n = 0
          · refine if_pos_of (decide_eq_true (by rw [c]; rfl)) ?_
            refine ⟨_, rfl, (by show 1 ≤ sizeLine; decide), fun du hdu => ?_⟩
            have B2 := (B1.less (same_upd rdu0)).new (o := .lst [V.int n]) hdu
            have rdu := (B1.less (same_upd rdu0)).same.free hdu
            have eg : gone P6.hands (some n) = [n] := if_pos c
            have ed : doubted D0 P6.hands (some n) = D0 := if_pos c
            refine ⟨du, _, rfl, B2, by rw [upd_ne (ne_of_none r7h rdu)]; exact r7h, by rw [upd_ne (ne_of_none r7d rdu), ed]; exact r7d, by rw [upd_ne (ne_of_none r7k rdu)]; exact r7k, by rw [upd_ne (ne_of_none r7r rdu)]; exact r7r, by rw [upd_same, eg]; rfl,
              s7.trans (same_upd rdu), s7.free rdu, (ne_of_none r7h rdu).symm, (ne_of_none r7k rdu).symm, (ne_of_none r7r rdu).symm⟩
          · refine if_neg_of (decide_eq_false (by intro q; injection q with q; omega)) ?_
            have eg : gone P6.hands (some n) = [] := if_neg c
            refine ⟨_, ?_, fun σ' H' h => h⟩
            refine ⟨_, rfl, _, rfl, ?_⟩
            refine iteT ?_
            have hd1 : upd R7 du0 (.lst []) dl = some (.lst (D0.map V.int)) := by rw [upd_ne (ne_of_none r7d rdu0)]; exact r7d
            refine ⟨_, rfl, _, rfl, dl, _, rfl, .inl (SqL.of (B1.same _ _ hd1)), rfl, flat_ints _, _, rfl, ?_⟩
            by_cases q : n ∈ D0
            · refine if_neg_of (c := !inV (V.int n) (D0.map V.int)) (by rw [inV_ints]; simp [q]) ?_
              have ed : doubted D0 P6.hands (some n) = D0 := by show (if _ then _ else if _ then _ else _) = _; rw [if_neg c, if_pos q]
              exact plain B1 ed eg
            · refine if_pos_of (c := !inV (V.int n) (D0.map V.int)) (by rw [inV_ints]; simp [q]) ?_
              have ed : doubted D0 P6.hands (some n) = D0 ++ [n] := by show (if _ then _ else if _ then _ else _) = _; rw [if_neg c, if_neg q]
              refine ⟨_, rfl, .inl ⟨rfl, _, SqL.of (B1.same _ _ hd1)⟩, _, rfl, dl, _, _, rfl, rfl, B1.same _ _ hd1, (by rw [List.length_map, sizeLine_eq]; omega), ?_⟩
              have B2 := B1.set (a := dl) (o := .lst (D0.map V.int ++ [V.int n])) hd1
              have ndu : du0 ≠ dl := (ne_of_none r7d rdu0).symm
              have nrd : r ≠ dl := ndr.symm
              refine ⟨du0, _, rfl, B2, by rw [upd_ne nhd, upd_ne (ne_of_none r7h rdu0)]; exact r7h, by rw [upd_same, ed, List.map_append]; rfl, by rw [upd_ne ndk.symm, upd_ne (ne_of_none r7k rdu0)]; exact r7k, by rw [upd_ne nrd, upd_ne (ne_of_none r7r rdu0)]; exact r7r, by rw [upd_ne ndu, upd_same, eg]; rfl,
                fun b o e => by rw [upd_ne (ne_of_none e sd), upd_ne (ne_of_none (s7 _ _ e) rdu0)]; exact s7 b o e, s7.free rdu0, (ne_of_none r7h rdu0).symm, (ne_of_none r7k rdu0).symm, (ne_of_none r7r rdu0).symm⟩
      clear B0 rdu0 hdu0 du0 A7 s7 r7r r7k r7d r7h H7 R7 A hdl
      rintro σ' H9 ⟨du, R9, rfl, A9, r9h, r9d, r9k, r9r, r9u, s9, su, nuh, nuk, nur⟩
      obtain ⟨Dn, eDn⟩ : ∃ Dn, Dn = doubted D0 P6.hands old := ⟨_, rfl⟩
      obtain ⟨Gn, eGn⟩ : ∃ Gn, Gn = gone P6.hands old := ⟨_, rfl⟩
      have Gn1 : Gn.length ≤ 1 := by
        rw [eGn]
        cases old with
        | none => exact Nat.zero_le _
        | some n =>
          show (if cnt P6.hands n = 0 then [n] else []).length ≤ 1
          split
          · exact Nat.le_refl _
          · exact Nat.zero_le _
      have Dn61 : Dn.length ≤ 61 := by
        rw [eDn]
        cases old with
        | none => show D0.length ≤ 61; omega
        | some n =>
          show (if cnt P6.hands n = 0 then D0 else if n ∈ D0 then D0 else D0 ++ [n]).length ≤ 61
          split
          · omega
          · split
            · omega
            · rw [List.length_append, List.length_singleton]; omega
      rw [← eDn] at Do6 r9d
      rw [← eGn] at Do6 r9r r9u
      clear eDn eGn
      -- doubts, without what is freed
      refine ⟨_, rfl, dl, rfl, ⟨_, SqL.of (A9.same _ _ r9d)⟩, fun dn hdn => ?_⟩
      have rdn := A9.same.free hdn
      refine lc_list (K := K) (a := dl) (xs := Dn.map V.int) (fun i H' => PileAt C B x g6 P6 (upd R9 dn (.lst (((Dn.take i).filter fun n => decide (n ∉ Gn)).map V.int))) H') (A9.new hdn) (fun i H' _ A => SqL.of (A.same _ _ (by rw [upd_ne (ne_of_none r9d rdn)]; exact r9d))) (fun i y H' hi A => ?_) (fun H10 A10 => ?_)
      · obtain ⟨n, hn, rfl⟩ := ints_at hi
        refine ⟨rfl, _, rfl, _, rfl, du, _, rfl, .inl (SqL.of (A.same _ _ (by rw [upd_ne (ne_of_none r9u rdn)]; exact r9u))), rfl, flat_ints _, _, rfl, ?_⟩
        rw [take_get hn, List.filter_append, List.map_append]
        by_cases q : n ∈ Gn
        · refine if_neg_of (c := !inV (V.int n) (Gn.map V.int)) (by rw [inV_ints]; simp [q]) ?_
          have e1 : [n].filter (fun n => decide (n ∉ Gn)) = [] := by simp [q]
          rw [e1, List.map_nil, List.append_nil]
          exact A
        · refine if_pos_of (c := !inV (V.int n) (Gn.map V.int)) (by rw [inV_ints]; simp [q]) ?_
          have e1 : [n].filter (fun n => decide (n ∉ Gn)) = [n] := by simp [q]
          refine ⟨_, rfl, _, A.same _ _ upd_same, ?_, ?_⟩
          · rw [List.length_map, sizeLine_eq]
            have h1 := List.length_filter_le (fun n => decide (n ∉ Gn)) (Dn.take i)
            have h2 : (Dn.take i).length ≤ Dn.length := by rw [List.length_take]; exact Nat.min_le_right _ _
            omega
          · have := A.set (a := dn) (o := .lst (((Dn.take i).filter fun n => decide (n ∉ Gn)).map V.int ++ [V.int n])) upd_same
            rw [upd_upd] at this
            rw [e1]
            exact this
      rw [List.length_map, List.take_length] at A10
      obtain ⟨D6, eD6⟩ : ∃ D6, D6 = Dn.filter fun n => decide (n ∉ Gn) := ⟨_, rfl⟩
      rw [← eD6] at A10 Do6
      have D660 : D6.length ≤ 61 := by
        rw [eD6]
        have := List.length_filter_le (fun n => decide (n ∉ Gn)) Dn
        omega
      clear eD6
      -- kept
      have r10k : upd R9 dn (.lst (D6.map V.int)) kl = some (.lst (ts.map V.ref)) := by rw [upd_ne (ne_of_none r9k rdn)]; exact r9k
      refine ⟨_, rfl, .inl ⟨rfl, _, SqL.of (A10.same _ _ r10k)⟩, _, rfl, _, rfl, (by show 2 ≤ sizeLine; decide), fun t ht => ?_⟩
      have A11 := A10.new (o := .tup [.ref r, .ref du]) ht
      have rt := A10.same.free ht
      have r11k : upd (upd R9 dn (.lst (D6.map V.int))) t (.tup [.ref r, .ref du]) kl = some (.lst (ts.map V.ref)) := by rw [upd_ne (ne_of_none r10k rt)]; exact r10k
      refine ⟨kl, _, _, rfl, rfl, A11.same _ _ r11k, (by rw [List.length_map, sizeLine_eq]; omega), ?_⟩
      have A12 := A11.set (a := kl) (o := .lst (ts.map V.ref ++ [V.ref t])) r11k
      generalize upd (upd H10 t (.tup [.ref r, .ref du])) kl (.lst (ts.map V.ref ++ [V.ref t])) = H12 at A12 ⊢
      obtain ⟨R12, eR12⟩ : ∃ R12, R12 = upd (upd (upd R9 dn (.lst (D6.map V.int))) t (.tup [.ref r, .ref du])) kl (.lst (ts.map V.ref ++ [V.ref t])) := ⟨_, rfl⟩
      rw [← eR12] at A12
      have nhk' := nhk
      have e10 : ∀ {b o}, R9 b = some o → b ≠ kl → R12 b = some o := fun {b o} e nb => by
        have e1 : upd R9 dn (.lst (D6.map V.int)) b = some o := by rw [upd_ne (ne_of_none e rdn)]; exact e
        rw [eR12, upd_ne nb, upd_ne (ne_of_none e1 rt)]
        exact e1
      have r12h := e10 r9h nhk
      have r12r := e10 r9r nkr.symm
      have r12u := e10 r9u nuk
      have ndk' : dn ≠ kl := (ne_of_none r9k rdn).symm
      have r12d : R12 dn = some (.lst (D6.map V.int)) := by rw [eR12, upd_ne ndk', upd_ne (ne_of_none upd_same rt), upd_same]
      have r12k : R12 kl = some (.lst ((ts ++ [t]).map V.ref)) := by rw [eR12, upd_same, List.map_append]; rfl
      have ntk : t ≠ kl := (ne_of_none r10k rt).symm
      have r12t : R12 t = some (.tup [.ref r, .ref du]) := by rw [eR12, upd_ne ntk, upd_same]
      have s12 : Same S R12 := fun b o e => e10 (s9 _ _ e) (fun q => by rw [q, sk] at e; cases e)
      clear A10 A11 A9
      -- what stays as it is told
      have st : S t = none := ((s9.trans (same_upd rdn))).free rt
      have sdn : S dn = none := s9.free rdn
      obtain ⟨S1, eS1⟩ : ∃ S1, S1 = upd (upd (upd S r (.lst (Gn.map V.int))) du (.lst (Gn.map V.int))) t (.tup [.ref r, .ref du]) := ⟨_, rfl⟩
      have nrt : r ≠ t := ne_of_none (show upd R9 dn (.lst (D6.map V.int)) r = some _ from by rw [upd_ne (ne_of_none r9r rdn)]; exact r9r) rt
      have nut : du ≠ t := ne_of_none (show upd R9 dn (.lst (D6.map V.int)) du = some _ from by rw [upd_ne (ne_of_none r9u rdn)]; exact r9u) rt
      have nht : hl ≠ t := ne_of_none (show upd R9 dn (.lst (D6.map V.int)) hl = some _ from by rw [upd_ne (ne_of_none r9h rdn)]; exact r9h) rt
      have ndt : dn ≠ t := ne_of_none upd_same rt
      have nrn : r ≠ dn := ne_of_none r9r rdn
      have nun : du ≠ dn := ne_of_none r9u rdn
      have nhn : hl ≠ dn := ne_of_none r9h rdn
      have sS1 : Same S S1 := fun b o e => by
        rw [eS1, upd_ne (ne_of_none e st), upd_ne (ne_of_none e su), upd_ne (ne_of_none e sr)]
        exact e
      have s1r : S1 r = some (.lst (Gn.map V.int)) := by rw [eS1, upd_ne nrt, upd_ne nur.symm, upd_same]
      have s1u : S1 du = some (.lst (Gn.map V.int)) := by rw [eS1, upd_ne nut, upd_same]
      have s1t : S1 t = some (.tup [.ref r, .ref du]) := by rw [eS1, upd_same]
      have S1R : Same S1 R12 := fun b o e => by
        by_cases q1 : b = t
        · rw [q1, s1t] at e; rw [q1, r12t]; exact e
        by_cases q2 : b = du
        · rw [q2, s1u] at e; rw [q2, r12u]; exact e
        by_cases q3 : b = r
        · rw [q3, s1r] at e; rw [q3, r12r]; exact e
        rw [eS1, upd_ne q1, upd_ne q2, upd_ne q3] at e
        exact s12 _ _ e
      have s1h : S1 hl = none := by rw [eS1, upd_ne nht, upd_ne nuh.symm, upd_ne nhr]; exact sh
      have s1d : S1 dn = none := by rw [eS1, upd_ne ndt, upd_ne nun.symm, upd_ne nrn.symm]; exact sdn
      have s1k : S1 kl = none := by rw [eS1, upd_ne ntk.symm, upd_ne nuk.symm, upd_ne nkr]; exact sk
      have hts1 : ∀ u ∈ ts ++ [t], KeptAt S1 u := fun u hu => by
        rcases List.mem_append.mp hu with hu | hu
        · exact (hts u hu).more sS1
        · have : u = t := List.mem_singleton.mp hu
          subst this
          exact ⟨r, du, Gn.map some, s1t, by rw [s1r, lV_int], by rw [s1u, lV_int], by rw [List.length_map]; omega⟩
      clear eS1 eR12 e10
      -- the numbers freed
      refine ⟨_, rfl, _, rfl, r, du, Gn.map some, rfl, A12.same _ _ (by rw [r12r, lV_int]), A12.same _ _ (by rw [r12u, lV_int]), by rw [List.length_map]; omega, _, rfl, ?_⟩
      refine iteF ?_
      -- what each hand holds
      refine ⟨8, rfl, by decide, by decide, fun L8 hL8 => lc_range (lo := 0) (n := (8 : Int).toNat) (fun i H' => PileAt C B x g6 P6 (upd R12 L8 (.lst (lV (P6.hands.take i)))) H') (A12.new hL8) (fun i H' hi A => ?_) (fun H13 A13 => ?_)⟩
      · refine ⟨rfl, _, rfl, x, g6.dx, _, rfl, A.hp, pf_no _ _ _ (by decide +kernel) (by decide +kernel) (by decide +kernel), _, rfl, x, g6, P6, _, _, rfl, A, W6.hl, fun c => absurd ⟨by omega, by show (0 : Int) + (i : Int) < 8; have : i < 8 := hi; omega⟩ c, fun _ => ?_⟩
        refine ⟨_, A.same _ _ upd_same, (by rw [lV_len, List.length_take, sizeLine_eq]; omega), ?_⟩
        have hi8 : i < P6.hands.length := by rw [W6.hl]; exact hi
        have := A.set (a := L8) (o := .lst (lV (P6.hands.take i) ++ [oV (P6.hands.getD ((0 : Int) + (i : Int)).toNat none)])) upd_same
        rw [upd_upd] at this
        rw [take_get (getD_some hi8)]
        unfold lV
        rw [List.map_append]
        have e0i : ((0 : Int) + (i : Int)).toNat = i := by omega
        rw [e0i] at this ⊢
        exact this
      have t8 : P6.hands.take (8 : Int).toNat = P6.hands := List.take_of_length_le (by rw [W6.hl]; exact Nat.le_refl _)
      rw [t8] at A13
      have rL8 := A12.same.free hL8
      refine ⟨_, rfl, L8, hl, P6.hands, rfl, A13.same _ _ upd_same, A13.same _ _ (by rw [upd_ne (ne_of_none r12h rL8)]; exact r12h), h8l, _, rfl, ?_⟩
      refine iteF ?_
      replace A13 := A13.less (same_upd rL8)
      -- which are alive, as the law has it
      refine ⟨_, rfl, hl, rfl, ⟨_, SqL.of (A13.same _ _ r12h)⟩, fun L3 hL3 => ?_⟩
      have rL3 := A13.same.free hL3
      refine lc_list (K := K) (a := hl) (xs := lV P6.hands) (fun i H' => PileAt C B x g6 P6 (upd R12 L3 (.lst ((somes (P6.hands.take i)).map V.int))) H') (A13.new hL3) (fun i H' _ A => SqL.of (A.same _ _ (by rw [upd_ne (ne_of_none r12h rL3)]; exact r12h))) (fun i y H' hi A => ?_) (fun H14 A14 => ?_)
      · obtain ⟨o, ho, rfl⟩ := lV_at hi
        refine ⟨rfl, _, rfl, _, rfl, ?_⟩
        rw [take_get ho, somes_append]
        cases o with
        | none =>
          refine iteF ?_
          rw [show somes [(none : Option Int)] = [] from rfl, List.append_nil]
          exact A
        | some n =>
          refine iteT ?_
          refine ⟨_, rfl, _, A.same _ _ upd_same, ?_, ?_⟩
          · rw [List.length_map, sizeLine_eq]
            have h1 := somes_len (P6.hands.take i)
            have h2 : (P6.hands.take i).length ≤ P6.hands.length := by rw [List.length_take]; exact Nat.min_le_right _ _
            have := W6.hl
            omega
          · have := A.set (a := L3) (o := .lst ((somes (P6.hands.take i)).map V.int ++ [V.int n])) upd_same
            rw [upd_upd] at this
            rw [List.map_append]
            exact this
      rw [lV_len, List.take_length] at A14
      have hs8 := somes_len P6.hands
      have hl8 := W6.hl
      refine ⟨L3, somes P6.hands, rfl, SqL.of (A14.same _ _ upd_same), by omega, fun ps c hc hps => ?_⟩
      have rps := A14.same.free hps
      have A15 := (A14.new (o := SetO w ps (fun j => decide (j ∈ somes P6.hands)) c) hps).less (same_upd rps)
      refine ⟨ps, _, c, rfl, upd_same, by omega, fun ys q hs hm hlen hq => ?_⟩
      have eys : ys = keys P6.boxes := sorted_mem_eq hs W6.ks fun n => by
        rw [hm n, decide_eq_true_iff, mem_somes]
        exact (Ba6.held W6 n).symm
      subst eys
      have kl60 : (keys P6.boxes).length ≤ 60 := by
        have e : (keys P6.boxes).length = P6.boxes.length := List.length_map _
        have := W6.few
        omega
      have A16 := A15.new (o := .lst ((keys P6.boxes).map V.int)) hq
      have rq0 := A15.same.free hq
      have rq : R12 q = none := (same_upd rL3).free rq0
      replace A16 : PileAt C B x g6 P6 (upd R12 q (.lst ((keys P6.boxes).map V.int))) _ := A16.less fun b o e => by
        by_cases qb : b = q
        · rw [qb, upd_same] at e ⊢; exact e
        · rw [upd_ne qb] at e ⊢; exact same_upd rL3 b o e
      generalize hH16 : upd (upd H14 ps _) q (.lst ((keys P6.boxes).map V.int)) = H16
      replace A16 : PileAt C B x g6 P6 (upd R12 q (.lst ((keys P6.boxes).map V.int))) H16 := by
        rw [← hH16]
        exact A16
      obtain ⟨R16, eR16⟩ : ∃ R16, R16 = upd R12 q (.lst ((keys P6.boxes).map V.int)) := ⟨_, rfl⟩
      rw [← eR16] at A16
      have s16 : Same R12 R16 := by rw [eR16]; exact same_upd rq
      have r16q : R16 q = some (.lst ((keys P6.boxes).map V.int)) := by rw [eR16, upd_same]
      have r16h := s16 _ _ r12h
      have r16d := s16 _ _ r12d
      clear eR16 A15 A14 A13 A12
      -- alive and suspects
      refine ⟨_, rfl, x, g6.dx, _, rfl, A16.hp, pf_no _ _ _ (by decide +kernel) (by decide +kernel) (by decide +kernel), x, g6, P6, R16, rfl, A16, W6, fun r3 hr3 => ?_⟩
      have A17 := A16.new (o := .lst ((keys P6.boxes).map V.int)) hr3
      have rr3 := A16.same.free hr3
      refine ⟨_, rfl, r3, q, (keys P6.boxes).map some, rfl, by rw [← lV_int]; exact A17.same _ _ upd_same, by rw [← lV_int]; exact A17.same _ _ (by rw [upd_ne (ne_of_none r16q rr3)]; exact r16q), by rw [List.length_map]; omega, _, rfl, ?_⟩
      refine iteF ?_
      replace A17 := A17.less (same_upd rr3)
      refine ⟨_, rfl, x, g6.dx, _, rfl, A17.hp, pf_no _ _ _ (by decide +kernel) (by decide +kernel) (by decide +kernel), x, g6, P6, R16, rfl, A17, W6, fun r4 H18 hr4 A18 => ?_⟩
      have r18d : upd R16 r4 (.lst ((susp P6).map V.int)) dn = some (.lst (D6.map V.int)) := by rw [upd_ne (ne_of_none r16d hr4)]; exact r16d
      refine ⟨_, rfl, dn, D6, rfl, SqL.of (A18.same _ _ r18d), by omega, fun ys p5 perm rising hp5 => ?_⟩
      rw [sorted_same (perm.trans (Do6.perm W6)) rising (susp_sorted W6)]
      have A19 := A18.new (o := .lst ((susp P6).map V.int)) hp5
      have rp5 := A18.same.free hp5
      have su60 : (susp P6).length ≤ 60 := by
        have : (susp P6).length ≤ (keys P6.boxes).length := List.length_filter_le _ _
        omega
      refine ⟨r4, p5, (susp P6).map some, rfl, by rw [← lV_int]; exact A19.same _ _ (by rw [upd_ne (ne_of_none upd_same rp5), upd_same]), by rw [← lV_int]; exact A19.same _ _ upd_same, by rw [List.length_map]; omega, _, rfl, ?_⟩
      refine iteF ?_
      replace A19 := (A19.less (same_upd rp5)).less (same_upd hr4)
      -- how many hands hold each
      refine ⟨_, rfl, q, rfl, ⟨_, SqL.of (A19.same _ _ r16q)⟩, fun L6 hL6 => ?_⟩
      have rL6 := A19.same.free hL6
      refine lc_list (K := K) (a := q) (xs := (keys P6.boxes).map V.int) (fun i H' => PileAt C B x g6 P6 (upd R16 L6 (.lst (lV (((keys P6.boxes).take i).map fun n => some (cnt P6.hands n : Int))))) H') (A19.new hL6) (fun i H' _ A => SqL.of (A.same _ _ (by rw [upd_ne (ne_of_none r16q rL6)]; exact r16q))) (fun i y H' hi A => ?_) (fun H20 A20 => ?_)
      · obtain ⟨n, hn, rfl⟩ := ints_at hi
        refine ⟨rfl, _, rfl, _, rfl, hl, P6.hands, n, rfl, A.same _ _ (by rw [upd_ne (ne_of_none r16h rL6)]; exact r16h), h8l, fun L7 zs hL7 => ?_⟩
        have A' := (A.new (o := .lst zs) hL7).less (same_upd (A.same.free hL7))
        refine ⟨_, A'.same _ _ upd_same, (by rw [lV_len, List.length_map, List.length_take, sizeLine_eq]; omega), ?_⟩
        have := A'.set (a := L6) (o := .lst (lV (((keys P6.boxes).take i).map fun n => some (cnt P6.hands n : Int)) ++ [V.int (cnt P6.hands n)])) upd_same
        rw [upd_upd] at this
        rw [take_get hn, List.map_append]
        unfold lV
        rw [List.map_append]
        exact this
      rw [List.length_map, List.take_length] at A20
      -- the weights told
      have r20q : upd R16 L6 (.lst (lV ((keys P6.boxes).map fun n => some (cnt P6.hands n : Int)))) q = some (.lst ((keys P6.boxes).map V.int)) := by rw [upd_ne (ne_of_none r16q rL6)]; exact r16q
      refine ⟨_, rfl, q, rfl, ⟨_, SqL.of (A20.same _ _ r20q)⟩, fun L9 hL9 => ?_⟩
      have rL9 := A20.same.free hL9
      refine lc_list (K := K) (a := q) (xs := (keys P6.boxes).map V.int) (fun i H' => PileAt C B x g6 P6 (upd (upd R16 L6 (.lst (lV ((keys P6.boxes).map fun n => some (cnt P6.hands n : Int))))) L9 (.lst (lV (((keys P6.boxes).take i).map fun n => some (cnt P6.hands n : Int))))) H') (A20.new hL9) (fun i H' _ A => SqL.of (A.same _ _ (by rw [upd_ne (ne_of_none r20q rL9)]; exact r20q))) (fun i y H' hi A => ?_) (fun H21 A21 => ?_)
      · obtain ⟨n, hn, rfl⟩ := ints_at hi
        obtain ⟨bn, hbn⟩ := get_keys.mpr (List.mem_of_getElem? hn)
        refine ⟨rfl, _, rfl, x, g6.dx, _, rfl, A.hp, pf_no _ _ _ (by decide +kernel) (by decide +kernel) (by decide +kernel), _, rfl, x, g6, P6, _, n, rfl, A, fun q => absurd (hbn.symm.trans q) (by intro q; cases q), fun b hb => ?_⟩
        have ew := (Ba6.wt W6 hb).1
        rw [ew]
        refine ⟨_, A.same _ _ upd_same, (by rw [lV_len, List.length_map, List.length_take, sizeLine_eq]; omega), ?_⟩
        have := A.set (a := L9) (o := .lst (lV (((keys P6.boxes).take i).map fun n => some (cnt P6.hands n : Int)) ++ [V.int (cnt P6.hands n)])) upd_same
        rw [upd_upd] at this
        rw [take_get hn, List.map_append]
        unfold lV
        rw [List.map_append]
        exact this
      rw [List.length_map, List.take_length] at A21
      refine ⟨_, rfl, L9, L6, (keys P6.boxes).map fun n => some (cnt P6.hands n : Int), rfl, A21.same _ _ upd_same, A21.same _ _ (by rw [upd_ne (ne_of_none upd_same rL9), upd_same]), by rw [List.length_map]; omega, _, rfl, ?_⟩
      refine iteF ?_
      have A22 := ((A21.less (same_upd rL9)).less (same_upd rL6)).less s16
      exact ⟨g6, P6, R12, S1, dn, D6, ts ++ [t], _, _, _, _, _, _, _, _, rfl, A22, W6, Ba6, Do6, r12h, r12d, r12k, by rw [List.length_append, List.length_singleton]; omega, S1R, sS1 _ _ ss, s1h, s1d, s1k, nhn, nhk, ndk', hts1⟩
    · rintro σ H4 ⟨g, P0, R, S, dl, D0, ts, v6, v7, v8, v9, v10, v11, v12, v13, rfl, A, W, Ba, Do, rh, rd, rk, tl, sS, ss, sh, sd, sk, nhd, nhk, ndk, hts⟩
      refine ⟨_, rfl, kl, rfl, ⟨_, SqL.of (A.same _ _ rk)⟩, fun L hL => ?_⟩
      have rL := A.same.free hL
      refine lc_list (K := K) (a := kl) (xs := ts.map V.ref) (fun i H' => PileAt C B x g P0 (upd R L (.lst [])) H') (A.new hL) (fun i H' _ A => SqL.of (A.same _ _ (by rw [upd_ne (ne_of_none rk rL)]; exact rk))) (fun i y H' hi A => ?_) (fun H5 A5 => ?_)
      · obtain ⟨t, ht, rfl⟩ : ∃ t, ts[i]? = some t ∧ y = V.ref t := by
          rw [List.getElem?_map] at hi
          cases e : ts[i]? with
          | none => rw [e] at hi; cases hi
          | some t =>
            rw [e] at hi
            exact ⟨t, rfl, (Option.some.inj hi).symm⟩
        obtain ⟨r, d, l, e1, e2, e3, e4⟩ := (hts t (List.mem_of_getElem? ht)).more (sS.trans (same_upd (o := .lst []) rL))
        refine ⟨t, _, rfl, SqT.of (A.same _ _ e1), rfl, _, _, rfl, _, _, rfl, rfl, rfl, ?_⟩
        refine ⟨_, rfl, _, rfl, r, d, l, rfl, A.same _ _ e2, A.same _ _ e3, e4, _, rfl, ?_⟩
        exact iteF A
      · refine ⟨(by show 0 ≤ sizeLine; decide), fun L2 hL2 => ?_⟩
        have A6 := A5.new (o := .lst ([] : List V)) hL2
        have rL2 := A5.same.free hL2
        refine ⟨.list [], .list [], .lst (SqL.of (A6.same _ _ (by rw [upd_ne (ne_of_none upd_same rL2), upd_same]))) .nil, .lst (SqL.of (A6.same _ _ upd_same)) .nil, rfl, rfl, ?_⟩
        exact k _

end
end BP

namespace BP
open PySem L2
/-! ### what the top has written, the head -/
theorem all_mk {l : PySem.W.OpenLaw} {w : World} {K : PySem.W.Frag} {h : Heap} {mg : Str → Option Value} {fa B C eH eS eF eB eL fI fM fO fR fH fT fG fA fS fX fP fL fB fK fW fN fV fZ : Addr} (X : K.In h) (G : h.Ns mainGlobals mg) (hfa : mg "law" = some (.ref fa))
    {odI anI odM anM odO anO odR anR odH anH odT anT odG anG odA anA odS anS odX anX odP anP odL anL odB anB odK anK odW anW odN anN odV anV odZ anZ : Option Addr} {slI slM slO slR slH slT slG slA slS slX slP slL slB slK slW slN slV slZ : Array (Option Value)} {ocI kVI dcI pmI cdI ctI ocM kVM dcM pmM cdM ctM ocO kVO dcO pmO cdO ctO ocR kVR dcR pmR cdR ctR ocH kVH dcH pmH cdH ctH ocT kVT dcT pmT cdT ctT ocG kVG dcG pmG cdG ctG ocA kVA dcA pmA cdA ctA ocS kVS dcS pmS cdS ctS ocX kVX dcX pmX cdX ctX ocP kVP dcP pmP cdP ctP ocL kVL dcL pmL cdL ctL ocB kVB dcB pmB cdB ctB ocK kVK dcK pmK cdK ctK ocW kVW dcW pmW cdW ctW ocN kVN dcN pmN cdN ctN ocV kVV dcV pmV cdV ctV ocZ kVZ dcZ pmZ cdZ ctZ : Value} {tHANDS tMOST_SLOTS tMOST_ALIVE : Tok}
    (acB : PySem.W.nsIn K mainGlobals "Box" = some (some (.ref B)))
    (acC : PySem.W.nsIn K mainGlobals "Pile" = some (some (.ref C)))
    (aeH : PySem.W.nsIn K mainGlobals "NoHand" = some (some (.ref eH)))
    (aeS : PySem.W.nsIn K mainGlobals "NoSize" = some (some (.ref eS)))
    (aeF : PySem.W.nsIn K mainGlobals "Full" = some (some (.ref eF)))
    (aeB : PySem.W.nsIn K mainGlobals "NoBox" = some (some (.ref eB)))
    (aeL : PySem.W.nsIn K mainGlobals "NoSlot" = some (some (.ref eL)))
    (aI : PySem.W.findIn K (.ref C) "__init__" = some (some (.ref fI)))
    (iI : PySem.W.isFn K (.ref fI) = true)
    (lI : K.lookup fI = some ⟨ocI, odI, .func (PySem.W.fnOf "__init__" "Pile.__init__" (defArgs sInit) (defBody sInit) (defScope sInit) .none kVI dcI pmI anI cdI ctI), slI⟩)
    (cI : PySem.W.codeIn K cdI "Pile.__init__" = true)
    (kI : PySem.W.keepIn K (.ref fI) = true)
    (aM : PySem.W.findIn K (.ref C) "make" = some (some (.ref fM)))
    (iM : PySem.W.isFn K (.ref fM) = true)
    (lM : K.lookup fM = some ⟨ocM, odM, .func (PySem.W.fnOf "make" "Pile.make" (defArgs sMake) (defBody sMake) (defScope sMake) .none kVM dcM pmM anM cdM ctM), slM⟩)
    (cM : PySem.W.codeIn K cdM "Pile.make" = true)
    (kM : PySem.W.keepIn K (.ref fM) = true)
    (aO : PySem.W.findIn K (.ref C) "hold" = some (some (.ref fO)))
    (iO : PySem.W.isFn K (.ref fO) = true)
    (lO : K.lookup fO = some ⟨ocO, odO, .func (PySem.W.fnOf "hold" "Pile.hold" (defArgs sHold) (defBody sHold) (defScope sHold) .none kVO dcO pmO anO cdO ctO), slO⟩)
    (cO : PySem.W.codeIn K cdO "Pile.hold" = true)
    (kO : PySem.W.keepIn K (.ref fO) = true)
    (aR : PySem.W.findIn K (.ref C) "drop" = some (some (.ref fR)))
    (iR : PySem.W.isFn K (.ref fR) = true)
    (lR : K.lookup fR = some ⟨ocR, odR, .func (PySem.W.fnOf "drop" "Pile.drop" (defArgs sDrop) (defBody sDrop) (defScope sDrop) .none kVR dcR pmR anR cdR ctR), slR⟩)
    (cR : PySem.W.codeIn K cdR "Pile.drop" = true)
    (kR : PySem.W.keepIn K (.ref fR) = true)
    (aH : PySem.W.findIn K (.ref C) "holds" = some (some (.ref fH)))
    (iH : PySem.W.isFn K (.ref fH) = true)
    (lH : K.lookup fH = some ⟨ocH, odH, .func (PySem.W.fnOf "holds" "Pile.holds" (defArgs sHolds) (defBody sHolds) (defScope sHolds) .none kVH dcH pmH anH cdH ctH), slH⟩)
    (cH : PySem.W.codeIn K cdH "Pile.holds" = true)
    (kH : PySem.W.keepIn K (.ref fH) = true)
    (aT : PySem.W.findIn K (.ref C) "points" = some (some (.ref fT)))
    (iT : PySem.W.isFn K (.ref fT) = true)
    (lT : K.lookup fT = some ⟨ocT, odT, .func (PySem.W.fnOf "points" "Pile.points" (defArgs sPoints) (defBody sPoints) (defScope sPoints) .none kVT dcT pmT anT cdT ctT), slT⟩)
    (cT : PySem.W.codeIn K cdT "Pile.points" = true)
    (kT : PySem.W.keepIn K (.ref fT) = true)
    (aG : PySem.W.findIn K (.ref C) "weighs" = some (some (.ref fG)))
    (iG : PySem.W.isFn K (.ref fG) = true)
    (lG : K.lookup fG = some ⟨ocG, odG, .func (PySem.W.fnOf "weighs" "Pile.weighs" (defArgs sWeighs) (defBody sWeighs) (defScope sWeighs) .none kVG dcG pmG anG cdG ctG), slG⟩)
    (cG : PySem.W.codeIn K cdG "Pile.weighs" = true)
    (kG : PySem.W.keepIn K (.ref fG) = true)
    (aA : PySem.W.findIn K (.ref C) "alive" = some (some (.ref fA)))
    (iA : PySem.W.isFn K (.ref fA) = true)
    (lA : K.lookup fA = some ⟨ocA, odA, .func (PySem.W.fnOf "alive" "Pile.alive" (defArgs sAlive) (defBody sAlive) (defScope sAlive) .none kVA dcA pmA anA cdA ctA), slA⟩)
    (cA : PySem.W.codeIn K cdA "Pile.alive" = true)
    (kA : PySem.W.keepIn K (.ref fA) = true)
    (aS : PySem.W.findIn K (.ref C) "suspects" = some (some (.ref fS)))
    (iS : PySem.W.isFn K (.ref fS) = true)
    (lS : K.lookup fS = some ⟨ocS, odS, .func (PySem.W.fnOf "suspects" "Pile.suspects" (defArgs sSuspects) (defBody sSuspects) (defScope sSuspects) .none kVS dcS pmS anS cdS ctS), slS⟩)
    (cS : PySem.W.codeIn K cdS "Pile.suspects" = true)
    (kS : PySem.W.keepIn K (.ref fS) = true)
    (aX : PySem.W.findIn K (.ref C) "_box" = some (some (.ref fX)))
    (iX : PySem.W.isFn K (.ref fX) = true)
    (lX : K.lookup fX = some ⟨ocX, odX, .func (PySem.W.fnOf "_box" "Pile._box" (defArgs sBox) (defBody sBox) (defScope sBox) .none kVX dcX pmX anX cdX ctX), slX⟩)
    (cX : PySem.W.codeIn K cdX "Pile._box" = true)
    (kX : PySem.W.keepIn K (.ref fX) = true)
    (aP : PySem.W.findIn K (.ref C) "_point" = some (some (.ref fP)))
    (iP : PySem.W.isFn K (.ref fP) = true)
    (lP : K.lookup fP = some ⟨ocP, odP, .func (PySem.W.fnOf "_point" "Pile._point" (defArgs sPoint) (defBody sPoint) (defScope sPoint) .none kVP dcP pmP anP cdP ctP), slP⟩)
    (cP : PySem.W.codeIn K cdP "Pile._point" = true)
    (kP : PySem.W.keepIn K (.ref fP) = true)
    (aL : PySem.W.findIn K (.ref C) "_let_go" = some (some (.ref fL)))
    (iL : PySem.W.isFn K (.ref fL) = true)
    (lL : K.lookup fL = some ⟨ocL, odL, .func (PySem.W.fnOf "_let_go" "Pile._let_go" (defArgs sLetGo) (defBody sLetGo) (defScope sLetGo) .none kVL dcL pmL anL cdL ctL), slL⟩)
    (cL : PySem.W.codeIn K cdL "Pile._let_go" = true)
    (kL : PySem.W.keepIn K (.ref fL) = true)
    (aB : PySem.W.findIn K (.ref B) "__init__" = some (some (.ref fB)))
    (iB : PySem.W.isFn K (.ref fB) = true)
    (lB : K.lookup fB = some ⟨ocB, odB, .func (PySem.W.fnOf "__init__" "Box.__init__" (defArgs sBoxInit) (defBody sBoxInit) (defScope sBoxInit) .none kVB dcB pmB anB cdB ctB), slB⟩)
    (cB : PySem.W.codeIn K cdB "Box.__init__" = true)
    (kB : PySem.W.keepIn K (.ref fB) = true)
    (aK : PySem.W.nsIn K mainGlobals "check_hand" = some (some (.ref fK)))
    (lK : K.lookup fK = some ⟨ocK, odK, .func (PySem.W.fnOf "check_hand" "check_hand" (defArgs sCheck) (defBody sCheck) (defScope sCheck) .none kVK dcK pmK anK cdK ctK), slK⟩)
    (cK : PySem.W.codeIn K cdK "check_hand" = true)
    (kK : PySem.W.keepIn K (.ref fK) = true)
    (aW : PySem.W.nsIn K mainGlobals "_law_whole" = some (some (.ref fW)))
    (lW : K.lookup fW = some ⟨ocW, odW, .func (PySem.W.fnOf "_law_whole" "_law_whole" (defArgs sWhole) (defBody sWhole) (defScope sWhole) .none kVW dcW pmW anW cdW ctW), slW⟩)
    (cW : PySem.W.codeIn K cdW "_law_whole" = true)
    (kW : PySem.W.keepIn K (.ref fW) = true)
    (aN : PySem.W.nsIn K mainGlobals "_law_numbers" = some (some (.ref fN)))
    (lN : K.lookup fN = some ⟨ocN, odN, .func (PySem.W.fnOf "_law_numbers" "_law_numbers" (defArgs sNums) (defBody sNums) (defScope sNums) .none kVN dcN pmN anN cdN ctN), slN⟩)
    (cN : PySem.W.codeIn K cdN "_law_numbers" = true)
    (kN : PySem.W.keepIn K (.ref fN) = true)
    (aV : PySem.W.nsIn K mainGlobals "_law_held_by" = some (some (.ref fV)))
    (lV : K.lookup fV = some ⟨ocV, odV, .func (PySem.W.fnOf "_law_held_by" "_law_held_by" (defArgs sHeldBy) (defBody sHeldBy) (defScope sHeldBy) .none kVV dcV pmV anV cdV ctV), slV⟩)
    (cV : PySem.W.codeIn K cdV "_law_held_by" = true)
    (kV : PySem.W.keepIn K (.ref fV) = true)
    (aZ : PySem.W.nsIn K mainGlobals "law" = some (some (.ref fZ)))
    (lZ : K.lookup fZ = some ⟨ocZ, odZ, .func (PySem.W.fnOf "law" "law" (defArgs sLaw) (defBody sLaw) (defScope sLaw) .none kVZ dcZ pmZ anZ cdZ ctZ), slZ⟩)
    (cZ : PySem.W.codeIn K cdZ "law" = true)
    (kZ : PySem.W.keepIn K (.ref fZ) = true)
    (pgB : PySem.W.plainGet K B Str.empty = true)
    (hdB : PySem.W.hasDictIn K B = true)
    (poB : PySem.W.plainOver K B = true)
    (saB : PySem.W.findIn K (.ref B) "__setattr__" = some (some (.builtin "object.__setattr__")))
    (mkB : PySem.W.makesIn K B = true)
    (kcB : PySem.W.keepIn K (.ref B) = true)
    (nBslots : PySem.W.findIn K (.ref B) "slots" = some none)
    (nBweight : PySem.W.findIn K (.ref B) "weight" = some none)
    (nBsuspect : PySem.W.findIn K (.ref B) "suspect" = some none)
    (pgC : PySem.W.plainGet K C Str.empty = true)
    (hdC : PySem.W.hasDictIn K C = true)
    (poC : PySem.W.plainOver K C = true)
    (saC : PySem.W.findIn K (.ref C) "__setattr__" = some (some (.builtin "object.__setattr__")))
    (mkC : PySem.W.makesIn K C = true)
    (kcC : PySem.W.keepIn K (.ref C) = true)
    (nChands : PySem.W.findIn K (.ref C) "_hands" = some none)
    (nCboxes : PySem.W.findIn K (.ref C) "_boxes" = some none)
    (nCmade : PySem.W.findIn K (.ref C) "_made" = some none)
    (xeH : PySem.W.excIn K eH [.type "ValueError", .type "Exception", .type "BaseException", .type "object"] "ValueError.__new__" = true)
    (keeH : PySem.W.keepIn K (.ref eH) = true)
    (beH : PySem.W.subIn K (.ref eH) (.type "BaseException") = some true)
    (tyeH : PySem.W.typeIn K (.ref eH) = some (.type "type"))
    (xeS : PySem.W.excIn K eS [.type "ValueError", .type "Exception", .type "BaseException", .type "object"] "ValueError.__new__" = true)
    (keeS : PySem.W.keepIn K (.ref eS) = true)
    (beS : PySem.W.subIn K (.ref eS) (.type "BaseException") = some true)
    (tyeS : PySem.W.typeIn K (.ref eS) = some (.type "type"))
    (xeF : PySem.W.excIn K eF [.type "ValueError", .type "Exception", .type "BaseException", .type "object"] "ValueError.__new__" = true)
    (keeF : PySem.W.keepIn K (.ref eF) = true)
    (beF : PySem.W.subIn K (.ref eF) (.type "BaseException") = some true)
    (tyeF : PySem.W.typeIn K (.ref eF) = some (.type "type"))
    (xeB : PySem.W.excIn K eB [.type "ValueError", .type "Exception", .type "BaseException", .type "object"] "ValueError.__new__" = true)
    (keeB : PySem.W.keepIn K (.ref eB) = true)
    (beB : PySem.W.subIn K (.ref eB) (.type "BaseException") = some true)
    (tyeB : PySem.W.typeIn K (.ref eB) = some (.type "type"))
    (xeL : PySem.W.excIn K eL [.type "ValueError", .type "Exception", .type "BaseException", .type "object"] "ValueError.__new__" = true)
    (keeL : PySem.W.keepIn K (.ref eL) = true)
    (beL : PySem.W.subIn K (.ref eL) (.type "BaseException") = some true)
    (tyeL : PySem.W.typeIn K (.ref eL) = some (.type "type"))
    (cnHANDS : PySem.W.nsIn K mainGlobals "HANDS" = some (some (.int 8 tHANDS)))
    (cnMOST_SLOTS : PySem.W.nsIn K mainGlobals "MOST_SLOTS" = some (some (.int 6 tMOST_SLOTS)))
    (cnMOST_ALIVE : PySem.W.nsIn K mainGlobals "MOST_ALIVE" = some (some (.int 60 tMOST_ALIVE)))
    (zisinstance : PySem.W.nsIn K mainGlobals "isinstance" = some none)
    (zint : PySem.W.nsIn K mainGlobals "int" = some none)
    (zbool : PySem.W.nsIn K mainGlobals "bool" = some none)
    (zlist : PySem.W.nsIn K mainGlobals "list" = some none)
    (zlen : PySem.W.nsIn K mainGlobals "len" = some none)
    (zrange : PySem.W.nsIn K mainGlobals "range" = some none)
    (zmin : PySem.W.nsIn K mainGlobals "min" = some none)
    (zsorted : PySem.W.nsIn K mainGlobals "sorted" = some none)
    (zset : PySem.W.nsIn K mainGlobals "set" = some none)
    : ∃ fd : FuncData, (∀ (s : Shared) (v : Value), BindsTo s fd ⟨[v], []⟩ [("_law_script", v)]) ∧ ∀ base : Heap, K.In base → base.Ns mainGlobals mg → FnOk l.prog w K mg base CX0 5 fa fd ["_law_script"] (spLaw K) := by
  have e := hfa.symm.trans (PySem.W.mg_of X G aZ)
  cases e
  have FI := fun_mk (st := sInit) lI cI kI
  have bI := FI.binds (ps := ["self"]) fun _ _ _ _ _ _ us hl => match us, hl with | [_], _ => rfl
  have FM := fun_mk (st := sMake) lM cM kM
  have bM := FM.binds (ps := ["self", "hand", "size"]) fun _ _ _ _ _ _ us hl => match us, hl with | [_, _, _], _ => rfl
  have FO := fun_mk (st := sHold) lO cO kO
  have bO := FO.binds (ps := ["self", "hand", "other"]) fun _ _ _ _ _ _ us hl => match us, hl with | [_, _, _], _ => rfl
  have FR := fun_mk (st := sDrop) lR cR kR
  have bR := FR.binds (ps := ["self", "hand"]) fun _ _ _ _ _ _ us hl => match us, hl with | [_, _], _ => rfl
  have FH := fun_mk (st := sHolds) lH cH kH
  have bH := FH.binds (ps := ["self", "hand"]) fun _ _ _ _ _ _ us hl => match us, hl with | [_, _], _ => rfl
  have FT := fun_mk (st := sPoints) lT cT kT
  have bT := FT.binds (ps := ["self", "number"]) fun _ _ _ _ _ _ us hl => match us, hl with | [_, _], _ => rfl
  have FG := fun_mk (st := sWeighs) lG cG kG
  have bG := FG.binds (ps := ["self", "number"]) fun _ _ _ _ _ _ us hl => match us, hl with | [_, _], _ => rfl
  have FA := fun_mk (st := sAlive) lA cA kA
  have bA := FA.binds (ps := ["self"]) fun _ _ _ _ _ _ us hl => match us, hl with | [_], _ => rfl
  have FS := fun_mk (st := sSuspects) lS cS kS
  have bS := FS.binds (ps := ["self"]) fun _ _ _ _ _ _ us hl => match us, hl with | [_], _ => rfl
  have FX := fun_mk (st := sBox) lX cX kX
  have bX := FX.binds (ps := ["self", "number"]) fun _ _ _ _ _ _ us hl => match us, hl with | [_, _], _ => rfl
  have FP := fun_mk (st := sPoint) lP cP kP
  have bP := FP.binds (ps := ["self", "pointers", "at", "number"]) fun _ _ _ _ _ _ us hl => match us, hl with | [_, _, _, _], _ => rfl
  have FL := fun_mk (st := sLetGo) lL cL kL
  have bL := FL.binds (ps := ["self", "pointer"]) fun _ _ _ _ _ _ us hl => match us, hl with | [_, _], _ => rfl
  have FB := fun_mk (st := sBoxInit) lB cB kB
  have bB := FB.binds (ps := ["self", "size"]) fun _ _ _ _ _ _ us hl => match us, hl with | [_, _], _ => rfl
  have FK := fun_mk (st := sCheck) lK cK kK
  have bK := FK.binds (ps := ["hand"]) fun _ _ _ _ _ _ us hl => match us, hl with | [_], _ => rfl
  have FW := fun_mk (st := sWhole) lW cW kW
  have bW := FW.binds (ps := ["_law_found"]) fun _ _ _ _ _ _ us hl => match us, hl with | [_], _ => rfl
  have FN := fun_mk (st := sNums) lN cN kN
  have bN := FN.binds (ps := ["_law_found", "_law_due"]) fun _ _ _ _ _ _ us hl => match us, hl with | [_, _], _ => rfl
  have FV := fun_mk (st := sHeldBy) lV cV kV
  have bV := FV.binds (ps := ["_law_hands", "_law_number"]) fun _ _ _ _ _ _ us hl => match us, hl with | [_, _], _ => rfl
  have FZ := fun_mk (st := sLaw) lZ cZ kZ
  have T : Txt K mg C B eH eS eF eB eL := ⟨⟨pgC, hdC, poC, saC⟩, nChands, nCboxes, nCmade, ⟨pgB, hdB, poB, saB⟩, nBslots, nBweight, nBsuspect, PySem.W.mg_of X G acC, PySem.W.mg_of X G acB, PySem.W.mg_none_of X G zlen, PySem.W.mg_none_of X G zlist, PySem.W.mg_none_of X G zsorted,
    ⟨_, PySem.W.mg_of X G cnHANDS⟩, ⟨_, PySem.W.mg_of X G cnMOST_SLOTS⟩, ⟨_, PySem.W.mg_of X G cnMOST_ALIVE⟩, ⟨PySem.W.mg_of X G aeH, xeH, keeH, beH, tyeH⟩, ⟨PySem.W.mg_of X G aeS, xeS, keeS, beS, tyeS⟩, ⟨PySem.W.mg_of X G aeF, xeF, keeF, beF, tyeF⟩, ⟨PySem.W.mg_of X G aeB, xeB, keeB, beB, tyeB⟩, ⟨PySem.W.mg_of X G aeL, xeL, keeL, beL, tyeL⟩⟩
  have TL : TxtL mg := ⟨PySem.W.mg_none_of X G zisinstance, PySem.W.mg_none_of X G zint, PySem.W.mg_none_of X G zbool, PySem.W.mg_none_of X G zlist, PySem.W.mg_none_of X G zlen, PySem.W.mg_none_of X G zrange, PySem.W.mg_none_of X G zmin, PySem.W.mg_none_of X G zsorted, PySem.W.mg_none_of X G zset⟩
  have D : Defs K mg C B fI fM fO fR fH fT fG fA fS fX fP fL fB fK fW fN fV _ _ _ _ _ _ _ _ _ _ _ _ _ _ _ _ _ := ⟨FI, bI, ⟨mkC, aI, iI, kcC⟩, FM, bM, ⟨aM, iM, kM⟩, FO, bO, ⟨aO, iO, kO⟩, FR, bR, ⟨aR, iR, kR⟩, FH, bH, ⟨aH, iH, kH⟩, FT, bT, ⟨aT, iT, kT⟩, FG, bG, ⟨aG, iG, kG⟩, FA, bA, ⟨aA, iA, kA⟩, FS, bS, ⟨aS, iS, kS⟩, FX, bX, ⟨aX, iX, kX⟩, FP, bP, ⟨aP, iP, kP⟩, FL, bL, ⟨aL, iL, kL⟩, FB, bB, ⟨mkB, aB, iB, kcB⟩, FK, bK, PySem.W.mg_of X G aK, FW, bW, PySem.W.mg_of X G aW, FN, bN, PySem.W.mg_of X G aN, FV, bV, PySem.W.mg_of X G aV⟩
  exact ⟨PySem.W.fnOf "law" "law" (defArgs sLaw) (defBody sLaw) (defScope sLaw) .none kVZ dcZ pmZ anZ cdZ ctZ, fun s v => .of_eq rfl, fun base _ _ => ok_law FZ T TL D⟩
theorem walk {l : PySem.W.OpenLaw} {q : Program} {loose : List Str} {XP : (Str → Option Value) → Heap → Prop} {YP : World → Heap → Prop} {d : DefRec} {K : Params → PySem.W.Frag} (hn : l.most = some 63) (hdf : d.params.defaults = [])
    (hY : ∀ (w : World) (h : Heap), YP w h → (K w.params).In h)
    (F : ∀ (w : World) (mg : Str → Option Value) (fa : Addr) (h : Heap), (K w.params).In h → h.Ns mainGlobals mg → mg d.name = some (.ref fa) →
      ∃ fd : FuncData, (∀ (s : Shared) (u : Value), BindsTo s fd ⟨[u], []⟩ [("_law_script", u)]) ∧ ∀ base : Heap, (K w.params).In base → base.Ns mainGlobals mg → FnOk l.prog w (K w.params) mg base CX0 5 fa fd ["_law_script"] (spLaw (K w.params))) :
    PySem.W.WalkO q loose XP YP l.row.toRowW d [] (fun f vs => PySem.call f vs) :=
  L2.walk_of (n := 63) (k := 5) (x := "_law_script") (CX := fun _ => CX0) (sp := fun w => spLaw (K w.params)) hn (by decide) hdf ⟨rfl, by decide, by decide⟩ hY F (fun _ _ a ns hl _ hS => ⟨a, ns, rfl, hS, hl, fun _ => rfl⟩) fun _ _ _ _ _ z => z
end BP
open PySem PySem.W PyProof.Rows
set_option maxRecDepth 100000 in
set_option maxHeartbeats 0 in
theorem PySem.Challenge.cw_boxpile_k02_hands_hold_holds : PySem.Challenge.rw_boxpile_k02_hands_hold.Holds := by
  w_on; o_law; k_head; (case hw => w_witness2)
  k_fill
  refine BP.walk (l := PySem.Challenge.rw_boxpile_k02_hands_hold) rfl rfl (fun w h Y => PySem.W.kIn_of Y) ?F
  case F =>
    intro w mg fa h KX G hmg
    refine' BP.all_mk KX G hmg ?acB ?acC ?aeH ?aeS ?aeF ?aeB ?aeL ?aI ?iI ?lI ?cI ?kI ?aM ?iM ?lM ?cM ?kM ?aO ?iO ?lO ?cO ?kO ?aR ?iR ?lR ?cR ?kR ?aH ?iH ?lH ?cH ?kH ?aT ?iT ?lT ?cT ?kT ?aG ?iG ?lG ?cG ?kG ?aA ?iA ?lA ?cA ?kA ?aS ?iS ?lS ?cS ?kS ?aX ?iX ?lX ?cX ?kX ?aP ?iP ?lP ?cP ?kP ?aL ?iL ?lL ?cL ?kL ?aB ?iB ?lB ?cB ?kB ?aK ?lK ?cK ?kK ?aW ?lW ?cW ?kW ?aN ?lN ?cN ?kN ?aV ?lV ?cV ?kV ?aZ ?lZ ?cZ ?kZ ?pgB ?hdB ?poB ?saB ?mkB ?kcB ?nBslots ?nBweight ?nBsuspect ?pgC ?hdC ?poC ?saC ?mkC ?kcC ?nChands ?nCboxes ?nCmade ?xeH ?keeH ?beH ?tyeH ?xeS ?keeS ?beS ?tyeS ?xeF ?keeF ?beF ?tyeF ?xeB ?keeB ?beB ?tyeB ?xeL ?keeL ?beL ?tyeL ?cnHANDS ?cnMOST_SLOTS ?cnMOST_ALIVE ?zisinstance ?zint ?zbool ?zlist ?zlen ?zrange ?zmin ?zsorted ?zset
    (case acB => k_is)
    (case acC => k_is)
    (case aeH => k_is)
    (case aeS => k_is)
    (case aeF => k_is)
    (case aeB => k_is)
    (case aeL => k_is)
    (case aI => k_is)
    (case iI => k_is)
    (case lI => k_is)
    (case cI => k_is)
    (case kI => k_is)
    (case aM => k_is)
    (case iM => k_is)
    (case lM => k_is)
    (case cM => k_is)
    (case kM => k_is)
    (case aO => k_is)
    (case iO => k_is)
    (case lO => k_is)
    (case cO => k_is)
    (case kO => k_is)
    (case aR => k_is)
    (case iR => k_is)
    (case lR => k_is)
    (case cR => k_is)
    (case kR => k_is)
    (case aH => k_is)
    (case iH => k_is)
    (case lH => k_is)
    (case cH => k_is)
    (case kH => k_is)
    (case aT => k_is)
    (case iT => k_is)
    (case lT => k_is)
    (case cT => k_is)
    (case kT => k_is)
    (case aG => k_is)
    (case iG => k_is)
    (case lG => k_is)
    (case cG => k_is)
    (case kG => k_is)
    (case aA => k_is)
    (case iA => k_is)
    (case lA => k_is)
    (case cA => k_is)
    (case kA => k_is)
    (case aS => k_is)
    (case iS => k_is)
    (case lS => k_is)
    (case cS => k_is)
    (case kS => k_is)
    (case aX => k_is)
    (case iX => k_is)
    (case lX => k_is)
    (case cX => k_is)
    (case kX => k_is)
    (case aP => k_is)
    (case iP => k_is)
    (case lP => k_is)
    (case cP => k_is)
    (case kP => k_is)
    (case aL => k_is)
    (case iL => k_is)
    (case lL => k_is)
    (case cL => k_is)
    (case kL => k_is)
    (case aB => k_is)
    (case iB => k_is)
    (case lB => k_is)
    (case cB => k_is)
    (case kB => k_is)
    (case aK => k_is)
    (case lK => k_is)
    (case cK => k_is)
    (case kK => k_is)
    (case aW => k_is)
    (case lW => k_is)
    (case cW => k_is)
    (case kW => k_is)
    (case aN => k_is)
    (case lN => k_is)
    (case cN => k_is)
    (case kN => k_is)
    (case aV => k_is)
    (case lV => k_is)
    (case cV => k_is)
    (case kV => k_is)
    (case aZ => k_is)
    (case lZ => k_is)
    (case cZ => k_is)
    (case kZ => k_is)
    (case pgB => k_is)
    (case hdB => k_is)
    (case poB => k_is)
    (case saB => k_is)
    (case mkB => k_is)
    (case kcB => k_is)
    (case nBslots => k_is)
    (case nBweight => k_is)
    (case nBsuspect => k_is)
    (case pgC => k_is)
    (case hdC => k_is)
    (case poC => k_is)
    (case saC => k_is)
    (case mkC => k_is)
    (case kcC => k_is)
    (case nChands => k_is)
    (case nCboxes => k_is)
    (case nCmade => k_is)
    (case xeH => first | k_is | k_exc)
    (case keeH => k_is)
    (case beH => k_is)
    (case tyeH => k_is)
    (case xeS => first | k_is | k_exc)
    (case keeS => k_is)
    (case beS => k_is)
    (case tyeS => k_is)
    (case xeF => first | k_is | k_exc)
    (case keeF => k_is)
    (case beF => k_is)
    (case tyeF => k_is)
    (case xeB => first | k_is | k_exc)
    (case keeB => k_is)
    (case beB => k_is)
    (case tyeB => k_is)
    (case xeL => first | k_is | k_exc)
    (case keeL => k_is)
    (case beL => k_is)
    (case tyeL => k_is)
    (case cnHANDS => k_is)
    (case cnMOST_SLOTS => k_is)
    (case cnMOST_ALIVE => k_is)
    (case zisinstance => k_is)
    (case zint => k_is)
    (case zbool => k_is)
    (case zlist => k_is)
    (case zlen => k_is)
    (case zrange => k_is)
    (case zmin => k_is)
    (case zsorted => k_is)
    (case zset => k_is)
