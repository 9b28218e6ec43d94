import PyProof.Rows.All
import Wide.All
import OpenK.AllK
import Wide.FinOn
import HandS.ForMost
import HandS.ForExc
import HandS.AnyAll
import HandS.More
import HandS.RaiseMore
import PyProof.RulesMatchSeq
import PyProof.Rows.MatchSeqLen
import PyProof.Rows.TupIter
import HandS.Walk
import HandS.DictComp
import HandS.HotCalls
import HandS.SuiteRaise
import HandS.IsInst
import HandS.ListItems
import HandS.TryMany
import HandS.ExcIs
import HandS.Replace
import HandS.ReplaceLit
import HandS.ReplaceDef
import HandS.Flow
import HandS.ExcOwn
import KE.KDictSum
import HandS.EndTab
import KE.KNest
import HandS.CallSlots
import HandS.SetFor
import HandS.Strs
import PySem.Challenge.RW_boxpile_k13_whole_rows_played
set_option Elab.async false
set_option linter.all false
set_option maxRecDepth 100000
set_option maxHeartbeats 4000000
/-! A list comprehension whose items may raise: what is raised leaves the comprehension. Own work. -/
namespace BP
open PySem PySem.Spec PyProof.Rows L2
theorem note_same {x : Value} {e1 e2 : Env} (h : e1.frame = e2.frame) : noteFrame x e1 = noteFrame x e2 := by
  unfold noteFrame PySem.frameOf
  rw [h]
/-- behind a comprehension's block: its list, or the error that is passed on in the frame fr -/
def PostF (M : Model) (A : Around) (E Q : Value → Shared → Prop) (l : Value) (C : Addr) (fr : Option Addr) : Result → Shared → Prop
  | .ok _, s => ∃ m, s.heap.Ns C m ∧ ∀ h', Heap.SameBut C s.heap h' → Q l { s with heap := h' }
  | .error x, s => ∃ m, s.heap.Ns C m ∧ ∀ h', Heap.SameBut C s.heap h' → ∀ ce : Env, ce.locals = C → ce.frame = fr →
      wpAny M A (PySem.passOn "comprehension.variables-let-go" x ce : Sem Value) (fun _ _ => False) E { s with heap := h' }
section
variable {M : Model} {A : Around} {E Q : Value → Shared → Prop} {s : Shared} {env : Env}
theorem comp_freeF {c : Expr} {sc : Scope} {ps : Pos} {mkAcc first : Sem Value} {g : Comprehension} {gs : List Comprehension} {cl : List (Str × Addr)}
    (hc : clausesOf c = g :: gs) (hfold : ∀ x, foldedSetIterable g.iter env x = pure x) (hclo : closureFor sc env = pure cl) (hk : sc.kind = .function) (hn : ∀ y ∈ sc.names, y.2 = .local → sc.names.lookup y.1 = some .local)
    (h : wpAny M A first (fun v t1 => wpAny M A (pyIter v) (fun w t2 => wpAny M A mkAcc (fun l t3 =>
      wpAny M A (newFunctionEnv sc env.globals cl [] env.qual none .none (some env))
        (fun ce t4 => codeAny M A (.compStart c 0 w l { ce with scope := relabel sc env }) (PostF M A E Q l ce.locals ce.frame) t4) E t3) E t2) E t1) E s) :
    wpAny M A (comprehension c sc env ps mkAcc false first none) Q E s := by
  have mono : ∀ {α : Type} {t : Sem α} {R R' : α → Shared → Prop} {u : Shared}, wpAny M A t R E u → (∀ a u, R a u → R' a u) → wpAny M A t R' E u := fun h k => wpAny_mono h k fun _ _ z => z
  unfold comprehension
  rw [hclo, hc]
  refine wpAny_bind (mono h fun v t1 h1 => ?_)
  refine wpAny_bind (wpAny_standAt (wpAny_bind (wpAny_of_eq (hfold v) (wpAny_bind (wpAny_holding (mono h1 fun w t2 h2 => ?_))))))
  refine wpAny_standIf (wpAny_bind (mono h2 fun l t3 h3 => ?_))
  refine wpAny_bind (wpAny_pure (wpAny_bind (mono h3 fun ce t4 h4 => ?_)))
  dsimp only
  have hv : ∀ x ∈ (sc.names.filter fun y => (y.2 == .local || y.2 == .cell) && y.1 != (".0" : Str)).reverse, x.2 = .local →
      Env.kindOf { ce with scope := relabel sc env } x.1 = some .local := fun x hx hl =>
    lookup_relabel_local (hn x (List.mem_filter.mp (List.mem_reverse.mp hx)).1 hl)
  refine wpAny_holding (wpAny_bind (wpAny_attempt (wpAny_holding (wpAny_run (codeAny_mono h4 fun r t5 hr => ?_)))))
  cases r with
  | ok f =>
    obtain ⟨m, hm, hr⟩ := hr
    refine wpAny_bind (wpAny_holding ?_)
    exact wpAny_comp_letGo (cenv := { ce with scope := relabel sc env }) hk _ t5 m hv hm fun h' m' _ sb => wpAny_pure (hr h' sb)
  | error x =>
    obtain ⟨m, hm, hr⟩ := hr
    refine wpAny_bind (wpAny_holding ?_)
    exact wpAny_comp_letGo (cenv := { ce with scope := relabel sc env }) hk _ t5 m hv hm fun h' m' _ sb => wpAny_mono (hr h' sb _ rfl rfl) (fun _ _ z => z.elim) fun _ _ z => z
end

/-! ### what a call within the block raises -/
theorem ns_kept {h h' : Heap} {C : Addr} {m : Str → Option Value} (hm : h.Ns C m) (k : ∀ o, h.get? C = some o → h'.get? C = some o) : h'.Ns C m := by
  obtain ⟨o, es, ep, h1, h2⟩ := hm
  exact ⟨o, es, ep, k o h1, h2⟩
theorem ns_slots {h h' : Heap} {C : Addr} {m : Str → Option Value} (hm : h.Ns C m) (k : h.UpToSlots h') : h'.Ns C m := by
  obtain ⟨o, es, ep, h1, h2, h3⟩ := hm
  obtain ⟨sl, h4⟩ := k C o h1 fun vs z => by rw [h2] at z; cases z
  exact ⟨_, es, ep, h4, h2, h3⟩
theorem ns_not {h : Heap} {C a : Addr} {m : Str → Option Value} (hm : h.Ns C m) {o : Obj} {vs : Array Value} (ha : h.get? a = some o) (hd : o.data = .fields vs) : a ≠ C := fun z => by
  obtain ⟨o', es, ep, h1, h2, _⟩ := hm
  rw [z] at ha
  have : o = o' := Option.some.inj (ha.symm.trans h1)
  rw [this, h2] at hd
  cases hd
theorem frames_hid {B h h' : Heap} {C : Addr} (k : ∀ b, b ≠ C → h'.get? b = h.get? b) : ∀ {l : List Env}, C ∉ frs l → h.FunFrames B l → h'.FunFrames (PySem.W.hideAll B [C]) l
  | [], _, _ => trivial
  | e :: l, hC, hf => by
    obtain ⟨h1, ⟨L, o, h2, h3, h4, h5⟩, h6⟩ := hf
    have hL : L ∈ frs (e :: l) := List.mem_filterMap.mpr ⟨e, List.mem_cons_self, h2⟩
    refine ⟨h1, ⟨L, o, h2, ?_, ?_, h5⟩, frames_hid k (fun z => hC ?_) h6⟩
    · cases q : (PySem.W.hideAll B [C]).get? L with
      | none => rfl
      | some u => have := PySem.W.of_hideAll _ q; rw [h3] at this; cases this
    · rw [k L (fun z => hC (z ▸ hL))]; exact h4
    · obtain ⟨x, hx, hy⟩ := List.mem_filterMap.mp z
      exact List.mem_filterMap.mpr ⟨x, List.mem_cons_of_mem _ hx, hy⟩
/-- a call within the block X' raised: what the call left, and where the block stood -/
def Air (X : Cx) (E : XK) (u : Value) (s' : Shared) : Prop := ∃ (pins : List (Addr × Obj)) (σ : L2.St) (H : Hp) (s : Shared), Inv X pins σ H s ∧ L2.CX X.prog X.w X.stack H s E u s'
theorem air_passes {X : Cx} {E : XK} {pn : List (Addr × Obj)} : Passes (L2.CX X.prog X.w) (X.tr pn (Air (X.tr pn fun _ _ => False) E)) E := fun pins σ H s u s' I c =>
  ⟨pins, σ, H, s, ⟨⟨I.ok.mod, I.ok.kind, I.ok.glob, I.ok.blt, I.ok.above, I.ok.inj, I.ok.has, I.ok.cab, I.ok.hd, I.ok.frames, I.ok.stk, I.ok.exf, I.ok.bs, I.ok.bsz, I.ok.noex, I.ok.exfs, I.ok.funs, I.ok.frf⟩, I.os, I.bare, I.base, I.loc, I.cell, I.free, I.freeC, I.pin, I.hok, I.len⟩, c⟩
section
variable {X : Cx}
/-- noted in the def's frame, the block's variables let go, passed on: it is in the def's air -/
theorem air_out {E : XK} {σ : L2.St} {H : Hp} {pins : List (Addr × Obj)} {s s' : Shared} {u : Value} {C : Addr} {m : Str → Option Value} {ce : Env} (hs : X.stack = X.env :: X.outer) (hf : X.env.frame = some X.env.locals) (tk : Takes X fun cls d _ H => E cls d H)
    (I : Inv X pins σ H s) (c : L2.CX X.prog X.w X.stack H s E u s') (hm : s.heap.Ns C m) (f : FpOk X pins H C) (hce : ce.frame = X.env.frame) :
    notedBy (model X.prog X.w) X.A ce (fun x t => PostF (model X.prog X.w) X.A X.xe (fun _ _ => False) .none C X.env.frame (.error x) t) u s' := by
  obtain ⟨f0, f1, f2, f3, f4, f5⟩ := f
  have nC : C ∉ frs X.stack := fun z => (List.mem_cons.mp (I.stkSub C z)).elim f1 f2
  have hm' : s'.heap.Ns C m := by
    obtain ⟨a, B, H', cls, d, rfl, fl, hok, ub, _⟩ := c
    exact ns_kept hm fun o e => fl.1 _ _ (ub.keep C o e f0 nC)
  have c2 : L2.CX X.prog X.w X.stack H s (fun cls d H' => E cls d H' ∧ H' C = none) u s' := by
    obtain ⟨a, B, H', cls, d, rfl, fl, hok, ub, na, os, ag, hE⟩ := c
    obtain ⟨o, _, _, ho, _⟩ := hm
    exact ⟨a, B, H', cls, d, rfl, fl, hok, ub, na, os, ag, hE, ub.free C o ho f0⟩
  obtain ⟨a, B, sI, pins', σ', H', cls, d, rfl, J, nb, up, sky, na, os, ag, hE, nHC⟩ := XE.of_call (W := fun cls d _ H' => E cls d H' ∧ H' C = none) I (fun _ _ _ h => h) c2
  have hfr : X.A.frames = some (X.env :: X.outer) := by rw [J.ok.frames, hs]
  have fin : ∀ h1 : Heap, HandSPX.HeldZ B X.stack a (Zc cls d) X.env.locals h1 → s'.heap.UpToSlots h1 → PostF (model X.prog X.w) X.A X.xe (fun _ _ => False) .none C X.env.frame (.error (.ref a)) { s' with heap := h1 } := by
    intro h1 hh up1
    have hm1 := ns_slots hm' up1
    refine ⟨m, hm1, fun h2 sb ce2 _ hfr2 => ?_⟩
    obtain ⟨st, hBa, hl, oe, vs, T, oT, ts, he, hz, hd, h3, hnT, hTe, hT, hdT, h4⟩ := hh
    have naC := ns_not hm1 he hd
    have nTC := ns_not hm1 hT hdT
    have hB : ∀ {b}, B.get? b = none → (PySem.W.hideAll B [C]).get? b = none := fun {b} e => by
      cases q : (PySem.W.hideAll B [C]).get? b with
      | none => rfl
      | some u => have := PySem.W.of_hideAll _ q; rw [e] at this; cases this
    have tr2 : HandSPX.TracedZ h2 (PySem.W.hideAll B [C]) a (Zc cls d) (rawInt X.env.locals) :=
      ⟨oe, vs, T, oT, ts, (sb.2 a naC).trans he, hz, hd, h3, hB hnT, hTe, (sb.2 T nTC).trans hT, hdT, h4⟩
    have st2 : (PySem.W.hideAll B [C]).StaysIn h2 := fun b o e => by
      have nb : b ≠ C := fun z => by rw [z, PySem.W.hideAll_none [C] List.mem_cons_self] at e; cases e
      exact (sb.2 b nb).trans (st b o (PySem.W.of_hideAll _ e))
    have hl2 : h2.FunFrames (PySem.W.hideAll B [C]) X.stack := frames_hid (fun b hb => sb.2 b hb) nC hl
    unfold PySem.passOn
    refine wpAny_bind (wpAny_field ((sb.2 a naC).trans he) hd h3 ?_)
    rw [if_neg (show ¬ ((Value.ref T == Value.none) = true) from by simp)]
    have fin2 : wpAny (model X.prog X.w) X.A (setFlight (.ref a) ce2.frame) (fun _ t => wpAny (model X.prog X.w) X.A (throw (.ref a) : Sem Value) (fun _ _ => False) X.xe t) X.xe { s' with heap := h2 } := by
      rw [hfr2, hf]
      refine HandSPX.setFlight_anyZ st2 hl2 tr2 fun h5 k1 k2 k3 k4 => wpAny_throw (tk _ _ ?_)
      have J2 : Inv X [] σ' H' sI := ⟨J.ok, J.os, J.bare, J.base, J.loc, J.cell, J.free, J.freeC, fun p hp => J.pin p (List.mem_append_left _ (by rw [List.append_nil] at hp; exact hp)), J.hok, J.len⟩
      have J3 : Inv X [] σ' H' { sI with heap := PySem.W.hideAll sI.heap [C], toks := sI.toks } :=
        J2.turned (it := C) (fun b o hb e => PySem.W.hideAll_get _ e (by simpa using hb)) nHC f1.symm.symm f3 f4 (fun p hp => f5 p (List.mem_append_left _ (by rw [List.append_nil] at hp; exact hp)))
      refine ⟨a, PySem.W.hideAll B [C], _, [], σ', H', cls, d, rfl, J3, fun b o e hb => ?_, fun b o e hn => ?_, .inr (.inr ⟨k1, hB hBa, k2, k3⟩), na, os, ag, hE⟩
      · have nbC : b ≠ C := fun z => by rw [z, PySem.W.hideAll_none [C] List.mem_cons_self] at e; cases e
        exact PySem.W.hideAll_get _ (nb b o (PySem.W.of_hideAll _ e) hb) (by simpa using nbC)
      · have nbC : b ≠ C := fun z => by rw [z, PySem.W.hideAll_none [C] List.mem_cons_self] at e; cases e
        obtain ⟨sl1, e1⟩ := up b o (PySem.W.of_hideAll _ e) hn
        obtain ⟨sl2, e2⟩ := up1 b _ e1 hn
        have e3 := (sb.2 b nbC).trans e2
        obtain ⟨sl4, e4⟩ := k4 b _ e3 hn
        exact ⟨sl4, e4⟩
    first
      | exact wpAny_bind (wpAny_pure (wpAny_bind fin2))
      | exact wpAny_bind fin2
  show wpAny (model X.prog X.w) X.A (noteFrame (.ref a) ce) _ _ s'
  rw [note_same hce]
  rw [hs] at sky fin
  rcases sky with ⟨hB, hn, hl, oe, vs, he, hz, hd, h1⟩ | fl | hh
  · exact HandSPX.look_newZ Zc.steady hfr hl hf he hB hn hd h1 hz fin
  · exact HandSPX.looks_onZ Zc.steady hfr hf fl fin
  · exact HandSPX.againZ hf hh.2.2.2 (fin s'.heap hh (Heap.UpToSlots.refl _))

/-- a comprehension as a value; what an item's call raises is wished for by E, as the def wishes it -/
theorem pe_lcX {E : XK} {elt tg iter : Expr} {ifs : List Expr} {sc : Scope} {own : List (Str × Nat)} {pos : Pos} {wi : TI} {g : TG} {tt : TT} {te : TE}
    (hst : X.stack = X.env :: X.outer) (hfr : X.env.frame = some X.env.locals) (tk : Takes X fun cls d _ H => E cls d H)
    (hc : X.calm = true) (hN : X.N.Nodup) (hi : PI X tg iter wi) (ok : BlkOk X.N X.env.scope sc own)
    (hg : ∀ (s : Shared) (H : Hp) (C : Addr) (cl : List (Str × Addr)) (fp : List Addr), PG (X.blk s H sc (compEnvC sc cl C X.env) fp) tg g)
    (ht : ∀ (s : Shared) (H : Hp) (C : Addr) (cl : List (Str × Addr)) (fp : List Addr), PTs (X.blk s H sc (compEnvC sc cl C X.env) fp) ifs tt)
    (he : ∀ (s : Shared) (H : Hp) (C : Addr) (cl : List (Str × Addr)) (fp : List Addr) (pn : List (Addr × Obj)) (xe : Value → Shared → Prop),
      Passes (L2.CX X.prog X.w) ((X.blk s H sc (compEnvC sc cl C X.env) fp).tr pn xe) E → PE ((X.blk s H sc (compEnvC sc cl C X.env) fp).tr pn xe) elt te)
    (hs : ∀ x, foldedSetIterable iter X.env x = pure x := by intro _; rfl) : PE X (.ListComp elt [⟨tg, iter, ifs, 0⟩] sc pos) (tLc wi g tt te (own.map (·.2))) := by
  refine ⟨fun pins s σ H Q I hw => ?_⟩
  rw [eval_ListComp]
  have cells : ∀ y ∈ sc.names, y.2 = .free → ∃ c, X.env.cells.lookup y.1 = some c := fun y hy e =>
    (ok.free y hy e).elim (fun k => I.ok.has _ (.inl k)) (fun k => I.ok.has _ (.inr k))
  refine comp_freeF rfl hs (closure_ok cells) ok.kind (fun y hy e => (ok.uniq y hy).trans (congrArg some e)) (thn (hi.run pins s σ H _ I hw) fun xv s1 hx => thn hx fun itv s2 h2 => ?_)
  obtain ⟨it, fp, tn, J, H2, rfl, I2, T, st2, f2, q⟩ := h2
  refine wpAny_newObj_type (newEnv_comp ?_) (by show 0 ≤ sizeLine; decide)
  obtain ⟨D, hD⟩ : ∃ D, s2.heap.objs.size = D := ⟨_, rfl⟩
  rw [hD]
  obtain ⟨W, ⟨m0, w0⟩, turn⟩ := q D (I2.hok.fresh (Nat.le_of_eq hD))
  -- the list is laid
  obtain ⟨s3, hs3⟩ : ∃ s3 : Shared, ({ s2 with heap := s2.heap.push { cls := .type "list", data := .seq ([] : List Value).toArray } } : Shared) = s3 := ⟨_, rfl⟩
  have h3 : s3.heap = s2.heap.push { cls := .type "list", data := .seq ([] : List Value).toArray } := by rw [← hs3]
  have I3 : Inv X pins σ (upd H2 D (.lst [])) s3 := by
    rw [← hs3]
    refine I2.laid (t' := s2.toks) (fun b o e => Heap.get?_push_of_some _ e) (Nat.le_of_eq hD) ⟨Nat.zero_le _, [], 0, .nil, ?_⟩
    rw [← hD]
    exact Heap.get?_push_size _ rfl
  have below : ∀ b ∈ fp, b < s2.heap.objs.size := fun b hb => (T.obj _ _ st2 b hb).elim fun o e => Heap.lt_size e.1
  have f3 : ∀ b ∈ fp, FpOk X pins (upd H2 D (.lst [])) b ∧ b < s3.heap.objs.size := fun b hb => by
    have lt := below b hb
    refine ⟨⟨?_, (f2 b hb).2⟩, ?_⟩
    · rw [upd_ne (by rw [← hD]; exact Nat.ne_of_lt lt)]
      exact (f2 b hb).1
    · rw [h3, Heap.size_push]
      exact Nat.lt_succ_of_lt lt
  have st3 : tn 0 s3.heap := T.keep _ _ _ st2 fun b _ o e => (by rw [h3]; exact Heap.get?_push_of_some _ e)
  have I4 := block_start I3 ok hN f3
  obtain ⟨cl, hcl⟩ : ∃ cl, cellsFrom (s3.heap.objs.size + 1) sc.names (cloFrom X.env.cells sc.names []) = cl := ⟨_, rfl⟩
  have go : ∀ ce : Env, compEnvC sc cl s3.heap.objs.size X.env = ce → codeAny (model X.prog X.w) X.A (.compStart (.ListComp elt [⟨tg, iter, ifs, 0⟩] sc pos) 0 (.ref it) (.ref D) ce)
      (PostF (model X.prog X.w) X.A X.xe (EP X pins σ Q) (.ref D) s3.heap.objs.size X.env.frame) { s3 with heap := pushCells (s3.heap.push { cls := .type "dict", data := .dict #[] }) sc.names } := by
    intro ce hce
    rw [hcl, hce] at I4
    have pg := hg s3 (upd H2 D (.lst [])) s3.heap.objs.size cl fp
    have pt := ht s3 (upd H2 D (.lst [])) s3.heap.objs.size cl fp
    have pe := he s3 (upd H2 D (.lst [])) s3.heap.objs.size cl fp
    rw [hce] at pg pt pe
    have cL : ce.locals = s3.heap.objs.size := by rw [← hce]; rfl
    have cF : ce.frame = X.env.frame := by rw [← hce]; rfl
    have nfp : ∀ b ∈ fp, (upd H2 D (.lst [])) b = none := fun b hb => (f3 b hb).1.1
    obtain ⟨H3, hH3⟩ : ∃ H3, upd H2 D (.lst []) = H3 := ⟨_, rfl⟩
    rw [hH3] at I3 I4 pg pt pe w0 nfp f3
    obtain ⟨s4, hs4⟩ : ∃ s4 : Shared, ({ s3 with heap := pushCells (s3.heap.push { cls := .type "dict", data := .dict #[] }) sc.names } : Shared) = s4 := ⟨_, rfl⟩
    rw [hs4] at I4 ⊢
    have st4 : tn 0 s4.heap := T.keep _ _ _ st3 fun b _ o e => (by rw [← hs4]; exact pushCells_keeps _ _ _ _ (Heap.get?_push_of_some _ e))
    -- what a state of the block is, seen from the def
    have outer : ∀ {p : List (Addr × Obj)} {σ' : L2.St} {H' : Hp} {s' : Shared}, Inv (X.blk s3 H3 sc ce fp) p σ' H' s' → Inv X pins σ H' s' ∧ (∃ m, s'.heap.Ns s3.heap.objs.size m) ∧ FpOk X pins H' s3.heap.objs.size := by
      intro p σ' H' s' I6
      have nC : H' s3.heap.objs.size = none := by rw [← cL]; exact I6.free
      obtain ⟨m, hn, _⟩ := I6.loc
      refine ⟨I3.call' (ch := fp) I6.os I6.base I6.hok I6.bare fun b hb => ?_, ⟨m, by rw [← cL]; exact hn⟩, I3.fpOk (Nat.le_refl _) nC⟩
      obtain ⟨z1, z2, z3, z4, z5, z6⟩ := (f3 b hb).1
      exact ⟨z4, z2, z5, z6⟩
    have stat : ∀ {σ' : L2.St} {H' : Hp} {s' : Shared}, Inv (X.blk s3 H3 sc ce fp) [] σ' H' s' → (∀ b ∈ fp, H' b = none) → ∀ b ∈ fp, FpOk (X.blk s3 H3 sc ce fp) [] H' b := fun I' hn b hb =>
      ⟨hn b hb, (I'.ok.exf b hb).1, I'.ok.exfs b hb, .inl hb, fun x c e => (I'.ok.exf b hb).2 x c e, fun p hp => nomatch (show p ∈ ([] : List (Addr × Obj)) from hp)⟩
    have loop : codeAny (model X.prog X.w) X.A (.compLoop (.ListComp elt [⟨tg, iter, ifs, 0⟩] sc pos) 0 (.ref it) (.ref D) ce) (PostF (model X.prog X.w) X.A X.xe (EP X pins σ Q) (.ref D) s3.heap.objs.size X.env.frame) s4 := by
      refine compLoop_any (fun n t => ∃ i H', Inv (X.blk s3 H3 sc ce fp) [] (wipe σ (own.map (·.2))) H' t ∧ tn i t.heap ∧ (∀ b ∈ fp, H' b = none) ∧ W i n H') ?_ m0 ⟨0, H3, I4, st4, nfp, w0⟩
      rintro n s5 ⟨i, H5, I5, st5, n5, w5⟩
      rcases turn i n H5 w5 with ⟨stop, fine⟩ | ⟨goes, Nx, hNx, step⟩
      · refine thnF (T.done (X.blk s3 H3 sc ce fp) rfl rfl rfl hc i [] s5 _ H5 (fun _ _ => False) I5 (stat I5 n5) st5 stop) ?_
        rintro r s6 ⟨rfl, I6⟩
        obtain ⟨I7, ⟨m, hn⟩, f0, f1, f2', f3', f4, f5⟩ := outer I6
        exact ⟨m, hn, fun h' sb => ⟨.ref D, H5, I7.turned (t' := s6.toks) (fun b o hb e => (sb.2 b hb).trans e) f0 f1 f3' f4 f5, rfl, fine⟩⟩
      · refine thnF (T.item (X.blk s3 H3 sc ce fp) rfl rfl rfl hc i [] s5 _ H5 (fun _ _ => False) I5 (stat I5 n5) st5 goes) ?_
        rintro r s6 ⟨u, rfl, h6⟩
        refine thnF h6 fun _ s7 ⟨x, H7, I7, r7, y7, st7, n7⟩ => ?_
        refine thnF (pg.run _ s7 _ H7 x u _ (I7.pinned (stat I7 n7) (T.obj _ _ st7)) r7 (step x H7 y7)) fun _ s8 ⟨σ8, H8, I8, hw8, q8⟩ => ?_
        refine thnF (pt.run _ s8 σ8 H8 _ I8 q8) fun b s9 ⟨H9, I9, q9⟩ => ?_
        have fin : ∀ {t : Shared} {H' : Hp}, Inv (X.blk s3 H3 sc ce fp) ([] ++ pinsAt fp s7.heap) σ8 H' t → Nx H' → ∃ m, m < n ∧ ∃ i H', Inv (X.blk s3 H3 sc ce fp) [] (wipe σ (own.map (·.2))) H' t ∧ tn i t.heap ∧ (∀ b ∈ fp, H' b = none) ∧ W i m H' := by
          intro t H' I' nx
          obtain ⟨m', lt, w'⟩ := hNx H' nx
          have pinned : ∀ b ∈ fp, ∀ o, s7.heap.get? b = some o → t.heap.get? b = some o ∧ H' b = none := fun b hb o e => by
            have z := I'.pin (b, o) (List.mem_append_right _ (List.mem_append_right _ (mem_pinsAt hb e)))
            exact ⟨z.1, z.2.1⟩
          refine ⟨m', lt, i + 1, H', (I'.unpinned (pins := [])).weak (by rw [← hw8, wipe_length]) (fun j v e => ?_), T.keep _ _ _ st7 fun b hb o e => (pinned b hb o e).1, fun b hb => ?_, w'⟩
          · rw [← hw8] at e
            exact (wipe_some e).1
          · obtain ⟨o, e, _⟩ := T.obj _ _ st7 b hb
            exact (pinned b hb o e).2
        cases b with
        | false => exact fin I9 q9
        | true =>
          show wpAny (model X.prog X.w) X.A (eval elt ce) _ _ s9
          have I10 := I9.toTry (Air ((X.blk s3 H3 sc ce fp).tr ((X.blk s3 H3 sc ce fp).pn ++ ([] ++ pinsAt fp s7.heap)) fun _ _ => False) E)
          refine wpAny_mono ((pe _ _ air_passes).run [] s9 σ8 H9 _ I10 q9) (fun z s10 hz => ?_) (fun e s10 hz => ?_)
          · obtain ⟨yv, H10, I11, r10, acc, hD10, hz10, nx⟩ := hz
            exact app_ok (X := X.blk s3 H3 sc ce fp) (I11.ofTry I9.ok) hD10 hz10 r10 fun s11 I12 => fin I12 nx
          · obtain ⟨p, σ', H', t, I6, c⟩ := hz
            have I6' : Inv (X.blk s3 H3 sc ce fp) [] σ' H' t := ⟨I9.ok, I6.os, I6.bare, I6.base, I6.loc, I6.cell, I6.free, I6.freeC, (fun q hq => nomatch (show q ∈ ([] : List (Addr × Obj)) from hq)), I6.hok, I6.len⟩
            obtain ⟨I7', ⟨m, hn⟩, f⟩ := outer I6'
            exact air_out hst hfr tk I7' c hn f cF
    exact codeAny_compStart_list loop (T.self X.A 0 _ _ _ st4 loop)
  subst hs3
  rw [hcl.symm] at go
  exact go _ rfl
end
end BP

/-! all(x in G for x in e): e a text, G a text of the module. Own work, over the library's walk of a generator. -/
namespace BP
open PySem PySem.Spec PyProof.Rows L2 GxR
/-- a test of the sign c in a generator's own frame, where the module's names are seen too -/
def EltG (X : Cx) (sc : Scope) (x : Str) (elt : Expr) (pb : Nat → Bool) : Prop :=
  ∀ (ce : Env) (B : Around) (F : Value → Shared → Prop) (c : Nat) (t : Tok) (u : Shared) (m : Str → Option Value), ce.scope = sc → ce.globals = mainGlobals → u.heap.Ns mainGlobals X.mg → u.heap.Ns ce.locals m → m x = some (.str ⟨#[c]⟩ t) →
    wpAny (model X.prog X.w) B (eval elt ce) (fun y u' => y = .bool (pb c) ∧ Keeps u u') F u
theorem elt_in {X : Cx} {sc : Scope} {x y : Str} {z : Str} {tz : Tok} {p1 p2 p3 : Pos} (hk : sc.kind = .function) (hl : sc.names.lookup x = some .local) (hy : sc.names.lookup y = some .globalImplicit) (hm : X.mg y = some (.str z tz))
    (hx : (x == ("__debug__" : Str)) = false := by decide) (hyd : (y == ("__debug__" : Str)) = false := by decide) :
    EltG X sc x (.Compare (.Name x p1) [.In] [.Name y p2] p3) fun c => decide (c ∈ z.cps.toList) := by
  intro ce B F c t u m hs hg hG hn hv
  refine wpAny_Compare1 ?_
  refine wpAny_Name (wpAny_loadName_local (by rw [hs]; exact hk) (by unfold Env.kindOf; rw [hs]; exact hl) hn hv ?_) hx
  refine Calls.Name_function_global (by rw [hs]; exact hk) (by unfold Env.kindOf; rw [hs]; exact hy) (Calls.loadGlobal_global (by rw [hg]; exact hG) hm ?_) hyd
  refine PyProof.Rows.in_str ?_
  exact ⟨congrArg Value.bool (PySem.StrLaws.found_one z c), keeps_refl _⟩
section
variable {X : Cx} {pins : List (Addr × Obj)} {σ : L2.St} {H : Hp} {s : Shared}
theorem gen_over {c P : Addr} {elt iter : Expr} {x : Str} {px gpos : Pos} {sc : Scope} {pb : Nat → Bool} {te : TE} {k : Nat} {Z : Value → Shared → Prop} {R : Str → Hp → Prop}
    (hr : Room k X.A) (TB : GxR.TabB X.base X.mg c P) (hcd : X.env.code = .ref c) (S : GenS X.env sc x) (hi : PE X iter te) (hel : EltG X sc x elt pb) (hs : ∀ v, genFold iter X.env v = pure v) (I : Inv X pins σ H s)
    (hw : te σ H fun v H1 => ∃ a : Str, v = .str a ∧ GxR.TabG H1 P ∧ R a H1) (hZ : ∀ a H1 g u, R a H1 → Ready X pins σ H1 P a pb g u → Z (.ref g) u) :
    wpAny (model X.prog X.w) X.A (eval (.GeneratorExp elt [⟨.Name x px, iter, [], 0⟩] sc gpos) X.env) Z X.xe s := by
  refine wpAny_GeneratorExp_walksQ hr.hd S.co (closure_ok S.free) S.cell S.dot S.loc S.kind (by have := hr.dp; omega) ?_ hs
  refine thn (hi.run pins s σ H _ I hw) fun xv t1 ⟨v, H1, I1, r1, a, ev, ⟨ps, hP, tri⟩, q1⟩ => ?_
  subst ev
  obtain ⟨tk0, rfl⟩ := _root_.id r1
  refine wpAny_pyIter_str fun o St W hst => ?_
  have atP : t1.heap.get? P = some { cls := .none, data := .fields ps } := I1.hok P _ hP
  have ltP : P < t1.heap.objs.size := Heap.lt_size atP
  have atP2 : (t1.heap.push o).get? P = some { cls := .none, data := .fields ps } := Heap.get?_push_of_some _ atP
  have hd : PySem.W.CodeHd (t1.heap.push o) c P := TB.code.keeps fun b u e => Heap.get?_push_of_some _ (I1.bk b u e)
  have nolim : (t1.heap.push o).NoLimit := I1.nolimit.push o
  have GM : t1.heap.Ns mainGlobals X.mg := I1.mod.glob.keeps I1.bk
  have on : ∀ (code : Value) (g3 : Heap) (tk : Nat) (ps' : Array Value), Heap.ExtBut P (t1.heap.push o) g3 → (t1.heap.push o).objs.size ≤ g3.objs.size → g3.get? P = some { cls := .none, data := .fields ps' } → (∃ more, ps' = ps ++ more) → TriplesOk ps'.toList →
      wpAny (model X.prog X.w) X.A (builtinsFor X.env.globals X.env.builtins) (fun bi u =>
        ∃ J fp wr n0 Pf S0 pz F, Value.ref t1.heap.objs.size = .ref J ∧ (∀ B : Around, B.handled = none → Walks X.prog X.w B J fp wr n0 Pf S0) ∧ S0 0 u.heap ∧ (∀ b ∈ fp, b < u.heap.objs.size) ∧ u.heap.NoLimit ∧ cStatics ∉ wr ∧
          (∀ hf : Heap, (∀ b o, u.heap.get? b = some o → hf.get? b = some o) →
            QuietGen X.prog X.w (genEnv sc (cloFrom X.env.cells sc.names []) u.heap.objs.size code bi X.env) x [] elt (List.range u.heap.objs.size) wr Pf pz F hf) ∧
          (∀ a g5 tk gs, gs.bare = true → u.heap.objs.size < a → g5.objs.size = a + 1 → (∀ b o, u.heap.get? b = some o → g5.get? b = some o) →
            WalksS X.prog X.w X.A.in4 a (a :: u.heap.objs.size :: List.range u.heap.objs.size) (u.heap.objs.size :: wr) (GenOnlyQ u.gens.size) (passing pz n0 0).length
              (fun j y => ∃ i, (passing pz n0 0)[j]? = some i ∧ F i y) (GenAt X.prog X.w X.A.in4 a u.gens.size u.heap.objs.size (List.range u.heap.objs.size) wr pz n0 F) →
            GenAt X.prog X.w X.A.in4 a u.gens.size u.heap.objs.size (List.range u.heap.objs.size) wr pz n0 F 0 { u with gens := u.gens.push gs, toks := tk, heap := g5 } →
            Z (.ref a) { u with gens := u.gens.push gs, toks := tk, heap := g5 })) X.xe { t1 with heap := g3, toks := tk } := by
    intro code g3 tk ps' hx hsz atP3 hmore tri3
    obtain ⟨bm, ob, e1, e2, e3, e4, e5, e6, e7, e8⟩ := TB.bm
    have nST : cStatics ≠ P := fun e => by
      obtain ⟨_, ⟨o', es, ep, ho, hd, _⟩, _⟩ := I1.nolimit
      rw [e, atP] at ho
      cases ho
      cases hd
    have ltS : cStatics < t1.heap.objs.size := let ⟨_, hns, _⟩ := I1.nolimit; hns.lt
    have size2 : (t1.heap.push o).objs.size = t1.heap.objs.size + 1 := Heap.size_push ..
    have kept : ∀ b u, b ≠ P → t1.heap.get? b = some u → g3.get? b = some u := fun b u hb e => hx b u hb (Heap.get?_push_of_some _ e)
    refine wpAny_builtinsFor (m := X.mg) (by rw [I1.ok.glob]; exact (GM.push o).extBut hx TB.gP) e1 e2 (kept _ _ e4 (I1.bk _ _ e5)) e6 e7 e8 ?_
    refine ⟨t1.heap.objs.size, [t1.heap.objs.size], [t1.heap.objs.size], a.cps.size, SignAt a, St, (fun _ => true), (fun i y => ∃ d, a.cps[i]? = some d ∧ y = .bool (pb d)), rfl, W, ?_, ?_, nolim.extBut hx nST, ?_, ?_, ?_⟩
    · refine (W X.A hr.hd).frame _ _ _ hst fun b hb u e => hx b u (fun z => ?_) e
      have : b = t1.heap.objs.size := List.mem_singleton.mp hb
      rw [z] at this
      exact Nat.ne_of_lt ltP this
    · intro b hb
      rw [List.mem_singleton.mp hb]
      show t1.heap.objs.size < g3.objs.size
      omega
    · exact fun z => Nat.ne_of_lt ltS (List.mem_singleton.mp z)
    · intro hf hhf
      refine ⟨fun B F i v u m hA hPv hn hm hk => ?_, fun B F i v u m hA hPv hp hn hm hk => ?_⟩
      · simp only [List.forIn_nil]
        exact wpAny_pure ⟨rfl, keeps_refl _⟩
      · obtain ⟨d, t, hdd, rfl⟩ := hPv
        have GM2 : u.heap.Ns mainGlobals X.mg := by
          obtain ⟨og, es, ep, h1, h2⟩ := GM
          have lt1 := Heap.lt_size h1
          have h3 := kept _ _ TB.gP h1
          refine ⟨og, es, ep, hk mainGlobals (List.mem_range.mpr (Heap.lt_size h3)) (fun z => ?_) og (hhf _ _ h3), h2⟩
          exact Nat.ne_of_lt lt1 (List.mem_singleton.mp z)
        exact wpAny_mono (hel _ B F d t u m rfl I1.ok.glob GM2 hn hm) (fun y s3 r => ⟨⟨d, hdd, r.1⟩, r.2⟩) fun _ _ e => e
    · intro g g5 tk5 gs hgb hag hsz5 hk5 W5 hat
      simp only [GxR.passing_true, List.length_range] at W5
      refine hZ a H1 g _ q1 ⟨_, _, _, _, _, W5.in4_1, hat, ?_, fun u' hm => ?_⟩
      · intro j y uj Qj Ej hy hQj
        obtain ⟨i, hij, d, hdd, rfl⟩ := hy
        obtain ⟨hj, ej⟩ := List.getElem?_eq_some_iff.mp hij
        rw [List.getElem_range] at ej
        subst ej
        have h9 : a.cps.toList[j]? = some d := by rw [Array.getElem?_toList]; exact hdd
        have hQ2 : Qj (trF pb a.cps.toList j) uj := hQj
        rw [trF_some h9] at hQ2
        exact wpAny_truthy_bool hQ2
      · obtain ⟨more, em⟩ := hmore
        have nwr : ∀ b u, t1.heap.get? b = some u → b ∉ g3.objs.size :: [t1.heap.objs.size] := fun b u e hb => by
          have hl := Heap.lt_size e
          rcases List.mem_cons.mp hb with z | z
          · rw [z] at hl
            have h10 : (g3.objs.size : Nat) < t1.heap.objs.size := hl
            omega
          · rw [List.mem_singleton.mp z] at hl
            exact Nat.lt_irrefl _ hl
        have J := inv_tab (more := more) (h' := u'.heap) (g' := u'.gens) (d' := u'.drawn) (t' := u'.toks) I1 hP (fun b u hb e => hm.heap b u (nwr b u e) (hk5 b u (kept b u hb e)))
          (by rw [← em]; exact hm.heap P _ (nwr P _ atP) (hk5 P _ atP3)) (AllBare.movedS (I1.bare.push hgb) hm)
        rw [sh_eta t1 u' hm.os] at J
        exact ⟨upd H1 P (.tbl (ps ++ more)), ⟨⟨ps ++ more, upd_same, by rw [← em]; exact tri3⟩, fun b hb => upd_ne hb⟩, J⟩
  refine ⟨nolim, ?_⟩
  cases hf : codeAmong gpos ps.toList with
  | some cv =>
    refine wpAny_genexprCode_hit hcd (hd.code atP2 tri) hf ?_
    exact on cv (t1.heap.push o) t1.toks ps (Heap.ExtBut.refl _ _) (Nat.le_refl _) atP2 ⟨#[], by simp⟩ tri
  | none =>
    refine wpAny_genexprCodeX hcd (hd.code atP2 tri) (hd.tab atP2) hf fun c' h' tk hx hge hlt hco' _ htab' _ => ?_
    obtain ⟨_, _, _, _, _, _, _, _, _, _, _, _, _, _, _, _, _, _, _, htr, _⟩ := hco'
    exact on _ h' tk _ hx (Nat.le_trans hge (Nat.le_of_lt hlt)) htab'.2 ⟨_, rfl⟩ htr
/-- all(.. for x in e) -/
theorem pe_allG {c P : Addr} {elt iter : Expr} {x : Str} {px p pos gpos : Pos} {sc : Scope} {pb : Nat → Bool} {te : TE} {k : Nat}
    (hr : Room k X.A) (hg : Gl X "all") (hm : X.mg "all" = none) (hb : bootBuiltins "all" = some (.builtin "all")) (TB : GxR.TabB X.base X.mg c P) (hcd : X.env.code = .ref c) (S : GenS X.env sc x) (hi : PE X iter te) (hel : EltG X sc x elt pb)
    (hs : ∀ v, genFold iter X.env v = pure v)
    (he : starEach [.GeneratorExp elt [⟨.Name x px, iter, [], 0⟩] sc gpos] X.env = (false, eval (.GeneratorExp elt [⟨.Name x px, iter, [], 0⟩] sc gpos) X.env) :: starEach [] X.env := by rfl) :
    PE X (.Call (.Name "all" p) [.GeneratorExp elt [⟨.Name x px, iter, [], 0⟩] sc gpos] [] pos) (tAllS P pb te) := by
  refine ⟨fun pins s σ H Q I h => ?_⟩
  refine wpAny_Call_Name_kw (ld_blt I hg hm hb ?_)
  refine PyProof.Rows.callWith_builtin1 ?_ he (by rfl)
  rw [he]
  show wpAny _ _ (spliced ((false, eval (.GeneratorExp elt [⟨.Name x px, iter, [], 0⟩] sc gpos) X.env) :: backTo pos (starEach [] X.env))) _ _ s
  refine Calls.spliced_cons (gen_over (R := fun a H1 => ∀ H2, Tabbed P H1 H2 → Q (.bl (a.cps.toList.all pb)) H2) hr TB hcd S hi hel hs I h fun a H1 g u hR hG => ?_)
  obtain ⟨fp, wr, G, F, St, W, hst, htr, hI⟩ := hG
  refine Calls.spliced_nil ?_
  refine call_all_walkS (W.self 0 _ _ _ hst ⟨g, fp, wr, G, _, F, St, _, rfl, W, hst, htr, fun u' hmv => ?_⟩)
  obtain ⟨H2, hT, J⟩ := hI u' hmv
  refine ⟨.bl _, H2, J, rfl, ?_⟩
  rw [all_signs a pb]
  exact hR H2 hT
end
end BP

/-! D.get(k) of a dict of the module with texts as keys. Own work. -/
namespace BP
open PySem PySem.Spec PyProof.Rows L2
def tKGet (K : PySem.W.Frag) (d : Addr) (td ty : TE) : TE := fun σ H Q => td σ H fun x H1 => x = .ref d ∧ ty σ H1 fun y H2 => ∃ (z : Str) (r : Option Value) (v : V), y = .str z ∧ PySem.W.nsIn K d z = some r ∧ RelV v (r.getD .none) ∧ Q v H2
theorem pe_kget {X : Cx} {d : Addr} {es : Array DictEntry} {n : Nat} {o e : Expr} {apos cpos : Pos} {td ty : TE} (D : KDict X.K X.w d es n) (ho : PE X o td) (he : PE X e ty) (m : M1 X o "get" apos e cpos) :
    PE X (.Call (.Attribute o "get" apos) [e] [] cpos) (tKGet X.K d td ty) := by
  refine ⟨fun pins s σ H Q I h => ?_⟩
  refine wpAny_Call_method m.base m.few m.line PySem.F.plainAttrs_dict PySem.F.slot_dict_get PySem.F.type_dict_get (thn (ho.run pins s σ H _ I h) fun u t1 ⟨x, H1, I1, rx, ex, q1⟩ => ?_)
  subst ex
  obtain rfl : u = Value.ref d := rx
  refine ⟨kd_type D I1, fun b eb => ?_, ?_⟩
  · cases eb
    exact ⟨_, I1.kIn _ _ D.at_, rfl⟩
  rw [m.trees]
  refine Calls.callWith_builtin rfl (Calls.evalArgs_plain (Calls.spliced_cons (thn (he.run pins t1 σ H1 _ I1 q1) fun iv t2 ⟨y, H2, I2, ry, z, r, v, ey, hr, rv, q2⟩ => Calls.spliced_nil ?_)))
  subst ey
  obtain ⟨t, rfl⟩ := ry
  refine call_meetsIn PySem.F.slot_dict_get (kd_type D I2) PySem.F.entry_dict_get (PySem.F.args_dict_get_2 _ _) (meets_dict_get (PySem.strKind X.prog X.w) d (PySem.strKind_is X.prog X.w z t) D.low) ⟨_, PySem.W.mapOf_K (prog := X.prog) I2.kIn D.at_ D.lit, ?_⟩
  rw [PySem.W.find_K D.at_ hr]
  exact ⟨v, H2, I2.tok _, rv, q2⟩
end BP

/-! Lines, their parts, and what is read of them. Own work. -/
namespace BP
open PySem L2
/-- cut at each blank -/
def cutL : List Nat → List (List Nat)
  | [] => [[]]
  | c :: cs => if c = 32 then [] :: cutL cs else match cutL cs with
    | [] => [[c]]
    | p :: ps => (c :: p) :: ps
/-- glued by blanks -/
def glue : List (List Nat) → List Nat
  | [] => []
  | [p] => p
  | p :: q :: ps => p ++ 32 :: glue (q :: ps)
theorem cutL_cons (c : Nat) (cs : List Nat) : cutL (c :: cs) = if c = 32 then [] :: cutL cs else match cutL cs with
    | [] => [[c]]
    | p :: ps => (c :: p) :: ps := rfl
theorem cutL_ne : ∀ l, cutL l ≠ []
  | [] => by intro h; cases h
  | c :: cs => by
    unfold cutL
    by_cases h : c = 32
    · rw [if_pos h]; intro h; cases h
    · rw [if_neg h]
      cases cutL cs <;> intro h <;> cases h
theorem cutL_free : ∀ p : List Nat, 32 ∉ p → cutL p = [p]
  | [], _ => rfl
  | c :: cs, h => by
    have h1 : c ≠ 32 := fun z => h (by rw [z]; exact List.mem_cons_self)
    unfold cutL
    rw [if_neg h1, cutL_free cs fun z => h (List.mem_cons_of_mem _ z)]
theorem cutL_app : ∀ (p l : List Nat), 32 ∉ p → cutL (p ++ 32 :: l) = p :: cutL l
  | [], l, _ => by
    show cutL (32 :: l) = _
    unfold cutL
    rw [if_pos rfl]
    cases l <;> rfl
  | c :: cs, l, h => by
    have h1 : c ≠ 32 := fun z => h (by rw [z]; exact List.mem_cons_self)
    show cutL (c :: (cs ++ 32 :: l)) = _
    rw [cutL_cons, if_neg h1, cutL_app cs l fun z => h (List.mem_cons_of_mem _ z)]
theorem cutL_glue : ∀ ps : List (List Nat), ps ≠ [] → (∀ p ∈ ps, 32 ∉ p) → cutL (glue ps) = ps
  | [], h, _ => absurd rfl h
  | [p], _, h => cutL_free p (h p List.mem_cons_self)
  | p :: q :: ps, _, h => by
    show cutL (p ++ 32 :: glue (q :: ps)) = _
    rw [cutL_app p _ (h p List.mem_cons_self), cutL_glue (q :: ps) (by simp) fun r hr => h r (List.mem_cons_of_mem _ hr)]
theorem sp1 : (" " : Str) = ⟨#[32]⟩ := by decide +kernel
theorem join_glue : ∀ ys : List Str, (Str.join ⟨#[32]⟩ ys).cps.toList = glue (ys.map fun y => y.cps.toList)
  | [] => rfl
  | [y] => rfl
  | y :: z :: ys => by
    have ih := join_glue (z :: ys)
    show (y ++ ⟨#[32]⟩ ++ Str.join ⟨#[32]⟩ (z :: ys)).cps.toList = _
    rw [Str.cps_append, Str.cps_append, Array.toList_append, Array.toList_append, ih]
    show y.cps.toList ++ [32] ++ _ = y.cps.toList ++ 32 :: glue _
    rw [List.append_assoc]
    rfl
theorem split_cut (x : Str) : (Txt.split x " ").map (fun y => y.cps.toList) = cutL x.cps.toList := by
  have h1 := StrLaws.join_split x ⟨#[32]⟩
  have h2 := join_glue (Txt.split x ⟨#[32]⟩)
  rw [h1] at h2
  rw [h2, sp1]
  refine (cutL_glue _ ?_ ?_).symm
  · intro z
    have z := List.map_eq_nil_iff.mp z
    have := PyProof.Rows.split_pos x ⟨#[32]⟩
    rw [z] at this
    exact absurd this (by decide)
  · intro p hp
    obtain ⟨y, hy, e⟩ := List.mem_map.mp hp
    rw [← e]
    exact StrLaws.split_free x 32 y hy
/-- a number as it may be written -/
def okN (p : List Nat) : Bool := decide (1 ≤ p.length ∧ p.length ≤ 60) && p.all (fun c => decide (48 ≤ c ∧ c ≤ 57)) && !(decide (p.head? = some 48) && decide (p ≠ [48]))
/-- the seven words and how many numbers stand behind them -/
def manyOf (z : Str) : Option Nat := if z = "make" then some 2 else if z = "hold" then some 2 else if z = "drop" then some 1 else if z = "put" then some 3 else if z = "empty" then some 2 else if z = "take" then some 3 else if z = "tidy" then some 0 else none
/-- what is read of a line's parts: the word, and the numbers -/
def readP : List Str → Option (Str × List Nat)
  | [] => none
  | w :: ps => if manyOf w = some ps.length ∧ ∀ p ∈ ps, okN p.cps.toList = true then some (w, ps.map fun p => NumText.digitsVal p.cps.toList) else none
end BP

/-! A heap that has grown, but for the table of a def's code objects. Own work. -/
namespace BP
open PySem PySem.Spec PyProof.Rows L2
/-- H' holds all that H does, but the table at Pt may have grown -/
def Past (Pt : Addr) (H H' : Hp) : Prop := GxR.TabG H' Pt ∧ ∀ b o, b ≠ Pt → H b = some o → H' b = some o
section
variable {Pt : Addr} {H H' H'' : Hp}
theorem tab_ne {a : Addr} (T : GxR.TabG H Pt) (h : H a = none) : a ≠ Pt := fun z => by
  obtain ⟨ps, e, _⟩ := T
  rw [z, e] at h
  cases h
theorem tab_upd {a : Addr} {o : HO} (T : GxR.TabG H Pt) (h : a ≠ Pt) : GxR.TabG (upd H a o) Pt := by
  obtain ⟨ps, e, t⟩ := T
  exact ⟨ps, by rw [upd_ne h.symm]; exact e, t⟩
theorem Past.refl (T : GxR.TabG H Pt) : Past Pt H H := ⟨T, fun _ _ _ e => e⟩
theorem Past.new (p : Past Pt H H') {a : Addr} (h : H' a = none) (o : HO) : Past Pt H (upd H' a o) :=
  ⟨tab_upd p.1 (tab_ne p.1 h), fun b u n e => by rw [upd_ne (ne_of_none (p.2 b u n e) h)]; exact p.2 b u n e⟩
theorem Past.gone (p : Past Pt H H') (T : GxR.TabG H Pt) {a : Addr} (h : H' a = none) : H a = none := by
  cases e : H a with
  | none => rfl
  | some o =>
    by_cases n : a = Pt
    · exact absurd n (tab_ne p.1 h)
    · rw [p.2 a o n e] at h; cases h
theorem Past.set (p : Past Pt H H') {a : Addr} (T : GxR.TabG H Pt) (h : H a = none) (o : HO) : Past Pt H (upd H' a o) :=
  ⟨tab_upd p.1 (tab_ne T h), fun b u n e => by rw [upd_ne (ne_of_none e h)]; exact p.2 b u n e⟩
theorem Past.tab (p : Past Pt H H') (t : GxR.Tabbed Pt H' H'') : Past Pt H H'' := ⟨t.1, fun b o n e => by rw [t.2 b n]; exact p.2 b o n e⟩
theorem Past.trans (p : Past Pt H H') (q : Past Pt H' H'') : Past Pt H H'' := ⟨q.1, fun b o n e => q.2 b o n (p.2 b o n e)⟩
theorem tabbed_refl (T : GxR.TabG H Pt) : GxR.Tabbed Pt H H := ⟨T, fun _ _ => rfl⟩
end
/-- a def that lets errors out, its code object known -/
theorem okXC {P : Program} {w : World} {K : PySem.W.Frag} {mg : Str → Option Value} {base : Heap} {x qual : Str} {st : Stmt} {f c : Addr} {fd : FuncData} {N ps : List Str} {k : Nat} {sp : Sp} (F : Fun K x qual st f fd) (S : FnScope N ps (defScope st)) (hc : fd.code = .ref c)
    (len : ∀ vs H Q E, sp vs H Q E → vs.length = ps.length)
    (hb : ∀ (A : Around) (outer : List Env) (s : Shared) (H : Hp) (vs : List V) (Q : VK) (E : XK), Room k (A.deeper (envOfC qual (defScope st) s.heap.objs.size f (.ref c))) → sp vs H Q E →
      ∃ t, PSs (cxOf (L2.CX P w) P w K mg base N qual (defScope st) f (.ref c) A outer s H E) (defBody st) t ∧ t { nx := fun _ H' => Q .non H', rt := Q } (start N vs) H) : FnOk P w K mg base (L2.CX P w) (k + 1) f fd ps sp := by
  obtain ⟨oc, od, kV, doc, pm, an, cdv, ct, osl, rfl, lk, hcd⟩ := F.ex
  have e : cdv = .ref c := hc
  subst e
  exact fn_of lk hcd S len hb
/-- str(x) of a whole number or of a text -/
def rStrE : List V → Hp → VK → Prop := fun xs H Q => (∃ i, xs = [.int i] ∧ i.natAbs.log2 < 1920 ∧ Q (.str (toString i)) H) ∨ ∃ a, xs = [.str a] ∧ Q (.str a) H
theorem call_strE {X : Cx} : CallR X (.type "str") rStrE := fun pins s σ H xs us Q I r h => h.elim (fun h => call_str_int pins s σ H xs us Q I r h) fun h => SkE.call_str_str pins s σ H xs us Q I r h
end BP

/-! The pile as plain data: hands, boxes by number, the row of what waits to be let go. Own work; core Lean alone. -/
namespace BP

structure Bx where
  slots : List (Option Int)
  wt : Int
  sus : Bool
structure Pl where
  hands : List (Option Int)
  boxes : List (Int × Bx)
  made : Int

/-! ### boxes by number -/
def get (bs : List (Int × Bx)) (n : Int) : Option Bx := (bs.find? fun e => decide (e.1 = n)).map (·.2)
def chg (bs : List (Int × Bx)) (n : Int) (f : Bx → Bx) : List (Int × Bx) := bs.map fun e => if e.1 = n then (e.1, f e.2) else e
def rm (bs : List (Int × Bx)) (n : Int) : List (Int × Bx) := bs.filter fun e => decide (e.1 ≠ n)
def keys (bs : List (Int × Bx)) : List Int := bs.map (·.1)

theorem get_nil (n : Int) : get [] n = none := rfl
theorem get_cons (e : Int × Bx) (bs : List (Int × Bx)) (n : Int) : get (e :: bs) n = if e.1 = n then some e.2 else get bs n := by
  unfold get
  rw [List.find?_cons]
  by_cases h : e.1 = n
  · simp [h]
  · simp [h]
theorem get_chg (n m : Int) (f : Bx → Bx) : ∀ bs, get (chg bs n f) m = (get bs m).map fun b => if m = n then f b else b
  | [] => rfl
  | e :: bs => by
    have ih := get_chg n m f bs
    have e1 : chg (e :: bs) n f = (if e.1 = n then (e.1, f e.2) else e) :: chg bs n f := rfl
    rw [e1, get_cons, get_cons, ih]
    by_cases h : e.1 = n
    · rw [if_pos h]
      by_cases h2 : e.1 = m
      · have : m = n := h2.symm.trans h
        simp [h2, this]
      · simp [h2]
    · rw [if_neg h]
      by_cases h2 : e.1 = m
      · have : ¬ m = n := fun q => h (h2.trans q)
        simp [h2, this]
      · simp [h2]
theorem get_rm (n m : Int) : ∀ bs, get (rm bs n) m = if m = n then none else get bs m
  | [] => by simp [rm, get]
  | e :: bs => by
    have ih := get_rm n m bs
    by_cases h : e.1 = n
    · have e1 : rm (e :: bs) n = rm bs n := by unfold rm; simp [List.filter_cons, h]
      rw [e1, ih, get_cons]
      by_cases h2 : m = n
      · simp [h2]
      · have : ¬ e.1 = m := fun q => h2 (q.symm.trans h)
        simp [h2, this]
    · have e1 : rm (e :: bs) n = e :: rm bs n := by unfold rm; simp [List.filter_cons, h]
      rw [e1, get_cons, get_cons, ih]
      by_cases h2 : e.1 = m
      · have : ¬ m = n := fun q => h (h2.trans q)
        simp [h2, this]
      · simp [h2]
theorem get_snoc (n m : Int) (b : Bx) : ∀ bs, get (bs ++ [(n, b)]) m = (match get bs m with | some x => some x | none => if n = m then some b else none)
  | [] => by simp [get_cons, get_nil]
  | e :: bs => by
    have ih := get_snoc n m b bs
    rw [List.cons_append, get_cons, get_cons, ih]
    by_cases h2 : e.1 = m
    · simp [h2]
    · simp [h2]
theorem keys_chg (n : Int) (f : Bx → Bx) : ∀ bs, keys (chg bs n f) = keys bs
  | [] => rfl
  | e :: bs => by
    have ih := keys_chg n f bs
    have e1 : keys (chg (e :: bs) n f) = (if e.1 = n then (e.1, f e.2) else e).1 :: keys (chg bs n f) := rfl
    rw [e1, ih]
    by_cases h : e.1 = n <;> simp [h, keys]
theorem keys_rm (n : Int) (bs : List (Int × Bx)) : keys (rm bs n) = (keys bs).filter fun k => decide (k ≠ n) := by
  unfold keys rm
  rw [List.filter_map]
  rfl
theorem len_chg (n : Int) (f : Bx → Bx) (bs : List (Int × Bx)) : (chg bs n f).length = bs.length := List.length_map _
theorem len_rm (n : Int) (bs : List (Int × Bx)) : (rm bs n).length ≤ bs.length := List.length_filter_le _ _
theorem get_keys {bs : List (Int × Bx)} {n : Int} : (∃ b, get bs n = some b) ↔ n ∈ keys bs := by
  induction bs with
  | nil => simp [get_nil, keys]
  | cons e bs ih =>
    rw [get_cons]
    by_cases h : e.1 = n
    · simp [h, keys]
    · have : n ≠ e.1 := fun q => h q.symm
      simp only [if_neg h, ih]
      simp [keys, this]
theorem get_none {bs : List (Int × Bx)} {n : Int} : get bs n = none ↔ n ∉ keys bs := by
  rw [← get_keys]
  cases get bs n <;> simp
theorem get_mem {bs : List (Int × Bx)} {n : Int} {b : Bx} (h : get bs n = some b) : (n, b) ∈ bs := by
  induction bs with
  | nil => simp [get_nil] at h
  | cons e bs ih =>
    rw [get_cons] at h
    by_cases h1 : e.1 = n
    · rw [if_pos h1] at h
      have : e = (n, b) := by
        cases e
        simp at h1 h
        simp [h1, h]
      simp [this]
    · rw [if_neg h1] at h
      exact List.mem_cons_of_mem _ (ih h)
theorem mem_get {bs : List (Int × Bx)} {n : Int} {b : Bx} (hn : (keys bs).Nodup) (h : (n, b) ∈ bs) : get bs n = some b := by
  induction bs with
  | nil => simp at h
  | cons e bs ih =>
    rw [get_cons]
    have hn' : e.1 ∉ keys bs ∧ (keys bs).Nodup := by simpa [keys] using hn
    rcases List.mem_cons.mp h with h | h
    · subst h
      simp
    · have : ¬ e.1 = n := fun q => hn'.1 (by rw [q]; exact List.mem_map.mpr ⟨_, h, rfl⟩)
      rw [if_neg this]
      exact ih hn'.2 h
theorem nodup_lt {l : List Int} (h : l.Pairwise (· < ·)) : l.Nodup := h.imp fun h => Int.ne_of_lt h

/-! ### pointers counted -/
def cnt (l : List (Option Int)) (n : Int) : Nat := l.count (some n)
def one (x : Option Int) (n : Int) : Nat := if x = some n then 1 else 0
def scnt (bs : List (Int × Bx)) (n : Int) : Nat := (bs.map fun e => cnt e.2.slots n).sum
theorem cnt_nil (n : Int) : cnt [] n = 0 := rfl
theorem cnt_cons (x : Option Int) (l : List (Option Int)) (n : Int) : cnt (x :: l) n = one x n + cnt l n := by
  unfold cnt one
  rw [List.count_cons]
  by_cases h : x = some n
  · simp [h]; omega
  · simp [h]
theorem cnt_append (a b : List (Option Int)) (n : Int) : cnt (a ++ b) n = cnt a n + cnt b n := List.count_append
theorem cnt_set : ∀ {l : List (Option Int)} {i : Nat} {o : Option Int} (x : Option Int) (n : Int), l[i]? = some o → cnt (l.set i x) n + one o n = cnt l n + one x n
  | [], i, o, x, n, h => by simp at h
  | y :: l, 0, o, x, n, h => by
    have : y = o := by simpa using h
    subst this
    rw [List.set_cons_zero, cnt_cons, cnt_cons]
    omega
  | y :: l, i + 1, o, x, n, h => by
    have ih := cnt_set x n (show l[i]? = some o by simpa using h)
    rw [List.set_cons_succ, cnt_cons, cnt_cons]
    omega
theorem cnt_pos {l : List (Option Int)} {n : Int} : 0 < cnt l n ↔ some n ∈ l := by
  unfold cnt
  exact List.count_pos_iff
theorem cnt_none : ∀ (k : Nat) (n : Int), cnt (List.replicate k none) n = 0
  | 0, n => rfl
  | k + 1, n => by
    rw [List.replicate_succ, cnt_cons, cnt_none k n]
    simp [one]
theorem scnt_nil (n : Int) : scnt [] n = 0 := rfl
theorem scnt_cons (e : Int × Bx) (bs : List (Int × Bx)) (n : Int) : scnt (e :: bs) n = cnt e.2.slots n + scnt bs n := by simp [scnt]
theorem scnt_append (a b : List (Int × Bx)) (n : Int) : scnt (a ++ b) n = scnt a n + scnt b n := by simp [scnt]
theorem scnt_chg_same {k : Int} {f : Bx → Bx} (hf : ∀ b, (f b).slots = b.slots) (n : Int) : ∀ bs, scnt (chg bs k f) n = scnt bs n
  | [] => rfl
  | e :: bs => by
    have ih := scnt_chg_same (k := k) hf n bs
    have e1 : chg (e :: bs) k f = (if e.1 = k then (e.1, f e.2) else e) :: chg bs k f := rfl
    rw [e1, scnt_cons, scnt_cons, ih]
    by_cases h : e.1 = k
    · simp [h, hf]
    · simp [h]
theorem chg_no {k : Int} {f : Bx → Bx} : ∀ {bs : List (Int × Bx)}, k ∉ keys bs → chg bs k f = bs
  | [], _ => rfl
  | e :: bs, h => by
    have h' : k ≠ e.1 ∧ k ∉ keys bs := by simpa [keys] using h
    have e1 : chg (e :: bs) k f = (if e.1 = k then (e.1, f e.2) else e) :: chg bs k f := rfl
    rw [e1, chg_no h'.2, if_neg (fun q => h'.1 q.symm)]
theorem rm_no {k : Int} : ∀ {bs : List (Int × Bx)}, k ∉ keys bs → rm bs k = bs
  | [], _ => rfl
  | e :: bs, h => by
    have h' : k ≠ e.1 ∧ k ∉ keys bs := by simpa [keys] using h
    have e1 : rm (e :: bs) k = e :: rm bs k := by
      unfold rm
      have : ¬ e.1 = k := fun q => h'.1 q.symm
      simp [List.filter_cons, this]
    rw [e1, rm_no h'.2]
theorem scnt_chg {k : Int} {f : Bx → Bx} {b : Bx} (n : Int) : ∀ {bs : List (Int × Bx)}, (keys bs).Nodup → get bs k = some b → scnt (chg bs k f) n + cnt b.slots n = scnt bs n + cnt (f b).slots n
  | [], _, h => by simp [get_nil] at h
  | e :: bs, hn, h => by
    have hn' : e.1 ∉ keys bs ∧ (keys bs).Nodup := by simpa [keys] using hn
    have e1 : chg (e :: bs) k f = (if e.1 = k then (e.1, f e.2) else e) :: chg bs k f := rfl
    rw [get_cons] at h
    rw [e1, scnt_cons, scnt_cons]
    by_cases h1 : e.1 = k
    · rw [if_pos h1] at h
      have : e.2 = b := Option.some.inj h
      rw [if_pos h1, chg_no (by rw [← h1]; exact hn'.1), this]
      show cnt (f b).slots n + _ + _ = _
      omega
    · rw [if_neg h1] at h
      have ih := scnt_chg (f := f) n hn'.2 h
      rw [if_neg h1]
      omega
theorem scnt_rm {k : Int} {b : Bx} (n : Int) : ∀ {bs : List (Int × Bx)}, (keys bs).Nodup → get bs k = some b → scnt (rm bs k) n + cnt b.slots n = scnt bs n
  | [], _, h => by simp [get_nil] at h
  | e :: bs, hn, h => by
    have hn' : e.1 ∉ keys bs ∧ (keys bs).Nodup := by simpa [keys] using hn
    rw [get_cons] at h
    rw [scnt_cons]
    by_cases h1 : e.1 = k
    · rw [if_pos h1] at h
      have : e.2 = b := Option.some.inj h
      have e1 : rm (e :: bs) k = rm bs k := by unfold rm; simp [List.filter_cons, h1]
      rw [e1, rm_no (by rw [← h1]; exact hn'.1), this]
      omega
    · rw [if_neg h1] at h
      have ih := scnt_rm n hn'.2 h
      have e1 : rm (e :: bs) k = e :: rm bs k := by unfold rm; simp [List.filter_cons, h1]
      rw [e1, scnt_cons]
      omega
theorem scnt_le {bs : List (Int × Bx)} {k : Int} {b : Bx} (n : Int) (h : get bs k = some b) : cnt b.slots n ≤ scnt bs n := by
  induction bs with
  | nil => simp [get_nil] at h
  | cons e bs ih =>
    rw [get_cons] at h
    rw [scnt_cons]
    by_cases h1 : e.1 = k
    · rw [if_pos h1] at h
      have : e.2 = b := Option.some.inj h
      rw [this]
      omega
    · rw [if_neg h1] at h
      have := ih h
      omega

/-! ### what a step of letting go does -/
def room (bs : List (Int × Bx)) : Nat := (bs.map fun e => e.2.slots.length).sum
theorem room_cons (e : Int × Bx) (bs : List (Int × Bx)) : room (e :: bs) = e.2.slots.length + room bs := by simp [room]
theorem room_chg {k : Int} {f : Bx → Bx} (hf : ∀ b, (f b).slots.length = b.slots.length) : ∀ bs, room (chg bs k f) = room bs
  | [] => rfl
  | e :: bs => by
    have ih := room_chg (k := k) hf bs
    have e1 : chg (e :: bs) k f = (if e.1 = k then (e.1, f e.2) else e) :: chg bs k f := rfl
    rw [e1, room_cons, room_cons, ih]
    by_cases h : e.1 = k
    · simp [h, hf]
    · simp [h]
theorem room_rm {k : Int} {b : Bx} : ∀ {bs : List (Int × Bx)}, (keys bs).Nodup → get bs k = some b → room (rm bs k) + b.slots.length = room bs
  | [], _, h => by simp [get_nil] at h
  | e :: bs, hn, h => by
    have hn' : e.1 ∉ keys bs ∧ (keys bs).Nodup := by simpa [keys] using hn
    rw [get_cons] at h
    rw [room_cons]
    by_cases h1 : e.1 = k
    · rw [if_pos h1] at h
      have : e.2 = b := Option.some.inj h
      have e1 : rm (e :: bs) k = rm bs k := by unfold rm; simp [List.filter_cons, h1]
      rw [e1, rm_no (by rw [← h1]; exact hn'.1), this]
      omega
    · rw [if_neg h1] at h
      have ih := room_rm hn'.2 h
      have e1 : rm (e :: bs) k = e :: rm bs k := by unfold rm; simp [List.filter_cons, h1]
      rw [e1, room_cons]
      omega
theorem room_le {bs : List (Int × Bx)} (h : ∀ n b, get bs n = some b → b.slots.length ≤ 6) (hn : (keys bs).Nodup) : room bs ≤ 6 * bs.length := by
  have h' : ∀ e ∈ bs, e.2.slots.length ≤ 6 := fun e he => h e.1 e.2 (mem_get hn he)
  clear h hn
  induction bs with
  | nil => simp [room]
  | cons e bs ih =>
    rw [room_cons, List.length_cons]
    have := ih fun e he => h' e (List.mem_cons_of_mem _ he)
    have := h' e List.mem_cons_self
    omega

def low (b : Bx) : Bx := { b with wt := b.wt - 1, sus := true }
def bump (b : Bx) : Bx := { b with wt := b.wt + 1 }
/-- the first of the row is let go: the boxes behind it, what waits behind it, what is freed by it -/
def fall (bs : List (Int × Bx)) (w : List (Option Int)) : Option Int → List (Int × Bx) × List (Option Int) × List Int
  | none => (bs, w, [])
  | some n => match get bs n with
    | none => (bs, w, [])
    | some b => if b.wt = 1 then (rm bs n, w ++ b.slots, [n]) else (chg bs n low, w, [])
def go : Nat → List (Int × Bx) → List (Option Int) → List (Int × Bx) × List Int
  | 0, bs, _ => (bs, [])
  | _ + 1, bs, [] => (bs, [])
  | m + 1, bs, x :: w => ((go m (fall bs w x).1 (fall bs w x).2.1).1, (fall bs w x).2.2 ++ (go m (fall bs w x).1 (fall bs w x).2.1).2)
/-- all of the row is let go -/
def run (bs : List (Int × Bx)) (w : List (Option Int)) : List (Int × Bx) × List Int := go (w.length + room bs) bs w

/-- weights are right, with the pointers of the row w counted too -/
structure Wf (P : Pl) (w : List (Option Int)) : Prop where
  hl : P.hands.length = 8
  ks : (keys P.boxes).Pairwise (· < ·)
  lo : ∀ n, n ∈ keys P.boxes → 0 ≤ n ∧ n < P.made
  few : P.boxes.length ≤ 60
  sl : ∀ n b, get P.boxes n = some b → b.slots.length ≤ 6
  wt : ∀ n b, get P.boxes n = some b → b.wt = ((cnt P.hands n + scnt P.boxes n + cnt w n : Nat) : Int) ∧ 1 ≤ b.wt
  cl : ∀ n, 0 < cnt P.hands n + scnt P.boxes n + cnt w n → ∃ b, get P.boxes n = some b
  m0 : 0 ≤ P.made
theorem Wf.nd {P : Pl} {w : List (Option Int)} (h : Wf P w) : (keys P.boxes).Nodup := nodup_lt h.ks

/-- one step keeps the weights right; the measure falls by one -/
theorem fall_ok {P : Pl} {x : Option Int} {w : List (Option Int)} (h : Wf P (x :: w)) :
    Wf { P with boxes := (fall P.boxes w x).1 } (fall P.boxes w x).2.1 ∧ (fall P.boxes w x).2.1.length + room (fall P.boxes w x).1 = w.length + room P.boxes := by
  cases x with
  | none =>
    have c0 : ∀ n, cnt (none :: w) n = cnt w n := fun n => by rw [cnt_cons]; simp [one]
    refine ⟨⟨h.hl, h.ks, h.lo, h.few, h.sl, fun n b e => ?_, fun n e => ?_, h.m0⟩, rfl⟩
    · have := h.wt n b e
      rw [c0] at this
      exact this
    · exact h.cl n (by rw [c0]; exact e)
  | some k =>
    have c0 : ∀ n, cnt (some k :: w) n = one (some k) n + cnt w n := fun n => cnt_cons _ _ _
    obtain ⟨b, hb⟩ := h.cl k (by rw [c0]; simp [one]; omega)
    obtain ⟨wb, w1⟩ := h.wt k b hb
    have nd := h.nd
    by_cases hw : b.wt = 1
    · have ef : fall P.boxes w (some k) = (rm P.boxes k, w ++ b.slots, [k]) := by
        show (match get P.boxes k with | none => _ | some b => _) = _
        rw [hb]
        show (if b.wt = 1 then _ else _) = _
        rw [if_pos hw]
      rw [ef]
      have o1 : one (some k) k = 1 := by simp [one]
      have z : cnt P.hands k + scnt P.boxes k + cnt w k = 0 := by
        rw [hw, c0, o1] at wb
        omega
      have sc : ∀ n, scnt (rm P.boxes k) n + cnt b.slots n = scnt P.boxes n := fun n => scnt_rm n nd hb
      refine ⟨⟨h.hl, ?_, fun n hn => ?_, Nat.le_trans (len_rm _ _) h.few, fun n c e => ?_, fun n c e => ?_, fun n e => ?_, h.m0⟩, ?_⟩
      · show (keys (rm P.boxes k)).Pairwise _
        rw [keys_rm]
        exact h.ks.filter _
      · have hn' : n ∈ keys (rm P.boxes k) := hn
        rw [keys_rm] at hn'
        exact h.lo n (List.mem_filter.mp hn').1
      · have e' : get (rm P.boxes k) n = some c := e
        rw [get_rm] at e'
        by_cases q : n = k
        · rw [if_pos q] at e'; cases e'
        · rw [if_neg q] at e'
          exact h.sl n c e'
      · have e' : get (rm P.boxes k) n = some c := e
        rw [get_rm] at e'
        by_cases q : n = k
        · rw [if_pos q] at e'; cases e'
        · rw [if_neg q] at e'
          obtain ⟨w2, w3⟩ := h.wt n c e'
          refine ⟨?_, w3⟩
          have := sc n
          show c.wt = ((cnt P.hands n + scnt (rm P.boxes k) n + cnt (w ++ b.slots) n : Nat) : Int)
          have o0 : one (some k) n = 0 := by
            unfold one
            rw [if_neg (fun q2 => q (Option.some.inj q2).symm)]
          rw [c0, o0] at w2
          rw [cnt_append, w2]
          omega
      · have e' : 0 < cnt P.hands n + scnt (rm P.boxes k) n + cnt (w ++ b.slots) n := e
        rw [cnt_append] at e'
        have := sc n
        show ∃ b, get (rm P.boxes k) n = some b
        rw [get_rm]
        by_cases q : n = k
        · subst q
          omega
        · rw [if_neg q]
          exact h.cl n (by rw [c0]; omega)
      · show (w ++ b.slots).length + room (rm P.boxes k) = _
        rw [List.length_append]
        have := room_rm nd hb
        omega
    · have ef : fall P.boxes w (some k) = (chg P.boxes k low, w, []) := by
        show (match get P.boxes k with | none => _ | some b => _) = _
        rw [hb]
        show (if b.wt = 1 then _ else _) = _
        rw [if_neg hw]
      rw [ef]
      have sc : ∀ n, scnt (chg P.boxes k low) n = scnt P.boxes n := fun n => scnt_chg_same (f := low) (fun _ => rfl) n _
      refine ⟨⟨h.hl, ?_, fun n hn => ?_, ?_, fun n c e => ?_, fun n c e => ?_, fun n e => ?_, h.m0⟩, ?_⟩
      · show (keys (chg P.boxes k low)).Pairwise _
        rw [keys_chg]
        exact h.ks
      · have hn' : n ∈ keys (chg P.boxes k low) := hn
        rw [keys_chg] at hn'
        exact h.lo n hn'
      · show (chg P.boxes k low).length ≤ 60
        rw [len_chg]
        exact h.few
      · have e' : get (chg P.boxes k low) n = some c := e
        rw [get_chg] at e'
        cases g : get P.boxes n with
        | none => rw [g] at e'; cases e'
        | some d =>
          rw [g] at e'
          have e2 : (if n = k then low d else d) = c := Option.some.inj e'
          subst e2
          have := h.sl n d g
          by_cases q : n = k
          · rw [if_pos q]; exact this
          · rw [if_neg q]; exact this
      · have e' : get (chg P.boxes k low) n = some c := e
        rw [get_chg] at e'
        cases g : get P.boxes n with
        | none => rw [g] at e'; cases e'
        | some d =>
          rw [g] at e'
          have e2 : (if n = k then low d else d) = c := Option.some.inj e'
          subst e2
          obtain ⟨w2, w3⟩ := h.wt n d g
          show (if n = k then low d else d).wt = ((cnt P.hands n + scnt (chg P.boxes k low) n + cnt w n : Nat) : Int) ∧ _
          rw [sc n]
          by_cases q : n = k
          · subst q
            rw [if_pos rfl]
            have : d = b := Option.some.inj (g.symm.trans hb)
            subst this
            show d.wt - 1 = _ ∧ 1 ≤ d.wt - 1
            have o1 : one (some n) n = 1 := by simp [one]
            rw [c0, o1] at w2
            refine ⟨by omega, by omega⟩
          · rw [if_neg q]
            have o0 : one (some k) n = 0 := by
              unfold one
              rw [if_neg (fun q2 => q (Option.some.inj q2).symm)]
            rw [c0, o0] at w2
            exact ⟨by omega, w3⟩
      · have e' : 0 < cnt P.hands n + scnt (chg P.boxes k low) n + cnt w n := e
        rw [sc] at e'
        obtain ⟨c, hc⟩ := h.cl n (by rw [c0]; omega)
        show ∃ b, get (chg P.boxes k low) n = some b
        rw [get_chg, hc]
        exact ⟨_, rfl⟩
      · show w.length + room (chg P.boxes k low) = _
        rw [room_chg (f := low) (fun _ => rfl)]
theorem go_ok : ∀ {m : Nat} {P : Pl} {w : List (Option Int)}, Wf P w → w.length + room P.boxes = m → Wf { P with boxes := (go m P.boxes w).1 } []
  | 0, P, w, h, e => by
    have : w = [] := List.eq_nil_of_length_eq_zero (by omega)
    subst this
    exact h
  | m + 1, P, [], h, e => h
  | m + 1, P, x :: w, h, e => by
    obtain ⟨h1, e1⟩ := fall_ok h
    have := go_ok (m := m) h1 (by rw [List.length_cons] at e; show _ + room (fall P.boxes w x).1 = m; omega)
    exact this
theorem run_ok {P : Pl} {w : List (Option Int)} (h : Wf P w) : Wf { P with boxes := (run P.boxes w).1 } [] := go_ok h rfl

/-! ### a pointer becomes another one -/
def bumped (bs : List (Int × Bx)) : Option Int → List (Int × Bx)
  | none => bs
  | some n => chg bs n bump
def setSlot (s : Nat) (x : Option Int) (b : Bx) : Bx := { b with slots := b.slots.set s x }
def slotOf (bs : List (Int × Bx)) (n : Int) (s : Nat) : Option Int := match get bs n with
  | none => none
  | some b => b.slots.getD s none
/-- a hand points at x -/
def ptHand (P : Pl) (h : Nat) (x : Option Int) : Pl × List Int :=
  ({ P with hands := P.hands.set h x, boxes := (run (bumped P.boxes x) [P.hands.getD h none]).1 }, (run (bumped P.boxes x) [P.hands.getD h none]).2)
/-- a slot of the box n points at x -/
def ptSlot (P : Pl) (n : Int) (s : Nat) (x : Option Int) : Pl × List Int :=
  ({ P with boxes := (run (chg (bumped P.boxes x) n (setSlot s x)) [slotOf P.boxes n s]).1 }, (run (chg (bumped P.boxes x) n (setSlot s x)) [slotOf P.boxes n s]).2)
/-- a new box stands there, at which nothing points -/
def born (P : Pl) (size : Nat) : Pl := { P with boxes := P.boxes ++ [(P.made, ⟨List.replicate size none, 0, false⟩)], made := P.made + 1 }
def mk (P : Pl) (h size : Nat) : Pl × List Int := ptHand (born P size) h (some P.made)

/-- weights are right, but that of x may be 0 yet -/
structure Pre (P : Pl) (x : Option Int) : Prop where
  hl : P.hands.length = 8
  ks : (keys P.boxes).Pairwise (· < ·)
  lo : ∀ n, n ∈ keys P.boxes → 0 ≤ n ∧ n < P.made
  few : P.boxes.length ≤ 60
  sl : ∀ n b, get P.boxes n = some b → b.slots.length ≤ 6
  wt : ∀ n b, get P.boxes n = some b → b.wt = ((cnt P.hands n + scnt P.boxes n : Nat) : Int) ∧ (1 ≤ b.wt ∨ x = some n)
  cl : ∀ n, 0 < cnt P.hands n + scnt P.boxes n → ∃ b, get P.boxes n = some b
  m0 : 0 ≤ P.made
  hx : ∀ n, x = some n → ∃ b, get P.boxes n = some b
theorem Wf.pre {P : Pl} {x : Option Int} (h : Wf P []) (hx : ∀ n, x = some n → ∃ b, get P.boxes n = some b) : Pre P x :=
  ⟨h.hl, h.ks, h.lo, h.few, h.sl, fun n b e => by
    obtain ⟨a, b⟩ := h.wt n b e
    exact ⟨a, .inl b⟩, fun n e => h.cl n e, h.m0, hx⟩
/-- what a hand holds is alive -/
theorem Wf.hand {P : Pl} {w : List (Option Int)} (h : Wf P w) {i : Nat} {n : Int} (e : P.hands.getD i none = some n) : ∃ b, get P.boxes n = some b := by
  refine h.cl n ?_
  have : some n ∈ P.hands := by
    rw [List.getD_eq_getElem?_getD] at e
    cases q : P.hands[i]? with
    | none => rw [q] at e; cases e
    | some y =>
      rw [q] at e
      have : y = some n := e
      rw [← this]
      exact List.mem_of_getElem? q
  have := cnt_pos.mpr this
  omega
theorem Wf.slot {P : Pl} {w : List (Option Int)} (h : Wf P w) {k : Int} {b : Bx} {i : Nat} {n : Int} (hb : get P.boxes k = some b) (e : b.slots.getD i none = some n) : ∃ b, get P.boxes n = some b := by
  refine h.cl n ?_
  have : some n ∈ b.slots := by
    rw [List.getD_eq_getElem?_getD] at e
    cases q : b.slots[i]? with
    | none => rw [q] at e; cases e
    | some y =>
      rw [q] at e
      have : y = some n := e
      rw [← this]
      exact List.mem_of_getElem? q
  have h1 := cnt_pos.mpr this
  have h2 := scnt_le n hb
  omega
theorem get_bumped {bs : List (Int × Bx)} {x : Option Int} {n : Int} : get (bumped bs x) n = (get bs n).map fun b => if x = some n then bump b else b := by
  cases x with
  | none =>
    show get bs n = _
    cases get bs n <;> simp
  | some k =>
    show get (chg bs k bump) n = _
    rw [get_chg]
    cases get bs n with
    | none => rfl
    | some b =>
      by_cases q : n = k
      · simp [q]
      · have : ¬ (some k = some n) := fun z => q (Option.some.inj z).symm
        simp [q, this]
theorem keys_bumped {bs : List (Int × Bx)} {x : Option Int} : keys (bumped bs x) = keys bs := by
  cases x with
  | none => rfl
  | some k => exact keys_chg _ _ _
theorem len_bumped {bs : List (Int × Bx)} {x : Option Int} : (bumped bs x).length = bs.length := by
  cases x with
  | none => rfl
  | some k => exact len_chg _ _ _
theorem scnt_bumped {bs : List (Int × Bx)} {x : Option Int} (n : Int) : scnt (bumped bs x) n = scnt bs n := by
  cases x with
  | none => rfl
  | some k => exact scnt_chg_same (f := bump) (fun _ => rfl) n _
theorem room_bumped {bs : List (Int × Bx)} {x : Option Int} : room (bumped bs x) = room bs := by
  cases x with
  | none => rfl
  | some k => exact room_chg (f := bump) (fun _ => rfl) _
theorem getD_some {l : List (Option Int)} {i : Nat} (h : i < l.length) : l[i]? = some (l.getD i none) := by
  rw [List.getD_eq_getElem?_getD, List.getElem?_eq_getElem h]
  rfl
/-- a hand is set: what it pointed at waits -/
theorem Pre.hand {P : Pl} {x : Option Int} (h : Pre P x) {i : Nat} (hi : i < 8) : Wf { P with hands := P.hands.set i x, boxes := bumped P.boxes x } [P.hands.getD i none] := by
  have hold := getD_some (l := P.hands) (i := i) (by rw [h.hl]; exact hi)
  have c1 : ∀ n, cnt (P.hands.set i x) n + one (P.hands.getD i none) n = cnt P.hands n + one x n := fun n => cnt_set x n hold
  have c2 : ∀ n, cnt [P.hands.getD i none] n = one (P.hands.getD i none) n := fun n => by rw [cnt_cons, cnt_nil]; rfl
  refine ⟨by show (P.hands.set i x).length = 8; rw [List.length_set]; exact h.hl, by show (keys (bumped P.boxes x)).Pairwise _; rw [keys_bumped]; exact h.ks, fun n hn => ?_, by show (bumped P.boxes x).length ≤ 60; rw [len_bumped]; exact h.few, fun n c e => ?_, fun n c e => ?_, fun n e => ?_, h.m0⟩
  · have hn' : n ∈ keys (bumped P.boxes x) := hn
    rw [keys_bumped] at hn'
    exact h.lo n hn'
  · have e' : get (bumped P.boxes x) n = some c := e
    rw [get_bumped] at e'
    cases g : get P.boxes n with
    | none => rw [g] at e'; cases e'
    | some d =>
      rw [g] at e'
      have e2 : (if x = some n then bump d else d) = c := Option.some.inj e'
      subst e2
      have := h.sl n d g
      by_cases q : x = some n
      · rw [if_pos q]; exact this
      · rw [if_neg q]; exact this
  · have e' : get (bumped P.boxes x) n = some c := e
    rw [get_bumped] at e'
    cases g : get P.boxes n with
    | none => rw [g] at e'; cases e'
    | some d =>
      rw [g] at e'
      have e2 : (if x = some n then bump d else d) = c := Option.some.inj e'
      subst e2
      obtain ⟨w2, w3⟩ := h.wt n d g
      show _ = ((cnt (P.hands.set i x) n + scnt (bumped P.boxes x) n + cnt [P.hands.getD i none] n : Nat) : Int) ∧ _
      rw [scnt_bumped, c2]
      have := c1 n
      by_cases q : x = some n
      · rw [if_pos q]
        have o1 : one x n = 1 := by simp [one, q]
        show d.wt + 1 = _ ∧ 1 ≤ d.wt + 1
        refine ⟨by omega, by omega⟩
      · rw [if_neg q]
        have o0 : one x n = 0 := by simp [one, q]
        refine ⟨by omega, w3.resolve_right q⟩
  · have e' : 0 < cnt (P.hands.set i x) n + scnt (bumped P.boxes x) n + cnt [P.hands.getD i none] n := e
    rw [scnt_bumped, c2] at e'
    have := c1 n
    show ∃ b, get (bumped P.boxes x) n = some b
    rw [get_bumped]
    have : ∃ b, get P.boxes n = some b := by
      by_cases q : x = some n
      · exact h.hx n q
      · have o0 : one x n = 0 := by simp [one, q]
        exact h.cl n (by omega)
    obtain ⟨b, hb⟩ := this
    rw [hb]
    exact ⟨_, rfl⟩
/-- a slot is set: what it pointed at waits -/
theorem Pre.slot {P : Pl} {x : Option Int} (h : Pre P x) {k : Int} {b : Bx} {i : Nat} (hb : get P.boxes k = some b) (hi : i < b.slots.length) :
    Wf { P with boxes := chg (bumped P.boxes x) k (setSlot i x) } [b.slots.getD i none] := by
  have hold := getD_some hi
  have nd : (keys P.boxes).Nodup := nodup_lt h.ks
  have c1 : ∀ n, cnt (b.slots.set i x) n + one (b.slots.getD i none) n = cnt b.slots n + one x n := fun n => cnt_set x n hold
  have c2 : ∀ n, cnt [b.slots.getD i none] n = one (b.slots.getD i none) n := fun n => by rw [cnt_cons, cnt_nil]; rfl
  have hb' : get (bumped P.boxes x) k = some (if x = some k then bump b else b) := by rw [get_bumped, hb]; rfl
  have hbs : (if x = some k then bump b else b).slots = b.slots := by
    by_cases q : x = some k
    · rw [if_pos q]; rfl
    · rw [if_neg q]
  have c3 : ∀ n, scnt (chg (bumped P.boxes x) k (setSlot i x)) n + cnt b.slots n = scnt P.boxes n + cnt (b.slots.set i x) n := fun n => by
    have := scnt_chg (f := setSlot i x) n (by rw [keys_bumped]; exact nd) hb'
    rw [scnt_bumped, hbs] at this
    have e : (setSlot i x (if x = some k then bump b else b)).slots = b.slots.set i x := by
      show (if x = some k then bump b else b).slots.set i x = _
      rw [hbs]
    rw [e] at this
    exact this
  have gg : ∀ n, get (chg (bumped P.boxes x) k (setSlot i x)) n = (get P.boxes n).map fun d => if n = k then setSlot i x (if x = some n then bump d else d) else (if x = some n then bump d else d) := fun n => by
    rw [get_chg, get_bumped]
    cases get P.boxes n <;> rfl
  have kk : keys (chg (bumped P.boxes x) k (setSlot i x)) = keys P.boxes := by rw [keys_chg, keys_bumped]
  refine ⟨h.hl, by show (keys (chg (bumped P.boxes x) k (setSlot i x))).Pairwise _; rw [kk]; exact h.ks, fun n hn => ?_, by show (chg (bumped P.boxes x) k (setSlot i x)).length ≤ 60; rw [len_chg, len_bumped]; exact h.few, fun n c e => ?_, fun n c e => ?_, fun n e => ?_, h.m0⟩
  · have hn' : n ∈ keys (chg (bumped P.boxes x) k (setSlot i x)) := hn
    rw [kk] at hn'
    exact h.lo n hn'
  · have e' : get (chg (bumped P.boxes x) k (setSlot i x)) n = some c := e
    rw [gg] at e'
    cases g : get P.boxes n with
    | none => rw [g] at e'; cases e'
    | some d =>
      rw [g] at e'
      have e2 : (if n = k then setSlot i x (if x = some n then bump d else d) else (if x = some n then bump d else d)) = c := Option.some.inj e'
      subst e2
      have := h.sl n d g
      have q : (if x = some n then bump d else d).slots = d.slots := by
        by_cases q : x = some n
        · rw [if_pos q]; rfl
        · rw [if_neg q]
      by_cases q2 : n = k
      · rw [if_pos q2]
        show ((if x = some n then bump d else d).slots.set i x).length ≤ 6
        rw [List.length_set, q]
        exact this
      · rw [if_neg q2, q]
        exact this
  · have e' : get (chg (bumped P.boxes x) k (setSlot i x)) n = some c := e
    rw [gg] at e'
    cases g : get P.boxes n with
    | none => rw [g] at e'; cases e'
    | some d =>
      rw [g] at e'
      have e2 : (if n = k then setSlot i x (if x = some n then bump d else d) else (if x = some n then bump d else d)) = c := Option.some.inj e'
      have wc : c.wt = (if x = some n then bump d else d).wt := by
        rw [← e2]
        by_cases q2 : n = k
        · rw [if_pos q2]; rfl
        · rw [if_neg q2]
      obtain ⟨w2, w3⟩ := h.wt n d g
      rw [wc]
      show _ = ((cnt P.hands n + scnt (chg (bumped P.boxes x) k (setSlot i x)) n + cnt [b.slots.getD i none] n : Nat) : Int) ∧ _
      rw [c2]
      have := c1 n
      have := c3 n
      by_cases q : x = some n
      · rw [if_pos q]
        have o1 : one x n = 1 := by simp [one, q]
        show d.wt + 1 = _ ∧ 1 ≤ d.wt + 1
        refine ⟨by omega, by omega⟩
      · rw [if_neg q]
        have o0 : one x n = 0 := by simp [one, q]
        refine ⟨by omega, w3.resolve_right q⟩
  · have e' : 0 < cnt P.hands n + scnt (chg (bumped P.boxes x) k (setSlot i x)) n + cnt [b.slots.getD i none] n := e
    rw [c2] at e'
    have := c1 n
    have := c3 n
    show ∃ b, get (chg (bumped P.boxes x) k (setSlot i x)) n = some b
    rw [gg]
    have : ∃ b, get P.boxes n = some b := by
      by_cases q : x = some n
      · exact h.hx n q
      · have o0 : one x n = 0 := by simp [one, q]
        exact h.cl n (by omega)
    obtain ⟨b, hb⟩ := this
    rw [hb]
    exact ⟨_, rfl⟩
theorem scnt_born (P : Pl) (size : Nat) (n : Int) : scnt (born P size).boxes n = scnt P.boxes n := by
  show scnt (P.boxes ++ _) n = _
  rw [scnt_append, scnt_cons, scnt_nil]
  show _ + (cnt (List.replicate size none) n + 0) = _
  rw [cnt_none]
  rfl
theorem get_born {P : Pl} {w : List (Option Int)} (h : Wf P w) (size : Nat) (n : Int) : get (born P size).boxes n = if n = P.made then some ⟨List.replicate size none, 0, false⟩ else get P.boxes n := by
  show get (P.boxes ++ _) n = _
  rw [get_snoc]
  by_cases q : n = P.made
  · have : get P.boxes n = none := get_none.mpr fun z => by have := (h.lo n z).2; omega
    rw [this]
    simp [q]
  · have : ¬ P.made = n := fun z => q z.symm
    rw [if_neg q]
    cases get P.boxes n <;> simp [this]
theorem Wf.born {P : Pl} (h : Wf P []) {size : Nat} (hs : size ≤ 6) (hf : P.boxes.length < 60) : Pre (born P size) (some P.made) := by
  have gm := get_born h size
  refine ⟨h.hl, ?_, fun n hn => ?_, ?_, fun n b e => ?_, fun n b e => ?_, fun n e => ?_, ?_, fun n e => ?_⟩
  · show (keys (P.boxes ++ _)).Pairwise _
    unfold keys
    rw [List.map_append, List.pairwise_append]
    refine ⟨h.ks, List.pairwise_singleton _ _, fun a ha b hb => ?_⟩
    have : b = P.made := by simpa using hb
    rw [this]
    exact (h.lo a ha).2
  · have hn' : n ∈ keys (P.boxes ++ [(P.made, _)]) := hn
    unfold keys at hn'
    rw [List.map_append, List.mem_append] at hn'
    have m0 := h.m0
    show 0 ≤ n ∧ n < P.made + 1
    rcases hn' with q | q
    · have := h.lo n q
      omega
    · have : n = P.made := by simpa using q
      omega
  · show (P.boxes ++ _).length ≤ 60
    rw [List.length_append]
    show P.boxes.length + 1 ≤ 60
    omega
  · rw [gm] at e
    by_cases q : n = P.made
    · rw [if_pos q] at e
      have := Option.some.inj e
      rw [← this]
      show (List.replicate size none).length ≤ 6
      rw [List.length_replicate]
      exact hs
    · rw [if_neg q] at e
      exact h.sl n b e
  · rw [gm] at e
    rw [scnt_born]
    show _ = ((cnt P.hands n + _ : Nat) : Int) ∧ _
    by_cases q : n = P.made
    · rw [if_pos q] at e
      have eb := Option.some.inj e
      refine ⟨?_, .inr (by rw [q])⟩
      rw [← eb]
      show (0 : Int) = _
      have : ¬ 0 < cnt P.hands n + scnt P.boxes n := fun z => by
        obtain ⟨c, hc⟩ := h.cl n z
        have := (h.lo n (get_keys.mp ⟨c, hc⟩)).2
        omega
      omega
    · rw [if_neg q] at e
      obtain ⟨a, c⟩ := h.wt n b e
      exact ⟨a, .inl c⟩
  · rw [scnt_born] at e
    have e' : 0 < cnt P.hands n + scnt P.boxes n := e
    obtain ⟨c, hc⟩ := h.cl n e'
    rw [gm]
    by_cases q : n = P.made
    · rw [if_pos q]; exact ⟨_, rfl⟩
    · rw [if_neg q]; exact ⟨c, hc⟩
  · have := h.m0
    show 0 ≤ P.made + 1
    omega
  · rw [gm, ← Option.some.inj e, if_pos rfl]
    exact ⟨_, rfl⟩
/-- the numbers of those that are suspects -/
def susp (P : Pl) : List Int := (keys P.boxes).filter fun n => match get P.boxes n with | none => false | some b => b.sus
theorem ptHand_ok {P : Pl} {x : Option Int} (h : Pre P x) {i : Nat} (hi : i < 8) : Wf (ptHand P i x).1 [] := run_ok (h.hand hi)
theorem ptSlot_ok {P : Pl} {x : Option Int} (h : Pre P x) {k : Int} {b : Bx} {i : Nat} (hb : get P.boxes k = some b) (hi : i < b.slots.length) : Wf (ptSlot P k i x).1 [] := by
  have e : slotOf P.boxes k i = b.slots.getD i none := by
    unfold slotOf
    rw [hb]
  have := run_ok (h.slot hb hi)
  rw [← e] at this
  exact this
theorem mk_ok {P : Pl} (h : Wf P []) {i size : Nat} (hi : i < 8) (hs : size ≤ 6) (hf : P.boxes.length < 60) : Wf (mk P i size).1 [] := ptHand_ok (h.born hs hf) hi
def pl0 : Pl := ⟨List.replicate 8 none, [], 0⟩
theorem wf0 : Wf pl0 [] := ⟨rfl, List.Pairwise.nil, fun n h => by simp [pl0, keys] at h, by decide, fun n b e => by simp [pl0, get_nil] at e, fun n b e => by simp [pl0, get_nil] at e, fun n e => by
  have h1 : cnt pl0.hands n = 0 := cnt_none 8 n
  have h2 : scnt pl0.boxes n = 0 := rfl
  rw [h1, h2, cnt_nil] at e
  omega, by decide⟩
end BP

/-! Piles whose slots are all empty. Own work; core Lean alone. -/
namespace BP
theorem go_nones : ∀ {m : Nat} {bs : List (Int × Bx)} {w : List (Option Int)}, (∀ x ∈ w, x = none) → go m bs w = (bs, [])
  | 0, bs, w, _ => rfl
  | m + 1, bs, [], _ => rfl
  | m + 1, bs, x :: w, h => by
    have e : x = none := h x List.mem_cons_self
    subst e
    show ((go m bs w).1, [] ++ (go m bs w).2) = (bs, [])
    rw [go_nones fun y hy => h y (List.mem_cons_of_mem _ hy)]
    rfl
theorem run_none (bs : List (Int × Bx)) : run bs [none] = (bs, []) := go_nones fun x hx => by simpa using hx
/-- a box without pointers of its own is let go -/
theorem run_some {bs : List (Int × Bx)} {n : Int} {b : Bx} (hb : get bs n = some b) (h0 : ∀ x ∈ b.slots, x = none) : run bs [some n] = if b.wt = 1 then (rm bs n, [n]) else (chg bs n low, []) := by
  show go (1 + room bs) bs [some n] = _
  rw [Nat.add_comm]
  show ((go (room bs) (fall bs [] (some n)).1 (fall bs [] (some n)).2.1).1, (fall bs [] (some n)).2.2 ++ (go (room bs) (fall bs [] (some n)).1 (fall bs [] (some n)).2.1).2) = _
  have ef : fall bs [] (some n) = if b.wt = 1 then (rm bs n, b.slots, [n]) else (chg bs n low, [], []) := by
    show (match get bs n with | none => _ | some b => _) = _
    rw [hb]
    rfl
  rw [ef]
  by_cases hw : b.wt = 1
  · rw [if_pos hw, if_pos hw, go_nones h0]
    rfl
  · rw [if_neg hw, if_neg hw, go_nones (fun x hx => by cases hx)]
    rfl
/-- all slots are empty -/
def Bare (P : Pl) : Prop := ∀ n b, get P.boxes n = some b → ∀ x ∈ b.slots, x = none
theorem cnt_nones {l : List (Option Int)} (h : ∀ x ∈ l, x = none) (n : Int) : cnt l n = 0 := by
  cases e : cnt l n with
  | zero => rfl
  | succ k =>
    have : 0 < cnt l n := by omega
    have := h _ (cnt_pos.mp this)
    cases this
theorem scnt_bare {bs : List (Int × Bx)} (hn : (keys bs).Nodup) (h : ∀ n b, get bs n = some b → ∀ x ∈ b.slots, x = none) (n : Int) : scnt bs n = 0 := by
  have h' : ∀ e ∈ bs, ∀ x ∈ e.2.slots, x = none := fun e he => h e.1 e.2 (mem_get hn he)
  clear h hn
  induction bs with
  | nil => rfl
  | cons e bs ih =>
    rw [scnt_cons, cnt_nones (h' e List.mem_cons_self), ih fun e he => h' e (List.mem_cons_of_mem _ he)]
theorem Bare.wt {P : Pl} (h : Bare P) (W : Wf P []) {n : Int} {b : Bx} (hb : get P.boxes n = some b) : b.wt = (cnt P.hands n : Int) ∧ 1 ≤ b.wt := by
  obtain ⟨a, c⟩ := W.wt n b hb
  rw [scnt_bare W.nd h n, cnt_nil] at a
  exact ⟨by omega, c⟩
theorem Bare.held {P : Pl} (h : Bare P) (W : Wf P []) (n : Int) : n ∈ keys P.boxes ↔ some n ∈ P.hands := by
  constructor
  · intro q
    obtain ⟨b, hb⟩ := get_keys.mpr q
    obtain ⟨a, c⟩ := h.wt W hb
    exact cnt_pos.mp (by omega)
  · intro q
    have := cnt_pos.mpr q
    exact get_keys.mp (W.cl n (by omega))
/-- what the hands hold, without the empty ones -/
def somes (hs : List (Option Int)) : List Int := hs.filterMap id
theorem mem_somes {hs : List (Option Int)} {n : Int} : n ∈ somes hs ↔ some n ∈ hs := by
  unfold somes
  rw [List.mem_filterMap]
  constructor
  · rintro ⟨x, hx, e⟩
    have : x = some n := e
    rw [← this]
    exact hx
  · intro h
    exact ⟨_, h, rfl⟩
theorem somes_len (hs : List (Option Int)) : (somes hs).length ≤ hs.length := List.length_filterMap_le _ _
theorem somes_cons (x : Option Int) (hs : List (Option Int)) : somes (x :: hs) = (match x with | none => somes hs | some n => n :: somes hs) := by
  cases x <;> rfl
theorem somes_append (a b : List (Option Int)) : somes (a ++ b) = somes a ++ somes b := List.filterMap_append
theorem count_somes (n : Int) : ∀ hs : List (Option Int), (somes hs).count n = cnt hs n
  | [] => rfl
  | x :: hs => by
    rw [somes_cons, cnt_cons, ← count_somes n hs]
    cases x with
    | none => simp [one]
    | some m =>
      show (m :: somes hs).count n = _
      rw [List.count_cons]
      by_cases q : m = n
      · simp [one, q]; omega
      · simp [one, q]
/-- as many alive as hands at most -/
theorem nodup_le {a : List Int} : ∀ {b : List Int}, a.Nodup → (∀ n ∈ a, n ∈ b) → a.length ≤ b.length := by
  induction a with
  | nil => intro b _ _; exact Nat.zero_le _
  | cons x a ih =>
    intro b hn h
    have hx := h x List.mem_cons_self
    have hn' := List.nodup_cons.mp hn
    have := ih (b := b.erase x) hn'.2 fun n q => (List.mem_erase_of_ne (fun z => hn'.1 (by rw [← z]; exact q))).mpr (h n (List.mem_cons_of_mem _ q))
    rw [List.length_erase_of_mem hx] at this
    have : 0 < b.length := List.length_pos_of_mem hx
    rw [List.length_cons]
    omega
theorem Bare.few {P : Pl} (h : Bare P) (W : Wf P []) : P.boxes.length ≤ 8 := by
  have e : (keys P.boxes).length = P.boxes.length := List.length_map _
  have h1 := nodup_le (b := somes P.hands) W.nd fun n q => mem_somes.mpr ((h.held W n).mp q)
  have h2 := somes_len P.hands
  rw [W.hl] at h2
  omega

/-! ### a box made -/
theorem Bare.born {P : Pl} (h : Bare P) (W : Wf P []) (size : Nat) : Bare (born P size) := fun n b e => by
  rw [get_born W size] at e
  by_cases q : n = P.made
  · rw [if_pos q] at e
    have := Option.some.inj e
    subst this
    intro x hx
    exact List.eq_of_mem_replicate hx
  · rw [if_neg q] at e
    exact h n b e
theorem slots_bumped {bs : List (Int × Bx)} {x : Option Int} (h : ∀ n b, get bs n = some b → ∀ y ∈ b.slots, y = none) : ∀ n b, get (bumped bs x) n = some b → ∀ y ∈ b.slots, y = none := fun n b e => by
  rw [get_bumped] at e
  cases g : get bs n with
  | none => rw [g] at e; cases e
  | some d =>
    rw [g] at e
    have e2 : (if x = some n then bump d else d) = b := Option.some.inj e
    subst e2
    have := h n d g
    by_cases q : x = some n
    · rw [if_pos q]; exact this
    · rw [if_neg q]; exact this
/-- a hand points at x: what becomes of the pile whose slots are empty -/
theorem ptHand_none {P : Pl} {h : Nat} {x : Option Int} (e : P.hands.getD h none = none) : ptHand P h x = ({ P with hands := P.hands.set h x, boxes := bumped P.boxes x }, []) := by
  unfold ptHand
  rw [e, run_none]
theorem ptHand_some {P : Pl} {h : Nat} {x : Option Int} {n : Int} {b : Bx} (B : Bare P) (e : P.hands.getD h none = some n) (hb : get P.boxes n = some b) :
    ptHand P h x = if (if x = some n then b.wt + 1 else b.wt) = 1 then ({ P with hands := P.hands.set h x, boxes := rm (bumped P.boxes x) n }, [n]) else ({ P with hands := P.hands.set h x, boxes := chg (bumped P.boxes x) n low }, []) := by
  have hb' : get (bumped P.boxes x) n = some (if x = some n then bump b else b) := by rw [get_bumped, hb]; rfl
  unfold ptHand
  rw [e, run_some hb' (slots_bumped B n _ hb')]
  have : (if x = some n then bump b else b).wt = (if x = some n then b.wt + 1 else b.wt) := by
    by_cases q : x = some n
    · rw [if_pos q, if_pos q]; rfl
    · rw [if_neg q, if_neg q]
  rw [this]
  by_cases q : (if x = some n then b.wt + 1 else b.wt) = 1
  · rw [if_pos q, if_pos q]
  · rw [if_neg q, if_neg q]
/-! ### each alive box is held once, none is a suspect -/
def lone : Option Int → List Int
  | none => []
  | some n => [n]
def One (P : Pl) : Prop := Bare P ∧ ∀ n b, get P.boxes n = some b → b.wt = 1 ∧ b.sus = false
theorem mk_one {P : Pl} (W : Wf P []) (O : One P) {h size : Nat} (hi : h < 8) (hs : size ≤ 6) :
    One (mk P h size).1 ∧ (mk P h size).1.hands = P.hands.set h (some P.made) ∧ (mk P h size).1.made = P.made + 1 ∧ (mk P h size).2 = lone (P.hands.getD h none) ∧
      get (mk P h size).1.boxes P.made = some ⟨List.replicate size none, 1, false⟩ := by
  have gb : ∀ n, get (bumped (born P size).boxes (some P.made)) n = if n = P.made then some ⟨List.replicate size none, 1, false⟩ else get P.boxes n := fun n => by
    rw [get_bumped, get_born W]
    by_cases q : n = P.made
    · rw [if_pos q, if_pos q, q]
      show some (if some P.made = some P.made then _ else _) = _
      rw [if_pos rfl]
      rfl
    · rw [if_neg q, if_neg q]
      cases get P.boxes n with
      | none => rfl
      | some b =>
        show some (if some P.made = some n then _ else _) = _
        rw [if_neg fun z => q (Option.some.inj z).symm]
  have one : ∀ n b, (if n = P.made then some (⟨List.replicate size none, 1, false⟩ : Bx) else get P.boxes n) = some b → (b.wt = 1 ∧ b.sus = false) ∧ ∀ x ∈ b.slots, x = none := fun n b e => by
    by_cases q : n = P.made
    · rw [if_pos q] at e
      have := Option.some.inj e
      subst this
      exact ⟨⟨rfl, rfl⟩, fun x hx => List.eq_of_mem_replicate hx⟩
    · rw [if_neg q] at e
      exact ⟨O.2 n b e, O.1 n b e⟩
  unfold mk
  cases e : P.hands.getD h none with
  | none =>
    rw [ptHand_none (P := born P size) e]
    refine ⟨⟨fun n b g => ?_, fun n b g => ?_⟩, rfl, rfl, rfl, ?_⟩
    · have g' := (gb n).symm.trans g
      exact (one n b g').2
    · have g' := (gb n).symm.trans g
      exact (one n b g').1
    · exact (gb P.made).trans (if_pos rfl)
  | some n =>
    obtain ⟨b, hb⟩ := W.hand e
    have nm : n ≠ P.made := fun z => by
      have := (W.lo n (get_keys.mp ⟨b, hb⟩)).2
      omega
    have hb' : get (born P size).boxes n = some b := by rw [get_born W, if_neg nm]; exact hb
    have nx : ¬ (some P.made = some n) := fun z => nm (Option.some.inj z).symm
    rw [ptHand_some (P := born P size) (Bare.born O.1 W size) e hb', if_neg nx, if_pos (O.2 n b hb).1]
    have gr : ∀ m, get (rm (bumped (born P size).boxes (some P.made)) n) m = if m = n then none else (if m = P.made then some ⟨List.replicate size none, 1, false⟩ else get P.boxes m) := fun m => by
      rw [get_rm, gb]
    refine ⟨⟨fun m c g => ?_, fun m c g => ?_⟩, rfl, rfl, rfl, ?_⟩
    · have g' := (gr m).symm.trans g
      by_cases q : m = n
      · rw [if_pos q] at g'; cases g'
      · rw [if_neg q] at g'
        exact (one m c g').2
    · have g' := (gr m).symm.trans g
      by_cases q : m = n
      · rw [if_pos q] at g'; cases g'
      · rw [if_neg q] at g'
        exact (one m c g').1
    · exact (gr P.made).trans (by rw [if_neg nm.symm, if_pos rfl])
theorem count_nodup {l : List Int} (h : l.Nodup) (n : Int) : l.count n = if n ∈ l then 1 else 0 := by
  by_cases q : n ∈ l
  · rw [if_pos q]
    have h1 := List.count_pos_iff.mpr q
    have h2 := List.nodup_iff_count.mp h n
    omega
  · rw [if_neg q]
    exact List.count_eq_zero.mpr q
/-- what is alive is what hands hold, each once -/
theorem One.perm {P : Pl} (W : Wf P []) (O : One P) : (somes P.hands).Perm (keys P.boxes) := by
  rw [List.perm_iff_count]
  intro n
  rw [count_somes, count_nodup W.nd]
  by_cases q : n ∈ keys P.boxes
  · rw [if_pos q]
    obtain ⟨b, hb⟩ := get_keys.mpr q
    have h1 := (O.1.wt W hb).1
    rw [(O.2 n b hb).1] at h1
    omega
  · rw [if_neg q]
    have := mt (O.1.held W n).mpr q
    cases e : cnt P.hands n with
    | zero => rfl
    | succ k => exact absurd (cnt_pos.mp (by omega)) this
theorem one0 : One pl0 := ⟨fun n b e => by simp [pl0, get_nil] at e, fun n b e => by simp [pl0, get_nil] at e⟩
end BP

/-! Two boxes that two hands hold for good. Own work; core Lean alone. -/
namespace BP
theorem run_stay {bs : List (Int × Bx)} {n : Int} {b : Bx} (hb : get bs n = some b) (hw : b.wt ≠ 1) : run bs [some n] = (chg bs n low, []) := by
  show go (1 + room bs) bs [some n] = _
  rw [Nat.add_comm]
  show ((go (room bs) (fall bs [] (some n)).1 (fall bs [] (some n)).2.1).1, (fall bs [] (some n)).2.2 ++ (go (room bs) (fall bs [] (some n)).1 (fall bs [] (some n)).2.1).2) = _
  have ef : fall bs [] (some n) = (chg bs n low, [], []) := by
    show (match get bs n with | none => _ | some b => _) = _
    rw [hb]
    show (if b.wt = 1 then _ else _) = _
    rw [if_neg hw]
  rw [ef, go_nones (fun x hx => by cases hx)]
  rfl
/-- the two boxes, by their slots -/
def Shape (bs : List (Int × Bx)) (s0 s1 : List (Option Int)) : Prop := ∃ b0 b1 : Bx, bs = [(0, b0), (1, b1)] ∧ b0.slots = s0 ∧ b1.slots = s1
theorem Shape.chg {bs : List (Int × Bx)} {s0 s1 : List (Option Int)} (h : Shape bs s0 s1) (n : Int) (f : Bx → Bx) (hf : ∀ b, (f b).slots = b.slots) : Shape (chg bs n f) s0 s1 := by
  obtain ⟨b0, b1, rfl, e0, e1⟩ := h
  refine ⟨if (0 : Int) = n then f b0 else b0, if (1 : Int) = n then f b1 else b1, ?_, ?_, ?_⟩
  · show [if (0 : Int) = n then (0, f b0) else (0, b0), if (1 : Int) = n then (1, f b1) else (1, b1)] = _
    by_cases q : (0 : Int) = n
    · by_cases q2 : (1 : Int) = n
      · omega
      · rw [if_pos q, if_pos q, if_neg q2, if_neg q2]
    · by_cases q2 : (1 : Int) = n
      · rw [if_neg q, if_neg q, if_pos q2, if_pos q2]
      · rw [if_neg q, if_neg q, if_neg q2, if_neg q2]
  · by_cases q : (0 : Int) = n
    · rw [if_pos q, hf]; exact e0
    · rw [if_neg q]; exact e0
  · by_cases q : (1 : Int) = n
    · rw [if_pos q, hf]; exact e1
    · rw [if_neg q]; exact e1
theorem Shape.bumped {bs : List (Int × Bx)} {s0 s1 : List (Option Int)} (h : Shape bs s0 s1) (x : Option Int) : Shape (bumped bs x) s0 s1 := by
  cases x with
  | none => exact h
  | some n => exact h.chg n bump fun _ => rfl
theorem Shape.low {bs : List (Int × Bx)} {s0 s1 : List (Option Int)} (h : Shape bs s0 s1) (n : Int) : Shape (BP.chg bs n BP.low) s0 s1 := h.chg n BP.low fun _ => rfl
theorem Shape.set {bs : List (Int × Bx)} {s0 s1 : List (Option Int)} (h : Shape bs s0 s1) (n : Int) (i : Nat) (x : Option Int) :
    Shape (BP.chg bs n (setSlot i x)) (if n = 0 then s0.set i x else s0) (if n = 1 then s1.set i x else s1) := by
  obtain ⟨b0, b1, rfl, rfl, rfl⟩ := h
  refine ⟨if (0 : Int) = n then setSlot i x b0 else b0, if (1 : Int) = n then setSlot i x b1 else b1, ?_, ?_, ?_⟩
  · show [if (0 : Int) = n then (0, setSlot i x b0) else (0, b0), if (1 : Int) = n then (1, setSlot i x b1) else (1, b1)] = _
    by_cases q : (0 : Int) = n
    · by_cases q2 : (1 : Int) = n
      · omega
      · rw [if_pos q, if_pos q, if_neg q2, if_neg q2]
    · by_cases q2 : (1 : Int) = n
      · rw [if_neg q, if_neg q, if_pos q2, if_pos q2]
      · rw [if_neg q, if_neg q, if_neg q2, if_neg q2]
  · by_cases q : (0 : Int) = n
    · rw [if_pos q, if_pos q.symm]; rfl
    · rw [if_neg q, if_neg fun z => q z.symm]
  · by_cases q : (1 : Int) = n
    · rw [if_pos q, if_pos q.symm]; rfl
    · rw [if_neg q, if_neg fun z => q z.symm]
theorem Shape.keys {bs : List (Int × Bx)} {s0 s1 : List (Option Int)} (h : Shape bs s0 s1) : keys bs = [0, 1] := by
  obtain ⟨b0, b1, rfl, _, _⟩ := h
  rfl
theorem Shape.get0 {bs : List (Int × Bx)} {s0 s1 : List (Option Int)} (h : Shape bs s0 s1) : ∃ b, get bs 0 = some b ∧ b.slots = s0 := by
  obtain ⟨b0, b1, rfl, e, _⟩ := h
  exact ⟨b0, rfl, e⟩
theorem Shape.get1 {bs : List (Int × Bx)} {s0 s1 : List (Option Int)} (h : Shape bs s0 s1) : ∃ b, get bs 1 = some b ∧ b.slots = s1 := by
  obtain ⟨b0, b1, rfl, _, e⟩ := h
  exact ⟨b1, rfl, e⟩
theorem Shape.scnt {bs : List (Int × Bx)} {s0 s1 : List (Option Int)} (h : Shape bs s0 s1) (n : Int) : scnt bs n = cnt s0 n + cnt s1 n := by
  obtain ⟨b0, b1, rfl, rfl, rfl⟩ := h
  rw [scnt_cons, scnt_cons, scnt_nil]
  rfl
/-- two boxes, held by hands 6 and 7 -/
structure Two (P : Pl) (s0 s1 : List (Option Int)) : Prop where
  wf : Wf P []
  sh : Shape P.boxes s0 s1
  h6 : P.hands.getD 6 none = some 0
  h7 : P.hands.getD 7 none = some 1
theorem Two.alive {P : Pl} {s0 s1 : List (Option Int)} (h : Two P s0 s1) {n : Int} {b : Bx} (hb : get P.boxes n = some b) : n = 0 ∨ n = 1 := by
  have := get_keys.mp ⟨b, hb⟩
  rw [h.sh.keys] at this
  simpa using this
theorem held67 {hs : List (Option Int)} (h6 : hs.getD 6 none = some 0) (h7 : hs.getD 7 none = some 1) {n : Int} (hn : n = 0 ∨ n = 1) : 1 ≤ cnt hs n := by
  have mem : ∀ i k, hs.getD i none = some k → some k ∈ hs := fun i k e => by
    rw [List.getD_eq_getElem?_getD] at e
    cases q : hs[i]? with
    | none => rw [q] at e; cases e
    | some y =>
      rw [q] at e
      have : y = some k := e
      rw [← this]
      exact List.mem_of_getElem? q
  rcases hn with rfl | rfl
  · exact cnt_pos.mpr (mem _ _ h6)
  · exact cnt_pos.mpr (mem _ _ h7)
/-- what is let go beside them is not freed -/
theorem two_run {P : Pl} {s0 s1 : List (Option Int)} {o : Option Int} (W : Wf P [o]) (sh : Shape P.boxes s0 s1) (h6 : P.hands.getD 6 none = some 0) (h7 : P.hands.getD 7 none = some 1) :
    Shape (run P.boxes [o]).1 s0 s1 ∧ (run P.boxes [o]).2 = [] := by
  cases o with
  | none =>
    rw [run_none]
    exact ⟨sh, rfl⟩
  | some n =>
    obtain ⟨b, hb⟩ := W.cl n (by rw [cnt_cons]; simp [one]; omega)
    have hn : n = 0 ∨ n = 1 := by
      have := get_keys.mp ⟨b, hb⟩
      rw [sh.keys] at this
      simpa using this
    have h1 := held67 h6 h7 hn
    have h2 := (W.wt n b hb).1
    rw [cnt_cons, cnt_nil] at h2
    have o1 : one (some n) n = 1 := by simp [one]
    rw [o1] at h2
    rw [run_stay hb (by omega)]
    exact ⟨sh.low n, rfl⟩
theorem getD_set_ne {l : List (Option Int)} {i j : Nat} {x : Option Int} (h : j ≠ i) : (l.set i x).getD j none = l.getD j none := by
  rw [List.getD_eq_getElem?_getD, List.getD_eq_getElem?_getD, List.getElem?_set_ne (fun q => h q.symm)]
theorem Two.hand {P : Pl} {s0 s1 : List (Option Int)} (h : Two P s0 s1) {i : Nat} (hi : i < 6) {x : Option Int} (hx : ∀ n, x = some n → ∃ b, get P.boxes n = some b) :
    Two (ptHand P i x).1 s0 s1 ∧ (ptHand P i x).2 = [] := by
  have pre := h.wf.pre hx
  have W := pre.hand (show i < 8 by omega)
  have e6 : (P.hands.set i x).getD 6 none = some 0 := by rw [getD_set_ne (by omega)]; exact h.h6
  have e7 : (P.hands.set i x).getD 7 none = some 1 := by rw [getD_set_ne (by omega)]; exact h.h7
  obtain ⟨a, b⟩ := two_run W (h.sh.bumped x) e6 e7
  exact ⟨⟨ptHand_ok pre (by omega), a, e6, e7⟩, b⟩
theorem Two.slot {P : Pl} {s0 s1 : List (Option Int)} (h : Two P s0 s1) {n : Int} {b : Bx} (hb : get P.boxes n = some b) {i : Nat} (hi : i < b.slots.length) {x : Option Int} (hx : ∀ n, x = some n → ∃ b, get P.boxes n = some b) :
    Two (ptSlot P n i x).1 (if n = 0 then s0.set i x else s0) (if n = 1 then s1.set i x else s1) ∧ (ptSlot P n i x).2 = [] := by
  have pre := h.wf.pre hx
  have W := pre.slot hb hi
  obtain ⟨a, c⟩ := two_run W ((h.sh.bumped x).set n i x) h.h6 h.h7
  have e : slotOf P.boxes n i = b.slots.getD i none := by
    unfold slotOf
    rw [hb]
  have W2 := ptSlot_ok pre hb hi
  unfold ptSlot at W2 ⊢
  rw [e] at W2 ⊢
  exact ⟨⟨W2, a, h.h6, h.h7⟩, c⟩
/-- the two are made -/
theorem two_made {a b : Nat} (ha : a ≤ 6) (hb : b ≤ 6) : Two (mk (mk pl0 6 a).1 7 b).1 (List.replicate a none) (List.replicate b none) ∧ (mk pl0 6 a).2 = [] ∧ (mk (mk pl0 6 a).1 7 b).2 = [] ∧
    (mk (mk pl0 6 a).1 7 b).1.hands = [none, none, none, none, none, none, some 0, some 1] := by
  have e1 : mk pl0 6 a = (⟨[none, none, none, none, none, none, some 0, none], [(0, ⟨List.replicate a none, 1, false⟩)], 1⟩, []) := by
    unfold mk
    rw [ptHand_none rfl]
    rfl
  have W1 := mk_ok wf0 (i := 6) (size := a) (by decide) ha (by decide)
  have e2 : mk (mk pl0 6 a).1 7 b = (⟨[none, none, none, none, none, none, some 0, some 1], [(0, ⟨List.replicate a none, 1, false⟩), (1, ⟨List.replicate b none, 1, false⟩)], 2⟩, []) := by
    rw [e1]
    unfold mk
    rw [ptHand_none rfl]
    rfl
  have W2 := mk_ok W1 (i := 7) (size := b) (by decide) hb (by rw [e1]; show 1 < 60; omega)
  refine ⟨⟨W2, ?_, ?_, ?_⟩, by rw [e1], by rw [e2], by rw [e2]⟩
  · rw [e2]; exact ⟨_, _, rfl, rfl, rfl⟩
  · rw [e2]; rfl
  · rw [e2]; rfl
end BP

/-! Hands that hold boxes without pointers: what a deed frees, who is a suspect. Own work; core Lean alone. -/
namespace BP
/-- what a hand lets go of is freed where no hand holds it any more -/
def gone (hs : List (Option Int)) : Option Int → List Int
  | none => []
  | some n => if cnt hs n = 0 then [n] else []
theorem gone_sub {hs : List (Option Int)} {o : Option Int} {n : Int} : n ∈ gone hs o ↔ o = some n ∧ cnt hs n = 0 := by
  cases o with
  | none => simp [gone]
  | some m =>
    show (n ∈ if cnt hs m = 0 then [m] else []) ↔ _
    by_cases c : cnt hs m = 0
    · rw [if_pos c, List.mem_singleton]
      constructor
      · intro e; subst e; exact ⟨rfl, c⟩
      · rintro ⟨e, _⟩; exact (Option.some.inj e).symm
    · rw [if_neg c]
      constructor
      · intro e; cases e
      · rintro ⟨e, z⟩
        have : m = n := Option.some.inj e
        subst this
        exact absurd z c
/-- weights of boxes without pointers, the new one's too -/
theorem Pre.bareWt {P : Pl} {x : Option Int} (h : Pre P x) (B : Bare P) {n : Int} {b : Bx} (hb : get P.boxes n = some b) : b.wt = (cnt P.hands n : Int) := by
  have := (h.wt n b hb).1
  rw [scnt_bare (nodup_lt h.ks) B n] at this
  omega
structure HeldStep (P : Pl) (h : Nat) (x : Option Int) : Prop where
  bare : Bare (ptHand P h x).1
  hands : (ptHand P h x).1.hands = P.hands.set h x
  made : (ptHand P h x).1.made = P.made
  freed : (ptHand P h x).2 = gone (P.hands.set h x) (P.hands.getD h none)
  sus : ∀ m, (∃ b, get (ptHand P h x).1.boxes m = some b ∧ b.sus = true) ↔ (m ∉ gone (P.hands.set h x) (P.hands.getD h none) ∧ ((∃ b, get P.boxes m = some b ∧ b.sus = true) ∨ (P.hands.getD h none = some m)))
theorem heldStep {P : Pl} {x : Option Int} (B : Bare P) (h : Pre P x) {i : Nat} (hi : i < 8) : HeldStep P i x := by
  have gbs : ∀ m, get (bumped P.boxes x) m = (get P.boxes m).map fun b => if x = some m then bump b else b := fun m => get_bumped
  have sb : ∀ m b, get (bumped P.boxes x) m = some b → ∃ d, get P.boxes m = some d ∧ b.sus = d.sus ∧ b.slots = d.slots := fun m b e => by
    rw [gbs] at e
    cases g : get P.boxes m with
    | none => rw [g] at e; cases e
    | some d =>
      rw [g] at e
      have e2 : (if x = some m then bump d else d) = b := Option.some.inj e
      subst e2
      refine ⟨d, rfl, ?_⟩
      by_cases q : x = some m
      · rw [if_pos q]; exact ⟨rfl, rfl⟩
      · rw [if_neg q]; exact ⟨rfl, rfl⟩
  have sb2 : ∀ m d, get P.boxes m = some d → ∃ b, get (bumped P.boxes x) m = some b ∧ b.sus = d.sus := fun m d e => by
    rw [gbs, e]
    refine ⟨_, rfl, ?_⟩
    show (if x = some m then bump d else d).sus = d.sus
    by_cases q : x = some m
    · rw [if_pos q]; rfl
    · rw [if_neg q]
  have hold := getD_some (l := P.hands) (i := i) (by rw [h.hl]; exact hi)
  cases e : P.hands.getD i none with
  | none =>
    have ep := ptHand_none (P := P) (x := x) e
    rw [e] at hold
    refine ⟨?_, by rw [ep], by rw [ep], by rw [ep, e]; rfl, fun m => ?_⟩
    · rw [ep]
      intro n b g
      obtain ⟨d, hd, _, es⟩ := sb n b g
      rw [es]
      exact B n d hd
    · rw [ep, e]
      constructor
      · rintro ⟨b, g, s⟩
        obtain ⟨d, hd, es, _⟩ := sb m b g
        exact ⟨fun z => (by cases z), .inl ⟨d, hd, by rw [← es]; exact s⟩⟩
      · rintro ⟨_, z | z⟩
        · obtain ⟨d, hd, s⟩ := z
          obtain ⟨b, g, es⟩ := sb2 m d hd
          exact ⟨b, g, by rw [es]; exact s⟩
        · cases z
  | some n =>
    rw [e] at hold
    obtain ⟨b, hb⟩ : ∃ b, get P.boxes n = some b := h.cl n (by
      have : 0 < cnt P.hands n := cnt_pos.mpr (List.mem_of_getElem? hold)
      omega)
    have ep := ptHand_some (x := x) B e hb
    have ew := h.bareWt B hb
    have ec := cnt_set x n hold
    have o1 : one (some n) n = 1 := by simp [one]
    rw [o1] at ec
    have key : ((if x = some n then b.wt + 1 else b.wt) = 1) ↔ cnt (P.hands.set i x) n = 0 := by
      by_cases q : x = some n
      · rw [if_pos q]
        have : one x n = 1 := by simp [one, q]
        rw [this] at ec
        omega
      · rw [if_neg q]
        have : one x n = 0 := by simp [one, q]
        rw [this] at ec
        omega
    by_cases c : cnt (P.hands.set i x) n = 0
    · rw [if_pos (key.mpr c)] at ep
      have eg : gone (P.hands.set i x) (some n) = [n] := if_pos c
      refine ⟨?_, by rw [ep], by rw [ep], by rw [ep, e, eg], fun m => ?_⟩
      · rw [ep]
        intro m d g
        have g' : get (rm (bumped P.boxes x) n) m = some d := g
        rw [get_rm] at g'
        by_cases q : m = n
        · rw [if_pos q] at g'; cases g'
        · rw [if_neg q] at g'
          obtain ⟨d2, hd, _, es⟩ := sb m d g'
          rw [es]
          exact B m d2 hd
      · rw [ep, e, eg]
        constructor
        · rintro ⟨d, g, s⟩
          have g' : get (rm (bumped P.boxes x) n) m = some d := g
          rw [get_rm] at g'
          by_cases q : m = n
          · rw [if_pos q] at g'; cases g'
          · rw [if_neg q] at g'
            obtain ⟨d2, hd, es, _⟩ := sb m d g'
            exact ⟨fun z => q (List.mem_singleton.mp z), .inl ⟨d2, hd, by rw [← es]; exact s⟩⟩
        · rintro ⟨nm, z⟩
          have q : m ≠ n := fun z => nm (List.mem_singleton.mpr z)
          rcases z with ⟨d, hd, s⟩ | z
          · obtain ⟨d2, g, es⟩ := sb2 m d hd
            refine ⟨d2, ?_, by rw [es]; exact s⟩
            show get (rm (bumped P.boxes x) n) m = some d2
            rw [get_rm, if_neg q]
            exact g
          · exact absurd (Option.some.inj z).symm q
    · rw [if_neg (mt key.mp c)] at ep
      have eg : gone (P.hands.set i x) (some n) = [] := if_neg c
      refine ⟨?_, by rw [ep], by rw [ep], by rw [ep, e, eg], fun m => ?_⟩
      · rw [ep]
        intro m d g
        have g' : get (chg (bumped P.boxes x) n low) m = some d := g
        rw [get_chg] at g'
        cases g2 : get (bumped P.boxes x) m with
        | none => rw [g2] at g'; cases g'
        | some d2 =>
          rw [g2] at g'
          have e2 : (if m = n then low d2 else d2) = d := Option.some.inj g'
          obtain ⟨d3, hd, _, es⟩ := sb m d2 g2
          have : d.slots = d3.slots := by
            rw [← e2, ← es]
            by_cases q : m = n
            · rw [if_pos q]; rfl
            · rw [if_neg q]
          rw [this]
          exact B m d3 hd
      · rw [ep, e, eg]
        constructor
        · rintro ⟨d, g, s⟩
          have g' : get (chg (bumped P.boxes x) n low) m = some d := g
          rw [get_chg] at g'
          cases g2 : get (bumped P.boxes x) m with
          | none => rw [g2] at g'; cases g'
          | some d2 =>
            rw [g2] at g'
            have e2 : (if m = n then low d2 else d2) = d := Option.some.inj g'
            obtain ⟨d3, hd, es, _⟩ := sb m d2 g2
            refine ⟨fun z => (by cases z), ?_⟩
            by_cases q : m = n
            · exact .inr (by rw [q])
            · rw [if_neg q] at e2
              subst e2
              exact .inl ⟨d3, hd, by rw [← es]; exact s⟩
        · rintro ⟨_, z⟩
          have : ∃ d, get P.boxes m = some d ∧ (m = n ∨ d.sus = true) := by
            rcases z with ⟨d, hd, s⟩ | z
            · exact ⟨d, hd, .inr s⟩
            · have : n = m := Option.some.inj z
              subst this
              exact ⟨b, hb, .inl rfl⟩
          obtain ⟨d, hd, s⟩ := this
          obtain ⟨d2, g, es⟩ := sb2 m d hd
          refine ⟨if m = n then low d2 else d2, ?_, ?_⟩
          · show get (chg (bumped P.boxes x) n low) m = _
            rw [get_chg, g]
            rfl
          · by_cases q : m = n
            · rw [if_pos q]; rfl
            · rw [if_neg q, es]
              exact s.resolve_left q
/-- D names just the suspects, each once -/
def Doubt (D : List Int) (P : Pl) : Prop := D.Nodup ∧ ∀ n, n ∈ D ↔ ∃ b, get P.boxes n = some b ∧ b.sus = true
theorem doubt0 : Doubt [] pl0 := ⟨List.nodup_nil, fun n => ⟨fun h => (by cases h), fun ⟨b, e, _⟩ => by simp [pl0, get_nil] at e⟩⟩
theorem Doubt.born {D : List Int} {P : Pl} (h : Doubt D P) (W : Wf P []) (size : Nat) : Doubt D (born P size) := ⟨h.1, fun n => by
  rw [h.2 n]
  constructor
  · rintro ⟨b, hb, s⟩
    refine ⟨b, ?_, s⟩
    have : n ≠ P.made := fun z => by
      have := (W.lo n (get_keys.mp ⟨b, hb⟩)).2
      omega
    rw [get_born W, if_neg this]
    exact hb
  · rintro ⟨b, hb, s⟩
    rw [get_born W] at hb
    by_cases q : n = P.made
    · rw [if_pos q] at hb
      have := Option.some.inj hb
      rw [← this] at s
      cases s
    · rw [if_neg q] at hb
      exact ⟨b, hb, s⟩⟩
/-- how the law goes on with them: the old one comes to them, what is freed goes -/
def doubted (D : List Int) (hs : List (Option Int)) (o : Option Int) : List Int :=
  match o with
  | none => D
  | some n => if cnt hs n = 0 then D else if n ∈ D then D else D ++ [n]
theorem doubted_nodup {D : List Int} {hs : List (Option Int)} {o : Option Int} (h : D.Nodup) : (doubted D hs o).Nodup := by
  unfold doubted
  cases o with
  | none => exact h
  | some n =>
    show (if cnt hs n = 0 then D else if n ∈ D then D else D ++ [n]).Nodup
    by_cases c : cnt hs n = 0
    · rw [if_pos c]; exact h
    · rw [if_neg c]
      by_cases q : n ∈ D
      · rw [if_pos q]; exact h
      · rw [if_neg q, List.nodup_append]
        refine ⟨h, by simp, fun a ha b hb => ?_⟩
        have : b = n := by simpa using hb
        subst this
        exact fun z => q (by rw [← z]; exact ha)
theorem mem_doubted {D : List Int} {hs : List (Option Int)} {o : Option Int} {m : Int} : m ∈ doubted D hs o ↔ m ∈ D ∨ (o = some m ∧ cnt hs m ≠ 0) := by
  unfold doubted
  cases o with
  | none => simp
  | some n =>
    show m ∈ (if cnt hs n = 0 then D else if n ∈ D then D else D ++ [n]) ↔ _
    by_cases c : cnt hs n = 0
    · rw [if_pos c]
      constructor
      · exact .inl
      · rintro (z | ⟨z, y⟩)
        · exact z
        · have : n = m := Option.some.inj z
          subst this
          exact absurd c y
    · rw [if_neg c]
      by_cases q : n ∈ D
      · rw [if_pos q]
        constructor
        · exact .inl
        · rintro (z | ⟨z, y⟩)
          · exact z
          · have : n = m := Option.some.inj z
            subst this
            exact q
      · rw [if_neg q, List.mem_append, List.mem_singleton]
        constructor
        · rintro (z | z)
          · exact .inl z
          · subst z; exact .inr ⟨rfl, c⟩
        · rintro (z | ⟨z, y⟩)
          · exact .inl z
          · exact .inr (Option.some.inj z).symm
theorem Doubt.step {D : List Int} {P : Pl} {i : Nat} {x : Option Int} (h : Doubt D P) (S : HeldStep P i x) :
    Doubt ((doubted D (P.hands.set i x) (P.hands.getD i none)).filter fun n => decide (n ∉ gone (P.hands.set i x) (P.hands.getD i none))) (ptHand P i x).1 := by
  refine ⟨(doubted_nodup h.1).filter _, fun m => ?_⟩
  rw [S.sus m, List.mem_filter, mem_doubted, h.2 m, decide_eq_true_iff]
  constructor
  · rintro ⟨a | ⟨a, b⟩, c⟩
    · exact ⟨c, .inl a⟩
    · exact ⟨c, .inr a⟩
  · rintro ⟨c, a | a⟩
    · exact ⟨.inl a, c⟩
    · refine ⟨.inr ⟨a, fun z => c (gone_sub.mpr ⟨a, z⟩)⟩, c⟩
theorem mem_susp {P : Pl} {n : Int} : n ∈ susp P ↔ ∃ b, get P.boxes n = some b ∧ b.sus = true := by
  unfold susp
  rw [List.mem_filter]
  constructor
  · rintro ⟨_, e⟩
    cases g : get P.boxes n with
    | none => rw [g] at e; cases e
    | some b =>
      rw [g] at e
      exact ⟨b, rfl, e⟩
  · rintro ⟨b, g, s⟩
    refine ⟨get_keys.mp ⟨b, g⟩, ?_⟩
    rw [g]
    exact s
theorem susp_sorted {P : Pl} {w : List (Option Int)} (W : Wf P w) : (susp P).Pairwise (· < ·) := W.ks.filter _
theorem perm_of_mem {a b : List Int} (ha : a.Nodup) (hb : b.Nodup) (h : ∀ n, n ∈ a ↔ n ∈ b) : a.Perm b := by
  rw [List.perm_iff_count]
  intro n
  rw [count_nodup ha, count_nodup hb]
  by_cases q : n ∈ a
  · rw [if_pos q, if_pos ((h n).mp q)]
  · rw [if_neg q, if_neg (mt (h n).mpr q)]
theorem Doubt.perm {D : List Int} {P : Pl} {w : List (Option Int)} (h : Doubt D P) (W : Wf P w) : D.Perm (susp P) :=
  perm_of_mem h.1 (nodup_lt (susp_sorted W)) fun n => by rw [h.2 n, mem_susp]
theorem sorted_mem_eq {a b : List Int} (ha : a.Pairwise (· < ·)) (hb : b.Pairwise (· < ·)) (h : ∀ n, n ∈ a ↔ n ∈ b) : a = b :=
  (perm_of_mem (nodup_lt ha) (nodup_lt hb) h).eq_of_pairwise (fun x y _ _ h1 h2 => Int.le_antisymm h1 h2) (ha.imp fun h => Int.le_of_lt h) (hb.imp fun h => Int.le_of_lt h)
end BP

/-! Boxes numbered from 1 on, in whose making nothing is freed. Own work; core Lean alone. -/
namespace BP
/-- nothing is freed where the pointer let go is not the last one -/
theorem stay {S : Pl} {o : Option Int} (W : Wf S [o]) (ho : ∀ n, o = some n → 0 < cnt S.hands n + scnt S.boxes n) :
    (run S.boxes [o]).2 = [] ∧ ((run S.boxes [o]).1 = S.boxes ∨ ∃ n, (run S.boxes [o]).1 = chg S.boxes n low) := by
  cases o with
  | none =>
    rw [run_none]
    exact ⟨rfl, .inl rfl⟩
  | some n =>
    obtain ⟨b, hb⟩ := W.cl n (by rw [cnt_cons]; simp [one]; omega)
    have h1 := ho n rfl
    have h2 := (W.wt n b hb).1
    rw [cnt_cons, cnt_nil] at h2
    have o1 : one (some n) n = 1 := by simp [one]
    rw [o1] at h2
    rw [run_stay hb (by omega)]
    exact ⟨rfl, .inr ⟨n, rfl⟩⟩
/-- the boxes 1, 2, .. with the slots of the rows behind the first one -/
structure Rows (P : Pl) (rs : List (List (Option Int))) : Prop where
  wf : Wf P []
  made : P.made = (rs.length : Int)
  pos : 1 ≤ rs.length
  ks : ∀ n : Int, n ∈ keys P.boxes ↔ (1 ≤ n ∧ n < (rs.length : Int))
  sl : ∀ n b, get P.boxes n = some b → rs[n.toNat]? = some b.slots
/-- what stays where pointers' counts alone change -/
def Alike (as bs : List (Int × Bx)) : Prop := keys as = keys bs ∧ (∀ n b, get as n = some b → ∃ c, get bs n = some c ∧ c.slots = b.slots) ∧ ∀ n, scnt as n = scnt bs n
theorem Alike.refl (bs : List (Int × Bx)) : Alike bs bs := ⟨rfl, fun n b e => ⟨b, e, rfl⟩, fun _ => rfl⟩
theorem Alike.trans {a b c : List (Int × Bx)} (h : Alike a b) (k : Alike b c) : Alike a c := ⟨h.1.trans k.1, fun n x e => by
  obtain ⟨y, h1, e1⟩ := h.2.1 n x e
  obtain ⟨z, h2, e2⟩ := k.2.1 n y h1
  exact ⟨z, h2, e2.trans e1⟩, fun n => (h.2.2 n).trans (k.2.2 n)⟩
theorem alike_chg (bs : List (Int × Bx)) (n : Int) (f : Bx → Bx) (hf : ∀ b, (f b).slots = b.slots) : Alike (chg bs n f) bs := by
  refine ⟨keys_chg _ _ _, fun m b e => ?_, fun m => scnt_chg_same hf m bs⟩
  rw [get_chg] at e
  cases g : get bs m with
  | none => rw [g] at e; cases e
  | some d =>
    rw [g] at e
    have e2 : (if m = n then f d else d) = b := Option.some.inj e
    refine ⟨d, rfl, ?_⟩
    rw [← e2]
    by_cases q : m = n
    · rw [if_pos q, hf]
    · rw [if_neg q]
theorem alike_bumped (bs : List (Int × Bx)) (x : Option Int) : Alike (bumped bs x) bs := by
  cases x with
  | none => exact Alike.refl bs
  | some n => exact alike_chg bs n bump fun _ => rfl
theorem Rows.alike {P P' : Pl} {rs : List (List (Option Int))} (h : Rows P rs) (W : Wf P' []) (m : P'.made = P.made) (a : Alike P'.boxes P.boxes) : Rows P' rs :=
  ⟨W, m.trans h.made, h.pos, fun n => by rw [a.1]; exact h.ks n, fun n b e => by
    obtain ⟨c, hc, es⟩ := a.2.1 n b e
    rw [← es]
    exact h.sl n c hc⟩
theorem Rows.hand {P : Pl} {rs : List (List (Option Int))} (h : Rows P rs) {i : Nat} (hi : i < 8) {x : Option Int} (hx : ∀ n, x = some n → ∃ b, get P.boxes n = some b)
    (ho : ∀ n, P.hands.getD i none = some n → 0 < cnt (P.hands.set i x) n + scnt P.boxes n) :
    Rows (ptHand P i x).1 rs ∧ (ptHand P i x).2 = [] ∧ (ptHand P i x).1.hands = P.hands.set i x ∧ ∀ n, scnt (ptHand P i x).1.boxes n = scnt P.boxes n := by
  have pre := h.wf.pre hx
  have W := pre.hand hi
  obtain ⟨f, g⟩ := stay W fun n e => by
    show 0 < cnt (P.hands.set i x) n + scnt (bumped P.boxes x) n
    rw [scnt_bumped]
    exact ho n e
  have al : Alike (ptHand P i x).1.boxes P.boxes := by
    have ab := alike_bumped P.boxes x
    rcases g with g | ⟨n, g⟩
    · show Alike (run (bumped P.boxes x) [P.hands.getD i none]).1 P.boxes
      rw [show (run (bumped P.boxes x) [P.hands.getD i none]).1 = bumped P.boxes x from g]
      exact ab
    · show Alike (run (bumped P.boxes x) [P.hands.getD i none]).1 P.boxes
      rw [show (run (bumped P.boxes x) [P.hands.getD i none]).1 = chg (bumped P.boxes x) n low from g]
      exact (alike_chg _ n low fun _ => rfl).trans ab
  exact ⟨h.alike (ptHand_ok pre hi) rfl al, f, rfl, al.2.2⟩
theorem Rows.len {P : Pl} {rs : List (List (Option Int))} (h : Rows P rs) : P.boxes.length + 1 ≤ rs.length := by
  have e : (keys P.boxes).length = P.boxes.length := List.length_map _
  have := nodup_le (a := keys P.boxes) (b := (List.range (rs.length - 1)).map fun i => ((i : Nat) : Int) + 1) h.wf.nd fun n hn => by
    obtain ⟨a, b⟩ := (h.ks n).mp hn
    rw [List.mem_map]
    exact ⟨(n - 1).toNat, List.mem_range.mpr (by omega), by omega⟩
  rw [List.length_map, List.length_range] at this
  have := h.pos
  omega
theorem Rows.make {P : Pl} {rs : List (List (Option Int))} (h : Rows P rs) {i size : Nat} (hi : i < 8) (hs : size ≤ 6) (hl : rs.length ≤ 60) (hn : P.hands.getD i none = none) :
    Rows (BP.mk P i size).1 (rs ++ [List.replicate size none]) ∧ (BP.mk P i size).2 = [] ∧ (BP.mk P i size).1.hands = P.hands.set i (some P.made) ∧ ∀ n, scnt (BP.mk P i size).1.boxes n = scnt P.boxes n := by
  have few := h.len
  have W := mk_ok h.wf hi hs (by omega)
  have gb := get_born h.wf size
  have e : BP.mk P i size = ({ born P size with hands := P.hands.set i (some P.made), boxes := bumped (born P size).boxes (some P.made) }, []) := by
    unfold BP.mk
    exact ptHand_none hn
  have ab := alike_bumped (born P size).boxes (some P.made)
  have kb : keys (born P size).boxes = keys P.boxes ++ [P.made] := by
    show keys (P.boxes ++ _) = _
    unfold keys
    rw [List.map_append]
    rfl
  have hmade := h.made
  have hpos := h.pos
  rw [e] at W ⊢
  refine ⟨⟨W, ?_, by rw [List.length_append]; omega, fun n => ?_, fun n b g => ?_⟩, rfl, rfl, fun n => (ab.2.2 n).trans (scnt_born P size n)⟩
  · show P.made + 1 = _
    rw [List.length_append, List.length_singleton, hmade]
    rfl
  · show n ∈ keys (bumped (born P size).boxes (some P.made)) ↔ _
    rw [ab.1, kb, List.mem_append, h.ks n, List.mem_singleton, List.length_append, List.length_singleton, hmade]
    omega
  · obtain ⟨c, hc, es⟩ := ab.2.1 n b g
    rw [← es]
    rw [gb] at hc
    by_cases q : n = P.made
    · rw [if_pos q] at hc
      have := Option.some.inj hc
      subst this
      have : n.toNat = rs.length := by omega
      rw [this, List.getElem?_append_right (Nat.le_refl _), Nat.sub_self]
      rfl
    · rw [if_neg q] at hc
      have h1 := h.sl n c hc
      have := (List.getElem?_eq_some_iff.mp h1).1
      rw [List.getElem?_append_left this]
      exact h1
theorem Rows.get {P : Pl} {rs : List (List (Option Int))} (h : Rows P rs) {n : Int} (h1 : 1 ≤ n) (h2 : n < (rs.length : Int)) : ∃ b, get P.boxes n = some b ∧ rs[n.toNat]? = some b.slots := by
  obtain ⟨b, hb⟩ := get_keys.mpr ((h.ks n).mpr ⟨h1, h2⟩)
  exact ⟨b, hb, h.sl n b hb⟩
/-- a slot that points in a row counts -/
theorem Rows.points {P : Pl} {rs : List (List (Option Int))} (h : Rows P rs) {k : Nat} {row : List (Option Int)} (hk : 1 ≤ k) (hr : rs[k]? = some row) {n : Int} (hn : some n ∈ row) : 0 < scnt P.boxes n := by
  have hl := (List.getElem?_eq_some_iff.mp hr).1
  obtain ⟨b, hb, e⟩ := h.get (n := (k : Int)) (by omega) (by omega)
  have : b.slots = row := by
    have e' : rs[k]? = some b.slots := e
    exact Option.some.inj (e'.symm.trans hr)
  have h1 := cnt_pos.mpr hn
  have h2 := scnt_le n hb
  rw [this] at h2
  omega
theorem Rows.slot {P : Pl} {rs : List (List (Option Int))} (h : Rows P rs) {k : Int} {b : Bx} (hb : BP.get P.boxes k = some b) {i : Nat} (hi : i < b.slots.length) (h0 : b.slots.getD i none = none) {x : Option Int}
    (hx : ∀ n, x = some n → ∃ b, BP.get P.boxes n = some b) :
    Rows (ptSlot P k i x).1 (rs.set k.toNat (b.slots.set i x)) ∧ (ptSlot P k i x).2 = [] ∧ (ptSlot P k i x).1.hands = P.hands := by
  have pre := h.wf.pre hx
  have W := ptSlot_ok pre hb hi
  have e : slotOf P.boxes k i = none := by
    unfold slotOf
    rw [hb]
    exact h0
  have ep : ptSlot P k i x = ({ P with boxes := chg (bumped P.boxes x) k (setSlot i x) }, []) := by
    unfold ptSlot
    rw [e, run_none]
  rw [ep] at W ⊢
  have ab := alike_bumped P.boxes x
  have kr := (h.ks k).mp (get_keys.mp ⟨b, hb⟩)
  refine ⟨⟨W, by rw [List.length_set]; exact h.made, by rw [List.length_set]; exact h.pos, fun n => ?_, fun n c g => ?_⟩, rfl, rfl⟩
  · show n ∈ keys (chg (bumped P.boxes x) k (setSlot i x)) ↔ _
    rw [keys_chg, ab.1, List.length_set]
    exact h.ks n
  · have g' : BP.get (chg (bumped P.boxes x) k (setSlot i x)) n = some c := g
    rw [get_chg] at g'
    cases q : BP.get (bumped P.boxes x) n with
    | none => rw [q] at g'; cases g'
    | some d =>
      rw [q] at g'
      have e2 : (if n = k then setSlot i x d else d) = c := Option.some.inj g'
      obtain ⟨d2, hd, es⟩ := ab.2.1 n d q
      have h1 := h.sl n d2 hd
      have kn := (h.ks n).mp (get_keys.mp ⟨d2, hd⟩)
      by_cases qn : n = k
      · subst qn
        rw [if_pos rfl] at e2
        have : d2 = b := Option.some.inj (hd.symm.trans hb)
        subst this
        rw [List.getElem?_set_self (by omega), ← e2]
        show _ = some (d.slots.set i x)
        rw [← es]
      · rw [if_neg qn] at e2
        subst e2
        rw [List.getElem?_set_ne (by omega), h1, es]
def hd4 (h0 h1 h2 h3 : Option Int) : List (Option Int) := [h0, h1, h2, h3, none, none, none, none]
/-- a box made and let go at once -/
theorem rows0 : Rows (ptHand (BP.mk pl0 0 0).1 0 none).1 [[]] ∧ (ptHand (BP.mk pl0 0 0).1 0 none).1.hands = hd4 none none none none := by
  have W := ptHand_ok ((mk_ok wf0 (i := 0) (size := 0) (by decide) (by decide) (by decide)).pre (x := none) fun n e => by cases e) (i := 0) (by decide)
  have e : (ptHand (BP.mk pl0 0 0).1 0 none).1 = ⟨hd4 none none none none, [], 1⟩ := by
    have e1 : BP.mk pl0 0 0 = (⟨hd4 (some 0) none none none, [(0, ⟨[], 1, false⟩)], 1⟩, []) := by
      unfold BP.mk
      rw [ptHand_none rfl]
      rfl
    rw [e1]
    rfl
  rw [e] at W ⊢
  exact ⟨⟨W, rfl, Nat.le_refl _, fun n => ⟨fun h => (by cases h), fun ⟨a, b⟩ => (by have : (([[]] : List (List (Option Int))).length : Int) = 1 := rfl; omega)⟩, fun n b g => by cases g⟩, rfl⟩
theorem mem_set_none {l : List (Option Int)} {i : Nat} {x : Option Int} {t : Int} (h : some t ∈ l) (hi : i < l.length) (h0 : l.getD i none = none) : some t ∈ l.set i x := by
  obtain ⟨j, hj, e⟩ := List.mem_iff_getElem.mp h
  have hji : j ≠ i := fun z => by
    subst z
    rw [List.getD_eq_getElem?_getD, List.getElem?_eq_getElem hj, e] at h0
    cases h0
  exact List.mem_of_getElem? (i := j) (by rw [List.getElem?_set_ne fun z => hji z.symm, List.getElem?_eq_getElem hj, e])
end BP

/-! What falls, step by step. Own work; core Lean alone. -/
namespace BP
theorem fall_gone {bs : List (Int × Bx)} (w : List (Option Int)) {n : Int} (h : get bs n = none) : fall bs w (some n) = (bs, w, []) := by
  show (match get bs n with | none => (bs, w, []) | some b => if b.wt = 1 then (rm bs n, w ++ b.slots, [n]) else (chg bs n low, w, [])) = _
  rw [h]
theorem fall_free {bs : List (Int × Bx)} (w : List (Option Int)) {n : Int} {b : Bx} (h : get bs n = some b) (c : b.wt = 1) : fall bs w (some n) = (rm bs n, w ++ b.slots, [n]) := by
  show (match get bs n with | none => (bs, w, []) | some b => if b.wt = 1 then (rm bs n, w ++ b.slots, [n]) else (chg bs n low, w, [])) = _
  rw [h]
  exact if_pos c
theorem fall_low {bs : List (Int × Bx)} (w : List (Option Int)) {n : Int} {b : Bx} (h : get bs n = some b) (c : b.wt ≠ 1) : fall bs w (some n) = (chg bs n low, w, []) := by
  show (match get bs n with | none => (bs, w, []) | some b => if b.wt = 1 then (rm bs n, w ++ b.slots, [n]) else (chg bs n low, w, [])) = _
  rw [h]
  exact if_neg c
theorem filter_all (l : List Int) : l = l.filter fun n => decide (n ∉ ([] : List Int)) := (List.filter_eq_self.mpr fun n _ => by simp).symm
theorem fall_keys (bs : List (Int × Bx)) (w : List (Option Int)) (x : Option Int) : keys (fall bs w x).1 = (keys bs).filter fun n => decide (n ∉ (fall bs w x).2.2) := by
  cases x with
  | none => exact filter_all _
  | some n =>
    cases e : get bs n with
    | none => rw [fall_gone w e]; exact filter_all _
    | some b =>
      by_cases c : b.wt = 1
      · rw [fall_free w e c, keys_rm]
        simp
      · rw [fall_low w e c]
        show keys (chg bs n low) = _
        rw [keys_chg]
        exact filter_all _
theorem go_keys : ∀ (m : Nat) (bs : List (Int × Bx)) (w : List (Option Int)), keys (go m bs w).1 = (keys bs).filter fun n => decide (n ∉ (go m bs w).2)
  | 0, bs, w => filter_all _
  | m + 1, bs, [] => filter_all _
  | m + 1, bs, x :: w => by
    show keys (go m (fall bs w x).1 (fall bs w x).2.1).1 = (keys bs).filter fun n => decide (n ∉ (fall bs w x).2.2 ++ (go m (fall bs w x).1 (fall bs w x).2.1).2)
    rw [go_keys m, fall_keys, List.filter_filter]
    congr 1
    funext n
    simp [Bool.and_comm]
theorem fall_slots {bs : List (Int × Bx)} {w : List (Option Int)} {x : Option Int} {n : Int} {b : Bx} (h : get (fall bs w x).1 n = some b) : ∃ c, get bs n = some c ∧ c.slots = b.slots := by
  cases x with
  | none => exact ⟨b, h, rfl⟩
  | some k =>
    cases e : get bs k with
    | none =>
      rw [fall_gone w e] at h
      exact ⟨b, h, rfl⟩
    | some d =>
      by_cases c : d.wt = 1
      · rw [fall_free w e c] at h
        have h2 : get (rm bs k) n = some b := h
        rw [get_rm] at h2
        by_cases q : n = k
        · rw [if_pos q] at h2; cases h2
        · rw [if_neg q] at h2
          exact ⟨b, h2, rfl⟩
      · rw [fall_low w e c] at h
        exact (alike_chg bs k low fun _ => rfl).2.1 n b h
theorem go_slots : ∀ {m : Nat} {bs : List (Int × Bx)} {w : List (Option Int)} {n : Int} {b : Bx}, get (go m bs w).1 n = some b → ∃ c, get bs n = some c ∧ c.slots = b.slots
  | 0, bs, w, n, b, h => ⟨b, h, rfl⟩
  | m + 1, bs, [], n, b, h => ⟨b, h, rfl⟩
  | m + 1, bs, x :: w, n, b, h => by
    obtain ⟨c, h1, e1⟩ := go_slots (m := m) h
    obtain ⟨d, h2, e2⟩ := fall_slots h1
    exact ⟨d, h2, e2.trans e1⟩
/-- W tells the weights of the boxes -/
def Told (bs : List (Int × Bx)) (W : List Int) : Prop := ∀ n b, get bs n = some b → 0 ≤ n ∧ W[n.toNat]? = some b.wt
theorem Told.step {bs : List (Int × Bx)} {W : List Int} (h : Told bs W) {w : List (Option Int)} {n : Int} {b : Bx} (hb : get bs n = some b) : Told (fall bs w (some n)).1 (W.set n.toNat (b.wt - 1)) := by
  obtain ⟨n0, hn⟩ := h n b hb
  have hl := (List.getElem?_eq_some_iff.mp hn).1
  intro m c e
  have ef : (fall bs w (some n)).1 = if b.wt = 1 then rm bs n else chg bs n low := by
    by_cases q : b.wt = 1
    · rw [fall_free w hb q, if_pos q]
    · rw [fall_low w hb q, if_neg q]
  rw [ef] at e
  by_cases q : b.wt = 1
  · rw [if_pos q, get_rm] at e
    by_cases qm : m = n
    · rw [if_pos qm] at e; cases e
    · rw [if_neg qm] at e
      obtain ⟨m0, hm⟩ := h m c e
      exact ⟨m0, by rw [List.getElem?_set_ne (by omega)]; exact hm⟩
  · rw [if_neg q, get_chg] at e
    cases g : get bs m with
    | none => rw [g] at e; cases e
    | some d =>
      rw [g] at e
      have e2 : (if m = n then low d else d) = c := Option.some.inj e
      obtain ⟨m0, hm⟩ := h m d g
      by_cases qm : m = n
      · subst qm
        have : d = b := Option.some.inj (g.symm.trans hb)
        subst this
        rw [if_pos rfl] at e2
        refine ⟨m0, ?_⟩
        rw [List.getElem?_set_self hl, ← e2]
        rfl
      · rw [if_neg qm] at e2
        subst e2
        exact ⟨m0, by rw [List.getElem?_set_ne (by omega)]; exact hm⟩
theorem rm_len {k : Int} {b : Bx} : ∀ {bs : List (Int × Bx)}, (keys bs).Nodup → get bs k = some b → (rm bs k).length + 1 = bs.length
  | [], _, h => by simp [get_nil] at h
  | e :: bs, hn, h => by
    have hn' : e.1 ∉ keys bs ∧ (keys bs).Nodup := by simpa [keys] using hn
    rw [get_cons] at h
    by_cases h1 : e.1 = k
    · have e1 : rm (e :: bs) k = rm bs k := by unfold rm; simp [List.filter_cons, h1]
      rw [e1, rm_no (by rw [← h1]; exact hn'.1)]
      rfl
    · rw [if_neg h1] at h
      have ih := rm_len hn'.2 h
      have e1 : rm (e :: bs) k = e :: rm bs k := by unfold rm; simp [List.filter_cons, h1]
      rw [e1, List.length_cons, List.length_cons]
      omega
/-- where the fall stands: what waits is w, what has fallen is row, the weights told are W -/
structure FS (S : Pl) (fin : List (Int × Bx) × List Int) (rs : List (List (Option Int))) (bs : List (Int × Bx)) (w : List (Option Int)) (row W : List Int) : Prop where
  wf : Wf { S with boxes := bs } w
  e2 : row ++ (go (w.length + room bs) bs w).2 = fin.2
  e1 : (go (w.length + room bs) bs w).1 = fin.1
  told : Told bs W
  sl : ∀ n b, get bs n = some b → rs[n.toNat]? = some b.slots
  few : row.length + bs.length ≤ 60
theorem FS.next {S : Pl} {fin : List (Int × Bx) × List Int} {rs : List (List (Option Int))} {bs : List (Int × Bx)} {x : Option Int} {w : List (Option Int)} {row W W' : List Int} (h : FS S fin rs bs (x :: w) row W)
    (ht : Told (fall bs w x).1 W') (hf : (row ++ (fall bs w x).2.2).length + (fall bs w x).1.length ≤ 60) : FS S fin rs (fall bs w x).1 (fall bs w x).2.1 (row ++ (fall bs w x).2.2) W' := by
  obtain ⟨h1, h2'⟩ := fall_ok h.wf
  have h2 : (fall bs w x).2.1.length + room (fall bs w x).1 = w.length + room bs := h2'
  have em : (x :: w).length + room bs = (w.length + room bs) + 1 := by rw [List.length_cons]; omega
  have e2 := h.e2
  have e1 := h.e1
  rw [em] at e2 e1
  refine ⟨h1, ?_, ?_, ht, fun n b e => ?_, hf⟩
  · rw [h2, List.append_assoc]
    exact e2
  · rw [h2]
    exact e1
  · obtain ⟨c, hc, es⟩ := fall_slots e
    rw [← es]
    exact h.sl n c hc
theorem FS.skip {S : Pl} {fin : List (Int × Bx) × List Int} {rs : List (List (Option Int))} {bs : List (Int × Bx)} {w : List (Option Int)} {row W : List Int} (h : FS S fin rs bs (none :: w) row W) : FS S fin rs bs w row W := by
  have := h.next (W' := W) h.told (by rw [show (fall bs w none).2.2 = [] from rfl, List.append_nil]; exact h.few)
  rw [show (fall bs w none).2.2 = [] from rfl, List.append_nil] at this
  exact this
theorem FS.box {S : Pl} {fin : List (Int × Bx) × List Int} {rs : List (List (Option Int))} {bs : List (Int × Bx)} {n : Int} {w : List (Option Int)} {row W : List Int} (h : FS S fin rs bs (some n :: w) row W) : ∃ b, get bs n = some b :=
  h.wf.cl n (by rw [cnt_cons]; simp [one]; omega)
theorem FS.low {S : Pl} {fin : List (Int × Bx) × List Int} {rs : List (List (Option Int))} {bs : List (Int × Bx)} {n : Int} {b : Bx} {w : List (Option Int)} {row W : List Int} (h : FS S fin rs bs (some n :: w) row W) (hb : get bs n = some b) (c : b.wt ≠ 1) :
    FS S fin rs (chg bs n BP.low) w row (W.set n.toNat (b.wt - 1)) := by
  have ef := fall_low w hb c
  have := h.next (h.told.step (w := w) hb) (by rw [ef, len_chg, List.append_nil]; exact h.few)
  rw [ef, List.append_nil] at this
  exact this
theorem FS.free {S : Pl} {fin : List (Int × Bx) × List Int} {rs : List (List (Option Int))} {bs : List (Int × Bx)} {n : Int} {b : Bx} {w : List (Option Int)} {row W : List Int} (h : FS S fin rs bs (some n :: w) row W) (hb : get bs n = some b) (c : b.wt = 1) :
    FS S fin rs (rm bs n) (w ++ b.slots) (row ++ [n]) (W.set n.toNat (b.wt - 1)) ∧ (rm bs n).length + 1 = bs.length := by
  have ef := fall_free w hb c
  have hl : (rm bs n).length + 1 = bs.length := rm_len h.wf.nd hb
  have hf := h.few
  have := h.next (h.told.step (w := w) hb) (by rw [ef, List.length_append]; show row.length + 1 + (rm bs n).length ≤ 60; omega)
  rw [ef] at this
  exact ⟨this, hl⟩
/-- all pointers at n in the rows -/
def tot (rs : List (List (Option Int))) (n : Int) : Nat := (rs.map fun r => cnt r n).sum
theorem tot_nil (n : Int) : tot [] n = 0 := rfl
theorem tot_cons (r : List (Option Int)) (rs : List (List (Option Int))) (n : Int) : tot (r :: rs) n = cnt r n + tot rs n := by simp [tot]
theorem tot_append (a b : List (List (Option Int))) (n : Int) : tot (a ++ b) n = tot a n + tot b n := by simp [tot]
/-- the pointers at 0, 1, .. in the rows -/
def Wt (rs : List (List (Option Int))) (k : Nat) : List Int := (List.range k).map fun (n : Nat) => ((tot rs (n : Int) : Nat) : Int)
theorem Wt_len (rs : List (List (Option Int))) (k : Nat) : (Wt rs k).length = k := by unfold Wt; rw [List.length_map, List.length_range]
theorem Wt_get {rs : List (List (Option Int))} {k : Nat} {n : Int} (h0 : 0 ≤ n) (h1 : n < (k : Int)) : (Wt rs k)[n.toNat]? = some ((tot rs n : Nat) : Int) := by
  unfold Wt
  rw [List.getElem?_map, List.getElem?_range (by omega)]
  show some ((tot rs ((n.toNat : Nat) : Int) : Nat) : Int) = _
  rw [Int.toNat_of_nonneg h0]
theorem Wt_zero (k : Nat) : Wt [] k = List.replicate k 0 := by
  unfold Wt
  show (List.range k).map (fun _ => (0 : Int)) = _
  rw [List.map_const', List.length_range]
theorem Wt_congr {a b : List (List (Option Int))} {k : Nat} (h : ∀ n, tot a n = tot b n) : Wt a k = Wt b k := by
  unfold Wt
  exact List.map_congr_left fun n _ => by rw [h]
theorem Wt_more {a b : List (List (Option Int))} {k : Nat} {n : Int} (h0 : 0 ≤ n) (h1 : n < (k : Int)) (h : ∀ m, tot b m = tot a m + one (some n) m) : (Wt a k).set n.toNat (((tot a n : Nat) : Int) + 1) = Wt b k := by
  refine List.ext_getElem? fun i => ?_
  by_cases c : i < k
  · have hb : (Wt b k)[i]? = some ((tot b (i : Int) : Nat) : Int) := Wt_get (n := (i : Int)) (by omega) (by omega)
    have ha : (Wt a k)[i]? = some ((tot a (i : Int) : Nat) : Int) := Wt_get (n := (i : Int)) (by omega) (by omega)
    rw [hb, h]
    by_cases q : i = n.toNat
    · subst q
      rw [List.getElem?_set_self (by rw [Wt_len]; exact c), Int.toNat_of_nonneg h0]
      have : one (some n) n = 1 := by simp [one]
      rw [this]
      rfl
    · rw [List.getElem?_set_ne (by omega), ha]
      have : one (some n) (i : Int) = 0 := by
        unfold one
        rw [if_neg (fun z => q (by have := Option.some.inj z; omega))]
      rw [this]
      rfl
  · rw [List.getElem?_eq_none (by rw [List.length_set, Wt_len]; omega), List.getElem?_eq_none (by rw [Wt_len]; omega)]
theorem scnt_tot (bs : List (Int × Bx)) (n : Int) : scnt bs n = tot (bs.map fun e => e.2.slots) n := by
  unfold scnt tot
  rw [List.map_map]
  rfl
theorem Rows.list {P : Pl} {rs : List (List (Option Int))} (h : Rows P rs) : keys P.boxes = (List.range (rs.length - 1)).map fun i => ((i : Nat) : Int) + 1 := by
  refine sorted_mem_eq h.wf.ks ?_ fun n => ?_
  · rw [List.pairwise_map]
    exact List.pairwise_lt_range.imp fun h => by omega
  · have := h.pos
    rw [h.ks n, List.mem_map]
    constructor
    · rintro ⟨a, b⟩
      exact ⟨(n - 1).toNat, List.mem_range.mpr (by omega), by omega⟩
    · rintro ⟨i, hi, e⟩
      have := List.mem_range.mp hi
      omega
theorem Rows.tail {P : Pl} {rs : List (List (Option Int))} (h : Rows P rs) : P.boxes.map (fun e => e.2.slots) = rs.tail := by
  have hk := h.list
  have hpos := h.pos
  have hlen : P.boxes.length = rs.length - 1 := by
    have := congrArg List.length hk
    rw [List.length_map, List.length_range] at this
    rw [← this]
    exact (List.length_map _).symm
  refine List.ext_getElem? fun i => ?_
  rw [List.getElem?_map, List.getElem?_tail]
  by_cases c : i < P.boxes.length
  · rw [List.getElem?_eq_getElem c]
    have ek : (P.boxes[i]).1 = (i : Int) + 1 := by
      have e1 : (keys P.boxes)[i]? = some (P.boxes[i]).1 := by
        unfold keys
        rw [List.getElem?_map, List.getElem?_eq_getElem c]
        rfl
      rw [hk, List.getElem?_map, List.getElem?_range (by omega)] at e1
      exact (Option.some.inj e1).symm
    have hb := mem_get h.wf.nd (show ((P.boxes[i]).1, (P.boxes[i]).2) ∈ P.boxes from List.getElem_mem c)
    have := h.sl _ _ hb
    rw [ek] at this
    have e2 : ((i : Int) + 1).toNat = i + 1 := by omega
    rw [e2] at this
    rw [this]
    rfl
  · rw [List.getElem?_eq_none (by omega), List.getElem?_eq_none (by omega)]
    rfl
theorem Rows.scnt {P : Pl} {rs : List (List (Option Int))} (h : Rows P rs) (n : Int) : scnt P.boxes n = tot rs.tail n := by
  rw [scnt_tot, h.tail]
end BP

/-! What leads where: hands, suspects, and what waits; the trial. Own work; core Lean alone. -/
namespace BP
def Edge (bs : List (Int × Bx)) (a b : Int) : Prop := ∃ x, get bs a = some x ∧ some b ∈ x.slots
inductive Path (bs : List (Int × Bx)) : Int → Int → Prop
  | refl (n : Int) : Path bs n n
  | step {a b c : Int} : Edge bs a b → Path bs b c → Path bs a c
theorem Path.trans {bs : List (Int × Bx)} {a b c : Int} (h : Path bs a b) (k : Path bs b c) : Path bs a c := by
  induction h with
  | refl n => exact k
  | step e _ ih => exact .step e (ih k)
theorem Path.one {bs : List (Int × Bx)} {a b : Int} (h : Edge bs a b) : Path bs a b := .step h (.refl b)
theorem Path.mono {bs bs' : List (Int × Bx)} (hm : ∀ a b, Edge bs a b → Edge bs' a b) {a b : Int} (h : Path bs a b) : Path bs' a b := by
  induction h with
  | refl n => exact .refl n
  | step e _ ih => exact .step (hm _ _ e) ih
/-- slots as they were: what leads where stays -/
theorem Edge.alike {bs bs' : List (Int × Bx)} (h : ∀ n b, get bs n = some b → ∃ c, get bs' n = some c ∧ c.slots = b.slots) {a b : Int} (e : Edge bs a b) : Edge bs' a b := by
  obtain ⟨x, hx, hb⟩ := e
  obtain ⟨c, hc, es⟩ := h a x hx
  exact ⟨c, hc, by rw [es]; exact hb⟩
/-- where it starts -/
def Src (P : Pl) (w : List (Option Int)) (m : Int) : Prop := some m ∈ P.hands ∨ (∃ b, get P.boxes m = some b ∧ b.sus = true) ∨ some m ∈ w
def Led (P : Pl) (w : List (Option Int)) : Prop := ∀ n b, get P.boxes n = some b → ∃ m, Src P w m ∧ Path P.boxes m n
theorem path_gone {bs : List (Int × Bx)} {n k : Int} (h : get bs n = none) (p : Path bs n k) : k = n := by
  cases p with
  | refl => rfl
  | step e _ =>
    obtain ⟨x, hx, _⟩ := e
    rw [h] at hx
    cases hx
/-- without the box n: what n led to is led to by its slots -/
theorem path_rm {bs : List (Int × Bx)} {n : Int} {b : Bx} (hb : get bs n = some b) {a k : Int} (p : Path bs a k) (hk : k ≠ n) : Path (rm bs n) a k ∨ ∃ o, some o ∈ b.slots ∧ Path (rm bs n) o k := by
  induction p with
  | refl m => exact .inl (.refl m)
  | @step a c k e _ ih =>
    rcases ih hk with j | j
    · obtain ⟨x, hx, hc⟩ := e
      by_cases q : a = n
      · subst q
        have : x = b := Option.some.inj (hx.symm.trans hb)
        subst this
        exact .inr ⟨c, hc, j⟩
      · exact .inl (.step ⟨x, by rw [get_rm, if_neg q]; exact hx, hc⟩ j)
    · exact .inr j
theorem fall_led {P : Pl} {x : Option Int} {w : List (Option Int)} (h : Led P (x :: w)) : Led { P with boxes := (fall P.boxes w x).1 } (fall P.boxes w x).2.1 := by
  have skip : ∀ n b, get P.boxes n = some b → (∀ k, x = some k → ¬ Path P.boxes k n) → ∃ m, Src P w m ∧ Path P.boxes m n := fun n b hb no => by
    obtain ⟨m, hm, p⟩ := h n b hb
    rcases hm with hm | hm | hm
    · exact ⟨m, .inl hm, p⟩
    · exact ⟨m, .inr (.inl hm), p⟩
    · rcases List.mem_cons.mp hm with hm | hm
      · exact absurd p (no m hm.symm)
      · exact ⟨m, .inr (.inr hm), p⟩
  cases x with
  | none => exact fun n b hb => skip n b hb fun k e => by cases e
  | some n =>
    cases e : get P.boxes n with
    | none =>
      rw [fall_gone w e]
      intro k b hb
      refine skip k b hb fun j ej p => ?_
      have : n = j := Option.some.inj ej
      subst this
      have := path_gone e p
      subst this
      have hb' : get P.boxes k = some b := hb
      rw [e] at hb'
      cases hb'
    | some b =>
      by_cases c : b.wt = 1
      · rw [fall_free w e c]
        intro k d hd
        have hd' : get (rm P.boxes n) k = some d := hd
        have hk : k ≠ n := fun q => by
          rw [get_rm, if_pos q] at hd'
          cases hd'
        rw [get_rm, if_neg hk] at hd'
        obtain ⟨m, hm, p⟩ := h k d hd'
        rcases path_rm e p hk with p | ⟨o, ho, p⟩
        · by_cases qm : m = n
          · subst qm
            have := path_gone (bs := rm P.boxes m) (by rw [get_rm, if_pos rfl]) p
            exact absurd this hk
          · rcases hm with hm | ⟨bm, hbm, hs⟩ | hm
            · exact ⟨m, .inl hm, p⟩
            · exact ⟨m, .inr (.inl ⟨bm, by show get (rm P.boxes n) m = _; rw [get_rm, if_neg qm]; exact hbm, hs⟩), p⟩
            · rcases List.mem_cons.mp hm with hm | hm
              · exact absurd (Option.some.inj hm) qm
              · exact ⟨m, .inr (.inr (List.mem_append_left _ hm)), p⟩
        · exact ⟨o, .inr (.inr (List.mem_append_right _ ho)), p⟩
      · rw [fall_low w e c]
        intro k d hd
        have hd' : get (chg P.boxes n low) k = some d := hd
        have al : ∀ m b, get P.boxes m = some b → ∃ c, get (chg P.boxes n low) m = some c ∧ c.slots = b.slots ∧ (b.sus = true → c.sus = true) ∧ (m = n → c.sus = true) := fun m b hb => by
          rw [get_chg, hb]
          refine ⟨_, rfl, ?_, ?_, ?_⟩
          · split <;> rfl
          · intro s; split
            · rfl
            · exact s
          · intro s; show (if m = n then low b else b).sus = true; rw [if_pos s]; rfl
        obtain ⟨d0, hd0⟩ : ∃ d0, get P.boxes k = some d0 := by
          rw [get_chg] at hd'
          cases q : get P.boxes k with
          | none => rw [q] at hd'; cases hd'
          | some d0 => exact ⟨d0, rfl⟩
        obtain ⟨m, hm, p⟩ := h k d0 hd0
        have p' : Path (chg P.boxes n low) m k := p.mono fun a b e => e.alike fun n b h => by
          obtain ⟨c, h1, h2, _⟩ := al n b h
          exact ⟨c, h1, h2⟩
        rcases hm with hm | ⟨bm, hbm, hs⟩ | hm
        · exact ⟨m, .inl hm, p'⟩
        · obtain ⟨c, h1, _, h3, _⟩ := al m bm hbm
          exact ⟨m, .inr (.inl ⟨c, h1, h3 hs⟩), p'⟩
        · rcases List.mem_cons.mp hm with hm | hm
          · have : m = n := Option.some.inj hm
            subst this
            obtain ⟨c, h1, _, _, h4⟩ := al m b e
            exact ⟨m, .inr (.inl ⟨c, h1, h4 rfl⟩), p'⟩
          · exact ⟨m, .inr (.inr hm), p'⟩
theorem go_led : ∀ {m : Nat} {P : Pl} {w : List (Option Int)}, Wf P w → Led P w → w.length + room P.boxes = m → Led { P with boxes := (go m P.boxes w).1 } []
  | 0, P, w, W, h, e => by
    have : w = [] := List.length_eq_zero_iff.mp (by omega)
    subst this
    exact h
  | m + 1, P, [], W, h, e => h
  | m + 1, P, x :: w, W, h, e => by
    obtain ⟨W1, e1⟩ := fall_ok W
    have h1 := fall_led h
    have := go_led (m := m) W1 h1 (by show (fall P.boxes w x).2.1.length + room (fall P.boxes w x).1 = m; rw [e1]; rw [List.length_cons] at e; omega)
    exact this
theorem run_led {P : Pl} {w : List (Option Int)} (W : Wf P w) (h : Led P w) : Led { P with boxes := (run P.boxes w).1 } [] := go_led W h rfl
theorem mem_set_or {l : List (Option Int)} {i : Nat} (x : Option Int) {m : Int} (h : some m ∈ l) : l.getD i none = some m ∨ some m ∈ l.set i x := by
  obtain ⟨j, hj, e⟩ := List.mem_iff_getElem.mp h
  by_cases c : i = j
  · subst c
    exact .inl (by rw [List.getD_eq_getElem?_getD, List.getElem?_eq_getElem hj, e]; rfl)
  · refine .inr (List.mem_iff_getElem.mpr ⟨j, by rw [List.length_set]; exact hj, ?_⟩)
    rw [List.getElem_set_ne c]
    exact e
theorem bumped_alike {bs : List (Int × Bx)} {x : Option Int} {n : Int} {b : Bx} (h : get bs n = some b) : ∃ c, get (bumped bs x) n = some c ∧ c.slots = b.slots ∧ c.sus = b.sus := by
  rw [get_bumped, h]
  refine ⟨_, rfl, ?_, ?_⟩ <;> split <;> rfl
theorem bumped_was {bs : List (Int × Bx)} {x : Option Int} {n : Int} {b : Bx} (h : get (bumped bs x) n = some b) : ∃ c, get bs n = some c := by
  rw [get_bumped] at h
  cases q : get bs n with
  | none => rw [q] at h; cases h
  | some c => exact ⟨c, rfl⟩
/-- a hand points anew -/
theorem ptHand_led {P : Pl} {x : Option Int} (pre : Pre P x) {i : Nat} (hi : i < 8) (h : ∀ n b, get P.boxes n = some b → x = some n ∨ ∃ m, Src P [] m ∧ Path P.boxes m n) : Led (ptHand P i x).1 [] := by
  refine run_led (P := { P with hands := P.hands.set i x, boxes := bumped P.boxes x }) (pre.hand hi) fun n b hb => ?_
  obtain ⟨c, hc⟩ := bumped_was hb
  have hmem : some n = x → some n ∈ P.hands.set i x := fun e => by
    rw [e]
    exact List.mem_of_getElem? (List.getElem?_set_self (by rw [pre.hl]; exact hi))
  rcases h n c hc with e | ⟨m, hm, p⟩
  · exact ⟨n, .inl (hmem e.symm), .refl n⟩
  · have p' : Path (bumped P.boxes x) m n := p.mono fun a b e => e.alike fun n b h => by
      obtain ⟨c, h1, h2, _⟩ := bumped_alike (x := x) h
      exact ⟨c, h1, h2⟩
    rcases hm with hm | ⟨bm, hbm, hs⟩ | hm
    · rcases mem_set_or (i := i) x hm with q | q
      · exact ⟨m, .inr (.inr (by rw [q]; exact List.mem_singleton.mpr rfl)), p'⟩
      · exact ⟨m, .inl q, p'⟩
    · obtain ⟨c, h1, _, h3⟩ := bumped_alike (x := x) hbm
      exact ⟨m, .inr (.inl ⟨c, h1, h3.trans hs⟩), p'⟩
    · cases hm
/-- a slot points anew -/
theorem ptSlot_led {P : Pl} {x : Option Int} (pre : Pre P x) {k : Int} {b : Bx} {i : Nat} (hb : get P.boxes k = some b) (hi : i < b.slots.length) (h : Led P []) : Led (ptSlot P k i x).1 [] := by
  have W := pre.slot hb hi
  refine run_led (P := { P with boxes := chg (bumped P.boxes x) k (setSlot i x) }) ?_ fun n d hd => ?_
  · have := W
    have e : slotOf P.boxes k i = b.slots.getD i none := by unfold slotOf; rw [hb]
    rw [e]
    exact this
  have e : slotOf P.boxes k i = b.slots.getD i none := by unfold slotOf; rw [hb]
  have hd' : get (chg (bumped P.boxes x) k (setSlot i x)) n = some d := hd
  obtain ⟨c, hc⟩ : ∃ c, get P.boxes n = some c := by
    rw [get_chg] at hd'
    cases q : get (bumped P.boxes x) n with
    | none => rw [q] at hd'; cases hd'
    | some c => exact bumped_was q
  have al : ∀ m b, get P.boxes m = some b → ∃ c, get (chg (bumped P.boxes x) k (setSlot i x)) m = some c ∧ c.sus = b.sus ∧ c.slots = if m = k then b.slots.set i x else b.slots := fun m b hb => by
    obtain ⟨c, h1, h2, h3⟩ := bumped_alike (x := x) hb
    rw [get_chg, h1]
    refine ⟨_, rfl, ?_, ?_⟩
    · split
      · exact h3
      · exact h3
    · by_cases q : m = k
      · show (if m = k then setSlot i x c else c).slots = _
        rw [if_pos q, if_pos q]
        show c.slots.set i x = _
        rw [h2]
      · show (if m = k then setSlot i x c else c).slots = _
        rw [if_neg q, if_neg q]
        exact h2
  have turn : ∀ a z, Path P.boxes a z → Path (chg (bumped P.boxes x) k (setSlot i x)) a z ∨ ∃ o, b.slots.getD i none = some o ∧ Path (chg (bumped P.boxes x) k (setSlot i x)) o z := fun a z p => by
    induction p with
    | refl m => exact .inl (.refl m)
    | @step a c z e _ ih =>
      rcases ih with ih | ih
      · obtain ⟨y, hy, hc⟩ := e
        obtain ⟨y', h1, _, h3⟩ := al a y hy
        by_cases q : a = k
        · subst q
          have : y = b := Option.some.inj (hy.symm.trans hb)
          subst this
          rcases mem_set_or (i := i) x hc with q | q
          · exact .inr ⟨c, q, ih⟩
          · exact .inl (.step ⟨y', h1, by rw [h3, if_pos rfl]; exact q⟩ ih)
        · exact .inl (.step ⟨y', h1, by rw [h3, if_neg q]; exact hc⟩ ih)
      · exact .inr ih
  obtain ⟨m, hm, p⟩ := h n c hc
  rcases turn m n p with p' | ⟨o, ho, p'⟩
  · rcases hm with hm | ⟨bm, hbm, hs⟩ | hm
    · exact ⟨m, .inl hm, p'⟩
    · obtain ⟨c, h1, h2, _⟩ := al m bm hbm
      exact ⟨m, .inr (.inl ⟨c, h1, h2.trans hs⟩), p'⟩
    · cases hm
  · exact ⟨o, .inr (.inr (by rw [e, ho]; exact List.mem_singleton.mpr rfl)), p'⟩
/-- a box made -/
theorem mk_led {P : Pl} (W : Wf P []) {i size : Nat} (hi : i < 8) (hs : size ≤ 6) (hf : P.boxes.length < 60) (h : Led P []) : Led (mk P i size).1 [] := by
  refine ptHand_led (W.born hs hf) hi fun n b hb => ?_
  rw [get_born W size n] at hb
  by_cases q : n = P.made
  · exact .inl (by rw [q])
  · rw [if_neg q] at hb
    obtain ⟨m, hm, p⟩ := h n b hb
    have hno : get P.boxes P.made = none := get_none.mpr fun z => by have := (W.lo _ z).2; omega
    have al : ∀ m b, get P.boxes m = some b → get (born P size).boxes m = some b := fun m b e => by
      rw [get_born W size m, if_neg (fun z => by rw [z, hno] at e; cases e)]
      exact e
    refine .inr ⟨m, ?_, p.mono fun a b e => e.alike fun n b h => ⟨b, al n b h, rfl⟩⟩
    rcases hm with hm | ⟨bm, hbm, hs⟩ | hm
    · exact .inl hm
    · exact .inr (.inl ⟨bm, al _ _ hbm, hs⟩)
    · cases hm
theorem led0 : Led pl0 [] := fun n b e => by simp [pl0, get_nil] at e
/-! ### the trial -/
/-- the boxes of the row F, and those beside it -/
def inn (bs : List (Int × Bx)) (F : List Int) : List (Int × Bx) := bs.filter fun e => decide (e.1 ∈ F)
def out (bs : List (Int × Bx)) (F : List Int) : List (Int × Bx) := bs.filter fun e => decide (e.1 ∉ F)
theorem scnt_split (bs : List (Int × Bx)) (F : List Int) (n : Int) : scnt bs n = scnt (inn bs F) n + scnt (out bs F) n := by
  induction bs with
  | nil => rfl
  | cons e bs ih =>
    unfold inn out at ih ⊢
    rw [scnt_cons, List.filter_cons, List.filter_cons]
    by_cases c : e.1 ∈ F
    · rw [if_pos (decide_eq_true c), if_neg (by simp [c]), scnt_cons]
      omega
    · rw [if_neg (by simp [c]), if_pos (decide_eq_true c), scnt_cons]
      omega
theorem scnt_pos {bs : List (Int × Bx)} {n : Int} (h : 0 < scnt bs n) : ∃ e ∈ bs, some n ∈ e.2.slots := by
  induction bs with
  | nil => simp [scnt_nil] at h
  | cons e bs ih =>
    rw [scnt_cons] at h
    by_cases c : 0 < cnt e.2.slots n
    · exact ⟨e, List.mem_cons_self, cnt_pos.mp c⟩
    · obtain ⟨e', h1, h2⟩ := ih (by omega)
      exact ⟨e', List.mem_cons_of_mem _ h1, h2⟩
theorem scnt_of {bs : List (Int × Bx)} {n : Int} {e : Int × Bx} (he : e ∈ bs) (h : some n ∈ e.2.slots) : 0 < scnt bs n := by
  induction bs with
  | nil => cases he
  | cons d bs ih =>
    rw [scnt_cons]
    rcases List.mem_cons.mp he with rfl | he
    · have := cnt_pos.mpr h
      omega
    · have := ih he
      omega
/-- what a hand leads to -/
def HL (P : Pl) (n : Int) : Prop := ∃ h, some h ∈ P.hands ∧ Path P.boxes h n
/-- what a suspect leads to -/
def SL (P : Pl) (n : Int) : Prop := ∃ s b, get P.boxes s = some b ∧ b.sus = true ∧ Path P.boxes s n
theorem Led.or {P : Pl} (h : Led P []) {n : Int} {b : Bx} (hb : get P.boxes n = some b) : HL P n ∨ SL P n := by
  obtain ⟨m, hm, p⟩ := h n b hb
  rcases hm with hm | ⟨c, hc, hs⟩ | hm
  · exact .inl ⟨m, hm, p⟩
  · exact .inr ⟨m, c, hc, hs, p⟩
  · cases hm
theorem Path.alive {P : Pl} {w : List (Option Int)} (W : Wf P w) {a n : Int} (p : Path P.boxes a n) (ha : ∃ b, get P.boxes a = some b) : ∃ b, get P.boxes n = some b := by
  induction p with
  | refl m => exact ha
  | step e _ ih =>
    obtain ⟨x, hx, hc⟩ := e
    refine ih (W.cl _ ?_)
    have h1 := cnt_pos.mpr hc
    exact Nat.lt_of_lt_of_le h1 (Nat.le_trans (scnt_le _ hx) (Nat.le_trans (Nat.le_add_left _ _) (Nat.le_add_right _ _)))
theorem HL.alive {P : Pl} {w : List (Option Int)} (W : Wf P w) {n : Int} (h : HL P n) : ∃ b, get P.boxes n = some b := by
  obtain ⟨m, hm, p⟩ := h
  refine p.alive W (W.cl m ?_)
  have := cnt_pos.mpr hm
  omega
theorem HL.next {P : Pl} {a n : Int} (h : HL P a) (e : Edge P.boxes a n) : HL P n := by
  obtain ⟨m, hm, p⟩ := h
  exact ⟨m, hm, p.trans (.one e)⟩
/-- boxes beside F stay, and weigh what is left -/
def tidied (P : Pl) (F : List Int) : Pl := { P with boxes := (out P.boxes F).map fun e => (e.1, { e.2 with wt := e.2.wt - ((scnt (inn P.boxes F) e.1 : Nat) : Int), sus := false }) }
theorem get_out (bs : List (Int × Bx)) (F : List Int) (n : Int) : get (out bs F) n = if n ∈ F then none else get bs n := by
  induction bs with
  | nil => unfold out; simp [get_nil]
  | cons e bs ih =>
    unfold out at ih ⊢
    rw [List.filter_cons]
    by_cases c : e.1 ∈ F
    · rw [if_neg (by simp [c]), ih, get_cons]
      by_cases q : n ∈ F
      · rw [if_pos q, if_pos q]
      · rw [if_neg q, if_neg q, if_neg (fun z => q (by rw [← z]; exact c))]
    · rw [if_pos (by simp [c]), get_cons, ih, get_cons]
      by_cases z : e.1 = n
      · rw [if_pos z, if_pos z, if_neg (by rw [← z]; exact c)]
      · rw [if_neg z, if_neg z]
theorem get_mapv (f : Int → Bx → Bx) (n : Int) : ∀ bs : List (Int × Bx), get (bs.map fun e => (e.1, f e.1 e.2)) n = (get bs n).map (f n)
  | [] => rfl
  | e :: bs => by
    have ih := get_mapv f n bs
    rw [List.map_cons, get_cons, get_cons, ih]
    by_cases z : e.1 = n
    · subst z
      rw [if_pos rfl, if_pos rfl]
      rfl
    · rw [if_neg z, if_neg z]
theorem get_tidied (P : Pl) (F : List Int) (n : Int) : get (tidied P F).boxes n = if n ∈ F then none else (get P.boxes n).map fun b => { b with wt := b.wt - ((scnt (inn P.boxes F) n : Nat) : Int), sus := false } := by
  have := get_mapv (fun k b => { b with wt := b.wt - ((scnt (inn P.boxes F) k : Nat) : Int), sus := false }) n (out P.boxes F)
  show get ((out P.boxes F).map fun e => (e.1, _)) n = _
  rw [this, get_out]
  by_cases q : n ∈ F
  · rw [if_pos q, if_pos q]; rfl
  · rw [if_neg q, if_neg q]
theorem keys_tidied (P : Pl) (F : List Int) : keys (tidied P F).boxes = (keys P.boxes).filter fun n => decide (n ∉ F) := by
  unfold keys tidied out
  rw [List.map_map, List.filter_map]
  rfl
theorem scnt_map (f : Int × Bx → Int × Bx) (hf : ∀ e, (f e).2.slots = e.2.slots) (n : Int) (bs : List (Int × Bx)) : scnt (bs.map f) n = scnt bs n := by
  unfold scnt
  rw [List.map_map]
  congr 1
  refine List.map_congr_left fun e _ => ?_
  show cnt (f e).2.slots n = _
  rw [hf]
theorem scnt_tidied (P : Pl) (F : List Int) (n : Int) : scnt (tidied P F).boxes n = scnt (out P.boxes F) n := scnt_map (fun e => (e.1, { e.2 with wt := e.2.wt - ((scnt (inn P.boxes F) e.1 : Nat) : Int), sus := false })) (fun _ => rfl) n _
/-- the row of all that no hand leads to -/
def Dead (P : Pl) (F : List Int) : Prop := ∀ n, n ∈ F ↔ (∃ b, get P.boxes n = some b) ∧ ¬ HL P n
theorem tidied_wf {P : Pl} {F : List Int} (W : Wf P []) (hF : Dead P F) : Wf (tidied P F) [] := by
  have hout : ∀ n, 0 < cnt P.hands n + scnt (out P.boxes F) n → HL P n := fun n e => by
    by_cases c : 0 < cnt P.hands n
    · exact ⟨n, cnt_pos.mp c, .refl n⟩
    · obtain ⟨d, hd, hs⟩ := scnt_pos (bs := out P.boxes F) (n := n) (by omega)
      unfold out at hd
      obtain ⟨h1, h2⟩ := List.mem_filter.mp hd
      have h2' : d.1 ∉ F := of_decide_eq_true h2
      have hb := mem_get W.nd (show (d.1, d.2) ∈ P.boxes from h1)
      have hl : HL P d.1 := Classical.byContradiction fun z => h2' ((hF d.1).mpr ⟨⟨_, hb⟩, z⟩)
      exact hl.next ⟨d.2, hb, hs⟩
  refine ⟨W.hl, by rw [keys_tidied]; exact W.ks.filter _, fun n hn => ?_, ?_, fun n b e => ?_, fun n b e => ?_, fun n e => ?_, W.m0⟩
  · rw [keys_tidied] at hn
    exact W.lo n (List.mem_filter.mp hn |>.1)
  · show ((out P.boxes F).map _).length ≤ 60
    rw [List.length_map]
    exact Nat.le_trans (List.length_filter_le _ _) W.few
  · rw [get_tidied] at e
    split at e
    · cases e
    · cases q : get P.boxes n with
      | none => rw [q] at e; cases e
      | some c =>
        rw [q] at e
        rw [← Option.some.inj e]
        exact W.sl n c q
  · rw [get_tidied] at e
    by_cases c : n ∈ F
    · rw [if_pos c] at e; cases e
    rw [if_neg c] at e
    cases q : get P.boxes n with
    | none => rw [q] at e; cases e
    | some d =>
      rw [q] at e
      have hw := (W.wt n d q).1
      have hh := (tidied P F).hands
      have sp := scnt_split P.boxes F n
      have e1 : b.wt = d.wt - ((scnt (inn P.boxes F) n : Nat) : Int) := by rw [← Option.some.inj e]
      have e2 : (tidied P F).hands = P.hands := rfl
      rw [scnt_tidied, e2, cnt_nil, e1, hw, cnt_nil]
      refine ⟨by omega, ?_⟩
      -- something that stays points at it
      have hl : HL P n := Classical.byContradiction fun z => c ((hF n).mpr ⟨⟨_, q⟩, z⟩)
      have : 0 < cnt P.hands n + scnt (out P.boxes F) n := by
        obtain ⟨m, hm, p⟩ := hl
        have key : ∀ a z, Path P.boxes a z → HL P a → 0 < cnt P.hands a + scnt (out P.boxes F) a → 0 < cnt P.hands z + scnt (out P.boxes F) z := fun a z p => by
          induction p with
          | refl m => exact fun _ h => h
          | @step a c z e _ ih =>
            intro hl _
            refine ih (hl.next e) ?_
            obtain ⟨x, hx, hc⟩ := e
            have : (a, x) ∈ out P.boxes F := by
              unfold out
              refine List.mem_filter.mpr ⟨get_mem hx, decide_eq_true fun z => ((hF a).mp z).2 hl⟩
            have := scnt_of this hc
            omega
        have h0 := cnt_pos.mpr hm
        exact key m n p ⟨m, hm, .refl m⟩ (by omega)
      omega
  · rw [scnt_tidied, cnt_nil] at e
    have e2 : (tidied P F).hands = P.hands := rfl
    rw [e2] at e
    have hl := hout n (by omega)
    obtain ⟨b, hb⟩ := hl.alive W
    rw [get_tidied, if_neg (fun z => ((hF n).mp z).2 hl), hb]
    exact ⟨_, rfl⟩
/-- behind it hands lead to all that is alive, and there is no suspect -/
theorem tidied_hl {P : Pl} {F : List Int} (W : Wf P []) (hF : Dead P F) {n : Int} {b : Bx} (hb : get (tidied P F).boxes n = some b) : HL (tidied P F) n ∧ b.sus = false := by
  rw [get_tidied] at hb
  by_cases c : n ∈ F
  · rw [if_pos c] at hb; cases hb
  rw [if_neg c] at hb
  cases q : get P.boxes n with
  | none => rw [q] at hb; cases hb
  | some d =>
    rw [q] at hb
    refine ⟨?_, by rw [← Option.some.inj hb]⟩
    obtain ⟨m, hm, p⟩ : HL P n := Classical.byContradiction fun z => c ((hF n).mpr ⟨⟨_, q⟩, z⟩)
    refine ⟨m, hm, ?_⟩
    have key : ∀ a z, Path P.boxes a z → HL P a → Path (tidied P F).boxes a z := fun a z p => by
      induction p with
      | refl m => exact fun _ => .refl m
      | @step a c z e _ ih =>
        intro hl
        refine .step ?_ (ih (hl.next e))
        obtain ⟨x, hx, hc⟩ := e
        exact ⟨{ x with wt := x.wt - ((scnt (inn P.boxes F) a : Nat) : Int), sus := false }, by rw [get_tidied, if_neg (fun z => ((hF a).mp z).2 hl), hx]; rfl, hc⟩
    exact key m n p ⟨m, hm, .refl m⟩
theorem tidied_led {P : Pl} {F : List Int} (W : Wf P []) (hF : Dead P F) : Led (tidied P F) [] := fun n b hb => by
  obtain ⟨⟨m, hm, p⟩, _⟩ := tidied_hl W hF hb
  exact ⟨m, .inl hm, p⟩
/-- what is looked at, of that what stays: the rest is just what no hand leads to -/
theorem trial_dead {P : Pl} {A K : List Int} (W : Wf P []) (L : Led P []) (hA : ∀ n, n ∈ A ↔ SL P n)
    (hK : ∀ n, n ∈ K ↔ ∃ m b, m ∈ A ∧ get P.boxes m = some b ∧ 0 < b.wt - ((scnt (inn P.boxes A) m : Nat) : Int) ∧ Path P.boxes m n) : Dead P (A.filter fun n => decide (n ∉ K)) := by
  have tr : ∀ m b, get P.boxes m = some b → b.wt - ((scnt (inn P.boxes A) m : Nat) : Int) = ((cnt P.hands m + scnt (out P.boxes A) m : Nat) : Int) := fun m b hb => by
    have h1 := (W.wt m b hb).1
    have h2 := scnt_split P.boxes A m
    rw [h1, cnt_nil]
    omega
  intro n
  rw [List.mem_filter]
  constructor
  · rintro ⟨ha, hk⟩
    have hk' : n ∉ K := of_decide_eq_true hk
    obtain ⟨s, bs, hs, hss, p⟩ := (hA n).mp ha
    refine ⟨p.alive W ⟨bs, hs⟩, fun ⟨h, hh, q⟩ => hk' ((hK n).mpr ?_)⟩
    have key : ∀ a z, Path P.boxes a z → z ∈ A → (a ∈ A) ∨ ∃ u v, u ∉ A ∧ Edge P.boxes u v ∧ v ∈ A ∧ Path P.boxes v z := fun a z p => by
      induction p with
      | refl m => exact fun h => .inl h
      | @step a c z e p ih =>
        intro hz
        rcases ih hz with j | j
        · by_cases ca : a ∈ A
          · exact .inl ca
          · exact .inr ⟨a, c, ca, e, j, p⟩
        · exact .inr j
    rcases key h n q ha with j | ⟨u, v, hu, ⟨x, hx, hc⟩, hv, pv⟩
    · obtain ⟨b, hb⟩ := W.cl h (by have := cnt_pos.mpr hh; omega)
      refine ⟨h, b, j, hb, ?_, q⟩
      rw [tr h b hb]
      have := cnt_pos.mpr hh
      omega
    · obtain ⟨b, hb⟩ := W.cl v (by have := cnt_pos.mpr hc; have := scnt_le v hx; omega)
      refine ⟨v, b, hv, hb, ?_, pv⟩
      rw [tr v b hb]
      have : (u, x) ∈ out P.boxes A := List.mem_filter.mpr ⟨get_mem hx, decide_eq_true hu⟩
      have := scnt_of this hc
      omega
  · rintro ⟨⟨b, hb⟩, hno⟩
    have ha : n ∈ A := (hA n).mpr ((L.or hb).resolve_left hno)
    refine ⟨ha, decide_eq_true fun hk => ?_⟩
    obtain ⟨m, bm, hm, hbm, ht, p⟩ := (hK n).mp hk
    rw [tr m bm hbm] at ht
    by_cases c : 0 < cnt P.hands m
    · exact hno ⟨m, cnt_pos.mp c, p⟩
    · obtain ⟨d, hd, hs⟩ := scnt_pos (bs := out P.boxes A) (n := m) (by omega)
      unfold out at hd
      obtain ⟨h1, h2⟩ := List.mem_filter.mp hd
      have h2' : d.1 ∉ A := of_decide_eq_true h2
      have hdb := mem_get W.nd (show (d.1, d.2) ∈ P.boxes from h1)
      rcases L.or hdb with ⟨h, hh, q⟩ | sl
      · exact hno ⟨h, hh, (q.trans (.one ⟨d.2, hdb, hs⟩)).trans p⟩
      · exact h2' ((hA d.1).mpr sl)
end BP

/-! Going on from a row by slots till nothing new comes. Own work; core Lean alone. -/
namespace BP
/-- what the row l leads to -/
def From (bs : List (Int × Bx)) (l : List (Option Int)) (n : Int) : Prop := ∃ s, some s ∈ l ∧ Path bs s n
/-- amid the walk: c is the row gone through, of whose boxes the first k have been gone through whole, and part of one more -/
structure Wk (bs : List (Int × Bx)) (l : List (Option Int)) (row : List Int) (k : Nat) (part : List (Option Int)) : Prop where
  nd : row.Nodup
  sound : ∀ n, n ∈ row → From bs l n
  done : ∀ j n b, j < k → row[j]? = some n → get bs n = some b → ∀ m, some m ∈ b.slots → m ∈ row
  part : ∀ m, some m ∈ part → m ∈ row
theorem Wk.add {bs : List (Int × Bx)} {l : List (Option Int)} {row : List Int} {k : Nat} {part : List (Option Int)} (h : Wk bs l row k part) (hk : k ≤ row.length) {n : Int} (hn : n ∉ row) (hf : From bs l n) : Wk bs l (row ++ [n]) k (part ++ [some n]) :=
  ⟨by
    rw [List.nodup_append]
    exact ⟨h.nd, by simp, fun a ha b hb => by rw [List.mem_singleton.mp hb]; exact fun e => hn (by rw [← e]; exact ha)⟩,
  fun m hm => by
    rcases List.mem_append.mp hm with hm | hm
    · exact h.sound m hm
    · rw [List.mem_singleton.mp hm]; exact hf,
  fun j m b hj e hb o ho => List.mem_append_left _ (h.done j m b hj (by rw [List.getElem?_append_left (by omega)] at e; exact e) hb o ho),
  fun m hm => by
    rcases List.mem_append.mp hm with hm | hm
    · exact List.mem_append_left _ (h.part m hm)
    · have : m = n := Option.some.inj (List.mem_singleton.mp hm)
      rw [this]
      exact List.mem_append_right _ (List.mem_singleton.mpr rfl)⟩
theorem Wk.skip {bs : List (Int × Bx)} {l : List (Option Int)} {row : List Int} {k : Nat} {part : List (Option Int)} (h : Wk bs l row k part) {x : Option Int} (hx : ∀ n, x = some n → n ∈ row) : Wk bs l row k (part ++ [x]) :=
  ⟨h.nd, h.sound, h.done, fun m hm => by
    rcases List.mem_append.mp hm with hm | hm
    · exact h.part m hm
    · exact hx m (List.mem_singleton.mp hm).symm⟩
/-- one box gone through -/
theorem Wk.turn {bs : List (Int × Bx)} {l : List (Option Int)} {row : List Int} {k : Nat} {n : Int} {b : Bx} (h : Wk bs l row k b.slots) (hn : row[k]? = some n) (hb : get bs n = some b) : Wk bs l row (k + 1) [] :=
  ⟨h.nd, h.sound, fun j m c hj e hc o ho => by
    by_cases q : j < k
    · exact h.done j m c q e hc o ho
    · have : j = k := by omega
      subst this
      have : n = m := Option.some.inj (hn.symm.trans e)
      subst this
      have : b = c := Option.some.inj (hb.symm.trans hc)
      subst this
      exact h.part o ho, fun m hm => (by cases hm)⟩
theorem Wk.next {bs : List (Int × Bx)} {l : List (Option Int)} {row : List Int} {k : Nat} {part : List (Option Int)} (h : Wk bs l row k part) {j : Nat} {n : Int} {b : Bx} (hn : row[j]? = some n) (hb : get bs n = some b) {m : Int} (hm : some m ∈ b.slots) : From bs l m := by
  obtain ⟨s, hs, p⟩ := h.sound n (List.mem_of_getElem? hn)
  exact ⟨s, hs, p.trans (.one ⟨b, hb, hm⟩)⟩
/-- at its end it has all -/
theorem Wk.all {P : Pl} {l : List (Option Int)} {row : List Int} {part : List (Option Int)} (h : Wk P.boxes l row row.length part) (hl : ∀ s, some s ∈ l → s ∈ row) (n : Int) : n ∈ row ↔ From P.boxes l n := by
  refine ⟨h.sound n, fun ⟨s, hs, p⟩ => ?_⟩
  have key : ∀ a z, Path P.boxes a z → a ∈ row → z ∈ row := fun a z p => by
    induction p with
    | refl m => exact fun q => q
    | @step a c z e _ ih =>
      intro ha
      obtain ⟨x, hx, hc⟩ := e
      obtain ⟨j, hj, ej⟩ := List.mem_iff_getElem.mp ha
      exact ih (h.done j a x hj (by rw [List.getElem?_eq_getElem hj, ej]) hx c hc)
  exact key s n p (hl s hs)
theorem From.alive {P : Pl} {w l : List (Option Int)} (W : Wf P w) (hl : ∀ s, some s ∈ l → ∃ b, get P.boxes s = some b) {n : Int} (h : From P.boxes l n) : ∃ b, get P.boxes n = some b := by
  obtain ⟨s, hs, p⟩ := h
  exact p.alive W (hl s hs)
/-- the row is never longer than the boxes are many -/
theorem Wk.len {P : Pl} {w l : List (Option Int)} {row : List Int} {k : Nat} {part : List (Option Int)} (W : Wf P w) (h : Wk P.boxes l row k part) (hl : ∀ s, some s ∈ l → ∃ b, get P.boxes s = some b) : row.length ≤ P.boxes.length := by
  have := nodup_le (a := row) (b := keys P.boxes) h.nd fun n hn => get_keys.mp ((h.sound n hn).alive W hl)
  rw [show (keys P.boxes).length = P.boxes.length from List.length_map _] at this
  exact this
theorem wk0 (bs : List (Int × Bx)) (l : List (Option Int)) : Wk bs l [] 0 [] := ⟨List.nodup_nil, fun n h => (by cases h), fun j n b h => absurd h (Nat.not_lt_zero j), fun m h => (by cases h)⟩
theorem Wk.clear {bs : List (Int × Bx)} {l : List (Option Int)} {row : List Int} {k : Nat} {part : List (Option Int)} (h : Wk bs l row k part) : Wk bs l row k [] := ⟨h.nd, h.sound, h.done, fun m h => (by cases h)⟩
end BP

/-! A pile in order: weights right, all led to; what stays of it behind a deed. Own work; core Lean alone. -/
namespace BP
structure Good (P : Pl) : Prop where
  wf : Wf P []
  led : Led P []
theorem good0 : Good pl0 := ⟨wf0, led0⟩
theorem Good.hand {P : Pl} (h : Good P) {i : Nat} (hi : i < 8) {x : Option Int} (hx : ∀ n, x = some n → ∃ b, get P.boxes n = some b) : Good (ptHand P i x).1 :=
  ⟨ptHand_ok (h.wf.pre hx) hi, ptHand_led (h.wf.pre hx) hi fun n b e => .inr (h.led n b e)⟩
theorem Good.hold {P : Pl} (h : Good P) {i j : Nat} (hi : i < 8) : Good (ptHand P i (P.hands.getD j none)).1 := h.hand hi fun n e => h.wf.hand e
theorem Good.drop {P : Pl} (h : Good P) {i : Nat} (hi : i < 8) : Good (ptHand P i none).1 := h.hand hi fun n e => by cases e
theorem Good.slot {P : Pl} (h : Good P) {k : Int} {b : Bx} {i : Nat} {x : Option Int} (hb : get P.boxes k = some b) (hi : i < b.slots.length) (hx : ∀ n, x = some n → ∃ b, get P.boxes n = some b) : Good (ptSlot P k i x).1 :=
  ⟨ptSlot_ok (h.wf.pre hx) hb hi, ptSlot_led (h.wf.pre hx) hb hi h.led⟩
theorem Good.make {P : Pl} (h : Good P) {i size : Nat} (hi : i < 8) (hs : size ≤ 6) (hf : P.boxes.length < 60) : Good (BP.mk P i size).1 := ⟨mk_ok h.wf hi hs hf, mk_led h.wf hi hs hf h.led⟩
theorem Good.tidied {P : Pl} (h : Good P) {F : List Int} (hF : Dead P F) : Good (tidied P F) := ⟨tidied_wf h.wf hF, tidied_led h.wf hF⟩
/-- boxes have as many slots as they had -/
theorem run_slots {bs : List (Int × Bx)} {w : List (Option Int)} {n : Int} {b : Bx} (h : get (run bs w).1 n = some b) : ∃ c, get bs n = some c ∧ c.slots = b.slots := go_slots h
theorem bumped_slots {bs : List (Int × Bx)} {x : Option Int} {n : Int} {b : Bx} (h : get (bumped bs x) n = some b) : ∃ c, get bs n = some c ∧ c.slots = b.slots := by
  obtain ⟨c, hc⟩ := bumped_was h
  obtain ⟨d, h1, h2, _⟩ := bumped_alike (x := x) hc
  have : d = b := Option.some.inj (h1.symm.trans h)
  subst this
  exact ⟨c, hc, h2.symm⟩
theorem ptHand_slots {P : Pl} {i : Nat} {x : Option Int} {n : Int} {b : Bx} (h : get (ptHand P i x).1.boxes n = some b) : ∃ c, get P.boxes n = some c ∧ c.slots = b.slots := by
  obtain ⟨c, h1, e1⟩ := run_slots (show get (run (bumped P.boxes x) [P.hands.getD i none]).1 n = some b from h)
  obtain ⟨d, h2, e2⟩ := bumped_slots h1
  exact ⟨d, h2, e2.trans e1⟩
theorem ptSlot_slots {P : Pl} {k : Int} {i : Nat} {x : Option Int} {n : Int} {b : Bx} (h : get (ptSlot P k i x).1.boxes n = some b) : ∃ c, get P.boxes n = some c ∧ b.slots = if n = k then c.slots.set i x else c.slots := by
  obtain ⟨c, h1, e1⟩ := run_slots (show get (run (chg (bumped P.boxes x) k (setSlot i x)) [slotOf P.boxes k i]).1 n = some b from h)
  rw [get_chg] at h1
  cases q : get (bumped P.boxes x) n with
  | none => rw [q] at h1; cases h1
  | some d =>
    rw [q] at h1
    obtain ⟨e, h2, e2⟩ := bumped_slots q
    have h1' : (if n = k then setSlot i x d else d) = c := Option.some.inj h1
    refine ⟨e, h2, ?_⟩
    rw [← e1, ← h1']
    by_cases z : n = k
    · rw [if_pos z, if_pos z, e2]; rfl
    · rw [if_neg z, if_neg z, e2]
theorem mk_slots {P : Pl} (W : Wf P []) {i size : Nat} {n : Int} {b : Bx} (h : get (BP.mk P i size).1.boxes n = some b) : (n = P.made ∧ b.slots = List.replicate size none) ∨ ∃ c, get P.boxes n = some c ∧ c.slots = b.slots := by
  obtain ⟨c, h1, e1⟩ := ptHand_slots (P := born P size) h
  rw [get_born W size n] at h1
  by_cases z : n = P.made
  · rw [if_pos z] at h1
    refine .inl ⟨z, ?_⟩
    rw [← e1, ← Option.some.inj h1]
  · rw [if_neg z] at h1
    exact .inr ⟨c, h1, e1⟩
/-- what a hand holds has so many slots -/
def Has (P : Pl) (h n : Nat) : Prop := ∃ x b, P.hands.getD h none = some x ∧ get P.boxes x = some b ∧ n ≤ b.slots.length
theorem getD_set_off {l : List (Option Int)} {i h : Nat} (x : Option Int) (c : h ≠ i) : (l.set i x).getD h none = l.getD h none := by
  rw [List.getD_eq_getElem?_getD, List.getD_eq_getElem?_getD, List.getElem?_set_ne (fun z => c z.symm)]
theorem getD_set_on {l : List (Option Int)} {i : Nat} (x : Option Int) (c : i < l.length) : (l.set i x).getD i none = x := by
  rw [List.getD_eq_getElem?_getD, List.getElem?_set_self c]
  rfl
theorem Has.hand {P : Pl} {h n i : Nat} {x : Option Int} (s : Has P h n) (c : h ≠ i) (G : Good (ptHand P i x).1) : Has (ptHand P i x).1 h n := by
  obtain ⟨y, b, h1, h2, h3⟩ := s
  have e : (ptHand P i x).1.hands.getD h none = some y := (getD_set_off x c).trans h1
  obtain ⟨d, hd⟩ := G.wf.hand e
  obtain ⟨c', h4, e4⟩ := ptHand_slots hd
  have : c' = b := Option.some.inj (h4.symm.trans h2)
  subst this
  exact ⟨y, d, e, hd, by rw [← e4]; exact h3⟩
theorem Has.slot {P : Pl} {h n i : Nat} {k : Int} {x : Option Int} (s : Has P h n) (G : Good (ptSlot P k i x).1) : Has (ptSlot P k i x).1 h n := by
  obtain ⟨y, b, h1, h2, h3⟩ := s
  have e : (ptSlot P k i x).1.hands.getD h none = some y := h1
  obtain ⟨d, hd⟩ := G.wf.hand e
  obtain ⟨c', h4, e4⟩ := ptSlot_slots hd
  have : c' = b := Option.some.inj (h4.symm.trans h2)
  subst this
  refine ⟨y, d, e, hd, ?_⟩
  rw [e4]
  split
  · rw [List.length_set]; exact h3
  · exact h3
theorem Has.mk {P : Pl} {h n i size : Nat} (W : Wf P []) (s : Has P h n) (c : h ≠ i) (G : Good (BP.mk P i size).1) : Has (BP.mk P i size).1 h n := by
  obtain ⟨y, b, h1, h2, h3⟩ := s
  have e : (BP.mk P i size).1.hands.getD h none = some y := (getD_set_off _ c).trans h1
  obtain ⟨d, hd⟩ := G.wf.hand e
  rcases mk_slots W hd with ⟨q, _⟩ | ⟨c', h4, e4⟩
  · have := (W.lo y (get_keys.mp ⟨b, h2⟩)).2
    omega
  · have : c' = b := Option.some.inj (h4.symm.trans h2)
    subst this
    exact ⟨y, d, e, hd, by rw [← e4]; exact h3⟩
theorem has_mk {P : Pl} {i size : Nat} (W : Wf P []) (hi : i < 8) (G : Good (BP.mk P i size).1) : Has (BP.mk P i size).1 i size := by
  have e : (BP.mk P i size).1.hands.getD i none = some P.made := getD_set_on _ (by rw [show (born P size).hands = P.hands from rfl, W.hl]; exact hi)
  obtain ⟨d, hd⟩ := G.wf.hand e
  rcases mk_slots W hd with ⟨_, q⟩ | ⟨c', h4, _⟩
  · exact ⟨_, d, e, hd, by rw [q, List.length_replicate]; exact Nat.le_refl _⟩
  · have := (W.lo _ (get_keys.mp ⟨c', h4⟩)).2
    omega
/-- there are no more boxes than were made -/
theorem Good.few {P : Pl} (h : Good P) : (P.boxes.length : Int) ≤ P.made := by
  have W := h.wf
  have := nodup_le (a := keys P.boxes) (b := (List.range P.made.toNat).map fun i => ((i : Nat) : Int)) W.nd fun n hn => by
    obtain ⟨a, b⟩ := W.lo n hn
    rw [List.mem_map]
    exact ⟨n.toNat, List.mem_range.mpr (by omega), by omega⟩
  rw [List.length_map, List.length_range, show (keys P.boxes).length = P.boxes.length from List.length_map _] at this
  have := W.m0
  omega
theorem made_hand (P : Pl) (i : Nat) (x : Option Int) : (ptHand P i x).1.made = P.made := rfl
theorem made_slot (P : Pl) (k : Int) (i : Nat) (x : Option Int) : (ptSlot P k i x).1.made = P.made := rfl
theorem made_mk (P : Pl) (i size : Nat) : (BP.mk P i size).1.made = P.made + 1 := rfl
end BP

/-! Going through what is reached from the end of a row; a tidy's three passes over the boxes. Own work; core Lean alone. -/
namespace BP
/-! ### the walk with a stack -/
structure Dw (bs : List (Int × Bx)) (l : List (Option Int)) (row w : List Int) : Prop where
  nd : row.Nodup
  al : ∀ n, n ∈ row → ∃ b, get bs n = some b
  sound : ∀ n, n ∈ row → From bs l n
  wsound : ∀ n, n ∈ w → From bs l n
  done : ∀ n b, n ∈ row → get bs n = some b → ∀ m, some m ∈ b.slots → m ∈ row ∨ m ∈ w
  start : ∀ s, some s ∈ l → s ∈ row ∨ s ∈ w
theorem mem_some {l : List Int} {s : Int} : some s ∈ l.map some ↔ s ∈ l := by simp
theorem dw0 (bs : List (Int × Bx)) (l : List Int) : Dw bs (l.map some) [] l :=
  ⟨List.nodup_nil, fun n h => (by cases h), fun n h => (by cases h), fun n h => ⟨n, mem_some.mpr h, .refl n⟩, fun n b h => (by cases h), fun s h => .inr (mem_some.mp h)⟩
theorem Dw.skip {bs : List (Int × Bx)} {l : List (Option Int)} {row w : List Int} {n : Int} (h : Dw bs l row (w ++ [n])) (hn : n ∈ row) : Dw bs l row w :=
  ⟨h.nd, h.al, h.sound, fun m hm => h.wsound m (List.mem_append_left _ hm), fun k b hk hb m hm => by
    rcases h.done k b hk hb m hm with q | q
    · exact .inl q
    · rcases List.mem_append.mp q with q | q
      · exact .inr q
      · rw [List.mem_singleton.mp q]; exact .inl hn,
  fun s hs => by
    rcases h.start s hs with q | q
    · exact .inl q
    · rcases List.mem_append.mp q with q | q
      · exact .inr q
      · rw [List.mem_singleton.mp q]; exact .inl hn⟩
theorem mem_fm {l : List (Option Int)} {m : Int} : m ∈ l.filterMap id ↔ some m ∈ l := by simp [List.mem_filterMap]
theorem Dw.add {bs : List (Int × Bx)} {l : List (Option Int)} {row w : List Int} {n : Int} {b : Bx} (h : Dw bs l row (w ++ [n])) (hn : n ∉ row) (hb : get bs n = some b) : Dw bs l (row ++ [n]) (w ++ b.slots.filterMap id) :=
  ⟨by
    rw [List.nodup_append]
    exact ⟨h.nd, by simp, fun a ha c hc => by rw [List.mem_singleton.mp hc]; exact fun e => hn (by rw [← e]; exact ha)⟩,
  fun m hm => by
    rcases List.mem_append.mp hm with hm | hm
    · exact h.al m hm
    · rw [List.mem_singleton.mp hm]; exact ⟨b, hb⟩,
  fun m hm => by
    rcases List.mem_append.mp hm with hm | hm
    · exact h.sound m hm
    · rw [List.mem_singleton.mp hm]; exact h.wsound n (List.mem_append_right _ (List.mem_singleton.mpr rfl)),
  fun m hm => by
    rcases List.mem_append.mp hm with hm | hm
    · exact h.wsound m (List.mem_append_left _ hm)
    · obtain ⟨s, hs, p⟩ := h.wsound n (List.mem_append_right _ (List.mem_singleton.mpr rfl))
      exact ⟨s, hs, p.trans (.one ⟨b, hb, mem_fm.mp hm⟩)⟩,
  fun k c hk hc m hm => by
    rcases List.mem_append.mp hk with hk | hk
    · rcases h.done k c hk hc m hm with q | q
      · exact .inl (List.mem_append_left _ q)
      · rcases List.mem_append.mp q with q | q
        · exact .inr (List.mem_append_left _ q)
        · exact .inl (List.mem_append_right _ q)
    · rw [List.mem_singleton.mp hk] at hc
      have : b = c := Option.some.inj (hb.symm.trans hc)
      subst this
      exact .inr (List.mem_append_right _ (mem_fm.mpr hm)),
  fun s hs => by
    rcases h.start s hs with q | q
    · exact .inl (List.mem_append_left _ q)
    · rcases List.mem_append.mp q with q | q
      · exact .inr (List.mem_append_left _ q)
      · exact .inl (List.mem_append_right _ q)⟩
theorem Dw.all {bs : List (Int × Bx)} {l : List (Option Int)} {row : List Int} (h : Dw bs l row []) (n : Int) : n ∈ row ↔ From bs l n := by
  refine ⟨h.sound n, fun ⟨s, hs, p⟩ => ?_⟩
  have key : ∀ a z, Path bs a z → a ∈ row → z ∈ row := fun a z p => by
    induction p with
    | refl m => exact fun q => q
    | @step a c z e _ ih =>
      intro ha
      obtain ⟨x, hx, hc⟩ := e
      exact ih ((h.done a x ha hx c hc).resolve_right fun q => by cases q)
  exact key s n p ((h.start s hs).resolve_right fun q => by cases q)
theorem Dw.len {bs : List (Int × Bx)} {l : List (Option Int)} {row w : List Int} (h : Dw bs l row w) : row.length ≤ bs.length := by
  have := nodup_le (a := row) (b := keys bs) h.nd fun n hn => get_keys.mp (h.al n hn)
  rw [show (keys bs).length = bs.length from List.length_map _] at this
  exact this
/-- a dead one that is met was handed in -/
theorem Dw.dead {P : Pl} {v : List (Option Int)} {l : List (Option Int)} {row w : List Int} (W : Wf P v) (h : Dw P.boxes l row w) {n : Int} (hn : n ∈ w) (hd : get P.boxes n = none) : ∃ s, some s ∈ l ∧ get P.boxes s = none := by
  obtain ⟨s, hs, p⟩ := h.wsound n hn
  refine ⟨s, hs, ?_⟩
  cases q : get P.boxes s with
  | none => rfl
  | some b =>
    obtain ⟨c, hc⟩ := p.alive W ⟨b, q⟩
    rw [hc] at hd
    cases hd
theorem last_of {w : List Int} {y : Int} (h : w[w.length - 1]? = some y) : w = w.dropLast ++ [y] := by
  have hne : w ≠ [] := fun e => by rw [e] at h; cases h
  have h2 := List.dropLast_concat_getLast hne
  have h3 : w.getLast hne = y := by
    rw [List.getLast_eq_getElem]
    exact (List.getElem?_eq_some_iff.mp h).2
  rw [h3] at h2
  exact h2.symm
/-! ### the passes of a tidy -/
def lowr (bs : List (Int × Bx)) (c : Int → Nat) : List (Int × Bx) := bs.map fun e => (e.1, { e.2 with wt := e.2.wt - (c e.1 : Int) })
theorem get_lowr (bs : List (Int × Bx)) (c : Int → Nat) (n : Int) : get (lowr bs c) n = (get bs n).map fun b => { b with wt := b.wt - (c n : Int) } := get_mapv (fun k b => { b with wt := b.wt - (c k : Int) }) n bs
theorem lowr_0 (bs : List (Int × Bx)) : lowr bs (fun _ => 0) = bs := by
  unfold lowr
  induction bs with
  | nil => rfl
  | cons e bs ih =>
    rw [List.map_cons, ih]
    obtain ⟨n, ⟨a, b, c⟩⟩ := e
    show (n, (⟨a, b - ((0 : Nat) : Int), c⟩ : Bx)) :: bs = _
    rw [show b - ((0 : Nat) : Int) = b from by omega]
def less (b : Bx) : Bx := { b with wt := b.wt - 1 }
theorem chg_lowr (m : Int) (c c' : Int → Nat) (hc : ∀ n, c' n = c n + one (some m) n) : ∀ bs, chg (lowr bs c) m less = lowr bs c'
  | [] => rfl
  | e :: bs => by
    have ih := chg_lowr m c c' hc bs
    show (if e.1 = m then (e.1, less { e.2 with wt := e.2.wt - (c e.1 : Int) }) else (e.1, { e.2 with wt := e.2.wt - (c e.1 : Int) })) :: chg (lowr bs c) m less = (e.1, { e.2 with wt := e.2.wt - (c' e.1 : Int) }) :: lowr bs c'
    rw [ih]
    congr 1
    have h := hc e.1
    by_cases q : e.1 = m
    · rw [if_pos q]
      have o : one (some m) e.1 = 1 := by simp [one, q]
      unfold less
      show (e.1, (⟨e.2.slots, e.2.wt - (c e.1 : Int) - 1, e.2.sus⟩ : Bx)) = (e.1, (⟨e.2.slots, e.2.wt - (c' e.1 : Int), e.2.sus⟩ : Bx))
      rw [show e.2.wt - (c e.1 : Int) - 1 = e.2.wt - (c' e.1 : Int) from by omega]
    · rw [if_neg q]
      have o : one (some m) e.1 = 0 := by
        unfold one
        rw [if_neg (fun z => q (Option.some.inj z).symm)]
      rw [show c' e.1 = c e.1 from by omega]
theorem keys_lowr (bs : List (Int × Bx)) (c : Int → Nat) : keys (lowr bs c) = keys bs := by
  unfold keys lowr
  rw [List.map_map]
  rfl
/-- boxes beside the row -/
theorem rm_out (bs : List (Int × Bx)) (F : List Int) (n : Int) : rm (out bs F) n = out bs (F ++ [n]) := by
  unfold rm out
  rw [List.filter_filter]
  congr 1
  funext e
  by_cases h1 : e.1 = n <;> by_cases h2 : e.1 ∈ F <;> simp [h1, h2]
theorem out_nil (bs : List (Int × Bx)) : out bs [] = bs := by
  unfold out
  simp
theorem out_lowr (bs : List (Int × Bx)) (c : Int → Nat) (F : List Int) : out (lowr bs c) F = lowr (out bs F) c := by
  unfold out lowr
  rw [List.filter_map]
  rfl
def calm (b : Bx) : Bx := { b with sus := false }
/-- the first of them are no suspects -/
def calmed (bs : List (Int × Bx)) (S : List Int) : List (Int × Bx) := bs.map fun e => if e.1 ∈ S then (e.1, calm e.2) else e
theorem calmed_nil (bs : List (Int × Bx)) : calmed bs [] = bs := by
  unfold calmed
  simp
theorem chg_calmed (m : Int) (S : List Int) : ∀ bs, chg (calmed bs S) m calm = calmed bs (S ++ [m])
  | [] => rfl
  | e :: bs => by
    have ih := chg_calmed m S bs
    have e1 : ∀ (e : Int × Bx) (bs : List (Int × Bx)) (f : Bx → Bx), chg (e :: bs) m f = (if e.1 = m then (e.1, f e.2) else e) :: chg bs m f := fun _ _ _ => rfl
    show chg ((if e.1 ∈ S then (e.1, calm e.2) else e) :: calmed bs S) m calm = (if e.1 ∈ S ++ [m] then (e.1, calm e.2) else e) :: calmed bs (S ++ [m])
    rw [e1, ih]
    congr 1
    by_cases h1 : e.1 = m <;> by_cases h2 : e.1 ∈ S <;> simp [h1, h2, calm]
    all_goals first | done | (subst h1; simp_all)
theorem get_calmed (S : List Int) (n : Int) : ∀ bs, get (calmed bs S) n = (get bs n).map fun b => if n ∈ S then calm b else b
  | [] => rfl
  | e :: bs => by
    have ih := get_calmed S n bs
    show get ((if e.1 ∈ S then (e.1, calm e.2) else e) :: calmed bs S) n = _
    rw [get_cons, get_cons, ih]
    by_cases h1 : e.1 = n
    · have h2 : (if e.1 ∈ S then (e.1, calm e.2) else e).1 = n := by split <;> exact h1
      rw [if_pos h2, if_pos h1]
      by_cases h3 : e.1 ∈ S
      · rw [if_pos h3]
        rw [h1] at h3
        simp [h3]
      · rw [if_neg h3]
        rw [h1] at h3
        simp [h3]
    · have h2 : ¬ (if e.1 ∈ S then (e.1, calm e.2) else e).1 = n := by split <;> exact h1
      rw [if_neg h2, if_neg h1]
theorem keys_calmed (S : List Int) (bs : List (Int × Bx)) : keys (calmed bs S) = keys bs := by
  unfold keys calmed
  rw [List.map_map]
  congr 1
  funext e
  show (if e.1 ∈ S then (e.1, calm e.2) else e).1 = e.1
  split <;> rfl
/-- all three passes -/
theorem passes {P : Pl} {F : List Int} {c : Int → Nat} (hc : ∀ n, c n = scnt (inn P.boxes F) n) : calmed (lowr (out P.boxes F) c) (keys (lowr (out P.boxes F) c)) = (tidied P F).boxes := by
  have key : ∀ (bs : List (Int × Bx)) (S : List Int), (∀ e ∈ bs, e.1 ∈ S) → calmed (lowr bs c) S = bs.map fun e => (e.1, { e.2 with wt := e.2.wt - ((scnt (inn P.boxes F) e.1 : Nat) : Int), sus := false }) := fun bs S hS => by
    unfold calmed lowr
    rw [List.map_map]
    refine List.map_congr_left fun e he => ?_
    show (if e.1 ∈ S then _ else _) = _
    rw [if_pos (hS e he)]
    unfold calm
    simp only [hc]
  refine key _ _ fun e he => ?_
  rw [keys_lowr]
  exact List.mem_map.mpr ⟨e, he, rfl⟩
theorem inn_nil (bs : List (Int × Bx)) (n : Int) : scnt (inn bs []) n = 0 := by
  have : inn bs [] = [] := by unfold inn; simp
  rw [this]
  rfl
/-- one more box gone through -/
theorem scnt_inn_snoc {m : Int} {b : Bx} {F : List Int} (n : Int) : ∀ {bs : List (Int × Bx)}, (keys bs).Nodup → get bs m = some b → m ∉ F → scnt (inn bs (F ++ [m])) n = scnt (inn bs F) n + cnt b.slots n
  | [], _, h, _ => by simp [get_nil] at h
  | e :: bs, hn, h, hF => by
    have hn' : e.1 ∉ keys bs ∧ (keys bs).Nodup := by simpa [keys] using hn
    rw [get_cons] at h
    have e1 : ∀ F, scnt (inn (e :: bs) F) n = (if e.1 ∈ F then cnt e.2.slots n else 0) + scnt (inn bs F) n := fun F => by
      unfold inn
      rw [List.filter_cons]
      by_cases q : e.1 ∈ F
      · rw [if_pos (decide_eq_true q), if_pos q, scnt_cons]
      · rw [if_neg (by simp [q]), if_neg q]
        omega
    rw [e1, e1]
    by_cases h1 : e.1 = m
    · rw [if_pos h1] at h
      have eb : e.2 = b := Option.some.inj h
      have no : ∀ F', (∀ x, x ∈ F' ↔ x ∈ F ∨ x = m) → scnt (inn bs F') n = scnt (inn bs F) n := fun F' hF' => by
        congr 1
        unfold inn
        refine List.filter_congr fun x hx => ?_
        have : x.1 ≠ m := fun z => hn'.1 (by rw [h1, ← z]; exact List.mem_map.mpr ⟨x, hx, rfl⟩)
        have := hF' x.1
        by_cases q : x.1 ∈ F <;> simp_all
      rw [no (F ++ [m]) (fun x => by simp), if_pos (by simp [h1]), if_neg (by rw [h1]; exact hF), eb]
      omega
    · rw [if_neg h1] at h
      rw [scnt_inn_snoc n hn'.2 h hF]
      have : (e.1 ∈ F ++ [m]) ↔ e.1 ∈ F := by simp [h1]
      by_cases q : e.1 ∈ F
      · rw [if_pos q, if_pos (this.mpr q)]; omega
      · rw [if_neg q, if_neg (fun z => q (this.mp z))]; omega
end BP

/-! The pile as it lies in the heap. Own work. -/
namespace BP
open PySem L2

def oV : Option Int → V
  | none => .non
  | some n => .int n
def lV (l : List (Option Int)) : List V := l.map oV
theorem lV_get {l : List (Option Int)} {i : Nat} (h : i < l.length) : (lV l)[i]? = some (oV (l.getD i none)) := by
  unfold lV
  rw [List.getElem?_map, getD_some h]
  rfl
theorem lV_set (l : List (Option Int)) (i : Nat) (x : Option Int) : (lV l).set i (oV x) = lV (l.set i x) := by
  unfold lV
  rw [List.map_set]
theorem lV_len (l : List (Option Int)) : (lV l).length = l.length := List.length_map _

/-! ### the attributes -/
theorem s_hb : ¬ (("_hands" : Str) = "_boxes") := by decide +kernel
theorem s_hm : ¬ (("_hands" : Str) = "_made") := by decide +kernel
theorem s_bm : ¬ (("_boxes" : Str) = "_made") := by decide +kernel
theorem s_bh : ¬ (("_boxes" : Str) = "_hands") := by decide +kernel
theorem s_sw : ¬ (("slots" : Str) = "weight") := by decide +kernel
theorem s_ss : ¬ (("slots" : Str) = "suspect") := by decide +kernel
theorem s_ws : ¬ (("weight" : Str) = "suspect") := by decide +kernel
theorem s_hs : ¬ (("_hands" : Str) = "slots") := by decide +kernel
def pf (lh db : Addr) (m : Int) : List (Str × V) := putF "_made" (.int m) (putF "_boxes" (.ref db) (putF "_hands" (.ref lh) []))
theorem pf_eq (lh db : Addr) (m : Int) : pf lh db m = ([("_hands", V.ref lh), ("_boxes", V.ref db), ("_made", V.int m)] : List (Str × V)) := by
  show (putF "_made" (.int m) (if ("_hands" : Str) = "_boxes" then [(("_hands" : Str), V.ref db)] else (("_hands" : Str), V.ref lh) :: [(("_boxes" : Str), V.ref db)])) = _
  rw [if_neg s_hb]
  show (if ("_hands" : Str) = "_made" then _ else (("_hands" : Str), V.ref lh) :: (if ("_boxes" : Str) = "_made" then _ else (("_boxes" : Str), V.ref db) :: [(("_made" : Str), V.int m)])) = _
  rw [if_neg s_hm, if_neg s_bm]
theorem pf_hands (lh db : Addr) (m : Int) : (pf lh db m).lookup ("_hands" : Str) = some (.ref lh) := by
  unfold pf
  rw [lookup_putF, if_neg s_hm, lookup_putF, if_neg s_hb, lookup_putF, if_pos rfl]
theorem pf_boxes (lh db : Addr) (m : Int) : (pf lh db m).lookup ("_boxes" : Str) = some (.ref db) := by
  unfold pf
  rw [lookup_putF, if_neg s_bm, lookup_putF, if_pos rfl]
theorem pf_made (lh db : Addr) (m : Int) : (pf lh db m).lookup ("_made" : Str) = some (.int m) := by
  unfold pf
  rw [lookup_putF, if_pos rfl]
theorem pf_no (lh db : Addr) (m : Int) {x : Str} (h1 : ¬ x = "_made") (h2 : ¬ x = "_boxes") (h3 : ¬ x = "_hands") : (pf lh db m).lookup x = none := by
  unfold pf
  rw [lookup_putF, if_neg h1, lookup_putF, if_neg h2, lookup_putF, if_neg h3]
  rfl
theorem pf_put (lh db : Addr) (m z : Int) : putF "_made" (.int z) (pf lh db m) = pf lh db z := by
  rw [pf_eq, pf_eq]
  show (if ("_hands" : Str) = "_made" then _ else (("_hands" : Str), V.ref lh) :: (if ("_boxes" : Str) = "_made" then _ else (("_boxes" : Str), V.ref db) :: (if ("_made" : Str) = "_made" then [(("_made" : Str), V.int z)] else _))) = _
  rw [if_neg s_hm, if_neg s_bm, if_pos rfl]
theorem pf_len (lh db : Addr) (m : Int) : (pf lh db m).length = 3 := by rw [pf_eq]; rfl
def bf (sl : Addr) (w : Int) (s : Bool) : List (Str × V) := putF "suspect" (.bl s) (putF "weight" (.int w) (putF "slots" (.ref sl) []))
theorem bf_eq (sl : Addr) (w : Int) (s : Bool) : bf sl w s = ([("slots", V.ref sl), ("weight", V.int w), ("suspect", V.bl s)] : List (Str × V)) := by
  show (putF "suspect" (.bl s) (if ("slots" : Str) = "weight" then [(("slots" : Str), V.int w)] else (("slots" : Str), V.ref sl) :: [(("weight" : Str), V.int w)])) = _
  rw [if_neg s_sw]
  show (if ("slots" : Str) = "suspect" then _ else (("slots" : Str), V.ref sl) :: (if ("weight" : Str) = "suspect" then _ else (("weight" : Str), V.int w) :: [(("suspect" : Str), V.bl s)])) = _
  rw [if_neg s_ss, if_neg s_ws]
theorem bf_slots (sl : Addr) (w : Int) (s : Bool) : (bf sl w s).lookup ("slots" : Str) = some (.ref sl) := by
  unfold bf
  rw [lookup_putF, if_neg s_ss, lookup_putF, if_neg s_sw, lookup_putF, if_pos rfl]
theorem bf_weight (sl : Addr) (w : Int) (s : Bool) : (bf sl w s).lookup ("weight" : Str) = some (.int w) := by
  unfold bf
  rw [lookup_putF, if_neg s_ws, lookup_putF, if_pos rfl]
theorem bf_suspect (sl : Addr) (w : Int) (s : Bool) : (bf sl w s).lookup ("suspect" : Str) = some (.bl s) := by
  unfold bf
  rw [lookup_putF, if_pos rfl]
theorem bf_putw (sl : Addr) (w z : Int) (s : Bool) : putF "weight" (.int z) (bf sl w s) = bf sl z s := by
  rw [bf_eq, bf_eq]
  show (if ("slots" : Str) = "weight" then _ else (("slots" : Str), V.ref sl) :: (if ("weight" : Str) = "weight" then (("weight" : Str), V.int z) :: [(("suspect" : Str), V.bl s)] else _)) = _
  rw [if_neg s_sw, if_pos rfl]
theorem bf_puts (sl : Addr) (w : Int) (s t : Bool) : putF "suspect" (.bl t) (bf sl w s) = bf sl w t := by
  rw [bf_eq, bf_eq]
  show (if ("slots" : Str) = "suspect" then _ else (("slots" : Str), V.ref sl) :: (if ("weight" : Str) = "suspect" then _ else (("weight" : Str), V.int w) :: (if ("suspect" : Str) = "suspect" then [(("suspect" : Str), V.bl t)] else _))) = _
  rw [if_neg s_ss, if_neg s_ws, if_pos rfl]
theorem bf_len (sl : Addr) (w : Int) (s : Bool) : (bf sl w s).length = 3 := by rw [bf_eq]; rfl
theorem pf_bf (lh db sl : Addr) (m w : Int) (s : Bool) : pf lh db m ≠ bf sl w s := by
  rw [pf_eq, bf_eq]
  intro q
  injection q with q1 q2
  injection q1 with q3 q4
  exact s_hs q3

/-! ### the dict of the boxes -/
def dV (ba : Int → Addr) (bs : List (Int × Bx)) : List (Key × V) := bs.map fun e => ((Sum.inl e.1 : Key), V.ref (ba e.1))
theorem dV_cons (ba : Int → Addr) (e : Int × Bx) (bs : List (Int × Bx)) : dV ba (e :: bs) = ((Sum.inl e.1 : Key), V.ref (ba e.1)) :: dV ba bs := rfl
theorem valV_dV (ba : Int → Addr) (n : Int) : ∀ bs, valV (dV ba bs) (Sum.inl n : Key) = (get bs n).map fun _ => V.ref (ba n)
  | [] => rfl
  | e :: bs => by
    rw [dV_cons, get_cons]
    by_cases h : e.1 = n
    · rw [valV_pos (by rw [h]), if_pos h, h]
      rfl
    · rw [valV_neg (by intro q; injection q with q; exact h q), if_neg h]
      exact valV_dV ba n bs
theorem dV_len (ba : Int → Addr) (bs : List (Int × Bx)) : (dV ba bs).length = bs.length := List.length_map _
theorem dV_keys (ba : Int → Addr) (bs : List (Int × Bx)) : (dV ba bs).map (·.1) = (keys bs).map Sum.inl := by
  unfold dV keys
  rw [List.map_map, List.map_map]
  rfl
theorem dV_chg (ba : Int → Addr) (n : Int) (f : Bx → Bx) : ∀ bs, dV ba (chg bs n f) = dV ba bs
  | [] => rfl
  | e :: bs => by
    have ih := dV_chg ba n f bs
    have e1 : chg (e :: bs) n f = (if e.1 = n then (e.1, f e.2) else e) :: chg bs n f := rfl
    rw [e1, dV_cons, dV_cons, ih]
    by_cases h : e.1 = n <;> simp [h]
theorem dV_rm (ba : Int → Addr) (n : Int) : ∀ bs, dropK (dV ba bs) (Sum.inl n : Key) = dV ba (rm bs n)
  | [] => rfl
  | e :: bs => by
    have ih := dV_rm ba n bs
    rw [dV_cons]
    by_cases h : e.1 = n
    · have e1 : rm (e :: bs) n = rm bs n := by unfold rm; simp [List.filter_cons, h]
      rw [dropK_pos (by rw [h]), e1, ih]
    · have e1 : rm (e :: bs) n = e :: rm bs n := by unfold rm; simp [List.filter_cons, h]
      rw [dropK_neg (by intro q; injection q with q; exact h q), e1, ih]
      rfl
theorem dV_agree {ba bb : Int → Addr} : ∀ {bs : List (Int × Bx)}, (∀ n ∈ keys bs, ba n = bb n) → dV ba bs = dV bb bs
  | [], _ => rfl
  | e :: bs, h => by
    rw [dV_cons, dV_cons, h e.1 (by simp [keys]), dV_agree fun n hn => h n (by simp only [keys, List.map_cons, List.mem_cons]; exact .inr hn)]
theorem dV_snoc (ba : Int → Addr) (n : Int) (b : Bx) (bs : List (Int × Bx)) : dV ba (bs ++ [(n, b)]) = dV ba bs ++ [((Sum.inl n : Key), V.ref (ba n))] := by
  unfold dV
  rw [List.map_append]
  rfl

/-! ### the pile in the heap -/
/-- where the parts lie: the own dict, the hands' list, the boxes' dict, each box's own dict, each box, its slots' list -/
structure Geo where
  dx : Addr
  lh : Addr
  db : Addr
  bd : Int → Addr
  ba : Int → Addr
  sa : Int → Addr
/-- the pile P lies at p in H as g tells; R: what else of H is known, none of it the pile's -/
structure PileAt (C B p : Addr) (g : Geo) (P : Pl) (R H : Hp) : Prop where
  same : Same R H
  rp : R p = none
  rh : R g.lh = none
  rd : R g.db = none
  rb : ∀ n b, get P.boxes n = some b → R (g.ba n) = none
  rs : ∀ n b, get P.boxes n = some b → R (g.sa n) = none
  hp : H p = some (.ins C g.dx (pf g.lh g.db P.made))
  hh : H g.lh = some (.lst (lV P.hands))
  hd : H g.db = some (.dK (dV g.ba P.boxes))
  hb : ∀ n b, get P.boxes n = some b → H (g.ba n) = some (.ins B (g.bd n) (bf (g.sa n) b.wt b.sus))
  hs : ∀ n b, get P.boxes n = some b → H (g.sa n) = some (.lst (lV b.slots))
  ib : ∀ n m b c, get P.boxes n = some b → get P.boxes m = some c → g.ba n = g.ba m → n = m
  is : ∀ n m b c, get P.boxes n = some b → get P.boxes m = some c → g.sa n = g.sa m → n = m
  hn : ∀ n b, get P.boxes n = some b → g.sa n ≠ g.lh
section
variable {C B p : Addr} {g : Geo} {P : Pl} {R R' H : Hp}
theorem ins_ne_lst {C dx : Addr} {fs : List (Str × V)} {xs : List V} : HO.ins C dx fs ≠ HO.lst xs := by intro q; cases q
theorem ins_ne_dK {C dx : Addr} {fs : List (Str × V)} {xs : List (Key × V)} : HO.ins C dx fs ≠ HO.dK xs := by intro q; cases q
theorem lst_ne_dK {ys : List V} {xs : List (Key × V)} : HO.lst ys ≠ HO.dK xs := by intro q; cases q
theorem PileAt.p_lh (A : PileAt C B p g P R H) : p ≠ g.lh := ne_of A.hp A.hh ins_ne_lst
theorem PileAt.p_db (A : PileAt C B p g P R H) : p ≠ g.db := ne_of A.hp A.hd ins_ne_dK
theorem PileAt.lh_db (A : PileAt C B p g P R H) : g.lh ≠ g.db := ne_of A.hh A.hd lst_ne_dK
theorem PileAt.p_ba (A : PileAt C B p g P R H) {n : Int} {b : Bx} (h : get P.boxes n = some b) : p ≠ g.ba n := ne_of A.hp (A.hb n b h) fun q => by
  injection q with _ _ q
  exact pf_bf _ _ _ _ _ _ q
theorem PileAt.p_sa (A : PileAt C B p g P R H) {n : Int} {b : Bx} (h : get P.boxes n = some b) : p ≠ g.sa n := ne_of A.hp (A.hs n b h) ins_ne_lst
theorem PileAt.ba_lh (A : PileAt C B p g P R H) {n : Int} {b : Bx} (h : get P.boxes n = some b) : g.ba n ≠ g.lh := ne_of (A.hb n b h) A.hh ins_ne_lst
theorem PileAt.ba_db (A : PileAt C B p g P R H) {n : Int} {b : Bx} (h : get P.boxes n = some b) : g.ba n ≠ g.db := ne_of (A.hb n b h) A.hd ins_ne_dK
theorem PileAt.sa_db (A : PileAt C B p g P R H) {n : Int} {b : Bx} (h : get P.boxes n = some b) : g.sa n ≠ g.db := ne_of (A.hs n b h) A.hd lst_ne_dK
theorem PileAt.ba_sa (A : PileAt C B p g P R H) {n m : Int} {b c : Bx} (h : get P.boxes n = some b) (h2 : get P.boxes m = some c) : g.ba n ≠ g.sa m := ne_of (A.hb n b h) (A.hs m c h2) ins_ne_lst

/-- less is known -/
theorem PileAt.less (A : PileAt C B p g P R H) (s : Same R' R) : PileAt C B p g P R' H :=
  ⟨s.trans A.same, s.free A.rp, s.free A.rh, s.free A.rd, fun n b h => s.free (A.rb n b h), fun n b h => s.free (A.rs n b h), A.hp, A.hh, A.hd, A.hb, A.hs, A.ib, A.is, A.hn⟩
/-- the heap has grown -/
theorem PileAt.grow {H' : Hp} (A : PileAt C B p g P R H) (s : Same H H') : PileAt C B p g P R H' :=
  ⟨A.same.trans s, A.rp, A.rh, A.rd, A.rb, A.rs, s _ _ A.hp, s _ _ A.hh, s _ _ A.hd, fun n b e => s _ _ (A.hb n b e), fun n b e => s _ _ (A.hs n b e), A.ib, A.is, A.hn⟩
theorem same_upd {a : Addr} {o : HO} (h : R a = none) : Same R (upd R a o) := fun b u e => by
  rw [upd_ne (ne_of_none e h)]
  exact e
theorem upd_upd {a : Addr} {o u : HO} : upd (upd H a o) a u = upd H a u := by
  funext b
  by_cases h : b = a
  · rw [h, upd_same, upd_same]
  · rw [upd_ne h, upd_ne h, upd_ne h]
/-- a new object, known -/
theorem PileAt.new (A : PileAt C B p g P R H) {a : Addr} {o : HO} (h : H a = none) : PileAt C B p g P (upd R a o) (upd H a o) := by
  have n1 : ∀ {b u}, H b = some u → b ≠ a := fun e => ne_of_none e h
  refine ⟨fun b u e => ?_, ?_, ?_, ?_, fun n b e => ?_, fun n b e => ?_, ?_, ?_, ?_, fun n b e => ?_, fun n b e => ?_, A.ib, A.is, A.hn⟩
  · by_cases q : b = a
    · rw [q, upd_same] at e ⊢
      exact e
    · rw [upd_ne q] at e ⊢
      exact A.same b u e
  · rw [upd_ne (n1 A.hp)]; exact A.rp
  · rw [upd_ne (n1 A.hh)]; exact A.rh
  · rw [upd_ne (n1 A.hd)]; exact A.rd
  · rw [upd_ne (n1 (A.hb n b e))]; exact A.rb n b e
  · rw [upd_ne (n1 (A.hs n b e))]; exact A.rs n b e
  · rw [upd_ne (n1 A.hp)]; exact A.hp
  · rw [upd_ne (n1 A.hh)]; exact A.hh
  · rw [upd_ne (n1 A.hd)]; exact A.hd
  · rw [upd_ne (n1 (A.hb n b e))]; exact A.hb n b e
  · rw [upd_ne (n1 (A.hs n b e))]; exact A.hs n b e
/-- a known object is changed -/
theorem PileAt.set (A : PileAt C B p g P R H) {a : Addr} {o u : HO} (h : R a = some u) : PileAt C B p g P (upd R a o) (upd H a o) := by
  have n1 : ∀ {b}, R b = none → b ≠ a := fun e q => by rw [q, h] at e; cases e
  refine ⟨fun b u e => ?_, ?_, ?_, ?_, fun n b e => ?_, fun n b e => ?_, ?_, ?_, ?_, fun n b e => ?_, fun n b e => ?_, A.ib, A.is, A.hn⟩
  · by_cases q : b = a
    · rw [q, upd_same] at e ⊢
      exact e
    · rw [upd_ne q] at e ⊢
      exact A.same b u e
  · rw [upd_ne (n1 A.rp)]; exact A.rp
  · rw [upd_ne (n1 A.rh)]; exact A.rh
  · rw [upd_ne (n1 A.rd)]; exact A.rd
  · rw [upd_ne (n1 (A.rb n b e))]; exact A.rb n b e
  · rw [upd_ne (n1 (A.rs n b e))]; exact A.rs n b e
  · rw [upd_ne (n1 A.rp)]; exact A.hp
  · rw [upd_ne (n1 A.rh)]; exact A.hh
  · rw [upd_ne (n1 A.rd)]; exact A.hd
  · rw [upd_ne (n1 (A.rb n b e))]; exact A.hb n b e
  · rw [upd_ne (n1 (A.rs n b e))]; exact A.hs n b e
/-- a hand is set -/
theorem PileAt.hand (A : PileAt C B p g P R H) (hs : List (Option Int)) : PileAt C B p g { P with hands := hs } R (upd H g.lh (.lst (lV hs))) :=
  ⟨fun b u e => by rw [upd_ne (ne_of_none e A.rh)]; exact A.same b u e, A.rp, A.rh, A.rd, A.rb, A.rs, by rw [upd_ne A.p_lh]; exact A.hp, upd_same, by rw [upd_ne A.lh_db.symm]; exact A.hd,
    fun n b e => by rw [upd_ne (A.ba_lh e)]; exact A.hb n b e, fun n b e => by rw [upd_ne (A.hn n b e)]; exact A.hs n b e, A.ib, A.is, A.hn⟩
/-- what is known of the box n is changed, its slots are not -/
theorem PileAt.box (A : PileAt C B p g P R H) {n : Int} {b : Bx} (hb : get P.boxes n = some b) (f : Bx → Bx) (hf : (f b).slots = b.slots) :
    PileAt C B p g { P with boxes := chg P.boxes n f } R (upd H (g.ba n) (.ins B (g.bd n) (bf (g.sa n) (f b).wt (f b).sus))) := by
  have old : ∀ {m c}, get (chg P.boxes n f) m = some c → ∃ d, get P.boxes m = some d ∧ c = (if m = n then f d else d) := fun {m c} e => by
    rw [get_chg] at e
    cases q : get P.boxes m with
    | none => rw [q] at e; cases e
    | some d =>
      rw [q] at e
      exact ⟨d, rfl, (Option.some.inj e).symm⟩
  refine ⟨fun c u e => ?_, A.rp, A.rh, A.rd, fun m c e => ?_, fun m c e => ?_, ?_, ?_, ?_, fun m c e => ?_, fun m c e => ?_, fun m k c d e1 e2 => ?_, fun m k c d e1 e2 => ?_, fun m c e => ?_⟩
  · rw [upd_ne (ne_of_none e (A.rb n b hb))]; exact A.same c u e
  · obtain ⟨d, hd, _⟩ := old e; exact A.rb m d hd
  · obtain ⟨d, hd, _⟩ := old e; exact A.rs m d hd
  · rw [upd_ne (A.p_ba hb)]; exact A.hp
  · rw [upd_ne (A.ba_lh hb).symm]; exact A.hh
  · rw [upd_ne (A.ba_db hb).symm]
    show H g.db = some (.dK (dV g.ba (chg P.boxes n f)))
    rw [dV_chg]; exact A.hd
  · obtain ⟨d, hd, rfl⟩ := old e
    by_cases q : m = n
    · subst q
      have : d = b := Option.some.inj (hd.symm.trans hb)
      subst this
      rw [upd_same, if_pos rfl]
    · rw [if_neg q, upd_ne (fun z => q (A.ib m n d b hd hb z))]
      exact A.hb m d hd
  · obtain ⟨d, hd, rfl⟩ := old e
    rw [upd_ne (A.ba_sa hb hd).symm, A.hs m d hd]
    by_cases q : m = n
    · subst q
      have : d = b := Option.some.inj (hd.symm.trans hb)
      subst this
      rw [if_pos rfl, hf]
    · rw [if_neg q]
  · obtain ⟨d1, h1, _⟩ := old e1
    obtain ⟨d2, h2, _⟩ := old e2
    exact A.ib m k d1 d2 h1 h2
  · obtain ⟨d1, h1, _⟩ := old e1
    obtain ⟨d2, h2, _⟩ := old e2
    exact A.is m k d1 d2 h1 h2
  · obtain ⟨d, hd, _⟩ := old e; exact A.hn m d hd
/-- a slot of the box n is set -/
theorem PileAt.slot (A : PileAt C B p g P R H) {n : Int} {b : Bx} (hb : get P.boxes n = some b) (i : Nat) (x : Option Int) :
    PileAt C B p g { P with boxes := chg P.boxes n (setSlot i x) } R (upd H (g.sa n) (.lst (lV (b.slots.set i x)))) := by
  have old : ∀ {m c}, get (chg P.boxes n (setSlot i x)) m = some c → ∃ d, get P.boxes m = some d ∧ c = (if m = n then setSlot i x d else d) := fun {m c} e => by
    rw [get_chg] at e
    cases q : get P.boxes m with
    | none => rw [q] at e; cases e
    | some d =>
      rw [q] at e
      exact ⟨d, rfl, (Option.some.inj e).symm⟩
  refine ⟨fun c u e => ?_, A.rp, A.rh, A.rd, fun m c e => ?_, fun m c e => ?_, ?_, ?_, ?_, fun m c e => ?_, fun m c e => ?_, fun m k c d e1 e2 => ?_, fun m k c d e1 e2 => ?_, fun m c e => ?_⟩
  · rw [upd_ne (ne_of_none e (A.rs n b hb))]; exact A.same c u e
  · obtain ⟨d, hd, _⟩ := old e; exact A.rb m d hd
  · obtain ⟨d, hd, _⟩ := old e; exact A.rs m d hd
  · rw [upd_ne (A.p_sa hb)]; exact A.hp
  · rw [upd_ne (A.hn n b hb).symm]; exact A.hh
  · rw [upd_ne (A.sa_db hb).symm]
    show H g.db = some (.dK (dV g.ba (chg P.boxes n (setSlot i x))))
    rw [dV_chg]; exact A.hd
  · obtain ⟨d, hd, rfl⟩ := old e
    rw [upd_ne (A.ba_sa hd hb), A.hb m d hd]
    by_cases q : m = n
    · rw [if_pos q]; rfl
    · rw [if_neg q]
  · obtain ⟨d, hd, rfl⟩ := old e
    by_cases q : m = n
    · subst q
      have : d = b := Option.some.inj (hd.symm.trans hb)
      subst this
      rw [upd_same, if_pos rfl]
      rfl
    · rw [if_neg q, upd_ne (fun z => q (A.is m n d b hd hb z))]
      exact A.hs m d hd
  · obtain ⟨d1, h1, _⟩ := old e1
    obtain ⟨d2, h2, _⟩ := old e2
    exact A.ib m k d1 d2 h1 h2
  · obtain ⟨d1, h1, _⟩ := old e1
    obtain ⟨d2, h2, _⟩ := old e2
    exact A.is m k d1 d2 h1 h2
  · obtain ⟨d, hd, _⟩ := old e; exact A.hn m d hd
/-- a box goes -/
theorem PileAt.del (A : PileAt C B p g P R H) (n : Int) : PileAt C B p g { P with boxes := rm P.boxes n } R (upd H g.db (.dK (dropK (dV g.ba P.boxes) (Sum.inl n)))) := by
  have old : ∀ {m c}, get (rm P.boxes n) m = some c → get P.boxes m = some c := fun {m c} e => by
    rw [get_rm] at e
    by_cases q : m = n
    · rw [if_pos q] at e; cases e
    · rw [if_neg q] at e; exact e
  refine ⟨fun c u e => ?_, A.rp, A.rh, A.rd, fun m c e => A.rb m c (old e), fun m c e => A.rs m c (old e), ?_, ?_, ?_, fun m c e => ?_, fun m c e => ?_, fun m k c d e1 e2 => A.ib m k c d (old e1) (old e2), fun m k c d e1 e2 => A.is m k c d (old e1) (old e2), fun m c e => A.hn m c (old e)⟩
  · rw [upd_ne (ne_of_none e A.rd)]; exact A.same c u e
  · rw [upd_ne A.p_db]; exact A.hp
  · rw [upd_ne A.lh_db]; exact A.hh
  · rw [upd_same, dV_rm]
  · rw [upd_ne (A.ba_db (old e))]; exact A.hb m c (old e)
  · rw [upd_ne (A.sa_db (old e))]; exact A.hs m c (old e)
/-- one more is made -/
theorem PileAt.count (A : PileAt C B p g P R H) (m : Int) : PileAt C B p g { P with made := m } R (upd H p (.ins C g.dx (pf g.lh g.db m))) := by
  refine ⟨fun c u e => ?_, A.rp, A.rh, A.rd, A.rb, A.rs, upd_same, ?_, ?_, fun m c e => ?_, fun m c e => ?_, A.ib, A.is, A.hn⟩
  · rw [upd_ne (ne_of_none e A.rp)]; exact A.same c u e
  · rw [upd_ne A.p_lh.symm]; exact A.hh
  · rw [upd_ne A.p_db.symm]; exact A.hd
  · rw [upd_ne (A.p_ba e).symm]; exact A.hb m c e
  · rw [upd_ne (A.p_sa e).symm]; exact A.hs m c e
/-- a new box, known till now as an object of its own, is laid into the dict -/
theorem PileAt.add (A : PileAt C B p g P R H) {n : Int} {b : Bx} {x dx sl : Addr} (hn : get P.boxes n = none) (hx : R x = some (.ins B dx (bf sl b.wt b.sus))) (hsl : R sl = some (.lst (lV b.slots))) (hR : Same R' R) (rx : R' x = none) (rsl : R' sl = none) :
    PileAt C B p { g with bd := fun m => if m = n then dx else g.bd m, ba := fun m => if m = n then x else g.ba m, sa := fun m => if m = n then sl else g.sa m } { P with boxes := P.boxes ++ [(n, b)] } R' (upd H g.db (.dK (putK (dV g.ba P.boxes) (Sum.inl n) (.ref x)))) := by
  have hx' := A.same _ _ hx
  have hsl' := A.same _ _ hsl
  have gm : ∀ m, get (P.boxes ++ [(n, b)]) m = if m = n then some b else get P.boxes m := fun m => by
    rw [get_snoc]
    by_cases q : m = n
    · rw [q, hn, if_pos rfl]
    · have : ¬ n = m := fun z => q z.symm
      rw [if_neg q]
      cases get P.boxes m <;> simp [this]
  have old : ∀ {m c}, get (P.boxes ++ [(n, b)]) m = some c → (m = n ∧ c = b) ∨ (m ≠ n ∧ get P.boxes m = some c) := fun {m c} e => by
    rw [gm] at e
    by_cases q : m = n
    · rw [if_pos q] at e; exact .inl ⟨q, (Option.some.inj e).symm⟩
    · rw [if_neg q] at e; exact .inr ⟨q, e⟩
  have nba : ∀ {m c}, get P.boxes m = some c → g.ba m ≠ x := fun e q => by have := A.rb _ _ e; rw [q, hx] at this; cases this
  have nsa : ∀ {m c}, get P.boxes m = some c → g.sa m ≠ sl := fun e q => by have := A.rs _ _ e; rw [q, hsl] at this; cases this
  refine ⟨fun c u e => ?_, hR.free A.rp, hR.free A.rh, hR.free A.rd, fun m c e => ?_, fun m c e => ?_, ?_, ?_, ?_, fun m c e => ?_, fun m c e => ?_, fun m k c d e1 e2 => ?_, fun m k c d e1 e2 => ?_, fun m c e => ?_⟩
  · show upd H g.db _ c = _
    rw [upd_ne (ne_of_none e (hR.free A.rd))]; exact A.same c u (hR c u e)
  · show R' (if m = n then x else g.ba m) = none
    rcases old e with ⟨rfl, _⟩ | ⟨q, e'⟩
    · rw [if_pos rfl]; exact rx
    · rw [if_neg q]; exact hR.free (A.rb m c e')
  · show R' (if m = n then sl else g.sa m) = none
    rcases old e with ⟨rfl, _⟩ | ⟨q, e'⟩
    · rw [if_pos rfl]; exact rsl
    · rw [if_neg q]; exact hR.free (A.rs m c e')
  · show upd H g.db _ p = _
    rw [upd_ne A.p_db]; exact A.hp
  · show upd H g.db _ g.lh = _
    rw [upd_ne A.lh_db]; exact A.hh
  · show upd H g.db _ g.db = _
    rw [upd_same, putK_new _ (by rw [valV_dV, hn]; rfl)]
    show some (HO.dK (dV g.ba P.boxes ++ [((Sum.inl n : Key), V.ref x)])) = some (HO.dK (dV (fun m => if m = n then x else g.ba m) (P.boxes ++ [(n, b)])))
    rw [dV_snoc, dV_agree (ba := fun m => if m = n then x else g.ba m) (bb := g.ba) (fun m hm => by
      have : m ≠ n := fun z => by rw [z] at hm; exact get_none.mp hn hm
      show (if m = n then x else g.ba m) = _
      rw [if_neg this])]
    show _ = some (HO.dK (dV g.ba P.boxes ++ [((Sum.inl n : Key), V.ref (if n = n then x else g.ba n))]))
    rw [if_pos rfl]
  · show upd H g.db _ (if m = n then x else g.ba m) = some (.ins B (if m = n then dx else g.bd m) (bf (if m = n then sl else g.sa m) c.wt c.sus))
    rcases old e with ⟨rfl, rfl⟩ | ⟨q, e'⟩
    · rw [if_pos rfl, if_pos rfl, if_pos rfl, upd_ne (ne_of hx' A.hd ins_ne_dK)]; exact hx'
    · rw [if_neg q, if_neg q, if_neg q, upd_ne (A.ba_db e')]; exact A.hb m c e'
  · show upd H g.db _ (if m = n then sl else g.sa m) = some (.lst (lV c.slots))
    rcases old e with ⟨rfl, rfl⟩ | ⟨q, e'⟩
    · rw [if_pos rfl, upd_ne (ne_of hsl' A.hd lst_ne_dK)]; exact hsl'
    · rw [if_neg q, upd_ne (A.sa_db e')]; exact A.hs m c e'
  · show (if m = n then x else g.ba m) = (if k = n then x else g.ba k) → m = k
    rcases old e1 with ⟨rfl, _⟩ | ⟨q1, h1⟩
    · rcases old e2 with ⟨rfl, _⟩ | ⟨q2, h2⟩
      · intro _; rfl
      · rw [if_pos rfl, if_neg q2]
        intro z
        exact absurd z.symm (nba h2)
    · rcases old e2 with ⟨rfl, _⟩ | ⟨q2, h2⟩
      · rw [if_pos rfl, if_neg q1]
        intro z
        exact absurd z (nba h1)
      · rw [if_neg q1, if_neg q2]
        exact A.ib m k c d h1 h2
  · show (if m = n then sl else g.sa m) = (if k = n then sl else g.sa k) → m = k
    rcases old e1 with ⟨rfl, _⟩ | ⟨q1, h1⟩
    · rcases old e2 with ⟨rfl, _⟩ | ⟨q2, h2⟩
      · intro _; rfl
      · rw [if_pos rfl, if_neg q2]
        intro z
        exact absurd z.symm (nsa h2)
    · rcases old e2 with ⟨rfl, _⟩ | ⟨q2, h2⟩
      · rw [if_pos rfl, if_neg q1]
        intro z
        exact absurd z (nsa h1)
      · rw [if_neg q1, if_neg q2]
        exact A.is m k c d h1 h2
  · show (if m = n then sl else g.sa m) ≠ g.lh
    rcases old e with ⟨rfl, _⟩ | ⟨q, e'⟩
    · rw [if_pos rfl]
      intro z
      have := A.rh
      rw [← z, hsl] at this
      cases this
    · rw [if_neg q]; exact A.hn m c e'
end
/-- the pile P lies at p, its weights right; R: what else is known -/
def PileIn (C B p : Addr) (P : Pl) (R H : Hp) : Prop := (∃ g, PileAt C B p g P R H) ∧ Wf P []
end BP

/-! Deeds, and what a deed makes of a pile. Own work. -/
namespace BP
open PySem L2
inductive Deed where
  | make (h z : Int) | hold (h o : Int) | drop (h : Int) | put (h s o : Int) | empty (h s : Int) | take (h o s : Int) | tidy
def Deed.vs : Deed → List V
  | .make h z => [.str "make", .int h, .int z]
  | .hold h o => [.str "hold", .int h, .int o]
  | .drop h => [.str "drop", .int h]
  | .put h s o => [.str "put", .int h, .int s, .int o]
  | .empty h s => [.str "empty", .int h, .int s]
  | .take h o s => [.str "take", .int h, .int o, .int s]
  | .tidy => [.str "tidy"]
def Deed.InZ (few y : Int) : Deed → Prop
  | .make h z => (0 ≤ h ∧ h < few) ∧ (0 ≤ z ∧ z < y)
  | .hold h o => (0 ≤ h ∧ h < few) ∧ (0 ≤ o ∧ o < few)
  | .drop h => 0 ≤ h ∧ h < few
  | .put h s o => (0 ≤ h ∧ h < few) ∧ (0 ≤ s ∧ s < y) ∧ (0 ≤ o ∧ o < few)
  | .empty h s => (0 ≤ h ∧ h < few) ∧ (0 ≤ s ∧ s < y)
  | .take h o s => (0 ≤ h ∧ h < few) ∧ (0 ≤ o ∧ o < few) ∧ (0 ≤ s ∧ s < y)
  | .tidy => True
abbrev Deed.In (few : Int) (d : Deed) : Prop := d.InZ few 8
/-- all that no hand leads to, rising -/
noncomputable def deadF (P : Pl) : List Int := (keys P.boxes).filter fun n => @decide (¬ HL P n) (Classical.propDecidable _)
theorem mem_deadF {P : Pl} {n : Int} : n ∈ deadF P ↔ (∃ b, get P.boxes n = some b) ∧ ¬ HL P n := by
  unfold deadF
  rw [List.mem_filter, get_keys]
  constructor
  · rintro ⟨h1, h2⟩
    exact ⟨h1, @of_decide_eq_true _ (Classical.propDecidable _) h2⟩
  · rintro ⟨h1, h2⟩
    exact ⟨h1, @decide_eq_true _ (Classical.propDecidable _) h2⟩
theorem dead_deadF (P : Pl) : Dead P (deadF P) := fun n => mem_deadF
theorem deadF_sorted {P : Pl} {w : List (Option Int)} (W : Wf P w) : (deadF P).Pairwise (· < ·) := W.ks.filter _
theorem sorted_ext : ∀ {a b : List Int}, a.Pairwise (· < ·) → b.Pairwise (· < ·) → (∀ n, n ∈ a ↔ n ∈ b) → a = b
  | [], [], _, _, _ => rfl
  | [], y :: b, _, _, h => by have := (h y).mpr List.mem_cons_self; cases this
  | x :: a, [], _, _, h => by have := (h x).mp List.mem_cons_self; cases this
  | x :: a, y :: b, ha, hb, h => by
    rw [List.pairwise_cons] at ha hb
    have e : x = y := by
      rcases List.mem_cons.mp ((h x).mp List.mem_cons_self) with q | q
      · exact q
      · rcases List.mem_cons.mp ((h y).mpr List.mem_cons_self) with q2 | q2
        · exact q2.symm
        · have h1 := hb.1 x q
          have h2 := ha.1 y q2
          omega
    subst e
    congr 1
    refine sorted_ext ha.2 hb.2 fun n => ?_
    constructor
    · intro hn
      rcases List.mem_cons.mp ((h n).mp (List.mem_cons_of_mem _ hn)) with q | q
      · have := ha.1 n hn; omega
      · exact q
    · intro hn
      rcases List.mem_cons.mp ((h n).mpr (List.mem_cons_of_mem _ hn)) with q | q
      · have := hb.1 n hn; omega
      · exact q
theorem dead_eq {P : Pl} {w : List (Option Int)} {F : List Int} (W : Wf P w) (hs : F.Pairwise (· < ·)) (hF : Dead P F) : F = deadF P :=
  sorted_ext hs (deadF_sorted W) fun n => by rw [hF n, mem_deadF]
inductive Bad where | hand | size | full | box | slot
  deriving DecidableEq
inductive Res where
  | fine (P : Pl) (f : List Int)
  | bad (e : Bad)
def OkH (h : Int) : Prop := 0 ≤ h ∧ h < 8
instance (h : Int) : Decidable (OkH h) := by unfold OkH; infer_instance
/-- the slot s of what the hand h holds -/
def atSlot (P : Pl) (h s : Int) (k : Int → Bx → Res) : Res := match P.hands.getD h.toNat none with
  | none => .bad .box
  | some n => match get P.boxes n with
    | none => .bad .box
    | some b => if 0 ≤ s ∧ s < (b.slots.length : Int) then k n b else .bad .slot
noncomputable def act (P : Pl) : Deed → Res
  | .make h z => if ¬ OkH h then .bad .hand else if ¬ (0 ≤ z ∧ z ≤ 6) then .bad .size else if 60 ≤ P.boxes.length then .bad .full else .fine (mk P h.toNat z.toNat).1 (mk P h.toNat z.toNat).2
  | .hold h o => if ¬ OkH h then .bad .hand else if ¬ OkH o then .bad .hand else .fine (ptHand P h.toNat (P.hands.getD o.toNat none)).1 (ptHand P h.toNat (P.hands.getD o.toNat none)).2
  | .drop h => if ¬ OkH h then .bad .hand else .fine (ptHand P h.toNat none).1 (ptHand P h.toNat none).2
  | .put h s o => if ¬ OkH h then .bad .hand else if ¬ OkH o then .bad .hand else atSlot P h s fun n _ => .fine (ptSlot P n s.toNat (P.hands.getD o.toNat none)).1 (ptSlot P n s.toNat (P.hands.getD o.toNat none)).2
  | .empty h s => if ¬ OkH h then .bad .hand else atSlot P h s fun n _ => .fine (ptSlot P n s.toNat none).1 (ptSlot P n s.toNat none).2
  | .take h o s => if ¬ OkH h then .bad .hand else if ¬ OkH o then .bad .hand else atSlot P o s fun _ b => .fine (ptHand P h.toNat (b.slots.getD s.toNat none)).1 (ptHand P h.toNat (b.slots.getD s.toNat none)).2
  | .tidy => .fine (tidied P (deadF P)) (deadF P)
theorem atSlot_fine {P : Pl} {h s : Int} {k : Int → Bx → Res} {P' : Pl} {f : List Int} (e : atSlot P h s k = .fine P' f) : ∃ n b, P.hands.getD h.toNat none = some n ∧ get P.boxes n = some b ∧ (0 ≤ s ∧ s < (b.slots.length : Int)) ∧ k n b = .fine P' f := by
  unfold atSlot at e
  cases q : P.hands.getD h.toNat none with
  | none => rw [q] at e; cases e
  | some n =>
    rw [q] at e
    simp only at e
    cases q2 : get P.boxes n with
    | none => rw [q2] at e; cases e
    | some b =>
      rw [q2] at e
      simp only at e
      by_cases c : 0 ≤ s ∧ s < (b.slots.length : Int)
      · rw [if_pos c] at e
        exact ⟨n, b, rfl, q2, c, e⟩
      · rw [if_neg c] at e; cases e
theorem Good.act {P : Pl} (G : Good P) {d : Deed} {P' : Pl} {f : List Int} (e : act P d = .fine P' f) : Good P' := by
  cases d with
  | make h z =>
    unfold BP.act at e; dsimp only at e
    by_cases c1 : OkH h
    case neg => rw [if_pos c1] at e; cases e
    rw [if_neg (fun z => z c1)] at e
    by_cases c2 : 0 ≤ z ∧ z ≤ 6
    case neg => rw [if_pos c2] at e; cases e
    rw [if_neg (fun z => z c2)] at e
    by_cases c3 : 60 ≤ P.boxes.length
    · rw [if_pos c3] at e; cases e
    rw [if_neg c3] at e
    unfold OkH at c1
    injection e with e1 _
    rw [← e1]
    exact G.make (by omega) (by omega) (by omega)
  | hold h o =>
    unfold BP.act at e; dsimp only at e
    by_cases c1 : OkH h
    case neg => rw [if_pos c1] at e; cases e
    rw [if_neg (fun z => z c1)] at e
    by_cases c2 : OkH o
    case neg => rw [if_pos c2] at e; cases e
    rw [if_neg (fun z => z c2)] at e
    unfold OkH at c1
    injection e with e1 _
    rw [← e1]
    exact G.hold (by omega)
  | drop h =>
    unfold BP.act at e; dsimp only at e
    by_cases c1 : OkH h
    case neg => rw [if_pos c1] at e; cases e
    rw [if_neg (fun z => z c1)] at e
    unfold OkH at c1
    injection e with e1 _
    rw [← e1]
    exact G.drop (by omega)
  | put h s o =>
    unfold BP.act at e; dsimp only at e
    by_cases c1 : OkH h
    case neg => rw [if_pos c1] at e; cases e
    rw [if_neg (fun z => z c1)] at e
    by_cases c2 : OkH o
    case neg => rw [if_pos c2] at e; cases e
    rw [if_neg (fun z => z c2)] at e
    obtain ⟨n, b, h1, h2, h3, e⟩ := atSlot_fine e
    injection e with e1 _
    rw [← e1]
    exact G.slot h2 (by omega) fun n e => G.wf.hand e
  | empty h s =>
    unfold BP.act at e; dsimp only at e
    by_cases c1 : OkH h
    case neg => rw [if_pos c1] at e; cases e
    rw [if_neg (fun z => z c1)] at e
    obtain ⟨n, b, h1, h2, h3, e⟩ := atSlot_fine e
    injection e with e1 _
    rw [← e1]
    exact G.slot h2 (by omega) fun n e => by cases e
  | take h o s =>
    unfold BP.act at e; dsimp only at e
    by_cases c1 : OkH h
    case neg => rw [if_pos c1] at e; cases e
    rw [if_neg (fun z => z c1)] at e
    by_cases c2 : OkH o
    case neg => rw [if_pos c2] at e; cases e
    rw [if_neg (fun z => z c2)] at e
    obtain ⟨n, b, h1, h2, h3, e⟩ := atSlot_fine e
    unfold OkH at c1
    injection e with e1 _
    rw [← e1]
    exact G.hand (by omega) fun n e => G.wf.slot h2 e
  | tidy =>
    unfold BP.act at e; dsimp only at e
    injection e with e1 _
    rw [← e1]
    exact G.tidied (dead_deadF P)
/-- behind a tidy there is no suspect -/
theorem susp_tidied {P : Pl} (G : Good P) : susp (tidied P (deadF P)) = [] := by
  unfold susp
  rw [List.filter_eq_nil_iff]
  intro n hn
  obtain ⟨b, hb⟩ := get_keys.mpr hn
  rw [hb]
  have := (tidied_hl G.wf (dead_deadF P) hb).2
  simp [this]
theorem Deed.InZ.more {d : Deed} {few m y : Int} (h : d.InZ few y) (hm : few ≤ m) : d.InZ m y := by
  cases d <;> simp only [Deed.InZ] at h ⊢ <;> omega
theorem Deed.head {d : Deed} : ∃ w ws, d.vs = V.str w :: ws ∧ (decide (V.str w = V.str "tidy") = true ↔ d = .tidy) := by
  have sne : ∀ {z z' : Str}, z ≠ z' → decide (V.str z = V.str z') = false := fun e => decide_eq_false (by intro q; injection q with q; exact e q)
  cases d
  all_goals first
    | exact ⟨_, _, rfl, fun q => (by rw [sne (by decide +kernel)] at q; cases q), fun q => (by cases q)⟩
    | exact ⟨_, _, rfl, fun _ => rfl, fun _ => decide_eq_true rfl⟩
/-- what is new in the heap is known -/
def newK (R H H' : Hp) : Hp := fun b => match H b with | none => H' b | some _ => R b
theorem newK_new {R H H' : Hp} {b : Addr} (h : H b = none) : newK R H H' b = H' b := by unfold newK; rw [h]
theorem newK_old {R H H' : Hp} {b : Addr} {o : HO} (h : H b = some o) : newK R H H' b = R b := by unfold newK; rw [h]
theorem same_newK {R H H' : Hp} (s : Same R H) : Same R (newK R H H') := fun b o e => by rw [newK_old (s b o e)]; exact e
theorem PileAt.fresh {C B p : Addr} {g : Geo} {P : Pl} {R H H' : Hp} (A : PileAt C B p g P R H) (s : Same H H') : PileAt C B p g P (newK R H H') H' := by
  refine ⟨fun b o e => ?_, by rw [newK_old A.hp]; exact A.rp, by rw [newK_old A.hh]; exact A.rh, by rw [newK_old A.hd]; exact A.rd, fun n b e => by rw [newK_old (A.hb n b e)]; exact A.rb n b e, fun n b e => by rw [newK_old (A.hs n b e)]; exact A.rs n b e,
    s _ _ A.hp, s _ _ A.hh, s _ _ A.hd, fun n b e => s _ _ (A.hb n b e), fun n b e => s _ _ (A.hs n b e), A.ib, A.is, A.hn⟩
  cases q : H b with
  | none => rw [newK_new q] at e; exact e
  | some u =>
    rw [newK_old q] at e
    exact s _ _ (A.same _ _ e)
/-- a list that came beside is known -/
theorem PileAt.know {C B p : Addr} {g : Geo} {P : Pl} {R H H' : Hp} (A : PileAt C B p g P R H) {r : Addr} {o : HO} (hr : H r = none) (s : Same H H') (e : H' r = some o) : PileAt C B p g P (upd R r o) H' :=
  (A.new (o := o) hr).grow fun b u h => by
    by_cases q : b = r
    · subst q
      rw [upd_same] at h
      rw [← h]
      exact e
    · rw [upd_ne q] at h
      exact s _ _ h
end BP

/-! A match over a tuple: sequences of a written text and names. Own work. -/
namespace BP
open PySem L2
open PyProof.Rows (matchSeq_tuple_hit matchSeq_tuple_miss unpackItems_tuple)
abbrev TEa := List V → (Option (List V) → Prop) → Prop
/-- the parts of a sequence pattern against the items: the captured ones by their names, or none -/
structure PEa (X : Cx) (ps : List Pattern) (ns : List Str) (t : TEa) : Prop where
  run : ∀ (pins : List (Addr × Obj)) (s : Shared) (σ : St) (H : Hp) (vs : List V) (us : List Value) (Q : Option (List V) → Prop), Inv X pins σ H s → Vals vs us → vs.length = ps.length → t vs Q →
    wpAny (model X.prog X.w) X.A (matchEach ps X.env us) (fun r s' => Inv X pins σ H s' ∧ match r with | none => Q none | some bs => ∃ ws, bs.map (·.1) = ns ∧ Vals ws (bs.map (·.2)) ∧ Q (some ws)) X.xe s
def eNil : TEa := fun _ Q => Q (some [])
def eCap (t : TEa) : TEa := fun vs Q => ∃ v r, vs = v :: r ∧ t r fun o => Q (o.map (v :: ·))
def eStr (x : Str) (t : TEa) : TEa := fun vs Q => ∃ z r, vs = .str z :: r ∧ (if decide (z = x) = true then t r Q else Q none)
section
variable {X : Cx}
theorem pea_nil : PEa X [] [] eNil := ⟨fun pins s σ H vs us Q I r hl h => wpAny_matchEach_nil ⟨I, [], rfl, .nil, h⟩⟩
theorem pea_cap {x : Str} {pos : Pos} {ps : List Pattern} {ns : List Str} {t : TEa} (h : PEa X ps ns t) : PEa X (.MatchAs none (some x) pos :: ps) (x :: ns) (eCap t) := by
  refine ⟨fun pins s σ H vs us Q I r hl h1 => ?_⟩
  obtain ⟨v, rr, rfl, q⟩ := h1
  cases r with
  | @cons _ u _ us r rs =>
    refine wpAny_matchEach_cons (wpAny_matchPattern_Capture ?_)
    refine thn (h.run pins s σ H rr us _ I rs (by simpa using hl) q) fun r' s2 hr => ?_
    obtain ⟨I2, hr⟩ := hr
    cases r' with
    | none => exact ⟨I2, hr⟩
    | some bs =>
      obtain ⟨ws, e1, e2, q2⟩ := hr
      exact ⟨I2, v :: ws, by simp [e1], by simpa using Paired.cons r e2, q2⟩
theorem pea_str {x : Str} {pos pos' : Pos} {j} {ps : List Pattern} {ns : List Str} {t : TEa} (h : PEa X ps ns t) : PEa X (.MatchValue (.Constant (.str x) j pos') pos :: ps) ns (eStr x t) := by
  refine ⟨fun pins s σ H vs us Q I r hl h1 => ?_⟩
  obtain ⟨z, rr, rfl, q⟩ := h1
  cases r with
  | @cons _ u _ us r rs =>
    refine wpAny_matchEach_cons (wpAny_matchPattern_Value ?_)
    refine thn ((pe_str (X := X) (x := x) (j := j) (pos := pos')).run pins s σ H (fun v H' => v = .str x ∧ H' = H) I ⟨rfl, rfl⟩) fun y s1 hy => ?_
    obtain ⟨v, H', I1, ry, rfl, rfl⟩ := hy
    refine thn (op_eq pins s1 σ H' (.str z) (.str x) _ _ (fun v H'' => v = .bl (decide (V.str z = V.str x)) ∧ H'' = H') I1 r ry ⟨rfl, rfl, rfl⟩) fun c s2 hc => ?_
    obtain ⟨v2, H2, I2, r2, rfl, rfl⟩ := hc
    cases r2
    refine wpAny_truthy_bool ?_
    have e : decide (V.str z = V.str x) = decide (z = x) := by
      by_cases q2 : z = x
      · rw [decide_eq_true q2, decide_eq_true (by rw [q2])]
      · rw [decide_eq_false q2, decide_eq_false (by intro y; injection y with y; exact q2 y)]
    rw [e]
    cases c : decide (z = x) with
    | true =>
      rw [if_pos rfl]
      rw [c, if_pos rfl] at q
      refine thn (h.run pins s2 σ H2 rr us _ I2 rs (by simpa using hl) q) fun r' s2 hr => ?_
      obtain ⟨I3, hr⟩ := hr
      cases r' with
      | none => exact ⟨I3, hr⟩
      | some bs => exact ⟨I3, by simpa using hr⟩
    | false =>
      rw [if_neg Bool.false_ne_true]
      rw [c, if_neg Bool.false_ne_true] at q
      exact ⟨I2, q⟩
/-- the captured ones are stored, one behind the other -/
structure PBi (X : Cx) (ns : List Str) (t : TGs) : Prop where
  run : ∀ (pins : List (Addr × Obj)) (s : Shared) (σ : St) (H : Hp) (vs : List V) (us : List Value) (Q : St → Hp → Prop), Inv X pins σ H s → Vals vs us → t vs σ H Q →
    wpAny (model X.prog X.w) X.A (assignInOrder (ns.map (bindName X.env)) us) (fun _ s' => ∃ σ' H', Inv X pins σ' H' s' ∧ Q σ' H') X.xe s
theorem pbi_nil : PBi X [] gNil := by
  refine ⟨fun pins s σ H vs us Q I r h => ?_⟩
  obtain ⟨e, h⟩ := h
  subst e
  cases r
  exact wpAny_assignInOrder_none ⟨σ, H, I, h⟩
theorem pbi_cons {i : Nat} {x : Str} {ns : List Str} {u : TGs} (h2 : PBi X ns u) (hN : X.N.Nodup) (hi : X.N[i]? = some x) (hx : Loc X.env.scope x) (hf : X.fn x = true ∨ X.env.scope.names.lookup x = some .local := by first | exact .inl rfl | exact .inr rfl | assumption) : PBi X (x :: ns) (gCons (gName i) u) := by
  refine ⟨fun pins s σ H vs us Q I r h => ?_⟩
  obtain ⟨v, vr, e1, h⟩ := h
  subst e1
  cases r with
  | cons r rr =>
    refine wpAny_assignInOrder_more ?_
    refine wpAny_bindName (store_ok I hN hi hx r (fun s' I' => ?_) hf)
    exact h2.run pins s' _ H vr _ Q I' rr h
/-- the cases, from the first on -/
structure PMc (X : Cx) (cs : List MatchCase) (t : V → TS) : Prop where
  run : ∀ (b : Bool) (pins : List (Addr × Obj)) (s : Shared) (σ : St) (H : Hp) (D : Ends) (v : V) (u : Value), Inv X pins σ H s → RelV v u → t v D σ H → wpAny (model X.prog X.w) X.A (matchCases cs X.env u b) (SP X pins D) X.xe s
def mNil : V → TS := fun _ D σ H => D.nx σ H
def mSeq (K : PySem.W.Frag) (n : Nat) (te : TEa) (tb : TGs) (tr : V → TS) (tbody : TS) : V → TS := fun v D σ H => ∃ a xs, v = .ref a ∧ SqT K H a xs ∧
  (if decide (xs.length = n) = true then te xs (fun o => match o with | none => tr v D σ H | some ws => tb ws σ H fun σ' H' => tbody D σ' H') else tr v D σ H)
theorem pmc_nil : PMc X [] mNil := ⟨fun b pins s σ H D v u I r h => wpAny_matchCases_nil ⟨σ, H, I, h⟩⟩
theorem pmc_seq {ps : List Pattern} {pos : Pos} {body : List Stmt} {rest : List MatchCase} {ns : List Str} {te : TEa} {tb : TGs} {tr : V → TS} {tbody : TS} {n : Nat} (hc : X.calm = true) (hp : PEa X ps ns te) (hb : PBi X ns tb) (hy : PSs X body tbody) (hr : PMc X rest tr)
    (hn : ps.length = n := by rfl) (hstar : ps.findIdx? (·.isStar) = none := by rfl) (hwild : (ps.all fun p => p.isWildcard || (p.isStar && p.names.isEmpty)) = false := by rfl) :
    PMc X (⟨.MatchSequence ps pos, none, body⟩ :: rest) (mSeq X.K n te tb tr tbody) := by
  refine ⟨fun b pins s σ H D v u I r h => ?_⟩
  obtain ⟨a, xs, rfl, hq, h⟩ := h
  cases r
  obtain ⟨its, rv, ht, hz⟩ := I.tuple hq
  refine wpAny_matchCases_cons ?_
  have hfit : (its.toArray.size : Int) < 2 ^ 63 := by
    have := rv.length
    have h2 : sizeLine = 16777216 ∨ True := .inr trivial
    have : its.toArray.size ≤ sizeLine := by rw [show its.toArray.size = its.length from by simp, ← this]; exact hz
    rw [sizeLine_eq] at this
    omega
  have hln : its.toArray.size = xs.length := by simpa using rv.length.symm
  by_cases c : xs.length = n
  · rw [decide_eq_true c, if_pos rfl] at h
    refine matchSeq_tuple_hit ht hfit (by rw [hln, c, hn]) ?_ hstar hwild
    have e : ps.length = its.toArray.size := by rw [hln, c, hn]
    rw [e]
    refine unpackItems_tuple (I.ok.hd hc) ht fun h' hx => ?_
    have I1 : Inv X pins σ H { s with heap := h', toks := s.toks + 1 + 1 } := I.kept fun b o e => hx b o (Nat.ne_of_lt (Heap.lt_size e)) e
    refine thn (hp.run pins _ σ H xs _ _ I1 (by simpa using rv) (by rw [c, hn]) h) fun r s1 hr1 => ?_
    obtain ⟨I2, hr1⟩ := hr1
    cases r with
    | none => exact hr.run false pins s1 σ H D (.ref a) _ I2 rfl hr1
    | some bs =>
      obtain ⟨ws, e1, e2, q⟩ := hr1
      have e3 : (bs.map fun (n, _) => bindName X.env n) = ns.map (bindName X.env) := by
        rw [← e1, List.map_map]
        rfl
      show wpAny _ _ (assignInOrder (bs.map fun (n, _) => bindName X.env n) (bs.map (·.2))) _ _ _
      rw [e3]
      refine thn (hb.run pins s1 σ H ws _ _ I2 e2 q) fun _ s2 hs => ?_
      obtain ⟨σ', H', I3, q3⟩ := hs
      exact hy.run pins s2 σ' H' D I3 q3
  · rw [decide_eq_false c, if_neg Bool.false_ne_true] at h
    refine matchSeq_tuple_miss ht hfit (by rw [hln, hn]; exact c) ?_ hstar hwild
    exact hr.run false pins _ σ H D (.ref a) _ (I.tok _) rfl h
def tMatch (te : TE) (tc : V → TS) : TS := fun D σ H => te σ H fun v H' => tc v D σ H'
theorem ps_match {e : Expr} {cs : List MatchCase} {pos : Pos} {te : TE} {tc : V → TS} (he : PE X e te) (hc : PMc X cs tc) : PS X (.Match e cs pos) (tMatch te tc) := by
  refine ⟨fun pins s σ H D I h => ?_⟩
  refine wpAny_Match (thn (he.run pins s σ H _ I h) fun u s1 ⟨v, H1, I1, r1, q1⟩ => ?_)
  exact hc.run true pins s1 σ H1 D v u I1 r1 q1
end
end BP

/-! A dict comprehension as a name's value, over any walk. Own work. -/
namespace BP
open PySem L2
abbrev BlkP (X : Cx) (scope : Scope) (Z : Cx → Prop) : Prop := ∀ (s : Shared) (H : Hp) (C : Addr) (cl : List (Str × Addr)) (fp : List Addr), Z (X.blk s H scope (compEnvC scope cl C X.env) fp)
section
variable {X : Cx}
theorem swD {kx vx : Expr} {gs : List Comprehension} {scope : Scope} {pos py : Pos} {y : Str} {l : Nat} {env : Env} (hf : env.scope.kind = .function) (hl : env.scope.names.lookup y = some .local) (hp : (py.line == pos.line) = true)
    (hn : (scope.names.any fun (n, k) => n == y && (k == .local || k == .cell)) = false) : swapsWith (.DictComp kx vx gs scope pos) (some (.Name y py)) l env = pure true := by
  have e1 : env.kindOf y = some .local := hl
  have e2 : env.blockKind = .function := (show (if _ then _ else _) = _ from by rw [hf]; rfl)
  unfold swapsWith
  (simp only [e2, e1, hn, Expr.pos, hp]; rfl)
theorem ps_setDc {i : Nat} {y : Str} {py : Pos} {kx vx tg iter : Expr} {ifs : List Expr} {scope : Scope} {own : List (Str × Nat)} {pos spos : Pos} {wi : TI} {g : TG} {tt : TT} {tk tv : TE} (hc : X.calm = true) (hN : X.N.Nodup) (hy : X.N[i]? = some y) (hyl : X.env.scope.names.lookup y = some .local)
    (hsw : swapsWith (.DictComp kx vx [⟨tg, iter, ifs, 0⟩] scope pos) (some (.Name y py)) spos.line X.env = pure true) (hi : PI X tg iter wi) (ok : BlkOk X.N X.env.scope scope own)
    (hg : BlkP X scope fun Z => PG Z tg g) (ht : BlkP X scope fun Z => PTs Z ifs tt) (hk : BlkP X scope fun Z => PE Z kx tk) (he : BlkP X scope fun Z => PE Z vx tv) (hs : ∀ x, foldedSetIterable iter X.env x = pure x := by intro _; rfl) :
    PS X (.Assign [.Name y py] (.DictComp kx vx [⟨tg, iter, ifs, 0⟩] scope pos) spos) (tAsg (tDc wi g tt tk tv (own.map (·.2))) (gName i)) := by
  constructor
  intro pins s σ H D I q
  rw [exec_Assign_Name_used _ _ _ _ hsw]
  refine wpAny_bind (wpAny_standAt (wpAny_bind (?_ : wpAny _ X.A (do let _ ← comprehension (.DictComp kx vx [⟨tg, iter, ifs, 0⟩] scope pos) scope X.env (firstIterPos [⟨tg, iter, ifs, 0⟩] pos) newDict false (eval iter X.env) (some (assign (.Name y py) X.env))) _ _ s)))
  replace q : tDc wi g tt tk tv (own.map (·.2)) σ H (fun x H1 => gName i x σ H1 D.nx) := q
  refine wpAny_bind (thn (dc_core (Qf := fun _ s' => SP X pins D .next s') hc hN I hi ok hg ht hk he hs q fun L C s' m H' I' q2 hn f => (?_ : wpAny _ _ (assign (.Name y py) X.env (.ref L)) _ _ _)) fun _ s' hq => wpAny_pure (wpAny_pure hq))
  refine wpAny_assign_Name (store_ok2 (v := V.ref L) I' hN hy (.inl hyl) rfl (fun s2 I2 z => ?_) (.inr hyl))
  obtain ⟨⟨a, sb, ha⟩, ⟨f0, f1, f2, f3, f4, f5⟩⟩ := And.intro z f
  have hCa : C ≠ a := ha.elim (fun z => by rw [z]; exact f1) fun z e => f4 y a z e.symm
  exact ⟨m, hn.sameBut sb hCa, fun h3 sb3 => ⟨_, H', I2.turned (t' := s2.toks) (fun b o hb e => (sb3.2 b hb).trans e) f0 f1 f3 f4 f5, q2⟩⟩
end
/-- a dict comprehension over any walk -/
theorem dc_it {J : It} {n : Nat} {G : Hp → Prop} {Y : Nat → Hp → V → Hp → Prop} (w : Walk J n G Y) {g : TG} {tt : TT} {tk tv : TE} {vs : List Nat} {σ : L2.St} {H1 : Hp} {D : Addr} {Qd : Hp → Prop} (Pv : Nat → Hp → Prop) (h0 : Pv 0 (upd H1 D (.dK []))) (hG : ∀ i H, i ≤ n → Pv i H → G H)
    (hs : ∀ i x H H', i < n → Pv i H → Y i H x H' → g x (wipe σ vs) H' fun σ2 H2 => wipe σ2 vs = wipe σ vs ∧ tt σ2 H2 fun b H3 => if b = true then tk σ2 H3 fun y H4 => tv σ2 H4 fun z H5 => ∃ kvs k, y = kV k ∧ H5 D = some (.dK kvs) ∧ kvs.length < sizeLine ∧ Pv (i + 1) (upd H5 D (.dK (putK kvs k z))) else Pv (i + 1) H3)
    (hd : ∀ H, Pv n H → Qd H) : ∃ W : Nat → Nat → Hp → Prop, (∃ m, W 0 m (upd H1 D (.dK []))) ∧ ∀ i m H, W i m H → (J.stop i H ∧ Qd H) ∨ (J.go i H ∧ ∃ Nx : Hp → Prop, (∀ H', Nx H' → ∃ m', m' < m ∧ W (i + 1) m' H') ∧
      ∀ x H', J.yld i H x H' → g x (wipe σ vs) H' fun σ2 H2 => wipe σ2 vs = wipe σ vs ∧ tt σ2 H2 fun b H3 => if b = true then tk σ2 H3 fun y H4 => tv σ2 H4 fun z H5 => ∃ kvs k, y = kV k ∧ H5 D = some (.dK kvs) ∧ kvs.length < sizeLine ∧ Nx (upd H5 D (.dK (putK kvs k z))) else Nx H3) := by
  refine ⟨fun i m H => i ≤ n ∧ Pv i H ∧ m + i = n, ⟨n, Nat.zero_le _, h0, rfl⟩, fun i m H a => ?_⟩
  obtain ⟨hi, p, em⟩ := a
  have q := hG i H hi p
  by_cases c : i < n
  · refine .inr ⟨w.goes i H c q, Pv (i + 1), fun H' p' => ⟨m - 1, by omega, c, p', by omega⟩, fun x H' y => hs i x H H' c p (w.yields i H x H' c q y)⟩
  · have : i = n := by omega
    subst this
    exact .inl ⟨w.stops H q, hd H p⟩
end BP

/-! Within an except suite: tuples taken apart, list comprehensions. Own work. -/
namespace BP
open PySem PySem.Spec L2 HotX L2H
open PyProof.Rows hiding St
section
variable {prog : Program} {w : World} {A : Around} {E : Value → Shared → Prop} {s : Shared}
theorem hot_keep {x1 : Addr} {h h' : Heap} (c : HotAt A x1 h) (k : ∀ o, h.get? x1 = some o → h'.get? x1 = some o) : HotAt A x1 h' := by
  obtain ⟨hh, o, vs, e, d, z⟩ := c
  exact ⟨hh, o, vs, k o e, d, z⟩
/-- a list's iterator at its end, an exception in hand -/
theorem list_end_hot {it l x1 : Addr} {i : Nat} {items} {Q : Option Value → Shared → Prop} (hot : HotAt A x1 s.heap) (nx : x1 ≠ it) (hit : s.heap.IsListIter it l i) (hl : s.heap.IsList l items) (hx : items[i]? = none)
    (hQ : ∀ h', Heap.ExtBut it s.heap h' → Q none { s with heap := h' }) : wpAny (model prog w) A (pyNext (.ref it)) Q E s := by
  obtain ⟨o, ho, hc, hd⟩ := id hit
  obtain ⟨ol, hol, _, nl, hdl⟩ := hl
  obtain ⟨hh, o1, vs1, h1, d1, c1⟩ := hot
  unfold pyNext
  refine wpAny_bind (wpAny_attempt (wpAny_callSpecial?_slot (name := Str.ofString "__next__") hit.typeIs slot_listiter_next
    (wpAny_call_entry slot_listiter_next hit.typeIs entry_listiter_next ?_ (args_listiter_next _))))
  show wpAny _ _ (field (.ref it) 0 >>= _) _ _ s
  refine wpAny_bind (wpAny_field ho hd (x := .ref l) rfl ?_)
  show wpAny _ _ (if (Value.ref l == Value.none) = true then _ else _) _ _ s
  rw [if_neg (show ¬ ((Value.ref l == Value.none) = true) from Bool.false_ne_true)]
  show wpAny _ _ (field (.ref it) 1 >>= _) _ _ s
  refine wpAny_bind (wpAny_field ho hd (x := .int i 0) rfl ?_)
  show wpAny _ _ (seqItems? (.ref l) >>= _) _ _ s
  refine wpAny_bind (wpAny_seqItems hol hdl ?_)
  simp only [Int.toNat_natCast, hx]
  refine wpAny_bind (wpAny_rule (wpAny_bind (wpAny_setField ho hd (by simp) ?_)))
  show wpAny _ _ (newExc (.type "StopIteration") [] >>= _) _ _ _
  refine wpAny_bind ?_
  simp only [newExc, newTuple]
  refine wpAny_bind (wpAny_newObj_type ?_ (by size_fits))
  refine wpAny_bind (m := firstArgMember _ _) (wpAny_of_eq (a := Value.none) (by first | rfl | (simp only [firstArgMember]; rfl)) ?_)
  refine wpAny_newObj_type ?_ (by size_fits)
  have up : ∀ b o', b ≠ it → s.heap.get? b = some o' → (s.heap.update it (Obj.mapFields (·.setIfInBounds 0 Value.none))).get? b = some o' := fun b o' nb e => by
    rw [Heap.get?_update_other _ _ nb.symm]
    exact e
  have h1' := up x1 o1 nx h1
  refine raiseNew_hot ⟨hh, o1, vs1, Heap.get?_push_of_some _ (Heap.get?_push_of_some _ h1'), d1, c1⟩ (Nat.ne_of_lt (Heap.lt_size (Heap.get?_push_of_some _ h1'))) (Heap.get?_push_size _ rfl) rfl (by first | (simp; done) | (simp; omega) | (simp only [Array.size_append]; simp; omega)) ?_
  refine wpAny_bind (wpAny_isInstance (T := "StopIteration") (b := true) ⟨_, Heap.get?_update_self _ (Heap.get?_push_size _ rfl) rfl, rfl⟩ isSubtype_stop ?_)
  refine wpAny_pure (hQ _ fun b o' nb e => ?_)
  rw [Heap.get?_update_other _ _ (Nat.ne_of_gt (Heap.lt_size (Heap.get?_push_of_some _ (up b o' nb e))))]
  exact Heap.get?_push_of_some _ (Heap.get?_push_of_some _ (up b o' nb e))
/-- a tuple's iterator at its end -/
theorem tup_end_hot {it l x1 : Addr} {i : Nat} {items} {Q : Option Value → Shared → Prop} (hot : HotAt A x1 s.heap) (nx : x1 ≠ it) (hit : IsTupIter s.heap it l i) (hl : IsTup s.heap l items) (hx : items[i]? = none)
    (hQ : ∀ h', Heap.ExtBut it s.heap h' → Q none { s with heap := h' }) : wpAny (model prog w) A (pyNext (.ref it)) Q E s := by
  obtain ⟨o, ho, hc, hd⟩ := id hit
  obtain ⟨ol, hol, _, nl, hdl⟩ := hl
  obtain ⟨hh, o1, vs1, h1, d1, c1⟩ := hot
  unfold pyNext
  refine wpAny_bind (wpAny_attempt (wpAny_callSpecial?_slot (name := Str.ofString "__next__") hit.typeIs slot_tupleiter_next
    (wpAny_call_entry slot_tupleiter_next hit.typeIs entry_tupleiter_next ?_ (args_tupleiter_next _))))
  show wpAny _ _ (field (.ref it) 0 >>= _) _ _ s
  refine wpAny_bind (wpAny_field ho hd (x := .ref l) rfl ?_)
  show wpAny _ _ (if (Value.ref l == Value.none) = true then _ else _) _ _ s
  rw [if_neg (show ¬ ((Value.ref l == Value.none) = true) from Bool.false_ne_true)]
  show wpAny _ _ (field (.ref it) 1 >>= _) _ _ s
  refine wpAny_bind (wpAny_field ho hd (x := .int i 0) rfl ?_)
  show wpAny _ _ (seqItems? (.ref l) >>= _) _ _ s
  refine wpAny_bind (wpAny_seqItems hol hdl ?_)
  simp only [Int.toNat_natCast, hx]
  refine wpAny_bind (wpAny_rule (wpAny_bind (wpAny_setField ho hd (by simp) ?_)))
  show wpAny _ _ (newExc (.type "StopIteration") [] >>= _) _ _ _
  refine wpAny_bind ?_
  simp only [newExc, newTuple]
  refine wpAny_bind (wpAny_newObj_type ?_ (by size_fits))
  refine wpAny_bind (m := firstArgMember _ _) (wpAny_of_eq (a := Value.none) (by first | rfl | (simp only [firstArgMember]; rfl)) ?_)
  refine wpAny_newObj_type ?_ (by size_fits)
  have up : ∀ b o', b ≠ it → s.heap.get? b = some o' → (s.heap.update it (Obj.mapFields (·.setIfInBounds 0 Value.none))).get? b = some o' := fun b o' nb e => by
    rw [Heap.get?_update_other _ _ nb.symm]
    exact e
  have h1' := up x1 o1 nx h1
  refine raiseNew_hot ⟨hh, o1, vs1, Heap.get?_push_of_some _ (Heap.get?_push_of_some _ h1'), d1, c1⟩ (Nat.ne_of_lt (Heap.lt_size (Heap.get?_push_of_some _ h1'))) (Heap.get?_push_size _ rfl) rfl (by first | (simp; done) | (simp; omega) | (simp only [Array.size_append]; simp; omega)) ?_
  refine wpAny_bind (wpAny_isInstance (T := "StopIteration") (b := true) ⟨_, Heap.get?_update_self _ (Heap.get?_push_size _ rfl) rfl, rfl⟩ isSubtype_stop ?_)
  refine wpAny_pure (hQ _ fun b o' nb e => ?_)
  rw [Heap.get?_update_other _ _ (Nat.ne_of_gt (Heap.lt_size (Heap.get?_push_of_some _ (up b o' nb e))))]
  exact Heap.get?_push_of_some _ (Heap.get?_push_of_some _ (up b o' nb e))
theorem unpackItems_hot {t x1 : Addr} {items : Array Value} {Q : List Value → Shared → Prop} (hot : HotAt A x1 s.heap) (ht : IsTup s.heap t items)
    (hQ : ∀ h', Heap.ExtBut s.heap.objs.size s.heap h' → Q items.toList { s with heap := h' }) : wpAny (model prog w) A (unpackItems (.ref t) items.size none) Q E s := by
  have hlt : t ≠ s.heap.objs.size := by obtain ⟨o, ho, _⟩ := ht; exact Nat.ne_of_lt (Heap.lt_size ho)
  have xlt : x1 ≠ s.heap.objs.size := by obtain ⟨_, o, _, ho, _⟩ := hot; exact Nat.ne_of_lt (Heap.lt_size ho)
  unfold unpackItems
  refine wpAny_bind ?_
  · unfold notIterableAtAll
    refine wpAny_bind (wpAny_specialOf ht.typeIs slot_tuple_iter.lookup ?_)
    refine wpAny_pure ?_
    simp only [Bool.false_eq_true, if_false]
    refine wpAny_bind (wpAny_holding (iter_tuple ht ?_))
    refine wpAny_bind (wpAny_holding (draw_tuple hlt items.size 0 _ _ ⟨_, Heap.get?_push_size _ rfl, rfl, rfl⟩ (ht.push _) (by omega) fun h₁ hit₁ hs₁ => ?_))
    have hall : List.take items.size (List.drop 0 items.toList) = items.toList := by
      rw [List.drop_zero]; exact List.take_of_length_le (by simp)
    rw [hall]
    rw [if_neg (by simp)]
    have ht₁ : IsTup h₁ t items := (ht.push _).extBut hs₁.extBut hlt
    have hot₁ : HotAt A x1 h₁ := hot_keep hot fun o e => hs₁.extBut _ _ xlt (Heap.get?_push_of_some _ e)
    refine wpAny_bind (wpAny_holding (tup_end_hot hot₁ xlt hit₁ ht₁ (by simp) fun h₂ he₂ => ?_))
    simp only [Option.isSome_none, Bool.false_eq_true, if_false]
    refine wpAny_pure (hQ h₂ fun b o hb e => he₂ b o hb (hs₁.extBut b o hb (Heap.get?_push_of_some _ e)))
theorem assign_tup_hot {env : Env} {elts : List Expr} {k1} {pos : Pos} {t x1 : Addr} {items : Array Value} {Q : Unit → Shared → Prop} (hot : HotAt A x1 s.heap) (ht : IsTup s.heap t items)
    (hn : (assignEach elts env).length = items.size) (hstar : (assignEach elts env).findIdx? (·.1) = none)
    (h : ∀ h', Heap.ExtBut s.heap.objs.size s.heap h' → wpAny (model prog w) A (assignInOrder ((assignEach elts env).map (·.2)) items.toList) Q E { s with heap := h' }) :
    wpAny (model prog w) A (assign (.Tuple elts k1 pos) env (.ref t)) Q E s := by
  rw [assign_Tuple]
  refine wpAny_bind (wpAny_standAt ?_)
  unfold unpack
  rw [hn, hstar]
  exact wpAny_bind (wpAny_holding (unpackItems_hot hot ht h))
end
/-- in every state of the context an exception is in hand -/
def HotB (Y : Cx) : Prop := ∀ (pins : List (Addr × Obj)) (σ : L2.St) (H : Hp) (s : Shared), Inv Y pins σ H s → ∃ x1, HotAt Y.A x1 s.heap ∧ x1 ∉ Y.ex ∧ H x1 = none
theorem hotB_of {X : Cx} (c : HotC X) (hex : X.ex = []) : HotB X := fun pins σ H s I => by
  obtain ⟨p, ⟨hh, v1, e1, c1⟩, hp⟩ := c
  have z := I.pin p (List.mem_append_left _ hp)
  exact ⟨p.1, ⟨hh, p.2, v1, z.1, e1, c1⟩, by rw [hex]; simp, z.2.1⟩
theorem pg_tupH {X : Cx} {es : List Expr} {k : Nat} {pos : Pos} {t : TGs} {n : Nat} (hb : HotB X) (h : PGs X es t)
    (hn : (assignEach es X.env).length = n := by rfl) (hst : (assignEach es X.env).findIdx? (·.1) = none := by rfl) : PG X (.Tuple es k pos) (gTup X.K n t) := by
  refine ⟨fun pins s σ H v u Q I r hw => ?_⟩
  obtain ⟨a, xs, e1, hq, hl, hw⟩ := hw
  subst e1
  cases r
  obtain ⟨its, rv, ht, hz⟩ := I.tuple hq
  obtain ⟨x1, hot, _⟩ := hb pins σ H s I
  refine assign_tup_hot hot ht (by simp [hn, ← hl, rv.length]) hst fun h' hx => ?_
  have I1 : Inv X pins σ H { s with heap := h' } := I.kept (t' := s.toks) fun b o e => hx b o (Nat.ne_of_lt (Heap.lt_size e)) e
  exact h.run pins _ σ H xs _ Q I1 (by simpa using rv) hw
/-- an iterator's turns while an exception is in hand -/
structure TurnB (P : Program) (w : World) (K : PySem.W.Frag) (tg : Expr) (J : It) (fp : List Addr) (it : Addr) (tn : Nat → Heap → Prop) : Prop where
  obj : ∀ i h, tn i h → ∀ b ∈ fp, ∃ o, h.get? b = some o ∧ ∀ v, o.data ≠ .cell v
  keep : ∀ i h h', tn i h → (∀ b ∈ fp, ∀ o, h.get? b = some o → h'.get? b = some o) → tn i h'
  item : ∀ (X : Cx), X.prog = P → X.w = w → X.K = K → HotB X → ∀ (i : Nat) (pins : List (Addr × Obj)) (s : Shared) (σ : L2.St) (H : Hp) (E : Value → Shared → Prop), Inv X pins σ H s → (∀ b ∈ fp, FpOk X pins H b) → (∀ b ∈ fp, b ∈ X.ex) → tn i s.heap → J.go i H →
    wpAny (model P w) X.A (pyNext (.ref it)) (fun r s1 => ∃ u, r = some u ∧
      wpAny (model P w) X.A (letOwnedTupleGo tg (.ref it) u) (fun _ s2 => ∃ x H', Inv X pins σ H' s2 ∧ RelV x u ∧ J.yld i H x H' ∧ tn (i + 1) s2.heap ∧ ∀ b ∈ fp, H' b = none) E s1) E s
  done : ∀ (X : Cx), X.prog = P → X.w = w → X.K = K → HotB X → ∀ (i : Nat) (pins : List (Addr × Obj)) (s : Shared) (σ : L2.St) (H : Hp) (E : Value → Shared → Prop), Inv X pins σ H s → (∀ b ∈ fp, FpOk X pins H b) → (∀ b ∈ fp, b ∈ X.ex) → tn i s.heap → J.stop i H →
    wpAny (model P w) X.A (pyNext (.ref it)) (fun r s1 => r = none ∧ Inv X pins σ H s1) E s
  self : ∀ (A : Around) (i : Nat) (s : Shared) (Q : Value → Shared → Prop) (E : Value → Shared → Prop), tn i s.heap → Q (.ref it) s → wpAny (model P w) A (pyIter (.ref it)) Q E s
theorem turnB_list {P : Program} {w : World} {K : PySem.W.Frag} {tg : Expr} (a it : Addr) : TurnB P w K tg (Itl K a) [it] it (fun i h => h.IsListIter it a i) := by
  have one : ∀ {Z : Addr → Prop} {b : Addr}, b ∈ [it] → Z it → Z b := fun hb z => by rw [List.mem_singleton.mp hb]; exact z
  refine ⟨fun i h st b hb => ?_, fun i h h' st k => st.at fun o e => k it List.mem_cons_self o e, ?_, ?_, fun _ _ _ _ _ st h => wpAny_pyIter_listiter st h⟩
  · obtain ⟨o, e, c, d⟩ := st
    exact ⟨o, one (Z := fun b => h.get? b = some o) hb e, fun v z => by rw [d] at z; cases z⟩
  · rintro X rfl rfl rfl hb i pins s σ H E I hf hx st ⟨xs, x, hq, hx2⟩
    obtain ⟨its, rv, p, hz⟩ := I.list hq
    obtain ⟨u, hu, ru⟩ := rv.get hx2
    obtain ⟨f0, f1, f2, f3, f4, f5⟩ := hf it List.mem_cons_self
    refine wpAny_pyNext_list_item st p.isList (x := u) (by simpa using hu) fun h' st' sb => ?_
    have I1 : Inv X pins σ H { s with heap := h' } := I.turned (t' := s.toks) (fun b o hb e => (sb.2 b hb).trans e) f0 f1 f3 f4 f5
    obtain ⟨o, e, c, d⟩ := id st'
    exact ⟨u, rfl, go_of (s := { s with heap := h' }) e c d (by decide) ⟨x, H, I1, ru, ⟨rfl, fun ys hy => by rw [I.list_inj hy hq]; exact hx2⟩, st', fun b hb => (hf b hb).1⟩⟩
  · rintro X rfl rfl rfl hb i pins s σ H E I hf hx st ⟨xs, hq, hlen⟩
    obtain ⟨its, rv, p, hz⟩ := I.list hq
    obtain ⟨f0, f1, f2, f3, f4, f5⟩ := hf it List.mem_cons_self
    have hl := rv.length
    obtain ⟨x1, hot, nex, _⟩ := hb pins σ H s I
    exact list_end_hot hot (fun z => nex (by rw [z]; exact hx it List.mem_cons_self)) st p.isList (by simp; omega) fun h' eb => ⟨rfl, I.turned (t' := s.toks) (fun b o hb e => eb b o hb e) f0 f1 f3 f4 f5⟩
def PIEB (X : Cx) (pins : List (Addr × Obj)) (σ : L2.St) (tg : Expr) (R : It → Hp → Prop) (itv : Value) (s2 : Shared) : Prop :=
  ∃ (it : Addr) (fp : List Addr) (tn : Nat → Heap → Prop) (J : It) (H' : Hp), itv = .ref it ∧ Inv X pins σ H' s2 ∧ TurnB X.prog X.w X.K tg J fp it tn ∧ tn 0 s2.heap ∧ (∀ b ∈ fp, FpOk X pins H' b) ∧ R J H'
structure PIB (X : Cx) (tg iter : Expr) (wi : TI) : Prop where
  run : ∀ (pins : List (Addr × Obj)) (s : Shared) (σ : L2.St) (H : Hp) (R : It → Hp → Prop), Inv X pins σ H s → wi σ H R →
    wpAny (model X.prog X.w) X.A (eval iter X.env) (fun v s1 => wpAny (model X.prog X.w) X.A (pyIter v) (PIEB X pins σ tg R) X.xe s1) X.xe s
theorem piB_list {X : Cx} {tg l : Expr} {tl : TE} (hl : PE X l tl) : PIB X tg l (iList X.K tl) := by
  refine ⟨fun pins s σ H R I h => thn (hl.run pins s σ H _ I h) fun v s1 ⟨x, H1, I1, r1, a, e, ⟨xs, hq⟩, q⟩ => ?_⟩
  subst e
  cases r1
  obtain ⟨its, rv, p, hz⟩ := I1.list hq
  refine wpAny_pyIter_list p.isList ⟨s1.heap.objs.size, [s1.heap.objs.size], _, _, H1, rfl, I1.kept (t' := s1.toks) fun b o e => Heap.get?_push_of_some _ e, turnB_list a _, ⟨_, Heap.get?_push_size _ rfl, rfl, rfl⟩, fun b hb => ?_, q⟩
  rw [List.mem_singleton.mp hb]
  exact I1.fpOk (Nat.le_refl _) (I1.hok.fresh (Nat.le_refl _))
theorem hot_blk {X : Cx} {pins : List (Addr × Obj)} {σ : L2.St} {H : Hp} {s : Shared} {sc : Scope} {ce : Env} {fp : List Addr} (c : HotC X) (I : Inv X pins σ H s) (hfp : ∀ b ∈ fp, ∀ p ∈ X.pn, p.1 ≠ b) : HotB (X.blk s H sc ce fp) := by
  obtain ⟨p, ⟨hh, v1, e1, c1⟩, hp⟩ := c
  obtain ⟨g1, g2, g3, g4, _⟩ := I.pin p (List.mem_append_left _ hp)
  have nst : p.1 ∉ frs X.stack := by
    rcases I.ok.stk with z | ⟨z, z2⟩
    · rw [z]; exact g4
    · rw [z]
      intro hm
      obtain ⟨e, he, q⟩ := List.mem_filterMap.mp hm
      rcases List.mem_cons.mp he with rfl | he
      · rw [z2] at q
        exact g3 (Option.some.inj q).symm
      · exact g4 (List.mem_filterMap.mpr ⟨e, he, q⟩)
  have nfp : p.1 ∉ fp := fun hm => hfp p.1 hm p hp rfl
  intro pins' σ' H' s' I'
  exact ⟨p.1, ⟨hh, p.2, v1, I'.base.keep p.1 p.2 g1 g2 nst nfp, e1, c1⟩, nfp, I'.base.free p.1 p.2 g1 g2 nfp⟩
section
variable {X : Cx}
/-- a list comprehension within an except suite -/
theorem pe_lcH {elt tg iter : Expr} {ifs : List Expr} {sc : Scope} {own : List (Str × Nat)} {pos : Pos} {wi : TI} {g : TG} {tt : TT} {te : TE}
    (hot : HotC X) (hN : X.N.Nodup) (hi : PIB X tg iter wi) (ok : BlkOk X.N X.env.scope sc own)
    (hg : ∀ (s : Shared) (H : Hp) (C : Addr) (cl : List (Str × Addr)) (fp : List Addr), HotB (X.blk s H sc (compEnvC sc cl C X.env) fp) → PG (X.blk s H sc (compEnvC sc cl C X.env) fp) tg g)
    (ht : ∀ (s : Shared) (H : Hp) (C : Addr) (cl : List (Str × Addr)) (fp : List Addr), PTs (X.blk s H sc (compEnvC sc cl C X.env) fp) ifs tt)
    (he : ∀ (s : Shared) (H : Hp) (C : Addr) (cl : List (Str × Addr)) (fp : List Addr), PE (X.blk s H sc (compEnvC sc cl C X.env) fp) elt te)
    (hs : ∀ x, foldedSetIterable iter X.env x = pure x := by intro _; rfl) : PE X (.ListComp elt [⟨tg, iter, ifs, 0⟩] sc pos) (tLc wi g tt te (own.map (·.2))) := by
  refine ⟨fun pins s σ H Q I hw => ?_⟩
  rw [eval_ListComp]
  have cells : ∀ y ∈ sc.names, y.2 = .free → ∃ c, X.env.cells.lookup y.1 = some c := fun y hy e =>
    (ok.free y hy e).elim (fun k => I.ok.has _ (.inl k)) (fun k => I.ok.has _ (.inr k))
  refine comp_freeF rfl hs (closure_ok cells) ok.kind (fun y hy e => (ok.uniq y hy).trans (congrArg some e)) (thn (hi.run pins s σ H _ I hw) fun xv s1 hx => thn hx fun itv s2 h2 => ?_)
  obtain ⟨it, fp, tn, J, H2, rfl, I2, T, st2, f2, q⟩ := h2
  refine wpAny_newObj_type (newEnv_comp ?_) (by show 0 ≤ sizeLine; decide)
  obtain ⟨D, hD⟩ : ∃ D, s2.heap.objs.size = D := ⟨_, rfl⟩
  rw [hD]
  obtain ⟨W, ⟨m0, w0⟩, turn⟩ := q D (I2.hok.fresh (Nat.le_of_eq hD))
  -- the list is laid
  obtain ⟨s3, hs3⟩ : ∃ s3 : Shared, ({ s2 with heap := s2.heap.push { cls := .type "list", data := .seq ([] : List Value).toArray } } : Shared) = s3 := ⟨_, rfl⟩
  have h3 : s3.heap = s2.heap.push { cls := .type "list", data := .seq ([] : List Value).toArray } := by rw [← hs3]
  have I3 : Inv X pins σ (upd H2 D (.lst [])) s3 := by
    rw [← hs3]
    refine I2.laid (t' := s2.toks) (fun b o e => Heap.get?_push_of_some _ e) (Nat.le_of_eq hD) ⟨Nat.zero_le _, [], 0, .nil, ?_⟩
    rw [← hD]
    exact Heap.get?_push_size _ rfl
  have below : ∀ b ∈ fp, b < s2.heap.objs.size := fun b hb => (T.obj _ _ st2 b hb).elim fun o e => Heap.lt_size e.1
  have f3 : ∀ b ∈ fp, FpOk X pins (upd H2 D (.lst [])) b ∧ b < s3.heap.objs.size := fun b hb => by
    have lt := below b hb
    refine ⟨⟨?_, (f2 b hb).2⟩, ?_⟩
    · rw [upd_ne (by rw [← hD]; exact Nat.ne_of_lt lt)]
      exact (f2 b hb).1
    · rw [h3, Heap.size_push]
      exact Nat.lt_succ_of_lt lt
  have st3 : tn 0 s3.heap := T.keep _ _ _ st2 fun b _ o e => (by rw [h3]; exact Heap.get?_push_of_some _ e)
  have I4 := block_start I3 ok hN f3
  obtain ⟨cl, hcl⟩ : ∃ cl, cellsFrom (s3.heap.objs.size + 1) sc.names (cloFrom X.env.cells sc.names []) = cl := ⟨_, rfl⟩
  have go : ∀ ce : Env, compEnvC sc cl s3.heap.objs.size X.env = ce → codeAny (model X.prog X.w) X.A (.compStart (.ListComp elt [⟨tg, iter, ifs, 0⟩] sc pos) 0 (.ref it) (.ref D) ce)
      (PostF (model X.prog X.w) X.A X.xe (EP X pins σ Q) (.ref D) s3.heap.objs.size X.env.frame) { s3 with heap := pushCells (s3.heap.push { cls := .type "dict", data := .dict #[] }) sc.names } := by
    intro ce hce
    rw [hcl, hce] at I4
    have pt := ht s3 (upd H2 D (.lst [])) s3.heap.objs.size cl fp
    have pe := he s3 (upd H2 D (.lst [])) s3.heap.objs.size cl fp
    rw [hce] at pt pe
    have cL : ce.locals = s3.heap.objs.size := by rw [← hce]; rfl
    have cF : ce.frame = X.env.frame := by rw [← hce]; rfl
    have nfp : ∀ b ∈ fp, (upd H2 D (.lst [])) b = none := fun b hb => (f3 b hb).1.1
    obtain ⟨H3, hH3⟩ : ∃ H3, upd H2 D (.lst []) = H3 := ⟨_, rfl⟩
    rw [hH3] at I3 I4 pt pe w0 nfp f3
    have hb : HotB (X.blk s3 H3 sc ce fp) := hot_blk hot I3 fun b hb p hp => (f3 b hb).1.2.2.2.2.2 p (List.mem_append_left _ hp)
    have pg : PG (X.blk s3 H3 sc ce fp) tg g := by
      have z := hg s3 H3 s3.heap.objs.size cl fp
      rw [hce] at z
      exact z hb
    obtain ⟨s4, hs4⟩ : ∃ s4 : Shared, ({ s3 with heap := pushCells (s3.heap.push { cls := .type "dict", data := .dict #[] }) sc.names } : Shared) = s4 := ⟨_, rfl⟩
    rw [hs4] at I4 ⊢
    have st4 : tn 0 s4.heap := T.keep _ _ _ st3 fun b _ o e => (by rw [← hs4]; exact pushCells_keeps _ _ _ _ (Heap.get?_push_of_some _ e))
    -- what a state of the block is, seen from the def
    have outer : ∀ {p : List (Addr × Obj)} {σ' : L2.St} {H' : Hp} {s' : Shared}, Inv (X.blk s3 H3 sc ce fp) p σ' H' s' → Inv X pins σ H' s' ∧ (∃ m, s'.heap.Ns s3.heap.objs.size m) ∧ FpOk X pins H' s3.heap.objs.size := by
      intro p σ' H' s' I6
      have nC : H' s3.heap.objs.size = none := by rw [← cL]; exact I6.free
      obtain ⟨m, hn, _⟩ := I6.loc
      refine ⟨I3.call' (ch := fp) I6.os I6.base I6.hok I6.bare fun b hb => ?_, ⟨m, by rw [← cL]; exact hn⟩, I3.fpOk (Nat.le_refl _) nC⟩
      obtain ⟨z1, z2, z3, z4, z5, z6⟩ := (f3 b hb).1
      exact ⟨z4, z2, z5, z6⟩
    have stat : ∀ {σ' : L2.St} {H' : Hp} {s' : Shared}, Inv (X.blk s3 H3 sc ce fp) [] σ' H' s' → (∀ b ∈ fp, H' b = none) → ∀ b ∈ fp, FpOk (X.blk s3 H3 sc ce fp) [] H' b := fun I' hn b hb =>
      ⟨hn b hb, (I'.ok.exf b hb).1, I'.ok.exfs b hb, .inl hb, fun x c e => (I'.ok.exf b hb).2 x c e, fun p hp => nomatch (show p ∈ ([] : List (Addr × Obj)) from hp)⟩
    have loop : codeAny (model X.prog X.w) X.A (.compLoop (.ListComp elt [⟨tg, iter, ifs, 0⟩] sc pos) 0 (.ref it) (.ref D) ce) (PostF (model X.prog X.w) X.A X.xe (EP X pins σ Q) (.ref D) s3.heap.objs.size X.env.frame) s4 := by
      refine compLoop_any (fun n t => ∃ i H', Inv (X.blk s3 H3 sc ce fp) [] (wipe σ (own.map (·.2))) H' t ∧ tn i t.heap ∧ (∀ b ∈ fp, H' b = none) ∧ W i n H') ?_ m0 ⟨0, H3, I4, st4, nfp, w0⟩
      rintro n s5 ⟨i, H5, I5, st5, n5, w5⟩
      rcases turn i n H5 w5 with ⟨stop, fine⟩ | ⟨goes, Nx, hNx, step⟩
      · refine thnF (T.done (X.blk s3 H3 sc ce fp) rfl rfl rfl hb i [] s5 _ H5 (fun _ _ => False) I5 (stat I5 n5) (fun _ h => h) st5 stop) ?_
        rintro r s6 ⟨rfl, I6⟩
        obtain ⟨I7, ⟨m, hn⟩, f0, f1, f2', f3', f4, f5⟩ := outer I6
        exact ⟨m, hn, fun h' sb => ⟨.ref D, H5, I7.turned (t' := s6.toks) (fun b o hb e => (sb.2 b hb).trans e) f0 f1 f3' f4 f5, rfl, fine⟩⟩
      · refine thnF (T.item (X.blk s3 H3 sc ce fp) rfl rfl rfl hb i [] s5 _ H5 (fun _ _ => False) I5 (stat I5 n5) (fun _ h => h) st5 goes) ?_
        rintro r s6 ⟨u, rfl, h6⟩
        refine thnF h6 fun _ s7 ⟨x, H7, I7, r7, y7, st7, n7⟩ => ?_
        refine thnF (pg.run _ s7 _ H7 x u _ (I7.pinned (stat I7 n7) (T.obj _ _ st7)) r7 (step x H7 y7)) fun _ s8 ⟨σ8, H8, I8, hw8, q8⟩ => ?_
        refine thnF (pt.run _ s8 σ8 H8 _ I8 q8) fun b s9 ⟨H9, I9, q9⟩ => ?_
        have fin : ∀ {t : Shared} {H' : Hp}, Inv (X.blk s3 H3 sc ce fp) ([] ++ pinsAt fp s7.heap) σ8 H' t → Nx H' → ∃ m, m < n ∧ ∃ i H', Inv (X.blk s3 H3 sc ce fp) [] (wipe σ (own.map (·.2))) H' t ∧ tn i t.heap ∧ (∀ b ∈ fp, H' b = none) ∧ W i m H' := by
          intro t H' I' nx
          obtain ⟨m', lt, w'⟩ := hNx H' nx
          have pinned : ∀ b ∈ fp, ∀ o, s7.heap.get? b = some o → t.heap.get? b = some o ∧ H' b = none := fun b hb o e => by
            have z := I'.pin (b, o) (List.mem_append_right _ (List.mem_append_right _ (mem_pinsAt hb e)))
            exact ⟨z.1, z.2.1⟩
          refine ⟨m', lt, i + 1, H', (I'.unpinned (pins := [])).weak (by rw [← hw8, wipe_length]) (fun j v e => ?_), T.keep _ _ _ st7 fun b hb o e => (pinned b hb o e).1, fun b hb => ?_, w'⟩
          · rw [← hw8] at e
            exact (wipe_some e).1
          · obtain ⟨o, e, _⟩ := T.obj _ _ st7 b hb
            exact (pinned b hb o e).2
        cases b with
        | false => exact fin I9 q9
        | true =>
          refine thnF (pe.run _ s9 σ8 H9 _ I9 q9) fun z s10 ⟨yv, H10, I11, r10, acc, hD10, hz10, nx⟩ => ?_
          exact app_ok (X := X.blk s3 H3 sc ce fp) I11 hD10 hz10 r10 fun s11 I12 => fin I12 nx
    exact codeAny_compStart_list loop (T.self X.A 0 _ _ _ st4 loop)
  subst hs3
  rw [hcl.symm] at go
  exact go _ rfl
end
/-! ### defs that raise with nothing in hand -/
theorem passLN {X : Cx} : Passes (L2N.CX X.prog X.w) X E0 := fun _ _ _ _ _ _ _ h => by
  obtain ⟨_, _, _, _, _, _, _, _, _, _, _, _, z⟩ := h
  exact z.elim
theorem cx_weak {P : Program} {w : World} {outer : List Env} {H : Hp} {s : Shared} {E : XK} {u : Value} {s' : Shared} (c : L2N.CX P w outer H s E u s') : L2.CX P w outer H s E u s' := by
  obtain ⟨a, B, H', cls, d, e, fl, r⟩ := c
  exact ⟨a, B, H', cls, d, e, flyingZ_imp (fun o z => z.zc) fl, r⟩
theorem passes_callM {X : Cx} {W : WX} {E : XK} (tk : L2.Takes X W) (hW : ∀ cls d σ H, E cls d H → W cls d σ H) : Passes (L2N.CX X.prog X.w) X E := fun pins σ H s e s' I c => L2.passes_call tk hW pins σ H s e s' I (cx_weak c)
theorem okXN {P : Program} {w : World} {K : PySem.W.Frag} {mg : Str → Option Value} {base : Heap} {x qual : Str} {st : Stmt} {f : Addr} {fd : FuncData} {N ps : List Str} {k : Nat} {sp : Sp} (F : Fun K x qual st f fd) (S : FnScope N ps (defScope st)) (len : ∀ vs H Q E, sp vs H Q E → vs.length = ps.length)
    (hbody : ∀ (cdv : Value) (A : Around) (outer : List Env) (s : Shared) (H : Hp) (vs : List V) (Q : VK) (E : XK), Room k (A.deeper (envOfC qual (defScope st) s.heap.objs.size f cdv)) → sp vs H Q E →
      ∃ t, PSs (cxOf (L2N.CX P w) P w K mg base N qual (defScope st) f cdv A outer s H E) (defBody st) t ∧ t { nx := fun _ H' => Q .non H', rt := Q } (start N vs) H) : FnOk P w K mg base (L2N.CX P w) (k + 1) f fd ps sp := by
  obtain ⟨oc, od, kV, doc, pm, an, cdv, ct, osl, rfl, lk, hcd⟩ := F.ex
  exact fn_of lk hcd S len fun A outer s H vs Q E hr hsp => hbody cdv A outer s H vs Q E hr hsp
theorem takes0N {X : Cx} : L2N.Takes X (fun _ _ _ _ => False) := fun _ _ x => by
  obtain ⟨_, _, _, _, _, _, _, _, _, _, _, _, _, _, _, _, z⟩ := x
  exact z.elim
theorem hotC_of {X : Cx} {a : Addr} {oe : Obj} {cls : Value} {d : Option Addr} {pn : List (Addr × Obj)} (hz : L2N.Zn cls d oe) (hf : ∃ vs, oe.data = .fields vs) : HotC (X.suite a ((a, oe) :: pn)) := by
  obtain ⟨vs, hd⟩ := hf
  exact ⟨(a, oe), ⟨rfl, vs, hd, hz.2.2 vs hd⟩, List.mem_cons_self⟩
theorem with_hot {Y : Cx} {b : List Stmt} {t : TS} (f : HotC Y → PSs Y b t) (h : HotC Y) : PSs Y b t := f h
end BP

namespace BP
open PySem L2
/-! ### the text by places -/
def top (i : Nat) : Stmt := PySem.Challenge.pw_boxpile_k13_whole_rows_played.main.body.getD i (.Pass ⟨0, 0, 0, 0⟩)
abbrev sBoxInit : Stmt := inClass (top 12) 0
abbrev sInit : Stmt := inClass (top 13) 0
abbrev sMake : Stmt := inClass (top 13) 1
abbrev sHold : Stmt := inClass (top 13) 2
abbrev sDrop : Stmt := inClass (top 13) 3
abbrev sPut : Stmt := inClass (top 13) 4
abbrev sEmpty : Stmt := inClass (top 13) 5
abbrev sTake : Stmt := inClass (top 13) 6
abbrev sSlotsWith : Stmt := inClass (top 13) 14
abbrev sHolds : Stmt := inClass (top 13) 7
abbrev sPoints : Stmt := inClass (top 13) 8
abbrev sWeighs : Stmt := inClass (top 13) 9
abbrev sAlive : Stmt := inClass (top 13) 10
abbrev sSuspects : Stmt := inClass (top 13) 11
abbrev sBox : Stmt := inClass (top 13) 13
abbrev sPoint : Stmt := inClass (top 13) 15
abbrev sLetGo : Stmt := inClass (top 13) 16
abbrev sCheck : Stmt := top 14
abbrev sCheckSlot : Stmt := top (14 + 1)
abbrev sClear : Stmt := inClass (top 13) 12

/-- an error class of the text -/
structure Err (K : PySem.W.Frag) (mg : Str → Option Value) (x : Str) (E : Addr) : Prop where
  g : mg x = some (.ref E)
  x : PySem.W.excIn K E [.type "ValueError", .type "Exception", .type "BaseException", .type "object"] "ValueError.__new__" = true
  k : PySem.W.keepIn K (.ref E) = true
  b : PySem.W.subIn K (.ref E) (.type "BaseException") = some true
  t : PySem.W.typeIn K (.ref E) = some (.type "type")
/-- what the top has made -/
structure Txt (K : PySem.W.Frag) (mg : Str → Option Value) (C B eH eS eF eB eL : Addr) : Prop where
  clC : Cls K C
  nH : NoAttr K C "_hands"
  nB : NoAttr K C "_boxes"
  nM : NoAttr K C "_made"
  clB : Cls K B
  nS : NoAttr K B "slots"
  nW : NoAttr K B "weight"
  nU : NoAttr K B "suspect"
  mgC : mg "Pile" = some (.ref C)
  mgB : mg "Box" = some (.ref B)
  len : mg "len" = none
  list : mg "list" = none
  sorted : mg "sorted" = none
  hands : ∃ t, mg "HANDS" = some (.int 8 t)
  most : ∃ t, mg "MOST_SLOTS" = some (.int 6 t)
  alive : ∃ t, mg "MOST_ALIVE" = some (.int 60 t)
  eH : Err K mg "NoHand" eH
  eS : Err K mg "NoSize" eS
  eF : Err K mg "Full" eF
  eB : Err K mg "NoBox" eB
  eL : Err K mg "NoSlot" eL

/-! ### promises -/
def spCheck (eH : Addr) : Sp := fun vs H Q E => ∃ h : Int, vs = [.int h] ∧ ((0 ≤ h ∧ h < 8) → Q .non H) ∧ (¬ (0 ≤ h ∧ h < 8) → E (.ref eH) none H)
def spBoxInit (B : Addr) : Sp := fun vs H Q _ => ∃ (x dx : Addr) (n : Nat), vs = [.ref x, .int n] ∧ n ≤ 6 ∧ H x = some (.ins B dx []) ∧
  ∀ l sl, H l = none → upd H l (.lst [.non]) sl = none → Q .non (upd (upd (upd H l (.lst [.non])) sl (.lst (lV (List.replicate n none)))) x (.ins B dx (bf sl 0 false)))
def spInit (C B : Addr) : Sp := fun vs H Q _ => ∃ (R : Hp) (p dx : Addr), vs = [.ref p] ∧ Same R H ∧ R p = none ∧ H p = some (.ins C dx []) ∧ ∀ (g : Geo) (H' : Hp), PileAt C B p g pl0 R H' → Q .non H'
def spLetGo (C B : Addr) : Sp := fun vs H Q _ => ∃ (p : Addr) (g : Geo) (P : Pl) (R : Hp) (x : Option Int), vs = [.ref p, oV x] ∧ PileAt C B p g P R H ∧ Wf P [x] ∧
  ∀ (l : Addr) (H' : Hp), R l = none → PileAt C B p g { P with boxes := (run P.boxes [x]).1 } (upd R l (.lst ((run P.boxes [x]).2.map V.int))) H' → Q (.ref l) H'
/-- a pointer at a place of a list (the hands', or the slots of a box): S is the pile with the new one there -/
def spPoint (C B : Addr) : Sp := fun vs H Q _ => ∃ (p a : Addr) (g : Geo) (P S : Pl) (R : Hp) (x : Option Int) (l : List (Option Int)) (i : Nat), vs = [.ref p, .ref a, .int i, oV x] ∧ PileAt C B p g P R H ∧ (∀ n, x = some n → ∃ b, get P.boxes n = some b) ∧ i < l.length ∧
  (∀ H1, PileAt C B p g { P with boxes := bumped P.boxes x } R H1 → H1 a = some (.lst (lV l)) ∧ PileAt C B p g S R (upd H1 a (.lst (lV (l.set i x))))) ∧ Wf S [l.getD i none] ∧
  ∀ (r : Addr) (H' : Hp), R r = none → PileAt C B p g { S with boxes := (run S.boxes [l.getD i none]).1 } (upd R r (.lst ((run S.boxes [l.getD i none]).2.map V.int))) H' → Q (.ref r) H'
def spMake (C B eH eS eF : Addr) : Sp := fun vs H Q E => ∃ (p : Addr) (P : Pl) (R : Hp) (h s : Int), vs = [.ref p, .int h, .int s] ∧ PileIn C B p P R H ∧
  (¬ (0 ≤ h ∧ h < 8) → E (.ref eH) none H) ∧ ((0 ≤ h ∧ h < 8) → ¬ (0 ≤ s ∧ s ≤ 6) → E (.ref eS) none H) ∧ ((0 ≤ h ∧ h < 8) → (0 ≤ s ∧ s ≤ 6) → 60 ≤ P.boxes.length → E (.ref eF) none H) ∧
  ((0 ≤ h ∧ h < 8) → (0 ≤ s ∧ s ≤ 6) → P.boxes.length < 60 → ∀ (r : Addr) (H' : Hp), R r = none → PileIn C B p (mk P h.toNat s.toNat).1 (upd R r (.lst ((mk P h.toNat s.toNat).2.map V.int))) H' → Q (.ref r) H')
def spHold (C B eH : Addr) : Sp := fun vs H Q E => ∃ (p : Addr) (P : Pl) (R : Hp) (h o : Int), vs = [.ref p, .int h, .int o] ∧ PileIn C B p P R H ∧
  (¬ (0 ≤ h ∧ h < 8) → E (.ref eH) none H) ∧ ((0 ≤ h ∧ h < 8) → ¬ (0 ≤ o ∧ o < 8) → E (.ref eH) none H) ∧
  ((0 ≤ h ∧ h < 8) → (0 ≤ o ∧ o < 8) → ∀ (r : Addr) (H' : Hp), R r = none → PileIn C B p (ptHand P h.toNat (P.hands.getD o.toNat none)).1 (upd R r (.lst ((ptHand P h.toNat (P.hands.getD o.toNat none)).2.map V.int))) H' → Q (.ref r) H')
def spDrop (C B eH : Addr) : Sp := fun vs H Q E => ∃ (p : Addr) (P : Pl) (R : Hp) (h : Int), vs = [.ref p, .int h] ∧ PileIn C B p P R H ∧
  (¬ (0 ≤ h ∧ h < 8) → E (.ref eH) none H) ∧
  ((0 ≤ h ∧ h < 8) → ∀ (r : Addr) (H' : Hp), R r = none → PileIn C B p (ptHand P h.toNat none).1 (upd R r (.lst ((ptHand P h.toNat none).2.map V.int))) H' → Q (.ref r) H')
def spSlotsWith (C B eB eL : Addr) : Sp := fun vs H Q E => ∃ (p : Addr) (g : Geo) (P : Pl) (R : Hp) (h s : Int), vs = [.ref p, .int h, .int s] ∧ PileAt C B p g P R H ∧ Wf P [] ∧ (0 ≤ h ∧ h < 8) ∧
  (P.hands.getD h.toNat none = none → E (.ref eB) none H) ∧
  (∀ n b, P.hands.getD h.toNat none = some n → get P.boxes n = some b → ¬ (0 ≤ s ∧ s < (b.slots.length : Int)) → E (.ref eL) none H) ∧
  (∀ n b, P.hands.getD h.toNat none = some n → get P.boxes n = some b → (0 ≤ s ∧ s < (b.slots.length : Int)) → Q (.ref (g.sa n)) H)
def spPut (C B eH eB eL : Addr) : Sp := fun vs H Q E => ∃ (p : Addr) (P : Pl) (R : Hp) (h s o : Int), vs = [.ref p, .int h, .int s, .int o] ∧ PileIn C B p P R H ∧
  (¬ (0 ≤ h ∧ h < 8) → E (.ref eH) none H) ∧ ((0 ≤ h ∧ h < 8) → ¬ (0 ≤ o ∧ o < 8) → E (.ref eH) none H) ∧
  ((0 ≤ h ∧ h < 8) → (0 ≤ o ∧ o < 8) → P.hands.getD h.toNat none = none → E (.ref eB) none H) ∧
  ((0 ≤ h ∧ h < 8) → (0 ≤ o ∧ o < 8) → ∀ n b, P.hands.getD h.toNat none = some n → get P.boxes n = some b → ¬ (0 ≤ s ∧ s < (b.slots.length : Int)) → E (.ref eL) none H) ∧
  ((0 ≤ h ∧ h < 8) → (0 ≤ o ∧ o < 8) → ∀ n b, P.hands.getD h.toNat none = some n → get P.boxes n = some b → (0 ≤ s ∧ s < (b.slots.length : Int)) →
    ∀ (r : Addr) (H' : Hp), R r = none → PileIn C B p (ptSlot P n s.toNat (P.hands.getD o.toNat none)).1 (upd R r (.lst ((ptSlot P n s.toNat (P.hands.getD o.toNat none)).2.map V.int))) H' → Q (.ref r) H')
def spEmpty (C B eH eB eL : Addr) : Sp := fun vs H Q E => ∃ (p : Addr) (P : Pl) (R : Hp) (h s : Int), vs = [.ref p, .int h, .int s] ∧ PileIn C B p P R H ∧
  (¬ (0 ≤ h ∧ h < 8) → E (.ref eH) none H) ∧ ((0 ≤ h ∧ h < 8) → P.hands.getD h.toNat none = none → E (.ref eB) none H) ∧
  ((0 ≤ h ∧ h < 8) → ∀ n b, P.hands.getD h.toNat none = some n → get P.boxes n = some b → ¬ (0 ≤ s ∧ s < (b.slots.length : Int)) → E (.ref eL) none H) ∧
  ((0 ≤ h ∧ h < 8) → ∀ n b, P.hands.getD h.toNat none = some n → get P.boxes n = some b → (0 ≤ s ∧ s < (b.slots.length : Int)) →
    ∀ (r : Addr) (H' : Hp), R r = none → PileIn C B p (ptSlot P n s.toNat none).1 (upd R r (.lst ((ptSlot P n s.toNat none).2.map V.int))) H' → Q (.ref r) H')
def spTake (C B eH eB eL : Addr) : Sp := fun vs H Q E => ∃ (p : Addr) (P : Pl) (R : Hp) (h o s : Int), vs = [.ref p, .int h, .int o, .int s] ∧ PileIn C B p P R H ∧
  (¬ (0 ≤ h ∧ h < 8) → E (.ref eH) none H) ∧ ((0 ≤ h ∧ h < 8) → ¬ (0 ≤ o ∧ o < 8) → E (.ref eH) none H) ∧
  ((0 ≤ h ∧ h < 8) → (0 ≤ o ∧ o < 8) → P.hands.getD o.toNat none = none → E (.ref eB) none H) ∧
  ((0 ≤ h ∧ h < 8) → (0 ≤ o ∧ o < 8) → ∀ n b, P.hands.getD o.toNat none = some n → get P.boxes n = some b → ¬ (0 ≤ s ∧ s < (b.slots.length : Int)) → E (.ref eL) none H) ∧
  ((0 ≤ h ∧ h < 8) → (0 ≤ o ∧ o < 8) → ∀ n b, P.hands.getD o.toNat none = some n → get P.boxes n = some b → (0 ≤ s ∧ s < (b.slots.length : Int)) →
    ∀ (r : Addr) (H' : Hp), R r = none → PileIn C B p (ptHand P h.toNat (b.slots.getD s.toNat none)).1 (upd R r (.lst ((ptHand P h.toNat (b.slots.getD s.toNat none)).2.map V.int))) H' → Q (.ref r) H')
def spHolds (C B eH : Addr) : Sp := fun vs H Q E => ∃ (p : Addr) (g : Geo) (P : Pl) (R : Hp) (h : Int), vs = [.ref p, .int h] ∧ PileAt C B p g P R H ∧ P.hands.length = 8 ∧
  (¬ (0 ≤ h ∧ h < 8) → E (.ref eH) none H) ∧ ((0 ≤ h ∧ h < 8) → Q (oV (P.hands.getD h.toNat none)) H)
def spBox (C B eB : Addr) : Sp := fun vs H Q E => ∃ (p : Addr) (g : Geo) (P : Pl) (R : Hp) (n : Int), vs = [.ref p, .int n] ∧ PileAt C B p g P R H ∧
  (get P.boxes n = none → E (.ref eB) none H) ∧ (∀ b, get P.boxes n = some b → Q (.ref (g.ba n)) H)
def spPoints (C B eB : Addr) : Sp := fun vs H Q E => ∃ (p : Addr) (g : Geo) (P : Pl) (R : Hp) (n : Int), vs = [.ref p, .int n] ∧ PileAt C B p g P R H ∧ (∀ b, get P.boxes n = some b → b.slots.length ≤ 6) ∧
  (get P.boxes n = none → E (.ref eB) none H) ∧ (∀ b, get P.boxes n = some b → ∀ r, H r = none → Q (.ref r) (upd H r (.lst (lV b.slots))))
def spWeighs (C B eB : Addr) : Sp := fun vs H Q E => ∃ (p : Addr) (g : Geo) (P : Pl) (R : Hp) (n : Int), vs = [.ref p, .int n] ∧ PileAt C B p g P R H ∧
  (get P.boxes n = none → E (.ref eB) none H) ∧ (∀ b, get P.boxes n = some b → Q (.int b.wt) H)
def spAlive (C B : Addr) : Sp := fun vs H Q _ => ∃ (p : Addr) (g : Geo) (P : Pl) (R : Hp), vs = [.ref p] ∧ PileAt C B p g P R H ∧ Wf P [] ∧ ∀ r, H r = none → Q (.ref r) (upd H r (.lst ((keys P.boxes).map V.int)))
def spSuspects (C B : Addr) : Sp := fun vs H Q _ => ∃ (p : Addr) (g : Geo) (P : Pl) (R : Hp), vs = [.ref p] ∧ PileAt C B p g P R H ∧ Wf P [] ∧ ∀ r H', R r = none → PileAt C B p g P (upd R r (.lst ((susp P).map V.int))) H' → Q (.ref r) H'

section
variable {P : Program} {w : World} {K : PySem.W.Frag} {mg : Str → Option Value} {base : Heap} {C B eH eS eF eB eL : Addr}
/-- a statement read in two steps: what holds behind it, then what is wanted of that -/
def tMid (t : TS) : TS := fun D σ H => ∃ M : St → Hp → Prop, t { D with nx := M } σ H ∧ ∀ σ' H', M σ' H' → D.nx σ' H'
theorem ps_mid {X : Cx} {st : Stmt} {t : TS} (h : PS X st t) : PS X st (tMid t) := by
  refine ⟨fun pins s σ H D I q => ?_⟩
  obtain ⟨M, q1, q2⟩ := q
  refine wpAny_mono (h.run pins s σ H { D with nx := M } I q1) (fun f s1 z => ?_) fun _ _ z => z
  cases f with
  | next =>
    obtain ⟨σ', H', I', m⟩ := z
    exact ⟨σ', H', I', q2 σ' H' m⟩
  | ret v => exact z
  | brk => exact z
  | cont => exact z
/-- a test read in two steps -/
def tMidT (t : TT) : TT := fun σ H Q => ∃ M : Bool → Hp → Prop, t σ H M ∧ ∀ b H', M b H' → Q b H'
theorem pt_mid {X : Cx} {e : Expr} {t : TT} (h : PT X e t) : PT X e (tMidT t) := by
  refine ⟨fun pins s σ H Q I q => ?_⟩
  obtain ⟨M, q1, q2⟩ := q
  refine wpAny_mono (h.run pins s σ H M I q1) (fun b s1 z => ?_) fun _ _ z => z
  obtain ⟨H', I', m⟩ := z
  exact ⟨H', I', q2 b H' m⟩
theorem if_pos_of {c : Bool} {A B : Prop} (hc : c = true) (h : A) : if c = true then A else B := by
  rw [if_pos hc]
  exact h
theorem if_neg_of {c : Bool} {A B : Prop} (hc : c = false) (h : B) : if c = true then A else B := by
  rw [hc, if_neg Bool.false_ne_true]
  exact h
theorem err_raises {X : Cx} {x : Str} {E : Addr} (e : Err X.K X.mg x E) : Raises X (.ref E) := raises_own e.b e.t
/-! ### check_hand -/
theorem scCheck : FnScope ["hand"] ["hand"] (defScope sCheck) := ⟨rfl, rfl, rfl, by decide +kernel, rfl, by decide +kernel, by decide +kernel⟩
theorem ok_check {f : Addr} {fd : FuncData} (F : Fun K "check_hand" "check_hand" sCheck f fd) (T : Txt K mg C B eH eS eF eB eL) : FnOk P w K mg base (L2N.CX P w) 1 f fd ["hand"] (spCheck eH) := by
  refine okXN F scCheck (fun vs H Q E h => ?_) (fun cdv A outer s H vs Q E hr h => ?_)
  · obtain ⟨h, rfl, _⟩ := h
    rfl
  · obtain ⟨h, rfl, k1, k2⟩ := h
    obtain ⟨t, hT⟩ := T.hands
    refine ⟨_, pss_one (ps_if (pt_not (pt_chain op_le op_lt pe_int (pv 0) (pe_glob (v := .int 8) rfl hT ⟨_, rfl⟩))) (pss_one (L2N.ps_raise rfl (L2N.takes_of rfl rfl rfl rfl) (L2N.pmk_own PySem.F.excBase_ValueError T.eH.x T.eH.g T.eH.k (raises_own T.eH.b T.eH.t) rfl))) pss_nil), ?_⟩
    refine ⟨_, rfl, _, _, rfl, rfl, _, rfl, ?_⟩
    by_cases h0 : 0 ≤ h
    · rw [decide_eq_true h0]
      refine iteT ⟨_, _, rfl, rfl, _, rfl, ?_⟩
      by_cases h8 : h < 8
      · rw [decide_eq_true h8]
        exact iteF (k1 ⟨h0, h8⟩)
      · rw [decide_eq_false h8]
        exact iteT (k2 fun z => h8 z.2)
    · rw [decide_eq_false h0]
      refine iteF ⟨_, rfl, ?_⟩
      exact iteT (k2 fun z => h0 z.1)
/-! ### Box.__init__ -/
theorem scBoxInit : FnScope ["self", "size"] ["self", "size"] (defScope sBoxInit) := ⟨rfl, rfl, rfl, by decide +kernel, rfl, by decide +kernel, by decide +kernel⟩
theorem rep_none (n : Nat) : (List.replicate n [V.non]).flatten = lV (List.replicate n none) := by
  unfold lV
  rw [List.map_replicate]
  induction n with
  | zero => rfl
  | succ n ih => rw [List.replicate_succ, List.flatten_cons, ih]; rfl
theorem ok_boxinit {f : Addr} {fd : FuncData} (F : Fun K "__init__" "Box.__init__" sBoxInit f fd) (T : Txt K mg C B eH eS eF eB eL) : FnOk P w K mg base CX0 1 f fd ["self", "size"] (spBoxInit B) := by
  refine F.ok scBoxInit (fun vs H Q E h => ?_) (fun cdv A outer s H vs Q E hr h => ?_)
  · obtain ⟨x, dx, n, rfl, _⟩ := h
    rfl
  · obtain ⟨x, dx, n, rfl, hn, hx, k⟩ := h
    refine ⟨_, pss_cons (ps_fld (pv 0) (pe_op op_rep (pe_lst (pa_cons pe_non pa_nil)) (pv 1)) rfl) (pss_cons (ps_fld (pv 0) pe_int rfl) (pss_one (ps_fld (pv 0) pe_bl rfl))), ?_⟩
    refine ⟨(by show 1 ≤ sizeLine; decide), fun l hl => ?_⟩
    have nx : x ≠ l := ne_of_none hx hl
    refine ⟨_, rfl, l, n, [.non], rfl, rfl, upd_same, by omega, by omega, (by show 1 * n ≤ sizeLine; rw [sizeLine_eq]; omega), fun sl hsl => ?_⟩
    have nx2 : x ≠ sl := ne_of_none (by rw [upd_ne nx]; exact hx) hsl
    refine ⟨_, rfl, x, B, dx, [], rfl, (by rw [upd_ne nx2, upd_ne nx]; exact hx), T.clB, T.nS, (by show 0 < 1000; decide), ?_⟩
    refine ⟨_, rfl, x, B, dx, _, rfl, upd_same, T.clB, T.nW, (by show 1 < 1000; decide), ?_⟩
    refine ⟨_, rfl, x, B, dx, _, rfl, upd_same, T.clB, T.nU, (by show (putF "weight" (.int 0) (putF "slots" (.ref sl) [])).length < 1000; show (if ("slots" : Str) = "weight" then [(("slots" : Str), V.int 0)] else (("slots" : Str), V.ref sl) :: [(("weight" : Str), V.int 0)]).length < 1000; rw [if_neg s_sw]; show 2 < 1000; decide), ?_⟩
    have k' := k l sl hl hsl
    rw [← rep_none] at k'
    rw [upd_upd, upd_upd]
    exact k'
/-! ### Pile.__init__ -/
theorem scInit : FnScope ["self"] ["self"] (defScope sInit) := ⟨rfl, rfl, rfl, by decide +kernel, rfl, by decide +kernel, by decide +kernel⟩
theorem ok_init {f : Addr} {fd : FuncData} (F : Fun K "__init__" "Pile.__init__" sInit f fd) (T : Txt K mg C B eH eS eF eB eL) : FnOk P w K mg base CX0 1 f fd ["self"] (spInit C B) := by
  refine F.ok scInit (fun vs H Q E h => ?_) (fun cdv A outer s H vs Q E hr h => ?_)
  · obtain ⟨R, p, dx, rfl, _⟩ := h
    rfl
  · obtain ⟨R, p, dx, rfl, hs, rp, hp, k⟩ := h
    obtain ⟨t, hT⟩ := T.hands
    refine ⟨_, pss_cons (ps_fld (pv 0) (pe_op op_rep (pe_lst (pa_cons pe_non pa_nil)) (pe_glob (v := .int 8) rfl hT ⟨_, rfl⟩)) rfl) (pss_cons (ps_fld (pv 0) pe_dnewK rfl) (pss_one (ps_fld (pv 0) pe_int rfl))), ?_⟩
    refine ⟨(by show 1 ≤ sizeLine; decide), fun l hl => ?_⟩
    have npl : p ≠ l := ne_of_none hp hl
    refine ⟨l, 8, [.non], rfl, rfl, upd_same, by omega, by omega, (by show 8 ≤ sizeLine; rw [sizeLine_eq]; omega), fun lh hlh => ?_⟩
    have npm : p ≠ lh := ne_of_none (by rw [upd_ne npl]; exact hp) hlh
    refine ⟨_, rfl, p, C, dx, [], rfl, (by rw [upd_ne npm, upd_ne npl]; exact hp), T.clC, T.nH, (by show 0 < 1000; decide), fun db hdb => ?_⟩
    have npd : p ≠ db := ne_of_none upd_same hdb
    have nhd : lh ≠ db := ne_of_none (by rw [upd_ne npm.symm, upd_same]) hdb
    refine ⟨_, rfl, p, C, dx, _, rfl, (by rw [upd_ne npd, upd_same]), T.clC, T.nB, (by show 1 < 1000; decide), ?_⟩
    refine ⟨_, rfl, p, C, dx, _, rfl, upd_same, T.clC, T.nM, (by show (putF "_boxes" (.ref db) (putF "_hands" (.ref lh) [])).length < 1000; show (if ("_hands" : Str) = "_boxes" then [(("_hands" : Str), V.ref db)] else (("_hands" : Str), V.ref lh) :: [(("_boxes" : Str), V.ref db)]).length < 1000; rw [if_neg s_hb]; show 2 < 1000; decide), ?_⟩
    rw [upd_upd]
    have fl : H l = none := hl
    have flh : H lh = none := by
      by_cases q : lh = l
      · rw [q]; exact hl
      · rw [upd_ne q] at hlh; exact hlh
    have fdb : H db = none := by
      have n1 : db ≠ p := npd.symm
      have n2 : db ≠ lh := nhd.symm
      rw [upd_ne n1, upd_ne n2] at hdb
      by_cases q : db = l
      · rw [q]; exact hl
      · rw [upd_ne q] at hdb; exact hdb
    have e8 : (List.replicate (Int.toNat 8) [V.non]).flatten = lV pl0.hands := rep_none 8
    refine k ⟨dx, lh, db, fun _ => 0, fun _ => 0, fun _ => 0⟩ _ ⟨fun b o e => ?_, rp, hs.free flh, hs.free fdb, fun n b e => ?_, fun n b e => ?_, upd_same, ?_, ?_, fun n b e => ?_, fun n b e => ?_, fun n m b c e => ?_, fun n m b c e => ?_, fun n b e => ?_⟩
    · have e' := hs b o e
      rw [upd_ne (fun q => by rw [q, rp] at e; cases e), upd_ne (ne_of_none e' fdb), upd_ne (fun q => by rw [q, rp] at e; cases e), upd_ne (ne_of_none e' flh), upd_ne (ne_of_none e' fl)]
      exact e'
    · cases e
    · cases e
    · show upd _ p _ lh = _
      rw [upd_ne npm.symm, upd_ne nhd, upd_ne npm.symm, upd_same, e8]
    · show upd _ p _ db = _
      rw [upd_ne npd.symm, upd_same]
      rfl
    · cases e
    · cases e
    · cases e
    · cases e
    · cases e
/-! ### _let_go -/
theorem scLetGo : FnScope ["self", "pointer", "waiting", "freed", "number", "box"] ["self", "pointer"] (defScope sLetGo) := ⟨rfl, rfl, rfl, by decide +kernel, rfl, by decide +kernel, by decide +kernel⟩
/-- two lists of the def's own beside what is known -/
def twoL (R : Hp) (a b : Addr) (xs ys : List V) : Hp := upd (upd R a (.lst xs)) b (.lst ys)
theorem upd_comm {H : Hp} {a b : Addr} {o u : HO} (h : a ≠ b) : upd (upd H a o) b u = upd (upd H b u) a o := by
  funext c
  by_cases q : c = a
  · rw [q, upd_ne h, upd_same, upd_same]
  · by_cases q2 : c = b
    · rw [q2, upd_same, upd_ne h.symm, upd_same]
    · rw [upd_ne q2, upd_ne q, upd_ne q, upd_ne q2]
theorem twoL_a {R : Hp} {a b : Addr} {xs ys zs : List V} (h : a ≠ b) : upd (twoL R a b xs ys) a (.lst zs) = twoL R a b zs ys := by
  unfold twoL
  rw [upd_comm h, upd_upd, ← upd_comm h]
theorem twoL_b {R : Hp} {a b : Addr} {xs ys zs : List V} : upd (twoL R a b xs ys) b (.lst zs) = twoL R a b xs zs := upd_upd
theorem chg_chg (n : Int) (f g : Bx → Bx) : ∀ bs, chg (chg bs n f) n g = chg bs n fun b => g (f b)
  | [] => rfl
  | e :: bs => by
    have e1 : ∀ (e : Int × Bx) (bs : List (Int × Bx)) (f : Bx → Bx), chg (e :: bs) n f = (if e.1 = n then (e.1, f e.2) else e) :: chg bs n f := fun _ _ _ => rfl
    rw [e1, e1, e1, chg_chg n f g bs]
    by_cases h : e.1 = n
    · simp [h]
    · simp [h]
theorem rm_chg (n : Int) (f : Bx → Bx) : ∀ bs, rm (chg bs n f) n = rm bs n
  | [] => rfl
  | e :: bs => by
    have e1 : chg (e :: bs) n f = (if e.1 = n then (e.1, f e.2) else e) :: chg bs n f := rfl
    have ih := rm_chg n f bs
    unfold rm at ih ⊢
    rw [e1, List.filter_cons, List.filter_cons, ih]
    by_cases h : e.1 = n
    · simp [h]
    · simp [h]
theorem seq0 {n : Nat} (h : 0 < n) : seqIndex? 0 n = some 0 := by
  unfold seqIndex?
  simp [h]
theorem ok_letgo {f : Addr} {fd : FuncData} (F : Fun K "_let_go" "Pile._let_go" sLetGo f fd) (T : Txt K mg C B eH eS eF eB eL) : FnOk P w K mg base CX0 1 f fd ["self", "pointer"] (spLetGo C B) := by
  refine F.ok scLetGo (fun vs H Q E h => ?_) (fun cdv A outer s H vs Q E hr h => ?_)
  · obtain ⟨p, g, P, R, x, rfl, _⟩ := h
    rfl
  · obtain ⟨p, g, Q0, R, x, rfl, A0, W0, k⟩ := h
    have hu := hu_of hr
    refine ⟨_, pss_cons (ps_set (i := 2) scLetGo.nd rfl (Or.inl rfl) (pe_lst (pa_cons (pv 1) pa_nil))) (pss_cons (ps_set (i := 3) scLetGo.nd rfl (Or.inl rfl) (pe_lst pa_nil))
      (pss_cons (ps_while PassesOwn.never (pt_truth (pv 2) (by intro _; rfl))
        (pss_cons (ps_set (i := 4) scLetGo.nd rfl (Or.inl rfl) (pe_bm PySem.F.plainAttrs_list PySem.F.slot_list_pop PySem.F.type_list_pop mt_popAt (pv 2) (pa_cons pe_int pa_nil)))
        (pss_cons (ps_if (pt_cmpR op_isN (pv 4) pe_non (nomark _)) (pss_one ps_continue) pss_nil)
        (pss_cons (ps_set (i := 5) scLetGo.nd rfl (Or.inl rfl) (pe_dget hu (pe_fld (pv 0) rfl) (pv 4) (fun _ _ => rfl)))
        (pss_cons (ps_fldaug (pv 5) pe_int in_sub)
        (pss_cons (ps_fld (pv 5) pe_bl rfl)
        (pss_one (ps_if (pt_cmpR op_eq (pe_fld (pv 5) rfl) pe_int (nomark _))
          (pss_cons (ps_ddel (pe_fld (pv 0) rfl) (pv 4))
          (pss_cons (ps_expr (pe_bm PySem.F.plainAttrs_list PySem.F.slot_list_append PySem.F.type_list_append mt_append (pv 3) (pa_cons (pv 4) pa_nil)))
          (pss_one (ps_expr (pe_bm PySem.F.plainAttrs_list PySem.F.slot_list_extend PySem.F.type_list_extend mt_extend (pv 2) (pa_cons (pe_fld (pv 5) rfl) pa_nil)))))) pss_nil))))))))
      (pss_one (ps_ret (pv 3))))), ?_⟩
    refine ⟨_, rfl, (by show 1 ≤ sizeLine; decide), fun wl hwl => ?_⟩
    refine ⟨(by show 0 ≤ sizeLine; decide), fun fl hfl => ?_⟩
    have nwf : wl ≠ fl := ne_of_none upd_same hfl
    have rwl : R wl = none := A0.same.free hwl
    have rfl' : R fl = none := by
      have : H fl = none := by rw [upd_ne nwf.symm] at hfl; exact hfl
      exact A0.same.free this
    have A1 : PileAt C B p g Q0 (twoL R wl fl (lV [x]) ([] : List V)) (upd (upd H wl (.lst [oV x])) fl (.lst [])) := (A0.new hwl).new hfl
    have hm0 : [x].length + room Q0.boxes ≤ 400 := by
      have := room_le W0.sl W0.nd
      have := W0.few
      show 1 + _ ≤ 400
      omega
    refine ⟨fun m σ H => ∃ (bs : List (Int × Bx)) (w : List (Option Int)) (f : List Int) (v4 v5 : Option V), σ = [some (.ref p), some (oV x), some (.ref wl), some (.ref fl), v4, v5] ∧
      PileAt C B p g { Q0 with boxes := bs } (twoL R wl fl (lV w) (f.map V.int)) H ∧ Wf { Q0 with boxes := bs } w ∧ w.length + room bs = m ∧ f ++ (go m bs w).2 = (run Q0.boxes [x]).2 ∧ (go m bs w).1 = (run Q0.boxes [x]).1 ∧ f.length + m ≤ 400,
      ⟨_, Q0.boxes, [x], [], none, none, rfl, A1, W0, rfl, rfl, rfl, by rw [List.length_nil]; omega⟩, ?_⟩
    rintro m σ H ⟨bs, w, f, v4, v5, rfl, A, W, hm, e2, e1, hle⟩
    have hwl : H wl = some (.lst (lV w)) := A.same _ _ (by unfold twoL; rw [upd_ne nwf, upd_same])
    have hfl : H fl = some (.lst (f.map V.int)) := A.same _ _ (by unfold twoL; rw [upd_same])
    refine ⟨_, rfl, !(lV w).isEmpty, .inl ⟨_, SqL.of hwl, rfl⟩, ?_⟩
    cases w with
    | nil =>
      refine iteF ?_
      have m0 : (go m bs []).1 = bs ∧ (go m bs []).2 = [] := by cases m <;> exact ⟨rfl, rfl⟩
      rw [m0.2, List.append_nil] at e2
      rw [m0.1] at e1
      refine ⟨_, rfl, k fl _ rfl' ?_⟩
      rw [← e1, ← e2]
      refine A.less fun b o e => ?_
      by_cases q : b = fl
      · rw [q, upd_same] at e
        rw [q]
        unfold twoL
        rw [upd_same]
        exact e
      · rw [upd_ne q] at e
        unfold twoL
        rw [upd_ne q, upd_ne (ne_of_none e rwl)]
        exact e
    | cons y w =>
      refine iteT ?_
      obtain ⟨m', rfl⟩ : ∃ m', m = m' + 1 := ⟨w.length + room bs, by rw [List.length_cons] at hm; omega⟩
      refine ⟨fun σ' H' => ∃ (bs : List (Int × Bx)) (w : List (Option Int)) (f : List Int) (v4 v5 : Option V), σ' = [some (.ref p), some (oV x), some (.ref wl), some (.ref fl), v4, v5] ∧
        PileAt C B p g { Q0 with boxes := bs } (twoL R wl fl (lV w) (f.map V.int)) H' ∧ Wf { Q0 with boxes := bs } w ∧ w.length + room bs = m' ∧ f ++ (go m' bs w).2 = (run Q0.boxes [x]).2 ∧ (go m' bs w).1 = (run Q0.boxes [x]).1 ∧ f.length + m' ≤ 400,
        fun σ' H' h' => ⟨m', Nat.lt_succ_self _, h'⟩, ?_⟩
      obtain ⟨Wf', mf'⟩ := fall_ok W
      have mf : (fall bs w y).2.1.length + room (fall bs w y).1 = m' := by
        have q : (fall bs w y).2.1.length + room (fall bs w y).1 = w.length + room bs := mf'
        rw [List.length_cons] at hm
        omega
      have e2' : (f ++ (fall bs w y).2.2) ++ (go m' (fall bs w y).1 (fall bs w y).2.1).2 = (run Q0.boxes [x]).2 := by rw [List.append_assoc]; exact e2
      have e1' : (go m' (fall bs w y).1 (fall bs w y).2.1).1 = (run Q0.boxes [x]).1 := e1
      -- number = waiting.pop(0)
      refine ⟨_, rfl, .inl ⟨rfl, _, SqL.of hwl⟩, wl, lV (y :: w), 0, 0, oV y, rfl, rfl, hwl, by omega, by omega, seq0 (by show 0 < (lV (y :: w)).length; rw [lV_len]; exact Nat.succ_pos _), rfl, ?_⟩
      have A2 : PileAt C B p g { Q0 with boxes := bs } (twoL R wl fl (lV w) (f.map V.int)) (upd H wl (.lst (lV w))) := by
        have := A.set (a := wl) (o := .lst (lV w)) (by unfold twoL; rw [upd_ne nwf, upd_same])
        rw [twoL_a nwf] at this
        exact this
      show (tSeq _ _ : TS) _ _ (upd H wl (.lst (lV w)))
      generalize upd H wl (.lst (lV w)) = H2 at A2 ⊢
      cases y with
      | none =>
        refine ⟨_, rfl, rfl, _, rfl, ?_⟩
        refine iteT ?_
        exact ⟨bs, w, f, _, _, rfl, A2, Wf', mf, by simpa [fall] using e2', e1', by omega⟩
      | some n =>
        refine ⟨_, rfl, rfl, _, rfl, ?_⟩
        refine iteF ?_
        obtain ⟨b, hb'⟩ := W.cl n (by rw [cnt_cons]; show 0 < _ + (one (some n) n + _); simp [one]; omega)
        have hb : get bs n = some b := hb'
        have hg : valV (dV g.ba bs) (Sum.inl n : Key) = some (V.ref (g.ba n)) := by rw [valV_dV, hb]; rfl
        have hD : DGet H2 g.db (.int n) (some (V.ref (g.ba n))) := by
          have := DGet.k (k := Sum.inl n) A2.hd
          rw [hg] at this
          exact this
        have hB := A2.hb n b hb
        have eo : putF "suspect" (.bl true) (putF "weight" (.int (b.wt - 1)) (bf (g.sa n) b.wt b.sus)) = bf (g.sa n) (low b).wt (low b).sus := by rw [bf_putw, bf_puts]; rfl
        refine ⟨_, rfl, p, C, g.dx, _, _, rfl, A2.hp, T.clC, T.nB, pf_boxes _ _ _, _, rfl, g.db, _, rfl, hD, ?_⟩
        refine ⟨_, rfl, g.ba n, B, g.bd n, _, _, rfl, hB, T.clB, T.nW, bf_weight _ _ _, _, _, rfl, rfl, g.bd n, _, hB, (by rw [bf_len]; decide), ?_⟩
        refine ⟨_, rfl, g.ba n, B, g.bd n, _, rfl, upd_same, T.clB, T.nU, (by rw [bf_putw, bf_len]; decide), ?_⟩
        rw [eo, upd_upd]
        have A3 : PileAt C B p g { Q0 with boxes := chg bs n low } (twoL R wl fl (lV w) (f.map V.int)) (upd H2 (g.ba n) (.ins B (g.bd n) (bf (g.sa n) (low b).wt (low b).sus))) := A2.box hb low rfl
        have hb3 : get (chg bs n low) n = some (low b) := by rw [get_chg, hb]; simp
        have hB3 := A3.hb n (low b) hb3
        have hS3 := A3.hs n (low b) hb3
        generalize upd H2 (g.ba n) (.ins B (g.bd n) (bf (g.sa n) (low b).wt (low b).sus)) = H3 at A3 hB3 hS3 ⊢
        refine ⟨_, rfl, g.ba n, B, g.bd n, _, _, rfl, hB3, T.clB, T.nW, bf_weight _ _ _, rfl, _, rfl, ?_⟩
        by_cases hw : b.wt = 1
        · have ef : fall bs w (some n) = (rm bs n, w ++ b.slots, [n]) := by
            show (match get bs n with | none => _ | some b => _) = _
            rw [hb]
            show (if b.wt = 1 then _ else _) = _
            rw [if_pos hw]
          rw [ef] at Wf' mf e2' e1'
          have hz : decide (V.int (low b).wt = V.int 0) = true := decide_eq_true (by show V.int (b.wt - 1) = V.int 0; rw [hw]; rfl)
          rw [hz]
          refine iteT ?_
          have hk : valV (dV g.ba (chg bs n low)) (Sum.inl n : Key) = some (V.ref (g.ba n)) := by rw [valV_dV, hb3]; rfl
          refine ⟨_, rfl, p, C, g.dx, _, _, rfl, A3.hp, T.clC, T.nB, pf_boxes _ _ _, _, rfl, g.db, _, Sum.inl n, rfl, A3.hd, rfl, (by simp [hk]), ?_⟩
          have A4 : PileAt C B p g { Q0 with boxes := rm bs n } (twoL R wl fl (lV w) (f.map V.int)) (upd H3 g.db (.dK (dropK (dV g.ba (chg bs n low)) (Sum.inl n)))) := by
            have := A3.del n
            have e : rm (chg bs n low) n = rm bs n := rm_chg n low bs
            rw [show ({ ({ Q0 with boxes := chg bs n low } : Pl) with boxes := rm ({ Q0 with boxes := chg bs n low } : Pl).boxes n } : Pl) = { Q0 with boxes := rm bs n } from by rw [← e]] at this
            exact this
          have hB4 : upd H3 g.db (.dK (dropK (dV g.ba (chg bs n low)) (Sum.inl n))) (g.ba n) = some (.ins B (g.bd n) (bf (g.sa n) (low b).wt (low b).sus)) := by rw [upd_ne (A3.ba_db hb3)]; exact hB3
          have hS4 : upd H3 g.db (.dK (dropK (dV g.ba (chg bs n low)) (Sum.inl n))) (g.sa n) = some (.lst (lV b.slots)) := by rw [upd_ne (A3.sa_db hb3)]; exact hS3
          have nsf : g.sa n ≠ fl := fun q => by
            have := A3.rs n (low b) hb3
            rw [q] at this
            unfold twoL at this
            rw [upd_same] at this
            cases this
          have nsw : g.sa n ≠ wl := fun q => by
            have := A3.rs n (low b) hb3
            rw [q] at this
            unfold twoL at this
            rw [upd_ne nwf, upd_same] at this
            cases this
          generalize upd H3 g.db (.dK (dropK (dV g.ba (chg bs n low)) (Sum.inl n))) = H4 at A4 hB4 hS4 ⊢
          have hfl4 : H4 fl = some (.lst (f.map V.int)) := A4.same _ _ (by unfold twoL; rw [upd_same])
          refine ⟨_, rfl, .inl ⟨rfl, _, SqL.of hfl4⟩, _, rfl, fl, _, _, rfl, rfl, hfl4, (by rw [List.length_map, sizeLine_eq]; omega), ?_⟩
          have A5 : PileAt C B p g { Q0 with boxes := rm bs n } (twoL R wl fl (lV w) ((f ++ [n]).map V.int)) (upd H4 fl (.lst (f.map V.int ++ [V.int n]))) := by
            have := A4.set (a := fl) (o := .lst (f.map V.int ++ [V.int n])) (by unfold twoL; rw [upd_same])
            rw [twoL_b] at this
            rw [List.map_append]
            exact this
          have hB5 : upd H4 fl (.lst (f.map V.int ++ [V.int n])) (g.ba n) = some (.ins B (g.bd n) (bf (g.sa n) (low b).wt (low b).sus)) := by rw [upd_ne (ne_of hB4 hfl4 ins_ne_lst)]; exact hB4
          have hS5 : upd H4 fl (.lst (f.map V.int ++ [V.int n])) (g.sa n) = some (.lst (lV b.slots)) := by rw [upd_ne nsf]; exact hS4
          rw [show oV (some n) = V.int n from rfl]
          generalize upd H4 fl (.lst (f.map V.int ++ [V.int n])) = H5 at A5 hB5 hS5 ⊢
          have hwl5 : H5 wl = some (.lst (lV w)) := A5.same _ _ (by unfold twoL; rw [upd_ne nwf, upd_same])
          refine ⟨_, rfl, .inl ⟨rfl, _, SqL.of hwl5⟩, _, rfl, g.ba n, B, g.bd n, _, _, rfl, hB5, T.clB, T.nS, bf_slots _ _ _, wl, g.sa n, _, _, rfl, rfl, hwl5, hS5, ?_, ?_⟩
          · have h6 : b.slots.length ≤ 6 := W.sl n b hb
            rw [lV_len, lV_len, sizeLine_eq]
            rw [List.length_cons] at hm
            omega
          · have A6 : PileAt C B p g { Q0 with boxes := rm bs n } (twoL R wl fl (lV (w ++ b.slots)) ((f ++ [n]).map V.int)) (upd H5 wl (.lst (lV w ++ lV b.slots))) := by
              have := A5.set (a := wl) (o := .lst (lV w ++ lV b.slots)) (by unfold twoL; rw [upd_ne nwf, upd_same])
              rw [twoL_a nwf] at this
              have e : lV (w ++ b.slots) = lV w ++ lV b.slots := List.map_append
              rw [e]
              exact this
            exact ⟨rm bs n, w ++ b.slots, f ++ [n], _, _, rfl, A6, Wf', mf, e2', e1', by rw [List.length_append, List.length_singleton]; omega⟩
        · have ef : fall bs w (some n) = (chg bs n low, w, []) := by
            show (match get bs n with | none => _ | some b => _) = _
            rw [hb]
            show (if b.wt = 1 then _ else _) = _
            rw [if_neg hw]
          rw [ef] at Wf' mf e2' e1'
          have hz : decide (V.int (low b).wt = V.int 0) = false := decide_eq_false (by show ¬ V.int (b.wt - 1) = V.int 0; intro q; injection q with q; omega)
          rw [hz]
          refine iteF ?_
          exact ⟨chg bs n low, w, f, _, _, rfl, A3, Wf', mf, by simpa using e2', e1', by omega⟩
/-! ### _point -/
theorem scPoint : FnScope ["self", "pointers", "at", "number", "box", "old"] ["self", "pointers", "at", "number"] (defScope sPoint) := ⟨rfl, rfl, rfl, by decide +kernel, rfl, by decide +kernel, by decide +kernel⟩
theorem ixN_of {n i : Nat} (h : i < n) : ixN n (i : Int) = some i := by
  unfold ixN
  rw [if_pos (by omega), if_pos (by omega)]
  rfl
theorem ok_point {f fL : Addr} {fd fdL : FuncData} (F : Fun K "_point" "Pile._point" sPoint f fd) (T : Txt K mg C B eH eS eF eB eL) (FL : Fun K "_let_go" "Pile._let_go" sLetGo fL fdL) (bL : Binds K fdL ["self", "pointer"] []) (mL : Meth K C "_let_go" fL) :
    FnOk P w K mg base CX0 2 f fd ["self", "pointers", "at", "number"] (spPoint C B) := by
  have GL : FnOk P w K mg base CX0 1 fL fdL ["self", "pointer"] (spLetGo C B) := ok_letgo FL T
  refine F.ok scPoint (fun vs H Q E h => ?_) (fun cdv A outer s H vs Q E hr h => ?_)
  · obtain ⟨p, a, g, P, S, R, x, l, i, rfl, _⟩ := h
    rfl
  · obtain ⟨p, a, g, P0, S, R, x, l, i, rfl, A0, hx, hi, hset, WS, k⟩ := h
    have hu := hu_of hr
    refine ⟨_, pss_cons (ps_if (pt_cmpR op_notN (pv 3) pe_non (nomark _))
        (pss_cons (ps_set (i := 4) scPoint.nd rfl (Or.inl rfl) (pe_dget hu (pe_fld (pv 0) rfl) (pv 3) (fun _ _ => rfl))) (pss_one (ps_fldaug (pv 4) pe_int in_add))) pss_nil)
      (pss_cons (ps_set (i := 5) scPoint.nd rfl (Or.inl rfl) (pe_ix ix_list (pv 1) (pv 2) (fun _ _ => rfl)))
      (pss_cons (ps_asg (pv 3) (pg_sub (pv 1) (pv 2) set_list))
      (pss_one (ps_ret (pe_meth (pv 0) T.clC mL GL hr bL .nil pass0 (pa_cons (pv 5) pa_nil)))))), ?_⟩
    refine ⟨_, rfl, rfl, _, rfl, ?_⟩
    cases x
    case' none =>
      refine iteF ?_
      have A1 : PileAt C B p g { P0 with boxes := bumped P0.boxes none } R H := A0
    case' some n =>
      refine iteT ?_
      obtain ⟨b, hb⟩ := hx n rfl
      have hD : DGet H g.db (.int n) (some (V.ref (g.ba n))) := by
        have := DGet.k (k := Sum.inl n) A0.hd
        rw [valV_dV, hb] at this
        exact this
      have hB := A0.hb n b hb
      refine ⟨_, rfl, p, C, g.dx, _, _, rfl, A0.hp, T.clC, T.nB, pf_boxes _ _ _, _, rfl, g.db, _, rfl, hD, ?_⟩
      refine ⟨_, rfl, g.ba n, B, g.bd n, _, _, rfl, hB, T.clB, T.nW, bf_weight _ _ _, _, _, rfl, rfl, g.bd n, _, hB, (by rw [bf_len]; decide), ?_⟩
      rw [bf_putw]
      have A1 : PileAt C B p g { P0 with boxes := bumped P0.boxes (some n) } R (upd H (g.ba n) (.ins B (g.bd n) (bf (g.sa n) (bump b).wt (bump b).sus))) := A0.box hb bump rfl
      show (tSeq _ _ : TS) _ _ (upd H (g.ba n) (.ins B (g.bd n) (bf (g.sa n) (bump b).wt (bump b).sus)))
      generalize upd H (g.ba n) (.ins B (g.bd n) (bf (g.sa n) (bump b).wt (bump b).sus)) = H1 at A1 ⊢
    all_goals
      obtain ⟨h1, A2⟩ := hset _ A1
      refine ⟨_, rfl, _, rfl, a, _, _, _, rfl, rfl, SqL.of h1, at_of (j := i) rfl (lV_get hi), ?_⟩
      refine ⟨_, rfl, _, rfl, _, rfl, a, _, _, i, rfl, rfl, h1, ixN_of (by rw [lV_len]; exact hi), ?_⟩
      rw [lV_set]
      exact ⟨_, rfl, p, g.dx, _, rfl, A2.hp, pf_no _ _ _ (by decide +kernel) (by decide +kernel) (by decide +kernel), _, rfl, p, g, S, R, l.getD i none, rfl, A2, WS, k⟩
/-! ### make -/
theorem scMake : FnScope ["self", "hand", "size", "number"] ["self", "hand", "size"] (defScope sMake) := ⟨rfl, rfl, rfl, by decide +kernel, rfl, by decide +kernel, by decide +kernel⟩
theorem ok_make {f fL fP fB fK : Addr} {fd fdL fdP fdB fdK : FuncData} (F : Fun K "make" "Pile.make" sMake f fd) (T : Txt K mg C B eH eS eF eB eL) (FL : Fun K "_let_go" "Pile._let_go" sLetGo fL fdL) (bL : Binds K fdL ["self", "pointer"] []) (mL : Meth K C "_let_go" fL)
    (FP : Fun K "_point" "Pile._point" sPoint fP fdP) (bP : Binds K fdP ["self", "pointers", "at", "number"] []) (mP : Meth K C "_point" fP) (MB : Mk K B fB) (FB : Fun K "__init__" "Box.__init__" sBoxInit fB fdB) (bB : Binds K fdB ["self", "size"] [])
    (FK : Fun K "check_hand" "check_hand" sCheck fK fdK) (bK : Binds K fdK ["hand"] []) (gK : mg "check_hand" = some (.ref fK)) :
    FnOk P w K mg base (L2N.CX P w) 3 f fd ["self", "hand", "size"] (spMake C B eH eS eF) := by
  have GK : FnOk P w K mg base (L2N.CX P w) 1 fK fdK ["hand"] (spCheck eH) := ok_check FK T
  have GB : FnOk P w K mg base CX0 1 fB fdB ["self", "size"] (spBoxInit B) := ok_boxinit FB T
  have GP : FnOk P w K mg base CX0 2 fP fdP ["self", "pointers", "at", "number"] (spPoint C B) := ok_point FP T FL bL mL
  refine okXN F scMake (fun vs H Q E h => ?_) (fun cdv A outer s H vs Q E hr h => ?_)
  · obtain ⟨p, P, R, h, s, rfl, _⟩ := h
    rfl
  · obtain ⟨p, P0, R, h, z, rfl, ⟨⟨g, A0⟩, W0⟩, kH, kS, kF, k⟩ := h
    have hu := hu_of hr
    have hr1 : Room 1 _ := hr.mono (by decide)
    obtain ⟨t6, hT6⟩ := T.most
    obtain ⟨t60, hT60⟩ := T.alive
    refine ⟨_, pss_cons (ps_expr (pe_call GK hr1 rfl gK FK.kp bK .nil (L2N.passes_call (L2N.takes_of rfl rfl rfl rfl) (fun _ _ _ _ h => h)) (pa_cons (pv 1) pa_nil)))
      (pss_cons (ps_if (pt_not (pt_chain op_le op_le pe_int (pv 2) (pe_glob (v := .int 6) rfl hT6 ⟨_, rfl⟩))) (pss_one (L2N.ps_raise rfl (L2N.takes_of rfl rfl rfl rfl) (L2N.pmk_own PySem.F.excBase_ValueError T.eS.x T.eS.g T.eS.k (raises_own T.eS.b T.eS.t) rfl))) pss_nil)
      (pss_cons (ps_if (pt_cmpR op_ge (pe_callB call_lenD (by rfl) T.len PySem.boot_len (pa_cons (pe_fld (pv 0) rfl) pa_nil)) (pe_glob (v := .int 60) rfl hT60 ⟨_, rfl⟩) (nomark _)) (pss_one (L2N.ps_raise rfl (L2N.takes_of rfl rfl rfl rfl) (L2N.pmk_own PySem.F.excBase_ValueError T.eF.x T.eF.g T.eF.k (raises_own T.eF.b T.eF.t) rfl))) pss_nil)
      (pss_cons (ps_set (i := 3) scMake.nd rfl (Or.inl rfl) (pe_fld (pv 0) rfl))
      (pss_cons (ps_fldaug (pv 0) pe_int in_add)
      (pss_cons (ps_dput hu (pe_fld (pv 0) rfl) (pv 3) (pe_make MB GB hr rfl T.mgB bB .nil pass0 (pa_cons (pv 2) pa_nil)) rfl)
      (pss_one (ps_ret (pe_meth (pv 0) T.clC mP GP hr bP .nil pass0 (pa_cons (pe_fld (pv 0) rfl) (pa_cons (pv 1) (pa_cons (pv 3) pa_nil))))))))))), ?_⟩
    refine ⟨_, rfl, h, rfl, fun ch => ?_, fun ch => kH ch⟩
    refine ⟨_, rfl, _, _, rfl, rfl, _, rfl, ?_⟩
    have size : ∀ {A B : Prop}, ((0 ≤ z ∧ z ≤ 6) → B) → (¬ (0 ≤ z ∧ z ≤ 6) → A) → True := fun _ _ => trivial
    by_cases z0 : 0 ≤ z
    case neg =>
      rw [decide_eq_false z0]
      refine iteF ⟨_, rfl, ?_⟩
      exact iteT (kS ch fun q => z0 q.1)
    rw [decide_eq_true z0]
    refine iteT ⟨_, _, rfl, rfl, _, rfl, ?_⟩
    by_cases z6 : z ≤ 6
    case neg =>
      rw [decide_eq_false z6]
      exact iteT (kS ch fun q => z6 q.2)
    rw [decide_eq_true z6]
    refine iteF ?_
    have kF' := kF ch ⟨z0, z6⟩
    have k' := k ch ⟨z0, z6⟩
    refine ⟨_, rfl, p, C, g.dx, _, _, rfl, A0.hp, T.clC, T.nB, pf_boxes _ _ _, _, _, rfl, A0.hd, _, _, rfl, rfl, _, rfl, ?_⟩
    rw [dV_len]
    by_cases c60 : 60 ≤ P0.boxes.length
    · refine if_pos_of (decide_eq_true (by omega)) ?_
      exact kF' c60
    refine if_neg_of (decide_eq_false (by omega)) ?_
    have c60' : P0.boxes.length < 60 := by omega
    have hsz : z.toNat ≤ 6 := by omega
    have hh8 : h.toNat < 8 := by omega
    refine ⟨_, rfl, p, C, g.dx, _, _, rfl, A0.hp, T.clC, T.nM, pf_made _ _ _, ?_⟩
    refine ⟨_, rfl, p, C, g.dx, _, _, rfl, A0.hp, T.clC, T.nM, pf_made _ _ _, _, _, rfl, rfl, g.dx, _, A0.hp, (by rw [pf_len]; decide), ?_⟩
    rw [pf_put]
    have A1 := A0.count (P0.made + 1)
    generalize upd H p (.ins C g.dx (pf g.lh g.db (P0.made + 1))) = H1 at A1 ⊢
    refine ⟨_, rfl, ?_⟩
    intro x dx nx ndx nex
    refine ⟨x, dx, z.toNat, (by rw [Int.toNat_of_nonneg z0]; rfl), hsz, upd_same, fun l sl hl hsl => ⟨rfl, ?_⟩⟩
    have A2 := A1.new (o := .own x) ndx
    have A3 := A2.new (a := x) (o := .ins B dx []) (by rw [upd_ne nex.symm]; exact nx)
    have A4 := A3.new (o := .lst [.non]) hl
    have A5 := A4.new (o := .lst (lV (List.replicate z.toNat none))) hsl
    have xl : x ≠ l := ne_of_none upd_same hl
    have xsl : x ≠ sl := ne_of_none (by rw [upd_ne xl]; exact upd_same) hsl
    have A6 := A5.set (a := x) (o := .ins B dx (bf sl 0 false)) (by rw [upd_ne xsl, upd_ne xl]; exact upd_same)
    have rx : R x = none := A1.same.free nx
    have rdx : R dx = none := A1.same.free ndx
    have r2 : Same R (upd (upd R dx (.own x)) x (.ins B dx [])) := (same_upd rdx).trans (same_upd (by rw [upd_ne nex.symm]; exact rx))
    have rl : upd (upd R dx (.own x)) x (.ins B dx []) l = none := A3.same.free hl
    have rsl : upd (upd (upd R dx (.own x)) x (.ins B dx [])) l (.lst [.non]) sl = none := A4.same.free hsl
    have r3 := r2.trans (same_upd (o := .lst [.non]) rl)
    have r4 := r3.trans (same_upd (o := .lst (lV (List.replicate z.toNat none))) rsl)
    have r5 : Same R (upd (upd (upd (upd (upd R dx (.own x)) x (.ins B dx [])) l (.lst [.non])) sl (.lst (lV (List.replicate z.toNat none)))) x (.ins B dx (bf sl 0 false))) := fun b o e => by
      rw [upd_ne (ne_of_none e rx)]
      exact r4 b o e
    have gn : get ({ P0 with made := P0.made + 1 } : Pl).boxes P0.made = none := get_none.mpr fun q => by
      have := (W0.lo P0.made q).2
      omega
    have A7 := A6.add (R' := R) (n := P0.made) (b := ⟨List.replicate z.toNat none, 0, false⟩) (x := x) (dx := dx) (sl := sl) gn upd_same (by rw [upd_ne xsl.symm]; exact upd_same) r5 rx (r3.free rsl)
    generalize upd (upd (upd (upd (upd H1 dx (.own x)) x (.ins B dx [])) l (.lst [.non])) sl (.lst (lV (List.replicate z.toNat none)))) x (.ins B dx (bf sl 0 false)) = H6 at A6 A7 ⊢
    refine ⟨_, rfl, p, C, g.dx, _, _, rfl, A6.hp, T.clC, T.nB, pf_boxes _ _ _, _, rfl, g.db, _, rfl, DPut.k (k := Sum.inl P0.made) A6.hd (by rw [dV_len, sizeLine_eq]; show P0.boxes.length < _; omega), ?_⟩
    refine ⟨_, rfl, p, g.dx, _, rfl, A7.hp, pf_no _ _ _ (by decide +kernel) (by decide +kernel) (by decide +kernel), _, rfl, p, C, g.dx, _, _, rfl, A7.hp, T.clC, T.nH, pf_hands _ _ _, _, rfl, _, rfl, ?_⟩
    refine ⟨p, g.lh, _, born P0 z.toNat, { born P0 z.toNat with hands := P0.hands.set h.toNat (some P0.made), boxes := bumped (born P0 z.toNat).boxes (some P0.made) }, R, some P0.made, P0.hands, h.toNat, ?_, A7, (W0.born hsz c60').hx, by rw [W0.hl]; exact hh8,
      fun H1 A => ⟨A.hh, A.hand _⟩, (W0.born hsz c60').hand hh8, fun r H' hr A => k' c60' r H' hr ⟨⟨_, A⟩, mk_ok W0 hh8 hsz c60'⟩⟩
    rw [Int.toNat_of_nonneg ch.1]
    rfl
/-! ### hold -/
theorem scHold : FnScope ["self", "hand", "other"] ["self", "hand", "other"] (defScope sHold) := ⟨rfl, rfl, rfl, by decide +kernel, rfl, by decide +kernel, by decide +kernel⟩
theorem ok_hold {f fL fP fK : Addr} {fd fdL fdP fdK : FuncData} (F : Fun K "hold" "Pile.hold" sHold f fd) (T : Txt K mg C B eH eS eF eB eL) (FL : Fun K "_let_go" "Pile._let_go" sLetGo fL fdL) (bL : Binds K fdL ["self", "pointer"] []) (mL : Meth K C "_let_go" fL)
    (FP : Fun K "_point" "Pile._point" sPoint fP fdP) (bP : Binds K fdP ["self", "pointers", "at", "number"] []) (mP : Meth K C "_point" fP) (FK : Fun K "check_hand" "check_hand" sCheck fK fdK) (bK : Binds K fdK ["hand"] []) (gK : mg "check_hand" = some (.ref fK)) :
    FnOk P w K mg base (L2N.CX P w) 3 f fd ["self", "hand", "other"] (spHold C B eH) := by
  have GK : FnOk P w K mg base (L2N.CX P w) 1 fK fdK ["hand"] (spCheck eH) := ok_check FK T
  have GP : FnOk P w K mg base CX0 2 fP fdP ["self", "pointers", "at", "number"] (spPoint C B) := ok_point FP T FL bL mL
  refine okXN F scHold (fun vs H Q E h => ?_) (fun cdv A outer s H vs Q E hr h => ?_)
  · obtain ⟨p, P, R, h, o, rfl, _⟩ := h
    rfl
  · obtain ⟨p, P0, R, h, o, rfl, ⟨⟨g, A0⟩, W0⟩, kH, kO, k⟩ := h
    have hr1 : Room 1 _ := hr.mono (by decide)
    refine ⟨_, pss_cons (ps_expr (pe_call GK hr1 rfl gK FK.kp bK .nil (L2N.passes_call (L2N.takes_of rfl rfl rfl rfl) (fun _ _ _ _ h => h)) (pa_cons (pv 1) pa_nil))) (pss_cons (ps_expr (pe_call GK hr1 rfl gK FK.kp bK .nil (L2N.passes_call (L2N.takes_of rfl rfl rfl rfl) (fun _ _ _ _ h => h)) (pa_cons (pv 2) pa_nil)))
      (pss_one (ps_ret (pe_meth (pv 0) T.clC mP GP hr bP .nil pass0 (pa_cons (pe_fld (pv 0) rfl) (pa_cons (pv 1) (pa_cons (pe_ix ix_list (pe_fld (pv 0) rfl) (pv 2) (fun _ _ => rfl)) pa_nil))))))), ?_⟩
    refine ⟨_, rfl, h, rfl, fun ch => ?_, fun ch => kH ch⟩
    refine ⟨_, rfl, o, rfl, fun co => ?_, fun co => kO ch co⟩
    have h8 : h.toNat < 8 := by omega
    have ol : o.toNat < P0.hands.length := by rw [W0.hl]; omega
    have hpre : Pre P0 (P0.hands.getD o.toNat none) := W0.pre fun n e => W0.hand e
    refine ⟨_, rfl, p, g.dx, _, rfl, A0.hp, pf_no _ _ _ (by decide +kernel) (by decide +kernel) (by decide +kernel), _, rfl, p, C, g.dx, _, _, rfl, A0.hp, T.clC, T.nH, pf_hands _ _ _, _, rfl, _, rfl, p, C, g.dx, _, _, rfl, A0.hp, T.clC, T.nH, pf_hands _ _ _, _, rfl, g.lh, _, _, _, rfl, rfl, SqL.of A0.hh, at_of (j := o.toNat) (by rw [Int.toNat_of_nonneg co.1]) (lV_get ol), ?_⟩
    refine ⟨p, g.lh, g, P0, { P0 with hands := P0.hands.set h.toNat (P0.hands.getD o.toNat none), boxes := bumped P0.boxes (P0.hands.getD o.toNat none) }, R, P0.hands.getD o.toNat none, P0.hands, h.toNat, (by rw [Int.toNat_of_nonneg ch.1]; rfl), A0, hpre.hx, by rw [W0.hl]; exact h8,
      fun H1 A => ⟨A.hh, A.hand _⟩, hpre.hand h8, fun r H' hr A => k ch co r H' hr ⟨⟨_, A⟩, ptHand_ok hpre h8⟩⟩
/-! ### drop -/
theorem scDrop : FnScope ["self", "hand"] ["self", "hand"] (defScope sDrop) := ⟨rfl, rfl, rfl, by decide +kernel, rfl, by decide +kernel, by decide +kernel⟩
theorem ok_drop {f fL fP fK : Addr} {fd fdL fdP fdK : FuncData} (F : Fun K "drop" "Pile.drop" sDrop f fd) (T : Txt K mg C B eH eS eF eB eL) (FL : Fun K "_let_go" "Pile._let_go" sLetGo fL fdL) (bL : Binds K fdL ["self", "pointer"] []) (mL : Meth K C "_let_go" fL)
    (FP : Fun K "_point" "Pile._point" sPoint fP fdP) (bP : Binds K fdP ["self", "pointers", "at", "number"] []) (mP : Meth K C "_point" fP) (FK : Fun K "check_hand" "check_hand" sCheck fK fdK) (bK : Binds K fdK ["hand"] []) (gK : mg "check_hand" = some (.ref fK)) :
    FnOk P w K mg base (L2N.CX P w) 3 f fd ["self", "hand"] (spDrop C B eH) := by
  have GK : FnOk P w K mg base (L2N.CX P w) 1 fK fdK ["hand"] (spCheck eH) := ok_check FK T
  have GP : FnOk P w K mg base CX0 2 fP fdP ["self", "pointers", "at", "number"] (spPoint C B) := ok_point FP T FL bL mL
  refine okXN F scDrop (fun vs H Q E h => ?_) (fun cdv A outer s H vs Q E hr h => ?_)
  · obtain ⟨p, P, R, h, rfl, _⟩ := h
    rfl
  · obtain ⟨p, P0, R, h, rfl, ⟨⟨g, A0⟩, W0⟩, kH, k⟩ := h
    have hr1 : Room 1 _ := hr.mono (by decide)
    refine ⟨_, pss_cons (ps_expr (pe_call GK hr1 rfl gK FK.kp bK .nil (L2N.passes_call (L2N.takes_of rfl rfl rfl rfl) (fun _ _ _ _ h => h)) (pa_cons (pv 1) pa_nil)))
      (pss_one (ps_ret (pe_meth (pv 0) T.clC mP GP hr bP .nil pass0 (pa_cons (pe_fld (pv 0) rfl) (pa_cons (pv 1) (pa_cons pe_non pa_nil)))))), ?_⟩
    refine ⟨_, rfl, h, rfl, fun ch => ?_, fun ch => kH ch⟩
    have h8 : h.toNat < 8 := by omega
    have hpre : Pre P0 none := W0.pre fun n e => by cases e
    refine ⟨_, rfl, p, g.dx, _, rfl, A0.hp, pf_no _ _ _ (by decide +kernel) (by decide +kernel) (by decide +kernel), _, rfl, p, C, g.dx, _, _, rfl, A0.hp, T.clC, T.nH, pf_hands _ _ _, _, rfl, ?_⟩
    refine ⟨p, g.lh, g, P0, { P0 with hands := P0.hands.set h.toNat none, boxes := bumped P0.boxes none }, R, none, P0.hands, h.toNat, (by rw [Int.toNat_of_nonneg ch.1]; rfl), A0, hpre.hx, by rw [W0.hl]; exact h8,
      fun H1 A => ⟨A.hh, A.hand _⟩, hpre.hand h8, fun r H' hr A => k ch r H' hr ⟨⟨_, A⟩, ptHand_ok hpre h8⟩⟩
/-! ### check_slot -/
def spCheckSlot (eL : Addr) : Sp := fun vs H Q E => ∃ (a : Addr) (xs : List V) (z : Int), vs = [.ref a, .int z] ∧ H a = some (.lst xs) ∧ ((0 ≤ z ∧ z < (xs.length : Int)) → Q .non H) ∧ (¬ (0 ≤ z ∧ z < (xs.length : Int)) → E (.ref eL) none H)
theorem scCheckSlot : FnScope ["slots", "slot"] ["slots", "slot"] (defScope sCheckSlot) := ⟨rfl, rfl, rfl, by decide +kernel, rfl, by decide +kernel, by decide +kernel⟩
theorem ok_checkslot {f : Addr} {fd : FuncData} (F : Fun K "check_slot" "check_slot" sCheckSlot f fd) (T : Txt K mg C B eH eS eF eB eL) : FnOk P w K mg base (L2N.CX P w) 1 f fd ["slots", "slot"] (spCheckSlot eL) := by
  refine okXN F scCheckSlot (fun vs H Q E h => ?_) (fun cdv A outer s H vs Q E hr h => ?_)
  · obtain ⟨a, xs, z, rfl, _⟩ := h
    rfl
  · obtain ⟨a, xs, z, rfl, ha, k1, k2⟩ := h
    refine ⟨_, pss_one (ps_if (pt_not (pt_chain op_le op_lt pe_int (pv 1) (pe_callB call_len_seq (by rfl) T.len PySem.boot_len (pa_cons (pv 0) pa_nil)))) (pss_one (L2N.ps_raise rfl (L2N.takes_of rfl rfl rfl rfl) (L2N.pmk_own PySem.F.excBase_ValueError T.eL.x T.eL.g T.eL.k (raises_own T.eL.b T.eL.t) rfl))) pss_nil), ?_⟩
    refine ⟨_, rfl, _, _, rfl, rfl, _, rfl, ?_⟩
    by_cases z0 : 0 ≤ z
    case neg =>
      rw [decide_eq_false z0]
      refine iteF ⟨_, rfl, ?_⟩
      exact iteT (k2 fun q => z0 q.1)
    rw [decide_eq_true z0]
    refine iteT ⟨_, rfl, a, _, rfl, .inl (SqL.of ha), _, _, rfl, rfl, _, rfl, ?_⟩
    by_cases zl : z < (xs.length : Int)
    case neg =>
      rw [decide_eq_false zl]
      exact iteT (k2 fun q => zl q.2)
    rw [decide_eq_true zl]
    exact iteF (k1 ⟨z0, zl⟩)
/-! ### _slots_with -/
theorem scSlotsWith : FnScope ["self", "hand", "slot", "number", "slots"] ["self", "hand", "slot"] (defScope sSlotsWith) := ⟨rfl, rfl, rfl, by decide +kernel, rfl, by decide +kernel, by decide +kernel⟩
theorem ok_slotswith {f fCS : Addr} {fd fdCS : FuncData} (F : Fun K "_slots_with" "Pile._slots_with" sSlotsWith f fd) (T : Txt K mg C B eH eS eF eB eL) (FCS : Fun K "check_slot" "check_slot" sCheckSlot fCS fdCS) (bCS : Binds K fdCS ["slots", "slot"] []) (gCS : mg "check_slot" = some (.ref fCS)) : FnOk P w K mg base (L2N.CX P w) 2 f fd ["self", "hand", "slot"] (spSlotsWith C B eB eL) := by
  have GCS : FnOk P w K mg base (L2N.CX P w) 1 fCS fdCS ["slots", "slot"] (spCheckSlot eL) := ok_checkslot FCS T
  refine okXN F scSlotsWith (fun vs H Q E h => ?_) (fun cdv A outer s H vs Q E hr h => ?_)
  · obtain ⟨p, g, P, R, h, s, rfl, _⟩ := h
    rfl
  · obtain ⟨p, g, P0, R, h, z, rfl, A0, W0, ch, kB, kL, k⟩ := h
    have hu := hu_of hr
    refine ⟨_, pss_cons (ps_set (i := 3) scSlotsWith.nd rfl (Or.inl rfl) (pe_ix ix_list (pe_fld (pv 0) rfl) (pv 1) (fun _ _ => rfl)))
      (pss_cons (ps_if (pt_cmpR op_isN (pv 3) pe_non (nomark _)) (pss_one (L2N.ps_raise rfl (L2N.takes_of rfl rfl rfl rfl) (L2N.pmk_own PySem.F.excBase_ValueError T.eB.x T.eB.g T.eB.k (raises_own T.eB.b T.eB.t) rfl))) pss_nil)
      (pss_cons (ps_set (i := 4) scSlotsWith.nd rfl (Or.inl rfl) (pe_fld (pe_dget hu (pe_fld (pv 0) rfl) (pv 3) (fun _ _ => rfl)) rfl))
      (pss_cons (ps_expr (pe_call GCS hr rfl gCS FCS.kp bCS .nil (L2N.passes_call (L2N.takes_of rfl rfl rfl rfl) (fun _ _ _ _ h => h)) (pa_cons (pv 4) (pa_cons (pv 2) pa_nil))))
      (pss_one (ps_ret (pv 4)))))), ?_⟩
    have hl : h.toNat < P0.hands.length := by rw [W0.hl]; omega
    have hx := lV_get hl
    refine ⟨_, rfl, p, C, g.dx, _, _, rfl, A0.hp, T.clC, T.nH, pf_hands _ _ _, _, rfl, g.lh, _, _, _, rfl, rfl, SqL.of A0.hh, at_of (j := h.toNat) (by rw [Int.toNat_of_nonneg ch.1]) hx, ?_⟩
    refine ⟨_, rfl, rfl, _, rfl, ?_⟩
    cases e : P0.hands.getD h.toNat none with
    | none => exact iteT (kB e)
    | some n =>
      refine iteF ?_
      obtain ⟨b, hb⟩ := W0.hand e
      have hD : DGet H g.db (.int n) (some (V.ref (g.ba n))) := by
        have := DGet.k (k := Sum.inl n) A0.hd
        rw [valV_dV, hb] at this
        exact this
      refine ⟨_, rfl, p, C, g.dx, _, _, rfl, A0.hp, T.clC, T.nB, pf_boxes _ _ _, _, rfl, g.db, _, rfl, hD, g.ba n, B, g.bd n, _, _, rfl, A0.hb n b hb, T.clB, T.nS, bf_slots _ _ _, ?_⟩
      exact ⟨_, rfl, _, rfl, g.sa n, _, z, rfl, A0.hs n b hb, fun c => ⟨_, rfl, k n b e hb (by rw [lV_len] at c; exact c)⟩, fun c => kL n b e hb (by rw [lV_len] at c; exact c)⟩
/-- a slot is set, as _point does it -/
theorem PileAt.slot' {p : Addr} {g : Geo} {P0 : Pl} {R H1 : Hp} {x : Option Int} {n : Int} {b : Bx} (hb : get P0.boxes n = some b) (i : Nat) (A : PileAt C B p g { P0 with boxes := bumped P0.boxes x } R H1) :
    H1 (g.sa n) = some (.lst (lV b.slots)) ∧ PileAt C B p g { P0 with boxes := chg (bumped P0.boxes x) n (setSlot i x) } R (upd H1 (g.sa n) (.lst (lV (b.slots.set i x)))) := by
  have hb' : get (bumped P0.boxes x) n = some (if x = some n then bump b else b) := by rw [get_bumped, hb]; rfl
  have es : (if x = some n then bump b else b).slots = b.slots := by
    by_cases q : x = some n
    · rw [if_pos q]; rfl
    · rw [if_neg q]
  have h1 := A.hs n _ hb'
  have h2 := A.slot hb' i x
  rw [es] at h1 h2
  exact ⟨h1, h2⟩
theorem slotOf_eq {bs : List (Int × Bx)} {n : Int} {b : Bx} (hb : get bs n = some b) (i : Nat) : slotOf bs n i = b.slots.getD i none := by
  unfold slotOf
  rw [hb]
/-! ### put -/
theorem scPut : FnScope ["self", "hand", "slot", "other"] ["self", "hand", "slot", "other"] (defScope sPut) := ⟨rfl, rfl, rfl, by decide +kernel, rfl, by decide +kernel, by decide +kernel⟩
theorem ok_put {f fL fP fK fY fCS : Addr} {fd fdL fdP fdK fdY fdCS : FuncData} (F : Fun K "put" "Pile.put" sPut f fd) (T : Txt K mg C B eH eS eF eB eL) (FL : Fun K "_let_go" "Pile._let_go" sLetGo fL fdL) (bL : Binds K fdL ["self", "pointer"] []) (mL : Meth K C "_let_go" fL)
    (FP : Fun K "_point" "Pile._point" sPoint fP fdP) (bP : Binds K fdP ["self", "pointers", "at", "number"] []) (mP : Meth K C "_point" fP) (FK : Fun K "check_hand" "check_hand" sCheck fK fdK) (bK : Binds K fdK ["hand"] []) (gK : mg "check_hand" = some (.ref fK)) (FY : Fun K "_slots_with" "Pile._slots_with" sSlotsWith fY fdY) (bY : Binds K fdY ["self", "hand", "slot"] []) (mY : Meth K C "_slots_with" fY) (FCS : Fun K "check_slot" "check_slot" sCheckSlot fCS fdCS) (bCS : Binds K fdCS ["slots", "slot"] []) (gCS : mg "check_slot" = some (.ref fCS)) :
    FnOk P w K mg base (L2N.CX P w) 3 f fd ["self", "hand", "slot", "other"] (spPut C B eH eB eL) := by
  have GK : FnOk P w K mg base (L2N.CX P w) 1 fK fdK ["hand"] (spCheck eH) := ok_check FK T
  have GP : FnOk P w K mg base CX0 2 fP fdP ["self", "pointers", "at", "number"] (spPoint C B) := ok_point FP T FL bL mL
  have GY : FnOk P w K mg base (L2N.CX P w) 2 fY fdY ["self", "hand", "slot"] (spSlotsWith C B eB eL) := ok_slotswith FY T FCS bCS gCS
  refine okXN F scPut (fun vs H Q E h => ?_) (fun cdv A outer s H vs Q E hr h => ?_)
  · obtain ⟨p, P, R, h, s, o, rfl, _⟩ := h
    rfl
  · obtain ⟨p, P0, R, h, z, o, rfl, ⟨⟨g, A0⟩, W0⟩, kH, kO, kB, kL, k⟩ := h
    have hr1 : Room 1 _ := hr.mono (by decide)
    refine ⟨_, pss_cons (ps_expr (pe_call GK hr1 rfl gK FK.kp bK .nil (L2N.passes_call (L2N.takes_of rfl rfl rfl rfl) (fun _ _ _ _ h => h)) (pa_cons (pv 1) pa_nil))) (pss_cons (ps_expr (pe_call GK hr1 rfl gK FK.kp bK .nil (L2N.passes_call (L2N.takes_of rfl rfl rfl rfl) (fun _ _ _ _ h => h)) (pa_cons (pv 3) pa_nil)))
      (pss_one (ps_ret (pe_meth (pv 0) T.clC mP GP hr bP .nil pass0 (pa_cons (pe_meth (pv 0) T.clC mY GY hr bY .nil (L2N.passes_call (L2N.takes_of rfl rfl rfl rfl) (fun _ _ _ _ h => h)) (pa_cons (pv 1) (pa_cons (pv 2) pa_nil))) (pa_cons (pv 2) (pa_cons (pe_ix ix_list (pe_fld (pv 0) rfl) (pv 3) (fun _ _ => rfl)) pa_nil))))))), ?_⟩
    refine ⟨_, rfl, h, rfl, fun ch => ?_, fun ch => kH ch⟩
    refine ⟨_, rfl, o, rfl, fun co => ?_, fun co => kO ch co⟩
    have ol : o.toNat < P0.hands.length := by rw [W0.hl]; omega
    have hpre : Pre P0 (P0.hands.getD o.toNat none) := W0.pre fun n e => W0.hand e
    refine ⟨_, rfl, p, g.dx, _, rfl, A0.hp, pf_no _ _ _ (by decide +kernel) (by decide +kernel) (by decide +kernel), _, rfl, p, g.dx, _, rfl, A0.hp, pf_no _ _ _ (by decide +kernel) (by decide +kernel) (by decide +kernel), _, rfl, _, rfl, p, g, P0, R, h, z, rfl, A0, W0, ch, kB ch co, kL ch co, fun n b e hb cz => ?_⟩
    refine ⟨_, rfl, _, rfl, p, C, g.dx, _, _, rfl, A0.hp, T.clC, T.nH, pf_hands _ _ _, _, rfl, g.lh, _, _, _, rfl, rfl, SqL.of A0.hh, at_of (j := o.toNat) (by rw [Int.toNat_of_nonneg co.1]) (lV_get ol), ?_⟩
    have zl : z.toNat < b.slots.length := by omega
    have k' := k ch co n b e hb cz
    unfold ptSlot at k'
    rw [slotOf_eq hb] at k'
    have W' := ptSlot_ok hpre hb zl
    unfold ptSlot at W'
    rw [slotOf_eq hb] at W'
    exact ⟨p, g.sa n, g, P0, { P0 with boxes := chg (bumped P0.boxes (P0.hands.getD o.toNat none)) n (setSlot z.toNat (P0.hands.getD o.toNat none)) }, R, P0.hands.getD o.toNat none, b.slots, z.toNat, (by rw [Int.toNat_of_nonneg cz.1]; rfl), A0, hpre.hx, zl,
      fun H1 A => A.slot' hb z.toNat, hpre.slot hb zl, fun r H' hr A => k' r H' hr ⟨⟨_, A⟩, W'⟩⟩
/-! ### empty -/
theorem scEmpty : FnScope ["self", "hand", "slot"] ["self", "hand", "slot"] (defScope sEmpty) := ⟨rfl, rfl, rfl, by decide +kernel, rfl, by decide +kernel, by decide +kernel⟩
theorem ok_empty {f fL fP fK fY fCS : Addr} {fd fdL fdP fdK fdY fdCS : FuncData} (F : Fun K "empty" "Pile.empty" sEmpty f fd) (T : Txt K mg C B eH eS eF eB eL) (FL : Fun K "_let_go" "Pile._let_go" sLetGo fL fdL) (bL : Binds K fdL ["self", "pointer"] []) (mL : Meth K C "_let_go" fL)
    (FP : Fun K "_point" "Pile._point" sPoint fP fdP) (bP : Binds K fdP ["self", "pointers", "at", "number"] []) (mP : Meth K C "_point" fP) (FK : Fun K "check_hand" "check_hand" sCheck fK fdK) (bK : Binds K fdK ["hand"] []) (gK : mg "check_hand" = some (.ref fK)) (FY : Fun K "_slots_with" "Pile._slots_with" sSlotsWith fY fdY) (bY : Binds K fdY ["self", "hand", "slot"] []) (mY : Meth K C "_slots_with" fY) (FCS : Fun K "check_slot" "check_slot" sCheckSlot fCS fdCS) (bCS : Binds K fdCS ["slots", "slot"] []) (gCS : mg "check_slot" = some (.ref fCS)) :
    FnOk P w K mg base (L2N.CX P w) 3 f fd ["self", "hand", "slot"] (spEmpty C B eH eB eL) := by
  have GK : FnOk P w K mg base (L2N.CX P w) 1 fK fdK ["hand"] (spCheck eH) := ok_check FK T
  have GP : FnOk P w K mg base CX0 2 fP fdP ["self", "pointers", "at", "number"] (spPoint C B) := ok_point FP T FL bL mL
  have GY : FnOk P w K mg base (L2N.CX P w) 2 fY fdY ["self", "hand", "slot"] (spSlotsWith C B eB eL) := ok_slotswith FY T FCS bCS gCS
  refine okXN F scEmpty (fun vs H Q E h => ?_) (fun cdv A outer s H vs Q E hr h => ?_)
  · obtain ⟨p, P, R, h, s, rfl, _⟩ := h
    rfl
  · obtain ⟨p, P0, R, h, z, rfl, ⟨⟨g, A0⟩, W0⟩, kH, kB, kL, k⟩ := h
    have hr1 : Room 1 _ := hr.mono (by decide)
    refine ⟨_, pss_cons (ps_expr (pe_call GK hr1 rfl gK FK.kp bK .nil (L2N.passes_call (L2N.takes_of rfl rfl rfl rfl) (fun _ _ _ _ h => h)) (pa_cons (pv 1) pa_nil)))
      (pss_one (ps_ret (pe_meth (pv 0) T.clC mP GP hr bP .nil pass0 (pa_cons (pe_meth (pv 0) T.clC mY GY hr bY .nil (L2N.passes_call (L2N.takes_of rfl rfl rfl rfl) (fun _ _ _ _ h => h)) (pa_cons (pv 1) (pa_cons (pv 2) pa_nil))) (pa_cons (pv 2) (pa_cons pe_non pa_nil)))))), ?_⟩
    refine ⟨_, rfl, h, rfl, fun ch => ?_, fun ch => kH ch⟩
    have hpre : Pre P0 none := W0.pre fun n e => by cases e
    refine ⟨_, rfl, p, g.dx, _, rfl, A0.hp, pf_no _ _ _ (by decide +kernel) (by decide +kernel) (by decide +kernel), _, rfl, p, g.dx, _, rfl, A0.hp, pf_no _ _ _ (by decide +kernel) (by decide +kernel) (by decide +kernel), _, rfl, _, rfl, p, g, P0, R, h, z, rfl, A0, W0, ch, kB ch, kL ch, fun n b e hb cz => ?_⟩
    refine ⟨_, rfl, ?_⟩
    have zl : z.toNat < b.slots.length := by omega
    have k' := k ch n b e hb cz
    unfold ptSlot at k'
    rw [slotOf_eq hb] at k'
    have W' := ptSlot_ok hpre hb zl
    unfold ptSlot at W'
    rw [slotOf_eq hb] at W'
    exact ⟨p, g.sa n, g, P0, { P0 with boxes := chg (bumped P0.boxes none) n (setSlot z.toNat none) }, R, none, b.slots, z.toNat, (by rw [Int.toNat_of_nonneg cz.1]; rfl), A0, hpre.hx, zl,
      fun H1 A => A.slot' hb z.toNat, hpre.slot hb zl, fun r H' hr A => k' r H' hr ⟨⟨_, A⟩, W'⟩⟩
/-! ### take -/
theorem scTake : FnScope ["self", "hand", "other", "slot", "slots"] ["self", "hand", "other", "slot"] (defScope sTake) := ⟨rfl, rfl, rfl, by decide +kernel, rfl, by decide +kernel, by decide +kernel⟩
theorem ok_take {f fL fP fK fY fCS : Addr} {fd fdL fdP fdK fdY fdCS : FuncData} (F : Fun K "take" "Pile.take" sTake f fd) (T : Txt K mg C B eH eS eF eB eL) (FL : Fun K "_let_go" "Pile._let_go" sLetGo fL fdL) (bL : Binds K fdL ["self", "pointer"] []) (mL : Meth K C "_let_go" fL)
    (FP : Fun K "_point" "Pile._point" sPoint fP fdP) (bP : Binds K fdP ["self", "pointers", "at", "number"] []) (mP : Meth K C "_point" fP) (FK : Fun K "check_hand" "check_hand" sCheck fK fdK) (bK : Binds K fdK ["hand"] []) (gK : mg "check_hand" = some (.ref fK)) (FY : Fun K "_slots_with" "Pile._slots_with" sSlotsWith fY fdY) (bY : Binds K fdY ["self", "hand", "slot"] []) (mY : Meth K C "_slots_with" fY) (FCS : Fun K "check_slot" "check_slot" sCheckSlot fCS fdCS) (bCS : Binds K fdCS ["slots", "slot"] []) (gCS : mg "check_slot" = some (.ref fCS)) :
    FnOk P w K mg base (L2N.CX P w) 3 f fd ["self", "hand", "other", "slot"] (spTake C B eH eB eL) := by
  have GK : FnOk P w K mg base (L2N.CX P w) 1 fK fdK ["hand"] (spCheck eH) := ok_check FK T
  have GP : FnOk P w K mg base CX0 2 fP fdP ["self", "pointers", "at", "number"] (spPoint C B) := ok_point FP T FL bL mL
  have GY : FnOk P w K mg base (L2N.CX P w) 2 fY fdY ["self", "hand", "slot"] (spSlotsWith C B eB eL) := ok_slotswith FY T FCS bCS gCS
  refine okXN F scTake (fun vs H Q E h => ?_) (fun cdv A outer s H vs Q E hr h => ?_)
  · obtain ⟨p, P, R, h, o, s, rfl, _⟩ := h
    rfl
  · obtain ⟨p, P0, R, h, o, z, rfl, ⟨⟨g, A0⟩, W0⟩, kH, kO, kB, kL, k⟩ := h
    have hr1 : Room 1 _ := hr.mono (by decide)
    refine ⟨_, pss_cons (ps_expr (pe_call GK hr1 rfl gK FK.kp bK .nil (L2N.passes_call (L2N.takes_of rfl rfl rfl rfl) (fun _ _ _ _ h => h)) (pa_cons (pv 1) pa_nil))) (pss_cons (ps_expr (pe_call GK hr1 rfl gK FK.kp bK .nil (L2N.passes_call (L2N.takes_of rfl rfl rfl rfl) (fun _ _ _ _ h => h)) (pa_cons (pv 2) pa_nil)))
      (pss_cons (ps_set (i := 4) scTake.nd rfl (Or.inl rfl) (pe_meth (pv 0) T.clC mY GY hr bY .nil (L2N.passes_call (L2N.takes_of rfl rfl rfl rfl) (fun _ _ _ _ h => h)) (pa_cons (pv 2) (pa_cons (pv 3) pa_nil))))
      (pss_one (ps_ret (pe_meth (pv 0) T.clC mP GP hr bP .nil pass0 (pa_cons (pe_fld (pv 0) rfl) (pa_cons (pv 1) (pa_cons (pe_ix ix_list (pv 4) (pv 3) (fun _ _ => rfl)) pa_nil)))))))), ?_⟩
    refine ⟨_, rfl, h, rfl, fun ch => ?_, fun ch => kH ch⟩
    refine ⟨_, rfl, o, rfl, fun co => ?_, fun co => kO ch co⟩
    have h8 : h.toNat < 8 := by omega
    refine ⟨_, rfl, p, g.dx, _, rfl, A0.hp, pf_no _ _ _ (by decide +kernel) (by decide +kernel) (by decide +kernel), _, rfl, _, rfl, p, g, P0, R, o, z, rfl, A0, W0, co, kB ch co, kL ch co, fun n b e hb cz => ?_⟩
    have zl : z.toNat < b.slots.length := by omega
    have hpre : Pre P0 (b.slots.getD z.toNat none) := W0.pre fun n e => W0.slot hb e
    refine ⟨_, rfl, p, g.dx, _, rfl, A0.hp, pf_no _ _ _ (by decide +kernel) (by decide +kernel) (by decide +kernel), _, rfl, p, C, g.dx, _, _, rfl, A0.hp, T.clC, T.nH, pf_hands _ _ _, _, rfl, _, rfl, _, rfl, g.sa n, _, _, _, rfl, rfl, SqL.of (A0.hs n b hb), at_of (j := z.toNat) (by rw [Int.toNat_of_nonneg cz.1]) (lV_get zl), ?_⟩
    have k' := k ch co n b e hb cz
    exact ⟨p, g.lh, g, P0, { P0 with hands := P0.hands.set h.toNat (b.slots.getD z.toNat none), boxes := bumped P0.boxes (b.slots.getD z.toNat none) }, R, b.slots.getD z.toNat none, P0.hands, h.toNat, (by rw [Int.toNat_of_nonneg ch.1]; rfl), A0, hpre.hx, by rw [W0.hl]; exact h8,
      fun H1 A => ⟨A.hh, A.hand _⟩, hpre.hand h8, fun r H' hr A => k' r H' hr ⟨⟨_, A⟩, ptHand_ok hpre h8⟩⟩
/-! ### what a pile tells -/
theorem scHolds : FnScope ["self", "hand"] ["self", "hand"] (defScope sHolds) := ⟨rfl, rfl, rfl, by decide +kernel, rfl, by decide +kernel, by decide +kernel⟩
theorem ok_holds {f fK : Addr} {fd fdK : FuncData} (F : Fun K "holds" "Pile.holds" sHolds f fd) (T : Txt K mg C B eH eS eF eB eL) (FK : Fun K "check_hand" "check_hand" sCheck fK fdK) (bK : Binds K fdK ["hand"] []) (gK : mg "check_hand" = some (.ref fK)) :
    FnOk P w K mg base (L2N.CX P w) 2 f fd ["self", "hand"] (spHolds C B eH) := by
  have GK : FnOk P w K mg base (L2N.CX P w) 1 fK fdK ["hand"] (spCheck eH) := ok_check FK T
  refine okXN F scHolds (fun vs H Q E h => ?_) (fun cdv A outer s H vs Q E hr h => ?_)
  · obtain ⟨p, g, P, R, h, rfl, _⟩ := h
    rfl
  · obtain ⟨p, g, P0, R, h, rfl, A0, h8, kH, k⟩ := h
    refine ⟨_, pss_cons (ps_expr (pe_call GK hr rfl gK FK.kp bK .nil (L2N.passes_call (L2N.takes_of rfl rfl rfl rfl) (fun _ _ _ _ h => h)) (pa_cons (pv 1) pa_nil)))
      (pss_one (ps_ret (pe_ix ix_list (pe_fld (pv 0) rfl) (pv 1) (fun _ _ => rfl)))), ?_⟩
    refine ⟨_, rfl, h, rfl, fun ch => ?_, fun ch => kH ch⟩
    exact ⟨_, rfl, p, C, g.dx, _, _, rfl, A0.hp, T.clC, T.nH, pf_hands _ _ _, _, rfl, g.lh, _, _, _, rfl, rfl, SqL.of A0.hh, at_of (j := h.toNat) (by rw [Int.toNat_of_nonneg ch.1]) (lV_get (by omega)), k ch⟩
theorem scBox : FnScope ["self", "number"] ["self", "number"] (defScope sBox) := ⟨rfl, rfl, rfl, by decide +kernel, rfl, by decide +kernel, by decide +kernel⟩
theorem ok_box {f : Addr} {fd : FuncData} (F : Fun K "_box" "Pile._box" sBox f fd) (T : Txt K mg C B eH eS eF eB eL) : FnOk P w K mg base (L2N.CX P w) 1 f fd ["self", "number"] (spBox C B eB) := by
  refine okXN F scBox (fun vs H Q E h => ?_) (fun cdv A outer s H vs Q E hr h => ?_)
  · obtain ⟨p, g, P, R, h, rfl, _⟩ := h
    rfl
  · obtain ⟨p, g, P0, R, n, rfl, A0, kB, k⟩ := h
    have hu := hu_of hr
    refine ⟨_, pss_cons (ps_if (pt_cmp (pc_dnotin hu (pv 1) (pe_fld (pv 0) rfl))) (pss_one (L2N.ps_raise rfl (L2N.takes_of rfl rfl rfl rfl) (L2N.pmk_own PySem.F.excBase_ValueError T.eB.x T.eB.g T.eB.k (raises_own T.eB.b T.eB.t) rfl))) pss_nil)
      (pss_one (ps_ret (pe_dget hu (pe_fld (pv 0) rfl) (pv 1) (fun _ _ => rfl)))), ?_⟩
    refine ⟨_, rfl, _, rfl, p, C, g.dx, _, _, rfl, A0.hp, T.clC, T.nB, pf_boxes _ _ _, g.db, _, rfl, DGet.k (k := Sum.inl n) A0.hd, _, rfl, ?_⟩
    have hD := DGet.k (k := Sum.inl n) A0.hd
    rw [valV_dV] at hD ⊢
    cases e : get P0.boxes n with
    | none => exact iteT (kB e)
    | some b =>
      rw [e] at hD
      refine iteF ?_
      exact ⟨_, rfl, p, C, g.dx, _, _, rfl, A0.hp, T.clC, T.nB, pf_boxes _ _ _, _, rfl, g.db, _, rfl, hD, k b e⟩
theorem scPoints : FnScope ["self", "number"] ["self", "number"] (defScope sPoints) := ⟨rfl, rfl, rfl, by decide +kernel, rfl, by decide +kernel, by decide +kernel⟩
theorem ok_points {f fX : Addr} {fd fdX : FuncData} (F : Fun K "points" "Pile.points" sPoints f fd) (T : Txt K mg C B eH eS eF eB eL) (FX : Fun K "_box" "Pile._box" sBox fX fdX) (bX : Binds K fdX ["self", "number"] []) (mX : Meth K C "_box" fX) :
    FnOk P w K mg base (L2N.CX P w) 2 f fd ["self", "number"] (spPoints C B eB) := by
  have GX : FnOk P w K mg base (L2N.CX P w) 1 fX fdX ["self", "number"] (spBox C B eB) := ok_box FX T
  refine okXN F scPoints (fun vs H Q E h => ?_) (fun cdv A outer s H vs Q E hr h => ?_)
  · obtain ⟨p, g, P, R, h, rfl, _⟩ := h
    rfl
  · obtain ⟨p, g, P0, R, n, rfl, A0, hl6, kB, k⟩ := h
    refine ⟨_, pss_one (ps_ret (pe_callTy call_list_of (by rfl) T.list (by decide +kernel) (pa_cons (pe_fld (pe_meth (pv 0) T.clC mX GX hr bX .nil (L2N.passes_call (L2N.takes_of rfl rfl rfl rfl) (fun _ _ _ _ h => h)) (pa_cons (pv 1) pa_nil)) rfl) pa_nil))), ?_⟩
    refine ⟨_, rfl, p, g.dx, _, rfl, A0.hp, pf_no _ _ _ (by decide +kernel) (by decide +kernel) (by decide +kernel), _, rfl, p, g, P0, R, n, rfl, A0, kB, fun b hb => ?_⟩
    exact ⟨g.ba n, B, g.bd n, _, _, rfl, A0.hb n b hb, T.clB, T.nS, bf_slots _ _ _, g.sa n, _, rfl, .inl (SqL.of (A0.hs n b hb)), fun r hr => k b hb r hr⟩
theorem scWeighs : FnScope ["self", "number"] ["self", "number"] (defScope sWeighs) := ⟨rfl, rfl, rfl, by decide +kernel, rfl, by decide +kernel, by decide +kernel⟩
theorem ok_weighs {f fX : Addr} {fd fdX : FuncData} (F : Fun K "weighs" "Pile.weighs" sWeighs f fd) (T : Txt K mg C B eH eS eF eB eL) (FX : Fun K "_box" "Pile._box" sBox fX fdX) (bX : Binds K fdX ["self", "number"] []) (mX : Meth K C "_box" fX) :
    FnOk P w K mg base (L2N.CX P w) 2 f fd ["self", "number"] (spWeighs C B eB) := by
  have GX : FnOk P w K mg base (L2N.CX P w) 1 fX fdX ["self", "number"] (spBox C B eB) := ok_box FX T
  refine okXN F scWeighs (fun vs H Q E h => ?_) (fun cdv A outer s H vs Q E hr h => ?_)
  · obtain ⟨p, g, P, R, h, rfl, _⟩ := h
    rfl
  · obtain ⟨p, g, P0, R, n, rfl, A0, kB, k⟩ := h
    refine ⟨_, pss_one (ps_ret (pe_fld (pe_meth (pv 0) T.clC mX GX hr bX .nil (L2N.passes_call (L2N.takes_of rfl rfl rfl rfl) (fun _ _ _ _ h => h)) (pa_cons (pv 1) pa_nil)) rfl)), ?_⟩
    refine ⟨_, rfl, p, g.dx, _, rfl, A0.hp, pf_no _ _ _ (by decide +kernel) (by decide +kernel) (by decide +kernel), _, rfl, p, g, P0, R, n, rfl, A0, kB, fun b hb => ?_⟩
    exact ⟨g.ba n, B, g.bd n, _, _, rfl, A0.hb n b hb, T.clB, T.nW, bf_weight _ _ _, k b hb⟩
theorem scAlive : FnScope ["self"] ["self"] (defScope sAlive) := ⟨rfl, rfl, rfl, by decide +kernel, rfl, by decide +kernel, by decide +kernel⟩
theorem sorted_same {ys ks : List Int} (p : ys.Perm ks) (h : ys.Pairwise (· ≤ ·)) (hk : ks.Pairwise (· < ·)) : ys = ks :=
  p.eq_of_pairwise (fun a b _ _ h1 h2 => Int.le_antisymm h1 h2) h (hk.imp fun h => Int.le_of_lt h)
theorem ok_alive {f : Addr} {fd : FuncData} (F : Fun K "alive" "Pile.alive" sAlive f fd) (T : Txt K mg C B eH eS eF eB eL) : FnOk P w K mg base CX0 1 f fd ["self"] (spAlive C B) := by
  refine F.ok scAlive (fun vs H Q E h => ?_) (fun cdv A outer s H vs Q E hr h => ?_)
  · obtain ⟨p, g, P, R, rfl, _⟩ := h
    rfl
  · obtain ⟨p, g, P0, R, rfl, A0, W0, k⟩ := h
    refine ⟨_, pss_one (ps_ret (pe_callB (call_sortedDI rfl) (by rfl) T.sorted (by decide +kernel) (pa_cons (pe_fld (pv 0) rfl) pa_nil))), ?_⟩
    refine ⟨_, rfl, p, C, g.dx, _, _, rfl, A0.hp, T.clC, T.nB, pf_boxes _ _ _, g.db, _, keys P0.boxes, rfl, .inl A0.hd, dV_keys _ _, ?_, fun ys r hp hs hr => ?_⟩
    · have := W0.few
      have e : (keys P0.boxes).length = P0.boxes.length := List.length_map _
      omega
    · rw [sorted_same hp hs W0.ks]
      exact k r hr
theorem scSuspects : FnScope ["self", "number"] ["self"] (defScope sSuspects) := ⟨rfl, rfl, rfl, by decide +kernel, rfl, by decide +kernel, by decide +kernel⟩
theorem take_get {α : Type} : ∀ {l : List α} {i : Nat} {x : α}, l[i]? = some x → l.take (i + 1) = l.take i ++ [x]
  | [], i, x, h => by simp at h
  | a :: l, 0, x, h => by
    have e : a = x := Option.some.inj h
    subst e
    rfl
  | a :: l, i + 1, x, h => by
    have ih := take_get (l := l) (i := i) (x := x) h
    show a :: l.take (i + 1) = a :: l.take i ++ [x]
    rw [ih]
    rfl
theorem ok_suspects {f : Addr} {fd : FuncData} (F : Fun K "suspects" "Pile.suspects" sSuspects f fd) (T : Txt K mg C B eH eS eF eB eL) : FnOk P w K mg base CX0 1 f fd ["self"] (spSuspects C B) := by
  refine F.ok scSuspects (fun vs H Q E h => ?_) (fun cdv A outer s H vs Q E hr h => ?_)
  · obtain ⟨p, g, P, R, rfl, _⟩ := h
    rfl
  · obtain ⟨p, g, P0, R, rfl, A0, W0, k⟩ := h
    have hu := hu_of hr
    refine ⟨_, pss_one (ps_ret (pe_lc (own := [("number", 1)]) (g := gName 1) (tt := tB (tFld K (tDGet (tFld K (tVar 0) "_boxes") (tVar 1)) "suspect")) rfl scSuspects.nd (pi_list (pe_callB (call_sortedDI rfl) (by rfl) T.sorted (by decide +kernel) (pa_cons (pe_fld (pv 0) rfl) pa_nil)))
      (blkOk_by (N := ["self", "number"]) (sc := defScope sSuspects) (by decide +kernel)) (fun _ _ _ _ _ => pg_name (i := 1) scSuspects.nd rfl (Or.inl rfl))
      (fun _ _ _ _ _ => pts_one (pt_val (pe_fld (pe_dget hu (pe_fld (pv 0) rfl) (pv 1) (fun _ _ => rfl)) rfl))) (fun _ _ _ _ _ => by exact (pv 1)))), ?_⟩
    refine ⟨_, rfl, p, C, g.dx, _, _, rfl, A0.hp, T.clC, T.nB, pf_boxes _ _ _, g.db, _, keys P0.boxes, rfl, .inl A0.hd, dV_keys _ _, ?_, fun ys r hp hs hr => ?_⟩
    · have := W0.few
      have e : (keys P0.boxes).length = P0.boxes.length := List.length_map _
      omega
    · rw [sorted_same hp hs W0.ks]
      refine ⟨r, rfl, ⟨_, SqL.of upd_same⟩, fun D hD => ?_⟩
      have A1 := A0.new (o := .lst ((keys P0.boxes).map V.int)) hr
      have nrD : r ≠ D := ne_of_none upd_same hD
      have A2 := A1.new (o := .lst []) hD
      refine lc_list (K := K) (a := r) (xs := (keys P0.boxes).map V.int) (fun i H' => PileAt C B p g P0 (twoL R r D ((keys P0.boxes).map V.int) ((((keys P0.boxes).take i).filter fun n => match get P0.boxes n with | none => false | some b => b.sus).map V.int)) H') A2 ?_ ?_ ?_
      · intro i H' _ A
        exact SqL.of (A.same _ _ (by unfold twoL; rw [upd_ne nrD, upd_same]))
      · intro i y H' hi A
        obtain ⟨n, hn, rfl⟩ : ∃ n, (keys P0.boxes)[i]? = some n ∧ y = V.int n := by
          rw [List.getElem?_map] at hi
          cases e : (keys P0.boxes)[i]? with
          | none => rw [e] at hi; cases hi
          | some n =>
            rw [e] at hi
            exact ⟨n, rfl, (Option.some.inj hi).symm⟩
        obtain ⟨b, hb⟩ := get_keys.mpr (List.mem_of_getElem? hn)
        have hD' : DGet H' g.db (.int n) (some (V.ref (g.ba n))) := by
          have := DGet.k (k := Sum.inl n) A.hd
          rw [valV_dV, hb] at this
          exact this
        have hacc : H' D = some (.lst ((((keys P0.boxes).take i).filter fun n => match get P0.boxes n with | none => false | some b => b.sus).map V.int)) := A.same _ _ (by unfold twoL; rw [upd_same])
        refine ⟨rfl, _, rfl, p, C, g.dx, _, _, rfl, A.hp, T.clC, T.nB, pf_boxes _ _ _, _, rfl, g.db, _, rfl, hD', g.ba n, B, g.bd n, _, _, rfl, A.hb n b hb, T.clB, T.nU, bf_suspect _ _ _, b.sus, rfl, ?_⟩
        cases q : b.sus with
        | true =>
          refine iteT ⟨_, rfl, _, hacc, ?_, ?_⟩
          · rw [List.length_map, sizeLine_eq]
            have h1 := List.length_filter_le (fun n => match get P0.boxes n with | none => false | some b => b.sus) ((keys P0.boxes).take i)
            have h2 : ((keys P0.boxes).take i).length ≤ (keys P0.boxes).length := by rw [List.length_take]; exact Nat.min_le_right _ _
            have e : (keys P0.boxes).length = P0.boxes.length := List.length_map _
            have := W0.few
            omega
          · have := A.set (a := D) (o := .lst ((((keys P0.boxes).take i).filter fun n => match get P0.boxes n with | none => false | some b => b.sus).map V.int ++ [V.int n])) (by unfold twoL; rw [upd_same])
            rw [twoL_b] at this
            rw [take_get hn, List.filter_append, List.map_append]
            have e1 : (List.filter (fun n => match get P0.boxes n with | none => false | some b => b.sus) [n]) = [n] := by simp [hb, q]
            rw [e1]
            exact this
        | false =>
          refine iteF ?_
          rw [take_get hn, List.filter_append, List.map_append]
          have e1 : (List.filter (fun n => match get P0.boxes n with | none => false | some b => b.sus) [n]) = [] := by simp [hb, q]
          rw [e1, List.map_nil, List.append_nil]
          exact A
      · intro H' A
        have el : ((keys P0.boxes).map V.int).length = (keys P0.boxes).length := List.length_map _
        rw [el, List.take_length] at A
        refine k D H' (A0.same.free (by rw [upd_ne nrD.symm] at hD; exact hD)) (A.less fun b o e => ?_)
        by_cases q : b = D
        · rw [q, upd_same] at e
          rw [q]
          unfold twoL
          rw [upd_same]
          exact e
        · rw [upd_ne q] at e
          unfold twoL
          rw [upd_ne q, upd_ne (ne_of_none (A0.same _ _ e) hr)]
          exact e
end
end BP

namespace BP
open PySem L2
abbrev sReached : Stmt := top 17
abbrev sTrials : Stmt := top 18
abbrev sTidy : Stmt := top 19
abbrev sPointedAt : Stmt := top 20
abbrev nClear : List Str := ["self", "numbers", "number", "pointed", "box"]
abbrev nPointedAt : List Str := ["pile", "number", "pointed"]
abbrev nReached : List Str := ["pile", "numbers", "found", "waiting", "number"]
abbrev nTrials : List Str := ["pile", "looked_at", "from_without", "number", "pointed"]
abbrev nTidy : List Str := ["pile", "pairs", "kept", "freed", "number", "trial", "_"]
/-- met: the row as keys -/
def metV (row : List Int) : List (Key × V) := row.map fun n => (Sum.inl n, .bl true)
theorem metV_get (n : Int) : ∀ row : List Int, valV (metV row) (Sum.inl n : Key) = if n ∈ row then some (.bl true) else none
  | [] => rfl
  | m :: row => by
    have ih := metV_get n row
    show valV ((Sum.inl m, .bl true) :: metV row) _ = _
    by_cases c : m = n
    · rw [valV_pos (by rw [c]), if_pos (by rw [c]; exact List.mem_cons_self)]
    · rw [valV_neg (by intro z; injection z with z; exact c z), ih]
      by_cases q : n ∈ row
      · rw [if_pos q, if_pos (List.mem_cons_of_mem _ q)]
      · rw [if_neg q, if_neg (fun z => (List.mem_cons.mp z).elim (fun e => c e.symm) q)]
theorem metV_len (row : List Int) : (metV row).length = row.length := List.length_map _
theorem metV_keys (row : List Int) : (metV row).map (·.1) = row.map Sum.inl := by
  unfold metV
  rw [List.map_map]
  rfl
theorem metV_put {n : Int} {row : List Int} (h : n ∉ row) : putK (metV row) (Sum.inl n : Key) (.bl true) = metV (row ++ [n]) := by
  rw [putK_new _ (by rw [metV_get, if_neg h])]
  unfold metV
  rw [List.map_append]
  rfl
theorem strict {ys : List Int} (h : ys.Pairwise (· ≤ ·)) (n : ys.Nodup) : ys.Pairwise (· < ·) := by
  induction ys with
  | nil => exact .nil
  | cons y ys ih =>
    rw [List.pairwise_cons] at h ⊢
    rw [List.nodup_cons] at n
    refine ⟨fun z hz => ?_, ih h.2 n.2⟩
    have := h.1 z hz
    have : y ≠ z := fun e => n.1 (by rw [e]; exact hz)
    omega
theorem upd_self {H : Hp} {a : Addr} {o : HO} (h : H a = some o) : upd H a o = H := by
  funext b
  by_cases q : b = a
  · rw [q, upd_same, h]
  · rw [upd_ne q]
theorem dV_calmed (ba : Int → Addr) (S : List Int) : ∀ bs, dV ba (calmed bs S) = dV ba bs
  | [] => rfl
  | e :: bs => by
    show dV ba ((if e.1 ∈ S then (e.1, calm e.2) else e) :: calmed bs S) = _
    rw [dV_cons, dV_cons, dV_calmed ba S bs]
    by_cases h : e.1 ∈ S <;> simp [h]
theorem take_get' {α : Type} : ∀ {l : List α} {i : Nat} {x : α}, l[i]? = some x → l.take (i + 1) = l.take i ++ [x]
  | [], i, x, h => by simp at h
  | a :: l, 0, x, h => by
    have e : a = x := Option.some.inj h
    subst e
    rfl
  | a :: l, i + 1, x, h => by
    have ih := take_get' (l := l) (i := i) (x := x) h
    show a :: l.take (i + 1) = a :: l.take i ++ [x]
    rw [ih]
    rfl
theorem not_take {l : List Int} (hn : l.Nodup) {i : Nat} {x : Int} (h : l[i]? = some x) : x ∉ l.take i := by
  intro hx
  have := hn
  rw [← List.take_append_drop i l, List.nodup_append] at this
  refine this.2.2 x hx x ?_ rfl
  obtain ⟨hi, e⟩ := List.getElem?_eq_some_iff.mp h
  rw [List.drop_eq_getElem_cons hi, e]
  exact List.mem_cons_self
theorem ints_at' {l : List Int} {i : Nat} {y : V} (hi : (l.map V.int)[i]? = some y) : ∃ n, l[i]? = some n ∧ y = V.int n := by
  rw [List.getElem?_map] at hi
  cases e : l[i]? with
  | none => rw [e] at hi; cases hi
  | some o =>
    rw [e] at hi
    exact ⟨o, rfl, (Option.some.inj hi).symm⟩
theorem lV_at' {l : List (Option Int)} {i : Nat} {y : V} (hi : (lV l)[i]? = some y) : ∃ o, l[i]? = some o ∧ y = oV o := by
  unfold lV at hi
  rw [List.getElem?_map] at hi
  cases e : l[i]? with
  | none => rw [e] at hi; cases hi
  | some o =>
    rw [e] at hi
    exact ⟨o, rfl, (Option.some.inj hi).symm⟩
def spClear (C B : Addr) : Sp := fun vs H Q _ => ∃ (p a : Addr) (g : Geo) (P : Pl) (R : Hp) (F : List Int), vs = [.ref p, .ref a] ∧ PileAt C B p g P R H ∧ Wf P [] ∧ R a = some (.lst (F.map V.int)) ∧ F.Nodup ∧ (∀ n, n ∈ F → ∃ b, get P.boxes n = some b) ∧
  ∀ H', PileAt C B p g (tidied P F) R H' → Q .non H'
def spPointedAt (C B eB : Addr) : Sp := fun vs H Q E => ∃ (p : Addr) (g : Geo) (P : Pl) (R : Hp) (n : Int), vs = [.ref p, .int n] ∧ PileAt C B p g P R H ∧ (∀ b, get P.boxes n = some b → b.slots.length ≤ 6) ∧
  (get P.boxes n = none → E (.ref eB) none H) ∧ (∀ b, get P.boxes n = some b → ∀ r H', R r = none → PileAt C B p g P (upd R r (.lst ((b.slots.filterMap id).map V.int))) H' → Q (.ref r) H')
def spReached (K : PySem.W.Frag) (C B eB : Addr) : Sp := fun vs H Q E => ∃ (p a : Addr) (g : Geo) (P : Pl) (R : Hp) (l : List Int), vs = [.ref p, .ref a] ∧ PileAt C B p g P R H ∧ Wf P [] ∧ SqL K H a (l.map V.int) ∧ l.length ≤ 1000 ∧
  ((∃ s, s ∈ l ∧ get P.boxes s = none) → ∀ H', PileAt C B p g P R H' → E (.ref eB) none H') ∧
  ((∀ s, s ∈ l → ∃ b, get P.boxes s = some b) → ∀ (r : Addr) (ys : List Int) (H' : Hp), R r = none → ys.Pairwise (· < ·) → (∀ n, n ∈ ys ↔ From P.boxes (l.map some) n) → PileAt C B p g P (upd R r (.lst (ys.map V.int))) H' → Q (.ref r) H')
/-- n and the told trial number of the row A -/
def wtOf (P : Pl) (n : Int) : Int := match get P.boxes n with
  | none => 0
  | some b => b.wt
def triNo (P : Pl) (A : List Int) (n : Int) : Int := wtOf P n - ((scnt (inn P.boxes A) n : Nat) : Int)
structure ToldT (P : Pl) (A : List Int) (ts : List Addr) (R R' : Hp) : Prop where
  len : ts.length = A.length
  new : ∀ t, t ∈ ts → R t = none
  at_ : ∀ (i : Nat) (t : Addr) (n : Int), ts[i]? = some t → A[i]? = some n → R' t = some (.tup [.int n, .int (triNo P A n)])
def spTrials (C B : Addr) : Sp := fun vs H Q _ => ∃ (p : Addr) (g : Geo) (P : Pl) (R : Hp), vs = [.ref p] ∧ PileAt C B p g P R H ∧ Wf P [] ∧
  ∀ (A : List Int) (ts : List Addr) (r : Addr) (R' H' : Hp), A.Pairwise (· < ·) → (∀ n, n ∈ A ↔ SL P n) → Same R R' → R r = none → R' r = some (.lst (ts.map V.ref)) → ToldT P A ts R R' → PileAt C B p g P R' H' → Q (.ref r) H'
def spTidy (C B : Addr) : Sp := fun vs H Q _ => ∃ (p : Addr) (g : Geo) (P : Pl) (R : Hp), vs = [.ref p] ∧ PileAt C B p g P R H ∧ Good P ∧
  ∀ (r : Addr) (H' : Hp), R r = none → PileAt C B p g (tidied P (deadF P)) (upd R r (.lst ((deadF P).map V.int))) H' → Q (.ref r) H'
/-- a dict of numbers by numbers -/
def trV (A : List Int) (f : Int → Int) : List (Key × V) := A.map fun n => (Sum.inl n, .int (f n))
theorem trV_get (f : Int → Int) (n : Int) : ∀ A : List Int, valV (trV A f) (Sum.inl n : Key) = if n ∈ A then some (.int (f n)) else none
  | [] => rfl
  | m :: A => by
    have ih := trV_get f n A
    show valV ((Sum.inl m, .int (f m)) :: trV A f) _ = _
    by_cases c : m = n
    · rw [valV_pos (by rw [c]), if_pos (by rw [c]; exact List.mem_cons_self), c]
    · rw [valV_neg (by intro z; injection z with z; exact c z), ih]
      by_cases q : n ∈ A
      · rw [if_pos q, if_pos (List.mem_cons_of_mem _ q)]
      · rw [if_neg q, if_neg (fun z => (List.mem_cons.mp z).elim (fun e => c e.symm) q)]
theorem trV_len (A : List Int) (f : Int → Int) : (trV A f).length = A.length := List.length_map _
theorem trV_new {n : Int} {A : List Int} {f : Int → Int} (h : n ∉ A) : putK (trV A f) (Sum.inl n : Key) (.int (f n)) = trV (A ++ [n]) f := by
  rw [putK_new _ (by rw [trV_get, if_neg h])]
  unfold trV
  rw [List.map_append]
  rfl
theorem trV_old {n v : Int} {f : Int → Int} {A : List Int} (h : n ∈ A) : putK (trV A f) (Sum.inl n : Key) (.int v) = trV A fun m => if m = n then v else f m := by
  unfold putK
  rw [if_pos (by rw [valV_any, trV_get, if_pos h]; rfl)]
  unfold trV
  rw [List.map_map]
  refine List.map_congr_left fun x _ => ?_
  show (if (Sum.inl x : Key) = Sum.inl n then ((Sum.inl x : Key), V.int v) else (Sum.inl x, V.int (f x))) = (Sum.inl x, V.int (if x = n then v else f x))
  by_cases c : x = n
  · subst c; rw [if_pos rfl, if_pos rfl]
  · rw [if_neg (by intro z; injection z with z; exact c z), if_neg c]
theorem trV_keys (A : List Int) (f : Int → Int) : (trV A f).map (·.1) = A.map Sum.inl := by
  unfold trV
  rw [List.map_map]
  rfl
theorem cnt_fm (n : Int) : ∀ l : List (Option Int), (l.filterMap id).count n = cnt l n
  | [] => rfl
  | none :: l => by
    rw [cnt_cons, show (none :: l).filterMap id = l.filterMap id from rfl, cnt_fm n l]
    simp [one]
  | some m :: l => by
    rw [cnt_cons, show (some m :: l).filterMap id = m :: l.filterMap id from rfl, List.count_cons, cnt_fm n l]
    unfold one
    by_cases c : m = n
    · simp [c]; omega
    · simp [c]
theorem paired_len {α β : Type} {F : α → β → Prop} : ∀ {a : List α} {b : List β}, Paired F a b → a.length = b.length ∧ ∀ (i : Nat) (x : α) (y : β), a[i]? = some x → b[i]? = some y → F x y
  | _, _, .nil => ⟨rfl, fun i x y h => by simp at h⟩
  | _, _, .cons r t => by
    obtain ⟨h1, h2⟩ := paired_len t
    refine ⟨by simp [h1], fun i x y hx hy => ?_⟩
    cases i with
    | zero =>
      have e1 := Option.some.inj hx
      have e2 := Option.some.inj hy
      rw [← e1, ← e2]
      exact r
    | succ i => exact h2 i x y hx hy
/-- what suspects lead to -/
theorem mem_suspT {P : Pl} {s : Int} : s ∈ susp P ↔ ∃ b, get P.boxes s = some b ∧ b.sus = true := by
  unfold susp
  rw [List.mem_filter]
  constructor
  · rintro ⟨h1, h2⟩
    obtain ⟨b, hb⟩ := get_keys.mpr h1
    rw [hb] at h2
    exact ⟨b, hb, h2⟩
  · rintro ⟨b, hb, hs⟩
    exact ⟨get_keys.mp ⟨b, hb⟩, by rw [hb]; exact hs⟩
theorem from_susp {P : Pl} {n : Int} : From P.boxes ((susp P).map some) n ↔ SL P n := by
  constructor
  · rintro ⟨s, hs, p⟩
    obtain ⟨b, hb, h⟩ := mem_suspT.mp (mem_some.mp hs)
    exact ⟨s, b, hb, h, p⟩
  · rintro ⟨s, b, hb, h, p⟩
    exact ⟨s, mem_some.mpr (mem_suspT.mpr ⟨b, hb, h⟩), p⟩
theorem susp_len (P : Pl) : (susp P).length ≤ P.boxes.length := by
  have e : (keys P.boxes).length = P.boxes.length := List.length_map _
  rw [← e]
  exact List.length_filter_le _ _
section
variable {P : Program} {w : World} {K : PySem.W.Frag} {mg : Str → Option Value} {base : Heap} {C B eH eS eF eB eL : Addr}
/-! ### clear_away -/
theorem scClear : FnScope nClear ["self", "numbers"] (defScope sClear) := ⟨rfl, rfl, rfl, by decide +kernel, rfl, by decide +kernel, by decide +kernel⟩
theorem ok_clear {f : Addr} {fd : FuncData} (F : Fun K "clear_away" "Pile.clear_away" sClear f fd) (T : Txt K mg C B eH eS eF eB eL) : FnOk P w K mg base CX0 1 f fd ["self", "numbers"] (spClear C B) := by
  refine F.ok scClear (fun vs H Q E h => ?_) (fun cdv A outer s H vs Q E hr h => ?_)
  · obtain ⟨p, a, g, P, R, F, rfl, _⟩ := h
    rfl
  · obtain ⟨p, a, g, P0, R, F, rfl, A0, W, ha, hF, hal, k⟩ := h
    have nd := scClear.nd
    have hu := hu_of hr
    refine ⟨_, (pss_cons (ps_for PassesOwn.never rfl (pi_list (pv 1)) (pg_name (i := 2) nd rfl (Or.inl rfl))
      (pss_one (ps_for PassesOwn.never rfl (pi_list (pe_fld (pe_dget hu (pe_fld (pv 0) rfl) (pv 2) (fun _ _ => rfl)) rfl)) (pg_name (i := 3) nd rfl (Or.inl rfl))
      (pss_one (ps_mid (ps_if (pt_cmp (pc_notN (pv 3))) (pss_cons (ps_set (i := 4) nd rfl (Or.inl rfl) (pe_dget hu (pe_fld (pv 0) rfl) (pv 3) (fun _ _ => rfl)))
      (pss_one (ps_fldaug (pv 4) pe_int in_sub))) pss_nil))))))
      (pss_cons (ps_for PassesOwn.never rfl (pi_list (pv 1)) (pg_name (i := 2) nd rfl (Or.inl rfl))
      (pss_one (ps_ddel (pe_fld (pv 0) rfl) (pv 2))))
      (pss_one (ps_lock (ps_for PassesOwn.never rfl (pi_values (pe_fld (pv 0) rfl)) (pg_name (i := 4) nd rfl (Or.inl rfl))
      (pss_one (ps_fld (pv 4) pe_bl rfl))))))), ?_⟩
    have e0 : ({ P0 with boxes := lowr P0.boxes fun n => scnt (inn P0.boxes (F.take 0)) n } : Pl) = P0 := by
      rw [show (fun n => scnt (inn P0.boxes (F.take 0)) n) = fun _ => 0 from funext fun n => inn_nil _ n, lowr_0]
    refine ⟨_, rfl, a, rfl, ⟨_, SqL.of (A0.same _ _ ha)⟩, for_list (K := K) (a := a) (xs := F.map V.int) (fun i σ H' => ∃ v2 v3 v4 : Option V, σ = [some (.ref p), some (.ref a), v2, v3, v4] ∧
      PileAt C B p g { P0 with boxes := lowr P0.boxes fun n => scnt (inn P0.boxes (F.take i)) n } R H') ⟨none, none, none, rfl, by rw [e0]; exact A0⟩ (fun i σ H' _ ⟨_, _, _, _, A⟩ => SqL.of (A.same _ _ ha)) ?_ ?_⟩
    · rintro i y σ H1 hi ⟨v2, v3, v4, rfl, A1⟩
      obtain ⟨n, hn, rfl⟩ := ints_at' hi
      obtain ⟨b, hb⟩ := hal n (List.mem_of_getElem? hn)
      have gb : ∀ (c : Int → Nat), get (lowr P0.boxes c) n = some { b with wt := b.wt - (c n : Int) } := fun c => by rw [get_lowr, hb]; rfl
      have hD : DGet H1 g.db (.int n) (some (V.ref (g.ba n))) := by
        have := DGet.k (k := Sum.inl n) A1.hd
        rw [valV_dV, gb] at this
        exact this
      refine ⟨_, rfl, p, C, g.dx, _, _, rfl, A1.hp, T.clC, T.nB, pf_boxes _ _ _, _, rfl, g.db, _, rfl, hD, g.ba n, B, g.bd n, _, _, rfl, A1.hb n _ (gb _), T.clB, T.nS, bf_slots _ _ _, g.sa n, rfl, ⟨_, SqL.of (A1.hs n _ (gb _))⟩, ?_⟩
      refine for_list (K := K) (a := g.sa n) (xs := lV b.slots) (fun j σ H' => ∃ v3 v4 : Option V, σ = [some (.ref p), some (.ref a), some (.int n), v3, v4] ∧
        PileAt C B p g { P0 with boxes := lowr P0.boxes fun m => scnt (inn P0.boxes (F.take i)) m + cnt (b.slots.take j) m } R H') ⟨v3, v4, rfl, A1⟩ (fun j σ H' _ ⟨_, _, _, A⟩ => by have := A.hs n _ (gb fun m => scnt (inn P0.boxes (F.take i)) m + cnt (b.slots.take j) m); exact SqL.of this) ?_ ?_
      · clear A1 hD
        rintro j y σ H2 hj ⟨v3, v4, rfl, A2⟩
        obtain ⟨o, ho, rfl⟩ := lV_at' hj
        refine ⟨_, ?_, fun σ' H' h => h⟩
        refine ⟨_, rfl, _, rfl, ?_⟩
        rw [take_get' ho]
        cases o with
        | none =>
          refine if_neg_of (by show (!decide (V.non = V.non)) = false; rw [decide_eq_true rfl]; rfl) ?_
          refine ⟨_, _, rfl, ?_⟩
          rw [show (fun m => scnt (inn P0.boxes (F.take i)) m + cnt (b.slots.take j ++ [none]) m) = fun m => scnt (inn P0.boxes (F.take i)) m + cnt (b.slots.take j) m from funext fun m => by rw [cnt_append, cnt_cons, cnt_nil]; simp [one]]
          exact A2
        | some m =>
          refine if_pos_of (by show (!decide (V.int m = V.non)) = true; rw [decide_eq_false (by intro z; cases z)]; rfl) ?_
          obtain ⟨bm, hbm⟩ : ∃ c, get P0.boxes m = some c := W.slot hb (i := j) (by rw [List.getD_eq_getElem?_getD, ho]; rfl)
          have gm : ∀ (c : Int → Nat), get (lowr P0.boxes c) m = some { bm with wt := bm.wt - (c m : Int) } := fun c => by rw [get_lowr, hbm]; rfl
          have hD : DGet H2 g.db (.int m) (some (V.ref (g.ba m))) := by
            have := DGet.k (k := Sum.inl m) A2.hd
            rw [valV_dV, gm] at this
            exact this
          have gm' := gm fun m => scnt (inn P0.boxes (F.take i)) m + cnt (b.slots.take j) m
          have hB := A2.hb m _ gm'
          refine ⟨_, rfl, p, C, g.dx, _, _, rfl, A2.hp, T.clC, T.nB, pf_boxes _ _ _, _, rfl, g.db, _, rfl, hD, ?_⟩
          refine ⟨_, rfl, g.ba m, B, g.bd m, _, _, rfl, hB, T.clB, T.nW, bf_weight _ _ _, _, _, rfl, rfl, g.bd m, _, hB, (by rw [bf_len]; decide), ?_⟩
          rw [bf_putw]
          have A3 := A2.box gm' less rfl
          rw [show ({ ({ P0 with boxes := lowr P0.boxes fun m => scnt (inn P0.boxes (F.take i)) m + cnt (b.slots.take j) m } : Pl) with boxes := chg ({ P0 with boxes := lowr P0.boxes fun m => scnt (inn P0.boxes (F.take i)) m + cnt (b.slots.take j) m } : Pl).boxes m less } : Pl) =
            { P0 with boxes := lowr P0.boxes fun k => scnt (inn P0.boxes (F.take i)) k + cnt (b.slots.take j ++ [some m]) k } from by
              rw [show chg ({ P0 with boxes := lowr P0.boxes fun m => scnt (inn P0.boxes (F.take i)) m + cnt (b.slots.take j) m } : Pl).boxes m less = _ from chg_lowr m (fun m => scnt (inn P0.boxes (F.take i)) m + cnt (b.slots.take j) m) (fun k => scnt (inn P0.boxes (F.take i)) k + cnt (b.slots.take j ++ [some m]) k) (fun k => by rw [cnt_append, cnt_cons, cnt_nil]; omega) _]] at A3
          exact ⟨_, _, rfl, A3⟩
      · clear A1 hD
        rintro σ H2 ⟨v3, v4, rfl, A2⟩
        rw [lV_len, List.take_length] at A2
        refine ⟨_, _, _, rfl, ?_⟩
        rw [take_get' hn, show (fun m => scnt (inn P0.boxes (F.take i ++ [n])) m) = fun m => scnt (inn P0.boxes (F.take i)) m + cnt b.slots m from funext fun m => scnt_inn_snoc m W.nd hb (not_take hF hn)]
        exact A2
    · clear e0
      rintro σ H1 ⟨v2, v3, v4, rfl, A1⟩
      rw [List.length_map, List.take_length] at A1
      have al2 : ∀ i n, F[i]? = some n → ∃ b, get (out (lowr P0.boxes fun n => scnt (inn P0.boxes F) n) (F.take i)) n = some b := fun i n hn => by
        obtain ⟨b, hb⟩ := hal n (List.mem_of_getElem? hn)
        rw [get_out, if_neg (not_take hF hn), get_lowr, hb]
        exact ⟨_, rfl⟩
      refine ⟨_, rfl, a, rfl, ⟨_, SqL.of (A1.same _ _ ha)⟩, for_list (K := K) (a := a) (xs := F.map V.int) (fun i σ H' => ∃ v2 : Option V, σ = [some (.ref p), some (.ref a), v2, v3, v4] ∧
        PileAt C B p g { P0 with boxes := out (lowr P0.boxes fun n => scnt (inn P0.boxes F) n) (F.take i) } R H') ⟨v2, rfl, by rw [List.take_zero, out_nil]; exact A1⟩ (fun i σ H' _ ⟨_, _, A⟩ => SqL.of (A.same _ _ ha)) ?_ ?_⟩
      · clear A1
        rintro i y σ H2 hi ⟨v2, rfl, A2⟩
        obtain ⟨n, hn, rfl⟩ := ints_at' hi
        obtain ⟨b, hb⟩ := al2 i n hn
        refine ⟨_, rfl, p, C, g.dx, _, _, rfl, A2.hp, T.clC, T.nB, pf_boxes _ _ _, _, rfl, g.db, _, Sum.inl n, rfl, A2.hd, rfl, (by rw [valV_dV, hb]; rfl), ?_⟩
        have A3 := A2.del n
        refine ⟨_, rfl, ?_⟩
        rw [take_get' hn, ← rm_out]
        exact A3
      · clear A1
        rintro σ H2 ⟨v2, rfl, A2⟩
        rw [List.length_map, List.take_length] at A2
        generalize hbs : out (lowr P0.boxes fun n => scnt (inn P0.boxes F) n) F = bs at A2
        refine ⟨g.db, _, A2.hd, trivial, fun od => ?_⟩
        refine ⟨_, rfl, p, C, g.dx, _, _, rfl, (by rw [upd_ne A2.p_db]; exact A2.hp), T.clC, T.nB, pf_boxes _ _ _, g.db, od, _, rfl, upd_same, ?_⟩
        refine for_it walk_values (fun i σ H' => ∃ v4 : Option V, σ = [some (.ref p), some (.ref a), v2, v3, v4] ∧ ∃ H0, PileAt C B p g { P0 with boxes := calmed bs ((keys bs).take i) } R H0 ∧ H' = upd H0 g.db (.frz od (.dK (dV g.ba bs))))
          ⟨v4, rfl, H2, by rw [List.take_zero, calmed_nil]; exact A2, rfl⟩ (fun i σ H' _ ⟨_, _, H0, _, e⟩ => by rw [e]; exact upd_same) ?_ ?_
        · clear A2
          rintro i x σ H3 H4 hi ⟨v4, rfl, H0, A3, rfl⟩ ⟨rfl, ky, hky⟩
          rw [dV_len] at hi
          obtain ⟨e, he⟩ : ∃ e, bs[i]? = some e := ⟨_, List.getElem?_eq_getElem hi⟩
          have hk : (keys bs)[i]? = some e.1 := by unfold keys; rw [List.getElem?_map, he]; rfl
          have hx : x = V.ref (g.ba e.1) := by
            unfold dV at hky
            rw [List.getElem?_map, he] at hky
            have := Option.some.inj hky
            injection this with _ h2
            exact h2.symm
          subst hx
          obtain ⟨b, hb⟩ := get_keys.mpr (List.mem_of_getElem? hk)
          have gb : ∀ S, get (calmed bs S) e.1 = some (if e.1 ∈ S then calm b else b) := fun S => by rw [get_calmed, hb]; rfl
          have hB := A3.hb e.1 _ (gb _)
          have nbd := A3.ba_db (gb _)
          refine ⟨_, rfl, g.ba e.1, B, g.bd e.1, _, rfl, (by rw [upd_ne nbd]; exact hB), T.clB, T.nU, (by rw [bf_len]; decide), ?_⟩
          rw [bf_puts, upd_comm nbd.symm]
          have A4 := A3.box (gb _) calm rfl
          refine ⟨_, rfl, _, ?_, rfl⟩
          rw [take_get' hk, ← chg_calmed]
          exact A4
        · clear A2
          rintro σ H3 ⟨v4, rfl, H0, A3, rfl⟩
          refine ⟨upd_same, ?_⟩
          rw [upd_upd]
          have hd0 := A3.hd
          rw [show dV g.ba ({ P0 with boxes := calmed bs ((keys bs).take (dV g.ba bs).length) } : Pl).boxes = dV g.ba bs from dV_calmed _ _ _] at hd0
          rw [upd_self hd0]
          have el : (keys bs).take (dV g.ba bs).length = keys bs := List.take_of_length_le (by rw [dV_len]; exact Nat.le_of_eq (List.length_map _))
          rw [el, ← hbs, out_lowr, passes (fun n => rfl)] at A3
          exact k _ A3
/-! ### pointed_at -/
theorem scPointedAt : FnScope nPointedAt ["pile", "number"] (defScope sPointedAt) := ⟨rfl, rfl, rfl, by decide +kernel, rfl, by decide +kernel, by decide +kernel⟩
theorem ok_pointedat {f fT : Addr} {fd dT : FuncData} (F : Fun K "pointed_at" "pointed_at" sPointedAt f fd) (T : Txt K mg C B eH eS eF eB eL) (GT : FnOk P w K mg base (L2N.CX P w) 2 fT dT ["self", "number"] (spPoints C B eB)) (bT : Binds K dT ["self", "number"] []) (mT : Meth K C "points" fT) :
    FnOk P w K mg base (L2N.CX P w) 3 f fd ["pile", "number"] (spPointedAt C B eB) := by
  refine okXN F scPointedAt (fun vs H Q E h => ?_) (fun cdv A outer s H vs Q E hr h => ?_)
  · obtain ⟨p, g, P, R, n, rfl, _⟩ := h
    rfl
  · obtain ⟨p, g, P0, R, n, rfl, A0, hl6, kB, k⟩ := h
    have nd := scPointedAt.nd
    have hr2 : Room 2 _ := hr
    refine ⟨_, (pss_one (ps_ret (pe_lc (own := [("pointed", 2)]) (g := gName 2) (tt := tB (tNotN (tVar 2))) (te := tVar 2) (by rfl) nd (pi_list (pe_meth (pv 0) T.clC mT GT hr2 bT .nil (L2N.passes_call (L2N.takes_of rfl rfl rfl rfl) (fun _ _ _ _ h => h)) (pa_cons (pv 1) pa_nil))) (blkOk_by (N := nPointedAt) (sc := defScope sPointedAt) (by decide +kernel)) (fun _ _ _ _ _ => pg_name (i := 2) nd rfl (Or.inl rfl)) (fun _ _ _ _ _ => pts_one (pt_cmp (pc_notN (pv 2)))) (fun _ _ _ _ _ => pv 2)))), ?_⟩
    refine ⟨_, rfl, p, g.dx, _, rfl, A0.hp, pf_no _ _ _ (by decide +kernel) (by decide +kernel) (by decide +kernel), _, rfl, p, g, P0, R, n, rfl, A0, hl6, kB, fun b hb r hr => ⟨r, rfl, ⟨_, SqL.of upd_same⟩, fun D hD => ?_⟩⟩
    have nrD : r ≠ D := ne_of_none upd_same hD
    have A1 := A0.new (o := .lst (lV b.slots)) hr
    have A2 := A1.new (o := .lst []) hD
    refine lc_list (K := K) (a := r) (xs := lV b.slots) (fun i H' => PileAt C B p g P0 (twoL R r D (lV b.slots) (((b.slots.take i).filterMap id).map V.int)) H') A2 (fun i H' _ A => SqL.of (A.same _ _ (by unfold twoL; rw [upd_ne nrD, upd_same]))) ?_ ?_
    · intro i y H' hi A
      obtain ⟨o, ho, rfl⟩ := lV_at' hi
      refine ⟨rfl, _, rfl, _, rfl, ?_⟩
      rw [take_get' ho, List.filterMap_append]
      cases o with
      | none =>
        refine if_neg_of (by show (!decide (V.non = V.non)) = false; rw [decide_eq_true rfl]; rfl) ?_
        rw [show List.filterMap id [(none : Option Int)] = [] from rfl, List.append_nil]
        exact A
      | some m =>
        refine if_pos_of (by show (!decide (V.int m = V.non)) = true; rw [decide_eq_false (by intro z; cases z)]; rfl) ?_
        refine ⟨_, rfl, _, A.same _ _ (by unfold twoL; rw [upd_same]), ?_, ?_⟩
        · rw [List.length_map, sizeLine_eq]
          have h1 := List.length_filterMap_le (f := (id : Option Int → Option Int)) (l := b.slots.take i)
          have h2 : (b.slots.take i).length ≤ b.slots.length := by rw [List.length_take]; exact Nat.min_le_right _ _
          have := hl6 b hb
          omega
        · have := A.set (a := D) (o := .lst (((b.slots.take i).filterMap id).map V.int ++ [V.int m])) (by unfold twoL; rw [upd_same])
          rw [twoL_b] at this
          rw [show List.filterMap id [some m] = [m] from rfl, List.map_append]
          exact this
    · intro H' A
      rw [lV_len, List.take_length] at A
      refine k b hb D H' (A0.same.free (by rw [upd_ne nrD.symm] at hD; exact hD)) (A.less fun c o e => ?_)
      by_cases q : c = D
      · rw [q, upd_same] at e
        rw [q]
        unfold twoL
        rw [upd_same]
        exact e
      · rw [upd_ne q] at e
        unfold twoL
        rw [upd_ne q, upd_ne (ne_of_none (A0.same _ _ e) hr)]
        exact e
/-! ### reached -/
/-- what was found, and what waits -/
def fw (R : Hp) (wl d : Addr) (wt row : List Int) : Hp := upd (upd R wl (.lst (wt.map V.int))) d (.dK (metV row))
section
variable {p wl d : Addr} {g : Geo} {P' : Pl} {R H : Hp} {wt row : List Int}
theorem fw_d : fw R wl d wt row d = some (.dK (metV row)) := upd_same
theorem fw_w (h : wl ≠ d) : fw R wl d wt row wl = some (.lst (wt.map V.int)) := by unfold fw; rw [upd_ne h, upd_same]
theorem fw_setw (h : wl ≠ d) (A : PileAt C B p g P' (fw R wl d wt row) H) (wt' : List Int) : PileAt C B p g P' (fw R wl d wt' row) (upd H wl (.lst (wt'.map V.int))) := by
  have := A.set (a := wl) (o := .lst (wt'.map V.int)) (fw_w h)
  unfold fw at this
  rw [upd_comm h.symm, upd_upd] at this
  exact this
theorem fw_put (A : PileAt C B p g P' (fw R wl d wt row) H) {n : Int} (hn : n ∉ row) : PileAt C B p g P' (fw R wl d wt (row ++ [n])) (upd H d (.dK (putK (metV row) (Sum.inl n : Key) (.bl true)))) := by
  have := A.set (a := d) (o := .dK (putK (metV row) (Sum.inl n : Key) (.bl true))) fw_d
  unfold fw at this
  rw [upd_upd, metV_put hn] at this
  rw [metV_put hn]
  exact this
theorem fw_o {a : Addr} (h1 : a ≠ wl) (h2 : a ≠ d) : fw R wl d wt row a = R a := by unfold fw; rw [upd_ne h2, upd_ne h1]
theorem fw_less (hw : R wl = none) (hd : R d = none) (A : PileAt C B p g P' (fw R wl d wt row) H) : PileAt C B p g P' R H := A.less fun b o e => by
  rw [fw_o (ne_of_none e hw) (ne_of_none e hd)]
  exact e
end
theorem fm_len (l : List (Option Int)) : (l.filterMap id).length ≤ l.length := List.length_filterMap_le _ _
theorem scReached : FnScope nReached ["pile", "numbers"] (defScope sReached) := ⟨rfl, rfl, rfl, by decide +kernel, rfl, by decide +kernel, by decide +kernel⟩
theorem ok_reached {f fPA : Addr} {fd dPA : FuncData} (F : Fun K "reached" "reached" sReached f fd) (T : Txt K mg C B eH eS eF eB eL) (GPA : FnOk P w K mg base (L2N.CX P w) 3 fPA dPA ["pile", "number"] (spPointedAt C B eB)) (FPA : Fun K "pointed_at" "pointed_at" sPointedAt fPA dPA) (bPA : Binds K dPA ["pile", "number"] []) (gPA : mg "pointed_at" = some (.ref fPA)) :
    FnOk P w K mg base (L2N.CX P w) 4 f fd ["pile", "numbers"] (spReached K C B eB) := by
  refine okXN F scReached (fun vs H Q E h => ?_) (fun cdv A outer s H vs Q E hr h => ?_)
  · obtain ⟨p, a, g, P, R, l, rfl, _⟩ := h
    rfl
  · obtain ⟨p, a, g, P0, R, l, rfl, A0, W, hS, hl, kB, k⟩ := h
    have nd := scReached.nd
    have hr3 : Room 3 _ := hr
    have hu := hu_of hr
    have few := W.few
    refine ⟨_, (pss_cons (ps_set (i := 2) nd rfl (Or.inl rfl) pe_dnewK)
      (pss_cons (ps_set (i := 3) nd rfl (Or.inl rfl) (pe_callTy call_list_of (by rfl) T.list (by decide +kernel) (pa_cons (pv 1) pa_nil)))
      (pss_cons (ps_while (passes_of rfl) (pt_truth (pv 3) (by intro _; rfl)) (pss_cons (ps_set (i := 4) nd rfl (Or.inl rfl) (pe_bm0 PySem.F.plainAttrs_list PySem.F.slot_list_pop PySem.F.type_list_pop mt_pop (pv 3)))
      (pss_one (ps_mid (ps_if (pt_cmp (pc_dnotin hu (pv 4) (pv 2))) (pss_cons (ps_expr (pe_bm PySem.F.plainAttrs_list PySem.F.slot_list_extend PySem.F.type_list_extend mt_extend (pv 3) (pa_cons (pe_call GPA hr3 (by rfl) gPA FPA.kp bPA .nil (L2N.passes_call (L2N.takes_of rfl rfl rfl rfl) (fun _ _ _ _ h => h)) (pa_cons (pv 0) (pa_cons (pv 4) pa_nil))) pa_nil)))
      (pss_one (ps_dput hu (pv 2) (pv 4) pe_bl rfl))) pss_nil)))))
      (pss_one (ps_ret (pe_callB (call_sortedDI rfl) (by rfl) T.sorted (by decide +kernel) (pa_cons (pv 2) pa_nil))))))), ?_⟩
    intro d hd
    have A1 := A0.new (o := .dK []) hd
    have rd := A0.same.free hd
    refine ⟨_, rfl, a, _, rfl, .inl ((same_upd hd).seq hS), fun wl hwl => ?_⟩
    have A2 := A1.new (o := .lst (l.map V.int)) hwl
    have nwd : wl ≠ d := fun q => by rw [q, upd_same] at hwl; cases hwl
    have rw0 : R wl = none := A0.same.free (by rw [upd_ne nwd] at hwl; exact hwl)
    replace A2 : PileAt C B p g P0 (fw R wl d l []) (upd (upd H d (.dK [])) wl (.lst (l.map V.int))) := by
      unfold fw
      rw [upd_comm nwd]
      exact A2
    generalize upd (upd H d (.dK [])) wl (.lst (l.map V.int)) = H2 at A2 ⊢
    clear A1 hwl
    refine ⟨fun m σ H => ∃ (row wt : List Int) (v4 : Option V), σ = [some (.ref p), some (.ref a), some (.ref d), some (.ref wl), v4] ∧ PileAt C B p g P0 (fw R wl d wt row) H ∧ Dw P0.boxes (l.map some) row wt ∧ wt.length + 7 * (P0.boxes.length - row.length) = m ∧ wt.length + 6 * (P0.boxes.length - row.length) ≤ 1400,
      ⟨_, [], l, none, rfl, A2, dw0 _ _, rfl, by rw [List.length_nil]; omega⟩, ?_⟩
    clear A2 H2
    rintro m σ H2 ⟨row, wt, v4, rfl, A2, W2, rfl, hle⟩
    have hwl : H2 wl = some (.lst (wt.map V.int)) := A2.same _ _ (fw_w nwd)
    refine ⟨_, rfl, !(wt.map V.int).isEmpty, .inl ⟨_, SqL.of hwl, rfl⟩, ?_⟩
    rcases List.eq_nil_or_concat wt with rfl | ⟨w', y, ewt⟩
    · refine iteF ?_
      have hal : ∀ s, s ∈ l → ∃ b, get P0.boxes s = some b := fun s hs => W2.al s ((W2.start s (mem_some.mpr hs)).resolve_right fun q => by cases q)
      refine ⟨_, rfl, d, _, row, rfl, .inl (A2.same _ _ fw_d), metV_keys _, by have := W2.len; omega, fun ys r hp hs hr => ?_⟩
      have rr : R r = none := by
        have := A2.same.free hr
        rw [fw_o (fun q => by rw [q, fw_w nwd] at this; cases this) (fun q => by rw [q, fw_d] at this; cases this)] at this
        exact this
      exact k hal r ys _ rr (strict hs (hp.symm.nodup W2.nd)) (fun n => by rw [hp.mem_iff]; exact W2.all n) ((fw_less rw0 rd A2).new hr)
    · rw [List.concat_eq_append] at ewt
      subst ewt
      rw [show (!(List.map V.int (w' ++ [y])).isEmpty) = true from by simp]
      refine iteT ?_
      refine ⟨fun σ' H' => ∃ m', m' < (w' ++ [y]).length + 7 * (P0.boxes.length - row.length) ∧ ∃ (row wt : List Int) (v4 : Option V), σ' = [some (.ref p), some (.ref a), some (.ref d), some (.ref wl), v4] ∧ PileAt C B p g P0 (fw R wl d wt row) H' ∧ Dw P0.boxes (l.map some) row wt ∧ wt.length + 7 * (P0.boxes.length - row.length) = m' ∧ wt.length + 6 * (P0.boxes.length - row.length) ≤ 1400,
        fun σ' H' h' => h', ?_⟩
      refine ⟨_, rfl, .inl ⟨rfl, _, SqL.of hwl⟩, wl, _, V.int y, rfl, rfl, hwl, by simp, ?_⟩
      have A3 := fw_setw nwd A2 w'
      rw [show ((w' ++ [y]).map V.int).dropLast = w'.map V.int from by simp]
      generalize upd H2 wl (.lst (w'.map V.int)) = H3 at A3 ⊢
      clear A2 hwl
      rw [List.length_append, List.length_singleton] at hle ⊢
      refine ⟨_, ?_, fun σ' H' h => h⟩
      refine ⟨_, rfl, _, rfl, d, _, rfl, DGet.k (k := Sum.inl y) (A3.same _ _ fw_d), _, rfl, ?_⟩
      rw [metV_get]
      by_cases c : y ∈ row
      · rw [if_pos c]
        refine iteF ?_
        exact ⟨_, by omega, row, w', _, rfl, A3, W2.skip c, rfl, by omega⟩
      · rw [if_neg c]
        refine iteT ?_
        have hwl3 : H3 wl = some (.lst (w'.map V.int)) := A3.same _ _ (fw_w nwd)
        refine ⟨_, rfl, .inl ⟨rfl, _, SqL.of hwl3⟩, _, rfl, _, rfl, p, g, P0, _, y, rfl, A3, fun b hb => W.sl _ _ hb, fun hn => ?_, fun b hb r H4 hr A4 => ?_⟩
        · obtain ⟨s, hs, hsn⟩ := W2.dead W (List.mem_append_right _ (List.mem_singleton.mpr rfl)) hn
          exact kB ⟨s, mem_some.mp hs, hsn⟩ _ (fw_less rw0 rd A3)
        have hr4 : H4 r = some (.lst ((b.slots.filterMap id).map V.int)) := A4.same _ _ upd_same
        have nrw : r ≠ wl := fun q => by rw [q, fw_w nwd] at hr; cases hr
        replace A4 := A4.less (same_upd hr)
        have hwl4 : H4 wl = some (.lst (w'.map V.int)) := A4.same _ _ (fw_w nwd)
        have ls := W.sl y b hb
        have lf := fm_len b.slots
        refine ⟨wl, r, _, _, rfl, rfl, hwl4, hr4, by rw [List.length_map, List.length_map, sizeLine_eq]; omega, ?_⟩
        have A5 := fw_setw nwd A4 (w' ++ b.slots.filterMap id)
        rw [List.map_append] at A5
        generalize upd H4 wl (.lst (w'.map V.int ++ (b.slots.filterMap id).map V.int)) = H5 at A5 ⊢
        have W3 := W2.add c hb
        have l3 := W3.len
        rw [List.length_append, List.length_singleton] at l3
        refine ⟨_, rfl, _, rfl, d, _, rfl, DPut.k (k := Sum.inl y) (A5.same _ _ fw_d) (by rw [metV_len, sizeLine_eq]; omega), ?_⟩
        refine ⟨_, ?_, row ++ [y], w' ++ b.slots.filterMap id, _, rfl, fw_put A5 c, W3, rfl, ?_⟩
        · rw [List.length_append, List.length_append, List.length_singleton]; omega
        · rw [List.length_append, List.length_append, List.length_singleton]; omega
/-! ### trials -/
/-- the dict of weights beside the rest -/
theorem scTrials : FnScope nTrials ["pile"] (defScope sTrials) := ⟨rfl, rfl, rfl, by decide +kernel, rfl, by decide +kernel, by decide +kernel⟩
theorem ok_trials {f fPA fRE fS fG : Addr} {fd dPA dRE dS dG : FuncData} (F : Fun K "trials" "trials" sTrials f fd) (T : Txt K mg C B eH eS eF eB eL) (GPA : FnOk P w K mg base (L2N.CX P w) 3 fPA dPA ["pile", "number"] (spPointedAt C B eB)) (FPA : Fun K "pointed_at" "pointed_at" sPointedAt fPA dPA) (bPA : Binds K dPA ["pile", "number"] []) (gPA : mg "pointed_at" = some (.ref fPA))
    (GRE : FnOk P w K mg base (L2N.CX P w) 4 fRE dRE ["pile", "numbers"] (spReached K C B eB)) (FRE : Fun K "reached" "reached" sReached fRE dRE) (bRE : Binds K dRE ["pile", "numbers"] []) (gRE : mg "reached" = some (.ref fRE))
    (GS : FnOk P w K mg base CX0 1 fS dS ["self"] (spSuspects C B)) (bS : Binds K dS ["self"] []) (mS : Meth K C "suspects" fS) (GG : FnOk P w K mg base (L2N.CX P w) 2 fG dG ["self", "number"] (spWeighs C B eB)) (bG : Binds K dG ["self", "number"] []) (mG : Meth K C "weighs" fG) :
    FnOk P w K mg base CX0 5 f fd ["pile"] (spTrials C B) := by
  refine F.ok scTrials (fun vs H Q E h => ?_) (fun cdv A outer s H vs Q E hr h => ?_)
  · obtain ⟨p, g, P, R, rfl, _⟩ := h
    rfl
  · obtain ⟨p, g, P0, R, rfl, A0, W, k⟩ := h
    have nd := scTrials.nd
    have hr4 : Room 4 _ := hr
    have hr3 : Room 3 _ := hr.mono (by decide)
    have hr2 : Room 2 _ := hr.mono (by decide)
    have hr1 : Room 1 _ := hr.mono (by decide)
    have hu := hu_of hr
    have few := W.few
    refine ⟨_, (pss_cons (ps_set (i := 1) nd rfl (Or.inl rfl) (pe_call GRE hr4 (by rfl) gRE FRE.kp bRE .nil passLN (pa_cons (pv 0) (pa_cons (pe_meth0 (pv 0) T.clC mS GS hr1 bS .nil pass0) pa_nil))))
      (pss_cons (ps_setDc (i := 2) (own := [("number", 3)]) (g := gName 3) (tt := tYes) (tk := tVar 3) (tv := tMeth C "weighs" (spWeighs C B eB) [] E0 (tVar 0) (tCons (tVar 3) tNil)) (by rfl) nd rfl rfl (swD rfl rfl rfl (by decide +kernel)) (pi_list (pv 1)) (blkOk_by (N := nTrials) (sc := defScope sTrials) (by decide +kernel)) (fun _ _ _ _ _ => pg_name (i := 3) nd rfl (Or.inl rfl)) (fun _ _ _ _ _ => pts_nil) (fun _ _ _ _ _ => pv 3) (fun _ _ _ _ _ => pe_meth (pv 0) T.clC mG GG hr2 bG .nil passLN (pa_cons (pv 3) pa_nil)))
      (pss_cons (ps_for PassesOwn.never rfl (pi_list (pv 1)) (pg_name (i := 3) nd rfl (Or.inl rfl))
      (pss_one (ps_for PassesOwn.never rfl (pi_list (pe_call GPA hr3 (by rfl) gPA FPA.kp bPA .nil passLN (pa_cons (pv 0) (pa_cons (pv 3) pa_nil)))) (pg_name (i := 4) nd rfl (Or.inl rfl))
      (pss_one (ps_daug hu (pv 2) (pv 4) pe_int in_sub (fun _ _ _ => rfl))))))
      (pss_one (ps_ret (LiI.pe_listItems (by rfl) (pv 2) (by rfl) T.list (by decide +kernel))))))), ?_⟩
    refine ⟨_, rfl, _, rfl, p, g.dx, _, rfl, A0.hp, pf_no _ _ _ (by decide +kernel) (by decide +kernel) (by decide +kernel), p, g, P0, R, rfl, A0, W, fun d0 H1 rd0 A1 => ?_⟩
    have hd1 : H1 d0 = some (.lst ((susp P0).map V.int)) := A1.same _ _ upd_same
    refine ⟨p, d0, g, P0, _, susp P0, rfl, A1, W, SqL.of hd1, by have := susp_len P0; omega, fun ⟨s, hs, hn⟩ => ?_, fun _ r0 A H2 hr0 hAs hAm A2 => ?_⟩
    · obtain ⟨b, hb, _⟩ := mem_suspT.mp hs
      rw [hb] at hn
      cases hn
    have hAm' : ∀ n, n ∈ A ↔ SL P0 n := fun n => (hAm n).trans from_susp
    have alive : ∀ n, n ∈ A → ∃ b, get P0.boxes n = some b := fun n hn => by
      obtain ⟨s, b, hb, _, pt⟩ := (hAm' n).mp hn
      exact pt.alive W ⟨b, hb⟩
    have hnd : A.Nodup := nodup_lt hAs
    have hlA : A.length ≤ 60 := by
      have := nodup_le (a := A) (b := keys P0.boxes) hnd fun n hn => get_keys.mp (alive n hn)
      rw [show (keys P0.boxes).length = P0.boxes.length from List.length_map _] at this
      omega
    -- from here on R1: what was known, and the row
    have hr2' : H2 r0 = some (.lst (A.map V.int)) := A2.same _ _ upd_same
    have rr0 : R r0 = none := (same_upd rd0).free hr0
    replace A2 : PileAt C B p g P0 (upd R r0 (.lst (A.map V.int))) H2 := A2.less fun b o e => by
      by_cases q : b = r0
      · rw [q, upd_same] at e ⊢; exact e
      · rw [upd_ne q] at e ⊢
        rw [upd_ne (ne_of_none e rd0)]
        exact e
    have sR1 : Same R (upd R r0 (.lst (A.map V.int))) := same_upd rr0
    have hR1 : upd R r0 (.lst (A.map V.int)) r0 = some (.lst (A.map V.int)) := upd_same
    generalize upd R r0 (.lst (A.map V.int)) = R1 at A2 sR1 hR1
    clear A1 hd1 hr0
    refine ⟨_, rfl, r0, rfl, ⟨_, SqL.of hr2'⟩, fun D hD => ?_⟩
    have rD : R1 D = none := A2.same.free hD
    refine dc_it walk_list (fun i H' => PileAt C B p g P0 (upd R1 D (.dK (trV (A.take i) (wtOf P0)))) H') (A2.new hD) (fun i H' _ A' => SqL.of (A'.same _ _ ((same_upd rD) _ _ hR1))) ?_ ?_
    · rintro i x H3 H4 hi A3 ⟨rfl, hx⟩
      obtain ⟨n, hn, rfl⟩ := ints_at' hx
      obtain ⟨b, hb⟩ := alive n (List.mem_of_getElem? hn)
      have hw : b.wt = wtOf P0 n := by unfold wtOf; rw [hb]
      refine ⟨rfl, _, rfl, _, rfl, p, g.dx, _, rfl, A3.hp, pf_no _ _ _ (by decide +kernel) (by decide +kernel) (by decide +kernel), _, rfl, p, g, P0, _, n, rfl, A3, fun z => absurd (hb.symm.trans z) (by intro z; cases z), fun b' hb' => ?_⟩
      have : b' = b := Option.some.inj (hb'.symm.trans hb)
      subst this
      refine ⟨_, Sum.inl n, rfl, A3.same _ _ upd_same, by rw [trV_len, List.length_take, sizeLine_eq]; omega, ?_⟩
      have A4 := A3.set (a := D) (o := .dK (putK (trV (A.take i) (wtOf P0)) (Sum.inl n) (.int b'.wt))) upd_same
      rw [upd_upd] at A4
      rw [take_get' hn, ← trV_new (not_take hnd hn), ← hw]
      exact A4
    intro H3 A3
    rw [List.length_map, List.take_length] at A3
    -- the slots of the row are gone through
    have hcl : ∀ n b m, n ∈ A → get P0.boxes n = some b → some m ∈ b.slots → m ∈ A := fun n b m hn hb hm => by
      obtain ⟨s, c, hc, hs, pt⟩ := (hAm' n).mp hn
      exact (hAm' m).mpr ⟨s, c, hc, hs, pt.trans (.one ⟨b, hb, hm⟩)⟩
    refine ⟨_, rfl, r0, rfl, ⟨_, SqL.of (A3.same _ _ ((same_upd rD) _ _ hR1))⟩, for_list (K := K) (a := r0) (xs := A.map V.int) (fun i σ H' => ∃ v3 v4 : Option V, σ = [some (.ref p), some (.ref r0), some (.ref D), v3, v4] ∧
      PileAt C B p g P0 (upd R1 D (.dK (trV A fun n => wtOf P0 n - ((scnt (inn P0.boxes (A.take i)) n : Nat) : Int)))) H') ⟨_, _, rfl, ?_⟩ (fun i σ H' _ ⟨_, _, _, A'⟩ => SqL.of (A'.same _ _ ((same_upd rD) _ _ hR1))) ?_ ?_⟩
    · rw [show (fun n => wtOf P0 n - ((scnt (inn P0.boxes (A.take 0)) n : Nat) : Int)) = wtOf P0 from funext fun n => by rw [List.take_zero, inn_nil]; exact Int.sub_zero _]
      exact A3
    · clear A3
      rintro i y σ H4 hi ⟨v3, v4, rfl, A4⟩
      obtain ⟨n, hn, rfl⟩ := ints_at' hi
      have hnA := List.mem_of_getElem? hn
      obtain ⟨b, hb⟩ := alive n hnA
      refine ⟨_, rfl, _, rfl, p, g, P0, _, n, rfl, A4, fun b hb => W.sl _ _ hb, fun z => absurd (hb.symm.trans z) (by intro z; cases z), fun b' hb' r H5 hr A5 => ?_⟩
      have : b' = b := Option.some.inj (hb'.symm.trans hb)
      subst this
      have nrD : r ≠ D := fun q => by rw [q, upd_same] at hr; cases hr
      have rr1 : R1 r = none := by rw [upd_ne nrD] at hr; exact hr
      rw [upd_comm nrD.symm] at A5
      refine ⟨r, rfl, ⟨_, SqL.of (A5.same _ _ (by rw [upd_ne nrD, upd_same]))⟩, for_list (K := K) (a := r) (xs := (b'.slots.filterMap id).map V.int) (fun j σ H' => ∃ v4 : Option V, σ = [some (.ref p), some (.ref r0), some (.ref D), some (.int n), v4] ∧
        PileAt C B p g P0 (upd (upd R1 r (.lst ((b'.slots.filterMap id).map V.int))) D (.dK (trV A fun n => wtOf P0 n - (((scnt (inn P0.boxes (A.take i)) n + ((b'.slots.filterMap id).take j).count n) : Nat) : Int)))) H') ⟨_, rfl, A5⟩ (fun j σ H' _ ⟨_, _, A'⟩ => SqL.of (A'.same _ _ (by rw [upd_ne nrD, upd_same]))) ?_ ?_⟩
      · clear A5
        rintro j y σ H6 hj ⟨v4, rfl, A6⟩
        obtain ⟨m, hm, rfl⟩ := ints_at' hj
        have hmA : m ∈ A := hcl n b' m hnA hb (mem_fm.mp (List.mem_of_getElem? hm))
        have hD6 := A6.same _ _ (upd_same (a := D))
        refine ⟨_, rfl, _, rfl, D, .int (wtOf P0 m - (((scnt (inn P0.boxes (A.take i)) m + ((b'.slots.filterMap id).take j).count m) : Nat) : Int)), rfl, ?_, _, _, rfl, rfl, _, DPut.k (k := Sum.inl m) hD6 (by rw [trV_len, sizeLine_eq]; omega), ?_⟩
        · have := DGet.k (k := Sum.inl m) hD6
          rw [trV_get, if_pos hmA] at this
          exact this
        refine ⟨_, rfl, ?_⟩
        rw [trV_old hmA]
        have A7 := A6.set (a := D) (o := .dK (trV A fun k => if k = m then wtOf P0 m - (((scnt (inn P0.boxes (A.take i)) m + ((b'.slots.filterMap id).take j).count m) : Nat) : Int) - 1 else wtOf P0 k - (((scnt (inn P0.boxes (A.take i)) k + ((b'.slots.filterMap id).take j).count k) : Nat) : Int))) upd_same
        rw [upd_upd] at A7
        rw [take_get' hm, show (fun k => wtOf P0 k - (((scnt (inn P0.boxes (A.take i)) k + ((b'.slots.filterMap id).take j ++ [m]).count k) : Nat) : Int)) = fun k => if k = m then wtOf P0 m - (((scnt (inn P0.boxes (A.take i)) m + ((b'.slots.filterMap id).take j).count m) : Nat) : Int) - 1 else wtOf P0 k - (((scnt (inn P0.boxes (A.take i)) k + ((b'.slots.filterMap id).take j).count k) : Nat) : Int) from funext fun k => by
          rw [List.count_append, List.count_cons, List.count_nil]
          by_cases q : k = m
          · subst q
            rw [if_pos rfl]
            simp
            omega
          · rw [if_neg q]
            have : ¬ m = k := fun z => q z.symm
            simp [this]]
        exact A7
      · clear A5
        rintro σ H6 ⟨v4, rfl, A6⟩
        rw [List.length_map, List.take_length] at A6
        refine ⟨_, _, rfl, A6.less fun c o e => ?_⟩
        rw [take_get' hn, show (fun k => wtOf P0 k - ((scnt (inn P0.boxes (A.take i ++ [n])) k : Nat) : Int)) = fun k => wtOf P0 k - (((scnt (inn P0.boxes (A.take i)) k + (b'.slots.filterMap id).count k) : Nat) : Int) from funext fun k => by rw [scnt_inn_snoc k W.nd hb (not_take hnd hn), cnt_fm]] at e
        by_cases q : c = D
        · rw [q, upd_same] at e ⊢; exact e
        · rw [upd_ne q] at e ⊢
          rw [upd_ne (ne_of_none e rr1)]
          exact e
    · clear A3
      rintro σ H4 ⟨v3, v4, rfl, A4⟩
      rw [List.length_map, List.take_length] at A4
      have hD4 := A4.same _ _ (upd_same (a := D))
      refine ⟨_, rfl, D, _, rfl, hD4, fun H5 r ts hs hr hts hnr hl hp => ?_⟩
      have A5 := A4.fresh hs
      have sR : Same R (upd R1 D (.dK (trV A fun n => wtOf P0 n - ((scnt (inn P0.boxes A) n : Nat) : Int)))) := sR1.trans (same_upd rD)
      obtain ⟨hlen, hat⟩ := paired_len hp
      rw [trV_len] at hlen
      refine k A ts r _ H5 hAs hAm' (sR.trans (same_newK A4.same)) (sR.free (A4.same.free hr)) (by rw [newK_new hr]; exact hl) ⟨hlen, fun t ht => sR.free (A4.same.free (hts t ht)), fun i t n ht hn => ?_⟩ A5
      rw [newK_new (hts t (List.mem_of_getElem? ht))]
      exact hat i t _ ht (by unfold trV; rw [List.getElem?_map, hn]; rfl)
/-! ### tidy -/
theorem inV_intsR (n : Int) : ∀ l : List Int, inV (V.int n) (l.map V.int) = decide (n ∈ l)
  | [] => rfl
  | m :: l => by
    have ih := inV_intsR n l
    unfold inV at ih ⊢
    rw [List.map_cons, List.any_cons, ih]
    show ((m == n) || decide (n ∈ l)) = decide (n ∈ m :: l)
    by_cases q : m = n
    · subst q; simp
    · have : ¬ n = m := fun z => q z.symm
      simp [q, this]
theorem flat_intsR : ∀ l : List Int, (l.map V.int).all flatV = true
  | [] => rfl
  | m :: l => by rw [List.map_cons, List.all_cons, flat_intsR l]; rfl
theorem filt_snoc {l : List Int} {i : Nat} {x : Int} {f : Int → Bool} (h : l[i]? = some x) : (l.take (i + 1)).filter f = (l.take i).filter f ++ (if f x = true then [x] else []) := by
  rw [take_get' h, List.filter_append]
  congr 1
  by_cases c : f x = true
  · rw [if_pos c]; simp [c]
  · rw [if_neg c]; simp [c]
theorem refs_at {ts : List Addr} {i : Nat} {y : V} (hi : (ts.map V.ref)[i]? = some y) : ∃ t, ts[i]? = some t ∧ y = V.ref t := by
  rw [List.getElem?_map] at hi
  cases e : ts[i]? with
  | none => rw [e] at hi; cases hi
  | some o =>
    rw [e] at hi
    exact ⟨o, rfl, (Option.some.inj hi).symm⟩
theorem scTidy : FnScope nTidy ["pile"] (defScope sTidy) := ⟨rfl, rfl, rfl, by decide +kernel, rfl, by decide +kernel, by decide +kernel⟩
theorem ok_tidy {f fTR fRE fCA : Addr} {fd dTR dRE dCA : FuncData} (F : Fun K "tidy" "tidy" sTidy f fd) (T : Txt K mg C B eH eS eF eB eL) (GTR : FnOk P w K mg base CX0 5 fTR dTR ["pile"] (spTrials C B)) (FTR : Fun K "trials" "trials" sTrials fTR dTR) (bTR : Binds K dTR ["pile"] []) (gTR : mg "trials" = some (.ref fTR))
    (GRE : FnOk P w K mg base (L2N.CX P w) 4 fRE dRE ["pile", "numbers"] (spReached K C B eB)) (FRE : Fun K "reached" "reached" sReached fRE dRE) (bRE : Binds K dRE ["pile", "numbers"] []) (gRE : mg "reached" = some (.ref fRE))
    (GCA : FnOk P w K mg base CX0 1 fCA dCA ["self", "numbers"] (spClear C B)) (bCA : Binds K dCA ["self", "numbers"] []) (mCA : Meth K C "clear_away" fCA) :
    FnOk P w K mg base CX0 6 f fd ["pile"] (spTidy C B) := by
  refine F.ok scTidy (fun vs H Q E h => ?_) (fun cdv A outer s H vs Q E hr h => ?_)
  · obtain ⟨p, g, P, R, rfl, _⟩ := h
    rfl
  · obtain ⟨p, g, P0, R, rfl, A0, G, k⟩ := h
    have nd := scTidy.nd
    have hr5 : Room 5 _ := hr
    have hr4 : Room 4 _ := hr.mono (by decide)
    have hr1 : Room 1 _ := hr.mono (by decide)
    have hu := hu_of hr
    have W := G.wf
    have few := W.few
    refine ⟨_, (pss_cons (ps_set (i := 1) nd rfl (Or.inl rfl) (pe_call GTR hr5 (by rfl) gTR FTR.kp bTR .nil pass0 (pa_cons (pv 0) pa_nil)))
      (pss_cons (ps_set (i := 2) nd rfl (Or.inr rfl) (pe_call GRE hr4 (by rfl) gRE FRE.kp bRE .nil passLN (pa_cons (pv 0) (pa_cons (pe_lc (own := [("number", 4), ("trial", 5)]) (g := gTup K 2 (gCons (gName 4) (gCons (gName 5) gNil))) (tt := tTest (tOp (rI0 fun i j => .bl (decide (j < i))) (tVar 5) (tC (.int 0)))) (te := tVar 4) (by rfl) nd (pi_list (pv 1)) (blkOk_by (N := nTidy) (sc := defScope sTidy) (by decide +kernel)) (fun _ _ _ _ _ => pg_tup rfl (pgs_cons (pg_name (i := 4) nd rfl (Or.inl rfl)) (pgs_cons (pg_name (i := 5) nd rfl (Or.inl rfl)) pgs_nil))) (fun _ _ _ _ _ => pts_one (pt_cmpR op_gt (pv 5) pe_int (nomark _))) (fun _ _ _ _ _ => pv 4)) pa_nil))))
      (pss_cons (ps_setLc (i := 3) (own := [("number", 4), ("_", 6)]) (g := gTup K 2 (gCons (gName 4) (gCons (gName 6) gNil))) (tt := tTest (tOp (rIn K true) (tVar 4) (tVar 2))) (te := tVar 4) (by rfl) nd rfl rfl (sw_true rfl rfl rfl (by decide +kernel)) (pi_list (pv 1)) (blkOk_by (N := nTidy) (sc := defScope sTidy) (by decide +kernel)) (fun _ _ _ _ _ => pg_tup rfl (pgs_cons (pg_name (i := 4) nd rfl (Or.inl rfl)) (pgs_cons (pg_name (i := 6) nd rfl (Or.inl rfl)) pgs_nil))) (fun _ _ _ _ _ => pts_one (pt_cmpR op_notIn_seq (pv 4) (pv 2) (by rfl))) (fun _ _ _ _ _ => pv 4))
      (pss_cons (ps_expr (pe_meth (pv 0) T.clC mCA GCA hr1 bCA .nil pass0 (pa_cons (pv 3) pa_nil)))
      (pss_one (ps_ret (pv 3))))))), ?_⟩
    refine ⟨_, rfl, p, g, P0, R, rfl, A0, W, fun Al ts r R1 H1 hAs hAm sR rr hr1' told A1 => ?_⟩
    have alive : ∀ n, n ∈ Al → ∃ b, get P0.boxes n = some b := fun n hn => by
      obtain ⟨s, b, hb, _, pt⟩ := (hAm n).mp hn
      exact pt.alive W ⟨b, hb⟩
    have hnd : Al.Nodup := nodup_lt hAs
    have hlA : Al.length ≤ 60 := by
      have := nodup_le (a := Al) (b := keys P0.boxes) hnd fun n hn => get_keys.mp (alive n hn)
      rw [show (keys P0.boxes).length = P0.boxes.length from List.length_map _] at this
      omega
    have hpair : ∀ i t, ts[i]? = some t → ∃ n, Al[i]? = some n ∧ R1 t = some (.tup [.int n, .int (triNo P0 Al n)]) := fun i t ht => by
      have hi : i < Al.length := by rw [← told.len]; exact (List.getElem?_eq_some_iff.mp ht).1
      exact ⟨_, List.getElem?_eq_getElem hi, told.at_ i t _ ht (List.getElem?_eq_getElem hi)⟩
    refine ⟨_, rfl, _, rfl, r, rfl, ⟨_, SqL.of (A1.same _ _ hr1')⟩, fun D hD => ?_⟩
    have rD : R1 D = none := A1.same.free hD
    have sD : ∀ o, Same R1 (upd R1 D o) := fun o => same_upd rD
    refine lc_list (K := K) (a := r) (xs := ts.map V.ref) (fun i H' => PileAt C B p g P0 (upd R1 D (.lst (((Al.take i).filter fun n => decide (0 < triNo P0 Al n)).map V.int))) H') (A1.new hD) (fun i H' _ A' => SqL.of (A'.same _ _ (sD _ _ _ hr1'))) ?_ ?_
    · intro i y H2 hi A2
      obtain ⟨t, ht, rfl⟩ := refs_at hi
      obtain ⟨n, hn, htup⟩ := hpair i t ht
      refine ⟨t, _, rfl, SqT.of (A2.same _ _ (sD _ _ _ htup)), rfl, _, _, rfl, _, _, rfl, rfl, rfl, _, rfl, _, _, rfl, rfl, _, rfl, ?_⟩
      rw [filt_snoc hn]
      by_cases c : 0 < triNo P0 Al n
      · refine if_pos_of (decide_eq_true c) ?_
        refine ⟨_, rfl, _, A2.same _ _ upd_same, ?_, ?_⟩
        · rw [List.length_map, sizeLine_eq]
          have h1 := List.length_filter_le (fun n => decide (0 < triNo P0 Al n)) (Al.take i)
          have h2 : (Al.take i).length ≤ Al.length := by rw [List.length_take]; exact Nat.min_le_right _ _
          omega
        · have := A2.set (a := D) (o := .lst (((Al.take i).filter fun n => decide (0 < triNo P0 Al n)).map V.int ++ [V.int n])) upd_same
          rw [upd_upd] at this
          rw [if_pos (decide_eq_true c), List.map_append]
          exact this
      · refine if_neg_of (decide_eq_false c) ?_
        rw [if_neg (by rw [decide_eq_false c]; exact Bool.false_ne_true), List.append_nil]
        exact A2
    intro H2 A2
    have el : Al.take (ts.map V.ref).length = Al := List.take_of_length_le (by rw [List.length_map, told.len]; exact Nat.le_refl _)
    rw [el] at A2
    refine ⟨p, D, g, P0, _, Al.filter fun n => decide (0 < triNo P0 Al n), rfl, A2, W, SqL.of (A2.same _ _ upd_same), by have := List.length_filter_le (fun n => decide (0 < triNo P0 Al n)) Al; omega, fun ⟨s, hs, hn⟩ => ?_, fun _ r2 ys H3 hr2 hys hym A3 => ?_⟩
    · obtain ⟨b, hb⟩ := alive s (List.mem_filter.mp hs).1
      rw [hb] at hn
      cases hn
    have hyk : ∀ n, n ∈ ys ↔ ∃ m b, m ∈ Al ∧ get P0.boxes m = some b ∧ 0 < b.wt - ((scnt (inn P0.boxes Al) m : Nat) : Int) ∧ Path P0.boxes m n := fun n => by
      rw [hym n]
      constructor
      · rintro ⟨m, hm, pt⟩
        obtain ⟨h1, h2⟩ := List.mem_filter.mp (mem_some.mp hm)
        obtain ⟨b, hb⟩ := alive m h1
        have h3 : 0 < triNo P0 Al m := of_decide_eq_true h2
        unfold triNo wtOf at h3
        rw [hb] at h3
        exact ⟨m, b, h1, hb, h3, pt⟩
      · rintro ⟨m, b, h1, hb, h3, pt⟩
        refine ⟨m, mem_some.mpr (List.mem_filter.mpr ⟨h1, decide_eq_true ?_⟩), pt⟩
        unfold triNo wtOf
        rw [hb]
        exact h3
    have hF : Al.filter (fun n => decide (n ∉ ys)) = deadF P0 := dead_eq W (hAs.filter _) (trial_dead W G.led hAm hyk)
    have s12 : Same R1 (upd (upd R1 D (.lst ((Al.filter fun n => decide (0 < triNo P0 Al n)).map V.int))) r2 (.lst (ys.map V.int))) := (sD _).trans (same_upd hr2)
    have hy2 : (upd (upd R1 D (.lst ((Al.filter fun n => decide (0 < triNo P0 Al n)).map V.int))) r2 (.lst (ys.map V.int))) r2 = some (.lst (ys.map V.int)) := upd_same
    generalize upd (upd R1 D (.lst ((Al.filter fun n => decide (0 < triNo P0 Al n)).map V.int))) r2 (.lst (ys.map V.int)) = R2 at A3 s12 hy2
    clear A2 hr2 sD rD hD hym
    refine ⟨_, rfl, r, rfl, ⟨_, SqL.of (A3.same _ _ (s12 _ _ hr1'))⟩, fun D2 hD2 => ?_⟩
    have rD2 : R2 D2 = none := A3.same.free hD2
    have sD2 : ∀ o, Same R2 (upd R2 D2 o) := fun o => same_upd rD2
    refine lc_list (K := K) (a := r) (xs := ts.map V.ref) (fun i H' => PileAt C B p g P0 (upd R2 D2 (.lst (((Al.take i).filter fun n => decide (n ∉ ys)).map V.int))) H') (A3.new hD2) (fun i H' _ A' => SqL.of (A'.same _ _ (sD2 _ _ _ (s12 _ _ hr1')))) ?_ ?_
    · intro i y H4 hi A4
      obtain ⟨t, ht, rfl⟩ := refs_at hi
      obtain ⟨n, hn, htup⟩ := hpair i t ht
      refine ⟨t, _, rfl, SqT.of (A4.same _ _ (sD2 _ _ _ (s12 _ _ htup))), rfl, _, _, rfl, _, _, rfl, rfl, rfl, _, rfl, _, rfl, r2, _, rfl, .inl (SqL.of (A4.same _ _ (sD2 _ _ _ hy2))), rfl, flat_intsR _, _, rfl, ?_⟩
      rw [filt_snoc hn, inV_intsR]
      by_cases c : n ∈ ys
      · refine if_neg_of (by rw [decide_eq_true c]; rfl) ?_
        rw [if_neg (by rw [decide_eq_false (fun z => z c)]; exact Bool.false_ne_true), List.append_nil]
        exact A4
      · refine if_pos_of (by rw [decide_eq_false c]; rfl) ?_
        refine ⟨_, rfl, _, A4.same _ _ upd_same, ?_, ?_⟩
        · rw [List.length_map, sizeLine_eq]
          have h1 := List.length_filter_le (fun n => decide (n ∉ ys)) (Al.take i)
          have h2 : (Al.take i).length ≤ Al.length := by rw [List.length_take]; exact Nat.min_le_right _ _
          omega
        · have := A4.set (a := D2) (o := .lst (((Al.take i).filter fun n => decide (n ∉ ys)).map V.int ++ [V.int n])) upd_same
          rw [upd_upd] at this
          rw [if_pos (decide_eq_true c), List.map_append]
          exact this
    intro H4 A4
    rw [el, hF] at A4
    refine ⟨_, rfl, p, g.dx, _, rfl, A4.hp, pf_no _ _ _ (by decide +kernel) (by decide +kernel) (by decide +kernel), _, rfl, p, D2, g, P0, _, deadF P0, rfl, A4, W, upd_same, nodup_lt (deadF_sorted W), fun n hn => (mem_deadF.mp hn).1, fun H5 A5 => ?_⟩
    have sRR : Same R R2 := sR.trans s12
    exact ⟨_, rfl, k D2 H5 (sRR.free rD2) (A5.less fun b o e => by
      by_cases q : b = D2
      · rw [q, upd_same] at e ⊢; exact e
      · rw [upd_ne q] at e ⊢; exact sRR _ _ e)⟩
/-! ### done -/
abbrev sDoneP : Stmt := top 27
abbrev nDoneP : List Str := ["pile", "deed", "hand", "size", "other", "slot"]
theorem scDoneP : FnScope nDoneP ["pile", "deed"] (defScope sDoneP) := ⟨rfl, rfl, rfl, by decide +kernel, rfl, by decide +kernel, by decide +kernel⟩
def clsOf (eH eS eF eB eL : Addr) : Bad → Addr
  | .hand => eH | .size => eS | .full => eF | .box => eB | .slot => eL
def spDone (K : PySem.W.Frag) (C B eH eS eF eB eL : Addr) : Sp := fun vs H Q E => ∃ (p t : Addr) (g : Geo) (P : Pl) (R : Hp) (d : Deed), vs = [.ref p, .ref t] ∧ PileAt C B p g P R H ∧ Good P ∧ SqT K H t d.vs ∧
  (∀ e, act P d = .bad e → E (.ref (clsOf eH eS eF eB eL e)) none H) ∧
  (∀ P' f, act P d = .fine P' f → ∀ (r : Addr) (g' : Geo) (H' : Hp), R r = none → PileAt C B p g' P' (upd R r (.lst (f.map V.int))) H' → Q (.ref r) H')
theorem atSlot_none {P : Pl} {h s : Int} {k : Int → Bx → Res} (e : P.hands.getD h.toNat none = none) : atSlot P h s k = .bad .box := by unfold atSlot; rw [e]
theorem atSlot_no {P : Pl} {h s n : Int} {b : Bx} {k : Int → Bx → Res} (e : P.hands.getD h.toNat none = some n) (hb : get P.boxes n = some b) (c : ¬ (0 ≤ s ∧ s < (b.slots.length : Int))) : atSlot P h s k = .bad .slot := by
  unfold atSlot; rw [e]; dsimp only; rw [hb]; exact if_neg c
theorem atSlot_yes {P : Pl} {h s n : Int} {b : Bx} {k : Int → Bx → Res} (e : P.hands.getD h.toNat none = some n) (hb : get P.boxes n = some b) (c : 0 ≤ s ∧ s < (b.slots.length : Int)) : atSlot P h s k = k n b := by
  unfold atSlot; rw [e]; dsimp only; rw [hb]; exact if_pos c
theorem ok_donep {f fM fO fR fU fE fQ fTY : Addr} {fd dM dO dR dU dE dQ dTY : FuncData} (F : Fun K "done" "done" sDoneP f fd) (T : Txt K mg C B eH eS eF eB eL) (GM : FnOk P w K mg base (L2N.CX P w) 3 fM dM ["self", "hand", "size"] (spMake C B eH eS eF)) (bM : Binds K dM ["self", "hand", "size"] []) (mM : Meth K C "make" fM) (GO : FnOk P w K mg base (L2N.CX P w) 3 fO dO ["self", "hand", "other"] (spHold C B eH)) (bO : Binds K dO ["self", "hand", "other"] []) (mO : Meth K C "hold" fO) (GR : FnOk P w K mg base (L2N.CX P w) 3 fR dR ["self", "hand"] (spDrop C B eH)) (bR : Binds K dR ["self", "hand"] []) (mR : Meth K C "drop" fR) (GU : FnOk P w K mg base (L2N.CX P w) 3 fU dU ["self", "hand", "slot", "other"] (spPut C B eH eB eL)) (bU : Binds K dU ["self", "hand", "slot", "other"] []) (mU : Meth K C "put" fU) (GE : FnOk P w K mg base (L2N.CX P w) 3 fE dE ["self", "hand", "slot"] (spEmpty C B eH eB eL)) (bE : Binds K dE ["self", "hand", "slot"] []) (mE : Meth K C "empty" fE) (GQ : FnOk P w K mg base (L2N.CX P w) 3 fQ dQ ["self", "hand", "other", "slot"] (spTake C B eH eB eL)) (bQ : Binds K dQ ["self", "hand", "other", "slot"] []) (mQ : Meth K C "take" fQ)
    (GTY : FnOk P w K mg base CX0 6 fTY dTY ["pile"] (spTidy C B)) (FTY : Fun K "tidy" "tidy" sTidy fTY dTY) (bTY : Binds K dTY ["pile"] []) (gTY : mg "tidy" = some (.ref fTY)) :
    FnOk P w K mg base (L2N.CX P w) 7 f fd ["pile", "deed"] (spDone K C B eH eS eF eB eL) := by
  refine okXN F scDoneP (fun vs H Q E h => ?_) (fun cdv A outer s H vs Q E hr h => ?_)
  · obtain ⟨p, t, g, P, R, d, rfl, _⟩ := h
    rfl
  · obtain ⟨p, t, g, P0, R, d, rfl, A0, G, ht, kB, k⟩ := h
    have nd := scDoneP.nd
    have hr6 : Room 6 _ := hr
    have hr3 : Room 3 _ := hr.mono (by decide)
    have W := G.wf
    refine ⟨_, (pss_cons (ps_match (pv 1) (pmc_seq rfl (pea_str (pea_cap (pea_cap pea_nil))) (pbi_cons (i := 2) (pbi_cons (i := 3) pbi_nil nd rfl (Or.inl rfl)) nd rfl (Or.inl rfl)) (pss_one (ps_ret (pe_meth (pv 0) T.clC mM GM hr3 bM .nil (L2N.passes_call (L2N.takes_of rfl rfl rfl rfl) (fun _ _ _ _ h => h)) (pa_cons (pv 2) (pa_cons (pv 3) pa_nil)))))
      (pmc_seq rfl (pea_str (pea_cap (pea_cap pea_nil))) (pbi_cons (i := 2) (pbi_cons (i := 4) pbi_nil nd rfl (Or.inl rfl)) nd rfl (Or.inl rfl)) (pss_one (ps_ret (pe_meth (pv 0) T.clC mO GO hr3 bO .nil (L2N.passes_call (L2N.takes_of rfl rfl rfl rfl) (fun _ _ _ _ h => h)) (pa_cons (pv 2) (pa_cons (pv 4) pa_nil)))))
      (pmc_seq rfl (pea_str (pea_cap pea_nil)) (pbi_cons (i := 2) pbi_nil nd rfl (Or.inl rfl)) (pss_one (ps_ret (pe_meth (pv 0) T.clC mR GR hr3 bR .nil (L2N.passes_call (L2N.takes_of rfl rfl rfl rfl) (fun _ _ _ _ h => h)) (pa_cons (pv 2) pa_nil))))
      (pmc_seq rfl (pea_str (pea_cap (pea_cap (pea_cap pea_nil)))) (pbi_cons (i := 2) (pbi_cons (i := 5) (pbi_cons (i := 4) pbi_nil nd rfl (Or.inl rfl)) nd rfl (Or.inl rfl)) nd rfl (Or.inl rfl)) (pss_one (ps_ret (pe_meth (pv 0) T.clC mU GU hr3 bU .nil (L2N.passes_call (L2N.takes_of rfl rfl rfl rfl) (fun _ _ _ _ h => h)) (pa_cons (pv 2) (pa_cons (pv 5) (pa_cons (pv 4) pa_nil))))))
      (pmc_seq rfl (pea_str (pea_cap (pea_cap pea_nil))) (pbi_cons (i := 2) (pbi_cons (i := 5) pbi_nil nd rfl (Or.inl rfl)) nd rfl (Or.inl rfl)) (pss_one (ps_ret (pe_meth (pv 0) T.clC mE GE hr3 bE .nil (L2N.passes_call (L2N.takes_of rfl rfl rfl rfl) (fun _ _ _ _ h => h)) (pa_cons (pv 2) (pa_cons (pv 5) pa_nil)))))
      (pmc_seq rfl (pea_str (pea_cap (pea_cap (pea_cap pea_nil)))) (pbi_cons (i := 2) (pbi_cons (i := 4) (pbi_cons (i := 5) pbi_nil nd rfl (Or.inl rfl)) nd rfl (Or.inl rfl)) nd rfl (Or.inl rfl)) (pss_one (ps_ret (pe_meth (pv 0) T.clC mQ GQ hr3 bQ .nil (L2N.passes_call (L2N.takes_of rfl rfl rfl rfl) (fun _ _ _ _ h => h)) (pa_cons (pv 2) (pa_cons (pv 4) (pa_cons (pv 5) pa_nil))))))
      (pmc_seq rfl (pea_str pea_nil) pbi_nil (pss_one (ps_ret (pe_call GTY hr6 (by rfl) gTY FTY.kp bTY .nil pass0 (pa_cons (pv 0) pa_nil))))
      pmc_nil))))))))
      (pss_one ps_never)), ?_⟩
    have sne : ∀ {z z' : Str}, z ≠ z' → decide (z = z') = false := fun e => decide_eq_false e
    refine ⟨_, rfl, ?_⟩
    cases d with
    | make h z =>
      refine ⟨t, _, rfl, ht, ?_⟩
      refine iteT ⟨_, _, rfl, ?_⟩
      refine if_pos_of (decide_eq_true rfl) ?_
      refine ⟨_, _, rfl, ⟨_, _, rfl, ?_⟩⟩
      refine ⟨_, _, rfl, ⟨_, _, rfl, ⟨rfl, ?_⟩⟩⟩
      exact ⟨_, rfl, p, g.dx, _, rfl, A0.hp, pf_no _ _ _ (by decide +kernel) (by decide +kernel) (by decide +kernel), _, rfl, _, rfl, p, P0, R, h, z, rfl, ⟨⟨g, A0⟩, W⟩, fun c => kB .hand (if_pos c), fun c1 c2 => kB .size ((if_neg (not_not_intro c1)).trans (if_pos c2)), fun c1 c2 c3 => kB .full ((if_neg (not_not_intro c1)).trans ((if_neg (not_not_intro c2)).trans (if_pos c3))), fun c1 c2 c3 r H' hr ⟨⟨g', A'⟩, _⟩ => k _ _ ((if_neg (not_not_intro c1)).trans ((if_neg (not_not_intro c2)).trans (if_neg (by omega)))) r g' H' hr A'⟩
    | hold h o =>
      refine ⟨t, _, rfl, ht, ?_⟩
      refine iteT ⟨_, _, rfl, ?_⟩
      refine if_neg_of (sne (by decide +kernel)) ?_
      refine ⟨t, _, rfl, ht, ?_⟩
      refine iteT ⟨_, _, rfl, ?_⟩
      refine if_pos_of (decide_eq_true rfl) ?_
      refine ⟨_, _, rfl, ⟨_, _, rfl, ?_⟩⟩
      refine ⟨_, _, rfl, ⟨_, _, rfl, ⟨rfl, ?_⟩⟩⟩
      exact ⟨_, rfl, p, g.dx, _, rfl, A0.hp, pf_no _ _ _ (by decide +kernel) (by decide +kernel) (by decide +kernel), _, rfl, _, rfl, p, P0, R, h, o, rfl, ⟨⟨g, A0⟩, W⟩, fun c => kB .hand (if_pos c), fun c1 c2 => kB .hand ((if_neg (not_not_intro c1)).trans (if_pos c2)), fun c1 c2 r H' hr ⟨⟨g', A'⟩, _⟩ => k _ _ ((if_neg (not_not_intro c1)).trans (if_neg (not_not_intro c2))) r g' H' hr A'⟩
    | drop h =>
      refine ⟨t, _, rfl, ht, ?_⟩
      refine iteF ?_
      refine ⟨t, _, rfl, ht, ?_⟩
      refine iteF ?_
      refine ⟨t, _, rfl, ht, ?_⟩
      refine iteT ⟨_, _, rfl, ?_⟩
      refine if_pos_of (decide_eq_true rfl) ?_
      refine ⟨_, _, rfl, ?_⟩
      refine ⟨_, _, rfl, ⟨rfl, ?_⟩⟩
      exact ⟨_, rfl, p, g.dx, _, rfl, A0.hp, pf_no _ _ _ (by decide +kernel) (by decide +kernel) (by decide +kernel), _, rfl, p, P0, R, h, rfl, ⟨⟨g, A0⟩, W⟩, fun c => kB .hand (if_pos c), fun c1 r H' hr ⟨⟨g', A'⟩, _⟩ => k _ _ (if_neg (not_not_intro c1)) r g' H' hr A'⟩
    | put h s o =>
      refine ⟨t, _, rfl, ht, ?_⟩
      refine iteF ?_
      refine ⟨t, _, rfl, ht, ?_⟩
      refine iteF ?_
      refine ⟨t, _, rfl, ht, ?_⟩
      refine iteF ?_
      refine ⟨t, _, rfl, ht, ?_⟩
      refine iteT ⟨_, _, rfl, ?_⟩
      refine if_pos_of (decide_eq_true rfl) ?_
      refine ⟨_, _, rfl, ⟨_, _, rfl, ⟨_, _, rfl, ?_⟩⟩⟩
      refine ⟨_, _, rfl, ⟨_, _, rfl, ⟨_, _, rfl, ⟨rfl, ?_⟩⟩⟩⟩
      exact ⟨_, rfl, p, g.dx, _, rfl, A0.hp, pf_no _ _ _ (by decide +kernel) (by decide +kernel) (by decide +kernel), _, rfl, _, rfl, _, rfl, p, P0, R, h, s, o, rfl, ⟨⟨g, A0⟩, W⟩, fun c => kB .hand (if_pos c), fun c1 c2 => kB .hand ((if_neg (not_not_intro c1)).trans (if_pos c2)), fun c1 c2 e => kB .box ((if_neg (not_not_intro c1)).trans ((if_neg (not_not_intro c2)).trans (atSlot_none e))), fun c1 c2 n b e hb c3 => kB .slot ((if_neg (not_not_intro c1)).trans ((if_neg (not_not_intro c2)).trans (atSlot_no e hb c3))), fun c1 c2 n b e hb c3 r H' hr ⟨⟨g', A'⟩, _⟩ => k _ _ ((if_neg (not_not_intro c1)).trans ((if_neg (not_not_intro c2)).trans (atSlot_yes e hb c3))) r g' H' hr A'⟩
    | empty h s =>
      refine ⟨t, _, rfl, ht, ?_⟩
      refine iteT ⟨_, _, rfl, ?_⟩
      refine if_neg_of (sne (by decide +kernel)) ?_
      refine ⟨t, _, rfl, ht, ?_⟩
      refine iteT ⟨_, _, rfl, ?_⟩
      refine if_neg_of (sne (by decide +kernel)) ?_
      refine ⟨t, _, rfl, ht, ?_⟩
      refine iteF ?_
      refine ⟨t, _, rfl, ht, ?_⟩
      refine iteF ?_
      refine ⟨t, _, rfl, ht, ?_⟩
      refine iteT ⟨_, _, rfl, ?_⟩
      refine if_pos_of (decide_eq_true rfl) ?_
      refine ⟨_, _, rfl, ⟨_, _, rfl, ?_⟩⟩
      refine ⟨_, _, rfl, ⟨_, _, rfl, ⟨rfl, ?_⟩⟩⟩
      exact ⟨_, rfl, p, g.dx, _, rfl, A0.hp, pf_no _ _ _ (by decide +kernel) (by decide +kernel) (by decide +kernel), _, rfl, _, rfl, p, P0, R, h, s, rfl, ⟨⟨g, A0⟩, W⟩, fun c => kB .hand (if_pos c), fun c1 e => kB .box ((if_neg (not_not_intro c1)).trans (atSlot_none e)), fun c1 n b e hb c3 => kB .slot ((if_neg (not_not_intro c1)).trans (atSlot_no e hb c3)), fun c1 n b e hb c3 r H' hr ⟨⟨g', A'⟩, _⟩ => k _ _ ((if_neg (not_not_intro c1)).trans (atSlot_yes e hb c3)) r g' H' hr A'⟩
    | take h o s =>
      refine ⟨t, _, rfl, ht, ?_⟩
      refine iteF ?_
      refine ⟨t, _, rfl, ht, ?_⟩
      refine iteF ?_
      refine ⟨t, _, rfl, ht, ?_⟩
      refine iteF ?_
      refine ⟨t, _, rfl, ht, ?_⟩
      refine iteT ⟨_, _, rfl, ?_⟩
      refine if_neg_of (sne (by decide +kernel)) ?_
      refine ⟨t, _, rfl, ht, ?_⟩
      refine iteF ?_
      refine ⟨t, _, rfl, ht, ?_⟩
      refine iteT ⟨_, _, rfl, ?_⟩
      refine if_pos_of (decide_eq_true rfl) ?_
      refine ⟨_, _, rfl, ⟨_, _, rfl, ⟨_, _, rfl, ?_⟩⟩⟩
      refine ⟨_, _, rfl, ⟨_, _, rfl, ⟨_, _, rfl, ⟨rfl, ?_⟩⟩⟩⟩
      exact ⟨_, rfl, p, g.dx, _, rfl, A0.hp, pf_no _ _ _ (by decide +kernel) (by decide +kernel) (by decide +kernel), _, rfl, _, rfl, _, rfl, p, P0, R, h, o, s, rfl, ⟨⟨g, A0⟩, W⟩, fun c => kB .hand (if_pos c), fun c1 c2 => kB .hand ((if_neg (not_not_intro c1)).trans (if_pos c2)), fun c1 c2 e => kB .box ((if_neg (not_not_intro c1)).trans ((if_neg (not_not_intro c2)).trans (atSlot_none e))), fun c1 c2 n b e hb c3 => kB .slot ((if_neg (not_not_intro c1)).trans ((if_neg (not_not_intro c2)).trans (atSlot_no e hb c3))), fun c1 c2 n b e hb c3 r H' hr ⟨⟨g', A'⟩, _⟩ => k _ _ ((if_neg (not_not_intro c1)).trans ((if_neg (not_not_intro c2)).trans (atSlot_yes e hb c3))) r g' H' hr A'⟩
    | tidy =>
      refine ⟨t, _, rfl, ht, ?_⟩
      refine iteF ?_
      refine ⟨t, _, rfl, ht, ?_⟩
      refine iteF ?_
      refine ⟨t, _, rfl, ht, ?_⟩
      refine iteF ?_
      refine ⟨t, _, rfl, ht, ?_⟩
      refine iteF ?_
      refine ⟨t, _, rfl, ht, ?_⟩
      refine iteF ?_
      refine ⟨t, _, rfl, ht, ?_⟩
      refine iteF ?_
      refine ⟨t, _, rfl, ht, ?_⟩
      refine iteT ⟨_, _, rfl, ?_⟩
      refine if_pos_of (decide_eq_true rfl) ?_
      refine ⟨rfl, ?_⟩
      exact ⟨_, rfl, p, g, P0, R, rfl, A0, G, fun r H' hr A' => k _ _ rfl r g H' hr A'⟩
end
end BP

/-! Several except clauses, each with a name or without one; isinstance of what is caught, whatever its class. Own work. -/
namespace BP
open PySem PySem.Spec PyProof.Rows L2
/-- what is wished of an error within a try, whatever the slots -/
abbrev EWx (W : WX) : XK := fun cls d H => ∀ σ, W cls d σ H
abbrev Suite := Addr → Value → Option Addr → TS
/-- the ends of a suite whose name at slot i is let go behind it -/
def endsAs (D : Ends) (i : Nat) : Ends := { nx := fun σ H => D.nx (σ.set i none) H, rt := D.rt, bk := fun σ H => D.bk (σ.set i none) H, ct := fun σ H => D.ct (σ.set i none) H }
/-- what the clauses wish of an error of the body, one behind the other -/
def wMix (K : PySem.W.Frag) (Wout : WX) (D : Ends) : List (Value × Option Nat × Suite) → WX
  | [] => Wout
  | (c, none, ts) :: r => fun cls d σ H => ∃ b, PySem.W.exmOne K cls c = some b ∧ (b = true → ∀ a, H a = none → ts a cls d D σ H) ∧ (b = false → wMix K Wout D r cls d σ H)
  | (c, some i, ts) :: r => fun cls d σ H => ∃ b, PySem.W.exmOne K cls c = some b ∧ (b = true → ∀ a, H a = none → ts a cls d (endsAs D i) (σ.set i (some (.ref a))) H) ∧ (b = false → wMix K Wout D r cls d σ H)
inductive HdsM (X : Cx) : List ExceptHandler → List (Value × Option Nat × Suite) → Prop
  | nil : HdsM X [] []
  | bare {x : Str} {c : Value} {ts : Suite} {b0 : Stmt} {su : List Stmt} {p q : Pos} {hs : List ExceptHandler} {l : List (Value × Option Nat × Suite)} (hc : Names X x c)
      (hsu : ∀ (a : Addr) (oe : Obj) (cls : Value) (d : Option Addr) (pn : List (Addr × Obj)), Zc cls d oe → (∃ vs, oe.data = .fields vs) → PSs (X.suite a ((a, oe) :: pn)) (b0 :: su) (ts a cls d)) (r : HdsM X hs l) :
      HdsM X (.ExceptHandler (some (.Name x p)) none (b0 :: su) q :: hs) ((c, none, ts) :: l)
  | named {x n : Str} {i : Nat} {c : Value} {ts : Suite} {b0 : Stmt} {su : List Stmt} {p q : Pos} {hs : List ExceptHandler} {l : List (Value × Option Nat × Suite)} (hN : X.N.Nodup) (hi : X.N[i]? = some n) (hl : X.env.kindOf n = some .local) (hc : Names X x c)
      (hsu : ∀ (a : Addr) (oe : Obj) (cls : Value) (d : Option Addr) (pn : List (Addr × Obj)), Zc cls d oe → (∃ vs, oe.data = .fields vs) → PSs (X.suite a ((a, oe) :: pn)) (b0 :: su) (ts a cls d)) (r : HdsM X hs l) :
      HdsM X (.ExceptHandler (some (.Name x p)) (some n) (b0 :: su) q :: hs) ((c, some i, ts) :: l)
section
variable {X : Cx}
theorem ps_try_mix {body : List Stmt} {h0 : ExceptHandler} {hds : List ExceptHandler} {l : List (Value × Option Nat × Suite)} {pos : Pos} {tb : WX → TS} {Wout : WX} (hs : X.stack = X.env :: X.outer) (hf : X.env.frame = some X.env.locals) (tk : Takes X Wout)
    (hb : ∀ (W : WX) (pn : List (Addr × Obj)) (xe : Value → Shared → Prop), Takes (X.tr pn xe) W → PassesOwn (model X.prog X.w) X.A X.env xe → PSs (X.tr pn xe) body (tb W)) (hh : HdsM X (h0 :: hds) l) :
    PS X (.Try body (h0 :: hds) [] [] pos) (fun D σ H => tb (wMix X.K Wout D l) D σ H) := by
  refine ⟨fun pins s σ H D I hw => ?_⟩
  have ok := I.ok
  have frm : X.A.frames = some (X.env :: X.outer) := by rw [ok.frames, hs]
  refine wpAny_Try_except ?_
  let xe0 : Value → Shared → Prop := fun e s₁ => wpAny (model X.prog X.w) X.A (noteFrame e X.env) (fun _ s₂ => wpAny (model X.prog X.w) X.A (setFlight e none) (fun _ s₃ => wpAny (model X.prog X.w) X.A (handleBy e X.env (h0 :: hds)) (SP X pins D) X.xe s₃) X.xe s₂) X.xe s₁
  have catch_ : Takes (X.tr (X.pn ++ pins) xe0) (wMix X.K Wout D l) := by
    rintro u t ⟨a, B, sI, pins', σ', H', cls, d, rfl, J', nb, up, sky, na, os, ag, w⟩
    have J : Inv X pins σ' H' sI := J'.ofTry ok
    have sky' : Sky B (X.env :: X.outer) a (Zc cls d) X.env.locals t.heap := by rw [← hs]; exact sky
    show wpAny (model X.prog X.w) X.A (noteFrame (.ref a) X.env) _ _ _
    refine Sky.land Zc.steady frm hf sky' fun h3 fl3 up3 => ?_
    have J3 : Inv X pins σ' H' { t with heap := h3 } := J.landed nb fl3.1 (up.trans up3) os ag
    obtain ⟨oe3, vs3, he3, hz3, hd3⟩ := fl3.there
    have away : a ∉ frs (X.env :: X.outer) := fun hm => by
      obtain ⟨_, o', e', hnf⟩ := fl3.2.2.1.mem hm
      rw [he3] at e'
      cases e'
      exact hnf _ hd3
    have aL : a ≠ X.env.locals := fun z => away (List.mem_filterMap.mpr ⟨X.env, List.mem_cons_self, by rw [hf, z]⟩)
    have aF : a ∉ X.fs := fun hm => by
      obtain ⟨e, he, q⟩ := List.mem_filterMap.mp hm
      exact away (List.mem_filterMap.mpr ⟨e, List.mem_cons_of_mem _ he, q⟩)
    have S3 := J3.suite he3 hd3 na aL aF
    have LT : PySem.W.Looks (model X.prog X.w) h3 (typeOf (.ref a)) cls := fun A Q E s k q => wpAny_typeOf_ref (k _ _ he3) (by rw [hz3.1]; exact q)
    have test : ∀ {x : Str} {c : Value} {np : Pos}, Names X x c → ∀ {Q : Value → Shared → Prop} {E : Value → Shared → Prop}, Q c { t with heap := h3 } → wpAny (model X.prog X.w) (X.A.mark (some (.ref a))) (eval (.Name x np) X.env) Q E { t with heap := h3 } := by
      rintro x c np ⟨hg, hdbg, hm | ⟨hm, hv, hnn⟩⟩ Q E q
      · exact ld_glob (X := X.suite a ((a, oe3) :: (X.pn ++ pins))) S3 hg hm q hdbg
      · exact ld_blt (X := X.suite a ((a, oe3) :: (X.pn ++ pins))) S3 hg hm hv q hnn hdbg
    have go : ∀ {hs' : List ExceptHandler} {l' : List (Value × Option Nat × Suite)}, HdsM X hs' l' → wMix X.K Wout D l' cls d σ' H' → wpAny (model X.prog X.w) X.A (handleBy (.ref a) X.env hs') (SP X pins D) X.xe { t with heap := h3 } := by
      intro hs' l' hk
      induction hk with
      | nil =>
        intro w
        refine wpAny_handleBy_nil ?_
        obtain ⟨k1, k2, k3, oe, vs, T, oT, ts', he, hz, hd, h1, hr⟩ := id fl3
        unfold PySem.passOn
        refine wpAny_bind (wpAny_field he hd h1 ?_)
        rw [if_neg (show ¬ ((Value.ref T == Value.none) = true) from by simp)]
        have out : wpAny (model X.prog X.w) X.A (setFlight (.ref a) X.env.frame) (fun _ v => wpAny (model X.prog X.w) X.A (throw (.ref a) : Sem Flow) (SP X pins D) X.xe v) X.xe { t with heap := h3 } := by
          rw [hf]
          refine HandSPX.setFlight_upZ fl3 fun h4 hh4 up4 => wpAny_throw (tk _ _ ?_)
          exact ⟨a, B, sI, pins, σ', H', cls, d, rfl, J, nb, (up.trans up3).trans up4, .inr (.inr (by rw [hs]; exact hh4)), na, os, ag, w⟩
        first
          | exact wpAny_bind (wpAny_pure (wpAny_bind out))
          | exact wpAny_bind out
      | @bare x c ts b0 su p q hs2 l2 hc hsu r ih =>
        rintro ⟨b, hb1, yes, no⟩
        refine wpAny_handleBy_cons (codeAny_handlers_test ?_) (by intro q; cases q)
        refine test hc ((PySem.W.exm_one (M := model X.prog X.w) (J3.kIn) LT hb1).here ?_)
        cases b with
        | false =>
          show wpAny _ X.A (handleBy (.ref a) X.env hs2) _ _ _
          exact ih (no rfl)
        | true =>
          refine codeAny_handlers_suite ?_
          refine HandSPX.lands_againZ fl3 fun h4 fl4 up4 => ?_
          have J4 : Inv X pins σ' H' { t with heap := h4 } := J.landed nb fl4.1 ((up.trans up3).trans up4) os ag
          obtain ⟨oe4, vs4, he4, hz4, hd4⟩ := fl4.there
          refine wpAny_mono ((hsu a oe4 cls d (X.pn ++ pins) hz4 ⟨_, hd4⟩).run [] _ _ H' _ (J4.suite he4 hd4 na aL aF) (yes rfl a na)) (fun f v hsp => ?_) (fun _ _ z => False.elim z)
          cases f with
          | next => obtain ⟨σ6, H6, S6, q6⟩ := hsp; exact ⟨_, _, S6.unsuite ok, q6⟩
          | brk => obtain ⟨σ6, H6, S6, q6⟩ := hsp; exact ⟨_, _, S6.unsuite ok, q6⟩
          | cont => obtain ⟨σ6, H6, S6, q6⟩ := hsp; exact ⟨_, _, S6.unsuite ok, q6⟩
          | ret u => obtain ⟨v6, σ6, H6, S6, r6, q6⟩ := hsp; exact ⟨_, _, _, S6.unsuite ok, r6, q6⟩
      | @named x n i c ts b0 su p q hs2 l2 hN hi hl hc hsu r ih =>
        rintro ⟨b, hb1, yes, no⟩
        refine wpAny_handleBy_cons (codeAny_handlers_test ?_) (by intro q; cases q)
        refine test hc ((PySem.W.exm_one (M := model X.prog X.w) (J3.kIn) LT hb1).here ?_)
        cases b with
        | false =>
          show wpAny _ X.A (handleBy (.ref a) X.env hs2) _ _ _
          exact ih (no rfl)
        | true =>
          refine codeAny_handlers_suite_as ?_
          refine HandSPX.lands_againZ fl3 fun h4 fl4 up4 => ?_
          have J4 : Inv X pins σ' H' { t with heap := h4 } := J.landed nb fl4.1 ((up.trans up3).trans up4) os ag
          obtain ⟨oe4, vs4, he4, hz4, hd4⟩ := fl4.there
          refine store_ok (X := X.suite a ((a, oe4) :: (X.pn ++ pins))) (v := .ref a) (J4.suite he4 hd4 na aL aF) hN hi (.inl hl) rfl (fun t5 S5 => ?_) (.inr hl)
          refine wpAny_mono ((hsu a oe4 cls d (X.pn ++ pins) hz4 ⟨_, hd4⟩).run [] t5 _ H' _ S5 (yes rfl a na)) (fun f v hsp => ?_) (fun _ _ z => False.elim z)
          have letGo : ∀ {σ6 : L2.St} {H6 : Hp} {Z : Shared → Prop}, Inv (X.suite a ((a, oe4) :: (X.pn ++ pins))) [] σ6 H6 v → (∀ s7, Inv X pins (σ6.set i none) H6 s7 → Z s7) →
              wpAny (model X.prog X.w) X.A (do bindName X.env n .none; unbindBehindTheSuite X.env n q) (fun _ s7 => Z s7) X.xe v := fun S6 hq => gone_ok (S6.unsuite ok) hN hi hl hq
          cases f with
          | next => obtain ⟨σ6, H6, S6, q6⟩ := hsp; exact letGo S6 fun s7 J7 => ⟨_, _, J7, q6⟩
          | brk => obtain ⟨σ6, H6, S6, q6⟩ := hsp; exact letGo S6 fun s7 J7 => ⟨_, _, J7, q6⟩
          | cont => obtain ⟨σ6, H6, S6, q6⟩ := hsp; exact letGo S6 fun s7 J7 => ⟨_, _, J7, q6⟩
          | ret u => obtain ⟨v6, σ6, H6, S6, r6, q6⟩ := hsp; exact letGo S6 fun s7 J7 => ⟨_, _, _, J7, r6, q6⟩
    exact go hh w
  refine wpAny_mono ((hb (wMix X.K Wout D l) (X.pn ++ pins) xe0 catch_ PassesOwn.looking).run [] s σ H D (I.toTry _) hw) (fun f s1 hsp => ?_) (fun e s1 he => he)
  cases f with
  | next => obtain ⟨σ', H', J', q⟩ := hsp; exact wpAny_execs_nil ⟨σ', H', J'.ofTry ok, q⟩
  | brk => obtain ⟨σ', H', J', q⟩ := hsp; exact ⟨σ', H', J'.ofTry ok, q⟩
  | cont => obtain ⟨σ', H', J', q⟩ := hsp; exact ⟨σ', H', J'.ofTry ok, q⟩
  | ret u => obtain ⟨v, σ', H', J', r, q⟩ := hsp; exact ⟨v, σ', H', J'.ofTry ok, r, q⟩
/-- isinstance(e, c) of what the suite holds -/
def rIsE1 (K : PySem.W.Frag) (a : Addr) (cls : Value) (d : Option Addr) : List V → Hp → VK → Prop := fun xs H Q => ∃ (D : Addr) (c : V) (u : Value) (b : Bool), cls = .ref D ∧ d = none ∧ ExcC K D ∧ xs = [.ref a, c] ∧ ClsV c u ∧ PySem.W.kitOne K (.ref D) u = some b ∧ Q (.bl b) H
/-- isinstance(e, (c1, c2, ..)) -/
def rIsEs (K : PySem.W.Frag) (a : Addr) (cls : Value) (d : Option Addr) : List V → Hp → VK → Prop := fun xs H Q => ∃ (D tp : Addr) (cs : List V) (us : List Value) (b : Bool), cls = .ref D ∧ d = none ∧ ExcC K D ∧ xs = [.ref a, .ref tp] ∧ H tp = some (.tup cs) ∧ Paired ClsV cs us ∧ PySem.W.kitAny K (.ref D) us = some b ∧ Q (.bl b) H
theorem inst_at {s : Shared} {a D : Addr} {oe : Obj} (hz : Zc (.ref D) none oe) (hf : ∃ vs, oe.data = .fields vs) (e : s.heap.get? a = some oe) : PySem.W.InstAt s.heap a oe D none := by
  obtain ⟨oc, od, oda, osl⟩ := oe
  obtain ⟨h1, h2⟩ := hz
  obtain ⟨vs, hv⟩ := hf
  dsimp only at h1 h2 hv
  subst h1 h2 hv
  exact ⟨e, rfl, rfl, trivial⟩
theorem call_isE1 {a : Addr} {oe : Obj} {cls : Value} {d : Option Addr} {pn : List (Addr × Obj)} (hz : Zc cls d oe) (hf : ∃ vs, oe.data = .fields vs) : CallR (X.suite a ((a, oe) :: pn)) (.builtin "isinstance") (rIsE1 X.K a cls d) := by
  rintro pins s σ H xs us Q I r ⟨D, c, u, b, rfl, rfl, C, rfl, k, e, q⟩
  obtain ⟨u1, u2, rfl, r1, r2⟩ := vals2 r
  cases r1
  have e2 := k.eq r2
  subst e2
  obtain ⟨hget, _⟩ := I.pin (a, oe) (List.mem_append_left _ List.mem_cons_self)
  exact PySem.W.kia_one (PySem.W.handS_kitx_exc C.hg C.hk C.hs C.hd C.ha C.hn C.ht C.hm) I.kIn (inst_at hz hf hget) e (fun z => nomatch z) fun tk => ⟨.bl b, H, I.tok tk, rfl, q⟩
theorem call_isEs {a : Addr} {oe : Obj} {cls : Value} {d : Option Addr} {pn : List (Addr × Obj)} (hz : Zc cls d oe) (hf : ∃ vs, oe.data = .fields vs) : CallR (X.suite a ((a, oe) :: pn)) (.builtin "isinstance") (rIsEs X.K a cls d) := by
  rintro pins s σ H xs us Q I r ⟨D, tp, cs, ws, b, rfl, rfl, C, rfl, hT, k, e, q⟩
  obtain ⟨u1, u2, rfl, r1, r2⟩ := vals2 r
  cases r1
  cases (show u2 = Value.ref tp from r2)
  obtain ⟨hget, _⟩ := I.pin (a, oe) (List.mem_append_left _ List.mem_cons_self)
  obtain ⟨_, its, rv, o, h1, h2, n, h3⟩ := (show ObjOk X.prog X.w H s.heap tp (.tup cs) from I.hok tp _ hT)
  have e3 := ClsV.all k rv
  subst e3
  obtain ⟨oc, od, dt, sl⟩ := o
  simp only at h2 h3
  subst h2 h3
  exact PySem.W.kia_tup (PySem.W.handS_kitx_exc C.hg C.hk C.hs C.hd C.ha C.hn C.ht C.hm) I.kIn (inst_at hz hf hget) h1 e (fun z => nomatch z) fun tk => ⟨.bl b, H, I.tok tk, rfl, q⟩
end
end BP

/-! A law's own hands and rooms, in which nothing is ever freed, beside a pile. Own work; core Lean alone. -/
namespace BP
structure Own (P : Pl) (hs : List (Option Int)) (rs : List (List (Option Int))) : Prop where
  h : P.hands = hs
  m : P.made = (rs.length : Int)
  s : ∀ n b, get P.boxes n = some b → rs[n.toNat]? = some b.slots
theorem own0 : Own pl0 (List.replicate 8 none) [] := ⟨rfl, rfl, fun n b e => by simp [pl0, get_nil] at e⟩
theorem Own.hand {P : Pl} {hs : List (Option Int)} {rs : List (List (Option Int))} (o : Own P hs rs) (i : Nat) (x : Option Int) : Own (ptHand P i x).1 (hs.set i x) rs :=
  ⟨by show P.hands.set i x = _; rw [o.h], o.m, fun n b e => by
    obtain ⟨c, hc, es⟩ := ptHand_slots e
    rw [← es]
    exact o.s n c hc⟩
theorem Own.slot {P : Pl} {hs : List (Option Int)} {rs : List (List (Option Int))} (o : Own P hs rs) (W : Wf P []) {k : Int} {b : Bx} (hb : get P.boxes k = some b) (i : Nat) (x : Option Int) : Own (ptSlot P k i x).1 hs (rs.set k.toNat (b.slots.set i x)) :=
  ⟨o.h, by rw [List.length_set]; exact o.m, fun n c e => by
    obtain ⟨d, hd, es⟩ := ptSlot_slots e
    have k0 := (W.lo k (get_keys.mp ⟨b, hb⟩)).1
    have n0 := (W.lo n (get_keys.mp ⟨d, hd⟩)).1
    by_cases q : n = k
    · subst q
      have : d = b := Option.some.inj (hd.symm.trans hb)
      subst this
      rw [if_pos rfl] at es
      rw [List.getElem?_set_self (List.getElem?_eq_some_iff.mp (o.s n d hd)).1, es]
    · rw [if_neg q] at es
      rw [List.getElem?_set_ne (by omega), es]
      exact o.s n d hd⟩
theorem Own.make {P : Pl} {hs : List (Option Int)} {rs : List (List (Option Int))} (o : Own P hs rs) (W : Wf P []) (i size : Nat) : Own (BP.mk P i size).1 (hs.set i (some (rs.length : Int))) (rs ++ [List.replicate size none]) :=
  ⟨by show (born P size).hands.set i (some P.made) = _; rw [← o.m, ← o.h]; rfl, by show P.made + 1 = _; rw [o.m, List.length_append]; rfl, fun n b e => by
    rcases mk_slots W e with ⟨q, es⟩ | ⟨c, hc, es⟩
    · have : n.toNat = rs.length := by rw [q, o.m]; rfl
      rw [this, List.getElem?_append_right (Nat.le_refl _), Nat.sub_self, es]
      rfl
    · have := o.s n c hc
      rw [List.getElem?_append_left (List.getElem?_eq_some_iff.mp this).1, ← es]
      exact this⟩
theorem Own.tidied {P : Pl} {hs : List (Option Int)} {rs : List (List (Option Int))} (o : Own P hs rs) (F : List Int) : Own (tidied P F) hs rs :=
  ⟨o.h, o.m, fun n b e => by
    rw [get_tidied] at e
    by_cases c : n ∈ F
    · rw [if_pos c] at e; cases e
    · rw [if_neg c] at e
      cases q : get P.boxes n with
      | none => rw [q] at e; cases e
      | some d =>
        rw [q] at e
        rw [← Option.some.inj e]
        exact o.s n d q⟩
/-- by the law's own rooms -/
inductive RPath (rs : List (List (Option Int))) : Int → Int → Prop
  | refl (n : Int) : RPath rs n n
  | step {a b c : Int} {row : List (Option Int)} : rs[a.toNat]? = some row → some b ∈ row → RPath rs b c → RPath rs a c
/-- what hands lead to by the law's own rooms is what they lead to in the pile -/
theorem Own.hl {P : Pl} {hs : List (Option Int)} {rs : List (List (Option Int))} (o : Own P hs rs) (W : Wf P []) (n : Int) : HL P n ↔ ∃ h, some h ∈ hs ∧ RPath rs h n := by
  constructor
  · rintro ⟨h, hh, p⟩
    refine ⟨h, by rw [← o.h]; exact hh, ?_⟩
    clear hh
    induction p with
    | refl m => exact .refl m
    | step e _ ih =>
      obtain ⟨x, hx, hc⟩ := e
      exact .step (o.s _ x hx) hc ih
  · rintro ⟨h, hh, p⟩
    have hh' : some h ∈ P.hands := by rw [o.h]; exact hh
    refine ⟨h, hh', ?_⟩
    have ha : ∃ b, get P.boxes h = some b := W.cl h (by have := cnt_pos.mpr hh'; omega)
    clear hh hh'
    induction p with
    | refl m => exact .refl m
    | @step a b c row e hc _ ih =>
      obtain ⟨x, hx⟩ := ha
      have : x.slots = row := Option.some.inj ((o.s _ x hx).symm.trans e)
      subst this
      exact .step ⟨x, hx, hc⟩ (ih (W.cl _ (Nat.lt_of_lt_of_le (cnt_pos.mpr hc) (Nat.le_trans (scnt_le _ hx) (Nat.le_trans (Nat.le_add_left _ _) (Nat.le_add_right _ _))))))
end BP

/-! Rows of deeds as lists of tuples in the heap. Own work. -/
namespace BP
open PySem L2
theorem paired_app {α β : Type} {F : α → β → Prop} : ∀ {a : List α} {b : List β} {c : List α} {d : List β}, Paired F a b → Paired F c d → Paired F (a ++ c) (b ++ d)
  | _, _, _, _, .nil, h => h
  | _, _, _, _, .cons r t, h => .cons r (paired_app t h)
theorem paired_imp {α β : Type} {F G : α → β → Prop} (h : ∀ a b, F a b → G a b) : ∀ {a : List α} {b : List β}, Paired F a b → Paired G a b
  | _, _, .nil => .nil
  | _, _, .cons r t => .cons (h _ _ r) (paired_imp h t)
theorem paired_at {α β : Type} {F : α → β → Prop} : ∀ {a : List α} {b : List β}, Paired F a b → ∀ (i : Nat) (x : α), a[i]? = some x → ∃ y, b[i]? = some y ∧ F x y
  | _, _, .nil, i, x, h => by simp at h
  | _, _, .cons r t, 0, x, h => by
    have e := Option.some.inj h
    subst e
    exact ⟨_, rfl, r⟩
  | _, _, .cons r t, i + 1, x, h => paired_at t i x h
theorem paired_length {α β : Type} {F : α → β → Prop} : ∀ {a : List α} {b : List β}, Paired F a b → a.length = b.length
  | _, _, .nil => rfl
  | _, _, .cons _ t => by rw [List.length_cons, List.length_cons, paired_length t]
instance (few y : Int) : (d : Deed) → Decidable (d.InZ few y)
  | .make h z => inferInstanceAs (Decidable ((0 ≤ h ∧ h < few) ∧ (0 ≤ z ∧ z < y)))
  | .hold h o => inferInstanceAs (Decidable ((0 ≤ h ∧ h < few) ∧ (0 ≤ o ∧ o < few)))
  | .drop h => inferInstanceAs (Decidable (0 ≤ h ∧ h < few))
  | .put h s o => inferInstanceAs (Decidable ((0 ≤ h ∧ h < few) ∧ (0 ≤ s ∧ s < y) ∧ (0 ≤ o ∧ o < few)))
  | .empty h s => inferInstanceAs (Decidable ((0 ≤ h ∧ h < few) ∧ (0 ≤ s ∧ s < y)))
  | .take h o s => inferInstanceAs (Decidable ((0 ≤ h ∧ h < few) ∧ (0 ≤ o ∧ o < few) ∧ (0 ≤ s ∧ s < y)))
  | .tidy => inferInstanceAs (Decidable True)
def Deed.mk? : Deed → Bool
  | .make _ _ => true
  | _ => false
def makes (ds : List Deed) : Nat := (ds.filter Deed.mk?).length
theorem makes_app (a b : List Deed) : makes (a ++ b) = makes a + makes b := by unfold makes; rw [List.filter_append, List.length_append]
/-- the deeds that stand at these -/
abbrev Items (H : Hp) : List V → List Deed → Prop := Paired fun x d => ∃ t, x = .ref t ∧ H t = some (.tup d.vs)
theorem Items.grow {H H' : Hp} (s : Same H H') {xs : List V} {ds : List Deed} (h : Items H xs ds) : Items H' xs ds := paired_imp (fun _ _ ⟨t, e, q⟩ => ⟨t, e, s _ _ q⟩) h
theorem Items.snoc {H : Hp} {xs : List V} {ds : List Deed} (h : Items H xs ds) {t : Addr} (d : Deed) (ht : H t = none) : Items (upd H t (.tup d.vs)) (xs ++ [.ref t]) (ds ++ [d]) :=
  paired_app (h.grow (same_upd ht)) (.cons ⟨t, rfl, upd_same⟩ .nil)
theorem Items.off {H : Hp} {xs : List V} {ds : List Deed} (h : Items H xs ds) {l : Addr} {ys : List V} (hl : H l = some (.lst ys)) (o : HO) : Items (upd H l o) xs ds :=
  paired_imp (fun _ _ ⟨t, e, q⟩ => ⟨t, e, by rw [upd_ne (ne_of q hl (by intro z; cases z))]; exact q⟩) h
theorem same_off {H0 H : Hp} {l : Addr} (s : Same H0 H) (r : H0 l = none) (o : HO) : Same H0 (upd H l o) := fun b u e => by rw [upd_ne (ne_of_none e r)]; exact s b u e
/-- a list of deeds, new since H0: m of them make a box at most, n they are at most -/
def DS (y : Int) (H0 H : Hp) (l : Addr) (m n : Nat) : Prop := Same H0 H ∧ H0 l = none ∧ ∃ xs ds, H l = some (.lst xs) ∧ Items H xs ds ∧ (∀ d, d ∈ ds → d.InZ 8 y) ∧ makes ds ≤ m ∧ ds.length ≤ n
theorem DS.more {y : Int} {H0 H : Hp} {l : Addr} {m n m' n' : Nat} (h : DS y H0 H l m n) (hm : m ≤ m') (hn : n ≤ n') : DS y H0 H l m' n' := by
  obtain ⟨s, r, xs, ds, hl, it, al, mk, ln⟩ := h
  exact ⟨s, r, xs, ds, hl, it, al, Nat.le_trans mk hm, Nat.le_trans ln hn⟩
theorem DS.grow {y : Int} {H0 H H' : Hp} {l : Addr} {m n : Nat} (h : DS y H0 H l m n) (s : Same H H') : DS y H0 H' l m n := by
  obtain ⟨s0, r, xs, ds, hl, it, al, mk, ln⟩ := h
  exact ⟨s0.trans s, r, xs, ds, s _ _ hl, it.grow s, al, mk, ln⟩
theorem DS.new {y : Int} {H0 H : Hp} {l : Addr} {xs : List V} {ds : List Deed} (s : Same H0 H) (hl : H l = none) (it : Items H xs ds) (al : ∀ d, d ∈ ds → d.InZ 8 y) : DS y H0 (upd H l (.lst xs)) l (makes ds) ds.length :=
  ⟨s.trans (same_upd hl), s.free hl, xs, ds, upd_same, it.grow (same_upd hl), al, Nat.le_refl _, Nat.le_refl _⟩
theorem all_app {P : Deed → Prop} {a b : List Deed} (ha : ∀ d, d ∈ a → P d) (hb : ∀ d, d ∈ b → P d) : ∀ d, d ∈ a ++ b → P d := fun d h => (List.mem_append.mp h).elim (ha d) (hb d)
theorem DS.cat {y : Int} {H0 H : Hp} {l p : Addr} {m n : Nat} {xs ys : List V} {es : List Deed} (h : DS y H0 H l m n) (hl : H l = some (.lst xs)) (hy : Items H ys es) (ae : ∀ d, d ∈ es → d.InZ 8 y) (hp : H p = none) : DS y H0 (upd H p (.lst (xs ++ ys))) p (m + makes es) (n + es.length) := by
  obtain ⟨s, r, xs', ds, hl', it, al, mk, ln⟩ := h
  have e : xs' = xs := by rw [hl] at hl'; injection hl' with q; injection q with q; exact q.symm
  subst e
  refine (DS.new s hp (paired_app it hy) (all_app al ae)).more ?_ ?_
  · rw [makes_app]; omega
  · rw [List.length_append]; omega
theorem DS.push {y : Int} {H0 H : Hp} {l t : Addr} {m n : Nat} {xs : List V} (d : Deed) (h : DS y H0 H l m n) (hl : H l = some (.lst xs)) (ht : H t = some (.tup d.vs)) (ad : d.InZ 8 y) : DS y H0 (upd H l (.lst (xs ++ [.ref t]))) l (m + makes [d]) (n + 1) := by
  obtain ⟨s, r, xs', ds, hl', it, al, mk, ln⟩ := h
  have e : xs' = xs := by rw [hl] at hl'; injection hl' with q; injection q with q; exact q.symm
  subst e
  have nt : t ≠ l := ne_of ht hl (by intro z; cases z)
  refine ⟨same_off s r _, r, _, ds ++ [d], upd_same, paired_app (it.off hl _) (.cons ⟨t, rfl, by rw [upd_ne nt]; exact ht⟩ .nil), all_app al (fun e he => by rw [List.mem_singleton.mp he]; exact ad), ?_, ?_⟩
  · rw [makes_app]; omega
  · rw [List.length_append, List.length_singleton]; omega
theorem DS.list {y : Int} {H0 H : Hp} {l : Addr} {m n : Nat} (h : DS y H0 H l m n) : ∃ xs, H l = some (.lst xs) ∧ xs.length ≤ n := by
  obtain ⟨s, r, xs, ds, hl, it, al, mk, ln⟩ := h
  exact ⟨xs, hl, by rw [paired_length it]; exact ln⟩
theorem DS.from {y : Int} {H0 H1 H : Hp} {l : Addr} {m n : Nat} (h : DS y H1 H l m n) (s : Same H0 H1) : DS y H0 H l m n := by
  obtain ⟨s0, r, x⟩ := h
  exact ⟨s.trans s0, s.free r, x⟩
theorem rgC2 : ∀ k : Nat, k < 62 → Builtin.Range.small 1 ((k : Int) - 1) 2 = true ∧ Builtin.Range.rangeSize 1 ((k : Int) - 1) 2 = (((k - 1) / 2 : Nat) : Int) := by decide +kernel
/-- min(n, c) as a number of turns -/
theorem min_c (n c : Nat) : ∃ kk : Nat, (kk : Int) = (if (c : Int) < (n : Int) then (c : Int) else (n : Int)) ∧ kk ≤ c ∧ kk ≤ n := by
  by_cases h : (c : Int) < (n : Int)
  · exact ⟨c, by rw [if_pos h], Nat.le_refl _, by omega⟩
  · exact ⟨n, by rw [if_neg h], by omega, Nat.le_refl _⟩
/-- what is new in the heap is known, and all tuples -/
def newT (R H H' : Hp) : Hp := fun b => match H' b with
  | some (.tup xs) => some (.tup xs)
  | _ => newK R H H' b
theorem newT_tup {R H H' : Hp} {b : Addr} {xs : List V} (h : H' b = some (.tup xs)) : newT R H H' b = some (.tup xs) := by unfold newT; rw [h]
theorem newT_oth {R H H' : Hp} {b : Addr} (h : ∀ xs, H' b ≠ some (.tup xs)) : newT R H H' b = newK R H H' b := by
  unfold newT
  split
  · rename_i xs q
    exact absurd q (h xs)
  · rfl
theorem same_newT {R H H' : Hp} (s : Same R H) (s' : Same H H') : Same R (newT R H H') := fun b o e => by
  have h := s' b o (s b o e)
  by_cases q : ∃ xs, o = .tup xs
  · obtain ⟨xs, rfl⟩ := q
    exact newT_tup h
  · rw [newT_oth (fun xs z => q ⟨xs, by rw [h] at z; exact Option.some.inj z⟩)]
    exact same_newK s b o e
theorem PileAt.freshT {C B p : Addr} {g : Geo} {P : Pl} {R H H' : Hp} (A : PileAt C B p g P R H) (s : Same H H') : PileAt C B p g P (newT R H H') H' := by
  have A1 := A.fresh s
  have no : ∀ {b : Addr} {o : HO}, H' b = some o → (∀ xs, o ≠ .tup xs) → ∀ xs, H' b ≠ some (.tup xs) := fun h n xs z => n xs (by rw [h] at z; exact Option.some.inj z)
  refine ⟨fun b o e => ?_, (newT_oth (no A1.hp (fun _ z => by cases z))).trans A1.rp, (newT_oth (no A1.hh (fun _ z => by cases z))).trans A1.rh, (newT_oth (no A1.hd (fun _ z => by cases z))).trans A1.rd,
    fun n b e => (newT_oth (no (A1.hb n b e) (fun _ z => by cases z))).trans (A1.rb n b e), fun n b e => (newT_oth (no (A1.hs n b e) (fun _ z => by cases z))).trans (A1.rs n b e), A1.hp, A1.hh, A1.hd, A1.hb, A1.hs, A1.ib, A1.is, A1.hn⟩
  by_cases q : ∃ xs, H' b = some (.tup xs)
  · obtain ⟨xs, h⟩ := q
    rw [newT_tup h] at e
    rw [h]
    exact e
  · rw [newT_oth (fun xs z => q ⟨xs, z⟩)] at e
    exact A1.same b o e
theorem nil_in {y : Int} : ∀ d, d ∈ ([] : List Deed) → d.InZ 8 y := fun d h => (by cases h)
theorem cons_in {y : Int} {d : Deed} {ds : List Deed} (h : d.InZ 8 y) (hs : ∀ d, d ∈ ds → d.InZ 8 y) : ∀ e, e ∈ d :: ds → e.InZ 8 y := fun e he => (List.mem_cons.mp he).elim (fun z => z ▸ h) (hs e)
end BP

/-! A law's own hands and rooms: its steps, its lists in the heap. Own work. -/
namespace BP
open PySem L2
/-- what is known has changed, the pile's own has not -/
theorem PileAt.re {C B p : Addr} {g : Geo} {P : Pl} {R R' H H' : Hp} (A : PileAt C B p g P R H) (h1 : ∀ b, R b = none → H b ≠ none → R' b = none) (h2 : Same R' H') (h3 : ∀ b o, H b = some o → R b = none → H' b = some o) : PileAt C B p g P R' H' :=
  ⟨h2, h1 _ A.rp (by rw [A.hp]; intro z; cases z), h1 _ A.rh (by rw [A.hh]; intro z; cases z), h1 _ A.rd (by rw [A.hd]; intro z; cases z), fun n b e => h1 _ (A.rb n b e) (by rw [A.hb n b e]; intro z; cases z), fun n b e => h1 _ (A.rs n b e) (by rw [A.hs n b e]; intro z; cases z),
    h3 _ _ A.hp A.rp, h3 _ _ A.hh A.rh, h3 _ _ A.hd A.rd, fun n b e => h3 _ _ (A.hb n b e) (A.rb n b e), fun n b e => h3 _ _ (A.hs n b e) (A.rs n b e), A.ib, A.is, A.hn⟩
def wrong (hs : List (Option Int)) (rs : List (List (Option Int))) (h s : Int) : Str := match hs.getD h.toNat none with
  | none => "box"
  | some n => if s < ((rs.getD n.toNat []).length : Int) then Str.empty else "slot"
/-- the slot s of what the hand h holds, by the own rooms -/
def ownAt (hs : List (Option Int)) (rs : List (List (Option Int))) (h : Int) : Nat := match hs.getD h.toNat none with
  | none => 0
  | some n => n.toNat
def ownStep (hs : List (Option Int)) (rs : List (List (Option Int))) : Deed → List (Option Int) × List (List (Option Int)) × Str
  | .make h z => (hs.set h.toNat (some (rs.length : Int)), rs ++ [List.replicate z.toNat none], Str.empty)
  | .hold h o => (hs.set h.toNat (hs.getD o.toNat none), rs, Str.empty)
  | .drop h => (hs.set h.toNat none, rs, Str.empty)
  | .put h s o => if wrong hs rs h s = Str.empty then (hs, rs.set (ownAt hs rs h) ((rs.getD (ownAt hs rs h) []).set s.toNat (hs.getD o.toNat none)), Str.empty) else (hs, rs, wrong hs rs h s)
  | .empty h s => if wrong hs rs h s = Str.empty then (hs, rs.set (ownAt hs rs h) ((rs.getD (ownAt hs rs h) []).set s.toNat none), Str.empty) else (hs, rs, wrong hs rs h s)
  | .take h o s => if wrong hs rs o s = Str.empty then (hs.set h.toNat ((rs.getD (ownAt hs rs o) []).getD s.toNat none), rs, Str.empty) else (hs, rs, wrong hs rs o s)
  | .tidy => (hs, rs, Str.empty)
theorem s_box : ¬ (("box" : Str) = Str.empty) := by decide +kernel
theorem s_slot : ¬ (("slot" : Str) = Str.empty) := by decide +kernel
def wordOf : Bad → Str
  | .box => "box"
  | .slot => "slot"
  | _ => Str.empty
theorem rs_get {P : Pl} {hs : List (Option Int)} {rs : List (List (Option Int))} (o : Own P hs rs) {n : Int} {b : Bx} (hb : get P.boxes n = some b) : rs.getD n.toNat [] = b.slots := by
  rw [List.getD_eq_getElem?_getD, o.s n b hb]
  rfl
/-- what is wrong is told alike -/
theorem wrong_at {P : Pl} {hs : List (Option Int)} {rs : List (List (Option Int))} (W : Wf P []) (o : Own P hs rs) (h : Int) {s : Int} (s0 : 0 ≤ s) (k : Int → Bx → Res) :
    (∃ n b, P.hands.getD h.toNat none = some n ∧ get P.boxes n = some b ∧ s < (b.slots.length : Int) ∧ wrong hs rs h s = Str.empty ∧ ownAt hs rs h = n.toNat ∧ rs.getD (ownAt hs rs h) [] = b.slots ∧ atSlot P h s k = k n b) ∨
    (wrong hs rs h s = "box" ∧ atSlot P h s k = .bad .box) ∨ (wrong hs rs h s = "slot" ∧ atSlot P h s k = .bad .slot) := by
  cases e : P.hands.getD h.toNat none with
  | none =>
    refine .inr (.inl ⟨?_, ?_⟩)
    · unfold wrong; rw [← o.h, e]
    · unfold atSlot; rw [e]
  | some n =>
    obtain ⟨b, hb⟩ := W.hand e
    have ea : ownAt hs rs h = n.toNat := by unfold ownAt; rw [← o.h, e]
    have eg := rs_get o hb
    by_cases c : s < (b.slots.length : Int)
    · refine .inl ⟨n, b, rfl, hb, c, ?_, ea, by rw [ea]; exact eg, ?_⟩
      · unfold wrong; rw [← o.h, e]; dsimp only; rw [eg, if_pos c]
      · unfold atSlot; rw [e]; dsimp only; rw [hb]; exact if_pos ⟨s0, c⟩
    · refine .inr (.inr ⟨?_, ?_⟩)
      · unfold wrong; rw [← o.h, e]; dsimp only; rw [eg, if_neg c]
      · unfold atSlot; rw [e]; dsimp only; rw [hb]; exact if_neg (fun z => c z.2)
/-- a deed, by the pile and by the own hands and rooms -/
theorem own_act {P : Pl} {hs : List (Option Int)} {rs : List (List (Option Int))} (G : Good P) (o : Own P hs rs) {d : Deed} (hd : d.InZ 8 7) (hm : P.made < 60) :
    (∃ P' f, act P d = .fine P' f ∧ Own P' (ownStep hs rs d).1 (ownStep hs rs d).2.1 ∧ (ownStep hs rs d).2.2 = Str.empty ∧ P'.made ≤ P.made + (makes [d] : Int)) ∨
    (∃ e, act P d = .bad e ∧ (e = .box ∨ e = .slot) ∧ (ownStep hs rs d).1 = hs ∧ (ownStep hs rs d).2.1 = rs ∧ (ownStep hs rs d).2.2 = wordOf e) := by
  have few := G.few
  have W := G.wf
  cases d with
  | make h z =>
    obtain ⟨h1, h2⟩ := hd
    refine .inl ⟨_, _, (if_neg (not_not_intro h1)).trans ((if_neg (not_not_intro (show 0 ≤ z ∧ z ≤ 6 by omega))).trans (if_neg (by omega))), o.make W h.toNat z.toNat, rfl, ?_⟩
    show P.made + 1 ≤ P.made + 1
    omega
  | hold h p =>
    obtain ⟨h1, h2⟩ := hd
    refine .inl ⟨_, _, (if_neg (not_not_intro h1)).trans (if_neg (not_not_intro h2)), ?_, rfl, ?_⟩
    · show Own _ (hs.set h.toNat (hs.getD p.toNat none)) rs
      rw [← o.h]
      exact (show Own (ptHand P h.toNat (P.hands.getD p.toNat none)).1 (P.hands.set h.toNat (P.hands.getD p.toNat none)) rs from by have := o.hand h.toNat (P.hands.getD p.toNat none); rw [← o.h] at this; exact this)
    · show P.made ≤ P.made + 0
      omega
  | drop h =>
    refine .inl ⟨_, _, if_neg (not_not_intro hd), o.hand h.toNat none, rfl, ?_⟩
    show P.made ≤ P.made + 0
    omega
  | put h s p =>
    obtain ⟨h1, ⟨s0, _⟩, h2⟩ := hd
    have ha : act P (.put h s p) = atSlot P h s fun n _ => .fine (ptSlot P n s.toNat (P.hands.getD p.toNat none)).1 (ptSlot P n s.toNat (P.hands.getD p.toNat none)).2 := (if_neg (not_not_intro h1)).trans (if_neg (not_not_intro h2))
    rcases wrong_at W o h s0 (fun n _ => .fine (ptSlot P n s.toNat (P.hands.getD p.toNat none)).1 (ptSlot P n s.toNat (P.hands.getD p.toNat none)).2) with ⟨n, b, e1, e2, e3, e4, e5, e6, e7⟩ | ⟨e1, e2⟩ | ⟨e1, e2⟩
    · refine .inl ⟨_, _, ha.trans e7, ?_, ?_, ?_⟩
      · unfold ownStep; dsimp only
        rw [if_pos e4]
        dsimp only
        rw [e6, e5, ← o.h]
        have := o.slot W e2 s.toNat (P.hands.getD p.toNat none)
        rw [← o.h] at this
        exact this
      · unfold ownStep; dsimp only; rw [if_pos e4]
      · show P.made ≤ P.made + 0
        omega
    · refine .inr ⟨.box, ha.trans e2, .inl rfl, ?_⟩
      unfold ownStep; dsimp only; rw [if_neg (by rw [e1]; exact s_box)]; exact ⟨rfl, rfl, e1⟩
    · refine .inr ⟨.slot, ha.trans e2, .inr rfl, ?_⟩
      unfold ownStep; dsimp only; rw [if_neg (by rw [e1]; exact s_slot)]; exact ⟨rfl, rfl, e1⟩
  | empty h s =>
    obtain ⟨h1, ⟨s0, _⟩⟩ := hd
    have ha : act P (.empty h s) = atSlot P h s fun n _ => .fine (ptSlot P n s.toNat none).1 (ptSlot P n s.toNat none).2 := if_neg (not_not_intro h1)
    rcases wrong_at W o h s0 (fun n _ => .fine (ptSlot P n s.toNat none).1 (ptSlot P n s.toNat none).2) with ⟨n, b, e1, e2, e3, e4, e5, e6, e7⟩ | ⟨e1, e2⟩ | ⟨e1, e2⟩
    · refine .inl ⟨_, _, ha.trans e7, ?_, ?_, ?_⟩
      · unfold ownStep; dsimp only
        rw [if_pos e4]
        dsimp only
        rw [e6, e5]
        exact o.slot W e2 s.toNat none
      · unfold ownStep; dsimp only; rw [if_pos e4]
      · show P.made ≤ P.made + 0
        omega
    · refine .inr ⟨.box, ha.trans e2, .inl rfl, ?_⟩
      unfold ownStep; dsimp only; rw [if_neg (by rw [e1]; exact s_box)]; exact ⟨rfl, rfl, e1⟩
    · refine .inr ⟨.slot, ha.trans e2, .inr rfl, ?_⟩
      unfold ownStep; dsimp only; rw [if_neg (by rw [e1]; exact s_slot)]; exact ⟨rfl, rfl, e1⟩
  | take h p s =>
    obtain ⟨h1, h2, ⟨s0, _⟩⟩ := hd
    have ha : act P (.take h p s) = atSlot P p s fun _ b => .fine (ptHand P h.toNat (b.slots.getD s.toNat none)).1 (ptHand P h.toNat (b.slots.getD s.toNat none)).2 := (if_neg (not_not_intro h1)).trans (if_neg (not_not_intro h2))
    rcases wrong_at W o p s0 (fun _ b => .fine (ptHand P h.toNat (b.slots.getD s.toNat none)).1 (ptHand P h.toNat (b.slots.getD s.toNat none)).2) with ⟨n, b, e1, e2, e3, e4, e5, e6, e7⟩ | ⟨e1, e2⟩ | ⟨e1, e2⟩
    · refine .inl ⟨_, _, ha.trans e7, ?_, ?_, ?_⟩
      · unfold ownStep; dsimp only
        rw [if_pos e4]
        dsimp only
        rw [e6]
        exact o.hand h.toNat (b.slots.getD s.toNat none)
      · unfold ownStep; dsimp only; rw [if_pos e4]
      · show P.made ≤ P.made + 0
        omega
    · refine .inr ⟨.box, ha.trans e2, .inl rfl, ?_⟩
      unfold ownStep; dsimp only; rw [if_neg (by rw [e1]; exact s_box)]; exact ⟨rfl, rfl, e1⟩
    · refine .inr ⟨.slot, ha.trans e2, .inr rfl, ?_⟩
      unfold ownStep; dsimp only; rw [if_neg (by rw [e1]; exact s_slot)]; exact ⟨rfl, rfl, e1⟩
  | tidy =>
    refine .inl ⟨_, _, rfl, o.tidied _, rfl, ?_⟩
    show P.made ≤ P.made + 0
    omega
/-! ### their lists in the heap -/
structure RoomsIn (H : Hp) (lh lr : Addr) (hs : List (Option Int)) (rs : List (List (Option Int))) (ra : List Addr) : Prop where
  h : H lh = some (.lst (lV hs))
  r : H lr = some (.lst (ra.map V.ref))
  p : Paired (fun a row => H a = some (.lst (lV row))) ra rs
  nd : ra.Nodup
  nh : lh ∉ ra
  nr : lr ∉ ra
  hr : lh ≠ lr
theorem paired_imp' {α β : Type} {F G : α → β → Prop} : ∀ {a : List α} {b : List β}, (∀ x y, x ∈ a → F x y → G x y) → Paired F a b → Paired G a b
  | _, _, _, .nil => .nil
  | _, _, h, .cons r t => .cons (h _ _ List.mem_cons_self r) (paired_imp' (fun x y hx => h x y (List.mem_cons_of_mem _ hx)) t)
theorem RoomsIn.same {H H' : Hp} {lh lr : Addr} {hs : List (Option Int)} {rs : List (List (Option Int))} {ra : List Addr} (x : RoomsIn H lh lr hs rs ra) (s : Same H H') : RoomsIn H' lh lr hs rs ra :=
  ⟨s _ _ x.h, s _ _ x.r, paired_imp (fun _ _ q => s _ _ q) x.p, x.nd, x.nh, x.nr, x.hr⟩
theorem RoomsIn.len {H : Hp} {lh lr : Addr} {hs : List (Option Int)} {rs : List (List (Option Int))} {ra : List Addr} (x : RoomsIn H lh lr hs rs ra) : ra.length = rs.length := paired_length x.p
theorem RoomsIn.hand {H : Hp} {lh lr : Addr} {hs : List (Option Int)} {rs : List (List (Option Int))} {ra : List Addr} (x : RoomsIn H lh lr hs rs ra) (hs' : List (Option Int)) : RoomsIn (upd H lh (.lst (lV hs'))) lh lr hs' rs ra :=
  ⟨upd_same, by rw [upd_ne x.hr.symm]; exact x.r, paired_imp' (fun a row ha q => by rw [upd_ne (fun e => x.nh (by rw [← e]; exact ha))]; exact q) x.p, x.nd, x.nh, x.nr, x.hr⟩
theorem paired_set {α β : Type} {F : α → β → Prop} : ∀ {a : List α} {b : List β} {i : Nat} {x : α} {y : β}, Paired F a b → a[i]? = some x → F x y → Paired F a (b.set i y)
  | _, _, i, x, y, .nil, h, _ => by simp at h
  | _, _, 0, x, y, .cons r t, h, f => by
    have e := Option.some.inj h
    subst e
    exact .cons f t
  | _, _, i + 1, x, y, .cons r t, h, f => .cons r (paired_set t h f)
theorem nodup_at {α : Type} {l : List α} (hn : l.Nodup) {i j : Nat} {x : α} (hi : l[i]? = some x) (hj : l[j]? = some x) : i = j := by
  have h1 := (List.getElem?_eq_some_iff.mp hi)
  have h2 := (List.getElem?_eq_some_iff.mp hj)
  obtain ⟨a, ea⟩ := h1
  obtain ⟨b, eb⟩ := h2
  exact (List.getElem_inj hn).mp (ea.trans eb.symm)
theorem RoomsIn.slot {H : Hp} {lh lr : Addr} {hs : List (Option Int)} {rs : List (List (Option Int))} {ra : List Addr} (x : RoomsIn H lh lr hs rs ra) {i : Nat} {a : Addr} (ha : ra[i]? = some a) (row : List (Option Int)) : RoomsIn (upd H a (.lst (lV row))) lh lr hs (rs.set i row) ra := by
  have hm := List.mem_of_getElem? ha
  refine ⟨by rw [upd_ne (fun e => x.nh (by rw [e]; exact hm))]; exact x.h, by rw [upd_ne (fun e => x.nr (by rw [e]; exact hm))]; exact x.r, ?_, x.nd, x.nh, x.nr, x.hr⟩
  have key : ∀ {ra : List Addr} {rs : List (List (Option Int))} {i : Nat}, ra.Nodup → Paired (fun a row => H a = some (.lst (lV row))) ra rs → ra[i]? = some a → Paired (fun b r => upd H a (.lst (lV row)) b = some (.lst (lV r))) ra (rs.set i row) := fun {ra rs i} hn p => by
    induction p generalizing i with
    | nil => intro h; simp at h
    | @cons b r ra rs q t ih =>
      intro h
      have hn' := List.nodup_cons.mp hn
      cases i with
      | zero =>
        have e := Option.some.inj h
        subst e
        exact .cons upd_same (paired_imp' (fun c r hc q => by rw [upd_ne (fun e => hn'.1 (by rw [← e]; exact hc))]; exact q) t)
      | succ i =>
        have h' : ra[i]? = some a := h
        refine .cons ?_ (ih hn'.2 h')
        rw [upd_ne (fun e => hn'.1 (by rw [e]; exact List.mem_of_getElem? h'))]
        exact q
  exact key x.nd x.p ha
theorem RoomsIn.add {H : Hp} {lh lr : Addr} {hs : List (Option Int)} {rs : List (List (Option Int))} {ra : List Addr} (x : RoomsIn H lh lr hs rs ra) {a : Addr} (hna : a ∉ ra) (hnh : lh ≠ a) (hnr : lr ≠ a) {row : List (Option Int)} (ha : H a = some (.lst (lV row))) : RoomsIn (upd H lr (.lst (ra.map V.ref ++ [V.ref a]))) lh lr hs (rs ++ [row]) (ra ++ [a]) := by
  refine ⟨by rw [upd_ne x.hr]; exact x.h, by rw [upd_same, List.map_append]; rfl, ?_, ?_, ?_, ?_, x.hr⟩
  · exact paired_app (paired_imp' (fun b r hb q => by rw [upd_ne (fun e => x.nr (by rw [← e]; exact hb))]; exact q) x.p) (.cons (by rw [upd_ne hnr.symm]; exact ha) .nil)
  · rw [List.nodup_append]
    exact ⟨x.nd, by simp, fun b hb c hc => by rw [List.mem_singleton.mp hc]; exact fun e => hna (by rw [← e]; exact hb)⟩
  · intro h
    rcases List.mem_append.mp h with h | h
    · exact x.nh h
    · exact hnh (List.mem_singleton.mp h)
  · intro h
    rcases List.mem_append.mp h with h | h
    · exact x.nr h
    · exact hnr (List.mem_singleton.mp h)
/-- what points points at a room -/
structure OwnOk (hs : List (Option Int)) (rs : List (List (Option Int))) : Prop where
  l8 : hs.length = 8
  h : ∀ n, some n ∈ hs → 0 ≤ n ∧ n < (rs.length : Int)
  s : ∀ row, row ∈ rs → row.length ≤ 6 ∧ ∀ n, some n ∈ row → 0 ≤ n ∧ n < (rs.length : Int)
theorem mem_set_imp {l : List (Option Int)} {i : Nat} {x : Option Int} {n : Int} (h : some n ∈ l.set i x) : some n ∈ l ∨ x = some n := by
  rcases List.mem_or_eq_of_mem_set h with h | h
  · exact .inl h
  · exact .inr h.symm
theorem getD_mem {l : List (Option Int)} {i : Nat} {n : Int} (h : l.getD i none = some n) : some n ∈ l := by
  rw [List.getD_eq_getElem?_getD] at h
  cases q : l[i]? with
  | none => rw [q] at h; cases h
  | some y =>
    rw [q] at h
    have : y = some n := h
    rw [← this]
    exact List.mem_of_getElem? q
theorem OwnOk.setHand {hs : List (Option Int)} {rs : List (List (Option Int))} (o : OwnOk hs rs) (i : Nat) {x : Option Int} (hx : ∀ n, x = some n → 0 ≤ n ∧ n < (rs.length : Int)) : OwnOk (hs.set i x) rs :=
  ⟨by rw [List.length_set]; exact o.l8, fun n h => (mem_set_imp h).elim (o.h n) (hx n), o.s⟩
theorem OwnOk.setSlot {hs : List (Option Int)} {rs : List (List (Option Int))} (o : OwnOk hs rs) (k i : Nat) {x : Option Int} (hx : ∀ n, x = some n → 0 ≤ n ∧ n < (rs.length : Int)) : OwnOk hs (rs.set k ((rs.getD k []).set i x)) := by
  refine ⟨o.l8, fun n h => by rw [List.length_set]; exact o.h n h, fun row hr => ?_⟩
  rw [List.length_set]
  rcases List.mem_or_eq_of_mem_set hr with hr | hr
  · exact o.s row hr
  · subst hr
    rw [List.length_set]
    by_cases c : k < rs.length
    · have hm : rs.getD k [] ∈ rs := by
        rw [List.getD_eq_getElem?_getD, List.getElem?_eq_getElem c]
        exact List.getElem_mem c
      exact ⟨(o.s _ hm).1, fun n h => (mem_set_imp h).elim ((o.s _ hm).2 n) (hx n)⟩
    · have e : rs.getD k [] = [] := by rw [List.getD_eq_getElem?_getD, List.getElem?_eq_none (by omega)]; rfl
      rw [e]
      exact ⟨Nat.zero_le _, fun n h => by cases h⟩
theorem OwnOk.step {hs : List (Option Int)} {rs : List (List (Option Int))} (o : OwnOk hs rs) {d : Deed} (hd : d.InZ 8 7) : OwnOk (ownStep hs rs d).1 (ownStep hs rs d).2.1 := by
  have hand : ∀ i n, hs.getD i none = some n → 0 ≤ n ∧ n < (rs.length : Int) := fun i n h => o.h n (getD_mem h)
  cases d with
  | make h z =>
    obtain ⟨h1, h2⟩ := hd
    unfold ownStep
    dsimp only
    refine ⟨by rw [List.length_set]; exact o.l8, fun n h => ?_, fun row hr => ?_⟩
    · rw [List.length_append, List.length_singleton]
      rcases mem_set_imp h with h | h
      · have := o.h n h; omega
      · have := Option.some.inj h; omega
    · rw [List.length_append, List.length_singleton]
      rcases List.mem_append.mp hr with hr | hr
      · exact ⟨(o.s row hr).1, fun n h => by have := (o.s row hr).2 n h; omega⟩
      · rw [List.mem_singleton.mp hr]
        refine ⟨by rw [List.length_replicate]; omega, fun n h => ?_⟩
        have := List.eq_of_mem_replicate h
        cases this
  | hold h p => exact o.setHand _ fun n e => hand _ n e
  | drop h => exact o.setHand _ fun n e => by cases e
  | put h s p =>
    unfold ownStep
    dsimp only
    by_cases c : wrong hs rs h s = Str.empty
    · rw [if_pos c]
      exact o.setSlot _ _ fun n e => hand _ n e
    · rw [if_neg c]; exact o
  | empty h s =>
    unfold ownStep
    dsimp only
    by_cases c : wrong hs rs h s = Str.empty
    · rw [if_pos c]
      exact o.setSlot _ _ fun n e => by cases e
    · rw [if_neg c]; exact o
  | take h p s =>
    unfold ownStep
    dsimp only
    by_cases c : wrong hs rs p s = Str.empty
    · rw [if_pos c]
      refine o.setHand _ fun n e => ?_
      by_cases c2 : ownAt hs rs p < rs.length
      · have hm : rs.getD (ownAt hs rs p) [] ∈ rs := by
          rw [List.getD_eq_getElem?_getD, List.getElem?_eq_getElem c2]
          exact List.getElem_mem c2
        exact (o.s _ hm).2 n (getD_mem e)
      · have e2 : rs.getD (ownAt hs rs p) [] = [] := by rw [List.getD_eq_getElem?_getD, List.getElem?_eq_none (by omega)]; rfl
        rw [e2] at e
        cases e
    · rw [if_neg c]; exact o
  | tidy => exact o
theorem ownOk0 : OwnOk (List.replicate 8 none) [] := ⟨rfl, fun n h => (by have := List.eq_of_mem_replicate h; cases this), fun row h => (by cases h)⟩
theorem row_len {k : Nat} {row : List Int} (hn : row.Nodup) (h : ∀ n, n ∈ row → 0 ≤ n ∧ n < (k : Int)) : row.length ≤ k := by
  have := nodup_le (a := row) (b := (List.range k).map fun i => ((i : Nat) : Int)) hn fun n hm => by
    obtain ⟨a, b⟩ := h n hm
    rw [List.mem_map]
    exact ⟨n.toNat, List.mem_range.mpr (by omega), by omega⟩
  rw [List.length_map, List.length_range] at this
  exact this
theorem RPath.snoc {rs : List (List (Option Int))} {a b c : Int} {row : List (Option Int)} (p : RPath rs a b) (hr : rs[b.toNat]? = some row) (hc : some c ∈ row) : RPath rs a c := by
  induction p with
  | refl n => exact .step hr hc (.refl c)
  | step h1 h2 _ ih => exact .step h1 h2 (ih hr)
end BP

/-! Lines played on a pile: what each answers; a pile beside a def's table. Own work. -/
namespace BP
open PySem L2
/-! ### a pile beside the table -/
def pastK (R H H' : Hp) : Hp := fun b => match H b with
  | none => H' b
  | some _ => match R b with
    | none => none
    | some _ => H' b
section
variable {C B p : Addr} {g : Geo} {P : Pl} {R H H' : Hp} {Pt : Addr}
theorem pastK_new {b : Addr} (h : H b = none) : pastK R H H' b = H' b := by unfold pastK; rw [h]
theorem pastK_old {b : Addr} {o u : HO} (h : H b = some o) (r : R b = some u) : pastK R H H' b = H' b := by unfold pastK; rw [h]; dsimp only; rw [r]
theorem pastK_own {b : Addr} {o : HO} (h : H b = some o) (r : R b = none) : pastK R H H' b = none := by unfold pastK; rw [h]; dsimp only; rw [r]
theorem TabG.of_same (T : GxR.TabG R Pt) (s : Same R H) : GxR.TabG H Pt := by
  obtain ⟨ps, e, t⟩ := T
  exact ⟨ps, s _ _ e, t⟩
theorem PileAt.past (A : PileAt C B p g P R H) (T : GxR.TabG R Pt) (q : Past Pt H H') : PileAt C B p g P (pastK R H H') H' ∧ Past Pt R (pastK R H H') := by
  have rP : ∃ o, R Pt = some o := by obtain ⟨ps, e, _⟩ := T; exact ⟨_, e⟩
  obtain ⟨oP, rP⟩ := rP
  refine ⟨A.re (fun b hb hn => ?_) (fun b o e => ?_) (fun b o e r => q.2 b o (fun z => ?_) e), ⟨?_, fun b o n e => ?_⟩⟩
  · cases e : H b with
    | none => exact absurd e hn
    | some o => exact pastK_own e hb
  · cases e2 : H b with
    | none => rw [pastK_new e2] at e; exact e
    | some u =>
      cases e3 : R b with
      | none => rw [pastK_own e2 e3] at e; cases e
      | some v => rw [pastK_old e2 e3] at e; exact e
  · rw [z, rP] at r; cases r
  · obtain ⟨ps, e, t⟩ := q.1
    exact ⟨ps, by rw [pastK_old (A.same _ _ rP) rP]; exact e, t⟩
  · rw [pastK_old (A.same _ _ e) e]
    exact q.2 b o n (A.same _ _ e)
theorem Past.same {H H' : Hp} (T : GxR.TabG H Pt) (S : Same H H') : Past Pt H H' := ⟨TabG.of_same T S, fun b o _ h => S b o h⟩
theorem Past.seq {K : PySem.W.Frag} {H H' : Hp} {a : Addr} {xs : List V} (p : Past Pt H H') (T : GxR.TabG H Pt) (h : SqL K H a xs) : SqL K H' a xs := by
  obtain ⟨ps, e, t⟩ := T
  refine h.elim (fun h => .inl (h.elim (fun h => .inl (p.2 _ _ (fun z => ?_) h)) fun ⟨o, h⟩ => .inr ⟨o, p.2 _ _ (fun z => ?_) h⟩)) fun h => .inr h
  · rw [z, e] at h; cases h
  · rw [z, e] at h; cases h
theorem tab_nl {a : Addr} {xs : List V} (T : GxR.TabG H Pt) (h : H a = some (.lst xs)) : a ≠ Pt := fun z => by
  obtain ⟨ps, e, _⟩ := T
  rw [z, e] at h; cases h
theorem tab_nt {a : Addr} {xs : List V} (T : GxR.TabG H Pt) (h : H a = some (.tup xs)) : a ≠ Pt := fun z => by
  obtain ⟨ps, e, _⟩ := T
  rw [z, e] at h; cases h
end
theorem samePut {H H' : Hp} (s : Same H H') {a : Addr} (h : H' a = none) (o : HO) : Same H (upd H' a o) := s.trans (same_upd h)
theorem sameOff {H H' : Hp} (s : Same H H') {a : Addr} (h : H a = none) (o : HO) : Same H (upd H' a o) := fun b u e => by
  rw [upd_ne (ne_of_none e h)]
  exact s b u e
/-! ### what a deed frees -/
theorem go_freed : ∀ (m : Nat) (bs : List (Int × Bx)) (w : List (Option Int)), (go m bs w).2.length ≤ bs.length ∧ ∀ n ∈ (go m bs w).2, n ∈ keys bs
  | 0, bs, w => ⟨Nat.zero_le _, fun n h => by cases h⟩
  | m + 1, bs, [] => ⟨Nat.zero_le _, fun n h => by cases h⟩
  | m + 1, bs, x :: w => by
    obtain ⟨h1, h2⟩ := go_freed m (fall bs w x).1 (fall bs w x).2.1
    show ((fall bs w x).2.2 ++ (go m (fall bs w x).1 (fall bs w x).2.1).2).length ≤ bs.length ∧ ∀ n ∈ (fall bs w x).2.2 ++ (go m (fall bs w x).1 (fall bs w x).2.1).2, n ∈ keys bs
    cases x with
    | none => exact ⟨h1, h2⟩
    | some n =>
      cases e : get bs n with
      | none =>
        rw [fall_gone w e] at h1 h2 ⊢
        exact ⟨h1, h2⟩
      | some b =>
        by_cases c : b.wt = 1
        · rw [fall_free w e c] at h1 h2 ⊢
          have hk : n ∈ keys bs := get_keys.mp ⟨b, e⟩
          refine ⟨?_, fun k hk' => ?_⟩
          · have : (rm bs n).length < bs.length := by
              have e1 : (rm bs n).length = (keys (rm bs n)).length := (List.length_map _).symm
              have e2 : bs.length = (keys bs).length := (List.length_map _).symm
              rw [e1, e2, keys_rm]
              exact List.length_filter_lt_length_iff_exists.mpr ⟨n, hk, by simp⟩
            have : (go m (rm bs n) (w ++ b.slots)).2.length ≤ (rm bs n).length := h1
            rw [List.length_append, List.length_singleton]
            show 1 + (go m (rm bs n) (w ++ b.slots)).2.length ≤ _
            omega
          · rcases List.mem_append.mp hk' with q | q
            · rw [List.mem_singleton.mp q]; exact hk
            · have := h2 k q
              rw [keys_rm] at this
              exact (List.mem_filter.mp this).1
        · rw [fall_low w e c] at h1 h2 ⊢
          have e1 : (chg bs n low).length = bs.length := by
            have e1 : (chg bs n low).length = (keys (chg bs n low)).length := (List.length_map _).symm
            have e2 : bs.length = (keys bs).length := (List.length_map _).symm
            rw [e1, e2, keys_chg]
          rw [e1] at h1
          rw [keys_chg] at h2
          exact ⟨h1, h2⟩
theorem run_freed (bs : List (Int × Bx)) (w : List (Option Int)) : (run bs w).2.length ≤ bs.length ∧ ∀ n ∈ (run bs w).2, n ∈ keys bs := go_freed _ _ _
theorem len_keys (bs : List (Int × Bx)) : (keys bs).length = bs.length := List.length_map _
/-- what is freed is alive, or was just made; no more than sixty-one -/
theorem act_freed {P P' : Pl} {d : Deed} {f : List Int} (G : Good P) (e : act P d = .fine P' f) : f.length ≤ 61 ∧ (∀ n ∈ f, 0 ≤ n ∧ n ≤ P.made) ∧ P.made ≤ P'.made ∧ P'.made ≤ P.made + 1 := by
  have few := G.wf.few
  have lo := G.wf.lo
  have pt : ∀ (Q : Pl) (k : Pl × List Int), k.2.length ≤ P.boxes.length → (∀ n ∈ k.2, n ∈ keys P.boxes) → k.1.made = P.made → Res.fine k.1 k.2 = .fine P' f → f.length ≤ 61 ∧ (∀ n ∈ f, 0 ≤ n ∧ n ≤ P.made) ∧ P.made ≤ P'.made ∧ P'.made ≤ P.made + 1 := fun _ k h1 h2 h3 h4 => by
    injection h4 with h4 h5
    rw [← h4, ← h5]
    exact ⟨by omega, fun n hn => by have := lo n (h2 n hn); omega, by omega, by omega⟩
  have hand : ∀ (h : Nat) (x : Option Int), Res.fine (ptHand P h x).1 (ptHand P h x).2 = .fine P' f → f.length ≤ 61 ∧ (∀ n ∈ f, 0 ≤ n ∧ n ≤ P.made) ∧ P.made ≤ P'.made ∧ P'.made ≤ P.made + 1 := fun h x => by
    obtain ⟨h1, h2⟩ := run_freed (bumped P.boxes x) [P.hands.getD h none]
    rw [keys_bumped] at h2
    rw [← len_keys, keys_bumped, len_keys] at h1
    exact pt P (ptHand P h x) h1 h2 rfl
  have slot : ∀ (n : Int) (s : Nat) (x : Option Int), Res.fine (ptSlot P n s x).1 (ptSlot P n s x).2 = .fine P' f → f.length ≤ 61 ∧ (∀ n ∈ f, 0 ≤ n ∧ n ≤ P.made) ∧ P.made ≤ P'.made ∧ P'.made ≤ P.made + 1 := fun n s x => by
    obtain ⟨h1, h2⟩ := run_freed (chg (bumped P.boxes x) n (setSlot s x)) [slotOf P.boxes n s]
    rw [keys_chg, keys_bumped] at h2
    rw [← len_keys, keys_chg, keys_bumped, len_keys] at h1
    exact pt P (ptSlot P n s x) h1 h2 rfl
  cases d with
  | make h z =>
    unfold act at e; dsimp only at e
    split at e
    · cases e
    split at e
    · cases e
    split at e
    · cases e
    injection e with e1 e2
    rw [← e1, ← e2]
    obtain ⟨h1, h2⟩ := run_freed (bumped (born P z.toNat).boxes (some P.made)) [(born P z.toNat).hands.getD h.toNat none]
    rw [keys_bumped] at h2
    rw [← len_keys, keys_bumped, len_keys] at h1
    have eb : (born P z.toNat).boxes.length = P.boxes.length + 1 := by
      show (P.boxes ++ [_]).length = _
      rw [List.length_append, List.length_singleton]
    have ek : keys (born P z.toNat).boxes = keys P.boxes ++ [P.made] := by
      show keys (P.boxes ++ [_]) = _
      unfold keys
      rw [List.map_append]
      rfl
    have m0 := G.wf.m0
    refine ⟨by show (run _ _).2.length ≤ 61; omega, fun n hn => ?_, by rw [made_mk]; omega, by rw [made_mk]; exact Int.le_refl _⟩
    have := h2 n hn
    rw [ek] at this
    rcases List.mem_append.mp this with q | q
    · have := lo n q; omega
    · rw [List.mem_singleton.mp q]; omega
  | hold h o =>
    unfold act at e; dsimp only at e
    split at e
    · cases e
    split at e
    · cases e
    exact hand _ _ e
  | drop h =>
    unfold act at e; dsimp only at e
    split at e
    · cases e
    exact hand _ _ e
  | put h s o =>
    unfold act at e; dsimp only at e
    split at e
    · cases e
    split at e
    · cases e
    obtain ⟨n, b, _, _, _, e⟩ := atSlot_fine e
    exact slot _ _ _ e
  | empty h s =>
    unfold act at e; dsimp only at e
    split at e
    · cases e
    obtain ⟨n, b, _, _, _, e⟩ := atSlot_fine e
    exact slot _ _ _ e
  | take h o s =>
    unfold act at e; dsimp only at e
    split at e
    · cases e
    split at e
    · cases e
    obtain ⟨n, b, _, _, _, e⟩ := atSlot_fine e
    exact hand _ _ e
  | tidy =>
    injection e with e1 e2
    rw [← e1, ← e2]
    have hk : ∀ n ∈ deadF P, n ∈ keys P.boxes := fun n hn => get_keys.mp (mem_deadF.mp hn).1
    refine ⟨?_, fun n hn => by have := lo n (hk n hn); omega, Int.le_refl _, by show P.made ≤ _; omega⟩
    have : (deadF P).length ≤ (keys P.boxes).length := by unfold deadF; exact List.length_filter_le _ _
    rw [len_keys] at this
    omega
/-! ### a line's deed, a line's answer -/
def deedOf (u : Str) (ns : List Nat) : Option Deed :=
  if u = "make" then match ns with | [a, b] => some (.make a b) | _ => none
  else if u = "hold" then match ns with | [a, b] => some (.hold a b) | _ => none
  else if u = "drop" then match ns with | [a] => some (.drop a) | _ => none
  else if u = "put" then match ns with | [a, b, c] => some (.put a b c) | _ => none
  else if u = "empty" then match ns with | [a, b] => some (.empty a b) | _ => none
  else if u = "take" then match ns with | [a, b, c] => some (.take a b c) | _ => none
  else if u = "tidy" then match ns with | [] => some .tidy | _ => none
  else none
theorem deedOf_vs {ps : List Str} {u : Str} {ns : List Nat} (h : readP ps = some (u, ns)) : ∃ d, deedOf u ns = some d ∧ d.vs = .str u :: ns.map fun n => V.int (n : Nat) := by
  have hm : manyOf u = some ns.length := by
    cases ps with
    | nil => cases h
    | cons w ps =>
      have h : (if manyOf w = some ps.length ∧ ∀ p ∈ ps, okN p.cps.toList = true then some (w, ps.map fun p => NumText.digitsVal p.cps.toList) else none) = some (u, ns) := h
      by_cases c : manyOf w = some ps.length ∧ ∀ p ∈ ps, okN p.cps.toList = true
      · rw [if_pos c] at h
        injection h with h
        injection h with h1 h2
        rw [← h1, ← h2, List.length_map]
        exact c.1
      · rw [if_neg c] at h
        cases h
  clear h
  have two : ∀ {k : Nat}, k = 2 → some k = some ns.length → ∃ a b, ns = [a, b] := fun e q => by
    injection q with q
    match ns, q with
    | [a, b], _ => exact ⟨a, b, rfl⟩
    | [], q => rw [e] at q; cases q
    | [a], q => rw [e] at q; cases q
    | a :: b :: c :: l, q => rw [e] at q; simp only [List.length_cons] at q; omega
  have three : some 3 = some ns.length → ∃ a b c, ns = [a, b, c] := fun q => by
    injection q with q
    match ns, q with
    | [a, b, c], _ => exact ⟨a, b, c, rfl⟩
    | [], q => cases q
    | [a], q => cases q
    | [a, b], q => cases q
    | a :: b :: c :: d :: l, q => simp only [List.length_cons] at q; omega
  have one : some 1 = some ns.length → ∃ a, ns = [a] := fun q => by
    injection q with q
    match ns, q with
    | [a], _ => exact ⟨a, rfl⟩
    | [], q => cases q
    | a :: b :: l, q => simp only [List.length_cons] at q; omega
  unfold manyOf at hm
  unfold deedOf
  by_cases h1 : u = "make"
  · rw [if_pos h1] at hm ⊢
    obtain ⟨a, b, rfl⟩ := two rfl hm
    exact ⟨_, rfl, by rw [h1]; rfl⟩
  rw [if_neg h1] at hm ⊢
  by_cases h2 : u = "hold"
  · rw [if_pos h2] at hm ⊢
    obtain ⟨a, b, rfl⟩ := two rfl hm
    exact ⟨_, rfl, by rw [h2]; rfl⟩
  rw [if_neg h2] at hm ⊢
  by_cases h3 : u = "drop"
  · rw [if_pos h3] at hm ⊢
    obtain ⟨a, rfl⟩ := one hm
    exact ⟨_, rfl, by rw [h3]; rfl⟩
  rw [if_neg h3] at hm ⊢
  by_cases h4 : u = "put"
  · rw [if_pos h4] at hm ⊢
    obtain ⟨a, b, c, rfl⟩ := three hm
    exact ⟨_, rfl, by rw [h4]; rfl⟩
  rw [if_neg h4] at hm ⊢
  by_cases h5 : u = "empty"
  · rw [if_pos h5] at hm ⊢
    obtain ⟨a, b, rfl⟩ := two rfl hm
    exact ⟨_, rfl, by rw [h5]; rfl⟩
  rw [if_neg h5] at hm ⊢
  by_cases h6 : u = "take"
  · rw [if_pos h6] at hm ⊢
    obtain ⟨a, b, c, rfl⟩ := three hm
    exact ⟨_, rfl, by rw [h6]; rfl⟩
  rw [if_neg h6] at hm ⊢
  by_cases h7 : u = "tidy"
  · rw [if_pos h7] at hm ⊢
    injection hm with hm
    match ns, hm with
    | [], _ => exact ⟨_, rfl, by rw [h7]; rfl⟩
  rw [if_neg h7] at hm
  cases hm
def badW : Bad → Str
  | .hand => "no hand" | .size => "no size" | .full => "full" | .box => "no box" | .slot => "no slot"
def freesW (f : List Int) : Str := ("frees " : Str) ++ (if f = [] then ("none" : Str) else Str.join " " (f.map fun n => (toString n : Str)))
/-- the pile behind a line, and the line's answer -/
noncomputable def ans (P : Pl) (z : Str) : Pl × Str := match readP (Txt.split z " ") with
  | none => (P, "no deed")
  | some (u, ns) => match deedOf u ns with
    | none => (P, "no deed")
    | some d => match act P d with
      | .bad e => (P, badW e)
      | .fine P' f => (P', freesW f)
/-- the pile behind some lines -/
noncomputable def plAt (P : Pl) : List Str → Pl
  | [] => P
  | z :: zs => plAt (ans P z).1 zs
noncomputable def answers (P : Pl) : List Str → List Str
  | [] => []
  | z :: zs => (ans P z).2 :: answers (ans P z).1 zs
theorem plAt_snoc : ∀ (zs : List Str) (P : Pl) (z : Str), plAt P (zs ++ [z]) = (ans (plAt P zs) z).1
  | [], _, _ => rfl
  | y :: zs, P, z => plAt_snoc zs (ans P y).1 z
theorem answers_snoc : ∀ (zs : List Str) (P : Pl) (z : Str), answers P (zs ++ [z]) = answers P zs ++ [(ans (plAt P zs) z).2]
  | [], _, _ => rfl
  | y :: zs, P, z => by
    show (ans P y).2 :: answers (ans P y).1 (zs ++ [z]) = (ans P y).2 :: (answers (ans P y).1 zs ++ _)
    rw [answers_snoc zs]
    rfl
theorem answers_len : ∀ (zs : List Str) (P : Pl), (answers P zs).length = zs.length
  | [], _ => rfl
  | y :: zs, P => by
    show (answers (ans P y).1 zs).length + 1 = zs.length + 1
    rw [answers_len zs]
end BP

/-! s.replace(y, one of some written texts, n): some text of bounded length. Own work. -/
namespace BP
open PySem PySem.Spec PyProof.Rows L2 PySem.Builtin PySem.Builtin.Str
theorem gives_repl4 (x y z : Str) (k : Int) (t u v n : Tok) (hk : (decide (k < -(2 ^ 63 : Int)) || decide (k ≥ 2 ^ 63)) = false) (h0 : (u == 0 || v == 0) = false) (hyz : (y == z) = false)
    (hl : tooLong (x.length + (occurrences x y 0 x.length (if k < 0 then x.length + 1 else k.toNat)).length * z.length) = false) :
    Gives (Builtin.«str.replace» ⟨[.str x t, .str y u, .str z v, .int k n], []⟩)
      (if ((occurrences x y 0 x.length (if k < 0 then x.length + 1 else k.toNat)).isEmpty || (y.length == 0 && z.length == 0)) = true then .val (.str x t) else if (u == v) = true then .val (.str x t) else .str (glued z (partsBetween x (occurrences x y 0 x.length (if k < 0 then x.length + 1 else k.toNat)) y.length))) := by
  show Gives (do let limit ← countLimit "str.replace" (some (.int k n)) (x.length + 1); _) _
  rw [countLimit_int "str.replace" k n (x.length + 1) hk]
  generalize (if k < 0 then x.length + 1 else k.toNat) = m at hl ⊢
  show Gives (if ((occurrences x y 0 x.length m).isEmpty || (y.length == 0 && z.length == 0)) = true then (do rule "str.replace.nothing"; ret (.str x t)) else
          (do let same ← isSame (.str y u) (.str z v)
              if same = true then (do rule "str.replace.old-is-new"; ret (.str x t)) else
              if tooLong (x.length + (occurrences x y 0 x.length m).length * z.length) = true then unsupported "str.replace:memory" else
              retStr (glued z (partsBetween x (occurrences x y 0 x.length m) y.length)))) _
  cases hc : ((occurrences x y 0 x.length m).isEmpty || (y.length == 0 && z.length == 0))
  · cases huv : (u == v)
    · rw [isSame_str_other y z u v h0 huv hyz, hl]
      exact .of_eq rfl
    · have e : isSame (.str y u) (.str z v) = pure true := by
        show (if (u == 0 || v == 0) = true then _ else if (u == v) = true then pure true else _ : Sem Bool) = _
        rw [h0, huv]
        rfl
      rw [e]
      exact .rule (.of_eq rfl)
  · exact .rule (.of_eq rfl)
theorem join_len (sep : Str) (B : Nat) : ∀ ys : List Str, (∀ y ∈ ys, y.length ≤ B) → (Str.join sep ys).length ≤ ys.length * (B + sep.length)
  | [], _ => by show 0 ≤ _; omega
  | [y], h => by
    have := h y List.mem_cons_self
    show y.length ≤ 1 * _
    omega
  | y :: z :: ys, h => by
    have ih := join_len sep B (z :: ys) fun q hq => h q (List.mem_cons_of_mem _ hq)
    have := h y List.mem_cons_self
    show (y ++ sep ++ Str.join sep (z :: ys)).length ≤ _
    rw [Str.length_append, Str.length_append, List.length_cons (a := y), Nat.add_mul]
    omega
/-- replaced at most twice, it is not much longer -/
theorem repl_len (x y z : Str) (m : Nat) (hm : m ≤ 2) (hx : x.length ≤ 100000) (hz : z.length ≤ 10) : (glued z (partsBetween x (occurrences x y 0 x.length m) y.length)).length ≤ 3 * (x.length + 10) := by
  rw [StrLaws.glued_eq_join]
  have h1 := join_len z x.length (partsBetween x (occurrences x y 0 x.length m) y.length) fun p hp => by
    simp only [partsBetween, List.mem_map] at hp
    obtain ⟨⟨i, j⟩, _, rfl⟩ := hp
    exact strSub_length_le ..
  rw [PyProof.Rows.len_partsBetween] at h1
  have h2 := StrLaws.occ_length_le x y 0 x.length m
  refine Nat.le_trans h1 (Nat.mul_le_mul ?_ ?_) <;> omega
def tRepl3 (to ti tn : TE) : TE := fun σ H Q => to σ H fun v H1 => ∃ x : Str, v = .str x ∧ x.length ≤ 100000 ∧ ∀ H2, Same H1 H2 → ti σ H2 fun i H3 => ∃ k : Int, i = .int k ∧ 0 ≤ k ∧ k < 3 ∧ H3 = H2 ∧
  tn σ H3 fun n H4 => ∃ m : Int, n = .int m ∧ 0 ≤ m ∧ m ≤ 2 ∧ ∀ r : Str, r.length ≤ 3 * (x.length + 10) → Q (.str r) H4
section
variable {X : Cx}
theorem pet_repl3 {o idx cnt : Expr} {y z1 z2 z3 : Str} {j0 j1 j2 j3 : Nat} {c0 c1 c2 c3 lp sp apos pos : Pos} {to ti tn : TE} (ho : PE X o to) (hi : PE X idx ti) (hn : PE X cnt tn)
    (hz : ∀ z ∈ [z1, z2, z3], z.length ≤ 10 ∧ (y == z) = false) (hix : PlainIx idx)
    (hbase : attributeBase o "replace" X.env (eval o X.env) = eval o X.env := by rfl) (hline : (apos.endLine == pos.line) = true := by rfl)
    (hfew : ((backTo pos (starEach [.Constant (.str y) j0 c0, .Subscript (.List [.Constant (.str z1) j1 c1, .Constant (.str z2) j2 c2, .Constant (.str z3) j3 c3] lp) idx sp, cnt] X.env)).all (fun x => !x.1) && (backToKw pos (keywordEach [] X.env)).all (fun x => x.1.isSome)
      && decide (([.Constant (.str y) j0 c0, .Subscript (.List [.Constant (.str z1) j1 c1, .Constant (.str z2) j2 c2, .Constant (.str z3) j3 c3] lp) idx sp, cnt] : List Expr).length + ([] : List Keyword).length + (if ([] : List Keyword).isEmpty then 0 else 1) < 30)) = true := by rfl)
    (htr : backTo pos (starEach [.Constant (.str y) j0 c0, .Subscript (.List [.Constant (.str z1) j1 c1, .Constant (.str z2) j2 c2, .Constant (.str z3) j3 c3] lp) idx sp, cnt] X.env) =
      [(false, eval (.Constant (.str y) j0 c0) X.env), (false, eval (.Subscript (.List [.Constant (.str z1) j1 c1, .Constant (.str z2) j2 c2, .Constant (.str z3) j3 c3] lp) idx sp) X.env), (false, eval cnt X.env)] := by rfl) :
    PET X (.Call (.Attribute o "replace" apos) [.Constant (.str y) j0 c0, .Subscript (.List [.Constant (.str z1) j1 c1, .Constant (.str z2) j2 c2, .Constant (.str z3) j3 c3] lp) idx sp, cnt] [] pos) (tRepl3 to ti tn) := by
  intro pins s σ H Q h0 I h
  refine wpAny_Call_method_lateS hbase hfew hline (wpAny_mono (PySem.wpAny_toks (ho.run pins s σ H _ I h)) (fun v s1 q => ?_) fun _ _ z => z.2)
  obtain ⟨hk, v', H1, I1, r1, x, e1, hx, q⟩ := q
  subst e1
  obtain ⟨tx, e2⟩ := r1
  subst e2
  refine ⟨"str", _, PySem.F.plainAttrs_str, PySem.F.slot_str_replace, PySem.F.type_str_replace, typeIs_str _ _ _, (fun _ e => nomatch e), ?_⟩
  rw [htr]
  refine Calls.callWith_builtin rfl (Calls.evalArgs_plain (Calls.spliced_cons (Calls.Constant_str (Calls.spliced_cons (Subscript_ (wpAny_List_spliced ?_))))))
  show wpAny _ _ (spliced ((false, eval (.Constant (.str z1) j1 c1) X.env) :: backTo lp (starEach [.Constant (.str z2) j2 c2, .Constant (.str z3) j3 c3] X.env))) _ _ _
  refine Calls.spliced_cons (Calls.Constant_str ?_)
  show wpAny _ _ (spliced ((false, eval (.Constant (.str z2) j2 c2) X.env) :: backTo lp (starEach [.Constant (.str z3) j3 c3] X.env))) _ _ _
  refine Calls.spliced_cons (Calls.Constant_str ?_)
  show wpAny _ _ (spliced ((false, eval (.Constant (.str z3) j3 c3) X.env) :: backTo lp (starEach [] X.env))) _ _ _
  refine Calls.spliced_cons (Calls.Constant_str (Calls.spliced_nil ?_))
  obtain ⟨k0, hk0⟩ : ∃ k0, s1.toks = k0 := ⟨_, rfl⟩
  have three : (3 : Nat) ≤ sizeLine := by decide
  refine ⟨three, ?_⟩
  have fresh : H1 s1.heap.objs.size = none := I1.hok.fresh (Nat.le_refl _)
  have I2 := I1.laid (t' := s1.toks + 1 + 1 + 1 + 1) (h' := s1.heap.push { cls := .type "list", data := .seq #[.str z1 (s1.toks + 1), .str z2 (s1.toks + 1 + 1), .str z3 (s1.toks + 1 + 1 + 1)] })
    (o := .frz { cls := .type "list", data := .seq #[.str z1 (s1.toks + 1), .str z2 (s1.toks + 1 + 1), .str z3 (s1.toks + 1 + 1 + 1)] 0 } (.lst [.str z1, .str z2, .str z3])) (fun b u e => Heap.get?_push_of_some _ e) (Nat.le_refl _)
    ⟨Heap.get?_push_size _ rfl, three, [.str z1 (s1.toks + 1), .str z2 (s1.toks + 1 + 1), .str z3 (s1.toks + 1 + 1 + 1)], 0, .cons ⟨_, rfl⟩ (.cons ⟨_, rfl⟩ (.cons ⟨_, rfl⟩ .nil)), Heap.get?_push_size _ rfl⟩
  obtain ⟨H2, eH2⟩ : ∃ H2, upd H1 s1.heap.objs.size (.frz { cls := .type "list", data := .seq #[.str z1 (s1.toks + 1), .str z2 (s1.toks + 1 + 1), .str z3 (s1.toks + 1 + 1 + 1)] 0 } (.lst [.str z1, .str z2, .str z3])) = H2 := ⟨_, rfl⟩
  have here : H2 s1.heap.objs.size = some (.frz { cls := .type "list", data := .seq #[.str z1 (s1.toks + 1), .str z2 (s1.toks + 1 + 1), .str z3 (s1.toks + 1 + 1 + 1)] 0 } (.lst [.str z1, .str z2, .str z3])) := by
    rw [← eH2]
    simp [upd]
  have same : Same H1 H2 := fun b o e => by
    have ne : b ≠ s1.heap.objs.size := fun eb => by
      rw [eb, fresh] at e
      nomatch e
    rw [← eH2, upd_ne ne]
    exact e
  rw [eH2] at I2
  refine thn (hi.run _ _ _ _ _ I2 (q _ same)) fun v s3 ⟨w, H3, I3, r3, q3⟩ => ?_
  obtain ⟨k, e3, k0', k3, eH, q3⟩ := q3
  subst e3 eH
  obtain ⟨tk, e4⟩ := r3
  subst e4
  have isl : s3.heap.IsList s1.heap.objs.size #[.str z1 (s1.toks + 1), .str z2 (s1.toks + 1 + 1), .str z3 (s1.toks + 1 + 1 + 1)] := by
    obtain ⟨h5, _⟩ := I3.hok _ _ here
    exact ⟨_, h5, rfl, 0, rfl⟩
  obtain ⟨z, tz, hz1, hzt, hit⟩ : ∃ z tz, z ∈ [z1, z2, z3] ∧ tz ≠ 0 ∧ (#[.str z1 (s1.toks + 1), .str z2 (s1.toks + 1 + 1), .str z3 (s1.toks + 1 + 1 + 1)] : Array Value)[k.toNat]? = some (.str z tz) := by
    have : k = 0 ∨ k = 1 ∨ k = 2 := by omega
    rcases this with rfl | rfl | rfl
    · exact ⟨z1, s1.toks + 1, by simp, Nat.succ_ne_zero _, rfl⟩
    · exact ⟨z2, s1.toks + 1 + 1, by simp, Nat.succ_ne_zero _, rfl⟩
    · exact ⟨z3, s1.toks + 1 + 1 + 1, by simp, Nat.succ_ne_zero _, rfl⟩
  refine item_listR isl k0' (by omega) hit ?_ (hix _ _)
  refine Calls.spliced_cons (thn (hn.run _ _ _ _ _ I3 q3) fun v s4 ⟨w, H4, I4, r4, q4⟩ => ?_)
  obtain ⟨m, e5, m0, m2, q4⟩ := q4
  subst e5
  obtain ⟨tm, e6⟩ := r4
  subst e6
  refine Calls.spliced_nil ?_
  obtain ⟨zl, zy⟩ := hz z hz1
  have hm : (if m < 0 then x.length + 1 else m.toNat) ≤ 2 := by split <;> omega
  have rl := repl_len x y z _ hm hx zl
  have ol := StrLaws.occ_length_le x y 0 x.length (if m < 0 then x.length + 1 else m.toNat)
  refine PySem.call_gives PySem.F.slot_str_replace (typeIs_str _ _ _) PySem.F.entry_str_replace (PySem.F.args_str_replace_4 _ _ _ _)
    (gives_repl4 x y z m tx _ tz tm (by rw [Bool.or_eq_false_iff]; exact ⟨decide_eq_false (by omega), decide_eq_false (by omega)⟩) (by rw [Bool.or_eq_false_iff]; exact ⟨beq_eq_false_iff_ne.mpr (Nat.ne_of_gt (Nat.lt_of_lt_of_le h0 hk)), beq_eq_false_iff_ne.mpr hzt⟩) zy ?_) ?_
  · have e : (2 : Nat) ^ 24 = 16777216 := by decide
    have : (occurrences x y 0 x.length (if m < 0 then x.length + 1 else m.toNat)).length * z.length ≤ 2 * 10 := Nat.mul_le_mul (Nat.le_trans ol hm) zl
    unfold tooLong sizeLine
    exact decide_eq_false (by omega)
  · generalize (if m < 0 then x.length + 1 else m.toNat) = mm at rl ⊢
    split
    · exact ⟨.str x, H4, I4.tok _, ⟨tx, rfl⟩, q4 x (by omega)⟩
    · split
      · exact ⟨.str x, H4, I4.tok _, ⟨tx, rfl⟩, q4 x (by omega)⟩
      · exact ⟨by unfold sizeLine; omega, ⟨.str _, H4, I4.tok _, ⟨_, rfl⟩, q4 _ rl⟩⟩
end
end BP

namespace BP
open PySem L2
abbrev sRead : Stmt := top 25
abbrev sReadNumber : Stmt := top 26
abbrev nRead : List Str := ["line", "parts", "word", "part"]
abbrev nReadNumber : List Str := ["part"]
/-- what the top has made for the notes -/
structure TxtN (K : PySem.W.Frag) (w : World) (mg : Str → Option Value) (eD dW : Addr) : Prop where
  eD : Err K mg "NoDeed" eD
  len : mg "len" = none
  all : mg "all" = none
  int : mg "int" = none
  tuple : mg "tuple" = none
  str : mg "str" = none
  figs : ∃ t, mg "FIGURES" = some (.str "0123456789" t)
  most : ∃ t, mg "MOST_FIGURES" = some (.int 60 t)
  gW : mg "WORDS" = some (.ref dW)
  kd : ∃ es n, KDict K w dW es n
  look : ∀ z : Str, ∃ r, PySem.W.nsIn K dW z = some r ∧ RelV ((manyOf z).elim V.non fun n => V.int n) (r.getD .none)
def spReadNumber (Pt eD : Addr) : Sp := fun vs H Q E => ∃ p : Str, vs = [.str p] ∧ p.length ≤ 1000000 ∧ GxR.TabG H Pt ∧ ∀ H', GxR.Tabbed Pt H H' → (okN p.cps.toList = true → Q (.int (NumText.digitsVal p.cps.toList : Nat)) H') ∧ (okN p.cps.toList = false → E (.ref eD) none H')
def spRead (Pt eD : Addr) : Sp := fun vs H Q E => ∃ z : Str, vs = [.str z] ∧ z.length ≤ 1000000 ∧ GxR.TabG H Pt ∧ ∀ H', Past Pt H H' →
  (∀ u ns, readP (Txt.split z " ") = some (u, ns) → ∀ t, H t = none → H' t = some (.tup (.str u :: ns.map fun n => V.int (n : Nat))) → Q (.ref t) H') ∧ (readP (Txt.split z " ") = none → E (.ref eD) none H')
section
variable {P : Program} {w : World} {K : PySem.W.Frag} {mg : Str → Option Value} {base : Heap} {eD dW : Addr}
theorem scReadNumber : FnScope nReadNumber ["part"] (defScope sReadNumber) := ⟨rfl, rfl, rfl, by decide +kernel, rfl, by decide +kernel, by decide +kernel⟩
theorem figs_digits : ∀ c : Nat, c ∈ ("0123456789" : Str).cps.toList ↔ (48 ≤ c ∧ c ≤ 57) := by
  intro c
  have e : ("0123456789" : Str).cps.toList = [48, 49, 50, 51, 52, 53, 54, 55, 56, 57] := by decide +kernel
  rw [e]
  simp only [List.mem_cons, List.not_mem_nil, or_false]
  omega
theorem str_len (p : Str) : p.length = p.cps.toList.length := by rw [Array.length_toList]; rfl
theorem str_ext {a b : Str} (h : a.cps.toList = b.cps.toList) : a = b := Str.ext' (Array.toList_inj.mp h)
theorem gen_free {env : Env} : ∀ {y : Str × NameKind}, y ∈ [((".0" : Str), NameKind.local), (("sign" : Str), NameKind.local), (("FIGURES" : Str), NameKind.globalImplicit)] → y.2 = .free → ∃ c, env.cells.lookup y.1 = some c := by
  intro y hy e
  rcases List.mem_cons.mp hy with rfl | hy
  · cases e
  rcases List.mem_cons.mp hy with rfl | hy
  · cases e
  rcases List.mem_cons.mp hy with rfl | hy
  · cases e
  · cases hy
theorem ok_readnumber {f c Pt : Addr} {fd : FuncData} (F : Fun K "read_number" "read_number" sReadNumber f fd) (hc : fd.code = .ref c) (TN : TxtN K w mg eD dW) (TB : GxR.TabB base mg c Pt) : FnOk P w K mg base (L2.CX P w) 1 f fd ["part"] (spReadNumber Pt eD) := by
  refine okXC F scReadNumber hc (fun vs H Q E h => ?_) (fun A outer s H vs Q E hr h => ?_)
  · obtain ⟨p, rfl, _⟩ := h
    rfl
  · obtain ⟨p, rfl, hp, hT, k⟩ := h
    obtain ⟨t60, h60⟩ := TN.most
    obtain ⟨tF, hF⟩ := TN.figs
    refine ⟨_, pss_cons (ps_if (PW.pt (pw_or (pt_not (pt_chain op_le op_le pe_int (pe_callB call_len_str (by rfl) TN.len PySem.boot_len (pa_cons (pv 0) pa_nil)) (pe_glob (v := .int 60) rfl h60 ⟨_, rfl⟩)))
        (pw_or1 (pt_not (pt_val (pe_allG hr (by rfl) TN.all (by decide +kernel) TB rfl ⟨rfl, rfl, by decide +kernel, by decide +kernel, by decide +kernel, fun y hy e => gen_free hy e⟩ (pv 0) (elt_in (by rfl) (by decide +kernel) (by decide +kernel) hF) (fun _ => rfl)))))))
        (pss_one (ps_raise rfl (takes_of rfl rfl rfl rfl) (pmk_own PySem.F.excBase_ValueError TN.eD.x TN.eD.g TN.eD.k (raises_own TN.eD.b TN.eD.t) rfl))) pss_nil)
      (pss_cons (ps_if (PW.pt (pw_and (pt_cmpR op_eq (pe_ix ix_str (pv 0) pe_int (fun _ _ => rfl)) pe_str (nomark _)) (pw_and1 (pt_cmpR op_ne (pv 0) pe_str (nomark _)))))
        (pss_one (ps_raise rfl (takes_of rfl rfl rfl rfl) (pmk_own PySem.F.excBase_ValueError TN.eD.x TN.eD.g TN.eD.k (raises_own TN.eD.b TN.eD.t) rfl))) pss_nil)
      (pss_one (ps_ret (pe_callTy call_int_str (by rfl) TN.int (by decide +kernel) (pa_cons (pv 0) pa_nil))))), ?_⟩
    have e32 := str_len p
    refine ⟨_, rfl, _, rfl, (by rw [sizeLine_eq]; omega), _, _, rfl, rfl, _, rfl, ?_⟩
    by_cases h1 : (1 : Int) ≤ (p.length : Int)
    case neg =>
      rw [decide_eq_false h1]
      refine iteF ⟨_, rfl, ?_⟩
      refine iteT (iteT ?_)
      refine (k H (tabbed_refl hT)).2 ?_
      unfold okN
      rw [decide_eq_false (by rw [← e32]; omega)]
      rfl
    rw [decide_eq_true h1]
    refine iteT ⟨_, _, rfl, rfl, _, rfl, ?_⟩
    by_cases h2 : (p.length : Int) ≤ 60
    case neg =>
      rw [decide_eq_false h2]
      refine iteT (iteT ?_)
      refine (k H (tabbed_refl hT)).2 ?_
      unfold okN
      rw [decide_eq_false (by rw [← e32]; omega)]
      rfl
    rw [decide_eq_true h2]
    refine iteF ?_
    refine ⟨_, rfl, p, rfl, hT, fun H' T' => ⟨_, rfl, ?_⟩⟩
    obtain ⟨k1, k2⟩ := k H' T'
    have ea : (p.cps.toList.all fun c => decide (c ∈ ("0123456789" : Str).cps.toList)) = p.cps.toList.all fun c => decide (48 ≤ c ∧ c ≤ 57) := by
      exact List.all_congr rfl fun c => decide_eq_decide.mpr (figs_digits c)
    rw [ea]
    have hlen : decide (1 ≤ p.cps.toList.length ∧ p.cps.toList.length ≤ 60) = true := decide_eq_true (by rw [← e32]; omega)
    by_cases h3 : (p.cps.toList.all fun c => decide (48 ≤ c ∧ c ≤ 57)) = true
    case neg =>
      rw [Bool.not_eq_true] at h3
      rw [h3]
      refine iteT ?_
      refine k2 ?_
      unfold okN
      rw [hlen, h3]
      rfl
    rw [h3]
    refine iteF ?_
    obtain ⟨c0, cs, ec⟩ : ∃ c0 cs, p.cps.toList = c0 :: cs := by
      cases e : p.cps.toList with
      | nil => rw [e] at hlen; exact absurd (of_decide_eq_true hlen).1 (by decide)
      | cons c cs => exact ⟨c, cs, rfl⟩
    have dig : NumText.AllDigits p.cps.toList := fun c hc => of_decide_eq_true (List.all_eq_true.mp h3 c hc)
    have fin : okN p.cps.toList = true → Q (.int (NumText.digitsVal p.cps.toList : Nat)) H' := k1
    have it : intText? p = some ((NumText.digitsVal p.cps.toList : Nat) : Int) := intText_digits dig (by rw [ec]; simp) (by omega)
    refine ⟨_, rfl, p, 0, c0, rfl, rfl, (by rw [sizeLine_eq]; omega), atI_nat (xs := p.cps.toList) (j := 0) (show p.cps.toList[0]? = some c0 by rw [ec]; rfl), rfl, _, rfl, ?_⟩
    by_cases h4 : c0 = 48
    case neg =>
      refine if_neg_of (decide_eq_false (fun z => h4 ?_)) ?_
      · injection z with z
        have := congrArg (fun x : Str => x.cps.toList) z
        have e48 : ("0" : Str).cps.toList = [48] := by decide +kernel
        rw [e48] at this
        injection this
      refine iteF ?_
      refine ⟨_, rfl, p, _, rfl, it, by omega, fin ?_⟩
      unfold okN
      rw [hlen, h3, ec]
      simp [h4]
    subst h4
    refine if_pos_of (decide_eq_true (congrArg V.str (by decide +kernel))) ?_
    refine ⟨_, rfl, rfl, _, rfl, ?_⟩
    have e48 : ("0" : Str).cps.toList = [48] := by decide +kernel
    by_cases h5 : p.cps.toList = [48]
    · have ep : p = "0" := str_ext (h5.trans e48.symm)
      refine if_neg_of (by rw [decide_eq_true (congrArg V.str ep)]; rfl) ?_
      refine ⟨_, rfl, p, _, rfl, it, by omega, fin ?_⟩
      rw [h5]
      decide
    · have ne0 : V.str p ≠ V.str "0" := fun z => h5 (by injection z with z; rw [z, e48])
      refine if_pos_of (by rw [decide_eq_false ne0]; rfl) ?_
      refine k2 ?_
      unfold okN
      rw [hlen, h3, ec]
      rw [ec] at h5
      simp [h5]
theorem takeS {α : Type} {l : List α} {i : Nat} {x : α} (h : l[i]? = some x) : l.take (i + 1) = l.take i ++ [x] := by
  rw [List.take_add_one, h]
  rfl
theorem scRead : FnScope nRead ["line"] (defScope sRead) := ⟨rfl, rfl, rfl, by decide +kernel, rfl, by decide +kernel, by decide +kernel⟩
theorem len_glue : ∀ ps : List (List Nat), ps.length ≤ (glue ps).length + 1 ∧ ∀ p ∈ ps, p.length ≤ (glue ps).length
  | [] => ⟨by decide, fun p h => by cases h⟩
  | [p] => ⟨by show 1 ≤ _; omega, fun q h => by rw [List.mem_singleton.mp h]; exact Nat.le_refl _⟩
  | p :: q :: ps => by
    obtain ⟨h1, h2⟩ := len_glue (q :: ps)
    have e : (glue (p :: q :: ps)).length = p.length + ((glue (q :: ps)).length + 1) := by
      show (p ++ 32 :: glue (q :: ps)).length = _
      rw [List.length_append, List.length_cons]
    refine ⟨by rw [e, List.length_cons]; omega, fun r hr => ?_⟩
    rw [e]
    rcases List.mem_cons.mp hr with rfl | hr
    · omega
    · have := h2 r hr
      omega
theorem glue_split (z : Str) : glue ((Txt.split z " ").map fun y => y.cps.toList) = z.cps.toList := by
  have h1 := StrLaws.join_split z ⟨#[32]⟩
  have h2 := join_glue (Txt.split z ⟨#[32]⟩)
  rw [h1] at h2
  rw [sp1]
  exact h2.symm
theorem split_small (z : Str) : (Txt.split z " ").length ≤ z.length + 1 ∧ ∀ p ∈ Txt.split z " ", p.length ≤ z.length := by
  obtain ⟨h1, h2⟩ := len_glue ((Txt.split z " ").map fun y => y.cps.toList)
  rw [glue_split, List.length_map, ← str_len] at h1
  refine ⟨h1, fun p hp => ?_⟩
  have := h2 _ (List.mem_map.mpr ⟨p, hp, rfl⟩)
  rw [glue_split, ← str_len] at this
  rw [str_len p]
  exact this
theorem ok_read {f fN Pt : Addr} {fd dN : FuncData} (F : Fun K "read" "read" sRead f fd) (TN : TxtN K w mg eD dW) (GN : FnOk P w K mg base (L2.CX P w) 1 fN dN ["part"] (spReadNumber Pt eD)) (FN : Fun K "read_number" "read_number" sReadNumber fN dN)
    (bN : Binds K dN ["part"] []) (gN : mg "read_number" = some (.ref fN)) : FnOk P w K mg base (L2.CX P w) 2 f fd ["line"] (spRead Pt eD) := by
  refine F.okX scRead (fun vs H Q E h => ?_) (fun cdv A outer s H vs Q E hr h => ?_)
  · obtain ⟨z, rfl, _⟩ := h
    rfl
  · obtain ⟨z, rfl, hz, hT, k⟩ := h
    have nd := scRead.nd
    obtain ⟨es, n0, D⟩ := TN.kd
    refine ⟨_, pss_cons (ps_set (i := 1) nd rfl (Or.inl rfl) (pe_split (pv 0) pe_str))
      (pss_cons (ps_set (i := 2) nd rfl (Or.inl rfl) (pe_ix ix_list (pv 1) pe_int (fun _ _ => rfl)))
      (pss_cons (ps_if (pt_cmpR op_ne (pe_kget D (pe_glob (v := .ref dW) rfl TN.gW rfl) (pv 2) ⟨rfl, rfl, rfl, rfl⟩) (pe_op op_sub (pe_callB call_len_seq (by rfl) TN.len PySem.boot_len (pa_cons (pv 1) pa_nil)) pe_int) (nomark _))
        (pss_one (ps_raise rfl (takes_of rfl rfl rfl rfl) (pmk_own PySem.F.excBase_ValueError TN.eD.x TN.eD.g TN.eD.k (raises_own TN.eD.b TN.eD.t) rfl))) pss_nil)
      (pss_one (ps_ret (pe_callTy call_tuple_of (by rfl) TN.tuple (by decide +kernel) (pa_cons (pe_op op_cat (pe_lst (pa_cons (pv 2) pa_nil))
        (pe_lcX (E := E) (own := [("part", 3)]) (g := gName 3) (tt := tYes) (te := tCall (spReadNumber Pt eD) [] E (tCons (tVar 3) tNil)) rfl rfl (takes_of rfl rfl rfl rfl) (by rfl) nd (pi_list (pe_slice sl_list (pv 1) (po_some pe_int) po_none))
          (blkOk_by (N := nRead) (sc := defScope sRead) (by decide +kernel)) (fun _ _ _ _ _ => pg_name (i := 3) nd rfl (Or.inl rfl)) (fun _ _ _ _ _ => pts_nil)
          (fun _ _ _ _ _ pn xe px => pe_call GN hr (by rfl) gN FN.kp bN .nil px (pa_cons (pv 3) pa_nil)))) pa_nil)))))), ?_⟩
    obtain ⟨sm1, sm2⟩ := split_small z
    refine ⟨_, rfl, ⟨_, rfl⟩, z, _, rfl, rfl, (by decide +kernel), (by rw [sizeLine_eq]; omega), fun a ha => ?_⟩
    have P1 := (Past.refl hT).new ha (.lst ((Txt.split z " ").map V.str))
    have ka : upd H a (.lst ((Txt.split z " ").map V.str)) a = some (.lst ((Txt.split z " ").map V.str)) := upd_same
    have hsp := PyProof.Rows.split_pos z " "
    generalize upd H a (.lst ((Txt.split z " ").map V.str)) = H1 at P1 ka ⊢
    have k' : ∀ H', Past Pt H H' → (∀ u ns, readP (Txt.split z " ") = some (u, ns) → ∀ t, H t = none → H' t = some (.tup (.str u :: ns.map fun n => V.int (n : Nat))) → Q (.ref t) H') ∧ (readP (Txt.split z " ") = none → E (.ref eD) none H') := k
    generalize Txt.split z " " = ps at ka sm1 sm2 hsp k'
    obtain ⟨u, us, rfl⟩ : ∃ u us, ps = u :: us := by
      cases ps with
      | nil => exact absurd hsp (by decide)
      | cons u us => exact ⟨u, us, rfl⟩
    rw [List.length_cons] at sm1
    refine ⟨_, rfl, a, _, _, _, rfl, rfl, SqL.of ka, at_of (j := 0) rfl rfl, ?_⟩
    obtain ⟨r, hr1, hr2⟩ := TN.look u
    refine ⟨rfl, _, rfl, u, r, _, rfl, hr1, hr2, ?_⟩
    refine ⟨_, rfl, a, _, rfl, .inl (SqL.of ka), _, _, rfl, rfl, (by cases manyOf u <;> rfl), _, rfl, ?_⟩
    have eqv : ((manyOf u).elim V.non fun n => V.int (n : Nat)) = V.int ((((u :: us).map V.str).length : Int) - 1) ↔ manyOf u = some us.length := by
      rw [List.length_map, List.length_cons]
      constructor
      · intro zz
        cases em : manyOf u with
        | none => rw [em] at zz; cases zz
        | some n =>
          rw [em] at zz
          injection zz with zz
          congr 1
          omega
      · intro em
        rw [em]
        show V.int _ = V.int _
        congr 1
        omega
    by_cases hm : manyOf u = some us.length
    case neg =>
      refine if_pos_of (by rw [decide_eq_false fun zz => hm (eqv.mp zz)]; rfl) ?_
      exact (k' H1 P1).2 (if_neg fun zz => hm zz.1)
    refine if_neg_of (by rw [decide_eq_true (eqv.mpr hm)]; rfl) ?_
    refine ⟨_, rfl, (by show 1 ≤ sizeLine; decide), fun l hl => ?_⟩
    have P2 := P1.new hl (.lst [V.str u])
    have nla : a ≠ l := ne_of_none ka hl
    have ka2 : upd H1 l (.lst [V.str u]) a = some (.lst ((u :: us).map V.str)) := by rw [upd_ne nla]; exact ka
    have kl2 : upd H1 l (.lst [V.str u]) l = some (.lst [V.str u]) := upd_same
    have nl : H l = none := P1.gone hT hl
    generalize upd H1 l (.lst [V.str u]) = H2 at P2 ka2 kl2 ⊢
    refine ⟨_, rfl, _, rfl, a, _, rfl, SqL.of ka2, fun c hc => ?_⟩
    rw [show cutV ((u :: us).map V.str) (some 1) none = us.map V.str from by
      unfold cutV
      rw [HT.sIx_none, show HT.sIx ((u :: us).map V.str).length 0 (some 1) = 1 from by
        rw [show (some (1 : Int)) = some ((1 : Nat) : Int) from rfl, HT.sIx_nat, List.length_map, List.length_cons]
        omega]
      rw [List.map_cons, List.drop_succ_cons, List.drop_zero, List.take_of_length_le (by rw [List.length_cons]; omega)]]
    have P3 := P2.new hc (.lst (us.map V.str))
    have kc3 : upd H2 c (.lst (us.map V.str)) c = some (.lst (us.map V.str)) := upd_same
    have kl3 : upd H2 c (.lst (us.map V.str)) l = some (.lst [V.str u]) := by rw [upd_ne (ne_of_none kl2 hc)]; exact kl2
    have nc : H c = none := P2.gone hT hc
    generalize upd H2 c (.lst (us.map V.str)) = H3 at P3 kc3 kl3 ⊢
    have ncl : c ≠ Pt := tab_ne hT nc
    have nll : l ≠ Pt := tab_ne hT nl
    refine ⟨c, rfl, ⟨_, SqL.of kc3⟩, fun D hD => ?_⟩
    have nD : H D = none := P3.gone hT hD
    have nDP : D ≠ Pt := tab_ne hT nD
    have nDc : c ≠ D := ne_of_none kc3 hD
    have nDl : l ≠ D := ne_of_none kl3 hD
    refine lc_it walk_list (fun j H' => Past Pt H H' ∧ H' c = some (.lst (us.map V.str)) ∧ H' l = some (.lst [V.str u]) ∧ H' D = some (.lst ((us.take j).map fun p => V.int (NumText.digitsVal p.cps.toList : Nat))) ∧ ∀ p ∈ us.take j, okN p.cps.toList = true)
      ⟨P3.new hD _, by rw [upd_ne nDc]; exact kc3, by rw [upd_ne nDl]; exact kl3, upd_same, fun p hp => by cases hp⟩ (fun j H' _ ⟨_, h, _⟩ => SqL.of h) ?_ ?_
    · rintro j y H4 H5 hj ⟨P4, kc4, kl4, kD4, al4⟩ ⟨rfl, hy⟩
      obtain ⟨p, hp, rfl⟩ : ∃ p, us[j]? = some p ∧ y = V.str p := by
        rw [List.getElem?_map] at hy
        cases e : us[j]? with
        | none => rw [e] at hy; cases hy
        | some p => rw [e] at hy; exact ⟨p, rfl, (Option.some.inj hy).symm⟩
      have hpm := List.mem_of_getElem? hp
      have hju : j < us.length := (List.getElem?_eq_some_iff.mp hp).1
      refine ⟨rfl, _, rfl, p, rfl, (by have := sm2 p (List.mem_cons_of_mem _ hpm); omega), P4.1, fun H6 T6 => ⟨fun okp => ?_, fun nok => ?_⟩⟩
      · have P6 := P4.tab T6
        refine ⟨_, (T6.2 D nDP).trans kD4, (by rw [List.length_map, List.length_take, sizeLine_eq]; omega), P6.set hT nD _, by rw [upd_ne nDc]; exact (T6.2 c ncl).trans kc4, by rw [upd_ne nDl]; exact (T6.2 l nll).trans kl4, ?_, ?_⟩
        · rw [upd_same, takeS hp, List.map_append]
          rfl
        · rw [takeS hp]
          intro q hq
          rcases List.mem_append.mp hq with hq | hq
          · exact al4 q hq
          · rw [List.mem_singleton.mp hq]; exact okp
      · refine (k' H6 (P4.tab T6)).2 (if_neg fun zz => ?_)
        have := zz.2 p hpm
        rw [nok] at this
        cases this
    rintro H4 ⟨P4, kc4, kl4, kD4, al4⟩
    rw [List.length_map, List.take_length] at kD4 al4
    have hread : readP (u :: us) = some (u, us.map fun p => NumText.digitsVal p.cps.toList) := if_pos ⟨hm, al4⟩
    refine ⟨l, D, _, _, rfl, rfl, kl4, kD4, (by rw [List.length_map, sizeLine_eq]; show 1 + us.length ≤ _; omega), fun q hq => ?_⟩
    have P5 := P4.new hq (.lst ([V.str u] ++ us.map fun p => V.int (NumText.digitsVal p.cps.toList : Nat)))
    refine ⟨q, _, rfl, .inl ⟨SqL.of upd_same, fun t ht => ?_⟩⟩
    refine (k' _ (P5.new ht _)).1 u _ hread t (P5.gone hT ht) ?_
    rw [upd_same, List.map_map]
    rfl
end
abbrev sAnswer : Stmt := top 29
abbrev nAnswer : List Str := ["pile", "line", "freed", "number"]
abbrev sPlayed : Stmt := top 28
abbrev nPlayed : List Str := ["lines", "pile", "line"]
theorem scAnswer : FnScope nAnswer ["pile", "line"] (defScope sAnswer) := ⟨rfl, rfl, rfl, by decide +kernel, rfl, by decide +kernel, by decide +kernel⟩
theorem scPlayed : FnScope nPlayed ["lines"] (defScope sPlayed) := ⟨rfl, rfl, rfl, by decide +kernel, rfl, by decide +kernel, by decide +kernel⟩
section
variable {P : Program} {w : World} {K : PySem.W.Frag} {mg : Str → Option Value} {base : Heap} {C B eH eS eF eB eL eD dW : Addr}
def cls6 (eH eS eF eB eL eD : Addr) : Option Bad → Addr
  | none => eD
  | some b => clsOf eH eS eF eB eL b
structure TxtX (K : PySem.W.Frag) (eH eS eF eB eL eD : Addr) : Prop where
  x : ∀ a b : Option Bad, PySem.W.exmOne K (.ref (cls6 eH eS eF eB eL eD a)) (.ref (cls6 eH eS eF eB eL eD b)) = some (decide (a = b))
def spAnswer (C B Pt : Addr) : Sp := fun vs H Q _ => ∃ (p : Addr) (g : Geo) (P : Pl) (R : Hp) (z : Str), vs = [.ref p, .str z] ∧ PileAt C B p g P R H ∧ Good P ∧ z.length ≤ 100000 ∧ P.made ≤ 1000000000 ∧ GxR.TabG R Pt ∧
  ∀ (g' : Geo) (R' H' : Hp), Past Pt R R' → PileAt C B p g' (ans P z).1 R' H' → Good (ans P z).1 → (ans P z).1.made ≤ P.made + 1 → (ans P z).2.length ≤ 1000 → Q (.str (ans P z).2) H'
theorem badW_len : ∀ b : Bad, (badW b).length ≤ 1000 := by intro b; cases b <;> decide +kernel
theorem num_len {n : Int} (h0 : 0 ≤ n) (h : n ≤ 1000000000) : (toString n : Str).length ≤ 10 := by
  obtain ⟨k, rfl⟩ := Int.eq_ofNat_of_zero_le h0
  have := TL.numL_len (n := k) (k := 10) (by decide) (by show k < 10000000000; omega)
  rw [str_len]
  show (TL.tl _).length ≤ 10
  rw [TL.tl_num]
  exact this
theorem num_pos {n : Int} (h0 : 0 ≤ n) : 1 ≤ (toString n : Str).length := by
  obtain ⟨k, rfl⟩ := Int.eq_ofNat_of_zero_le h0
  rw [str_len]
  show 1 ≤ (TL.tl _).length
  rw [TL.tl_num]
  cases e : TL.numL k with
  | nil => exact absurd e (TL.numL_ne k)
  | cons c cs => rw [List.length_cons]; omega
theorem log_nat9 {n : Int} (h0 : 0 ≤ n) (h : n ≤ 1000000000) : n.natAbs.log2 < 1920 := by
  by_cases z : n.natAbs = 0
  · rw [z]; decide
  · exact Nat.lt_of_lt_of_le ((Nat.log2_lt z).mpr (Nat.lt_of_lt_of_le (show n.natAbs < 2 ^ 30 by omega) (Nat.le_refl _))) (by decide)
theorem txt_join (sep : Str) (l : List Str) : Txt.join sep l = Str.join sep l := eq_of_beq (PyProof.Rows.join_plain_closes sep l)
theorem freed_join {f : List Int} (hl : f.length ≤ 61) (hf : ∀ n ∈ f, 0 ≤ n ∧ n ≤ 1000000000) : (Str.join " " (f.map fun n => (toString n : Str))).length ≤ 700 ∧ ((f.map fun n => (toString n : Str)).map (fun x => x.length)).sum + (f.map fun n => (toString n : Str)).length * (" " : Str).length ≤ 16777216 ∧ (((Str.join " " (f.map fun n => (toString n : Str))).length : Int) != 0) = decide (f ≠ []) := by
  have hb : ∀ y ∈ f.map fun n => (toString n : Str), y.length ≤ 10 := fun y hy => by
    obtain ⟨n, hn, e⟩ := List.mem_map.mp hy
    rw [← e]
    exact num_len (hf n hn).1 (hf n hn).2
  have e1 : (" " : Str).length = 1 := by decide +kernel
  refine ⟨?_, ?_, ?_⟩
  · have h := join_len " " 10 _ hb
    rw [e1, List.length_map] at h
    have : f.length * (10 + 1) ≤ 61 * 11 := Nat.mul_le_mul_right _ hl
    omega
  · have h1 := StrLaws.sumLen_le (B := 10) _ hb
    rw [e1]
    rw [List.length_map] at h1 ⊢
    omega
  · cases f with
    | nil => rfl
    | cons n f =>
      rw [decide_eq_true (by intro q; cases q)]
      have h1 := num_pos (hf n List.mem_cons_self).1
      have h2 : 1 ≤ (Str.join " " ((n :: f).map fun n => (toString n : Str))).length := by
        cases f with
        | nil => exact h1
        | cons m f =>
          show 1 ≤ ((toString n : Str) ++ " " ++ Str.join " " ((toString m : Str) :: f.map fun n => (toString n : Str))).length
          rw [Str.length_append, Str.length_append]
          omega
      have : ((Str.join " " ((n :: f).map fun n => (toString n : Str))).length : Int) ≠ 0 := by omega
      simpa using this
theorem ok_answer {f fDO fRD Pt : Addr} {fd dDO dRD : FuncData} (F : Fun K "answer" "answer" sAnswer f fd) (T : Txt K mg C B eH eS eF eB eL) (TN : TxtN K w mg eD dW) (TX : TxtX K eH eS eF eB eL eD)
    (GDO : FnOk P w K mg base (L2N.CX P w) 7 fDO dDO ["pile", "deed"] (spDone K C B eH eS eF eB eL)) (FDO : Fun K "done" "done" sDoneP fDO dDO) (bDO : Binds K dDO ["pile", "deed"] []) (gDO : mg "done" = some (.ref fDO))
    (GRD : FnOk P w K mg base (L2.CX P w) 2 fRD dRD ["line"] (spRead Pt eD)) (FRD : Fun K "read" "read" sRead fRD dRD) (bRD : Binds K dRD ["line"] []) (gRD : mg "read" = some (.ref fRD)) :
    FnOk P w K mg base CX0 8 f fd ["pile", "line"] (spAnswer C B Pt) := by
  refine F.ok scAnswer (fun vs H Q E h => ?_) (fun cdv A outer s H vs Q E hr h => ?_)
  · obtain ⟨p, g, P, R, z, rfl, _⟩ := h
    rfl
  · obtain ⟨p, g, P0, R, z, rfl, A0, G0, hz, hmade, T0, k⟩ := h
    have nd := scAnswer.nd
    have hr7 : Room 7 _ := hr
    have hr2 : Room 2 _ := hr.mono (by decide)
    refine ⟨_, pss_cons (ps_try_mix (tb := fun W => tAsg (tCall (spDone K C B eH eS eF eB eL) [] (EWx W) (tCons (tVar 0) (tCons (tCall (spRead Pt eD) [] (EWx W) (tCons (tVar 1) tNil)) tNil))) (gName 2)) (Wout := fun _ _ _ _ => False) rfl rfl takes0
      (fun W pn xe tk _ => pss_one (ps_set (i := 2) nd rfl (Or.inl rfl) (pe_call (E := EWx W) GDO hr7 (by rfl) gDO FDO.kp bDO .nil (passes_callM tk (fun cls d σ H h => h σ)) (pa_cons (pv 0) (pa_cons (pe_call (E := EWx W) GRD hr2 (by rfl) gRD FRD.kp bRD .nil (passes_call tk (fun cls d σ H h => h σ)) (pa_cons (pv 1) pa_nil)) pa_nil)))))
      (.bare (ts := fun _ _ _ => tRet (tC (.str "no hand"))) ⟨rfl, by decide, .inl T.eH.g⟩ (fun a oe cls d pn _ _ => pss_one (ps_ret pe_str))
        (.bare (ts := fun _ _ _ => tRet (tC (.str "no size"))) ⟨rfl, by decide, .inl T.eS.g⟩ (fun a oe cls d pn _ _ => pss_one (ps_ret pe_str))
        (.bare (ts := fun _ _ _ => tRet (tC (.str "full"))) ⟨rfl, by decide, .inl T.eF.g⟩ (fun a oe cls d pn _ _ => pss_one (ps_ret pe_str))
        (.bare (ts := fun _ _ _ => tRet (tC (.str "no box"))) ⟨rfl, by decide, .inl T.eB.g⟩ (fun a oe cls d pn _ _ => pss_one (ps_ret pe_str))
        (.bare (ts := fun _ _ _ => tRet (tC (.str "no slot"))) ⟨rfl, by decide, .inl T.eL.g⟩ (fun a oe cls d pn _ _ => pss_one (ps_ret pe_str))
        (.bare (ts := fun _ _ _ => tRet (tC (.str "no deed"))) ⟨rfl, by decide, .inl TN.eD.g⟩ (fun a oe cls d pn _ _ => pss_one (ps_ret pe_str))
        .nil)))))))
      (pss_one (ps_ret (pe_op op_add_str pe_str (pe_orT (pe_join pe_str (pe_lc (own := [("number", 3)]) (g := gName 3) (tt := tYes) (te := tCB rStrE (tCons (tVar 3) tNil)) (by rfl) nd (pi_list (pv 2)) (blkOk_by (N := nAnswer) (sc := defScope sAnswer) (by decide +kernel)) (fun _ _ _ _ _ => pg_name (i := 3) nd rfl (Or.inl rfl)) (fun _ _ _ _ _ => pts_nil) (fun _ _ _ _ _ => pe_callTy call_strE (by rfl) TN.str (by decide +kernel) (pa_cons (pv 3) pa_nil)))) (pe_one pe_str))))), ?_⟩
    have T0' : GxR.TabG H Pt := TabG.of_same T0 A0.same
    refine ⟨_, rfl, _, rfl, z, rfl, by omega, T0', fun H1 P1 => ⟨fun u ns e t hn ht => ?_, fun e σ => ?_⟩⟩
    case refine_2.refine_2 =>
      obtain ⟨A1, PR⟩ := A0.past T0 P1
      have ea : ans P0 z = (P0, ("no deed" : Str)) := by unfold ans; rw [e]
      have kd := k g _ H1 PR (by rw [ea]; exact A1) (by rw [ea]; exact G0) (by rw [ea]; show P0.made ≤ _; omega) (by rw [ea]; show ("no deed" : Str).length ≤ _; decide +kernel)
      rw [ea] at kd
      exact ⟨false, TX.x (none) (some .hand), (fun q => nomatch q), fun _ => ⟨false, TX.x (none) (some .size), (fun q => nomatch q), fun _ => ⟨false, TX.x (none) (some .full), (fun q => nomatch q), fun _ => ⟨false, TX.x (none) (some .box), (fun q => nomatch q), fun _ => ⟨false, TX.x (none) (some .slot), (fun q => nomatch q), fun _ => ⟨true, TX.x (none) (none), fun _ a ha => kd, fun q => nomatch q⟩⟩⟩⟩⟩⟩
    obtain ⟨A1, PR⟩ := A0.past T0 P1
    obtain ⟨d, hd, hv⟩ := deedOf_vs e
    refine ⟨p, t, g, P0, _, d, rfl, A1, G0, SqT.of (by rw [ht, hv]), fun b eb σ => ?_, fun P' fr ef r g' H2 hr2' A2 => ?_⟩
    · have ea : ans P0 z = (P0, badW b) := by unfold ans; rw [e]; dsimp only; rw [hd]; dsimp only; rw [eb]
      have kbad := k g _ H1 PR (by rw [ea]; exact A1) (by rw [ea]; exact G0) (by rw [ea]; show P0.made ≤ _; omega) (by rw [ea]; exact badW_len b)
      rw [ea] at kbad
      cases b with
        | hand =>
          exact ⟨true, TX.x (some .hand) (some .hand), fun _ a ha => kbad, fun q => nomatch q⟩
        | size =>
          exact ⟨false, TX.x (some .size) (some .hand), (fun q => nomatch q), fun _ => ⟨true, TX.x (some .size) (some .size), fun _ a ha => kbad, fun q => nomatch q⟩⟩
        | full =>
          exact ⟨false, TX.x (some .full) (some .hand), (fun q => nomatch q), fun _ => ⟨false, TX.x (some .full) (some .size), (fun q => nomatch q), fun _ => ⟨true, TX.x (some .full) (some .full), fun _ a ha => kbad, fun q => nomatch q⟩⟩⟩
        | box =>
          exact ⟨false, TX.x (some .box) (some .hand), (fun q => nomatch q), fun _ => ⟨false, TX.x (some .box) (some .size), (fun q => nomatch q), fun _ => ⟨false, TX.x (some .box) (some .full), (fun q => nomatch q), fun _ => ⟨true, TX.x (some .box) (some .box), fun _ a ha => kbad, fun q => nomatch q⟩⟩⟩⟩
        | slot =>
          exact ⟨false, TX.x (some .slot) (some .hand), (fun q => nomatch q), fun _ => ⟨false, TX.x (some .slot) (some .size), (fun q => nomatch q), fun _ => ⟨false, TX.x (some .slot) (some .full), (fun q => nomatch q), fun _ => ⟨false, TX.x (some .slot) (some .box), (fun q => nomatch q), fun _ => ⟨true, TX.x (some .slot) (some .slot), fun _ a ha => kbad, fun q => nomatch q⟩⟩⟩⟩⟩
    · have ea : ans P0 z = (P', freesW fr) := by unfold ans; rw [e]; dsimp only; rw [hd]; dsimp only; rw [ef]
      obtain ⟨f1, f2, f3, f4⟩ := act_freed G0 ef
      have ff : ∀ n ∈ fr, 0 ≤ n ∧ n ≤ 1000000000 := fun n hn => by have := f2 n hn; omega
      obtain ⟨j1, j2, j3⟩ := freed_join f1 ff
      have kr : H2 r = some (.lst (fr.map V.int)) := A2.same _ _ upd_same
      refine ⟨⟨_, rfl⟩, _, rfl, r, rfl, ⟨_, SqL.of kr⟩, fun D hD => ?_⟩
      refine lc_it walk_list (fun j H' => Same H2 H' ∧ H' D = some (.lst (((fr.map fun n => (toString n : Str)).take j).map V.str))) ⟨samePut (fun _ _ e => e) hD _, upd_same⟩ (fun j H' _ ⟨S, _⟩ => SqL.of (S _ _ kr)) ?_ ?_
      · rintro j y H4 H5 hj ⟨S4, kd4⟩ ⟨rfl, hy⟩
        rw [List.getElem?_map] at hy
        cases en : fr[j]? with
        | none => rw [en] at hy; cases hy
        | some n =>
          rw [en] at hy
          have hy : y = V.int n := (Option.some.inj hy).symm
          subst hy
          have hn := ff n (List.mem_of_getElem? en)
          refine ⟨rfl, _, rfl, .inl ⟨n, rfl, log_nat9 hn.1 hn.2, ?_⟩⟩
          refine ⟨_, kd4, (by rw [List.length_map, List.length_take, List.length_map, sizeLine_eq]; omega), sameOff S4 hD _, ?_⟩
          rw [upd_same, takeS (i := j) (x := (toString n : Str)) (by rw [List.getElem?_map, en]; rfl), List.map_append]
          rfl
      rintro H4 ⟨S4, kD⟩
      rw [show (fr.map V.int).length = (fr.map fun n => (toString n : Str)).length from by rw [List.length_map, List.length_map], List.take_length] at kD
      refine ⟨_, D, _, rfl, rfl, .inl (SqL.of kD), j2, ?_⟩
      rw [txt_join]
      have A4 := A2.grow S4
      have PR2 : Past Pt R _ := PR.trans (Past.same PR.1 (same_upd (o := .lst (fr.map V.int)) hr2'))
      have e6 : ("frees " : Str).length = 6 := by decide +kernel
      have e4 : ("none" : Str).length = 4 := by decide +kernel
      have fl : (freesW fr).length ≤ 1000 := by
        unfold freesW
        rw [Str.length_append, e6]
        split
        · rw [e4]; omega
        · omega
      have kd := k g' _ H4 PR2 (by rw [ea]; exact A4) (by rw [ea]; exact G0.act ef) (by rw [ea]; exact f4) (by rw [ea]; exact fl)
      rw [ea] at kd
      refine ⟨_, ⟨by rw [sizeLine_eq]; omega, j3.symm⟩, ?_⟩
      by_cases c : fr = []
      · refine if_neg_of (decide_eq_false (fun q => q c)) ?_
        refine ⟨_, _, rfl, rfl, by rw [e6, e4, sizeLine_eq]; decide, ?_⟩
        unfold freesW at kd
        rw [if_pos c] at kd
        exact kd
      · refine if_pos_of (decide_eq_true c) ?_
        refine ⟨_, _, rfl, rfl, by rw [e6, sizeLine_eq]; omega, ?_⟩
        unfold freesW at kd
        rw [if_neg c] at kd
        exact kd
def spPlayed (K : PySem.W.Frag) (Pt : Addr) : Sp := fun vs H Q _ => ∃ (a : Addr) (zs : List Str), vs = [.ref a] ∧ SqL K H a (zs.map V.str) ∧ zs.length ≤ 100000 ∧ (∀ z ∈ zs, z.length ≤ 100000) ∧ GxR.TabG H Pt ∧
  ∀ (D : Addr) (H' : Hp), Past Pt H H' → H D = none → H' D = some (.lst ((answers pl0 zs).map V.str)) → Q (.ref D) H'
theorem ok_played {f fI fAN Pt : Addr} {fd dI dAN : FuncData} (F : Fun K "played" "played" sPlayed f fd) (T : Txt K mg C B eH eS eF eB eL) (MC : Mk K C fI) (GI : FnOk P w K mg base CX0 1 fI dI ["self"] (spInit C B)) (bI : Binds K dI ["self"] [])
    (GAN : FnOk P w K mg base CX0 8 fAN dAN ["pile", "line"] (spAnswer C B Pt)) (FAN : Fun K "answer" "answer" sAnswer fAN dAN) (bAN : Binds K dAN ["pile", "line"] []) (gAN : mg "answer" = some (.ref fAN)) :
    FnOk P w K mg base CX0 9 f fd ["lines"] (spPlayed K Pt) := by
  refine F.ok scPlayed (fun vs H Q E h => ?_) (fun cdv A outer s H vs Q E hr h => ?_)
  · obtain ⟨a, zs, rfl, _⟩ := h
    rfl
  · obtain ⟨a, zs, rfl, hS, hl, hz, hT, k⟩ := h
    have nd := scPlayed.nd
    have hr8 : Room 8 _ := hr
    have hr2 : Room 2 _ := hr.mono (by decide)
    refine ⟨_, (pss_cons (ps_set (i := 1) nd rfl (Or.inr rfl) (pe_make0 MC GI hr2 (by rfl) T.mgC bI .nil pass0))
      (pss_one (ps_ret (pe_lc (own := [("line", 2)]) (g := gName 2) (tt := tYes) (te := tCall (spAnswer C B Pt) [] E0 (tCons (tVar 1) (tCons (tVar 2) tNil))) (by rfl) nd (pi_list (pv 0)) (blkOk_by (N := nPlayed) (sc := defScope sPlayed) (by decide +kernel)) (fun _ _ _ _ _ => pg_name (i := 2) nd rfl (Or.inl rfl)) (fun _ _ _ _ _ => pts_nil) (fun _ _ _ _ _ => pe_call GAN hr8 (by rfl) gAN FAN.kp bAN .nil pass0 (pa_cons (pv 1) (pa_cons (pv 2) pa_nil))))))), ?_⟩
    intro x dx nx ndx nex
    refine ⟨H, x, dx, rfl, fun b o e => by rw [upd_ne (ne_of_none e nx), upd_ne (ne_of_none e ndx)]; exact e, nx, upd_same, fun g1 H1 A1 => ⟨rfl, ?_⟩⟩
    refine ⟨_, rfl, a, rfl, ⟨_, A1.same.seq hS⟩, fun D hD => ?_⟩
    have nD : H D = none := A1.same.free hD
    have nDP : D ≠ Pt := tab_ne hT nD
    refine lc_it walk_list (fun j H' => ∃ (g : Geo) (R' : Hp), Past Pt H R' ∧ R' D = some (.lst ((answers pl0 (zs.take j)).map V.str)) ∧ PileAt C B x g (plAt pl0 (zs.take j)) R' H' ∧ Good (plAt pl0 (zs.take j)) ∧ (plAt pl0 (zs.take j)).made ≤ (j : Int))
      ⟨g1, _, Past.same hT (samePut (fun _ _ e => e) nD _), upd_same, A1.new hD, good0, (by show (0 : Int) ≤ 0; decide)⟩ (fun j H' _ ⟨g, R', p1, _, A', _⟩ => A'.same.seq (p1.seq hT hS)) ?_ ?_
    · rintro j y H4 H5 hj ⟨g4, R4, p4, kD4, A4, G4, m4⟩ ⟨rfl, hy⟩
      rw [List.getElem?_map] at hy
      cases ez : zs[j]? with
      | none => rw [ez] at hy; cases hy
      | some z =>
        rw [ez] at hy
        have hy : y = V.str z := (Option.some.inj hy).symm
        subst hy
        have hjz : j < zs.length := (List.getElem?_eq_some_iff.mp ez).1
        refine ⟨rfl, _, rfl, _, rfl, x, g4, _, R4, z, rfl, A4, G4, hz z (List.mem_of_getElem? ez), by omega, p4.1, fun g5 R5 H6 q5 A5 G5 m5 _ => ?_⟩
        have kD5 := q5.2 _ _ nDP kD4
        rw [takeS ez]
        refine ⟨_, A5.same _ _ kD5, (by rw [List.length_map, answers_len, List.length_take, sizeLine_eq]; omega), g5, _, (p4.trans q5).set hT nD (.lst ((answers pl0 (zs.take j)).map V.str ++ [V.str (ans (plAt pl0 (zs.take j)) z).2])), ?_, ?_, ?_, ?_⟩
        · rw [upd_same, answers_snoc, List.map_append]
          rfl
        · rw [plAt_snoc]
          exact A5.set kD5
        · rw [plAt_snoc]
          exact G5
        · rw [plAt_snoc]
          omega
    rintro H4 ⟨g4, R4, p4, kD4, A4, G4, m4⟩
    rw [List.length_map, List.take_length] at kD4
    exact k D H4 (p4.trans (Past.same p4.1 A4.same)) nD (A4.same _ _ kD4)
end
end BP

/-! TwoP piles in one heap. Own work. -/
namespace BP
open PySem L2
/-- the address is one of the pile's own -/
def Mine (p : Addr) (g : Geo) (P : Pl) (b : Addr) : Prop := b = p ∨ b = g.lh ∨ b = g.db ∨ ∃ n c, get P.boxes n = some c ∧ (b = g.ba n ∨ b = g.sa n)
noncomputable def lackOf (p : Addr) (g : Geo) (P : Pl) (H : Hp) : Hp := fun b => @ite _ (Mine p g P b) (Classical.propDecidable _) none (H b)
theorem lack_mine {p : Addr} {g : Geo} {P : Pl} {H : Hp} {b : Addr} (h : Mine p g P b) : lackOf p g P H b = none := by unfold lackOf; rw [if_pos h]
theorem lack_not {p : Addr} {g : Geo} {P : Pl} {H : Hp} {b : Addr} (h : ¬ Mine p g P b) : lackOf p g P H b = H b := by unfold lackOf; rw [if_neg h]
section
variable {C B p q : Addr} {g g' : Geo} {P Q : Pl} {R R' Ra H H' : Hp}
theorem PileAt.mine_none (A : PileAt C B p g P R H) {b : Addr} (h : Mine p g P b) : R b = none := by
  rcases h with rfl | rfl | rfl | ⟨n, c, e, rfl | rfl⟩
  · exact A.rp
  · exact A.rh
  · exact A.rd
  · exact A.rb n c e
  · exact A.rs n c e
theorem PileAt.mine_some (A : PileAt C B p g P R H) {b : Addr} (h : Mine p g P b) : H b ≠ none := by
  rcases h with rfl | rfl | rfl | ⟨n, c, e, rfl | rfl⟩
  · rw [A.hp]; intro z; cases z
  · rw [A.hh]; intro z; cases z
  · rw [A.hd]; intro z; cases z
  · rw [A.hb n c e]; intro z; cases z
  · rw [A.hs n c e]; intro z; cases z
/-- the pile at p and the pile at q, and what else is known -/
def TwoP (C B p q : Addr) (P Q : Pl) (R H : Hp) : Prop := ∃ g g' Ra, PileAt C B p g P Ra H ∧ PileAt C B q g' Q R Ra
theorem TwoP.same (T : TwoP C B p q P Q R H) : Same R H := by
  obtain ⟨g, g', Ra, A, A'⟩ := T
  exact A'.same.trans A.same
theorem TwoP.swap (T : TwoP C B p q P Q R H) : TwoP C B q p Q P R H := by
  obtain ⟨g, g', Ra, A, A'⟩ := T
  have no : ∀ {b}, Ra b = none → ¬ Mine q g' Q b := fun h m => A'.mine_some m h
  have up : ∀ {b o}, Ra b = some o → H b = some o := fun h => A.same _ _ h
  have fr : ∀ {b}, Ra b = none → R b = none := fun h => A'.same.free h
  refine ⟨g', g, lackOf q g' Q H, ⟨fun b o e => ?_, lack_mine (.inl rfl), lack_mine (.inr (.inl rfl)), lack_mine (.inr (.inr (.inl rfl))), fun n c e => lack_mine (.inr (.inr (.inr ⟨n, c, e, .inl rfl⟩))), fun n c e => lack_mine (.inr (.inr (.inr ⟨n, c, e, .inr rfl⟩))),
      up A'.hp, up A'.hh, up A'.hd, fun n c e => up (A'.hb n c e), fun n c e => up (A'.hs n c e), A'.ib, A'.is, A'.hn⟩,
    ⟨fun b o e => ?_, fr A.rp, fr A.rh, fr A.rd, fun n c e => fr (A.rb n c e), fun n c e => fr (A.rs n c e), (lack_not (no A.rp)).trans A.hp, (lack_not (no A.rh)).trans A.hh, (lack_not (no A.rd)).trans A.hd, fun n c e => (lack_not (no (A.rb n c e))).trans (A.hb n c e), fun n c e => (lack_not (no (A.rs n c e))).trans (A.hs n c e), A.ib, A.is, A.hn⟩⟩
  · by_cases m : Mine q g' Q b
    · rw [lack_mine m] at e; cases e
    · rw [lack_not m] at e; exact e
  · rw [lack_not (fun m => by rw [A'.mine_none m] at e; cases e)]
    exact up (A'.same _ _ e)
/-- a call upon the first pile -/
theorem TwoP.open_ (T : TwoP C B p q P Q R H) : ∃ g Ra, PileAt C B p g P Ra H ∧ Same R Ra ∧ (∀ b, Ra b = none → R b = none) ∧ (∀ (g2 : Geo) (P2 : Pl) (H2 : Hp), PileAt C B p g2 P2 Ra H2 → TwoP C B p q P2 Q R H2) ∧
    (∀ (g2 : Geo) (P2 : Pl) (Ra2 H2 : Hp), Same Ra Ra2 → PileAt C B p g2 P2 Ra2 H2 → TwoP C B p q P2 Q (newK R Ra Ra2) H2) := by
  obtain ⟨g, g', Ra, A, A'⟩ := T
  exact ⟨g, Ra, A, A'.same, fun b h => A'.same.free h, fun g2 P2 H2 A2 => ⟨g2, g', Ra, A2, A'⟩, fun g2 P2 Ra2 H2 s A2 => ⟨g2, g', Ra2, A2, A'.fresh s⟩⟩
theorem TwoP.new (T : TwoP C B p q P Q R H) {a : Addr} {o : HO} (h : H a = none) : TwoP C B p q P Q (upd R a o) (upd H a o) := by
  obtain ⟨g, g', Ra, A, A'⟩ := T
  exact ⟨g, g', _, A.new h, A'.new (A.same.free h)⟩
theorem TwoP.less (T : TwoP C B p q P Q R H) (s : Same R' R) : TwoP C B p q P Q R' H := by
  obtain ⟨g, g', Ra, A, A'⟩ := T
  exact ⟨g, g', Ra, A, A'.less s⟩
theorem TwoP.grow (T : TwoP C B p q P Q R H) (s : Same H H') : TwoP C B p q P Q R H' := by
  obtain ⟨g, g', Ra, A, A'⟩ := T
  exact ⟨g, g', Ra, A.grow s, A'⟩
theorem TwoP.know (T : TwoP C B p q P Q R H) {r : Addr} {o : HO} (hr : H r = none) (s : Same H H') (e : H' r = some o) : TwoP C B p q P Q (upd R r o) H' := by
  obtain ⟨g, g', Ra, A, A'⟩ := T
  exact ⟨g, g', _, A.know hr s e, A'.new (A.same.free hr)⟩
end
/-- what a pile tells of its lists -/
def rowsOf (bs : List (Int × Bx)) (sus : List Int) : List (List (Option Int)) := (keys bs).map some :: sus.map some :: (keys bs).map fun n => (get bs n).elim [] Bx.slots
def HeldAt (R0 R : Hp) : List Addr → List (List (Option Int)) → Prop := Paired fun q row => ∃ f c, (R0 q = none ∧ R0 f = none ∧ R0 c = none) ∧ R q = some (.tup [.ref f, .ref c]) ∧ R f = some (.lst (lV row)) ∧ R c = some (.lst (lV row))
def RowsAt (R0 R : Hp) : List Addr → List (List (Option Int)) → Prop := Paired fun t row => R0 t = none ∧ R t = some (.lst (lV row))
theorem HeldAt.same {R0 R R' : Hp} (s : Same R R') {qs : List Addr} {rows : List (List (Option Int))} (h : HeldAt R0 R qs rows) : HeldAt R0 R' qs rows := paired_imp (fun _ _ ⟨f, c, h0, h1, h2, h3⟩ => ⟨f, c, h0, s _ _ h1, s _ _ h2, s _ _ h3⟩) h
theorem RowsAt.same {R0 R R' : Hp} (s : Same R R') {ts : List Addr} {rows : List (List (Option Int))} (h : RowsAt R0 R ts rows) : RowsAt R0 R' ts rows := paired_imp (fun _ _ h => ⟨h.1, s _ _ h.2⟩) h
theorem HeldAt.newK {R R0 R1 : Hp} {qs : List Addr} {rows : List (List (Option Int))} (h : HeldAt R0 R1 qs rows) (E0 : Hp) (h0 : ∀ b, R0 b = none → E0 b = none) : HeldAt E0 (newK R R0 R1) qs rows :=
  paired_imp (fun _ _ ⟨f, c, ⟨a1, a2, a3⟩, h1, h2, h3⟩ => ⟨f, c, ⟨h0 _ a1, h0 _ a2, h0 _ a3⟩, (newK_new a1).trans h1, (newK_new a2).trans h2, (newK_new a3).trans h3⟩) h
theorem RowsAt.newK {R R0 R1 : Hp} {ts : List Addr} {rows : List (List (Option Int))} (h : RowsAt R0 R1 ts rows) (E0 : Hp) (h0 : ∀ b, R0 b = none → E0 b = none) : RowsAt E0 (newK R R0 R1) ts rows :=
  paired_imp (fun _ _ h => ⟨h0 _ h.1, (newK_new h.1).trans h.2⟩) h
theorem rows_len {P : Pl} (W : Wf P []) : (rowsOf P.boxes (susp P)).length ≤ 62 := by
  unfold rowsOf
  rw [List.length_cons, List.length_cons, List.length_map]
  have := W.few
  rw [show (keys P.boxes).length = P.boxes.length from List.length_map _]
  omega
theorem row_le {P : Pl} (W : Wf P []) : ∀ row, row ∈ P.hands :: rowsOf P.boxes (susp P) → row.length ≤ 60 := fun row h => by
  have few := W.few
  have ek : (keys P.boxes).length = P.boxes.length := List.length_map _
  rcases List.mem_cons.mp h with rfl | h
  · rw [W.hl]; decide
  · unfold rowsOf at h
    rcases List.mem_cons.mp h with rfl | h
    · rw [List.length_map]; omega
    · rcases List.mem_cons.mp h with rfl | h
      · rw [List.length_map]
        have : (susp P).length ≤ (keys P.boxes).length := List.length_filter_le _ _
        omega
      · obtain ⟨n, hn, rfl⟩ := List.mem_map.mp h
        obtain ⟨b, hb⟩ := get_keys.mpr hn
        rw [hb]
        show b.slots.length ≤ 60
        have := W.sl n b hb
        omega
/-- their data -/
def dOf : Option Int → PyData
  | none => .none
  | some n => .int n
def dRow (l : List (Option Int)) : PyData := .list (l.map dOf)
theorem dp_all {K : PySem.W.Frag} {H : Hp} : ∀ l : List (Option Int), DpAll K H (lV l) (l.map dOf)
  | [] => .nil
  | none :: l => .cons .non (dp_all l)
  | some n :: l => .cons (.int n) (dp_all l)
theorem dp_row {K : PySem.W.Frag} {H : Hp} {a : Addr} {l : List (Option Int)} (h : H a = some (.lst (lV l))) : Dp K H (.ref a) (dRow l) := .lst (SqL.of h) (dp_all l)
theorem dp_rows {K : PySem.W.Frag} {R0 H : Hp} : ∀ {ts : List Addr} {rows : List (List (Option Int))}, RowsAt R0 H ts rows → DpAll K H (ts.map V.ref) (rows.map dRow)
  | _, _, .nil => .nil
  | _, _, .cons r t => .cons (dp_row r.2) (dp_rows t)
end BP
namespace BP
open PySem L2
theorem lay_row : ∀ l : List (Option Int), PyData.canLayAll0 (l.map dOf) = true
  | [] => rfl
  | none :: l => by
    have := lay_row l
    show (PyData.canLay0 .none && _) = true
    rw [this]; rfl
  | some n :: l => by
    have := lay_row l
    show (PyData.canLay0 (.int n) && _) = true
    rw [this]; rfl
theorem lay_rows : ∀ rows : List (List (Option Int)), PyData.canLayAll0 (rows.map dRow) = true
  | [] => rfl
  | l :: rows => by
    have := lay_rows rows
    show (PyData.canLayAll0 (l.map dOf) && _) = true
    rw [this, lay_row]; rfl
theorem dep_row : ∀ l : List (Option Int), PyData.depthAll (l.map dOf) = 0
  | [] => rfl
  | none :: l => by
    have := dep_row l
    show max 0 (PyData.depthAll (l.map dOf)) = 0
    rw [this]; rfl
  | some n :: l => by
    have := dep_row l
    show max 0 (PyData.depthAll (l.map dOf)) = 0
    rw [this]; rfl
theorem dep_rows : ∀ rows : List (List (Option Int)), PyData.depthAll (rows.map dRow) ≤ 1
  | [] => by decide
  | l :: rows => by
    have := dep_rows rows
    show max (PyData.depthAll (l.map dOf) + 1) _ ≤ 1
    rw [dep_row]
    exact Nat.max_le.mpr ⟨Nat.le_refl _, this⟩
theorem shaped_row (l : List (Option Int)) : SeqAt.shaped (dRow l) = true := by
  unfold SeqAt.shaped
  rw [show (dRow l).canLay0 = true from lay_row l, show (dRow l).depth = 1 from by show PyData.depthAll (l.map dOf) + 1 = 1; rw [dep_row]]
  rfl
theorem shaped_rows (rows : List (List (Option Int))) : SeqAt.shaped (.list (rows.map dRow)) = true := by
  have h : (PyData.list (rows.map dRow)).depth ≤ 2 := by
    have := dep_rows rows
    show PyData.depthAll _ + 1 ≤ 2
    omega
  unfold SeqAt.shaped
  rw [show (PyData.list (rows.map dRow)).canLay0 = true from lay_rows rows, decide_eq_true (by omega)]
  rfl
theorem eqv_row (l : List (Option Int)) : PyData.eqv (dRow l) (dRow l) = true := SeqAt.eqv_refl _ (lay_row l)
theorem eqv_rows (rows : List (List (Option Int))) : PyData.eqv (.list (rows.map dRow)) (.list (rows.map dRow)) = true := SeqAt.eqv_refl _ (lay_rows rows)
end BP

/-! What a tidy leaves. Own work; core Lean alone but for the pile's import. -/
namespace BP
theorem due_eq {P : Pl} {row : List Int} (h : ∀ n, n ∈ row ↔ HL P n) : (keys P.boxes).filter (fun n => decide (n ∉ row)) = deadF P := by
  unfold deadF
  refine List.filter_congr fun n _ => ?_
  have := h n
  by_cases c : n ∈ row
  · rw [decide_eq_false (fun z => z c), @decide_eq_false _ (Classical.propDecidable _) (fun z => z (this.mp c))]
  · rw [decide_eq_true c, @decide_eq_true _ (Classical.propDecidable _) (fun z => c (this.mpr z))]
theorem near_eq {P : Pl} {w : List (Option Int)} (W : Wf P w) {ys : List Int} (hs : ys.Pairwise (· < ·)) (h : ∀ n, n ∈ ys ↔ HL P n) : keys (tidied P (deadF P)).boxes = ys := by
  refine sorted_ext (by rw [keys_tidied]; exact W.ks.filter _) hs fun n => ?_
  rw [keys_tidied, List.mem_filter, h n]
  constructor
  · rintro ⟨h1, h2⟩
    have h3 : n ∉ deadF P := of_decide_eq_true h2
    exact Classical.byContradiction fun z => h3 (mem_deadF.mpr ⟨get_keys.mpr h1, z⟩)
  · intro hl
    exact ⟨get_keys.mp (hl.alive W), decide_eq_true fun z => (mem_deadF.mp z).2 hl⟩
theorem deadF_tidied {P : Pl} (G : Good P) : deadF (tidied P (deadF P)) = [] := by
  rw [List.eq_nil_iff_forall_not_mem]
  intro n hn
  obtain ⟨⟨b, hb⟩, h2⟩ := mem_deadF.mp hn
  exact h2 (tidied_hl G.wf (dead_deadF P) hb).1
/-- the slots of a box by its number -/
def slo (bs : List (Int × Bx)) (n : Int) : List (Option Int) := match get bs n with
  | none => []
  | some b => b.slots
theorem slo_of {bs : List (Int × Bx)} {n : Int} {b : Bx} (h : get bs n = some b) : slo bs n = b.slots := by unfold slo; rw [h]
theorem cnt_flat (n : Int) : ∀ ls : List (List (Option Int)), cnt ls.flatten n = (ls.map fun l => cnt l n).sum
  | [] => rfl
  | l :: ls => by rw [List.flatten_cons, cnt_append, List.map_cons, List.sum_cons, cnt_flat n ls]
theorem scnt_slo (n : Int) : ∀ {bs : List (Int × Bx)}, (keys bs).Nodup → scnt bs n = ((keys bs).map fun k => cnt (slo bs k) n).sum := fun {bs} hn => by
  unfold scnt keys
  rw [List.map_map]
  congr 1
  refine List.map_congr_left fun e he => ?_
  show _ = cnt (slo bs e.1) n
  rw [slo_of (mem_get hn (show (e.1, e.2) ∈ bs from he))]
theorem get_tidied_of {P : Pl} {F : List Int} {n : Int} {b : Bx} (h : get (tidied P F).boxes n = some b) : ∃ c, get P.boxes n = some c ∧ c.slots = b.slots ∧ n ∉ F := by
  rw [get_tidied] at h
  by_cases c : n ∈ F
  · rw [if_pos c] at h; cases h
  · rw [if_neg c] at h
    cases q : get P.boxes n with
    | none => rw [q] at h; cases h
    | some d =>
      rw [q] at h
      refine ⟨d, rfl, ?_, c⟩
      rw [← Option.some.inj h]
/-- pointers told weigh what is told -/
theorem weighs_eq {P : Pl} (G : Good P) {n : Int} {b : Bx} (hb : get (tidied P (deadF P)).boxes n = some b) : b.wt = ((cnt (P.hands ++ ((keys (tidied P (deadF P)).boxes).map (slo P.boxes)).flatten) n : Nat) : Int) := by
  have G2 := G.tidied (dead_deadF P)
  have h1 := (G2.wf.wt n b hb).1
  rw [h1, cnt_nil, cnt_append, cnt_flat, List.map_map, scnt_slo n G2.wf.nd]
  have : ((keys (tidied P (deadF P)).boxes).map fun k => cnt (slo (tidied P (deadF P)).boxes k) n) = (keys (tidied P (deadF P)).boxes).map ((fun l => cnt l n) ∘ slo P.boxes) := by
    refine List.map_congr_left fun k hk => ?_
    obtain ⟨c, hc⟩ := get_keys.mpr hk
    obtain ⟨d, hd, es, _⟩ := get_tidied_of hc
    show cnt (slo (tidied P (deadF P)).boxes k) n = cnt (slo P.boxes k) n
    rw [slo_of hc, slo_of hd, es]
  rw [this]
  show ((cnt P.hands n + _ + 0 : Nat) : Int) = _
  rw [Nat.add_zero]
theorem flat_len {P : Pl} {w : List (Option Int)} (W : Wf P w) : ∀ ys : List Int, ((ys.map (slo P.boxes)).flatten).length ≤ 6 * ys.length
  | [] => Nat.le_refl _
  | y :: ys => by
    have ih := flat_len W ys
    rw [List.map_cons, List.flatten_cons, List.length_append, List.length_cons]
    have : (slo P.boxes y).length ≤ 6 := by
      unfold slo
      cases q : get P.boxes y with
      | none => exact Nat.zero_le _
      | some b => exact W.sl y b q
    omega
theorem perm_sorted_eq {a b l : List Int} (ha : a.Perm l) (hb : b.Perm l) (sa : a.Pairwise (· ≤ ·)) (sb : b.Pairwise (· ≤ ·)) : a = b :=
  (ha.trans hb.symm).eq_of_pairwise (fun x y _ _ h1 h2 => Int.le_antisymm h1 h2) sa sb
end BP

/-! o.m(e, ..) within a try whose clause reads the slots. Own work. -/
namespace BP
open PySem PySem.Spec L2
open PyProof.Rows hiding St
def tMethE (C : Addr) (m : Str) (sp : Sp) (E : St → XK) (ta : TE) (t : TA) : TE := fun σ H Q => ta σ H fun x H1 => ∃ a dx fs, x = .ref a ∧ H1 a = some (.ins C dx fs) ∧ fs.lookup m = none ∧ t σ H1 fun vs H2 => sp (x :: vs) H2 Q (E σ)
section
variable {X : Cx} {CX : CXT} {k : Nat} {f C : Addr} {fd : FuncData} {ps : List Str} {sp : Sp} {E : St → XK} {x m : Str} {p pos apos : Pos} {e o : Expr} {es : List Expr} {ta : TE} {t : TA}
theorem pe_methE {pl : Sem Bool} (he : PE X o ta) (c : Cls X.K C) (hm : Meth X.K C m f) (F : FnOk X.prog X.w X.K X.mg X.base CX k f fd ps sp) (hr : Room k X.A) (hb : Binds X.K fd ps []) (hx : ∀ σ, PassesAt CX X σ (E σ)) (ha : PA X (e :: es) t)
    (hst : starEach (e :: es) X.env = (false, eval e X.env) :: starEach es X.env := by rfl) (hpl : (backTo pos (starEach es X.env)).any (·.1) = false := by rfl)
    (ht : eval (.Call (.Attribute o m apos) (e :: es) [] pos) X.env = (do
      let ov ← eval o X.env
      standAt apos.atName
      let (f, first) ← holding [ov] (getMethod ov m pl)
      callWith pos f first (backTo pos (starEach (e :: es) X.env)) (backToKw pos (keywordEach [] X.env))) := by rfl) :
    PE X (.Call (.Attribute o m apos) (e :: es) [] pos) (tMethE C m sp E ta t) := by
  refine ⟨fun pins s σ H Q I h => ?_⟩
  refine PySem.W.methodCall_KW (pl := pl) (thn (he.run pins s σ H _ I h) fun u s1 ⟨x, H1, I1, rx, a, dx, fs, ex, ea, l, q⟩ => ?_) ht
  subst ex
  obtain rfl : u = Value.ref a := rx
  refine getmeth_ok I1 ea c hm l ?_
  refine PySem.W.callWith_K (first := [.ref a]) (h₀ := X.base) I.ok.mod.kin hm.kp (thn (ha.run pos pins s1 σ H1 _ I1 q) fun us s2 ⟨vs, H2, I2, r, q2⟩ => ⟨I2.kIn, ?_⟩) hst hpl
  exact run_fnS (us := .ref a :: us) (vs := .ref a :: vs) F hr hb (hx σ) I2 (.cons rfl r) q2
end
end BP

/-! Boxes made until there are sixty. Own work; core Lean alone. -/
namespace BP
def Even (P : Pl) : Prop := ∃ x, P.hands.getD 1 none = some x ∧ P.hands.getD 2 none = some x
def f1 (P : Pl) : Pl := (mk P 2 1).1
def f2 (P : Pl) : Pl := (ptSlot (f1 P) P.made 0 ((f1 P).hands.getD 1 none)).1
def f3 (P : Pl) : Pl := (ptHand (f2 P) 1 ((f2 P).hands.getD 2 none)).1
theorem len_of_keys {as bs : List (Int × Bx)} (h : keys as = keys bs) : as.length = bs.length := by
  have e1 : as.length = (keys as).length := (List.length_map _).symm
  have e2 : bs.length = (keys bs).length := (List.length_map _).symm
  rw [e1, e2, h]
theorem stay_len {S : Pl} {o : Option Int} (W : Wf S [o]) (ho : ∀ n, o = some n → 0 < cnt S.hands n + scnt S.boxes n) : (run S.boxes [o]).1.length = S.boxes.length := by
  obtain ⟨_, h | ⟨n, h⟩⟩ := stay W ho
  · rw [h]
  · rw [h]
    exact len_of_keys (keys_chg ..)
theorem f1_hands (P : Pl) : (f1 P).hands = P.hands.set 2 (some P.made) := rfl
theorem f2_hands (P : Pl) : (f2 P).hands = (f1 P).hands := rfl
theorem f3_hands (P : Pl) : (f3 P).hands = (f2 P).hands.set 1 ((f2 P).hands.getD 2 none) := rfl
theorem made_f (P : Pl) : (f1 P).made = P.made + 1 ∧ (f2 P).made = P.made + 1 ∧ (f3 P).made = P.made + 1 := ⟨rfl, rfl, rfl⟩
theorem fill_ok {P : Pl} (G : Good P) (hf : P.boxes.length < 60) : Good (f1 P) ∧ (∃ b, get (f1 P).boxes P.made = some b ∧ b.slots = [none]) ∧ (f1 P).hands.getD 2 none = some P.made ∧ Good (f2 P) ∧ Good (f3 P) ∧ Even (f3 P) ∧
    (Even P → (f3 P).boxes.length = P.boxes.length + 1) := by
  have hl := G.wf.hl
  have G1 : Good (f1 P) := G.make (by decide) (by decide) hf
  have h2 : (f1 P).hands.getD 2 none = some P.made := by rw [f1_hands]; exact getD_set_on _ (by omega)
  obtain ⟨b, hb⟩ := G1.wf.hand h2
  have bs : b.slots = [none] := by
    rcases mk_slots G.wf hb with ⟨_, h⟩ | ⟨c, hc, _⟩
    · exact h
    · have := G.wf.lo _ (get_keys.mp ⟨c, hc⟩)
      omega
  have ok1 : ∀ n, (f1 P).hands.getD 1 none = some n → ∃ b, get (f1 P).boxes n = some b := fun n e => G1.wf.hand e
  have G2 : Good (f2 P) := G1.slot hb (by rw [bs]; decide) ok1
  have G3 : Good (f3 P) := G2.hold (i := 1) (j := 2) (by decide)
  have h2' : (f2 P).hands.getD 2 none = some P.made := h2
  refine ⟨G1, ⟨b, hb, bs⟩, h2, G2, G3, ⟨P.made, ?_, ?_⟩, ?_⟩
  · rw [f3_hands, h2']
    exact getD_set_on _ (by rw [G2.wf.hl]; decide)
  · rw [f3_hands, getD_set_off _ (by decide)]
    exact h2'
  · rintro ⟨x, x1, x2⟩
    have mem1 : ∀ {l : List (Option Int)} {i : Nat} {x : Int}, l.getD i none = some x → some x ∈ l := fun {l i x} e => by
      rw [List.getD_eq_getElem?_getD] at e
      cases q : l[i]? with
      | none => rw [q] at e; cases e
      | some o =>
        rw [q] at e
        have e : o = some x := e
        rw [← e]
        exact List.mem_of_getElem? q
    -- the new box
    have l1 : (f1 P).boxes.length = P.boxes.length + 1 := by
      have W := (G.wf.born (size := 1) (by decide) hf).hand (i := 2) (by decide)
      have := stay_len W fun n e => by
        have e : P.hands.getD 2 none = some n := e
        rw [x2] at e
        cases e
        refine Nat.lt_of_lt_of_le (cnt_pos.mpr ?_) (Nat.le_add_right _ _)
        show some x ∈ P.hands.set 2 (some P.made)
        exact mem1 (i := 1) (by rw [getD_set_off _ (by decide)]; exact x1)
      refine Eq.trans this ?_
      show (bumped (born P 1).boxes (some P.made)).length = _
      rw [len_bumped]
      show (P.boxes ++ [_]).length = _
      rw [List.length_append]
      rfl
    have l2 : (f2 P).boxes.length = (f1 P).boxes.length := by
      show (run (chg (bumped (f1 P).boxes ((f1 P).hands.getD 1 none)) P.made (setSlot 0 ((f1 P).hands.getD 1 none))) [slotOf (f1 P).boxes P.made 0]).1.length = _
      rw [show slotOf (f1 P).boxes P.made 0 = none from by unfold slotOf; rw [hb]; dsimp only; rw [bs]; rfl, run_none]
      exact (len_of_keys (keys_chg ..)).trans len_bumped
    have l3 : (f3 P).boxes.length = (f2 P).boxes.length := by
      have Pr : Pre (f2 P) ((f2 P).hands.getD 2 none) := G2.wf.pre fun n e => G2.wf.hand e
      have W := Pr.hand (i := 1) (by decide)
      have := stay_len W fun n e => by
        have e : (f1 P).hands.getD 1 none = some n := e
        have e' := e
        rw [f1_hands, getD_set_off _ (by decide), x1] at e'
        cases e'
        obtain ⟨b2, hb2⟩ := G2.wf.hand h2'
        obtain ⟨c, hc, sl⟩ := ptSlot_slots hb2
        rw [if_pos rfl, e] at sl
        have ec : c = b := Option.some.inj (hc.symm.trans hb)
        rw [ec, bs] at sl
        have : 0 < cnt b2.slots x := cnt_pos.mpr (by rw [sl]; exact List.mem_cons_self)
        have := scnt_le x hb2
        show 0 < cnt _ x + scnt (bumped (f2 P).boxes _) x
        rw [scnt_bumped]
        omega
      exact this.trans len_bumped
    rw [l3, l2, l1]
end BP

/-! One hundred and eighty-one lines, as they are answered. Own work. -/
namespace BP
open PySem L2
def actC (P : Pl) : Deed → Res
  | .make h z => if ¬ OkH h then .bad .hand else if ¬ (0 ≤ z ∧ z ≤ 6) then .bad .size else if 60 ≤ P.boxes.length then .bad .full else .fine (mk P h.toNat z.toNat).1 (mk P h.toNat z.toNat).2
  | .hold h o => if ¬ OkH h then .bad .hand else if ¬ OkH o then .bad .hand else .fine (ptHand P h.toNat (P.hands.getD o.toNat none)).1 (ptHand P h.toNat (P.hands.getD o.toNat none)).2
  | .put h s o => if ¬ OkH h then .bad .hand else if ¬ OkH o then .bad .hand else atSlot P h s fun n _ => .fine (ptSlot P n s.toNat (P.hands.getD o.toNat none)).1 (ptSlot P n s.toNat (P.hands.getD o.toNat none)).2
  | _ => .bad .hand
inductive Plain : Deed → Prop
  | make (h z : Int) : Plain (.make h z)
  | hold (h o : Int) : Plain (.hold h o)
  | put (h s o : Int) : Plain (.put h s o)
theorem act_c (P : Pl) {d : Deed} (h : Plain d) : act P d = actC P d := by cases h <;> rfl
def ansC (P : Pl) (d : Deed) : Pl × Str := match actC P d with
  | .bad e => (P, badW e)
  | .fine P' f => (P', freesW f)
def answersC (P : Pl) : List Deed → List Str
  | [] => []
  | d :: ds => (ansC P d).2 :: answersC (ansC P d).1 ds
def Says (z : Str) (d : Deed) : Prop := Plain d ∧ ∃ u ns, readP (Txt.split z " ") = some (u, ns) ∧ deedOf u ns = some d
theorem ans_c (P : Pl) {z : Str} {d : Deed} (h : Says z d) : ans P z = ansC P d := by
  obtain ⟨hp, u, ns, h1, h2⟩ := h
  unfold ans ansC
  rw [h1]
  dsimp only
  rw [h2]
  dsimp only
  rw [act_c P hp]
  first | done | (cases actC P d <;> rfl)
theorem answers_c : ∀ (zs : List Str) (ds : List Deed) (P : Pl), Paired Says zs ds → answers P zs = answersC P ds
  | _, _, P, .nil => rfl
  | _ :: _, _ :: _, P, .cons (a := z) (b := d) h t => by
    show (ans P z).2 :: answers (ans P z).1 _ = (ansC P d).2 :: answersC (ansC P d).1 _
    rw [ans_c P h, answers_c _ _ _ t]
def three : List Str := ["make 2 1", "put 2 0 1", "hold 1 2"]
def threeD : List Deed := [.make 2 1, .put 2 0 1, .hold 1 2]
def lines181 : List Str := (List.replicate 60 three).flatten ++ [("make 3 0" : Str)]
def deeds181 : List Deed := (List.replicate 60 threeD).flatten ++ [.make 3 0]
theorem r1 : readP (Txt.split ("make 2 1" : Str) " ") = some (("make" : Str), [2, 1]) := by decide +kernel
theorem r2 : readP (Txt.split ("put 2 0 1" : Str) " ") = some (("put" : Str), [2, 0, 1]) := by decide +kernel
theorem r3 : readP (Txt.split ("hold 1 2" : Str) " ") = some (("hold" : Str), [1, 2]) := by decide +kernel
theorem r4 : readP (Txt.split ("make 3 0" : Str) " ") = some (("make" : Str), [3, 0]) := by decide +kernel
theorem d1 : deedOf "make" [2, 1] = some (.make 2 1) := if_pos rfl
theorem d4 : deedOf "make" [3, 0] = some (.make 3 0) := if_pos rfl
theorem d3 : deedOf "hold" [1, 2] = some (.hold 1 2) := by
  unfold deedOf
  rw [if_neg (by decide +kernel), if_pos rfl]
  rfl
theorem d2 : deedOf "put" [2, 0, 1] = some (.put 2 0 1) := by
  unfold deedOf
  rw [if_neg (by decide +kernel), if_neg (by decide +kernel), if_neg (by decide +kernel), if_pos rfl]
  rfl
theorem said : Paired Says lines181 deeds181 := by
  have t3 : Paired Says three threeD := .cons ⟨.make _ _, _, _, r1, d1⟩ (.cons ⟨.put _ _ _, _, _, r2, d2⟩ (.cons ⟨.hold _ _, _, _, r3, d3⟩ .nil))
  have tn : ∀ n, Paired Says (List.replicate n three).flatten (List.replicate n threeD).flatten := fun n => by
    induction n with
    | zero => exact .nil
    | succ n ih =>
      rw [List.replicate_succ, List.replicate_succ, List.flatten_cons, List.flatten_cons]
      exact paired_app t3 ih
  exact paired_app (tn 60) (.cons ⟨.make _ _, _, _, r4, d4⟩ .nil)
theorem told181 : (answersC pl0 deeds181)[180]? = some ("full" : Str) ∧ (answersC pl0 deeds181)[177]? = some ("frees none" : Str) := by decide +kernel
end BP

/-! Within an except suite: sorted of a dict's whole numbers; a def that sorts. Own work. -/
namespace BP
open PySem PySem.Spec PySem.Calls HotX
open PyProof.Rows hiding St
section
variable {prog : Program} {w : World} {κ : Type} [DecidableEq κ] {knd : KeyKind prog w κ} {A : Around} {E : Value → Shared → Prop} {s : Shared}
theorem dict_end_hot {it d x1 : Addr} {i ep : Nat} {kvs : List (κ × Value)} {Q : Option Value → Shared → Prop} (hot : HotAt A x1 s.heap) (nx : x1 ≠ it) (hit : s.heap.IsKeyIter it d i kvs.length ep)
    (hm : s.heap.DictAt knd d kvs ep) (hx : kvs[i]? = none)
    (hQ : ∀ h', Heap.ExtBut it s.heap h' → Q none { s with heap := h' }) : wpAny (model prog w) A (pyNext (.ref it)) Q E s := by
  obtain ⟨o, ho, hc, hd⟩ := id hit
  obtain ⟨od, es, hod, hcd, hdd, hk, hp, hn⟩ := id hm
  obtain ⟨hh, o1, vs1, h1, d1, c1⟩ := hot
  unfold pyNext
  refine wpAny_bind (wpAny_attempt (wpAny_callSpecial?_slot (name := Str.ofString "__next__") hit.typeIs F.slot_dict_keyiterator_next
    (wpAny_call_entry F.slot_dict_keyiterator_next hit.typeIs F.entry_dict_keyiterator_next ?_ (F.args_dict_keyiterator_next_1 _))))
  refine wpAny_bind (wpAny_pure ?_)
  refine wpAny_bind ?_
  refine wpAny_bind ?_
  first | refine wpAny_bind (wpAny_typeNameOfWhole_keyiter hit.typeIs (wpAny_pure ?_)) | refine wpAny_bind (wpAny_typeNameOf_keyiter hit.typeIs (wpAny_pure ?_))
  refine wpAny_bind (wpAny_fieldsOf ho hd ?_)
  have hown : Builtin.Dict_items.ownsTuple "dict_keyiterator" = false := by decide
  simp only [hown, Bool.false_eq_true, if_false]
  show wpAny _ _ (if (Value.ref d == Value.none) = true then _ else _) _ _ s
  rw [if_neg (show ¬ ((Value.ref d == Value.none) = true) from Bool.false_ne_true)]
  refine wpAny_bind (wpAny_pure ?_)
  refine wpAny_bind (wpAny_dictEntries hod hdd ?_)
  have hsz : es.size = kvs.length := by rw [← hp.length]; simp
  rw [if_neg (by rw [hsz]; simp)]
  refine wpAny_bind (wpAny_pure ?_)
  refine wpAny_bind (wpAny_dictEpoch hod hdd ?_)
  rw [if_neg (by simp)]
  refine wpAny_pure ?_
  have hge : es.size ≤ i := by rw [hsz]; simpa using hx
  simp only [show ¬ ((i : Int) < 0) from by omega, if_false, Int.toNat_natCast, Array.getElem?_eq_none hge]
  refine wpAny_bind ?_
  first | refine wpAny_bind (wpAny_typeNameOfWhole_keyiter hit.typeIs (wpAny_pure ?_)) | refine wpAny_bind (wpAny_typeNameOf_keyiter hit.typeIs (wpAny_pure ?_))
  show wpAny _ _ (setField (.ref it) 0 .none >>= _) _ _ s
  refine wpAny_bind (wpAny_setField ho hd (by simp) ?_)
  show wpAny _ _ (newExc (.type "StopIteration") [] >>= _) _ _ _
  refine wpAny_bind ?_
  simp only [newExc, newTuple]
  refine wpAny_bind (wpAny_newObj_type ?_ (by size_fits))
  refine wpAny_bind (m := firstArgMember _ _) (wpAny_of_eq (a := Value.none) (by first | rfl | (simp only [firstArgMember]; rfl)) ?_)
  refine wpAny_newObj_type ?_ (by size_fits)
  have up : ∀ b o', b ≠ it → s.heap.get? b = some o' → (s.heap.update it (Obj.mapFields (·.setIfInBounds 0 Value.none))).get? b = some o' := fun b o' nb e => by
    rw [Heap.get?_update_other _ _ nb.symm]
    exact e
  have h1' := up x1 o1 nx h1
  refine raiseNew_hot ⟨hh, o1, vs1, Heap.get?_push_of_some _ (Heap.get?_push_of_some _ h1'), d1, c1⟩ (Nat.ne_of_lt (Heap.lt_size (Heap.get?_push_of_some _ h1'))) (Heap.get?_push_size _ rfl) rfl (by first | (simp; done) | (simp; omega) | (simp only [Array.size_append]; simp; omega)) ?_
  refine wpAny_bind (wpAny_isInstance (T := "StopIteration") (b := true) ⟨_, Heap.get?_update_self _ (Heap.get?_push_size _ rfl) rfl, rfl⟩ isSubtype_stop ?_)
  refine wpAny_pure (hQ _ fun b o' nb e => ?_)
  rw [Heap.get?_update_other _ _ (Nat.ne_of_gt (Heap.lt_size (Heap.get?_push_of_some _ (up b o' nb e))))]
  exact Heap.get?_push_of_some _ (Heap.get?_push_of_some _ (up b o' nb e))
theorem keys_walk_hot (x1 I d : Addr) (hne : d ≠ I) (hnx : x1 ≠ I) (kvs : List (κ × Value)) (ep : Nat) :
    Walks prog w A I [I, d, x1] [I] kvs.length (fun i v => ∃ k x, kvs[i]? = some (k, x) ∧ knd.is k v = true) (fun i h => h.IsKeyIter I d i kvs.length ep ∧ h.DictAt knd d kvs ep ∧ HotAt A x1 h) where
  sub := fun b hb => by simp at hb; simp [hb]
  frame := fun _ _ _ st hk => ⟨st.1.at fun o e => hk I (by simp) o e, st.2.1.at' fun o e => hk d (by simp) o e, hot_keep st.2.2 fun o e => hk x1 (by simp) o e⟩
  item := fun i s Q E hi st hQ => by
    obtain ⟨⟨k, x⟩, hx⟩ : ∃ p, kvs[i]? = some p := ⟨kvs[i], by simp [hi]⟩
    refine wpAny_pyNext_dict_item st.1 st.2.1 hx fun key h' hkey hit' hs' => ?_
    exact hQ key h' s.toks ⟨k, x, hx, hkey⟩ ⟨hit', st.2.1.extBut hs'.extBut hne, hot_keep st.2.2 fun o e => hs'.extBut x1 o hnx e⟩ fun b o hb e => hs'.extBut b o (fun h => hb (by simp [h])) e
  done := fun s Q E st hQ => dict_end_hot st.2.2 hnx st.1 st.2.1 (by simp) fun h' he' => hQ h' s.toks fun b o hb e => he' b o (fun h => hb (by simp [h])) e
  self := fun _ _ _ _ st hQ => wpAny_pyIter_keyiter st.1 hQ
theorem extend_hot {R : Result → Shared → Prop} {d x1 S : Addr} {kvs : List (κ × Value)} {ep : Nat} (lo : (d == sysModules) = false) (hot : HotAt A x1 s.heap) (hm : s.heap.DictAt knd d kvs ep) (hSd : S ≠ d) (hSx : S ≠ x1) (res : Value) (c₀ : Nat)
    (hS : s.heap.get? S = some { cls := .type "list", data := .seq #[] c₀ })
    (hR : ∀ h' tk acc' c', (∀ b o, b ≠ S → s.heap.get? b = some o → h'.get? b = some o) → h'.get? S = some { cls := .type "list", dict := none, data := .seq acc' c', slots := #[] } →
      ItemsOf (fun i v => ∃ k x, kvs[i]? = some (k, x) ∧ knd.is k v = true) acc' kvs.length → R (.ok (.ret res)) { s with heap := h', toks := tk }) (hn : kvs.length ≤ sizeLine) :
    wpAny (model prog w) A.in1 (Builtin.List.listExtendWith (.ref S) (.ref d) res)
      (fun fin s' => match fin with | .done f => R (.ok f) s' | .again c' => c'.quiet = true ∧ codeAny (model prog w) A c' R s') (fun e s' => R (.error e) s') s := by
  have xlt : x1 < s.heap.objs.size := by obtain ⟨_, o, _, ho, _⟩ := hot; exact Heap.lt_size ho
  have hSI : S ≠ s.heap.objs.size := Nat.ne_of_lt (Heap.lt_size hS)
  have hSf : S ∉ [s.heap.objs.size, d, x1] := by simp only [List.mem_cons, List.not_mem_nil, or_false, not_or]; exact ⟨hSI, hSd, hSx⟩
  have W : Walks prog w A.in1 s.heap.objs.size [s.heap.objs.size, d, x1] [s.heap.objs.size] kvs.length _ _ := keys_walk_hot (A := A.in1) (knd := knd) x1 s.heap.objs.size d (Nat.ne_of_lt hm.lt_size) (Nat.ne_of_lt xlt) kvs ep
  have key : ∀ (h : Heap) (c₁ tk : Nat), h.IsKeyIter s.heap.objs.size d 0 kvs.length ep ∧ h.DictAt knd d kvs ep ∧ HotAt A.in1 x1 h → (∀ b o, b ≠ S → s.heap.get? b = some o → h.get? b = some o) →
      h.get? S = some { cls := .type "list", data := .seq #[] c₁ } → codeAny (model prog w) A (.builtin "list.extend.loop" ⟨[.ref S, .ref s.heap.objs.size, res], []⟩) R { s with heap := h, toks := tk } := by
    intro h c₁ tk hst hk hS₁
    refine codeAny_extend_loopS W.toS hn S hSf res kvs.length 0 _ #[] c₁ rfl (Nat.zero_le _) hst hS₁ (ItemsOf.nil _) fun s' acc' c' hm hS' hacc => ?_
    rw [Moved.eq_with hm]
    refine hR s'.heap s'.toks acc' c' (fun b o hb e => hm.heap b o (fun hmem => ?_) (hk b o hb e)) hS' hacc
    rcases List.mem_cons.mp hmem with e' | hmem
    · exact hb e'
    · exact absurd (Heap.lt_size e) (by rw [List.mem_singleton.mp hmem]; exact Nat.lt_irrefl _)
  unfold Builtin.List.listExtendWith
  refine wpAny_bind (wpAny_typeOf (T := "dict") hm.dictOf.typeIs ?_)
  have h1 : Builtin.List.listSameRef (.ref S) (.ref d) = false := by simp [Builtin.List.listSameRef, hSd]
  simp only [h1, show (Value.type "dict" == Value.type "list") = false from by decide, show (Value.type "dict" == Value.type "tuple") = false from by decide, Bool.or_false, Bool.false_eq_true, if_false]
  refine wpAny_bind (wpAny_pyIter_dict lo hm ?_)
  have st : (s.heap.push { cls := .type "dict_keyiterator", data := .fields #[.ref d, .int (0 : Nat) 0, .int kvs.length 0, .int ep 0] }).IsKeyIter s.heap.objs.size d 0 kvs.length ep := ⟨_, Heap.get?_push_size _ rfl, rfl, rfl⟩
  have dp := hm.push { cls := .type "dict_keyiterator", data := .fields #[.ref d, .int (0 : Nat) 0, .int kvs.length 0, .int ep 0] }
  have hp := hot_keep hot fun o e => Heap.get?_push_of_some { cls := .type "dict_keyiterator", data := .fields #[.ref d, .int (0 : Nat) 0, .int kvs.length 0, .int ep 0] } e
  have hS₁ := Heap.get?_push_of_some { cls := .type "dict_keyiterator", data := .fields #[.ref d, .int (0 : Nat) 0, .int kvs.length 0, .int ep 0] } hS
  refine wpAny_bind (wpAny_holding (PySem.W.kdl_hint_dict dp.dictOf.typeIs ?_))
  refine wpAny_ite_split (fun _ => ?_) (fun _ => wpAny_pure ⟨plainId_quiet PySem.F.plain_extend_loop _, key _ c₀ _ ⟨st, dp, hp⟩ (fun b o _ e => Heap.get?_push_of_some _ e) hS₁⟩)
  refine wpAny_bind (wpAny_rule ?_)
  refine wpAny_bind ?_
  show wpAny _ _ (updateSeq S (·.push .none) >>= fun _ => updateSeq S (·.pop)) _ _ _
  refine wpAny_bind (wpAny_updateSeq hS₁ rfl ?_)
  have hS₂ := Heap.get?_update_self (Obj.mapSeq (·.push Value.none)) hS₁ rfl
  refine wpAny_updateSeq (hz := by seq_fits) hS₂ rfl ?_
  have hS₃ := Heap.get?_update_self (Obj.mapSeq (·.pop)) hS₂ rfl
  refine wpAny_pure ⟨plainId_quiet PySem.F.plain_extend_loop _, key _ _ _ ?_ (fun b o hb e => ?_) hS₃⟩
  · refine W.frame 0 _ _ ⟨st, dp, hp⟩ fun b hb o e => ?_
    have hbS : b ≠ S := fun h => hSf (h ▸ hb)
    exact (Heap.get?_update_other _ _ (Ne.symm hbS)).trans ((Heap.get?_update_other _ _ (Ne.symm hbS)).trans e)
  · exact (Heap.get?_update_other _ _ (Ne.symm hb)).trans ((Heap.get?_update_other _ _ (Ne.symm hb)).trans (Heap.get?_push_of_some _ e))
theorem collect_hot {R : List Value → Shared → Prop} {d x1 : Addr} {kvs : List (κ × Value)} {ep : Nat} (lo : (d == sysModules) = false) (hot : HotAt A x1 s.heap) (hm : s.heap.DictAt knd d kvs ep) (hn : kvs.length ≤ sizeLine)
    (h : ∀ (h' : Heap) (tk : Nat) (acc : Array Value), (∀ b o, s.heap.get? b = some o → h'.get? b = some o) → ItemsOf (fun i v => ∃ k x, kvs[i]? = some (k, x) ∧ knd.is k v = true) acc kvs.length → R acc.toList { s with heap := h', toks := tk }) :
    wpAny (model prog w) A (collect (.ref d)) R E s := by
  have dlt := hm.lt_size
  have xlt : x1 < s.heap.objs.size := by obtain ⟨_, o, _, ho, _⟩ := hot; exact Heap.lt_size ho
  unfold collect
  refine wpAny_bind (wpAny_runValue (codeAny_builtin entry_proto_collect' ?_))
  rw [Around.under_plainId PySem.F.plain_proto_collect _]
  show wpAny _ A.in1 (newList [] >>= fun l => again (.builtin "list.__iadd__" ⟨[l, .ref d], []⟩)) _ _ s
  refine wpAny_bind (wpAny_newObj_type ?_)
  refine wpAny_pure ⟨plainId_quiet PySem.F.plain_list_iadd _, codeAny_builtin entry_list_iadd' ?_⟩
  rw [Around.under_plainId PySem.F.plain_list_iadd _]
  have hS₁ : (s.heap.push { cls := .type "list", data := .seq ([] : List Value).toArray }).get? s.heap.objs.size = some { cls := .type "list", data := .seq #[] } := Heap.get?_push_size _ rfl
  show wpAny _ A.in1 (Builtin.List.listExtendWith (.ref s.heap.objs.size) (.ref d) (.ref s.heap.objs.size)) _ _ _
  have key := extend_hot (A := A) (s := { s with heap := s.heap.push { cls := .type "list", data := .seq ([] : List Value).toArray } })
    (R := fun (q : Result) (s' : Shared) => ∃ (h' : Heap) (tk : Nat) (acc' : Array Value) (c' : Nat), q = .ok (.ret (.ref s.heap.objs.size)) ∧ s' = { s with heap := h', toks := tk } ∧
      (∀ b o, s.heap.get? b = some o → h'.get? b = some o) ∧ h'.get? s.heap.objs.size = some { cls := .type "list", dict := none, data := .seq acc' c', slots := #[] } ∧ ItemsOf (fun i v => ∃ k x, kvs[i]? = some (k, x) ∧ knd.is k v = true) acc' kvs.length)
    lo (hot_keep hot fun o e => Heap.get?_push_of_some _ e) (hm.push _) (Nat.ne_of_gt dlt) (Nat.ne_of_gt xlt) (.ref s.heap.objs.size) 0 hS₁
    (fun h' tk acc' c' hk hS' hacc => ⟨h', tk, acc', c', rfl, rfl, fun b o e => hk b o (Nat.ne_of_lt (Heap.lt_size e)) (Heap.get?_push_of_some _ e), hS', hacc⟩) hn
  refine wpAny_mono key (fun fin s' x => ?_) fun e s' x => ?_
  · cases fin with
    | done f =>
      obtain ⟨h', tk, acc', c', e, rfl, hk, hS', hacc⟩ := x
      cases e
      show wpAny _ A (load s.heap.objs.size >>= _) _ _ _
      exact wpAny_bind (wpAny_load hS' (wpAny_pure (h h' tk acc' hk hacc)))
    | again c₁ =>
      refine ⟨x.1, codeAny_mono x.2 fun q s₂ y => ?_⟩
      obtain ⟨h', tk, acc', c', rfl, rfl, hk, hS', hacc⟩ := y
      show wpAny _ A (load s.heap.objs.size >>= _) _ _ _
      exact wpAny_bind (wpAny_load hS' (wpAny_pure (h h' tk acc' hk hacc)))
  · obtain ⟨_, _, _, _, e', _⟩ := x
    cases e'
end
open L2 L2H in
/-- sorted(d), an exception in hand -/
theorem call_sortedH {X : Cx} (hb : HotB X) : CallR X (.builtin "sorted") (fun xs H Q => ∃ (a : Addr) (kvs : List (Key × V)) (ks : List Int), xs = [.ref a] ∧ Rd H a (.dK kvs) ∧ kvs.map (·.1) = ks.map Sum.inl ∧ ks.length < 64 ∧
    ∀ (ys : List Int) (p : Addr), ys.Perm ks → ys.Pairwise (· ≤ ·) → H p = none → Q (.ref p) (upd H p (.lst (ys.map V.int)))) := by
  intro pins s σ H xs us Q I r q
  obtain ⟨a, kvs, ks, rfl, hd, hks, h64, q⟩ := q
  obtain ⟨u, rfl, rx⟩ := vals1 r
  cases rx
  obtain ⟨x1, hot, _⟩ := hb pins σ H s I
  obtain ⟨z, lo, vs, rel, dd⟩ := dk_rd I.hok hd
  obtain ⟨ep, hat⟩ := dd.dictAt
  have hkeys : vs.map (·.1) = ks.map Sum.inl := rel.keys.symm.trans hks
  have hl : vs.length = ks.length := by
    have e := congrArg List.length hkeys
    rw [List.length_map, List.length_map] at e
    exact e
  have h16 : vs.length ≤ sizeLine := by rw [hl, sizeLine_eq]; omega
  refine Calls.call_function_entry PyProof.Rows.kind_sorted PyProof.Rows.plain_sorted PyProof.Rows.entry_sorted (PyProof.Rows.args_sorted1 _) ?_
  unfold Builtin.«sorted»
  refine wpAny_bind (m := checkCount "sorted" 1 1 _) (wpAny_pure ?_)
  refine wpAny_bind (collect_hot (A := X.A.in1) (knd := mixKind X.prog X.w) (kvs := vs) (ep := ep) lo hot hat h16 fun h' tk acc hk hacc => ?_)
  have hal : acc.toList.length = ks.length := by rw [Array.length_toList, hacc.1, hl]
  have hS : IntsAre acc.toList ks := ints_each hal fun j v e => by
    obtain ⟨k, x, e1, e2⟩ := hacc.2 j v (by rw [← Array.getElem?_toList]; exact e)
    have e3 : (vs.map (·.1))[j]? = some k := by rw [List.getElem?_map, e1]; rfl
    rw [hkeys, List.getElem?_map] at e3
    cases e4 : ks[j]? with
    | none => rw [e4] at e3; cases e3
    | some y =>
      rw [e4] at e3
      have e5 : Sum.inl y = k := Option.some.inj e3
      subst e5
      rcases keyIs_shape (show keyIs (Sum.inl y) v = true from e2) with ⟨i, t, ek, ev⟩ | ⟨z, t, ek, ev⟩
      · cases ek
        exact ⟨y, t, rfl, ev⟩
      · cases ek
  have I1 : Inv X pins σ H { s with heap := h', toks := tk } := I.kept hk
  refine wpAny_bind (wpAny_newList ?_ (by rw [hal, sizeLine_eq]; omega))
  have hoL : (h'.push (seqObj "list" acc.toList.toArray 0)).get? h'.objs.size = some (seqObj "list" acc.toList.toArray 0) := Heap.get?_push_size _ rfl
  show wpAny _ _ _ _ _ { s with heap := h'.push (seqObj "list" acc.toList.toArray 0), toks := tk }
  refine wpAny_bind (wpAny_holding (wpAny_call_entry PyProof.Rows.slot_list_sort ⟨_, hoL, rfl⟩ PyProof.Rows.entry_list_sort
    (PyProof.Rows.list_sort_tree (s := { s with heap := h'.push (seqObj "list" acc.toList.toArray 0), toks := tk }) hoL hS (by rw [hal]; exact h64) fun out ys g1 g2 g3 => ⟨_, rfl, ?_⟩) (PyProof.Rows.args_list_sort _)))
  obtain ⟨e', he'⟩ := PyProof.Rows.sortedHeap_at (vs := acc.toList) (out := out) hoL
  have hlen : (ys.map V.int).length ≤ sizeLine := by
    rw [List.length_map, g2.length_eq]
    exact Nat.le_trans (Nat.le_of_lt h64) (by decide)
  refine wpAny_pure ⟨_, rfl, .ref h'.objs.size, upd H h'.objs.size (.lst (ys.map V.int)), I1.laid (t' := tk) (fun b u e => ?_) (Nat.le_refl _)
    (show ObjOk X.prog X.w _ _ _ (.lst (ys.map V.int)) from ⟨hlen, out.toList, e', vals_of_ints g1, by rw [Array.toArray_toList]; exact he'⟩), rfl, q ys _ g2 g3 (I1.hok.fresh (Nat.le_refl _))⟩
  have hb : b < h'.objs.size := Heap.lt_size e
  rw [PyProof.Rows.sortedHeap_old (Nat.ne_of_lt hb) (by rw [size_push']; exact Nat.lt_succ_of_lt hb)]
  exact Heap.get?_push_of_some _ e
open L2 L2H in
theorem okH {P : Program} {w : World} {K : PySem.W.Frag} {mg : Str → Option Value} {base : Heap} {CX : CXT} {x qual : Str} {st : Stmt} {f : Addr} {fd : FuncData} {N ps : List Str} {k : Nat} {sp : Sp} (F : L2.Fun K x qual st f fd) (S : FnScope N ps (defScope st)) (len : ∀ vs H Q E, sp vs H Q E → vs.length = ps.length)
    (hbody : ∀ (cdv : Value) (A : Around) (outer : List Env) (s : Shared) (H : Hp) (vs : List V) (Q : VK) (E : XK) (p : Addr × Obj), HotC (cxH CX P w K mg base N qual (defScope st) f cdv A outer s H E p) → RoomH k (A.deeper (envOfC qual (defScope st) s.heap.objs.size f cdv)) → sp vs H Q E →
      ∃ t, PSs (cxH CX P w K mg base N qual (defScope st) f cdv A outer s H E p) (defBody st) t ∧ t { nx := fun _ H' => Q .non H', rt := Q } (start N vs) H) : FnH P w K mg base CX (k + 1) f fd ps sp := by
  obtain ⟨oc, od, kV, doc, pm, an, cdv, ct, osl, rfl, lk, hcd⟩ := F.ex
  exact fn_ofH lk hcd S len fun A outer s H vs Q E p hot hr hsp => hbody cdv A outer s H vs Q E p ⟨p, ⟨hot.1, hot.2⟩, List.mem_singleton.mpr rfl⟩ hr hsp
open L2 L2H in
theorem pe_methH0 {X : Cx} {CX : CXT} {k : Nat} {f C : Addr} {fd : FuncData} {ps : List Str} {sp : Sp} {E : L2.St → XK} {m : Str} {pos apos : Pos} {o : Expr} {ta : TE} {pl : Sem Bool} (he : PE X o ta) (c : Cls X.K C) (hm : Meth X.K C m f) (F : FnH X.prog X.w X.K X.mg X.base CX k f fd ps sp) (hr : RoomH k X.A) (hc : HotC X) (hb : Binds X.K fd ps []) (hx : ∀ σ, PassesAt CX X σ (E σ))
    (ht : eval (.Call (.Attribute o m apos) [] [] pos) X.env = (do
      let ov ← eval o X.env
      standAt apos.atName
      let (f, first) ← holding [ov] (getMethod ov m pl)
      callWith pos f first (backTo pos (starEach [] X.env)) (backToKw pos (keywordEach [] X.env))) := by rfl) :
    PE X (.Call (.Attribute o m apos) [] [] pos) (tMethH C m sp E ta tNil) := by
  refine ⟨fun pins s σ H Q I h => ?_⟩
  refine PySem.W.methodCall_KW (pl := pl) (thn (he.run pins s σ H _ I h) fun u s1 ⟨x, H1, I1, rx, a, dx, fs, ex, ea, l, q⟩ => ?_) ht
  subst ex
  obtain rfl : u = Value.ref a := rx
  refine getmeth_ok I1 ea c hm l ?_
  exact PySem.W.callWith_K0 (first := [.ref a]) I1.kIn hm.kp (run_fnH (us := [.ref a]) (vs := [.ref a]) F hr hc hb (hx σ) I1 (.cons rfl .nil) q)
open L2 in
theorem passAt0 {X : Cx} : ∀ σ : L2.St, PassesAt CX0 X σ (fun _ _ _ => False) := fun σ _ _ _ _ _ _ c => c.elim
end BP

/-! The end of a law whose program has one def with a generator expression. Own work. -/
namespace BP
open PySem PySem.Spec PyProof.Rows L2
/-- the law's promise, with the table of that def's code object -/
def spLawT (K : PySem.W.Frag) (Pt : Addr) : Sp := fun vs H Q _ => ∃ (a : Addr) (ns : List Int), vs = [.ref a] ∧ SqL K H a (ns.map V.int) ∧ ns.length ≤ 63 ∧ (∀ z ∈ ns, Builtin.Int.intBits z ≤ 1048576) ∧ H Pt = some (.tbl #[]) ∧ ∀ H', Q (.bl true) H'
theorem walkT {l : PySem.W.OpenLaw} {q : Program} {loose : List Str} {XP : (Str → Option Value) → Heap → Prop} {YP : World → Heap → Prop} {d : DefRec} {K : Params → PySem.W.Frag} {k : Nat} (hn : l.most = some 63) (hdf : d.params.defaults = []) (hr : Room k callerA)
    (hY : ∀ (w : World) (h : Heap), YP w h → (K w.params).In h) (hrec : ((recsOf q).find? fun e => e.name == ("read_number" : Str)).isSome = true)
    (F : ∀ (w : World) (mg : Str → Option Value) (fa : Addr) (h : Heap), (K w.params).In h → h.Ns mainGlobals mg → mg d.name = some (.ref fa) →
      ∃ (fd : FuncData) (c Pt : Addr), PySem.W.tabIn (K w.params) "read_number" = some (c, Pt) ∧ (K w.params).lookup Pt = none ∧ (∀ (s : Shared) (u : Value), BindsTo s fd ⟨[u], []⟩ [("_law_script", u)]) ∧
        ∀ base : Heap, (K w.params).In base → base.Ns mainGlobals mg → GxR.TabB base mg c Pt → FnOk l.prog w (K w.params) mg base CX0 k fa fd ["_law_script"] (spLawT (K w.params) Pt)) :
    PySem.W.WalkO q loose XP YP l.row.toRowW d [] (fun f vs => PySem.call f vs) := by
  refine Att.attach_callB hn hdf fun w s₀ s₁ mg mb fa o pm cd doc a vs ns G Y ho hd hcd hmg hobj hints hlen hbits hg => ?_
  have KX := hY w _ Y
  obtain ⟨dr, hdr⟩ := Option.isSome_iff_exists.mp hrec
  obtain ⟨fd, c, Pt, htab, nPt, hb, hF⟩ := F w mg fa _ KX G.T.g hmg
  obtain ⟨hC, hP⟩ := PySem.W.tab_of G.T KX hdr htab
  have one : ∀ {Z : Addr × Addr → Prop}, Z (c, Pt) → ∀ p ∈ [(c, Pt)], Z p := fun h p hp => by rw [List.mem_singleton.mp hp]; exact h
  exact LamX.law_callTs (cs := [(c, Pt)]) KX G.T.g G.T.b G.T.builtins G.T.nolimit hg (one hP) (one nPt) (one hC) G.T.bmain hobj hints (Nat.le_trans hlen (by decide)) hr
    (fun base X N TB => hF base X N (by obtain ⟨x, y, z⟩ := TB _ List.mem_cons_self; exact ⟨x, y, z⟩)) hb (fun H hH hS => ⟨a, ns, rfl, hS, hlen, hbits, hH _ List.mem_cons_self, fun _ => rfl⟩) fun H e s' z => z
/-- the words as the top has written them -/
def WordsAt (P : Params) (l : List DictEntry) : Prop := ∃ t1 t2 t3 t4 t5 t6 t7 u1 u2 u3 u4 u5 u6 u7 : Tok, l = [⟨PyData.keyHash P "make", .str "make" t1, .int 2 u1⟩, ⟨PyData.keyHash P "hold", .str "hold" t2, .int 2 u2⟩, ⟨PyData.keyHash P "drop", .str "drop" t3, .int 1 u3⟩,
  ⟨PyData.keyHash P "put", .str "put" t4, .int 3 u4⟩, ⟨PyData.keyHash P "empty", .str "empty" t5, .int 2 u5⟩, ⟨PyData.keyHash P "take", .str "take" t6, .int 3 u6⟩, ⟨PyData.keyHash P "tidy", .str "tidy" t7, .int 0 u7⟩]
theorem tab_in {K : PySem.W.Frag} {x : Str} {f c Pt : Addr} {oc vc : Value} {od odc : Option Addr} {fd : FuncData} {sl slc : Array (Option Value)} {vs : Array Value} (h1 : PySem.W.nsIn K mainGlobals x = some (some (.ref f))) (h2 : K.lookup f = some ⟨oc, od, .func fd, sl⟩)
    (h3 : fd.code = .ref c) (h4 : K.lookup c = some ⟨vc, odc, .fields vs, slc⟩) (h5 : vs[11]? = some (.ref Pt)) : PySem.W.tabIn K x = some (c, Pt) := by
  unfold PySem.W.tabIn
  rw [h1]
  dsimp only
  rw [h2]
  dsimp only
  rw [h3]
  dsimp only
  rw [h4]
  dsimp only
  rw [h5]
end BP

/-! A plain pile: counts by going through all pointers, what falls in the order of the rooms. Own work; core Lean alone. -/
namespace BP
def roomOf (rs : List (List (Option Int))) (n : Int) : List (Option Int) := rs.getD n.toNat []
def wgt (hs : List (Option Int)) (rs : List (List (Option Int))) (al : List Int) (n : Int) : Nat := cnt hs n + (al.map fun m => cnt (roomOf rs m) n).sum
def walkRoom (hs : List (Option Int)) (rs : List (List (Option Int))) (al : List Int) : List (Option Int) → List Int → List Int → List Int × List Int
  | [], f, d => (f, d)
  | none :: r, f, d => walkRoom hs rs al r f d
  | some o :: r, f, d => if o ∈ f ∨ some o ∈ r then walkRoom hs rs al r f d else if wgt hs rs al o = 0 then walkRoom hs rs al r (f ++ [o]) d else walkRoom hs rs al r f (d ++ [o])
def flat (rs : List (List (Option Int))) (ns : List Int) : List (Option Int) := ns.flatMap (roomOf rs)
theorem flat_app (rs : List (List (Option Int))) (a b : List Int) : flat rs (a ++ b) = flat rs a ++ flat rs b := List.flatMap_append
theorem flat_one (rs : List (List (Option Int))) (n : Int) : flat rs [n] = roomOf rs n := by simp [flat]
theorem cnt_flatR (rs : List (List (Option Int))) (n : Int) : ∀ ns : List Int, cnt (flat rs ns) n = (ns.map fun m => cnt (roomOf rs m) n).sum
  | [] => rfl
  | m :: ns => by
    show cnt (roomOf rs m ++ flat rs ns) n = _
    rw [cnt_append, cnt_flatR rs n ns]
    rfl
/-- the boxes alive, and those that fell and are not walked yet -/
structure Sim (rs : List (List (Option Int))) (al : List Int) (bs : List (Int × Bx)) (pend : List Int) : Prop where
  perm : al.Perm (keys bs ++ pend)
  sl : ∀ n b, get bs n = some b → b.slots = roomOf rs n
theorem scnt_rooms {rs : List (List (Option Int))} {n : Int} : ∀ {bs : List (Int × Bx)}, (keys bs).Nodup → (∀ n b, get bs n = some b → b.slots = roomOf rs n) → scnt bs n = ((keys bs).map fun m => cnt (roomOf rs m) n).sum := by
  intro bs nd h
  have h' : ∀ e ∈ bs, e.2.slots = roomOf rs e.1 := fun e he => h e.1 e.2 (mem_get nd he)
  clear h nd
  induction bs with
  | nil => rfl
  | cons e bs ih =>
    rw [scnt_cons, ih fun e he => h' e (List.mem_cons_of_mem _ he), h' e List.mem_cons_self]
    rfl
theorem wgt_sim {hs : List (Option Int)} {rs : List (List (Option Int))} {al : List Int} {bs : List (Int × Bx)} {pend : List Int} (S : Sim rs al bs pend) (nd : (keys bs).Nodup) (n : Int) : wgt hs rs al n = cnt hs n + scnt bs n + cnt (flat rs pend) n := by
  unfold wgt
  rw [(S.perm.map fun m => cnt (roomOf rs m) n).sum_nat, List.map_append, List.sum_append, scnt_rooms nd S.sl, cnt_flatR]
  omega
theorem perm_rm (o : Int) : ∀ l : List Int, l.Nodup → o ∈ l → l.Perm ([o] ++ l.filter fun k => decide (k ≠ o))
  | [], _, h => by cases h
  | x :: l, nd, h => by
    have nd := List.nodup_cons.mp nd
    by_cases z : x = o
    · rw [z] at nd
      have e : (l.filter fun k => decide (k ≠ o)) = l := List.filter_eq_self.mpr fun k hk => decide_eq_true fun q => nd.1 (by rw [← q]; exact hk)
      rw [List.filter_cons, z, if_neg (by simp), e]
      exact List.Perm.refl _
    · rcases List.mem_cons.mp h with q | q
      · exact absurd q.symm z
      rw [List.filter_cons, if_pos (decide_eq_true z)]
      exact ((perm_rm o l nd.2 q).cons x).trans (List.Perm.swap o x _)
theorem run_cons {P : Pl} {x : Option Int} {w : List (Option Int)} (W : Wf P (x :: w)) : run P.boxes (x :: w) = ((run (fall P.boxes w x).1 (fall P.boxes w x).2.1).1, (fall P.boxes w x).2.2 ++ (run (fall P.boxes w x).1 (fall P.boxes w x).2.1).2) := by
  obtain ⟨_, e⟩ := fall_ok W
  unfold run
  rw [e, List.length_cons, show w.length + 1 + room P.boxes = (w.length + room P.boxes) + 1 from by omega]
  rfl
theorem run_nil (bs : List (Int × Bx)) : run bs [] = (bs, []) := by
  unfold run
  cases [].length + room bs <;> rfl
def SusRel (bs : List (Int × Bx)) (d : List Int) (r : List (Option Int)) : Prop := ∀ n b, get bs n = some b → (b.sus = true → n ∈ d ∨ some n ∈ r) ∧ (n ∈ d → b.sus = true)
theorem walk_run {hs : List (Option Int)} {rs : List (List (Option Int))} {al : List Int} : ∀ (r : List (Option Int)) (P : Pl) (pend f d : List Int), P.hands = hs → Sim rs al P.boxes pend → (∀ n ∈ f, get P.boxes n = none) → Wf P (r ++ flat rs pend) → SusRel P.boxes d r →
    ∃ (news : List Int) (bs : List (Int × Bx)) (d' : List Int), walkRoom hs rs al r f d = (f ++ news, d') ∧ run P.boxes (r ++ flat rs pend) = ((run bs (flat rs (pend ++ news))).1, news ++ (run bs (flat rs (pend ++ news))).2) ∧ Sim rs al bs (pend ++ news) ∧
      Wf { P with boxes := bs } (flat rs (pend ++ news)) ∧ (∀ n ∈ f ++ news, get bs n = none) ∧ SusRel bs d' [] ∧ bs.length + news.length = P.boxes.length
  | [], P, pend, f, d, hh, S, hf, W, sr => by
    refine ⟨[], P.boxes, d, by rw [List.append_nil]; rfl, by rw [List.append_nil]; rfl, by rw [List.append_nil]; exact S, by rw [List.append_nil]; exact W, by rw [List.append_nil]; exact hf, sr, rfl⟩
  | none :: r, P, pend, f, d, hh, S, hf, W, sr => by
    have W' : Wf P (r ++ flat rs pend) := (fall_ok W).1
    obtain ⟨news, bs, d', h1, h2, h3, h4, h5, h6, h7⟩ := walk_run r P pend f d hh S hf W' fun n b e => ⟨fun q => ((sr n b e).1 q).imp id fun z => by
      rcases List.mem_cons.mp z with z | z
      · cases z
      · exact z, (sr n b e).2⟩
    exact ⟨news, bs, d', h1, (run_cons W).trans h2, h3, h4, h5, h6, h7⟩
  | some o :: r, P, pend, f, d, hh, S, hf, W, sr => by
    have nd := W.nd
    have c0 : 0 < cnt P.hands o + scnt P.boxes o + cnt (some o :: r ++ flat rs pend) o := by
      rw [List.cons_append, cnt_cons]
      simp [one]
      omega
    obtain ⟨b, hb⟩ := W.cl o c0
    have hw := (W.wt o b hb).1
    rw [List.cons_append, cnt_cons, show one (some o) o = 1 from by simp [one], cnt_append] at hw
    have nof : o ∉ f := fun z => by rw [hf o z] at hb; cases hb
    have low1 : b.wt ≠ 1 → fall P.boxes (r ++ flat rs pend) (some o) = (chg P.boxes o low, r ++ flat rs pend, []) := fun c => fall_low _ hb c
    -- it stays
    have stays : b.wt ≠ 1 → ∀ d1, (∀ n b', get (chg P.boxes o low) n = some b' → (b'.sus = true → n ∈ d1 ∨ some n ∈ r) ∧ (n ∈ d1 → b'.sus = true)) → walkRoom hs rs al (some o :: r) f d = walkRoom hs rs al r f d1 → 
        ∃ (news : List Int) (bs : List (Int × Bx)) (d' : List Int), walkRoom hs rs al (some o :: r) f d = (f ++ news, d') ∧ run P.boxes (some o :: r ++ flat rs pend) = ((run bs (flat rs (pend ++ news))).1, news ++ (run bs (flat rs (pend ++ news))).2) ∧ Sim rs al bs (pend ++ news) ∧
          Wf { P with boxes := bs } (flat rs (pend ++ news)) ∧ (∀ n ∈ f ++ news, get bs n = none) ∧ SusRel bs d' [] ∧ bs.length + news.length = P.boxes.length := fun c d1 sr1 ew => by
      have W : Wf P (some o :: (r ++ flat rs pend)) := W
      have rc := run_cons W
      have e1 := low1 c
      have W1 : Wf { P with boxes := chg P.boxes o low } (r ++ flat rs pend) := by
        have := (fall_ok W).1
        rw [e1] at this
        exact this
      rw [e1] at rc
      have S1 : Sim rs al (chg P.boxes o low) pend := ⟨by rw [keys_chg]; exact S.perm, fun n b' e => by
        rw [get_chg] at e
        cases g : get P.boxes n with
        | none => rw [g] at e; cases e
        | some c' =>
          rw [g] at e
          have e : (if n = o then low c' else c') = b' := Option.some.inj e
          rw [← e, ← S.sl n c' g]
          split <;> rfl⟩
      obtain ⟨news, bs, d', h1, h2, h3, h4, h5, h6, h7⟩ := walk_run r { P with boxes := chg P.boxes o low } pend f d1 hh S1 (fun n hn => by rw [show ({ P with boxes := chg P.boxes o low } : Pl).boxes = chg P.boxes o low from rfl, get_chg, hf n hn]; rfl) W1 sr1
      have len : (chg P.boxes o low).length = P.boxes.length := by
        have e1 : (chg P.boxes o low).length = (keys (chg P.boxes o low)).length := (List.length_map _).symm
        have e2 : P.boxes.length = (keys P.boxes).length := (List.length_map _).symm
        rw [e1, e2, keys_chg]
      exact ⟨news, bs, d', ew.trans h1, rc.trans h2, h3, h4, h5, h6, h7.trans len⟩
    have sus_low : ∀ n b', get (chg P.boxes o low) n = some b' → ∃ c', get P.boxes n = some c' ∧ (n = o → b'.sus = true) ∧ (n ≠ o → b' = c') := fun n b' e => by
      rw [get_chg] at e
      cases g : get P.boxes n with
      | none => rw [g] at e; cases e
      | some c' =>
        rw [g] at e
        have e : (if n = o then low c' else c') = b' := Option.some.inj e
        refine ⟨c', rfl, fun z => ?_, fun z => ?_⟩
        · rw [← e, if_pos z]; rfl
        · rw [← e, if_neg z]
    by_cases later : some o ∈ r
    · have cr : 0 < cnt r o := cnt_pos.mpr later
      refine stays (by omega) d (fun n b' e => ?_) (if_pos (.inr later))
      obtain ⟨c', g, s1, s2⟩ := sus_low n b' e
      by_cases z : n = o
      · rw [z]
        exact ⟨fun _ => .inr later, fun _ => s1 z⟩
      · rw [s2 z]
        refine ⟨fun q => ((sr n c' g).1 q).imp id fun y => ?_, (sr n c' g).2⟩
        rcases List.mem_cons.mp y with y | y
        · exact absurd (Option.some.inj y) z
        · exact y
    have cr : cnt r o = 0 := by
      rcases Nat.eq_zero_or_pos (cnt r o) with z | z
      · exact z
      · exact absurd (cnt_pos.mp z) later
    have wz := wgt_sim (hs := hs) S nd o
    rw [← hh] at wz
    by_cases w0 : wgt hs rs al o = 0
    · have c1 : b.wt = 1 := by rw [hh] at hw wz; omega
      have ef := fall_free (r ++ flat rs pend) hb c1
      have W : Wf P (some o :: (r ++ flat rs pend)) := W
      have rc := run_cons W
      have W1 := (fall_ok W).1
      rw [ef] at rc W1
      have esl : b.slots = roomOf rs o := S.sl o b hb
      have eq1 : (r ++ flat rs pend) ++ b.slots = r ++ flat rs (pend ++ [o]) := by
        rw [flat_app, flat_one, esl, List.append_assoc]
      have W1 : Wf { P with boxes := rm P.boxes o } (r ++ flat rs (pend ++ [o])) := by rw [← eq1]; exact W1
      have rc : run P.boxes (some o :: (r ++ flat rs pend)) = ((run (rm P.boxes o) (r ++ flat rs (pend ++ [o]))).1, [o] ++ (run (rm P.boxes o) (r ++ flat rs (pend ++ [o]))).2) := by rw [← eq1]; exact rc
      have ko : o ∈ keys P.boxes := get_keys.mp ⟨b, hb⟩
      have pk := perm_rm o (keys P.boxes) nd ko
      have S1 : Sim rs al (rm P.boxes o) (pend ++ [o]) := ⟨by
        rw [keys_rm]
        refine S.perm.trans ((pk.append_right pend).trans ?_)
        refine (List.perm_append_comm (l₁ := [o]) (l₂ := (keys P.boxes).filter (fun k => decide (k ≠ o)) ++ pend)).trans ?_
        rw [List.append_assoc], fun n b' e => by
        rw [get_rm] at e
        by_cases z : n = o
        · rw [if_pos z] at e; cases e
        · rw [if_neg z] at e
          exact S.sl n b' e⟩
      obtain ⟨news, bs, d', h1, h2, h3, h4, h5, h6, h7⟩ := walk_run r { P with boxes := rm P.boxes o } (pend ++ [o]) (f ++ [o]) d hh S1 (fun n hn => by
        rw [show ({ P with boxes := rm P.boxes o } : Pl).boxes = rm P.boxes o from rfl, get_rm]
        by_cases z : n = o
        · rw [if_pos z]
        · rw [if_neg z]
          rcases List.mem_append.mp hn with q | q
          · exact hf n q
          · exact absurd (List.mem_singleton.mp q) z) W1 (fun n b' e => by
        rw [show ({ P with boxes := rm P.boxes o } : Pl).boxes = rm P.boxes o from rfl, get_rm] at e
        by_cases z : n = o
        · rw [if_pos z] at e; cases e
        · rw [if_neg z] at e
          refine ⟨fun q => ((sr n b' e).1 q).imp id fun y => ?_, (sr n b' e).2⟩
          rcases List.mem_cons.mp y with y | y
          · exact absurd (Option.some.inj y) z
          · exact y)
      have len : (rm P.boxes o).length + 1 = P.boxes.length := by
        have e1 : (rm P.boxes o).length = (keys (rm P.boxes o)).length := (List.length_map _).symm
        have e2 : P.boxes.length = (keys P.boxes).length := (List.length_map _).symm
        rw [e1, e2, pk.length_eq, keys_rm]
        rfl
      have ap : pend ++ (o :: news) = (pend ++ [o]) ++ news := by rw [List.append_assoc]; rfl
      have af : f ++ (o :: news) = (f ++ [o]) ++ news := by rw [List.append_assoc]; rfl
      have h2 : run (rm P.boxes o) (r ++ flat rs (pend ++ [o])) = ((run bs (flat rs (pend ++ [o] ++ news))).1, news ++ (run bs (flat rs (pend ++ [o] ++ news))).2) := h2
      have h7 : bs.length + news.length = (rm P.boxes o).length := h7
      refine ⟨o :: news, bs, d', ?_, ?_, ?_, ?_, ?_, h6, ?_⟩
      · rw [af, ← h1]
        exact (if_neg fun z => z.elim nof later).trans (if_pos w0)
      · rw [ap]
        refine rc.trans ?_
        rw [h2]
        rfl
      · rw [ap]; exact h3
      · rw [ap]; exact h4
      · rw [af]; exact h5
      · rw [List.length_cons]; omega
    · refine stays (by rw [hh] at wz; rw [hh] at hw; omega) (d ++ [o]) (fun n b' e => ?_) ((if_neg (fun z => z.elim nof later)).trans (if_neg w0))
      obtain ⟨c', g, s1, s2⟩ := sus_low n b' e
      by_cases z : n = o
      · rw [z]
        exact ⟨fun _ => .inl (List.mem_append_right _ List.mem_cons_self), fun _ => s1 z⟩
      · rw [s2 z]
        refine ⟨fun q => ((sr n c' g).1 q).imp (List.mem_append_left _) fun y => ?_, fun q => (sr n c' g).2 ?_⟩
        · rcases List.mem_cons.mp y with y | y
          · exact absurd (Option.some.inj y) z
          · exact y
        · rcases List.mem_append.mp q with q | q
          · exact q
          · exact absurd (List.mem_singleton.mp q) z
end BP

/-! A plain pile: the loop that frees, box by box. Own work; core Lean alone. -/
namespace BP
theorem walk_mem {hs : List (Option Int)} {rs : List (List (Option Int))} {al : List Int} {n : Int} : ∀ (r : List (Option Int)) (f d : List Int), n ∈ (walkRoom hs rs al r f d).2 → n ∈ d ∨ some n ∈ r
  | [], f, d, h => .inl h
  | none :: r, f, d, h => (walk_mem r f d h).imp id (List.mem_cons_of_mem _)
  | some o :: r, f, d, h => by
    unfold walkRoom at h
    split at h
    · exact (walk_mem r f d h).imp id (List.mem_cons_of_mem _)
    · split at h
      · exact (walk_mem r _ d h).imp id (List.mem_cons_of_mem _)
      · rcases walk_mem r f _ h with z | z
        · rcases List.mem_append.mp z with z | z
          · exact .inl z
          · rw [List.mem_singleton.mp z]
            exact .inr List.mem_cons_self
        · exact .inr (List.mem_cons_of_mem _ z)
theorem Wf.below {P : Pl} {w : List (Option Int)} (W : Wf P w) {n : Int} (h : some n ∈ w) : n < P.made := by
  have c := cnt_pos.mpr h
  exact (W.lo n (get_keys.mp (W.cl n (by omega)))).2
/-- the loop stands at the k-th fallen box: what is left to run -/
structure Freeing (P : Pl) (hs : List (Option Int)) (rs : List (List (Option Int))) (old : Option Int) (al F : List Int) (k : Nat) (d : List Int) (bs : List (Int × Bx)) : Prop where
  sim : Sim rs al bs (F.drop k)
  wf : Wf { P with boxes := bs } (flat rs (F.drop k))
  run : run P.boxes [old] = ((run bs (flat rs (F.drop k))).1, F ++ (run bs (flat rs (F.drop k))).2)
  gone : ∀ n ∈ F, get bs n = none
  sus : SusRel bs d []
  k : k ≤ F.length
  len : bs.length + F.length = P.boxes.length
  up : al.Pairwise (· < ·)
  lo : ∀ n ∈ d, n < P.made
/-- the beginning: what a pointer left -/
theorem freeing0 {P : Pl} {hs : List (Option Int)} {rs : List (List (Option Int))} {al d : List Int} {o : Int} (hh : P.hands = hs) (ks : al = keys P.boxes) (sl : ∀ n b, get P.boxes n = some b → b.slots = roomOf rs n) (W : Wf P [some o]) (sr : SusRel P.boxes d []) (lo : ∀ n ∈ d, n < P.made) :
    (wgt hs rs al o = 0 → ∃ bs, Freeing P hs rs (some o) al [o] 0 d bs) ∧
    (wgt hs rs al o ≠ 0 → Freeing P hs rs (some o) al [] 0 (d ++ [o]) (run P.boxes [some o]).1) := by
  have S : Sim rs al P.boxes [] := ⟨by rw [ks, List.append_nil], sl⟩
  have up : al.Pairwise (· < ·) := by rw [ks]; exact W.ks
  obtain ⟨news, bs, d', h1, h2, h3, h4, h5, h6, h7⟩ := walk_run (hs := hs) (rs := rs) (al := al) [some o] P [] [] d hh S (fun n hn => by cases hn) W (fun n b e => ⟨fun q => ((sr n b e).1 q).imp id (fun z => by cases z), (sr n b e).2⟩)
  rw [List.nil_append] at h2 h3 h4 h5
  have nol : ¬ (o ∈ ([] : List Int) ∨ some o ∈ ([] : List (Option Int))) := fun z => z.elim (fun z => by cases z) (fun z => by cases z)
  constructor
  · intro w0
    have e : walkRoom hs rs al [some o] [] d = ([o], d) := (if_neg nol).trans (if_pos w0)
    rw [e] at h1
    have e1 : news = [o] := (Prod.mk.inj h1).1.symm
    have e2 : d' = d := (Prod.mk.inj h1).2.symm
    rw [e1] at h2 h3 h4 h5 h7
    rw [e2] at h6
    exact ⟨bs, h3, h4, h2, h5, h6, Nat.zero_le _, h7, up, lo⟩
  · intro w0
    have e : walkRoom hs rs al [some o] [] d = ([], d ++ [o]) := (if_neg nol).trans (if_neg w0)
    rw [e] at h1
    have e1 : news = [] := (Prod.mk.inj h1).1.symm
    have e2 : d' = d ++ [o] := (Prod.mk.inj h1).2.symm
    rw [e1] at h2 h3 h4 h5 h7
    rw [e2] at h6
    have e3 : BP.run P.boxes [some o] = (bs, []) := by
      refine (show BP.run P.boxes [some o] = _ from h2).trans ?_
      rw [show flat rs [] = [] from rfl, run_nil]
      rfl
    rw [e3]
    exact ⟨h3, h4, by rw [e3, show List.drop 0 ([] : List Int) = [] from rfl, show flat rs [] = [] from rfl, run_nil]; rfl, h5, h6, Nat.zero_le _, h7, up, fun n hn => by
      rcases List.mem_append.mp hn with z | z
      · exact lo n z
      · rw [List.mem_singleton.mp z]
        exact W.below List.mem_cons_self⟩
/-- one box is walked -/
theorem Freeing.step {P : Pl} {hs : List (Option Int)} {rs : List (List (Option Int))} {old : Option Int} {al F : List Int} {k : Nat} {d : List Int} {bs : List (Int × Bx)} {o : Int} (hh : P.hands = hs) (L : Freeing P hs rs old al F k d bs) (ho : F[k]? = some o) :
    o ∈ al ∧ ∃ F' d' bs', walkRoom hs rs (al.erase o) (roomOf rs o) F d = (F', d') ∧ Freeing P hs rs old (al.erase o) F' (k + 1) d' bs' := by
  have hk : k < F.length := by
    rcases Nat.lt_or_ge k F.length with z | z
    · exact z
    · rw [List.getElem?_eq_none z] at ho; cases ho
  have ed : F.drop k = o :: F.drop (k + 1) := by
    rw [List.drop_eq_getElem_cons hk]
    rw [List.getElem?_eq_getElem hk] at ho
    rw [Option.some.inj ho]
  obtain ⟨sim, wf, rn, gone, sus, _, len, up, lo⟩ := L
  rw [ed] at sim wf rn
  have pp : al.Perm (o :: (keys bs ++ F.drop (k + 1))) := sim.perm.trans List.perm_middle
  have oin : o ∈ al := pp.mem_iff.mpr List.mem_cons_self
  have pe : (al.erase o).Perm (keys bs ++ F.drop (k + 1)) := by
    have := pp.erase o
    rw [List.erase_cons_head] at this
    exact this
  have S1 : Sim rs (al.erase o) bs (F.drop (k + 1)) := ⟨pe, sim.sl⟩
  obtain ⟨news, bs', d', h1, h2, h3, h4, h5, h6, h7⟩ := walk_run (hs := hs) (rs := rs) (al := al.erase o) (roomOf rs o) { P with boxes := bs } (F.drop (k + 1)) F d hh S1 gone wf (fun n b e => ⟨fun q => ((sus n b e).1 q).imp id (fun z => by cases z), (sus n b e).2⟩)
  have dr : (F ++ news).drop (k + 1) = F.drop (k + 1) ++ news := List.drop_append_of_le_length hk
  have h7 : bs'.length + news.length = bs.length := h7
  refine ⟨oin, F ++ news, d', bs', h1, ?_⟩
  refine ⟨by rw [dr]; exact h3, by rw [dr]; exact h4, ?_, h5, h6, by rw [List.length_append]; omega, by rw [List.length_append]; omega, up.sublist List.erase_sublist, fun n hn => by
    have e2 : (walkRoom hs rs (al.erase o) (roomOf rs o) F d).2 = d' := by rw [h1]
    rw [← e2] at hn
    rcases walk_mem _ _ _ hn with z | z
    · exact lo n z
    · exact wf.below (List.mem_append_left _ z)⟩
  rw [dr]
  refine rn.trans ?_
  have h2 : BP.run bs (flat rs (o :: F.drop (k + 1))) = _ := h2
  rw [h2, List.append_assoc]
/-- the loop's end -/
theorem sorted_eq : ∀ {a b : List Int}, a.Pairwise (· < ·) → b.Pairwise (· < ·) → a.Perm b → a = b
  | [], [], _, _, _ => rfl
  | [], y :: b, _, _, p => by cases p.length_eq
  | x :: a, [], _, _, p => by cases p.length_eq
  | x :: a, y :: b, ha, hb, p => by
    have ha' := List.pairwise_cons.mp ha
    have hb' := List.pairwise_cons.mp hb
    have e : x = y := by
      rcases List.mem_cons.mp (p.mem_iff.mp List.mem_cons_self) with z | z
      · exact z
      · rcases List.mem_cons.mp (p.mem_iff.mpr (List.mem_cons_self (a := y))) with q | q
        · exact q.symm
        · have := ha'.1 y q
          have := hb'.1 x z
          omega
    rw [e] at p ⊢
    rw [sorted_eq ha'.2 hb'.2 p.cons_inv]
theorem Freeing.done {P : Pl} {hs : List (Option Int)} {rs : List (List (Option Int))} {old : Option Int} {al F : List Int} {k : Nat} {d : List Int} {bs : List (Int × Bx)} (L : Freeing P hs rs old al F k d bs) (e : F.length ≤ k) :
    BP.run P.boxes [old] = (bs, F) ∧ al = keys bs ∧ SusRel bs d [] ∧ ∀ n ∈ d, n < P.made := by
  have ed : F.drop k = [] := List.drop_eq_nil_of_le e
  obtain ⟨sim, wf, rn, gone, sus, _, len, up, lo⟩ := L
  rw [ed] at sim rn
  refine ⟨?_, ?_, sus, lo⟩
  · rw [rn, show flat rs [] = [] from rfl, run_nil]
    simp
  · have p := sim.perm
    rw [List.append_nil] at p
    exact sorted_eq up wf.ks p
end BP

/-! A plain pile beside the pile: its steps. Own work; core Lean alone. -/
namespace BP
/-- the law's own pile: hands, rooms (of the dead too), the numbers alive, the doubts -/
structure PlainR (P : Pl) (hs : List (Option Int)) (rs : List (List (Option Int))) (al d : List Int) : Prop where
  own : Own P hs rs
  ks : al = keys P.boxes
  sus : SusRel P.boxes d []
  lo : ∀ n ∈ d, n < P.made
theorem plain0 : PlainR pl0 (List.replicate 8 none) [] [] [] := ⟨own0, rfl, fun n b e => by simp [pl0, get_nil] at e, fun n h => by cases h⟩
/-- a pointer is set, what it left is still to be looked at -/
structure Ready (P : Pl) (hs : List (Option Int)) (rs : List (List (Option Int))) (al d : List Int) (old : Option Int) : Prop where
  hh : P.hands = hs
  ks : al = keys P.boxes
  sl : ∀ n b, get P.boxes n = some b → b.slots = roomOf rs n
  wf : Wf P [old]
  sus : SusRel P.boxes d []
  lo : ∀ n ∈ d, n < P.made
/-- it was looked at -/
structure Looked (P : Pl) (old : Option Int) (al d F : List Int) : Prop where
  fell : (run P.boxes [old]).2 = F
  ks : al = keys (run P.boxes [old]).1
  sus : SusRel (run P.boxes [old]).1 d []
  lo : ∀ n ∈ d, n < P.made
theorem Ready.none {P : Pl} {hs : List (Option Int)} {rs : List (List (Option Int))} {al d : List Int} (R : Ready P hs rs al d none) : Looked P none al d [] := by
  have e : run P.boxes [Option.none] = (P.boxes, []) := by
    rw [run_cons R.wf]
    show ((run P.boxes []).1, [] ++ (run P.boxes []).2) = _
    rw [run_nil]
    rfl
  exact ⟨by rw [e], by rw [e]; exact R.ks, by rw [e]; exact R.sus, R.lo⟩
theorem Ready.stays {P : Pl} {hs : List (Option Int)} {rs : List (List (Option Int))} {al d : List Int} {o : Int} (R : Ready P hs rs al d (some o)) (w : wgt hs rs al o ≠ 0) : Looked P (some o) al (d ++ [o]) [] := by
  have L := (freeing0 R.hh R.ks R.sl R.wf R.sus R.lo).2 w
  obtain ⟨e, ks, sus, lo⟩ := L.done (Nat.le_refl _)
  exact ⟨by rw [e], ks, sus, lo⟩
theorem Ready.falls {P : Pl} {hs : List (Option Int)} {rs : List (List (Option Int))} {al d : List Int} {o : Int} (R : Ready P hs rs al d (some o)) (w : wgt hs rs al o = 0) : ∃ bs, Freeing P hs rs (some o) al [o] 0 d bs := (freeing0 R.hh R.ks R.sl R.wf R.sus R.lo).1 w
theorem Freeing.looked {P : Pl} {hs : List (Option Int)} {rs : List (List (Option Int))} {old : Option Int} {al F : List Int} {k : Nat} {d : List Int} {bs : List (Int × Bx)} (L : Freeing P hs rs old al F k d bs) (e : F.length ≤ k) : Looked P old al d F := by
  obtain ⟨e, ks, sus, lo⟩ := L.done e
  exact ⟨by rw [e], by rw [e]; exact ks, by rw [e]; exact sus, lo⟩
theorem Own.room {P : Pl} {hs : List (Option Int)} {rs : List (List (Option Int))} (o : Own P hs rs) (n : Int) (b : Bx) (e : get P.boxes n = some b) : b.slots = roomOf rs n := by
  unfold roomOf
  rw [List.getD_eq_getElem?_getD, o.s n b e]
  rfl
theorem sus_bumped {bs : List (Int × Bx)} {x : Option Int} {d : List Int} (h : SusRel bs d []) : SusRel (bumped bs x) d [] := fun n b e => by
  rw [get_bumped] at e
  cases q : get bs n with
  | none => rw [q] at e; cases e
  | some c =>
    rw [q] at e
    have e : (if x = some n then bump c else c) = b := Option.some.inj e
    have es : b.sus = c.sus := by rw [← e]; split <;> rfl
    rw [es]
    exact h n c q
/-- a hand -/
theorem PlainR.hand {P : Pl} {hs : List (Option Int)} {rs : List (List (Option Int))} {al d : List Int} (o : PlainR P hs rs al d) (W : Wf P []) {i : Nat} (hi : i < 8) {x : Option Int} (hx : ∀ n, x = some n → ∃ b, get P.boxes n = some b) :
    Ready { P with hands := P.hands.set i x, boxes := bumped P.boxes x } (hs.set i x) rs al d (P.hands.getD i none) :=
  ⟨by show P.hands.set i x = _; rw [o.own.h], by show al = keys (bumped P.boxes x); rw [keys_bumped]; exact o.ks, fun n b e => by
    have e : get (bumped P.boxes x) n = some b := e
    rw [get_bumped] at e
    cases q : get P.boxes n with
    | none => rw [q] at e; cases e
    | some c =>
      rw [q] at e
      have e : (if x = some n then bump c else c) = b := Option.some.inj e
      rw [← o.own.room n c q, ← e]
      split <;> rfl, (W.pre hx).hand hi, sus_bumped o.sus, o.lo⟩
theorem PlainR.handed {P : Pl} {hs : List (Option Int)} {rs : List (List (Option Int))} {al d al' d' F : List Int} (o : PlainR P hs rs al d) {i : Nat} {x : Option Int}
    (L : Looked { P with hands := P.hands.set i x, boxes := bumped P.boxes x } (P.hands.getD i none) al' d' F) : (ptHand P i x).2 = F ∧ PlainR (ptHand P i x).1 (hs.set i x) rs al' d' :=
  ⟨L.fell, o.own.hand i x, L.ks, L.sus, L.lo⟩
/-- a slot -/
theorem PlainR.slot {P : Pl} {hs : List (Option Int)} {rs : List (List (Option Int))} {al d : List Int} (o : PlainR P hs rs al d) (W : Wf P []) {k : Int} {b : Bx} (hb : get P.boxes k = some b) {i : Nat} (hi : i < b.slots.length) {x : Option Int} (hx : ∀ n, x = some n → ∃ b, get P.boxes n = some b) :
    Ready { P with boxes := chg (bumped P.boxes x) k (setSlot i x) } hs (rs.set k.toNat (b.slots.set i x)) al d (slotOf P.boxes k i) := by
  have WS := (W.pre hx).slot hb hi
  have es : slotOf P.boxes k i = b.slots.getD i none := by unfold slotOf; rw [hb]
  have k0 := (W.lo k (get_keys.mp ⟨b, hb⟩)).1
  have hr := o.own.s k b hb
  have lk : k.toNat < rs.length := by
    rcases Nat.lt_or_ge k.toNat rs.length with z | z
    · exact z
    · rw [List.getElem?_eq_none z] at hr; cases hr
  have at_ : ∀ n b', get (chg (bumped P.boxes x) k (setSlot i x)) n = some b' → ∃ c, get P.boxes n = some c ∧ b'.sus = c.sus ∧ b'.slots = if n = k then c.slots.set i x else c.slots := fun n b' e => by
    rw [get_chg, get_bumped] at e
    cases q : get P.boxes n with
    | none => rw [q] at e; cases e
    | some c =>
      rw [q] at e
      have e : (if n = k then setSlot i x (if x = some n then bump c else c) else if x = some n then bump c else c) = b' := Option.some.inj e
      refine ⟨c, rfl, ?_, ?_⟩ <;> rw [← e] <;> (repeat' split) <;> rfl
  refine ⟨o.own.h, ?_, fun n b' e => ?_, by first | exact WS | (rw [es]; exact WS), fun n b' e => ?_, o.lo⟩
  · show al = keys (chg (bumped P.boxes x) k (setSlot i x))
    rw [keys_chg, keys_bumped]
    exact o.ks
  · obtain ⟨c, hc, _, e2⟩ := at_ n b' e
    have n0 := (W.lo n (get_keys.mp ⟨c, hc⟩)).1
    rw [e2]
    unfold roomOf
    rw [List.getD_eq_getElem?_getD, List.getElem?_set]
    by_cases z : n = k
    · rw [if_pos z, z, if_pos rfl, if_pos lk]
      rw [z] at hc
      rw [Option.some.inj (hc.symm.trans hb)]
      rfl
    · rw [if_neg z, if_neg (by omega), o.own.s n c hc]
      rfl
  · obtain ⟨c, hc, e1, _⟩ := at_ n b' e
    rw [e1]
    exact o.sus n c hc
theorem PlainR.slotted {P : Pl} {hs : List (Option Int)} {rs : List (List (Option Int))} {al d al' d' F : List Int} (o : PlainR P hs rs al d) (W : Wf P []) {k : Int} {b : Bx} (hb : get P.boxes k = some b) {i : Nat} {x : Option Int}
    (L : Looked { P with boxes := chg (bumped P.boxes x) k (setSlot i x) } (slotOf P.boxes k i) al' d' F) : (ptSlot P k i x).2 = F ∧ PlainR (ptSlot P k i x).1 hs (rs.set k.toNat (b.slots.set i x)) al' d' :=
  ⟨L.fell, o.own.slot W hb i x, L.ks, L.sus, L.lo⟩
/-- a box is made -/
theorem PlainR.made {P : Pl} {hs : List (Option Int)} {rs : List (List (Option Int))} {al d : List Int} (o : PlainR P hs rs al d) (W : Wf P []) {i z : Nat} (hi : i < 8) (hz : z ≤ 6) (hf : P.boxes.length < 60) :
    Ready { (born P z) with hands := (born P z).hands.set i (some P.made), boxes := bumped (born P z).boxes (some P.made) } (hs.set i (some (rs.length : Int))) (rs ++ [List.replicate z none]) (al ++ [(rs.length : Int)]) d (P.hands.getD i none) := by
  refine ⟨by show P.hands.set i (some P.made) = _; rw [o.own.h, o.own.m], ?_, fun n b e => ?_, (W.born hz hf).hand hi, sus_bumped (bs := (born P z).boxes) (x := some P.made) fun n b e => ?_, fun n hn => by
    have := o.lo n hn
    show n < P.made + 1
    omega⟩
  · show _ = keys (bumped (born P z).boxes (some P.made))
    rw [keys_bumped, o.ks, ← o.own.m]
    show _ = keys (P.boxes ++ [(P.made, (⟨List.replicate z none, 0, false⟩ : Bx))])
    unfold keys
    rw [List.map_append]
    rfl
  · have e : get (bumped (born P z).boxes (some P.made)) n = some b := e
    rw [get_bumped, get_born W] at e
    unfold roomOf
    by_cases q : n = P.made
    · rw [if_pos q] at e
      have e : (if some P.made = some n then bump ⟨List.replicate z none, 0, false⟩ else ⟨List.replicate z none, 0, false⟩) = b := Option.some.inj e
      rw [← e, q, o.own.m, List.getD_eq_getElem?_getD, List.getElem?_append_right (by omega)]
      simp [bump]
    · rw [if_neg q] at e
      cases q2 : get P.boxes n with
      | none => rw [q2] at e; cases e
      | some c =>
        rw [q2] at e
        have e : (if some P.made = some n then bump c else c) = b := Option.some.inj e
        have hr := o.own.s n c q2
        have lk : n.toNat < rs.length := by
          rcases Nat.lt_or_ge n.toNat rs.length with z | z
          · exact z
          · rw [List.getElem?_eq_none z] at hr; cases hr
        rw [← e, List.getD_eq_getElem?_getD, List.getElem?_append_left lk, hr]
        split <;> rfl
  · rw [get_born W] at e
    by_cases q : n = P.made
    · rw [if_pos q] at e
      rw [← Option.some.inj e]
      refine ⟨fun z => (by cases z), fun z => ?_⟩
      have := o.lo n z
      omega
    · rw [if_neg q] at e
      exact o.sus n b e
theorem PlainR.mademade {P : Pl} {hs : List (Option Int)} {rs : List (List (Option Int))} {al d al' d' F : List Int} (o : PlainR P hs rs al d) (W : Wf P []) {i z : Nat}
    (L : Looked { (born P z) with hands := (born P z).hands.set i (some P.made), boxes := bumped (born P z).boxes (some P.made) } (P.hands.getD i none) al' d' F) : (BP.mk P i z).2 = F ∧ PlainR (BP.mk P i z).1 (hs.set i (some (rs.length : Int))) (rs ++ [List.replicate z none]) al' d' :=
  ⟨L.fell, o.own.make W i z, L.ks, L.sus, L.lo⟩
end BP

/-! A plain pile beside the pile: tidy, and all deeds. Own work. -/
namespace BP
open PySem L2
theorem sus_of_susp {P : Pl} (e : susp P = []) : SusRel P.boxes [] [] := fun n b hb => by
  refine ⟨fun hs => ?_, fun z => by cases z⟩
  have : n ∈ susp P := by
    unfold susp
    rw [List.mem_filter]
    refine ⟨get_keys.mp ⟨b, hb⟩, ?_⟩
    rw [hb]
    exact hs
  rw [e] at this
  cases this
theorem PlainR.tidied {P : Pl} {hs : List (Option Int)} {rs : List (List (Option Int))} {al d : List Int} (o : PlainR P hs rs al d) (G : Good P) {row : List Int} (hr : ∀ n, n ∈ al → (n ∈ row ↔ HL P n)) :
    deadF P = (al.filter fun n => decide (n ∉ row)) ∧ PlainR (BP.tidied P (deadF P)) hs rs (al.filter fun n => decide (n ∈ row)) [] := by
  have e1 : deadF P = al.filter fun n => decide (n ∉ row) := by
    unfold deadF
    rw [← o.ks]
    refine List.filter_congr fun n hn => ?_
    have := hr n hn
    rw [decide_eq_decide]
    exact not_congr this.symm
  refine ⟨e1, o.own.tidied _, ?_, sus_of_susp (susp_tidied G), fun n h => by cases h⟩
  rw [keys_tidied, ← o.ks]
  refine List.filter_congr fun n hn => ?_
  rw [decide_eq_decide, e1, List.mem_filter, decide_eq_true_iff]
  exact ⟨fun z q => q.2 z, fun z => Classical.byContradiction fun q => z ⟨hn, q⟩⟩
/-- the suspects are the doubts that are alive, sorted -/
theorem PlainR.susp {P : Pl} {hs : List (Option Int)} {rs : List (List (Option Int))} {al d : List Int} (o : PlainR P hs rs al d) (n : Int) : n ∈ BP.susp P ↔ n ∈ d ∧ n ∈ al := by
  unfold BP.susp
  rw [List.mem_filter, o.ks, ← get_keys]
  constructor
  · rintro ⟨⟨b, hb⟩, h⟩
    rw [hb] at h
    exact ⟨((o.sus n b hb).1 h).elim id (fun z => by cases z), b, hb⟩
  · rintro ⟨h, b, hb⟩
    refine ⟨⟨b, hb⟩, ?_⟩
    rw [hb]
    exact (o.sus n b hb).2 h
/-! ### what is wrong with a deed, by the plain pile -/
def wrongH (h : Int) (s : Str) : Str := if h < 8 then s else "no hand"
def wrongB (hs : List (Option Int)) (rs : List (List (Option Int))) (h s : Int) : Str := match hs.getD h.toNat none with
  | none => "no box"
  | some n => if s < ((roomOf rs n).length : Int) then Str.empty else "no slot"
def wrongP (hs : List (Option Int)) (rs : List (List (Option Int))) (al : List Int) : Deed → Str
  | .make h z => wrongH h (if 6 < z then "no size" else if al.length > 59 then "full" else Str.empty)
  | .hold h o => wrongH h (wrongH o Str.empty)
  | .drop h => wrongH h Str.empty
  | .put h s o => wrongH h (wrongH o (wrongB hs rs h s))
  | .empty h s => wrongH h (wrongB hs rs h s)
  | .take h o s => wrongH h (wrongH o (wrongB hs rs o s))
  | .tidy => Str.empty
def badWord : Bad → Str
  | .hand => "no hand"
  | .size => "no size"
  | .full => "full"
  | .box => "no box"
  | .slot => "no slot"
theorem s_e1 : ¬ (("no hand" : Str) = Str.empty) := by decide +kernel
/-- the deed's steps by the plain pile, but for tidy: hands, rooms, the alive, and what is still to be looked at -/
def plainStep (hs : List (Option Int)) (rs : List (List (Option Int))) (al : List Int) : Deed → List (Option Int) × List (List (Option Int)) × List Int × Option Int
  | .make h z => (hs.set h.toNat (some (rs.length : Int)), rs ++ [List.replicate z.toNat none], al ++ [(rs.length : Int)], hs.getD h.toNat none)
  | .hold h o => (hs.set h.toNat (hs.getD o.toNat none), rs, al, hs.getD h.toNat none)
  | .drop h => (hs.set h.toNat none, rs, al, hs.getD h.toNat none)
  | .put h s o => (hs, rs.set (ownAt hs rs h) ((rs.getD (ownAt hs rs h) []).set s.toNat (hs.getD o.toNat none)), al, (rs.getD (ownAt hs rs h) []).getD s.toNat none)
  | .empty h s => (hs, rs.set (ownAt hs rs h) ((rs.getD (ownAt hs rs h) []).set s.toNat none), al, (rs.getD (ownAt hs rs h) []).getD s.toNat none)
  | .take h o s => (hs.set h.toNat ((rs.getD (ownAt hs rs o) []).getD s.toNat none), rs, al, hs.getD h.toNat none)
  | .tidy => (hs, rs, al, none)
/-- the slot s of what the hand h holds: what is wrong with it, or where it is -/
theorem plain_slot {P : Pl} {hs : List (Option Int)} {rs : List (List (Option Int))} (W : Wf P []) (o : Own P hs rs) (h : Int) {s : Int} (s0 : 0 ≤ s) (k : Int → Bx → Res) :
    (∃ n b, P.hands.getD h.toNat none = some n ∧ get P.boxes n = some b ∧ s.toNat < b.slots.length ∧ wrongB hs rs h s = Str.empty ∧ ownAt hs rs h = n.toNat ∧ rs.getD (ownAt hs rs h) [] = b.slots ∧ atSlot P h s k = k n b) ∨
    (∃ e, atSlot P h s k = .bad e ∧ wrongB hs rs h s = badWord e) := by
  cases e : P.hands.getD h.toNat none with
  | none =>
    refine .inr ⟨.box, ?_, ?_⟩
    · unfold atSlot; rw [e]
    · unfold wrongB; rw [← o.h, e]; rfl
  | some n =>
    obtain ⟨b, hb⟩ := W.hand e
    have ea : ownAt hs rs h = n.toNat := by unfold ownAt; rw [← o.h, e]
    have eg := rs_get o hb
    by_cases c : s < (b.slots.length : Int)
    · refine .inl ⟨n, b, rfl, hb, by omega, ?_, ea, by rw [ea]; exact eg, ?_⟩
      · unfold wrongB; rw [← o.h, e]; dsimp only; rw [show roomOf rs n = b.slots from eg, if_pos c]
      · unfold atSlot; rw [e]; dsimp only; rw [hb]; exact if_pos ⟨s0, c⟩
    · refine .inr ⟨.slot, ?_, ?_⟩
      · unfold atSlot; rw [e]; dsimp only; rw [hb]; exact if_neg (fun z => c z.2)
      · unfold wrongB; rw [← o.h, e]; dsimp only; rw [show roomOf rs n = b.slots from eg, if_neg c]; rfl
def Fine (P : Pl) (hs : List (Option Int)) (rs : List (List (Option Int))) (al d : List Int) (x : Deed) : Prop :=
  ∃ P1, Ready P1 (plainStep hs rs al x).1 (plainStep hs rs al x).2.1 (plainStep hs rs al x).2.2.1 d (plainStep hs rs al x).2.2.2 ∧
    ∀ al' d' F, Looked P1 (plainStep hs rs al x).2.2.2 al' d' F → ∃ P', act P x = .fine P' F ∧ PlainR P' (plainStep hs rs al x).1 (plainStep hs rs al x).2.1 al' d'
theorem wrongH_ok {h : Int} {s : Str} (c : OkH h) : wrongH h s = s := if_pos c.2
theorem wrongH_no {h : Int} {s : Str} (c : ¬ OkH h) (h0 : 0 ≤ h) : wrongH h s = badWord .hand := if_neg fun z => c ⟨h0, z⟩
theorem plain_act {P : Pl} {hs : List (Option Int)} {rs : List (List (Option Int))} {al d : List Int} (o : PlainR P hs rs al d) (G : Good P) {x : Deed} {few y : Int} (hz : x.InZ few y) (nt : x ≠ .tidy) :
    (∃ e, act P x = .bad e ∧ wrongP hs rs al x = badWord e) ∨ (wrongP hs rs al x = Str.empty ∧ Fine P hs rs al d x) := by
  have W := G.wf
  have hl : ∀ i, P.hands.getD i none = hs.getD i none := fun i => by rw [o.own.h]
  cases x with
  | tidy => exact absurd rfl nt
  | drop h =>
    by_cases c : OkH h
    · refine .inr ⟨wrongH_ok c, _, by have := o.hand W (i := h.toNat) (by have := c.2; have := c.1; omega) (x := none) (fun n e => by cases e); rw [hl] at this; exact this, fun al' d' F L => ?_⟩
      obtain ⟨e1, e2⟩ := o.handed (i := h.toNat) (x := none) (by rw [hl]; exact L)
      exact ⟨_, (if_neg (not_not_intro c)).trans (by rw [e1]), e2⟩
    · exact .inl ⟨.hand, if_pos c, wrongH_no c hz.1⟩
  | hold h p =>
    by_cases c : OkH h
    · by_cases c2 : OkH p
      · refine .inr ⟨(wrongH_ok c).trans (wrongH_ok c2), _, by have := o.hand W (i := h.toNat) (by have := c.2; have := c.1; omega) (x := hs.getD p.toNat none) (fun n e => W.hand ((hl _).trans e)); rw [hl] at this; exact this, fun al' d' F L => ?_⟩
        obtain ⟨e1, e2⟩ := o.handed (i := h.toNat) (x := hs.getD p.toNat none) (by rw [hl]; exact L)
        refine ⟨_, ((if_neg (not_not_intro c)).trans (if_neg (not_not_intro c2))).trans (by rw [hl, e1]), e2⟩
      · exact .inl ⟨.hand, (if_neg (not_not_intro c)).trans (if_pos c2), (wrongH_ok c).trans (wrongH_no c2 hz.2.1)⟩
    · exact .inl ⟨.hand, if_pos c, wrongH_no c hz.1.1⟩
  | make h z =>
    by_cases c : OkH h
    · by_cases c2 : 6 < z
      · exact .inl ⟨.size, (if_neg (not_not_intro c)).trans (if_pos (by omega)), (wrongH_ok c).trans (if_pos c2)⟩
      have z0 := hz.2.1
      have ea : al.length = P.boxes.length := by rw [o.ks]; exact List.length_map _
      by_cases c3 : 60 ≤ P.boxes.length
      · exact .inl ⟨.full, ((if_neg (not_not_intro c)).trans (if_neg (not_not_intro (by omega)))).trans (if_pos c3), (wrongH_ok c).trans ((if_neg c2).trans (if_pos (by omega)))⟩
      refine .inr ⟨(wrongH_ok c).trans ((if_neg c2).trans (if_neg (by omega))), _, by have := o.made W (i := h.toNat) (z := z.toNat) (by have := c.2; have := c.1; omega) (by omega) (by omega); rw [hl] at this; exact this, fun al' d' F L => ?_⟩
      obtain ⟨e1, e2⟩ := o.mademade W (i := h.toNat) (z := z.toNat) (by rw [hl]; exact L)
      exact ⟨_, (((if_neg (not_not_intro c)).trans (if_neg (not_not_intro (by omega)))).trans (if_neg c3)).trans (by rw [e1]), e2⟩
    · exact .inl ⟨.hand, if_pos c, wrongH_no c hz.1.1⟩
  | put h s p =>
    by_cases c : OkH h
    · by_cases c2 : OkH p
      · have ha : act P (.put h s p) = atSlot P h s fun n _ => .fine (ptSlot P n s.toNat (P.hands.getD p.toNat none)).1 (ptSlot P n s.toNat (P.hands.getD p.toNat none)).2 := (if_neg (not_not_intro c)).trans (if_neg (not_not_intro c2))
        have hw : wrongP hs rs al (.put h s p) = wrongB hs rs h s := (wrongH_ok c).trans (wrongH_ok c2)
        rcases plain_slot W o.own h hz.2.1.1 (fun n _ => .fine (ptSlot P n s.toNat (P.hands.getD p.toNat none)).1 (ptSlot P n s.toNat (P.hands.getD p.toNat none)).2) with ⟨n, b, e1, e2, e3, e4, e5, e6, e7⟩ | ⟨e, e1, e2⟩
        · have es : slotOf P.boxes n s.toNat = b.slots.getD s.toNat none := by unfold slotOf; rw [e2]
          refine .inr ⟨hw.trans e4, { P with boxes := chg (bumped P.boxes (hs.getD p.toNat none)) n (setSlot s.toNat (hs.getD p.toNat none)) }, ?_, fun al' d' F L => ?_⟩
          · have := o.slot W e2 e3 (x := hs.getD p.toNat none) (fun n e => W.hand ((hl _).trans e))
            rw [es, ← e5, ← e6] at this
            exact this
          · unfold plainStep at L ⊢; dsimp only at L ⊢
            rw [e6, ← es] at L
            obtain ⟨q1, q2⟩ := o.slotted W e2 L
            refine ⟨_, (ha.trans e7).trans (by rw [hl, q1]), ?_⟩
            rw [e5, ← e5, e6, e5]
            exact q2
        · exact .inl ⟨e, ha.trans e1, hw.trans e2⟩
      · exact .inl ⟨.hand, (if_neg (not_not_intro c)).trans (if_pos c2), (wrongH_ok c).trans (wrongH_no c2 hz.2.2.1)⟩
    · exact .inl ⟨.hand, if_pos c, wrongH_no c hz.1.1⟩
  | empty h s =>
    by_cases c : OkH h
    · have ha : act P (.empty h s) = atSlot P h s fun n _ => .fine (ptSlot P n s.toNat none).1 (ptSlot P n s.toNat none).2 := if_neg (not_not_intro c)
      have hw : wrongP hs rs al (.empty h s) = wrongB hs rs h s := wrongH_ok c
      rcases plain_slot W o.own h hz.2.1 (fun n _ => .fine (ptSlot P n s.toNat none).1 (ptSlot P n s.toNat none).2) with ⟨n, b, e1, e2, e3, e4, e5, e6, e7⟩ | ⟨e, e1, e2⟩
      · have es : slotOf P.boxes n s.toNat = b.slots.getD s.toNat none := by unfold slotOf; rw [e2]
        refine .inr ⟨hw.trans e4, { P with boxes := chg (bumped P.boxes none) n (setSlot s.toNat none) }, ?_, fun al' d' F L => ?_⟩
        · have := o.slot W e2 e3 (x := none) (fun n e => by cases e)
          rw [es, ← e5, ← e6] at this
          exact this
        · unfold plainStep at L ⊢; dsimp only at L ⊢
          rw [e6, ← es] at L
          obtain ⟨q1, q2⟩ := o.slotted W e2 L
          refine ⟨_, (ha.trans e7).trans (by rw [q1]), ?_⟩
          rw [e6, e5]
          exact q2
      · exact .inl ⟨e, ha.trans e1, hw.trans e2⟩
    · exact .inl ⟨.hand, if_pos c, wrongH_no c hz.1.1⟩
  | take h p s =>
    by_cases c : OkH h
    · by_cases c2 : OkH p
      · have ha : act P (.take h p s) = atSlot P p s fun _ b => .fine (ptHand P h.toNat (b.slots.getD s.toNat none)).1 (ptHand P h.toNat (b.slots.getD s.toNat none)).2 := (if_neg (not_not_intro c)).trans (if_neg (not_not_intro c2))
        have hw : wrongP hs rs al (.take h p s) = wrongB hs rs p s := (wrongH_ok c).trans (wrongH_ok c2)
        rcases plain_slot W o.own p hz.2.2.1 (fun _ b => .fine (ptHand P h.toNat (b.slots.getD s.toNat none)).1 (ptHand P h.toNat (b.slots.getD s.toNat none)).2) with ⟨n, b, e1, e2, e3, e4, e5, e6, e7⟩ | ⟨e, e1, e2⟩
        · refine .inr ⟨hw.trans e4, { P with hands := P.hands.set h.toNat (b.slots.getD s.toNat none), boxes := bumped P.boxes (b.slots.getD s.toNat none) }, ?_, fun al' d' F L => ?_⟩
          · have := o.hand W (i := h.toNat) (by have := c.2; have := c.1; omega) (x := b.slots.getD s.toNat none) (fun n e => W.slot e2 e)
            rw [hl] at this
            unfold plainStep; dsimp only
            rw [e6]
            exact this
          · unfold plainStep at L ⊢; dsimp only at L ⊢
            obtain ⟨q1, q2⟩ := o.handed (i := h.toNat) (x := b.slots.getD s.toNat none) (by rw [hl]; exact L)
            refine ⟨_, (ha.trans e7).trans (by rw [q1]), ?_⟩
            rw [e6]
            exact q2
        · exact .inl ⟨e, ha.trans e1, hw.trans e2⟩
      · exact .inl ⟨.hand, (if_neg (not_not_intro c)).trans (if_pos c2), (wrongH_ok c).trans (wrongH_no c2 hz.2.1.1)⟩
    · exact .inl ⟨.hand, if_pos c, wrongH_no c hz.1.1⟩
end BP

/-! A def that is called within an except suite and handed what the suite holds. Own work. -/
namespace BP
open PySem PySem.Spec PyProof.Rows L2 L2H
/-- its promise knows which exception is in hand -/
structure FnE (P : Program) (w : World) (K : PySem.W.Frag) (mg : Str → Option Value) (base : Heap) (CX : CXT) (k : Nat) (f : Addr) (fd : FuncData) (ps : List Str) (sp : Addr × Obj → Sp) : Prop where
  many : ∀ z vs H Q E, sp z vs H Q E → vs.length = ps.length
  goes : ∀ (Ar : Around) (stk : List Env) (sh : Shared) (Hh : Hp) (ags : Args) (ws : List Value) (xs : List V) (Qq : VK) (Ee : XK) (z : Addr × Obj), RoomH k Ar → Hot1 Ar z → PinOk stk Hh sh z → Env0 P w K mg base Ar stk sh Hh → BindsTo sh fd ags (ps.zip ws) → Vals xs ws → sp z xs Hh Qq Ee →
    codeAny (model P w) Ar (.call (.ref f) ags) (CR CX stk P w Hh sh Qq Ee) sh
/-- from its body -/
theorem okE {P : Program} {w : World} {K : PySem.W.Frag} {mg : Str → Option Value} {base : Heap} {CX : CXT} {x qual : Str} {st : Stmt} {f : Addr} {fd : FuncData} {N ps : List Str} {k : Nat} {sp : Addr × Obj → Sp} (F : L2.Fun K x qual st f fd) (S : FnScope N ps (defScope st)) (many : ∀ z vs H Q E, sp z vs H Q E → vs.length = ps.length)
    (body : ∀ (cdv : Value) (Ar : Around) (stk : List Env) (sh : Shared) (Hh : Hp) (xs : List V) (Qq : VK) (Ee : XK) (z : Addr × Obj), Hot1 Ar z → HotC (cxH CX P w K mg base N qual (defScope st) f cdv Ar stk sh Hh Ee z) → RoomH k (Ar.deeper (envOfC qual (defScope st) sh.heap.objs.size f cdv)) → sp z xs Hh Qq Ee →
      ∃ t, PSs (cxH CX P w K mg base N qual (defScope st) f cdv Ar stk sh Hh Ee z) (defBody st) t ∧ t { nx := fun _ H' => Qq .non H', rt := Qq } (start N xs) Hh) : FnE P w K mg base CX (k + 1) f fd ps sp := by
  obtain ⟨oc, od, kV, doc, pm, an, cdv, ct, osl, rfl, lk, hcd⟩ := F.ex
  refine ⟨many, fun Ar stk sh Hh ags ws xs Qq Ee z room hot pin e0 bind vals want => ?_⟩
  have old := e0.bs
  have KIn : K.In sh.heap := e0.mod.kin.keeps fun b o e => (old b o e).1
  have free : sh.heap.NoLimit := e0.mod.nolimit.keeps fun b o e => (old b o e).1
  have names : ∀ y ∈ ps.zip ws, (defScope st).names.lookup y.1 = some .local ∨ ((defScope st).names.lookup y.1 = some .cell ∧ ((cellsFrom (sh.heap.objs.size + 1) (defScope st).names []).lookup y.1).isSome = true) := by
    rintro ⟨n, v⟩ hy
    exact (S.par n (List.of_mem_zip hy).1).imp id fun q => ⟨q, PySem.W.cellsFrom_some _ _ _ (.inl q)⟩
  have bare := many _ _ _ _ _ want
  refine codeAny_call_function room.depth (KIn _ _ lk) rfl S.co S.gen rfl (PySem.W.codeRec_of KIn hcd) (bind _ _ _ _ ?_)
  refine wpAny_newFunctionEnv_cells S.kind names ?_
  rintro _ rfl s1 made
  refine ⟨free.keeps made.toInCall.keep, codeAny_func ?_⟩
  obtain ⟨t, ht, hq⟩ := body cdv Ar stk sh Hh xs Qq Ee z hot ⟨z, ⟨hot.1, hot.2⟩, List.mem_singleton.mpr rfl⟩ (room.deeper _) want
  have I0 := inv_startH (CX := CX) (E := Ee) (N := N) (cd := cdv) S pin e0 bare vals made
  refine wpAny_mono (ht.run [] s1 _ Hh _ I0 hq) (fun fl s' end_ => ?_) fun _ _ q => q
  cases fl with
  | next =>
    obtain ⟨σ9, H9, J, q⟩ := end_
    exact ⟨V.non, H9, J.os, J.bare, J.base, J.hok, rfl, q⟩
  | ret u =>
    obtain ⟨v9, σ9, H9, J, r9, q⟩ := end_
    exact ⟨v9, H9, J.os, J.bare, J.base, J.hok, r9, q⟩
  | cont =>
    obtain ⟨_, _, _, q⟩ := end_
    cases q
  | brk =>
    obtain ⟨_, _, _, q⟩ := end_
    cases q
section
variable {X : Cx}
/-- its call -/
theorem pe_callE {CX : CXT} {k : Nat} {f : Addr} {fd : FuncData} {ps : List Str} {sp : Addr × Obj → Sp} {Ee : L2.St → XK} {x : Str} {np pos : Pos} {e : Expr} {es : List Expr} {t : TA} {z : Addr × Obj} (F : FnE X.prog X.w X.K X.mg X.base CX k f fd ps sp) (room : RoomH k X.A) (hot : Hot1 X.A z) (hz : z ∈ X.pn)
    (hg : Gl X x) (hm : X.mg x = some (.ref f)) (hk : PySem.W.keepIn X.K (.ref f) = true) (hb : Binds X.K fd ps []) (hx : ∀ σ, PassesAt CX X σ (Ee σ)) (ha : PA X (e :: es) t) (hdb : (x == ("__debug__" : Str)) = false := by decide)
    (hst : starEach (e :: es) X.env = (false, eval e X.env) :: starEach es X.env := by rfl) (hpl : (backTo pos (starEach es X.env)).any (·.1) = false := by rfl) : PE X (.Call (.Name x np) (e :: es) [] pos) (tCallS (sp z) Ee t) := by
  refine ⟨fun pins s σ H Q I want => wpAny_Call_Name_kw (ld_glob I hg hm ?_ hdb)⟩
  refine PySem.W.callWith_K (h₀ := X.base) I.ok.mod.kin hk (thn (ha.run pos pins s σ H _ I want) ?_) hst hpl
  rintro ws s1 ⟨xs, H1, I1, vals, q⟩
  refine ⟨I1.kIn, ?_⟩
  obtain ⟨g1, g2, g3, g4, g5⟩ := I1.pin z (List.mem_append_left _ hz)
  have len : ws.length = ps.length := by rw [← vals.length]; exact F.many _ _ _ _ _ q
  have bnd := hb s1 ws I1.kIn (by rw [List.append_nil]; exact len)
  rw [List.append_nil] at bnd
  have away : z.1 ∉ frs X.stack := fun hm => by
    rcases List.mem_cons.mp (I1.stkSub z.1 hm) with y | y
    · exact g3 y
    · exact g4 y
  refine wpAny_call (codeAny_mono (F.goes X.A X.stack s1 H1 ⟨ws, []⟩ ws xs Q (Ee σ) z room hot ⟨g1, g2, away, g5⟩ I1.env0 bnd vals q) fun r s' out => ?_)
  match r, out with
  | .error u, out => exact hx σ pins H1 s1 u s' I1 out
  | .ok (.ret u), out => exact I1.after out
  | .ok .next, out => cases out
  | .ok .brk, out => cases out
  | .ok .cont, out => cases out
/-- isinstance of what is in hand -/
theorem call_isP {a : Addr} {oe : Obj} {cls : Value} {d : Option Addr} (hz : Zc cls d oe) (hf : ∃ vs, oe.data = .fields vs) (hm : (a, oe) ∈ X.pn) : CallR X (.builtin "isinstance") (rIsE1 X.K a cls d) := by
  rintro pins s σ H xs us Q I r ⟨D, c, u, b, rfl, rfl, C, rfl, k, e, q⟩
  obtain ⟨u1, u2, rfl, r1, r2⟩ := vals2 r
  cases r1
  have e2 := k.eq r2
  subst e2
  obtain ⟨hget, _⟩ := I.pin (a, oe) (List.mem_append_left _ hm)
  exact PySem.W.kia_one (PySem.W.handS_kitx_exc C.hg C.hk C.hs C.hd C.ha C.hn C.ht C.hm) I.kIn (inst_at hz hf hget) e (fun z => nomatch z) fun tk => ⟨.bl b, H, I.tok tk, rfl, q⟩
end
end BP

/-! set(xs) of a list of ints, as a set that can be walked. Own work. -/
namespace BP
open PySem PySem.Spec PyProof.Rows L2
/-- a set without members, as it is made -/
abbrev noSet (w : World) : Obj := { cls := .type "set", dict := none, data := .set #[] 0 (.fresh 0 0 (!w.params.followText "set-order")) }
section
variable {P : Program} {w : World} {A : Around} {E : Value → Shared → Prop} {s : Shared}
theorem list_ints_at {items : Array Value} {ns : List Int} (hit : IntsAre items.toList ns) (hz : items.size = ns.length) : ∀ (i : Nat) (v : Value), items[i]? = some v → ∃ k t, ns[i]? = some k ∧ v = .int k t := by
  intro i v hv
  have hi : i < ns.length := hz ▸ (Array.getElem?_eq_some_iff.mp hv).1
  obtain ⟨t, e⟩ := IntsAre.int_at hit i v ((Array.getElem?_toList (xs := items) (i := i)).trans hv)
  have eg : ns.getD i 0 = ns[i] := by rw [List.getD_eq_getElem?_getD, List.getElem?_eq_getElem hi]; rfl
  exact ⟨ns[i], t, List.getElem?_eq_getElem hi, by rw [e, eg]⟩
theorem set_of_list {l : Addr} {items : Array Value} (ns : List Int) {Q : Value → Shared → Prop} (hh : A.handled = none) (hl : s.heap.IsList l items) (hit : IntsAre items.toList ns) (hb : ns.length + 1 < scanBound)
    (h : ∀ (h' : Heap) (tk c : Nat), SetR w h' s.heap.objs.size (fun j => decide (j ∈ ns)) c → c ≤ ns.length → (∀ b o, s.heap.get? b = some o → h'.get? b = some o) → Q (.ref s.heap.objs.size) { s with heap := h', toks := tk }) :
    wpAny (model P w) A (call (.type "set") [.ref l]) Q E s := by
  have hz : items.size = ns.length := (Array.length_toList (xs := items)).symm.trans (IntsAre.length hit)
  obtain ⟨c, tl, hmro⟩ := F.called_set.mro
  have m1 := F.called_set.made; have m2 := F.called_set.sub
  refine wpAny_call (codeAny_of_tree (show wpAny _ _ (callAny (.type "set") _) _ _ _ from wpAny_pure ⟨Code.quiet_builtin _ (by decide +kernel), codeAny_builtin F.entry_type_call ?_⟩))
  rw [Around.under_plain (weight_type_call_type "set" [.ref l] []) rfl]
  have m3 := F.called_set.notType; have m4 := F.called_set.canCreate; have m5 := F.typeCall_set_1 (.ref l)
  repeat any_goals first | assumption | wp_step
  refine codeAny_mono (code_set_led1 (.ref l) (E := E) (Q₁ := fun v s₁ => v = .ref s.heap.objs.size ∧ s₁ = { s with heap := s.heap.push (noSet w) }) ⟨rfl, rfl⟩) fun r s₁ hr => ?_
  cases r with
  | error e => exact hr
  | ok fl =>
    cases fl with
    | next => exact hr.elim
    | brk => exact hr.elim
    | cont => exact hr.elim
    | ret v =>
      obtain ⟨rfl, rfl⟩ := hr
      have hS : (s.heap.push (noSet w)).get? s.heap.objs.size = some (noSet w) := Heap.get?_push_size _ rfl
      have hT : Shared.TypeIs { s with heap := s.heap.push (noSet w) } (.ref s.heap.objs.size) "set" := ⟨_, hS, rfl⟩
      have i1 := F.called_set.init.lookup; have i2 := F.called_set.init.bind (.ref s.heap.objs.size)
      repeat any_goals first | assumption | wp_step
      refine codeAny_mono (codeAny_call_builtin (R := wants (fun v s₂ => v = .none ∧ ∃ h' tk c, s₂ = { s with heap := h', toks := tk } ∧ SetR w h' s.heap.objs.size (fun j => decide (j ∈ ns)) c ∧ c ≤ ns.length ∧ (∀ b o, s.heap.get? b = some o → h'.get? b = some o)) E)
        F.called_set.init.plain F.entry_set_init (check_set_init_1 hT ?_)) fun r₂ s₂ hr₂ => ?_
      · obtain ⟨⟨ocls, odict, odata, oslots⟩, hol, hcl, nl, hdl⟩ := hl
        dsimp only at hcl hdl
        subst hcl hdl
        have hol' : (s.heap.push (noSet w)).get? l = some { cls := .type "list", dict := odict, data := .seq items nl, slots := oslots } := Heap.get?_push_of_some _ hol
        have n1 := F.sub_list_set; have n2 := F.sub_list_frozenset
        have n3 : (Value.type "list" == Value.type "dict") = false := by decide
        have hl1 : (s.heap.push (noSet w)).IsList l items := ⟨_, hol', rfl, nl, rfl⟩
        unfold Builtin.«set.__init__» noKeywords Builtin.Frozenset.updateFrom
        generalize hPI : pyIter = PI
        wp_walk
        subst hPI
        refine wpAny_pyIter_list hl1 (wpAny_bind (wpAny_runValue ?_))
        have lS : l < s.heap.objs.size := Heap.lt_size hol
        have h3 : A.in1.in1.in1.handled = none := by simp [hh]
        have zS : (s.heap.push (noSet w)).objs.size = s.heap.objs.size + 1 := Heap.size_push ..
        have nI : l ≠ (s.heap.push (noSet w)).objs.size := Nat.ne_of_lt (by rw [zS]; exact Nat.lt_succ_of_lt lS)
        have nS : s.heap.objs.size ∉ [(s.heap.push (noSet w)).objs.size, l] := by
          rw [zS]
          intro q
          simp only [List.mem_cons, List.not_mem_nil, or_false] at q
          rcases q with q | q
          · exact absurd q (Nat.ne_of_lt (Nat.lt_succ_self _))
          · exact absurd q (Nat.ne_of_gt lS)
        refine set_update_ints ((Walks.list h3 _ l nI items).toS) s.heap.objs.size nS ns hz hb (list_ints_at hit hz) (items.size - 0) 0 _ (by omega) (Nat.zero_le _) ⟨⟨_, Heap.get?_push_size _ rfl, rfl, rfl⟩, (hl1.push _)⟩ ⟨0, Nat.le_refl 0, setR_new_at (Heap.get?_push_of_some _ hS)⟩ fun s' c' hm hc' hS' => ?_
        obtain ⟨h', g2, d', tk', os'⟩ := s'
        obtain rfl : g2 = s.gens := hm.gens
        obtain rfl : d' = s.drawn := hm.drawn
        obtain rfl : os' = s.os := hm.os
        refine wpAny_pure (wpAny_pure ⟨rfl, h', tk', c', rfl, hS', by omega, fun b o e => ?_⟩)
        have b0 : b < s.heap.objs.size := Heap.lt_size e
        refine hm.heap b o (fun q => ?_) (Heap.get?_push_of_some _ (Heap.get?_push_of_some _ e))
        rw [zS] at q
        simp only [List.mem_cons, List.not_mem_nil, or_false] at q
        rcases q with q | q
        · exact absurd q (Nat.ne_of_lt b0)
        · exact absurd q (Nat.ne_of_lt (Nat.lt_succ_of_lt b0))
      · cases r₂ with
        | error e => exact hr₂
        | ok fl₂ =>
          cases fl₂ with
          | next => exact hr₂.elim
          | brk => exact hr₂.elim
          | cont => exact hr₂.elim
          | ret v =>
            obtain ⟨rfl, h', tk, c', rfl, hS', hc', hk'⟩ := hr₂
            repeat any_goals first | assumption | wp_step
            exact h _ _ _ hS' hc' hk'
end
section
variable {X : Cx}
theorem ints_from : ∀ (ns : List Int) {us : List Value}, Vals (ns.map V.int) us → IntsAre us ns
  | [], _, r => by cases r; exact .nil
  | n :: ns, _, r => by
    cases r with
    | cons h t =>
      obtain ⟨k, rfl⟩ := h
      exact .cons n k (ints_from ns t)
/-- set(xs), xs a list of ints -/
def rSetL (K : PySem.W.Frag) (w : World) : List V → Hp → VK → Prop := fun xs H Q => ∃ (l : Addr) (ns : List Int), xs = [.ref l] ∧ SqL K H l (ns.map V.int) ∧ ns.length < 64 ∧ ∀ (p : Addr) (c : Nat), c ≤ ns.length → H p = none → Q (.ref p) (upd H p (SetO w p (fun j => decide (j ∈ ns)) c))
theorem cr_setL (hc : X.calm = true) : CallR X (.type "set") (rSetL X.K X.w) := by
  intro pins s σ H xs us Q I r h
  obtain ⟨l, ns, rfl, hS, h64, q⟩ := h
  obtain ⟨u, rfl, ru⟩ := vals1 r
  cases ru
  obtain ⟨its, rv, pl, hz⟩ := I.list hS
  have hi : IntsAre its.toArray.toList ns := by simpa using ints_from ns rv
  refine set_of_list ns (I.ok.hd hc) pl.isList hi (by unfold scanBound; omega) fun h' tk c R hle k => ?_
  have hn : H s.heap.objs.size = none := I.hok.fresh (Nat.le_refl _)
  exact ⟨.ref _, upd H s.heap.objs.size (SetO X.w s.heap.objs.size (fun j => decide (j ∈ ns)) c), I.laid (t' := tk) k (Nat.le_refl _) (setO_new R), rfl, q _ c hle hn⟩
end
end BP

/-! set(xs) of a list of ints with many repeated. Own work. -/
namespace BP
open PySem PySem.Spec PyProof.Rows L2
theorem nodup_within : ∀ {e l : List Int}, e.Nodup → (∀ n ∈ e, n ∈ l) → e.length ≤ l.length
  | [], _, _, _ => Nat.zero_le _
  | x :: e, l, nd, h => by
    have nd := List.nodup_cons.mp nd
    have hx := h x List.mem_cons_self
    have := nodup_within (e := e) (l := l.erase x) nd.2 fun n hn => (List.mem_erase_of_ne (fun z => nd.1 (by rw [← z]; exact hn))).mpr (h n (List.mem_cons_of_mem _ hn))
    rw [List.length_erase_of_mem hx] at this
    have : 0 < l.length := List.length_pos_of_mem hx
    show e.length + 1 ≤ l.length
    omega
theorem set_small {w : World} {h : Heap} {a : Addr} {S : Int → Bool} {n : Nat} {big : List Int} (R : SetR w h a S n) (hb : ∀ k, S k = true → k ∈ big) : n ≤ big.length := by
  obtain ⟨o, es, ep, t, _, _, _, _, nd, mem, _, _, sz, _⟩ := R
  have := nodup_within nd fun k hk => hb k ((mem k).mpr hk)
  rw [List.length_map, Array.length_toList, sz] at this
  exact this
section
variable {X : Cx}
/-- set(xs), xs a list of ints out of a few -/
def rSetW (K : PySem.W.Frag) (w : World) : List V → Hp → VK → Prop := fun xs H Q => ∃ (l : Addr) (ns big : List Int), xs = [.ref l] ∧ SqL K H l (ns.map V.int) ∧ ns.length < 4000 ∧ (∀ n ∈ ns, n ∈ big) ∧ ∀ (p : Addr) (c : Nat), c ≤ big.length → H p = none → Q (.ref p) (upd H p (SetO w p (fun j => decide (j ∈ ns)) c))
theorem cr_setW (hc : X.calm = true) : CallR X (.type "set") (rSetW X.K X.w) := by
  intro pins s σ H xs us Q I r h
  obtain ⟨l, ns, big, rfl, hS, h4, hb, q⟩ := h
  obtain ⟨u, rfl, ru⟩ := vals1 r
  cases ru
  obtain ⟨its, rv, pl, hz⟩ := I.list hS
  have hi : IntsAre its.toArray.toList ns := by simpa using ints_from ns rv
  refine set_of_list ns (I.ok.hd hc) pl.isList hi (by unfold scanBound; omega) fun h' tk c R hle k => ?_
  have hn : H s.heap.objs.size = none := I.hok.fresh (Nat.le_refl _)
  exact ⟨.ref _, upd H s.heap.objs.size (SetO X.w s.heap.objs.size (fun j => decide (j ∈ ns)) c), I.laid (t' := tk) k (Nat.le_refl _) (setO_new R), rfl, q _ c (set_small R fun k hk => hb k (of_decide_eq_true hk)) hn⟩
end
end BP

namespace BP
open PySem L2
abbrev sWhole : Stmt := top 31
abbrev sNums : Stmt := top 33
abbrev sCellAt : Stmt := top 32
abbrev sDeedBy : Stmt := top 34
abbrev sRingDeeds : Stmt := top 35
abbrev sFanDeeds : Stmt := top 36
abbrev sDeeds : Stmt := top 37
abbrev sWeight : Stmt := top 38
abbrev sFreed : Stmt := top 39
abbrev sTidied : Stmt := top 40
abbrev sWrong : Stmt := top 41
abbrev sOwn : Stmt := top 42
abbrev sAnswerL : Stmt := top 43
abbrev sCalled : Stmt := top 44
abbrev sWordL : Stmt := top 45
abbrev sTold : Stmt := top 46
abbrev sDoneSo : Stmt := top 47
abbrev sLaw : Stmt := top 48
/-- the names of the built-ins that the law's helpers call -/
structure TxtL (mg : Str → Option Value) : Prop where
  isi : mg "isinstance" = none
  int : mg "int" = none
  bool : mg "bool" = none
  list : mg "list" = none
  len : mg "len" = none
  range : mg "range" = none
  min : mg "min" = none
  sorted : mg "sorted" = none
  set : mg "set" = none
  tuple : mg "tuple" = none
  str : mg "str" = none
  all : mg "all" = none
def spWhole : Sp := fun vs H Q _ => ∃ n : Int, vs = [.int n] ∧ Q (.bl true) H
def spLaw (K : PySem.W.Frag) : Sp := fun vs H Q _ => ∃ (a : Addr) (ns : List Int), vs = [.ref a] ∧ SqL K H a (ns.map V.int) ∧ ns.length ≤ 63 ∧ ∀ H', Q (.bl true) H'
def spNums : Sp := fun vs H Q _ => ∃ (a b : Addr) (l : List (Option Int)), vs = [.ref a, .ref b] ∧ H a = some (.lst (lV l)) ∧ H b = some (.lst (lV l)) ∧ l.length ≤ 1000 ∧ Q (.bl true) H
section
variable {P : Program} {w : World} {K : PySem.W.Frag} {mg : Str → Option Value} {base : Heap} {C B eH eS eF eB eL : Addr}
theorem scWhole : FnScope ["_law_found"] ["_law_found"] (defScope sWhole) := ⟨rfl, rfl, rfl, by decide +kernel, rfl, by decide +kernel, by decide +kernel⟩
theorem ok_whole {f : Addr} {fd : FuncData} (F : Fun K "_law_whole" "_law_whole" sWhole f fd) (T : TxtL mg) : FnOk P w K mg base CX0 1 f fd ["_law_found"] spWhole := by
  refine F.ok scWhole (fun vs H Q E h => ?_) (fun cdv A outer s H vs Q E hr h => ?_)
  · obtain ⟨n, rfl, _⟩ := h
    rfl
  · obtain ⟨n, rfl, k⟩ := h
    refine ⟨_, pss_one (ps_ret (pe_and (pe_callB call_isi (by rfl) T.isi PyProof.Rows.boot_isinstance (pa_cons (pv 0) (pa_cons (pe_bltn (v := .ty "int") (by rfl) T.int PyProof.Rows.boot_int rfl) pa_nil)))
      (pe_one (pe_not (pe_callB call_isi (by rfl) T.isi PyProof.Rows.boot_isinstance (pa_cons (pv 0) (pa_cons (pe_bltn (v := .ty "bool") (by rfl) T.bool (by decide +kernel) rfl) pa_nil))))))), ?_⟩
    refine ⟨_, rfl, _, _, _, _, true, rfl, .ty "int", .base (.int n), kit_ty (by decide +kernel), _, rfl, ?_⟩
    refine iteT ⟨_, rfl, _, _, _, _, false, rfl, .ty "bool", .base (.int n), kit_ty (by decide +kernel), _, rfl, ?_⟩
    exact k
theorem scNums : FnScope ["_law_found", "_law_due", "_law_k"] ["_law_found", "_law_due"] (defScope sNums) := ⟨rfl, rfl, rfl, by decide +kernel, rfl, by decide +kernel, by decide +kernel⟩
theorem ok_nums {f fW : Addr} {fd fdW : FuncData} (F : Fun K "_law_numbers" "_law_numbers" sNums f fd) (T : TxtL mg) (FW : Fun K "_law_whole" "_law_whole" sWhole fW fdW) (bW : Binds K fdW ["_law_found"] []) (gW : mg "_law_whole" = some (.ref fW)) :
    FnOk P w K mg base CX0 2 f fd ["_law_found", "_law_due"] spNums := by
  have GW : FnOk P w K mg base CX0 1 fW fdW ["_law_found"] spWhole := ok_whole FW T
  refine F.ok scNums (fun vs H Q E h => ?_) (fun cdv A outer s H vs Q E hr h => ?_)
  · obtain ⟨a, b, l, rfl, _⟩ := h
    rfl
  · obtain ⟨a, b, l, rfl, ha, hb, hl, k⟩ := h
    refine ⟨_, pss_cons (ps_if (PW.pt (pw_or (pt_not (pt_val (pe_callB call_isi (by rfl) T.isi PyProof.Rows.boot_isinstance (pa_cons (pv 0) (pa_cons (pe_bltn (v := .ty "list") (by rfl) T.list (by decide +kernel) rfl) pa_nil)))))
          (pw_or1 (pt_cmpR op_ne (pe_callB call_len_seq (by rfl) T.len PySem.boot_len (pa_cons (pv 0) pa_nil)) (pe_callB call_len_seq (by rfl) T.len PySem.boot_len (pa_cons (pv 1) pa_nil)) (nomark _))))) (pss_one (ps_ret pe_bl)) pss_nil)
      (pss_cons (ps_for PassesOwn.never rfl (pi_range1 (by rfl) T.range (pa_cons (pe_callB call_len_seq (by rfl) T.len PySem.boot_len (pa_cons (pv 1) pa_nil)) pa_nil)) (pg_name (i := 2) scNums.nd rfl (Or.inl rfl))
        (pss_one (ps_if (pt_cmpR op_isN (pe_ix ix_list (pv 1) (pv 2) (fun _ _ => rfl)) pe_non (nomark _))
          (pss_one (ps_if (pt_cmpR op_notN (pe_ix ix_list (pv 0) (pv 2) (fun _ _ => rfl)) pe_non (nomark _)) (pss_one (ps_ret pe_bl)) pss_nil))
          (pss_one (ps_if (PW.pt (pw_or (pt_not (pt_val (pe_call GW hr rfl gW FW.kp bW .nil pass0 (pa_cons (pe_ix ix_list (pv 0) (pv 2) (fun _ _ => rfl)) pa_nil))))
            (pw_or1 (pt_cmpR op_ne (pe_ix ix_list (pv 0) (pv 2) (fun _ _ => rfl)) (pe_ix ix_list (pv 1) (pv 2) (fun _ _ => rfl)) (nomark _))))) (pss_one (ps_ret pe_bl)) pss_nil)))))
      (pss_one (ps_ret pe_bl))), ?_⟩
    refine ⟨_, rfl, _, _, _, _, true, rfl, .ty "list", .base (.lst ha), kit_ty (by decide +kernel), _, rfl, ?_⟩
    refine iteF ⟨_, rfl, a, _, rfl, .inl (SqL.of ha), _, rfl, b, _, rfl, .inl (SqL.of hb), rfl, _, rfl, ?_⟩
    refine iteNS rfl ?_
    have ell : (lV l).length = l.length := lV_len l
    refine ⟨_, rfl, b, _, rfl, .inl (SqL.of hb), _, rfl, by omega, by omega, ?_⟩
    rw [ell]
    refine for_range (lo := 0) (n := (l.length : Int).toNat) (fun i σ H' => ∃ v : Option V, σ = [some (.ref a), some (.ref b), v] ∧ H' = H) ⟨none, rfl, rfl⟩ ?_ ?_
    · rintro i σ H' hi ⟨v, rfl, rfl⟩
      have hi' : i < l.length := by omega
      have hx := lV_get hi'
      have hix : (0 : Int) + (i : Int) = ((i : Nat) : Int) := by omega
      refine ⟨_, rfl, _, rfl, b, _, _, _, rfl, rfl, SqL.of hb, at_of (j := i) hix hx, rfl, _, rfl, ?_⟩
      cases e : l.getD i none with
      | none =>
        rw [e] at hx
        refine iteT ⟨_, rfl, _, rfl, a, _, _, _, rfl, rfl, SqL.of ha, at_of (j := i) hix hx, rfl, _, rfl, ?_⟩
        exact iteF ⟨_, rfl, rfl⟩
      | some n =>
        rw [e] at hx
        refine iteF ⟨_, rfl, _, rfl, a, _, _, _, rfl, rfl, SqL.of ha, at_of (j := i) hix hx, n, rfl, _, rfl, ?_⟩
        refine iteF ⟨_, rfl, _, rfl, a, _, _, _, rfl, rfl, SqL.of ha, at_of (j := i) hix hx, _, rfl, _, rfl, b, _, _, _, rfl, rfl, SqL.of hb, at_of (j := i) hix hx, rfl, _, rfl, ?_⟩
        exact iteNS rfl ⟨_, rfl, rfl⟩
    · rintro σ H' ⟨v, rfl, rfl⟩
      exact k
theorem ixN_int {n : Nat} {h : Int} (h0 : 0 ≤ h) (h1 : h < n) : ixN n h = some h.toNat := by
  unfold ixN
  rw [if_pos h0, if_pos h1]
theorem lV_int (l : List Int) : l.map V.int = lV (l.map some) := by
  unfold lV
  rw [List.map_map]
  rfl
theorem inV_ints (n : Int) : ∀ l : List Int, inV (V.int n) (l.map V.int) = decide (n ∈ l)
  | [] => rfl
  | m :: l => by
    have ih := inV_ints n l
    unfold inV at ih ⊢
    rw [List.map_cons, List.any_cons, ih]
    show ((m == n) || decide (n ∈ l)) = decide (n ∈ m :: l)
    by_cases q : m = n
    · subst q; simp
    · have : ¬ n = m := fun z => q z.symm
      simp [q, this]
theorem flat_ints : ∀ l : List Int, (l.map V.int).all flatV = true
  | [] => rfl
  | m :: l => by rw [List.map_cons, List.all_cons, flat_ints l]; rfl
theorem lV_at {l : List (Option Int)} {i : Nat} {y : V} (hi : (lV l)[i]? = some y) : ∃ o, l[i]? = some o ∧ y = oV o := by
  unfold lV at hi
  rw [List.getElem?_map] at hi
  cases e : l[i]? with
  | none => rw [e] at hi; cases hi
  | some o =>
    rw [e] at hi
    exact ⟨o, rfl, (Option.some.inj hi).symm⟩
theorem ints_at {l : List Int} {i : Nat} {y : V} (hi : (l.map V.int)[i]? = some y) : ∃ n, l[i]? = some n ∧ y = V.int n := by
  rw [List.getElem?_map] at hi
  cases e : l[i]? with
  | none => rw [e] at hi; cases hi
  | some o =>
    rw [e] at hi
    exact ⟨o, rfl, (Option.some.inj hi).symm⟩
/-- the addresses and facts of the program's defs -/
structure Defs (K : PySem.W.Frag) (mg : Str → Option Value) (C B : Addr) (fI fM fO fR fU fE fQ fH fT fG fA fS fX fY fP fL fB fK fCS fCA fPA fRE fTR fTY fDO fRD fRN fAN fPY fW fD fN fZ5 fT1 fT2 fT3 fT4 fT5 fT6 fT7 fT8 fT9 fTA fTB_ fTC fTD : Addr) (dI dM dO dR dU dE dQ dH dT dG dA dS dX dY dP dL dB dK dCS dCA dPA dRE dTR dTY dDO dRD dRN dAN dPY dW dD dN dZ5 dT1 dT2 dT3 dT4 dT5 dT6 dT7 dT8 dT9 dTA dTB_ dTC dTD : FuncData) : Prop where
  FI : Fun K "__init__" "Pile.__init__" sInit fI dI
  bI : Binds K dI ["self"] []
  MC : Mk K C fI
  FM : Fun K "make" "Pile.make" sMake fM dM
  bM : Binds K dM ["self", "hand", "size"] []
  mM : Meth K C "make" fM
  FO : Fun K "hold" "Pile.hold" sHold fO dO
  bO : Binds K dO ["self", "hand", "other"] []
  mO : Meth K C "hold" fO
  FR : Fun K "drop" "Pile.drop" sDrop fR dR
  bR : Binds K dR ["self", "hand"] []
  mR : Meth K C "drop" fR
  FU : Fun K "put" "Pile.put" sPut fU dU
  bU : Binds K dU ["self", "hand", "slot", "other"] []
  mU : Meth K C "put" fU
  FE : Fun K "empty" "Pile.empty" sEmpty fE dE
  bE : Binds K dE ["self", "hand", "slot"] []
  mE : Meth K C "empty" fE
  FQ : Fun K "take" "Pile.take" sTake fQ dQ
  bQ : Binds K dQ ["self", "hand", "other", "slot"] []
  mQ : Meth K C "take" fQ
  FH : Fun K "holds" "Pile.holds" sHolds fH dH
  bH : Binds K dH ["self", "hand"] []
  mH : Meth K C "holds" fH
  FT : Fun K "points" "Pile.points" sPoints fT dT
  bT : Binds K dT ["self", "number"] []
  mT : Meth K C "points" fT
  FG : Fun K "weighs" "Pile.weighs" sWeighs fG dG
  bG : Binds K dG ["self", "number"] []
  mG : Meth K C "weighs" fG
  FA : Fun K "alive" "Pile.alive" sAlive fA dA
  bA : Binds K dA ["self"] []
  mA : Meth K C "alive" fA
  FS : Fun K "suspects" "Pile.suspects" sSuspects fS dS
  bS : Binds K dS ["self"] []
  mS : Meth K C "suspects" fS
  FX : Fun K "_box" "Pile._box" sBox fX dX
  bX : Binds K dX ["self", "number"] []
  mX : Meth K C "_box" fX
  FY : Fun K "_slots_with" "Pile._slots_with" sSlotsWith fY dY
  bY : Binds K dY ["self", "hand", "slot"] []
  mY : Meth K C "_slots_with" fY
  FP : Fun K "_point" "Pile._point" sPoint fP dP
  bP : Binds K dP ["self", "pointers", "at", "number"] []
  mP : Meth K C "_point" fP
  FL : Fun K "_let_go" "Pile._let_go" sLetGo fL dL
  bL : Binds K dL ["self", "pointer"] []
  mL : Meth K C "_let_go" fL
  FB : Fun K "__init__" "Box.__init__" sBoxInit fB dB
  bB : Binds K dB ["self", "size"] []
  MB : Mk K B fB
  FK : Fun K "check_hand" "check_hand" sCheck fK dK
  bK : Binds K dK ["hand"] []
  gK : mg "check_hand" = some (.ref fK)
  FCS : Fun K "check_slot" "check_slot" sCheckSlot fCS dCS
  bCS : Binds K dCS ["slots", "slot"] []
  gCS : mg "check_slot" = some (.ref fCS)
  FCA : Fun K "clear_away" "Pile.clear_away" sClear fCA dCA
  bCA : Binds K dCA ["self", "numbers"] []
  mCA : Meth K C "clear_away" fCA
  FPA : Fun K "pointed_at" "pointed_at" sPointedAt fPA dPA
  bPA : Binds K dPA ["pile", "number"] []
  gPA : mg "pointed_at" = some (.ref fPA)
  FRE : Fun K "reached" "reached" sReached fRE dRE
  bRE : Binds K dRE ["pile", "numbers"] []
  gRE : mg "reached" = some (.ref fRE)
  FTR : Fun K "trials" "trials" sTrials fTR dTR
  bTR : Binds K dTR ["pile"] []
  gTR : mg "trials" = some (.ref fTR)
  FTY : Fun K "tidy" "tidy" sTidy fTY dTY
  bTY : Binds K dTY ["pile"] []
  gTY : mg "tidy" = some (.ref fTY)
  FDO : Fun K "done" "done" sDoneP fDO dDO
  bDO : Binds K dDO ["pile", "deed"] []
  gDO : mg "done" = some (.ref fDO)
  FRD : Fun K "read" "read" sRead fRD dRD
  bRD : Binds K dRD ["line"] []
  gRD : mg "read" = some (.ref fRD)
  FRN : Fun K "read_number" "read_number" sReadNumber fRN dRN
  bRN : Binds K dRN ["part"] []
  gRN : mg "read_number" = some (.ref fRN)
  FAN : Fun K "answer" "answer" sAnswer fAN dAN
  bAN : Binds K dAN ["pile", "line"] []
  gAN : mg "answer" = some (.ref fAN)
  FPY : Fun K "played" "played" sPlayed fPY dPY
  bPY : Binds K dPY ["lines"] []
  gPY : mg "played" = some (.ref fPY)
  FW : Fun K "_law_whole" "_law_whole" sWhole fW dW
  bW : Binds K dW ["_law_found"] []
  gW : mg "_law_whole" = some (.ref fW)
  FD : Fun K "_law_cell_at" "_law_cell_at" sCellAt fD dD
  bD : Binds K dD ["_law_script", "_law_k"] []
  gD : mg "_law_cell_at" = some (.ref fD)
  FN : Fun K "_law_numbers" "_law_numbers" sNums fN dN
  bN : Binds K dN ["_law_found", "_law_due"] []
  gN : mg "_law_numbers" = some (.ref fN)
  FZ5 : Fun K "_law_deed_by" "_law_deed_by" sDeedBy fZ5 dZ5
  bZ5 : Binds K dZ5 ["_law_one", "_law_two", "_law_few"] []
  gZ5 : mg "_law_deed_by" = some (.ref fZ5)
  FT1 : Fun K "_law_ring_deeds" "_law_ring_deeds" sRingDeeds fT1 dT1
  bT1 : Binds K dT1 ["_law_many", "_law_closed"] []
  gT1 : mg "_law_ring_deeds" = some (.ref fT1)
  FT2 : Fun K "_law_fan_deeds" "_law_fan_deeds" sFanDeeds fT2 dT2
  bT2 : Binds K dT2 ["_law_cell"] []
  gT2 : mg "_law_fan_deeds" = some (.ref fT2)
  FT3 : Fun K "_law_deeds" "_law_deeds" sDeeds fT3 dT3
  bT3 : Binds K dT3 ["_law_script", "_law_most"] []
  gT3 : mg "_law_deeds" = some (.ref fT3)
  FT4 : Fun K "_law_weight" "_law_weight" sWeight fT4 dT4
  bT4 : Binds K dT4 ["_law_pile", "_law_number"] []
  gT4 : mg "_law_weight" = some (.ref fT4)
  FT5 : Fun K "_law_freed" "_law_freed" sFreed fT5 dT5
  bT5 : Binds K dT5 ["_law_pile", "_law_old"] []
  gT5 : mg "_law_freed" = some (.ref fT5)
  FT6 : Fun K "_law_tidied" "_law_tidied" sTidied fT6 dT6
  bT6 : Binds K dT6 ["_law_pile"] []
  gT6 : mg "_law_tidied" = some (.ref fT6)
  FT7 : Fun K "_law_wrong" "_law_wrong" sWrong fT7 dT7
  bT7 : Binds K dT7 ["_law_pile", "_law_deed"] []
  gT7 : mg "_law_wrong" = some (.ref fT7)
  FT8 : Fun K "_law_own" "_law_own" sOwn fT8 dT8
  bT8 : Binds K dT8 ["_law_pile", "_law_deed"] []
  gT8 : mg "_law_own" = some (.ref fT8)
  FT9 : Fun K "_law_answer" "_law_answer" sAnswerL fT9 dT9
  bT9 : Binds K dT9 ["_law_pile", "_law_deed"] []
  gT9 : mg "_law_answer" = some (.ref fT9)
  FTA : Fun K "_law_called" "_law_called" sCalled fTA dTA
  bTA : Binds K dTA ["_law_pile", "_law_deed"] []
  gTA : mg "_law_called" = some (.ref fTA)
  FTB_ : Fun K "_law_word" "_law_word" sWordL fTB_ dTB_
  bTB_ : Binds K dTB_ ["_law_error"] []
  gTB_ : mg "_law_word" = some (.ref fTB_)
  FTC : Fun K "_law_told" "_law_told" sTold fTC dTC
  bTC : Binds K dTC ["_law_pile", "_law_deed", "_law_way"] []
  gTC : mg "_law_told" = some (.ref fTC)
  FTD : Fun K "_law_done_so" "_law_done_so" sDoneSo fTD dTD
  bTD : Binds K dTD ["_law_pile", "_law_deed", "_law_own_here", "_law_way"] []
  gTD : mg "_law_done_so" = some (.ref fTD)
abbrev nCellAt : List Str := ["_law_script", "_law_k"]
abbrev nDeedBy : List Str := ["_law_one", "_law_two", "_law_few", "_law_words", "_law_word_here", "_law_hand", "_law_other", "_law_size", "_law_slot"]
abbrev nRingDeeds : List Str := ["_law_many", "_law_closed", "_law_deeds_here", "_law_k"]
abbrev nFanDeeds : List Str := ["_law_cell", "_law_deeds_here", "_law_k"]
abbrev nDeeds : List Str := ["_law_script", "_law_most", "_law_first", "_law_few", "_law_deeds_here", "_law_k"]
abbrev nWeight : List Str := ["_law_pile", "_law_number", "_law_many", "_law_one", "_law_held", "_law_other"]
abbrev nFreed : List Str := ["_law_pile", "_law_old", "_law_fallen", "_law_at", "_law_room", "_law_k", "_law_other"]
abbrev nTidied : List Str := ["_law_pile", "_law_row", "_law_at", "_law_room", "_law_other", "_law_gone", "_law_held", "_law_number"]
abbrev nWrong : List Str := ["_law_pile", "_law_deed", "_law_hands", "_law_held", "_law_slot", "_law_hand"]
abbrev nOwn : List Str := ["_law_pile", "_law_deed", "_law_hands", "_law_room", "_law_old", "_law_slot"]
abbrev nAnswerL : List Str := ["_law_pile", "_law_deed", "_law_wrong_here", "_law_number"]
abbrev nCalled : List Str := ["_law_pile", "_law_deed"]
abbrev nDoneSo : List Str := ["_law_pile", "_law_deed", "_law_own_here", "_law_way", "_law_told_here", "_law_one"]
abbrev nLaw : List Str := ["_law_script", "_law_pile", "_law_others", "_law_lines", "_law_due", "_law_deeds_here", "_law_k", "_law_line", "_law_odd", "_law_way", "_law_handed", "_law_told_here", "_law_hand", "_law_number", "_law_copy"]
abbrev nWordL : List Str := ["_law_error", "_law_some", "_law_word_here", "_law_fits"]
abbrev nTold : List Str := ["_law_pile", "_law_deed", "_law_way", "e"]
/-! ### the law's small helpers -/
def spCellAt (K : PySem.W.Frag) : Sp := fun vs H Q _ => ∃ (a : Addr) (ns : List Int) (k : Nat), vs = [.ref a, .int k] ∧ SqL K H a (ns.map V.int) ∧ Q (.int (ns.getD k 0)) H
theorem scCellAt : FnScope nCellAt ["_law_script", "_law_k"] (defScope sCellAt) := ⟨rfl, rfl, rfl, by decide +kernel, rfl, by decide +kernel, by decide +kernel⟩
theorem ok_cellat {f : Addr} {fd : FuncData} (F : Fun K "_law_cell_at" "_law_cell_at" sCellAt f fd) (TL : TxtL mg) : FnOk P w K mg base CX0 1 f fd ["_law_script", "_law_k"] (spCellAt K) := by
  refine F.ok scCellAt (fun vs H Q E h => ?_) (fun cdv A outer s H vs Q E hr h => ?_)
  · obtain ⟨a, ns, n, rfl, _⟩ := h
    rfl
  · obtain ⟨a, ns, n, rfl, hS, k⟩ := h
    have nd := scCellAt.nd
    refine ⟨_, (pss_cons (ps_if (pt_cmpR op_lt (pv 1) (pe_callB call_len_seq (by rfl) TL.len PySem.boot_len (pa_cons (pv 0) pa_nil)) (nomark _)) (pss_one (ps_ret (pe_ix ix_list (pv 0) (pv 1) (fun _ _ => rfl)))) pss_nil)
      (pss_one (ps_ret pe_int))), ?_⟩
    refine ⟨_, rfl, _, rfl, a, _, rfl, .inl hS, _, _, rfl, rfl, _, rfl, ?_⟩
    rw [List.length_map]
    by_cases c : n < ns.length
    · refine if_pos_of (decide_eq_true (by omega)) ?_
      have e : ns.getD n 0 = ns[n] := by rw [List.getD_eq_getElem?_getD, List.getElem?_eq_getElem c]; rfl
      rw [e] at k
      exact ⟨_, rfl, _, rfl, a, _, _, _, rfl, rfl, hS, at_of (j := n) rfl (by rw [List.getElem?_map, List.getElem?_eq_getElem c]; rfl), k⟩
    · refine if_neg_of (decide_eq_false (by omega)) ?_
      have e : ns.getD n 0 = 0 := by rw [List.getD_eq_getElem?_getD, List.getElem?_eq_none (by omega)]; rfl
      rw [e] at k
      exact k
/-! ### a drawn deed -/
def spDeedBy : Sp := fun vs H Q _ => ∃ (a b few : Int), vs = [.int a, .int b, .int few] ∧ 0 < few ∧ few ≤ 9 ∧ ∀ (t : Addr) (H' : Hp) (d : Deed), H t = none → Same H H' → H' t = some (.tup d.vs) → d.InZ few 8 → Q (.ref t) H'
theorem scDeedBy : FnScope nDeedBy ["_law_one", "_law_two", "_law_few"] (defScope sDeedBy) := ⟨rfl, rfl, rfl, by decide +kernel, rfl, by decide +kernel, by decide +kernel⟩
theorem ok_deedby {f : Addr} {fd : FuncData} (F : Fun K "_law_deed_by" "_law_deed_by" sDeedBy f fd) : FnOk P w K mg base CX0 1 f fd ["_law_one", "_law_two", "_law_few"] spDeedBy := by
  refine F.ok scDeedBy (fun vs H Q E h => ?_) (fun cdv A outer s H vs Q E hr h => ?_)
  · obtain ⟨a, b, few, rfl, _⟩ := h
    rfl
  · obtain ⟨a, b, few, rfl, few0, few9, k⟩ := h
    have nd := scDeedBy.nd
    refine ⟨_, (pss_cons (ps_set (i := 3) nd rfl (Or.inl rfl) (pe_lst (pa_cons pe_str (pa_cons pe_str (pa_cons pe_str (pa_cons pe_str (pa_cons pe_str (pa_cons pe_str (pa_cons pe_str (pa_cons pe_str (pa_cons pe_str (pa_cons pe_str (pa_cons pe_str pa_nil)))))))))))))
      (pss_cons (ps_set (i := 4) nd rfl (Or.inl rfl) (pe_ix ix_list (pv 3) (pe_op op_mod (pv 0) pe_int) (fun _ _ => rfl)))
      (pss_cons (ps_set (i := 5) nd rfl (Or.inl rfl) (pe_op op_modN (pe_op op_fdiv (pv 0) pe_int) (pv 2)))
      (pss_cons (ps_set (i := 6) nd rfl (Or.inl rfl) (pe_op op_modN (pv 1) (pv 2)))
      (pss_cons (ps_set (i := 7) nd rfl (Or.inl rfl) (pe_op op_mod (pe_op op_fdivN (pv 1) (pv 2)) pe_int))
      (pss_cons (ps_set (i := 8) nd rfl (Or.inl rfl) (pe_op op_modN (pv 7) (pe_ix ix_list (pe_lst (pa_cons pe_int (pa_cons pe_int pa_nil))) (pe_op op_mod (pe_op op_fdivN (pe_op op_fdiv (pv 0) pe_int) (pv 2)) pe_int) (fun _ _ => rfl))))
      (pss_cons (ps_if (pt_cmpR op_eq (pv 4) pe_str (nomark _)) (pss_one (ps_ret (pe_tup (pa_cons (pv 4) (pa_cons (pv 5) (pa_cons (pv 7) pa_nil)))))) pss_nil)
      (pss_cons (ps_if (pt_cmpR op_eq (pv 4) pe_str (nomark _)) (pss_one (ps_ret (pe_tup (pa_cons (pv 4) (pa_cons (pv 5) (pa_cons (pv 6) pa_nil)))))) pss_nil)
      (pss_cons (ps_if (pt_cmpR op_eq (pv 4) pe_str (nomark _)) (pss_one (ps_ret (pe_tup (pa_cons (pv 4) (pa_cons (pv 5) pa_nil))))) pss_nil)
      (pss_cons (ps_if (pt_cmpR op_eq (pv 4) pe_str (nomark _)) (pss_one (ps_ret (pe_tup (pa_cons (pv 4) (pa_cons (pv 5) (pa_cons (pv 8) pa_nil)))))) pss_nil)
      (pss_cons (ps_if (pt_cmpR op_eq (pv 4) pe_str (nomark _)) (pss_one (ps_ret (pe_tup (pa_cons (pv 4) (pa_cons (pv 5) (pa_cons (pv 8) (pa_cons (pv 6) pa_nil))))))) pss_nil)
      (pss_cons (ps_if (pt_cmpR op_eq (pv 4) pe_str (nomark _)) (pss_one (ps_ret (pe_tup (pa_cons (pv 4) (pa_cons (pv 5) (pa_cons (pv 6) (pa_cons (pv 8) pa_nil))))))) pss_nil)
      (pss_one (ps_ret (pe_tup (pa_cons (pv 4) pa_nil)))))))))))))))), ?_⟩
    refine ⟨(by show 11 ≤ sizeLine; decide), fun L hL => ?_⟩
    have w0 : 0 ≤ a % 11 := Int.emod_nonneg _ (by decide)
    have w11 : a % 11 < 11 := Int.emod_lt_of_pos _ (by decide)
    obtain ⟨wd, hw, hws⟩ : ∃ wd : Str, ([V.str "make", V.str "put", V.str "take", V.str "hold", V.str "drop", V.str "put", V.str "make", V.str "empty", V.str "take", V.str "tidy", V.str "put"] : List V)[(a % 11).toNat]? = some (.str wd) ∧
        (wd = "make" ∨ wd = "put" ∨ wd = "take" ∨ wd = "hold" ∨ wd = "drop" ∨ wd = "empty" ∨ wd = "tidy") := by
      generalize a % 11 = z at w0 w11
      have : z = 0 ∨ z = 1 ∨ z = 2 ∨ z = 3 ∨ z = 4 ∨ z = 5 ∨ z = 6 ∨ z = 7 ∨ z = 8 ∨ z = 9 ∨ z = 10 := by omega
      rcases this with rfl | rfl | rfl | rfl | rfl | rfl | rfl | rfl | rfl | rfl | rfl
      · exact ⟨_, rfl, .inl rfl⟩
      · exact ⟨_, rfl, .inr (.inl rfl)⟩
      · exact ⟨_, rfl, .inr (.inr (.inl rfl))⟩
      · exact ⟨_, rfl, .inr (.inr (.inr (.inl rfl)))⟩
      · exact ⟨_, rfl, .inr (.inr (.inr (.inr (.inl rfl))))⟩
      · exact ⟨_, rfl, .inr (.inl rfl)⟩
      · exact ⟨_, rfl, .inl rfl⟩
      · exact ⟨_, rfl, .inr (.inr (.inr (.inr (.inr (.inl rfl)))))⟩
      · exact ⟨_, rfl, .inr (.inr (.inl rfl))⟩
      · exact ⟨_, rfl, .inr (.inr (.inr (.inr (.inr (.inr rfl)))))⟩
      · exact ⟨_, rfl, .inr (.inl rfl)⟩
    refine ⟨_, rfl, _, rfl, _, _, rfl, rfl, (by show (0 : Int) < 11; decide), L, _, _, _, rfl, rfl, SqL.of upd_same, at_of (j := (a % 11).toNat) (by omega) hw, ?_⟩
    have h0 : 0 ≤ (a / 11).fmod few := Int.fmod_nonneg_of_pos _ few0
    have h1 : (a / 11).fmod few < few := Int.fmod_lt_of_pos _ few0
    have o0 : 0 ≤ b.fmod few := Int.fmod_nonneg_of_pos _ few0
    have o1 : b.fmod few < few := Int.fmod_lt_of_pos _ few0
    have z0 : 0 ≤ b.fdiv few % 8 := Int.emod_nonneg _ (by decide)
    have z8 : b.fdiv few % 8 < 8 := Int.emod_lt_of_pos _ (by decide)
    refine ⟨_, rfl, _, _, rfl, rfl, ⟨by decide, by decide⟩, _, rfl, _, _, rfl, rfl, (by omega), ?_⟩
    refine ⟨_, rfl, _, rfl, _, _, rfl, rfl, (by omega), ?_⟩
    refine ⟨_, rfl, _, rfl, _, _, rfl, rfl, ⟨by omega, by omega⟩, _, _, rfl, rfl, (by show (0 : Int) < 8; decide), ?_⟩
    refine ⟨_, rfl, (by show 2 ≤ sizeLine; decide), fun L2 hL2 => ?_⟩
    generalize hh : (a / 11).fmod few = h at h0 h1
    have m0 : 0 ≤ (a / 11).fdiv few % 2 := Int.emod_nonneg _ (by decide)
    have m2 : (a / 11).fdiv few % 2 < 2 := Int.emod_lt_of_pos _ (by decide)
    obtain ⟨m, hm, m1⟩ : ∃ m : Int, ([V.int 3, V.int 8] : List V)[((a / 11).fdiv few % 2).toNat]? = some (.int m) ∧ (0 < m ∧ m ≤ 8) := by
      generalize (a / 11).fdiv few % 2 = z at m0 m2
      have : z = 0 ∨ z = 1 := by omega
      rcases this with rfl | rfl
      · exact ⟨3, rfl, by decide, by decide⟩
      · exact ⟨8, rfl, by decide, by decide⟩
    refine ⟨_, rfl, _, _, rfl, rfl, ⟨by decide, by decide⟩, _, rfl, _, _, rfl, rfl, ⟨by omega, by omega⟩, _, _, rfl, rfl, (by show (0 : Int) < 2; decide), L2, _, _, _, rfl, rfl, SqL.of upd_same, at_of (j := ((a / 11).fdiv few % 2).toNat) (by omega) hm, _, _, rfl, rfl, (by omega), ?_⟩
    have s0 : 0 ≤ (b.fdiv few % 8).fmod m := Int.fmod_nonneg_of_pos _ m1.1
    have s1 : (b.fdiv few % 8).fmod m < m := Int.fmod_lt_of_pos _ m1.1
    have seq : ∀ {z z' : Str}, z = z' → decide (V.str z = V.str z') = true := fun e => decide_eq_true (by rw [e])
    have sne : ∀ {z z' : Str}, z ≠ z' → decide (V.str z = V.str z') = false := fun e => decide_eq_false (by intro q; injection q with q; exact e q)
    subst hh
    have hs2 := (same_upd (o := .lst [V.str "make", V.str "put", V.str "take", V.str "hold", V.str "drop", V.str "put", V.str "make", V.str "empty", V.str "take", V.str "tidy", V.str "put"]) hL).trans (same_upd (o := .lst [V.int 3, V.int 8]) hL2)
    refine ⟨_, rfl, rfl, _, rfl, ?_⟩
    rcases hws with rfl | rest
    · refine if_pos_of (seq rfl) ?_
      refine ⟨_, rfl, _, rfl, _, rfl, (by show 3 ≤ sizeLine; decide), fun t ht => ?_⟩
      exact k t _ (.make ((a / 11).fmod few) (b.fdiv few % 8)) (hs2.free ht) (hs2.trans (same_upd ht)) upd_same ⟨⟨h0, h1⟩, z0, z8⟩
    refine if_neg_of (sne (by rcases rest with rfl | rfl | rfl | rfl | rfl | rfl <;> decide +kernel)) ?_
    refine ⟨_, rfl, rfl, _, rfl, ?_⟩
    have rest' : wd = "hold" ∨ wd = "drop" ∨ wd = "empty" ∨ wd = "put" ∨ wd = "take" ∨ wd = "tidy" := by
      rcases rest with e | e | e | e | e | e
      · exact .inr (.inr (.inr (.inl e)))
      · exact .inr (.inr (.inr (.inr (.inl e))))
      · exact .inl e
      · exact .inr (.inl e)
      · exact .inr (.inr (.inl e))
      · exact .inr (.inr (.inr (.inr (.inr e))))
    clear rest
    rcases rest' with rfl | rest
    · refine if_pos_of (seq rfl) ?_
      refine ⟨_, rfl, _, rfl, _, rfl, (by show 3 ≤ sizeLine; decide), fun t ht => ?_⟩
      exact k t _ (.hold ((a / 11).fmod few) (b.fmod few)) (hs2.free ht) (hs2.trans (same_upd ht)) upd_same ⟨⟨h0, h1⟩, o0, o1⟩
    refine if_neg_of (sne (by rcases rest with rfl | rfl | rfl | rfl | rfl <;> decide +kernel)) ?_
    refine ⟨_, rfl, rfl, _, rfl, ?_⟩
    rcases rest with rfl | rest
    · refine if_pos_of (seq rfl) ?_
      refine ⟨_, rfl, _, rfl, (by show 2 ≤ sizeLine; decide), fun t ht => ?_⟩
      exact k t _ (.drop ((a / 11).fmod few)) (hs2.free ht) (hs2.trans (same_upd ht)) upd_same ⟨h0, h1⟩
    refine if_neg_of (sne (by rcases rest with rfl | rfl | rfl | rfl <;> decide +kernel)) ?_
    refine ⟨_, rfl, rfl, _, rfl, ?_⟩
    rcases rest with rfl | rest
    · refine if_pos_of (seq rfl) ?_
      refine ⟨_, rfl, _, rfl, _, rfl, (by show 3 ≤ sizeLine; decide), fun t ht => ?_⟩
      exact k t _ (.empty ((a / 11).fmod few) ((b.fdiv few % 8).fmod m)) (hs2.free ht) (hs2.trans (same_upd ht)) upd_same ⟨⟨h0, h1⟩, s0, by omega⟩
    refine if_neg_of (sne (by rcases rest with rfl | rfl | rfl <;> decide +kernel)) ?_
    refine ⟨_, rfl, rfl, _, rfl, ?_⟩
    rcases rest with rfl | rest
    · refine if_pos_of (seq rfl) ?_
      refine ⟨_, rfl, _, rfl, _, rfl, _, rfl, (by show 4 ≤ sizeLine; decide), fun t ht => ?_⟩
      exact k t _ (.put ((a / 11).fmod few) ((b.fdiv few % 8).fmod m) (b.fmod few)) (hs2.free ht) (hs2.trans (same_upd ht)) upd_same ⟨⟨h0, h1⟩, ⟨s0, by omega⟩, o0, o1⟩
    refine if_neg_of (sne (by rcases rest with rfl | rfl <;> decide +kernel)) ?_
    refine ⟨_, rfl, rfl, _, rfl, ?_⟩
    rcases rest with rfl | rfl
    · refine if_pos_of (seq rfl) ?_
      refine ⟨_, rfl, _, rfl, _, rfl, _, rfl, (by show 4 ≤ sizeLine; decide), fun t ht => ?_⟩
      exact k t _ (.take ((a / 11).fmod few) (b.fmod few) ((b.fdiv few % 8).fmod m)) (hs2.free ht) (hs2.trans (same_upd ht)) upd_same ⟨⟨h0, h1⟩, ⟨o0, o1⟩, s0, by omega⟩
    refine if_neg_of (sne (by decide +kernel)) ?_
    refine ⟨_, rfl, (by show 1 ≤ sizeLine; decide), fun t ht => ?_⟩
    exact k t _ .tidy (hs2.free ht) (hs2.trans (same_upd ht)) upd_same trivial
/-! ### the law's own pile in the heap -/
structure OwnIn (H : Hp) (q lh lr la ld : Addr) (hs : List (Option Int)) (rs : List (List (Option Int))) (al d : List Int) (ra : List Addr) : Prop where
  dh : DGet H q (.str "hands") (some (.ref lh))
  dr : DGet H q (.str "rooms") (some (.ref lr))
  da : DGet H q (.str "alive") (some (.ref la))
  dd : DGet H q (.str "doubts") (some (.ref ld))
  rm : RoomsIn H lh lr hs rs ra
  a : H la = some (.lst (al.map V.int))
  d : H ld = some (.lst (d.map V.int))
  na : la ∉ ra ∧ la ≠ lh ∧ la ≠ lr
  nd : ld ∉ ra ∧ ld ≠ lh ∧ ld ≠ lr ∧ ld ≠ la
structure OwnFit (hs : List (Option Int)) (rs : List (List (Option Int))) (al : List Int) : Prop where
  hl : hs.length ≤ 1000
  rl : ∀ r ∈ rs, r.length ≤ 6
  al : ∀ m ∈ al, 0 ≤ m ∧ m < (rs.length : Int)
def spWeight : Sp := fun vs H Q _ => ∃ (q lh lr la ld : Addr) (hs : List (Option Int)) (rs : List (List (Option Int))) (al d : List Int) (ra : List Addr) (n : Int), vs = [.ref q, .int n] ∧ OwnIn H q lh lr la ld hs rs al d ra ∧ OwnFit hs rs al ∧
  ∀ H', Same H H' → Q (.int ((wgt hs rs al n : Nat) : Int)) H'
theorem scWeight : FnScope nWeight ["_law_pile", "_law_number"] (defScope sWeight) := ⟨rfl, rfl, rfl, by decide +kernel, rfl, by decide +kernel, by decide +kernel⟩
theorem dget_same {H H' : Hp} {q : Addr} {k : Str} {v : V} (s : Same H H') (g : DGet H q (.str k) (some v)) : DGet H' q (.str k) (some v) := by
  rcases g with ⟨kvs, k', e, ey, er⟩ | ⟨kvs, k', b, e, ey, eb, er⟩
  · exact .inl ⟨kvs, k', e.imp (s _ _) (fun ⟨o, z⟩ => ⟨o, s _ _ z⟩), ey, er⟩
  · cases ey
theorem paired_atR {α β : Type} {F : α → β → Prop} : ∀ {a : List α} {b : List β} {i : Nat} {y : β}, Paired F a b → b[i]? = some y → ∃ x, a[i]? = some x ∧ F x y
  | _, _, i, _, .nil, e => by simp at e
  | _, _, 0, _, .cons r t, e => ⟨_, rfl, by cases e; exact r⟩
  | _, _, i + 1, y, .cons (l₁ := a) (l₂ := b) r t, e => by
    obtain ⟨x, h1, h2⟩ := paired_atR (F := F) (i := i) (y := y) t (by simpa using e)
    exact ⟨x, by simpa using h1, h2⟩
theorem OwnIn.same {H H' : Hp} {q lh lr la ld : Addr} {hs : List (Option Int)} {rs : List (List (Option Int))} {al d : List Int} {ra : List Addr} (o : OwnIn H q lh lr la ld hs rs al d ra) (s : Same H H') : OwnIn H' q lh lr la ld hs rs al d ra :=
  ⟨dget_same s o.dh, dget_same s o.dr, dget_same s o.da, dget_same s o.dd, o.rm.same s, s _ _ o.a, s _ _ o.d, o.na, o.nd⟩
theorem dget_upd {H : Hp} {q a : Addr} {x y : List V} {k : Str} {v : V} (g : DGet H q (.str k) (some v)) (e : H a = some (.lst x)) : DGet (upd H a (.lst y)) q (.str k) (some v) := by
  have ne : ∀ o, H q = some o → (∀ z, o ≠ .lst z) → upd H a (.lst y) q = some o := fun o h c => by
    rw [upd_ne (fun z => by rw [z] at h; rw [e] at h; exact c _ (Option.some.inj h).symm)]
    exact h
  rcases g with ⟨kvs, k', e1, ey, er⟩ | ⟨kvs, k', b, e1, ey, eb, er⟩
  · exact .inl ⟨kvs, k', e1.imp (fun h => ne _ h fun z c => by cases c) (fun ⟨o, h⟩ => ⟨o, ne _ h fun z c => by cases c⟩), ey, er⟩
  · cases ey
theorem RoomsIn.at_upd {H : Hp} {lh lr a : Addr} {hs : List (Option Int)} {rs : List (List (Option Int))} {ra : List Addr} {o : HO} (x : RoomsIn H lh lr hs rs ra) (n : a ∉ ra ∧ a ≠ lh ∧ a ≠ lr) : RoomsIn (upd H a o) lh lr hs rs ra :=
  ⟨by rw [upd_ne n.2.1.symm]; exact x.h, by rw [upd_ne n.2.2.symm]; exact x.r, paired_imp' (fun b row hb h => by
    show upd H a o b = _
    rw [upd_ne (fun z => n.1 (by rw [← z]; exact hb))]
    exact h) x.p, x.nd, x.nh, x.nr, x.hr⟩
/-- a doubt more -/
theorem OwnIn.doubt {H : Hp} {q lh lr la ld : Addr} {hs : List (Option Int)} {rs : List (List (Option Int))} {al d : List Int} {ra : List Addr} (o : OwnIn H q lh lr la ld hs rs al d ra) (d' : List Int) : OwnIn (upd H ld (.lst (d'.map V.int))) q lh lr la ld hs rs al d' ra :=
  ⟨dget_upd o.dh o.d, dget_upd o.dr o.d, dget_upd o.da o.d, dget_upd o.dd o.d, o.rm.at_upd ⟨o.nd.1, o.nd.2.1, o.nd.2.2.1⟩, by rw [upd_ne o.nd.2.2.2.symm]; exact o.a, upd_same, o.na, o.nd⟩
/-- one of the alive goes -/
theorem OwnIn.dies {H : Hp} {q lh lr la ld : Addr} {hs : List (Option Int)} {rs : List (List (Option Int))} {al d : List Int} {ra : List Addr} (o : OwnIn H q lh lr la ld hs rs al d ra) (al' : List Int) : OwnIn (upd H la (.lst (al'.map V.int))) q lh lr la ld hs rs al' d ra :=
  ⟨dget_upd o.dh o.a, dget_upd o.dr o.a, dget_upd o.da o.a, dget_upd o.dd o.a, o.rm.at_upd o.na, upd_same, by rw [upd_ne o.nd.2.2.2]; exact o.d, o.na, o.nd⟩
theorem cntW_le (l : List (Option Int)) (n : Int) : cnt l n ≤ l.length := List.count_le_length
theorem ok_weight {f : Addr} {fd : FuncData} (F : Fun K "_law_weight" "_law_weight" sWeight f fd) (TL : TxtL mg) : FnOk P w K mg base CX0 1 f fd ["_law_pile", "_law_number"] spWeight := by
  refine F.ok scWeight (fun vs H Q E h => ?_) (fun cdv A outer s H vs Q E hr h => ?_)
  · obtain ⟨q, lh, lr, la, ld, hs, rs, al, d, ra, n, rfl, _⟩ := h
    rfl
  · obtain ⟨q, lh, lr, la, ld, hs, rs, al, d, ra, n, rfl, O, ok, k⟩ := h
    have nd := scWeight.nd
    have hu := hu_of hr
    refine ⟨_, (pss_cons (ps_set (i := 2) nd rfl (Or.inl rfl) (pe_callB call_len_seq (by rfl) TL.len PySem.boot_len (pa_cons (pe_lc (own := [("_law_held", 4)]) (g := gName 4) (tt := tTest (tOp rEq (tVar 4) (tVar 1))) (te := tC (.int 1)) (by rfl) nd (pi_list (pe_dget hu (pv 0) pe_str (fun _ _ => rfl))) (blkOk_by (N := nWeight) (sc := defScope sWeight) (by decide +kernel)) (fun _ _ _ _ _ => pg_name (i := 4) nd rfl (Or.inl rfl)) (fun _ _ _ _ _ => pts_one (pt_cmpR op_eq (pv 4) (pv 1) (nomark _))) (fun _ _ _ _ _ => pe_int)) pa_nil)))
      (pss_cons (ps_for PassesOwn.never rfl (pi_list (pe_dget hu (pv 0) pe_str (fun _ _ => rfl))) (pg_name (i := 3) nd rfl (Or.inl rfl))
      (pss_one (ps_set (i := 2) nd rfl (Or.inl rfl) (pe_op op_add (pv 2) (pe_callB call_len_seq (by rfl) TL.len PySem.boot_len (pa_cons (pe_lc (own := [("_law_other", 5)]) (g := gName 5) (tt := tTest (tOp rEq (tVar 5) (tVar 1))) (te := tC (.int 1)) (by rfl) nd (pi_list (pe_ix ix_list (pe_dget hu (pv 0) pe_str (fun _ _ => rfl)) (pv 3) (fun _ _ => rfl))) (blkOk_by (N := nWeight) (sc := defScope sWeight) (by decide +kernel)) (fun _ _ _ _ _ => pg_name (i := 5) nd rfl (Or.inl rfl)) (fun _ _ _ _ _ => pts_one (pt_cmpR op_eq (pv 5) (pv 1) (nomark _))) (fun _ _ _ _ _ => pe_int)) pa_nil))))))
      (pss_one (ps_ret (pv 2))))), ?_⟩
    have step : ∀ {l : List (Option Int)} {i : Nat} {o : Option Int}, l.length ≤ 1000 → l[i]? = some o → (List.replicate (cnt (l.take i) n) (V.int 1)).length < sizeLine := fun {l i o} hl ho => by
      rw [List.length_replicate, sizeLine_eq]
      have := cntW_le (l.take i) n
      rw [List.length_take] at this
      omega
    have scl : ∀ o : Option Int, scal (oV o) (V.int n) = true := fun o => by cases o <;> rfl
    have ne : ∀ {o : Option Int}, ¬ o = some n → ¬ oV o = V.int n := fun {o} c q => by
      cases o with
      | none => cases q
      | some m => injection q with q; exact c (by rw [q])
    -- the hands
    refine ⟨_, rfl, q, _, rfl, O.dh, lh, rfl, ⟨_, SqL.of O.rm.h⟩, fun L hL => lc_list (K := K) (a := lh) (xs := lV hs) (fun i H' => H' = upd H L (.lst (List.replicate (cnt (hs.take i) n) (V.int 1)))) rfl (fun i H' _ e => ?_) (fun i y H' hi e => ?_) (fun H1 e1 => ?_)⟩
    · rw [e]
      exact SqL.of (by rw [upd_ne (ne_of_none O.rm.h hL)]; exact O.rm.h)
    · obtain ⟨o, ho, rfl⟩ := lV_at hi
      refine ⟨rfl, _, rfl, _, rfl, scl o, _, rfl, ?_⟩
      rw [take_get ho, cnt_append, cnt_cons, cnt_nil, Nat.add_zero]
      by_cases c : o = some n
      · subst c
        refine if_pos_of (decide_eq_true rfl) ?_
        refine ⟨_, by rw [e]; exact upd_same, step ok.hl ho, ?_⟩
        rw [e, upd_upd]
        have : one (some n) n = 1 := by simp [one]
        rw [this, List.replicate_succ']
      · refine if_neg_of (decide_eq_false (ne c)) ?_
        rw [e]
        have : one o n = 0 := by simp [one, c]
        rw [this, Nat.add_zero]
    rw [lV_len, List.take_length] at e1
    refine ⟨L, _, rfl, .inl (SqL.of (by rw [e1]; exact upd_same)), ?_⟩
    rw [List.length_replicate]
    have s1' : Same H H1 := by rw [e1]; exact same_upd hL
    -- the rooms of the alive
    refine ⟨_, rfl, q, _, rfl, dget_same s1' O.da, la, rfl, ⟨_, SqL.of (s1' _ _ O.a)⟩, for_list (K := K) (a := la) (xs := al.map V.int) (fun i σ H' => ∃ v3 : Option V, σ = [some (.ref q), some (.int n), some (.int ((cnt hs n + ((al.take i).map fun m => cnt (roomOf rs m) n).sum : Nat) : Int)), v3, none, none] ∧ Same H H')
      ⟨none, rfl, s1'⟩ (fun i σ H' _ ⟨_, _, s⟩ => SqL.of (s _ _ O.a)) ?_ ?_⟩
    · rintro i y σ H' hi ⟨v3, rfl, sH⟩
      obtain ⟨m, hm, rfl⟩ : ∃ m, al[i]? = some m ∧ y = V.int m := by
        rw [List.getElem?_map] at hi
        cases e : al[i]? with
        | none => rw [e] at hi; cases hi
        | some m => rw [e] at hi; exact ⟨m, rfl, (Option.some.inj hi).symm⟩
      obtain ⟨m0, m1⟩ := ok.al m (List.mem_of_getElem? hm)
      have lk : m.toNat < rs.length := by omega
      obtain ⟨rq, hrq, hqr⟩ : ∃ rq, ra[m.toNat]? = some rq ∧ H rq = some (.lst (lV (roomOf rs m))) := by
        have e : rs[m.toNat]? = some (roomOf rs m) := by unfold roomOf; rw [List.getD_eq_getElem?_getD, List.getElem?_eq_getElem lk]; rfl
        exact paired_atR (F := fun a row => H a = some (.lst (lV row))) O.rm.p e
      have rl : (roomOf rs m).length ≤ 1000 := Nat.le_trans (ok.rl _ (by unfold roomOf; rw [List.getD_eq_getElem?_getD, List.getElem?_eq_getElem lk]; exact List.getElem_mem lk)) (by decide)
      have hq' := sH _ _ hqr
      refine ⟨_, rfl, _, rfl, q, _, rfl, dget_same sH O.dr, ?_⟩
      refine ⟨_, rfl, lr, _, _, _, rfl, rfl, SqL.of (sH _ _ O.rm.r), at_of (j := m.toNat) (by omega) (by rw [List.getElem?_map, hrq]; rfl), rq, rfl, ⟨_, SqL.of hq'⟩, fun L2 hL2 => lc_list (K := K) (a := rq) (xs := lV (roomOf rs m)) (fun i H2 => H2 = upd H' L2 (.lst (List.replicate (cnt ((roomOf rs m).take i) n) (V.int 1)))) rfl (fun i H2 _ e => ?_) (fun i y H2 hi e => ?_) (fun H2 e2 => ?_)⟩
      · rw [e]
        exact SqL.of (by rw [upd_ne (ne_of_none hq' hL2)]; exact hq')
      · obtain ⟨o, ho, rfl⟩ := lV_at hi
        refine ⟨rfl, _, rfl, _, rfl, scl o, _, rfl, ?_⟩
        rw [take_get ho, cnt_append, cnt_cons, cnt_nil, Nat.add_zero]
        by_cases c : o = some n
        · subst c
          refine if_pos_of (decide_eq_true rfl) ?_
          refine ⟨_, by rw [e]; exact upd_same, step rl ho, ?_⟩
          rw [e, upd_upd]
          have : one (some n) n = 1 := by simp [one]
          rw [this, List.replicate_succ']
        · refine if_neg_of (decide_eq_false (ne c)) ?_
          rw [e]
          have : one o n = 0 := by simp [one, c]
          rw [this, Nat.add_zero]
      · rw [lV_len, List.take_length] at e2
        refine ⟨L2, _, rfl, .inl (SqL.of (by rw [e2]; exact upd_same)), _, _, rfl, rfl, ?_⟩
        refine ⟨some (.int m), ?_, by rw [e2]; exact sH.trans (same_upd hL2)⟩
        rw [List.length_replicate, take_get hm, List.map_append, List.sum_append]
        simp only [List.map_cons, List.map_nil, List.sum_cons, List.sum_nil, Nat.add_zero]
        generalize (List.map (fun m => cnt (roomOf rs m) n) (List.take i al)).sum = Y
        rw [← Nat.add_assoc, Int.natCast_add (cnt hs n + Y)]
        rfl
    · rintro σ H' ⟨v3, rfl, sH⟩
      rw [List.length_map, List.take_length]
      refine ⟨_, rfl, ?_⟩
      exact k _ sH
/-! ### what falls, by the law's own pile -/
theorem erase_at : ∀ {l : List Int} {o : Int}, o ∈ l → ∃ j : Nat, l[j]? = some o ∧ (∀ m : Nat, m < j → l[m]? ≠ some o) ∧ l.eraseIdx j = l.erase o
  | [], _, h => by cases h
  | x :: l, o, h => by
    by_cases c : x = o
    · refine ⟨0, by rw [c]; rfl, fun m hm => by omega, ?_⟩
      rw [c, List.erase_cons_head]
      rfl
    · have h' : o ∈ l := (List.mem_cons.mp h).resolve_left fun z => c z.symm
      obtain ⟨j, h1, h2, h3⟩ := erase_at h'
      refine ⟨j + 1, h1, fun m hm => ?_, ?_⟩
      · match m with
        | 0 => exact fun z => c (Option.some.inj z)
        | m + 1 => exact h2 m (by omega)
      · rw [List.eraseIdx_cons_succ, h3, List.erase_cons_tail (by simpa using c)]
/-- beside the two lists nothing changes -/
def Beside (la ld : Addr) (H H' : Hp) : Prop := ∀ b o, b ≠ la → b ≠ ld → H b = some o → H' b = some o
theorem Beside.refl {la ld : Addr} (H : Hp) : Beside la ld H H := fun _ _ _ _ h => h
theorem Beside.trans {la ld : Addr} {H H1 H2 : Hp} (a : Beside la ld H H1) (b : Beside la ld H1 H2) : Beside la ld H H2 := fun x o h1 h2 h => b x o h1 h2 (a x o h1 h2 h)
theorem Beside.of {la ld : Addr} {H H' : Hp} (s : Same H H') : Beside la ld H H' := fun _ _ _ _ h => s _ _ h
theorem Beside.la {la ld : Addr} {H : Hp} {o : HO} : Beside la ld H (upd H la o) := fun b _ h1 _ h => by rw [upd_ne h1]; exact h
theorem Beside.ld {la ld : Addr} {H : Hp} {o : HO} : Beside la ld H (upd H ld o) := fun b _ _ h2 h => by rw [upd_ne h2]; exact h
theorem Beside.new {la ld L : Addr} {H H' : Hp} {o : HO} (s : Beside la ld H H') (h : H L = none) : Beside la ld H (upd H' L o) := fun b x h1 h2 e => by
  rw [upd_ne (fun z => by rw [z, h] at e; cases e)]
  exact s b x h1 h2 e
/-- a list of the walk's own -/
theorem OwnIn.other {H : Hp} {q lh lr la ld : Addr} {hs : List (Option Int)} {rs : List (List (Option Int))} {al d : List Int} {ra : List Addr} (o : OwnIn H q lh lr la ld hs rs al d ra) {lf : Addr} {x : List V} (e : H lf = some (.lst x)) (n : lf ∉ ra ∧ lf ≠ lh ∧ lf ≠ lr ∧ lf ≠ la ∧ lf ≠ ld) (y : List V) : OwnIn (upd H lf (.lst y)) q lh lr la ld hs rs al d ra :=
  ⟨dget_upd o.dh e, dget_upd o.dr e, dget_upd o.da e, dget_upd o.dd e, o.rm.at_upd ⟨n.1, n.2.1, n.2.2.1⟩, by rw [upd_ne n.2.2.2.1.symm]; exact o.a, by rw [upd_ne n.2.2.2.2.symm]; exact o.d, o.na, o.nd⟩
theorem RoomsIn.not_in {H : Hp} {lh lr : Addr} {hs : List (Option Int)} {rs : List (List (Option Int))} {ra : List Addr} (x : RoomsIn H lh lr hs rs ra) {b : Addr} (h : H b = none) : b ∉ ra ∧ b ≠ lh ∧ b ≠ lr := by
  refine ⟨fun z => ?_, fun z => (by rw [z, x.h] at h; cases h), fun z => (by rw [z, x.r] at h; cases h)⟩
  obtain ⟨j, hj⟩ := List.mem_iff_getElem?.mp z
  obtain ⟨row, _, e⟩ := paired_at x.p j b hj
  rw [h] at e
  cases e
theorem OwnIn.fresh {H : Hp} {q lh lr la ld : Addr} {hs : List (Option Int)} {rs : List (List (Option Int))} {al d : List Int} {ra : List Addr} (o : OwnIn H q lh lr la ld hs rs al d ra) {lf : Addr} (h : H lf = none) : lf ∉ ra ∧ lf ≠ lh ∧ lf ≠ lr ∧ lf ≠ la ∧ lf ≠ ld :=
  ⟨(o.rm.not_in h).1, (o.rm.not_in h).2.1, (o.rm.not_in h).2.2, fun z => (by rw [z, o.a] at h; cases h), fun z => (by rw [z, o.d] at h; cases h)⟩
theorem RoomsIn.room {H : Hp} {lh lr : Addr} {hs : List (Option Int)} {rs : List (List (Option Int))} {ra : List Addr} (x : RoomsIn H lh lr hs rs ra) {n : Int} {rq : Addr} (e : ra[n.toNat]? = some rq) : H rq = some (.lst (lV (roomOf rs n))) := by
  obtain ⟨row, h1, h2⟩ := paired_at x.p n.toNat rq e
  rw [show roomOf rs n = row from by unfold roomOf; rw [List.getD_eq_getElem?_getD, h1]; rfl]
  exact h2
theorem inV_lV (n : Int) : ∀ l : List (Option Int), inV (V.int n) (lV l) = decide (some n ∈ l)
  | [] => rfl
  | o :: l => by
    have ih := inV_lV n l
    unfold inV at ih ⊢
    unfold lV at ih ⊢
    rw [List.map_cons, List.any_cons, ih]
    cases o with
    | none =>
      show (false || decide (some n ∈ l)) = decide (some n ∈ none :: l)
      simp
    | some m =>
      show ((m == n) || decide (some n ∈ l)) = decide (some n ∈ some m :: l)
      by_cases q : m = n
      · subst q; simp
      · have : ¬ n = m := fun z => q z.symm
        simp [q, this]
theorem flat_lV : ∀ l : List (Option Int), (lV l).all flatV = true
  | [] => rfl
  | o :: l => by
    have := flat_lV l
    unfold lV at this ⊢
    rw [List.map_cons, List.all_cons, this]
    cases o <;> rfl
theorem cutV_drop (xs : List V) (i : Nat) : cutV xs (some ((i : Nat) : Int)) none = xs.drop i := by
  unfold cutV
  rw [HT.sIx_nat, HT.sIx_none]
  rcases Nat.le_total i xs.length with h | h
  · rw [Nat.min_eq_left h]
    exact List.take_of_length_le (by rw [List.length_drop]; exact Nat.le_refl _)
  · rw [Nat.min_eq_right h, List.drop_of_length_le h, List.drop_of_length_le (Nat.le_refl _), List.take_nil]
/-- the walk over what fell -/
structure WalkSt (H : Hp) (q lh lr la ld lf : Addr) (hs : List (Option Int)) (rs : List (List (Option Int))) (ra : List Addr) (al0 : List Int) (nd0 : Nat) (al F d : List Int) (H' : Hp) : Prop where
  own : OwnIn H' q lh lr la ld hs rs al d ra
  f : H' lf = some (.lst (F.map V.int))
  sub : ∀ n ∈ al, n ∈ al0
  dl : d.length + 6 * al.length ≤ nd0
  be : Beside la ld H H'
theorem WalkSt.same {H : Hp} {q lh lr la ld lf : Addr} {hs : List (Option Int)} {rs : List (List (Option Int))} {ra : List Addr} {al0 : List Int} {nd0 : Nat} {al F d : List Int} {H' H'' : Hp} (S : WalkSt H q lh lr la ld lf hs rs ra al0 nd0 al F d H') (s : Same H' H'') : WalkSt H q lh lr la ld lf hs rs ra al0 nd0 al F d H'' :=
  ⟨S.own.same s, s _ _ S.f, S.sub, S.dl, S.be.trans (Beside.of s)⟩
def WalkAt (P : Pl) (o : Int) (H : Hp) (q lh lr la ld lf : Addr) (hs : List (Option Int)) (rs : List (List (Option Int))) (ra : List Addr) (al0 : List Int) (nd0 : Nat) (k : Nat) (σ : L2.St) (H' : Hp) : Prop :=
  ∃ (al F d : List Int) (bs : List (Int × Bx)) (v4 v5 v6 : Option V), σ = [some (.ref q), some (.int o), some (.ref lf), some (.int k), v4, v5, v6] ∧ Freeing P hs rs (some o) al F k d bs ∧ WalkSt H q lh lr la ld lf hs rs ra al0 nd0 al F d H'
def spFreed : Sp := fun vs H Q _ => ∃ (q lh lr la ld : Addr) (hs : List (Option Int)) (rs : List (List (Option Int))) (al d : List Int) (ra : List Addr) (old : Option Int) (P : Pl), vs = [.ref q, oV old] ∧ OwnIn H q lh lr la ld hs rs al d ra ∧ OwnFit hs rs al ∧ Ready P hs rs al d old ∧ d.length ≤ 100000 ∧
  ∀ (r : Addr) (al' d' F : List Int) (H' : Hp), H r = none → r ≠ la → r ≠ ld → H' r = some (.lst (F.map V.int)) → Looked P old al' d' F → (∀ n ∈ al', n ∈ al) → d'.length + 6 * al'.length ≤ d.length + 6 * al.length + 1 → OwnIn H' q lh lr la ld hs rs al' d' ra → Beside la ld H H' → Q (.ref r) H'
theorem scFreed : FnScope nFreed ["_law_pile", "_law_old"] (defScope sFreed) := ⟨rfl, rfl, rfl, by decide +kernel, rfl, by decide +kernel, by decide +kernel⟩
theorem ok_freed {f fI fM fO fR fU fE fQ fH fT fG fA fS fX fY fP fL fB fK fCS fCA fPA fRE fTR fTY fDO fRD fRN fAN fPY fW fD fN fZ5 fT1 fT2 fT3 fT4 fT5 fT6 fT7 fT8 fT9 fTA fTB_ fTC fTD : Addr} {fd dI dM dO dR dU dE dQ dH dT dG dA dS dX dY dP dL dB dK dCS dCA dPA dRE dTR dTY dDO dRD dRN dAN dPY dW dD dN dZ5 dT1 dT2 dT3 dT4 dT5 dT6 dT7 dT8 dT9 dTA dTB_ dTC dTD : FuncData} (F : Fun K "_law_freed" "_law_freed" sFreed f fd) (TL : TxtL mg) (D : Defs K mg C B fI fM fO fR fU fE fQ fH fT fG fA fS fX fY fP fL fB fK fCS fCA fPA fRE fTR fTY fDO fRD fRN fAN fPY fW fD fN fZ5 fT1 fT2 fT3 fT4 fT5 fT6 fT7 fT8 fT9 fTA fTB_ fTC fTD dI dM dO dR dU dE dQ dH dT dG dA dS dX dY dP dL dB dK dCS dCA dPA dRE dTR dTY dDO dRD dRN dAN dPY dW dD dN dZ5 dT1 dT2 dT3 dT4 dT5 dT6 dT7 dT8 dT9 dTA dTB_ dTC dTD) : FnOk P w K mg base CX0 2 f fd ["_law_pile", "_law_old"] spFreed := by
  have GT4 : FnOk P w K mg base CX0 1 fT4 dT4 ["_law_pile", "_law_number"] spWeight := ok_weight D.FT4 TL
  refine F.ok scFreed (fun vs H Q E h => ?_) (fun cdv A outer s H vs Q E hr h => ?_)
  · obtain ⟨q, lh, lr, la, ld, hs, rs, al, d, ra, old, P0, rfl, _⟩ := h
    rfl
  · obtain ⟨q, lh, lr, la, ld, hs, rs, al, d, ra, old, P0, rfl, O, ok, R, dl, k⟩ := h
    have nd := scFreed.nd
    have hu := hu_of hr
    have hr1 : Room 1 _ := hr.mono (by decide)
    refine ⟨_, (pss_cons (ps_if (pt_cmp (pc_isN (pv 1))) (pss_one (ps_ret (pe_lst pa_nil))) pss_nil)
      (pss_cons (ps_if (pt_cmpR op_gt (pe_call GT4 hr1 (by rfl) D.gT4 D.FT4.kp D.bT4 .nil pass0 (pa_cons (pv 0) (pa_cons (pv 1) pa_nil))) pe_int (nomark _)) (pss_cons (ps_expr (pe_bm PySem.F.plainAttrs_list PySem.F.slot_list_append PySem.F.type_list_append mt_append (pe_dget hu (pv 0) pe_str (fun _ _ => rfl)) (pa_cons (pv 1) pa_nil)))
      (pss_one (ps_ret (pe_lst pa_nil)))) pss_nil)
      (pss_cons (ps_set (i := 2) nd rfl (Or.inl rfl) (pe_lst (pa_cons (pv 1) pa_nil)))
      (pss_cons (ps_set (i := 3) nd rfl (Or.inl rfl) pe_int)
      (pss_cons (ps_while PassesOwn.never (pt_cmpR op_lt (pv 3) (pe_callB call_len_seq (by rfl) TL.len PySem.boot_len (pa_cons (pv 2) pa_nil)) (nomark _)) (pss_cons (ps_set (i := 4) nd rfl (Or.inl rfl) (pe_ix ix_list (pe_dget hu (pv 0) pe_str (fun _ _ => rfl)) (pe_ix ix_list (pv 2) (pv 3) (fun _ _ => rfl)) (fun _ _ => rfl)))
      (pss_cons (ps_expr (pe_bm PySem.F.plainAttrs_list PySem.F.slot_list_remove PySem.F.type_list_remove mt_remove (pe_dget hu (pv 0) pe_str (fun _ _ => rfl)) (pa_cons (pe_ix ix_list (pv 2) (pv 3) (fun _ _ => rfl)) pa_nil)))
      (pss_cons (ps_set (i := 3) nd rfl (Or.inl rfl) (pe_op op_add (pv 3) pe_int))
      (pss_one (ps_for PassesOwn.never rfl (pi_range1 (by rfl) TL.range (pa_cons (pe_callB call_len_seq (by rfl) TL.len PySem.boot_len (pa_cons (pv 4) pa_nil)) pa_nil)) (pg_name (i := 5) nd rfl (Or.inl rfl))
      (pss_cons (ps_set (i := 6) nd rfl (Or.inl rfl) (pe_ix ix_list (pv 4) (pv 5) (fun _ _ => rfl)))
      (pss_one (ps_mid (ps_if (PW.pt (pw_and (pt_cmp (pc_notN (pv 6))) (pw_and (pt_cmpR op_notIn_seq (pv 6) (pv 2) (by rfl)) (pw_and1 (pt_cmpR op_notIn_seq (pv 6) (pe_slice sl_list (pv 4) (po_some (pe_op op_add (pv 5) pe_int)) po_none) (by rfl)))))) (pss_one (ps_mid (ps_if (pt_cmpR op_eq (pe_call GT4 hr1 (by rfl) D.gT4 D.FT4.kp D.bT4 .nil pass0 (pa_cons (pv 0) (pa_cons (pv 6) pa_nil))) pe_int (nomark _)) (pss_one (ps_expr (pe_bm PySem.F.plainAttrs_list PySem.F.slot_list_append PySem.F.type_list_append mt_append (pv 2) (pa_cons (pv 6) pa_nil)))) (pss_one (ps_expr (pe_bm PySem.F.plainAttrs_list PySem.F.slot_list_append PySem.F.type_list_append mt_append (pe_dget hu (pv 0) pe_str (fun _ _ => rfl)) (pa_cons (pv 6) pa_nil))))))) pss_nil))))))))))
      (pss_one (ps_ret (pv 2)))))))), ?_⟩
    have lane : ∀ {r : Addr}, H r = none → r ≠ la ∧ r ≠ ld := fun h => ⟨fun z => (by rw [z, O.a] at h; cases h), fun z => (by rw [z, O.d] at h; cases h)⟩
    cases old with
    | none =>
      refine ⟨_, rfl, _, rfl, if_pos_of (decide_eq_true rfl) ?_⟩
      refine ⟨Nat.zero_le _, fun r hr0 => ?_⟩
      exact k r al d [] _ hr0 (lane hr0).1 (lane hr0).2 upd_same R.none (fun n h => h) (by omega) (O.same (same_upd hr0)) (Beside.of (same_upd hr0))
    | some o =>
      refine ⟨_, rfl, _, rfl, if_neg_of (decide_eq_false (by intro z; cases z)) ?_⟩
      refine ⟨_, rfl, _, rfl, q, lh, lr, la, ld, hs, rs, al, d, ra, o, rfl, O, ok, fun H1 s1 => ⟨_, _, rfl, rfl, _, rfl, ?_⟩⟩
      by_cases w0 : wgt hs rs al o = 0
      · refine if_neg_of (decide_eq_false (by omega)) ?_
        obtain ⟨bs0, L0⟩ := R.falls w0
        have O1 := O.same s1
        have few : P0.boxes.length ≤ 60 := R.wf.few
        have lal : al.length ≤ 60 := by rw [R.ks]; rw [show (keys P0.boxes).length = P0.boxes.length from List.length_map _]; exact few
        refine ⟨_, rfl, (by show 1 ≤ sizeLine; decide), fun lf hlf => ?_⟩
        have hlH : H lf = none := by
          cases e : H lf with
          | none => rfl
          | some x => rw [s1 _ _ e] at hlf; cases hlf
        have nf := O1.fresh hlf
        have lend : ∀ {al' F' d' : List Int} {bs' : List (Int × Bx)} {k' : Nat}, Freeing P0 hs rs (some o) al' F' k' d' bs' → F'.length ≤ 60 := fun L => by have := L.len; omega
        refine ⟨fun m σ H' => ∃ k, m = 60 - k ∧ WalkAt P0 o H q lh lr la ld lf hs rs ra al (d.length + 6 * al.length) k σ H', ⟨60, 0, rfl, al, [o], d, bs0, none, none, none, rfl, L0, O1.same (same_upd hlf), upd_same, fun _ h => h, Nat.le_refl _, (Beside.of s1).trans (Beside.of (same_upd hlf))⟩, ?_⟩
        rintro m σ H2 ⟨k1, rfl, al1, F1, d1, bs1, v4, v5, v6, rfl, L1, S1⟩
        refine ⟨_, rfl, _, rfl, lf, _, rfl, .inl (SqL.of S1.f), _, _, rfl, rfl, _, rfl, ?_⟩
        rw [List.length_map]
        by_cases c : k1 < F1.length
        · refine if_pos_of (decide_eq_true (by omega)) ?_
          have hF := lend L1
          refine ⟨WalkAt P0 o H q lh lr la ld lf hs rs ra al (d.length + 6 * al.length) (k1 + 1), fun σ' H' w => ⟨60 - (k1 + 1), by omega, k1 + 1, rfl, w⟩, ?_⟩
          have hx : F1[k1]? = some F1[k1] := List.getElem?_eq_getElem c
          generalize F1[k1] = x at hx
          obtain ⟨xin, F', d', bs', ew, Lk⟩ := L1.step R.hh hx
          obtain ⟨x0, x1⟩ := ok.al x (S1.sub x xin)
          have xl : x.toNat < ra.length := by rw [S1.own.rm.len]; omega
          have hrq : ra[x.toNat]? = some ra[x.toNat] := List.getElem?_eq_getElem xl
          generalize ra[x.toNat] = rq at hrq
          have rl : (roomOf rs x).length ≤ 6 := by
            have lk : x.toNat < rs.length := by omega
            exact ok.rl _ (by unfold roomOf; rw [List.getD_eq_getElem?_getD, List.getElem?_eq_getElem lk]; exact List.getElem_mem lk)
          have hxV : (F1.map V.int)[k1]? = some (V.int x) := by rw [List.getElem?_map, hx]; rfl
          refine ⟨_, rfl, q, _, rfl, S1.own.dr, _, rfl, _, rfl, lf, _, _, _, rfl, rfl, SqL.of S1.f, at_of (j := k1) rfl hxV, lr, _, _, _, rfl, rfl, SqL.of S1.own.rm.r, at_of (j := x.toNat) (by omega) (by rw [List.getElem?_map, hrq]; rfl), ?_⟩
          obtain ⟨j, hj1, hj2, hj3⟩ := erase_at xin
          refine ⟨_, rfl, q, _, rfl, S1.own.da, .inl ⟨rfl, _, SqL.of S1.own.a⟩, _, rfl, _, rfl, lf, _, _, _, rfl, rfl, SqL.of S1.f, at_of (j := k1) rfl hxV, la, al1, x, j, rfl, rfl, S1.own.a, hj1, hj2, ?_⟩
          rw [hj3]
          have a1 : 0 < al1.length := List.length_pos_of_mem xin
          have hC : 6 ≤ d.length + 6 * al.length := by have := S1.dl; omega
          have Od := S1.own.dies (al1.erase x)
          have S2 : WalkSt H q lh lr la ld lf hs rs ra al (d.length + 6 * al.length - 6) (al1.erase x) F1 d1 (upd H2 la (.lst ((al1.erase x).map V.int))) := ⟨Od, by rw [upd_ne nf.2.2.2.1]; exact S1.f, fun n hn => S1.sub n (List.mem_of_mem_erase hn), (by have := S1.dl; rw [List.length_erase_of_mem xin]; omega), S1.be.trans Beside.la⟩
          generalize upd H2 la (.lst ((al1.erase x).map V.int)) = H3 at S2 ⊢
          clear Od
          have hrH := S2.own.rm.room hrq
          refine ⟨_, rfl, _, _, rfl, rfl, ?_⟩
          refine ⟨_, rfl, rq, _, rfl, .inl (SqL.of hrH), _, rfl, by omega, by rw [lV_len]; omega, ?_⟩
          rw [lV_len]
          refine for_range (lo := 0) (n := ((roomOf rs x).length : Int).toNat) (fun i σ H' => ∃ (Fi di : List Int) (v5 v6 : Option V), σ = [some (.ref q), some (.int o), some (.ref lf), some (.int ((k1 : Int) + 1)), some (.ref rq), v5, v6] ∧ walkRoom hs rs (al1.erase x) ((roomOf rs x).drop i) Fi di = (F', d') ∧ Fi.length ≤ F1.length + i ∧ WalkSt H q lh lr la ld lf hs rs ra al (d.length + 6 * al.length - 6 + i) (al1.erase x) Fi di H')
            ⟨F1, d1, _, _, rfl, ew, Nat.le_refl _, S2⟩ ?_ ?_
          · clear S2 hrH H3
            rintro i σ H3 hi ⟨Fi, di, v5, v6, rfl, ewi, li, S3⟩
            have hi' : i < (roomOf rs x).length := by omega
            have hrH := S3.own.rm.room hrq
            have hx2 := lV_get hi'
            have hix : (0 : Int) + (i : Int) = ((i : Nat) : Int) := by omega
            have ed : (roomOf rs x).drop i = (roomOf rs x).getD i none :: (roomOf rs x).drop (i + 1) := by
              rw [List.drop_eq_getElem_cons hi', List.getD_eq_getElem?_getD, List.getElem?_eq_getElem hi']
              rfl
            refine ⟨_, rfl, _, rfl, rq, _, _, _, rfl, rfl, SqL.of hrH, at_of (j := i) hix hx2, ?_⟩
            rw [ed] at ewi
            generalize (roomOf rs x).getD i none = y at ewi hx2
            clear ed hx2
            refine ⟨fun σ' H' => ∃ (Fi di : List Int), σ' = [some (.ref q), some (.int o), some (.ref lf), some (.int ((k1 : Int) + 1)), some (.ref rq), some (.int (0 + (i : Int))), some (oV y)] ∧ walkRoom hs rs (al1.erase x) ((roomOf rs x).drop (i + 1)) Fi di = (F', d') ∧ Fi.length ≤ F1.length + (i + 1) ∧ WalkSt H q lh lr la ld lf hs rs ra al (d.length + 6 * al.length - 6 + (i + 1)) (al1.erase x) Fi di H', ?_, fun σ' H' ⟨Fj, dj, e, w1, w2, w3⟩ => ⟨Fj, dj, _, _, e, w1, w2, w3⟩⟩
            cases y with
            | none =>
              refine ⟨_, rfl, _, rfl, ?_⟩
              refine iteF ?_
              exact ⟨Fi, di, rfl, ewi, by omega, ⟨S3.own, S3.f, S3.sub, Nat.le_trans S3.dl (by omega), S3.be⟩⟩
            | some y =>
              refine ⟨_, rfl, _, rfl, ?_⟩
              refine iteT ?_
              refine ⟨_, rfl, _, rfl, lf, _, rfl, .inl (SqL.of S3.f), rfl, flat_ints _, _, rfl, ?_⟩
              have stay : (y ∈ Fi ∨ some y ∈ (roomOf rs x).drop (i + 1)) → ∀ H9, WalkSt H q lh lr la ld lf hs rs ra al (d.length + 6 * al.length - 6 + (i + 1)) (al1.erase x) Fi di H9 → ∃ (Fi di : List Int), ([some (.ref q), some (.int o), some (.ref lf), some (.int ((k1 : Int) + 1)), some (.ref rq), some (.int (0 + (i : Int))), some (oV (some y))] : L2.St) = [some (.ref q), some (.int o), some (.ref lf), some (.int ((k1 : Int) + 1)), some (.ref rq), some (.int (0 + (i : Int))), some (oV (some y))] ∧ walkRoom hs rs (al1.erase x) ((roomOf rs x).drop (i + 1)) Fi di = (F', d') ∧ Fi.length ≤ F1.length + (i + 1) ∧ WalkSt H q lh lr la ld lf hs rs ra al (d.length + 6 * al.length - 6 + (i + 1)) (al1.erase x) Fi di H9 := fun c H9 S9 => by
                refine ⟨Fi, di, rfl, ?_, by omega, S9⟩
                rw [← ewi]
                exact (if_pos c).symm
              have S3m : WalkSt H q lh lr la ld lf hs rs ra al (d.length + 6 * al.length - 6 + (i + 1)) (al1.erase x) Fi di H3 := ⟨S3.own, S3.f, S3.sub, Nat.le_trans S3.dl (by omega), S3.be⟩
              by_cases c1 : y ∈ Fi
              · refine if_neg_of (show (!inV (V.int y) (Fi.map V.int)) = false by rw [inV_ints, decide_eq_true c1]; rfl) ?_
                refine iteF ?_
                exact stay (.inl c1) _ S3m
              refine if_pos_of (show (!inV (V.int y) (Fi.map V.int)) = true by rw [inV_ints, decide_eq_false c1]; rfl) ?_
              refine ⟨_, rfl, _, rfl, _, rfl, _, _, rfl, rfl, _, rfl, rq, _, rfl, SqL.of hrH, fun u hu => ?_⟩
              have ec : cutV (lV (roomOf rs x)) (some ((0 : Int) + (i : Int) + 1)) none = lV ((roomOf rs x).drop (i + 1)) := by
                rw [show ((0 : Int) + (i : Int) + 1) = ((i + 1 : Nat) : Int) by omega, cutV_drop]
                unfold lV
                rw [List.map_drop]
              rw [ec]
              refine ⟨u, _, rfl, .inl (SqL.of upd_same), rfl, flat_lV _, _, rfl, ?_⟩
              have S4 := S3m.same (same_upd (o := .lst (lV ((roomOf rs x).drop (i + 1)))) hu)
              generalize upd H3 u (.lst (lV ((roomOf rs x).drop (i + 1)))) = H4 at S4 ⊢
              by_cases c2 : some y ∈ (roomOf rs x).drop (i + 1)
              · refine if_neg_of (show (!inV (V.int y) (lV ((roomOf rs x).drop (i + 1)))) = false by rw [inV_lV, decide_eq_true c2]; rfl) ?_
                exact stay (.inr c2) _ S4
              refine if_pos_of (show (!inV (V.int y) (lV ((roomOf rs x).drop (i + 1)))) = true by rw [inV_lV, decide_eq_false c2]; rfl) ?_
              have fit1 : OwnFit hs rs (al1.erase x) := ⟨ok.hl, ok.rl, fun m hm => ok.al m (S4.sub m hm)⟩
              refine ⟨_, ?_, fun σ' H' h => h⟩
              refine ⟨_, rfl, _, rfl, q, lh, lr, la, ld, hs, rs, al1.erase x, di, ra, y, rfl, S4.own, fit1, fun H5 s5 => ⟨rfl, _, rfl, ?_⟩⟩
              have S5 := S4.same s5
              by_cases w1 : wgt hs rs (al1.erase x) y = 0
              · refine if_pos_of (decide_eq_true (by rw [w1]; rfl)) ?_
                refine ⟨_, rfl, .inl ⟨rfl, _, SqL.of S5.f⟩, _, rfl, lf, _, _, rfl, rfl, S5.f, by rw [List.length_map, sizeLine_eq]; omega, ?_⟩
                refine ⟨Fi ++ [y], di, rfl, ?_, by rw [List.length_append]; show Fi.length + 1 ≤ _; omega, S5.own.other S5.f nf _, by rw [upd_same, List.map_append]; rfl, S5.sub, S5.dl, S5.be.new hlH⟩
                rw [← ewi]
                exact ((if_neg (fun z => z.elim c1 c2)).trans (if_pos w1)).symm
              · refine if_neg_of (decide_eq_false (by intro z; injection z with z; omega)) ?_
                refine ⟨_, rfl, q, _, rfl, S5.own.dd, .inl ⟨rfl, _, SqL.of S5.own.d⟩, _, rfl, ld, _, _, rfl, rfl, S5.own.d, by rw [List.length_map, sizeLine_eq]; have := S3.dl; omega, ?_⟩
                have Od := S5.own.doubt (di ++ [y])
                rw [List.map_append] at Od
                refine ⟨Fi, di ++ [y], rfl, ?_, by omega, Od, by rw [upd_ne nf.2.2.2.2]; exact S5.f, S5.sub, (by rw [List.length_append]; show di.length + 1 + 6 * _ ≤ _; have := S3.dl; omega), S5.be.trans Beside.ld⟩
                rw [← ewi]
                exact ((if_neg (fun z => z.elim c1 c2)).trans (if_neg w1)).symm
          · rintro σ H4 ⟨Fi, di, v5, v6, rfl, ewi, li, S3⟩
            have e0 : (roomOf rs x).drop ((roomOf rs x).length : Int).toNat = [] := List.drop_of_length_le (by omega)
            rw [e0] at ewi
            have e1 : Fi = F' := (Prod.mk.inj ewi).1
            have e2 : di = d' := (Prod.mk.inj ewi).2
            subst e1
            subst e2
            exact ⟨al1.erase x, Fi, di, bs', _, _, _, rfl, Lk, S3.own, S3.f, S3.sub, Nat.le_trans S3.dl (by omega), S3.be⟩
        · refine if_neg_of (decide_eq_false (by omega)) ?_
          refine ⟨_, rfl, ?_⟩
          exact k lf al1 d1 F1 H2 hlH nf.2.2.2.1 nf.2.2.2.2 S1.f (L1.looked (by omega)) S1.sub (by have := S1.dl; omega) S1.own S1.be
      · refine if_pos_of (decide_eq_true (by omega)) ?_
        refine ⟨_, rfl, q, _, rfl, dget_same s1 O.dd, .inl ⟨rfl, _, SqL.of (s1 _ _ O.d)⟩, _, rfl, ld, d.map V.int, _, rfl, rfl, s1 _ _ O.d, by rw [List.length_map, sizeLine_eq]; omega, ?_⟩
        have O1 := (O.same s1).doubt (d ++ [o])
        rw [List.map_append] at O1
        refine ⟨Nat.zero_le _, fun r hr1 => ?_⟩
        have hrd : r ≠ ld := fun z => by rw [z, upd_same] at hr1; cases hr1
        have hr0 : H1 r = none := by rw [upd_ne hrd] at hr1; exact hr1
        have hrH : H r = none := by
          cases e : H r with
          | none => rfl
          | some x => rw [s1 _ _ e] at hr0; cases hr0
        exact k r al (d ++ [o]) [] _ hrH (lane hrH).1 hrd upd_same (R.stays w0) (fun n h => h) (by rw [List.length_append]; show d.length + 1 + 6 * al.length ≤ _; omega) (O1.same (same_upd hr1)) (((Beside.of s1).trans Beside.ld).trans (Beside.of (same_upd hr1)))
/-! ### the law's own pile: its dict -/
def pileD (lh lr la ld lk : Addr) (tv wv : V) : List (Key × V) := [(.inr "hands", .ref lh), (.inr "rooms", .ref lr), (.inr "alive", .ref la), (.inr "doubts", .ref ld), (.inr "told", tv), (.inr "wrong", wv), (.inr "kept", .ref lk)]
theorem pd_hands (lh lr la ld lk : Addr) (tv wv : V) : valV (pileD lh lr la ld lk tv wv) (Sum.inr "hands" : Key) = some (.ref lh) := valV_pos rfl
theorem pd_rooms (lh lr la ld lk : Addr) (tv wv : V) : valV (pileD lh lr la ld lk tv wv) (Sum.inr "rooms" : Key) = some (.ref lr) := (valV_neg (show ¬ ((Sum.inr "hands" : Key) = (Sum.inr "rooms" : Key)) by decide +kernel)).trans (valV_pos rfl)
theorem pd_alive (lh lr la ld lk : Addr) (tv wv : V) : valV (pileD lh lr la ld lk tv wv) (Sum.inr "alive" : Key) = some (.ref la) := (valV_neg (show ¬ ((Sum.inr "hands" : Key) = (Sum.inr "alive" : Key)) by decide +kernel)).trans ((valV_neg (show ¬ ((Sum.inr "rooms" : Key) = (Sum.inr "alive" : Key)) by decide +kernel)).trans (valV_pos rfl))
theorem pd_doubts (lh lr la ld lk : Addr) (tv wv : V) : valV (pileD lh lr la ld lk tv wv) (Sum.inr "doubts" : Key) = some (.ref ld) := (valV_neg (show ¬ ((Sum.inr "hands" : Key) = (Sum.inr "doubts" : Key)) by decide +kernel)).trans ((valV_neg (show ¬ ((Sum.inr "rooms" : Key) = (Sum.inr "doubts" : Key)) by decide +kernel)).trans ((valV_neg (show ¬ ((Sum.inr "alive" : Key) = (Sum.inr "doubts" : Key)) by decide +kernel)).trans (valV_pos rfl)))
theorem pd_told (lh lr la ld lk : Addr) (tv wv : V) : valV (pileD lh lr la ld lk tv wv) (Sum.inr "told" : Key) = some (tv) := (valV_neg (show ¬ ((Sum.inr "hands" : Key) = (Sum.inr "told" : Key)) by decide +kernel)).trans ((valV_neg (show ¬ ((Sum.inr "rooms" : Key) = (Sum.inr "told" : Key)) by decide +kernel)).trans ((valV_neg (show ¬ ((Sum.inr "alive" : Key) = (Sum.inr "told" : Key)) by decide +kernel)).trans ((valV_neg (show ¬ ((Sum.inr "doubts" : Key) = (Sum.inr "told" : Key)) by decide +kernel)).trans (valV_pos rfl))))
theorem pd_wrong (lh lr la ld lk : Addr) (tv wv : V) : valV (pileD lh lr la ld lk tv wv) (Sum.inr "wrong" : Key) = some (wv) := (valV_neg (show ¬ ((Sum.inr "hands" : Key) = (Sum.inr "wrong" : Key)) by decide +kernel)).trans ((valV_neg (show ¬ ((Sum.inr "rooms" : Key) = (Sum.inr "wrong" : Key)) by decide +kernel)).trans ((valV_neg (show ¬ ((Sum.inr "alive" : Key) = (Sum.inr "wrong" : Key)) by decide +kernel)).trans ((valV_neg (show ¬ ((Sum.inr "doubts" : Key) = (Sum.inr "wrong" : Key)) by decide +kernel)).trans ((valV_neg (show ¬ ((Sum.inr "told" : Key) = (Sum.inr "wrong" : Key)) by decide +kernel)).trans (valV_pos rfl)))))
theorem pd_kept (lh lr la ld lk : Addr) (tv wv : V) : valV (pileD lh lr la ld lk tv wv) (Sum.inr "kept" : Key) = some (.ref lk) := (valV_neg (show ¬ ((Sum.inr "hands" : Key) = (Sum.inr "kept" : Key)) by decide +kernel)).trans ((valV_neg (show ¬ ((Sum.inr "rooms" : Key) = (Sum.inr "kept" : Key)) by decide +kernel)).trans ((valV_neg (show ¬ ((Sum.inr "alive" : Key) = (Sum.inr "kept" : Key)) by decide +kernel)).trans ((valV_neg (show ¬ ((Sum.inr "doubts" : Key) = (Sum.inr "kept" : Key)) by decide +kernel)).trans ((valV_neg (show ¬ ((Sum.inr "told" : Key) = (Sum.inr "kept" : Key)) by decide +kernel)).trans ((valV_neg (show ¬ ((Sum.inr "wrong" : Key) = (Sum.inr "kept" : Key)) by decide +kernel)).trans (valV_pos rfl))))))
theorem pp_alive (lh lr la ld lk : Addr) (tv wv : V) (x : Addr) : putK (pileD lh lr la ld lk tv wv) (Sum.inr "alive" : Key) (.ref x) = pileD lh lr x ld lk tv wv := by
  have h0 := (show ¬ ((Sum.inr "hands" : Key) = (Sum.inr "alive" : Key)) by decide +kernel)
  have h1 := (show ¬ ((Sum.inr "rooms" : Key) = (Sum.inr "alive" : Key)) by decide +kernel)
  have h3 := (show ¬ ((Sum.inr "doubts" : Key) = (Sum.inr "alive" : Key)) by decide +kernel)
  have h4 := (show ¬ ((Sum.inr "told" : Key) = (Sum.inr "alive" : Key)) by decide +kernel)
  have h5 := (show ¬ ((Sum.inr "wrong" : Key) = (Sum.inr "alive" : Key)) by decide +kernel)
  have h6 := (show ¬ ((Sum.inr "kept" : Key) = (Sum.inr "alive" : Key)) by decide +kernel)
  unfold putK
  rw [if_pos (by rw [valV_any, pd_alive]; rfl)]
  unfold pileD
  simp only [List.map_cons, List.map_nil, h0, h1, h3, h4, h5, h6, if_false, if_true]
theorem pp_doubts (lh lr la ld lk : Addr) (tv wv : V) (x : Addr) : putK (pileD lh lr la ld lk tv wv) (Sum.inr "doubts" : Key) (.ref x) = pileD lh lr la x lk tv wv := by
  have h0 := (show ¬ ((Sum.inr "hands" : Key) = (Sum.inr "doubts" : Key)) by decide +kernel)
  have h1 := (show ¬ ((Sum.inr "rooms" : Key) = (Sum.inr "doubts" : Key)) by decide +kernel)
  have h2 := (show ¬ ((Sum.inr "alive" : Key) = (Sum.inr "doubts" : Key)) by decide +kernel)
  have h4 := (show ¬ ((Sum.inr "told" : Key) = (Sum.inr "doubts" : Key)) by decide +kernel)
  have h5 := (show ¬ ((Sum.inr "wrong" : Key) = (Sum.inr "doubts" : Key)) by decide +kernel)
  have h6 := (show ¬ ((Sum.inr "kept" : Key) = (Sum.inr "doubts" : Key)) by decide +kernel)
  unfold putK
  rw [if_pos (by rw [valV_any, pd_doubts]; rfl)]
  unfold pileD
  simp only [List.map_cons, List.map_nil, h0, h1, h2, h4, h5, h6, if_false, if_true]
theorem pp_told (lh lr la ld lk : Addr) (tv wv : V) (x : V) : putK (pileD lh lr la ld lk tv wv) (Sum.inr "told" : Key) (x) = pileD lh lr la ld lk x wv := by
  have h0 := (show ¬ ((Sum.inr "hands" : Key) = (Sum.inr "told" : Key)) by decide +kernel)
  have h1 := (show ¬ ((Sum.inr "rooms" : Key) = (Sum.inr "told" : Key)) by decide +kernel)
  have h2 := (show ¬ ((Sum.inr "alive" : Key) = (Sum.inr "told" : Key)) by decide +kernel)
  have h3 := (show ¬ ((Sum.inr "doubts" : Key) = (Sum.inr "told" : Key)) by decide +kernel)
  have h5 := (show ¬ ((Sum.inr "wrong" : Key) = (Sum.inr "told" : Key)) by decide +kernel)
  have h6 := (show ¬ ((Sum.inr "kept" : Key) = (Sum.inr "told" : Key)) by decide +kernel)
  unfold putK
  rw [if_pos (by rw [valV_any, pd_told]; rfl)]
  unfold pileD
  simp only [List.map_cons, List.map_nil, h0, h1, h2, h3, h5, h6, if_false, if_true]
theorem pp_wrong (lh lr la ld lk : Addr) (tv wv : V) (x : V) : putK (pileD lh lr la ld lk tv wv) (Sum.inr "wrong" : Key) (x) = pileD lh lr la ld lk tv x := by
  have h0 := (show ¬ ((Sum.inr "hands" : Key) = (Sum.inr "wrong" : Key)) by decide +kernel)
  have h1 := (show ¬ ((Sum.inr "rooms" : Key) = (Sum.inr "wrong" : Key)) by decide +kernel)
  have h2 := (show ¬ ((Sum.inr "alive" : Key) = (Sum.inr "wrong" : Key)) by decide +kernel)
  have h3 := (show ¬ ((Sum.inr "doubts" : Key) = (Sum.inr "wrong" : Key)) by decide +kernel)
  have h4 := (show ¬ ((Sum.inr "told" : Key) = (Sum.inr "wrong" : Key)) by decide +kernel)
  have h6 := (show ¬ ((Sum.inr "kept" : Key) = (Sum.inr "wrong" : Key)) by decide +kernel)
  unfold putK
  rw [if_pos (by rw [valV_any, pd_wrong]; rfl)]
  unfold pileD
  simp only [List.map_cons, List.map_nil, h0, h1, h2, h3, h4, h6, if_false, if_true]
/-- the law's own pile, whole -/
structure OwnD (H : Hp) (q lh lr la ld lk : Addr) (tv wv : V) (hs : List (Option Int)) (rs : List (List (Option Int))) (al d : List Int) (ra : List Addr) : Prop where
  e : H q = some (.dK (pileD lh lr la ld lk tv wv))
  o : OwnIn H q lh lr la ld hs rs al d ra
theorem OwnIn.of {H : Hp} {q lh lr la ld lk : Addr} {tv wv : V} {hs : List (Option Int)} {rs : List (List (Option Int))} {al d : List Int} {ra : List Addr} (e : H q = some (.dK (pileD lh lr la ld lk tv wv))) (rm : RoomsIn H lh lr hs rs ra) (a : H la = some (.lst (al.map V.int))) (dd : H ld = some (.lst (d.map V.int))) (na : la ∉ ra ∧ la ≠ lh ∧ la ≠ lr) (nd : ld ∉ ra ∧ ld ≠ lh ∧ ld ≠ lr ∧ ld ≠ la) : OwnIn H q lh lr la ld hs rs al d ra :=
  ⟨by rw [← pd_hands lh lr la ld lk tv wv]; exact DGet.k (k := Sum.inr "hands") e, by rw [← pd_rooms lh lr la ld lk tv wv]; exact DGet.k (k := Sum.inr "rooms") e, by rw [← pd_alive lh lr la ld lk tv wv]; exact DGet.k (k := Sum.inr "alive") e, by rw [← pd_doubts lh lr la ld lk tv wv]; exact DGet.k (k := Sum.inr "doubts") e, rm, a, dd, na, nd⟩
theorem OwnD.notq {H : Hp} {q lh lr la ld lk : Addr} {tv wv : V} {hs : List (Option Int)} {rs : List (List (Option Int))} {al d : List Int} {ra : List Addr} (o : OwnD H q lh lr la ld lk tv wv hs rs al d ra) : q ∉ ra ∧ q ≠ lh ∧ q ≠ lr := by
  refine ⟨fun z => ?_, fun z => ?_, fun z => ?_⟩
  · obtain ⟨j, hj⟩ := List.mem_iff_getElem?.mp z
    obtain ⟨row, _, h⟩ := paired_at o.o.rm.p j q hj
    rw [o.e] at h; cases h
  · have := o.e; rw [z, o.o.rm.h] at this; cases this
  · have := o.e; rw [z, o.o.rm.r] at this; cases this
theorem OwnD.neq {H : Hp} {q lh lr la ld lk : Addr} {tv wv : V} {hs : List (Option Int)} {rs : List (List (Option Int))} {al d : List Int} {ra : List Addr} (o : OwnD H q lh lr la ld lk tv wv hs rs al d ra) {b : Addr} {x : List V} (h : H b = some (.lst x)) : b ≠ q := fun z => by
  rw [z, o.e] at h; cases h
theorem OwnD.same {H H' : Hp} {q lh lr la ld lk : Addr} {tv wv : V} {hs : List (Option Int)} {rs : List (List (Option Int))} {al d : List Int} {ra : List Addr} (o : OwnD H q lh lr la ld lk tv wv hs rs al d ra) (s : Same H H') : OwnD H' q lh lr la ld lk tv wv hs rs al d ra := ⟨s _ _ o.e, o.o.same s⟩
theorem OwnD.doubts {H : Hp} {q lh lr la ld lk : Addr} {tv wv : V} {hs : List (Option Int)} {rs : List (List (Option Int))} {al d d' : List Int} {ra : List Addr} (o : OwnD H q lh lr la ld lk tv wv hs rs al d ra) {x : Addr} (h : H x = some (.lst (d'.map V.int))) (n : x ∉ ra ∧ x ≠ lh ∧ x ≠ lr ∧ x ≠ la) : OwnD (upd H q (.dK (putK (pileD lh lr la ld lk tv wv) (Sum.inr "doubts" : Key) (.ref x)))) q lh lr la x lk tv wv hs rs al d' ra := by
  rw [pp_doubts]
  exact ⟨upd_same, .of upd_same (o.o.rm.at_upd o.notq) (by rw [upd_ne (o.neq o.o.a)]; exact o.o.a) (by rw [upd_ne (o.neq h)]; exact h) o.o.na n⟩
theorem OwnD.alive {H : Hp} {q lh lr la ld lk : Addr} {tv wv : V} {hs : List (Option Int)} {rs : List (List (Option Int))} {al d al' : List Int} {ra : List Addr} (o : OwnD H q lh lr la ld lk tv wv hs rs al d ra) {x : Addr} (h : H x = some (.lst (al'.map V.int))) (n : x ∉ ra ∧ x ≠ lh ∧ x ≠ lr) (n2 : ld ≠ x) : OwnD (upd H q (.dK (putK (pileD lh lr la ld lk tv wv) (Sum.inr "alive" : Key) (.ref x)))) q lh lr x ld lk tv wv hs rs al' d ra := by
  rw [pp_alive]
  exact ⟨upd_same, .of upd_same (o.o.rm.at_upd o.notq) (by rw [upd_ne (o.neq h)]; exact h) (by rw [upd_ne (o.neq o.o.d)]; exact o.o.d) n ⟨o.o.nd.1, o.o.nd.2.1, o.o.nd.2.2.1, n2⟩⟩
theorem OwnD.told {H : Hp} {q lh lr la ld lk : Addr} {tv wv : V} {hs : List (Option Int)} {rs : List (List (Option Int))} {al d : List Int} {ra : List Addr} (o : OwnD H q lh lr la ld lk tv wv hs rs al d ra) (x : V) : OwnD (upd H q (.dK (putK (pileD lh lr la ld lk tv wv) (Sum.inr "told" : Key) x))) q lh lr la ld lk x wv hs rs al d ra := by
  rw [pp_told]
  exact ⟨upd_same, .of upd_same (o.o.rm.at_upd o.notq) (by rw [upd_ne (o.neq o.o.a)]; exact o.o.a) (by rw [upd_ne (o.neq o.o.d)]; exact o.o.d) o.o.na o.o.nd⟩
theorem OwnD.wrong {H : Hp} {q lh lr la ld lk : Addr} {tv wv : V} {hs : List (Option Int)} {rs : List (List (Option Int))} {al d : List Int} {ra : List Addr} (o : OwnD H q lh lr la ld lk tv wv hs rs al d ra) (x : V) : OwnD (upd H q (.dK (putK (pileD lh lr la ld lk tv wv) (Sum.inr "wrong" : Key) x))) q lh lr la ld lk tv x hs rs al d ra := by
  rw [pp_wrong]
  exact ⟨upd_same, .of upd_same (o.o.rm.at_upd o.notq) (by rw [upd_ne (o.neq o.o.a)]; exact o.o.a) (by rw [upd_ne (o.neq o.o.d)]; exact o.o.d) o.o.na o.o.nd⟩
/-! ### what can be come to from the hands -/
structure Coming (P : Pl) (row : List Int) (k : Nat) : Prop where
  hl : ∀ n ∈ row, HL P n
  st : ∀ h, some h ∈ P.hands → h ∈ row
  cl : ∀ j, j < k → ∀ n, row[j]? = some n → ∀ b, get P.boxes n = some b → ∀ m, some m ∈ b.slots → m ∈ row
  len : ∃ b e, row = b ++ e ∧ b.length ≤ 8 ∧ e.Nodup
theorem Coming.all {P : Pl} {row : List Int} {k : Nat} (c : Coming P row k) (e : row.length ≤ k) (n : Int) : n ∈ row ↔ HL P n := by
  refine ⟨c.hl n, ?_⟩
  rintro ⟨h, hh, p⟩
  have := c.st h hh
  clear hh
  induction p with
  | refl n => exact this
  | step ed _ ih =>
    obtain ⟨x, hx, hm⟩ := ed
    obtain ⟨j, hj⟩ := List.mem_iff_getElem?.mp this
    have : j < row.length := (List.getElem?_eq_some_iff.mp hj).1
    exact ih (c.cl j (by omega) _ hj x hx _ hm)
theorem nodup_sub_len : ∀ {e l : List Int}, e.Nodup → (∀ n ∈ e, n ∈ l) → e.length ≤ l.length
  | [], _, _, _ => Nat.zero_le _
  | x :: e, l, nd, h => by
    have nd := List.nodup_cons.mp nd
    have hx := h x List.mem_cons_self
    have := nodup_sub_len (e := e) (l := l.erase x) nd.2 fun n hn => (List.mem_erase_of_ne (fun z => nd.1 (by rw [← z]; exact hn))).mpr (h n (List.mem_cons_of_mem _ hn))
    rw [List.length_erase_of_mem hx] at this
    have : 0 < l.length := List.length_pos_of_mem hx
    show e.length + 1 ≤ l.length
    omega
theorem Coming.le {P : Pl} {row : List Int} {k : Nat} (W : Wf P []) (c : Coming P row k) : row.length ≤ 68 := by
  obtain ⟨b, e, er, hb, nd⟩ := c.len
  have := nodup_sub_len (l := keys P.boxes) nd fun n hn => get_keys.mp ((c.hl n (by rw [er]; exact List.mem_append_right _ hn)).alive W)
  have few := W.few
  rw [show (keys P.boxes).length = P.boxes.length from List.length_map _] at this
  rw [er, List.length_append]
  omega
theorem Coming.more {P : Pl} {row : List Int} {k : Nat} (c : Coming P row k) {m : Int} (h : HL P m) (n : m ∉ row) (hk : k ≤ row.length) : Coming P (row ++ [m]) k := by
  refine ⟨fun x hx => ?_, fun x hx => List.mem_append_left _ (c.st x hx), fun j hj x hx b hb y hy => List.mem_append_left _ (c.cl j hj x (by rw [List.getElem?_append_left (by omega)] at hx; exact hx) b hb y hy), ?_⟩
  · rcases List.mem_append.mp hx with z | z
    · exact c.hl x z
    · rw [List.mem_singleton.mp z]; exact h
  · obtain ⟨b, e, er, hb, nd⟩ := c.len
    refine ⟨b, e ++ [m], by rw [er, List.append_assoc], hb, ?_⟩
    refine List.nodup_append.mpr ⟨nd, List.nodup_cons.mpr ⟨fun z => (by cases z), List.nodup_nil⟩, fun x hx y hy => ?_⟩
    rw [List.mem_singleton.mp hy]
    exact fun z => n (by rw [er, ← z]; exact List.mem_append_right _ hx)
theorem Coming.next {P : Pl} {row : List Int} {k : Nat} {x : Int} {b : Bx} (c : Coming P row k) (hx : row[k]? = some x) (hb : get P.boxes x = some b) (h : ∀ m, some m ∈ b.slots → m ∈ row) : Coming P row (k + 1) := by
  refine ⟨c.hl, c.st, fun j hj n hn b' hb' m hm => ?_, c.len⟩
  by_cases z : j = k
  · rw [z, hx] at hn
    rw [← Option.some.inj hn, hb] at hb'
    rw [← Option.some.inj hb'] at hm
    exact h m hm
  · exact c.cl j (by omega) n hn b' hb' m hm
theorem coming0 {P : Pl} (W : Wf P []) : Coming P (P.hands.filterMap id) 0 := by
  have mem : ∀ n, n ∈ P.hands.filterMap id ↔ some n ∈ P.hands := fun n => by
    rw [List.mem_filterMap]
    exact ⟨fun ⟨a, h1, h2⟩ => (by rw [← (show a = some n from h2)]; exact h1), fun h => ⟨some n, h, rfl⟩⟩
  refine ⟨fun n hn => ⟨n, (mem n).mp hn, .refl n⟩, fun h hh => (mem h).mpr hh, fun j hj => by omega, P.hands.filterMap id, [], by rw [List.append_nil], ?_, List.nodup_nil⟩
  exact Nat.le_trans (List.length_filterMap_le _ _) (by rw [W.hl]; exact Nat.le_refl _)
theorem slots_room {P : Pl} {hs : List (Option Int)} {rs : List (List (Option Int))} (o : Own P hs rs) {n : Int} {b : Bx} (hb : get P.boxes n = some b) : b.slots = roomOf rs n := by
  unfold roomOf
  rw [List.getD_eq_getElem?_getD, o.s n b hb]
  rfl
def spTidiedL : Sp := fun vs H Q _ => ∃ (q lh lr la ld lk : Addr) (tv wv : V) (hs : List (Option Int)) (rs : List (List (Option Int))) (al d : List Int) (ra : List Addr) (P : Pl), vs = [.ref q] ∧ OwnD H q lh lr la ld lk tv wv hs rs al d ra ∧ OwnFit hs rs al ∧ PlainR P hs rs al d ∧ Good P ∧
  ∀ (r la' ld' : Addr) (al' : List Int) (H' : Hp), H r = none → r ≠ la' → r ≠ ld' → H la' = none → H ld' = none → H' r = some (.lst ((deadF P).map V.int)) → PlainR (BP.tidied P (deadF P)) hs rs al' [] → OwnD H' q lh lr la' ld' lk tv wv hs rs al' [] ra → (∀ b o, b ≠ q → H b = some o → H' b = some o) → Q (.ref r) H'
theorem scTidied : FnScope nTidied ["_law_pile"] (defScope sTidied) := ⟨rfl, rfl, rfl, by decide +kernel, rfl, by decide +kernel, by decide +kernel⟩
theorem ok_tidied {f : Addr} {fd : FuncData} (F : Fun K "_law_tidied" "_law_tidied" sTidied f fd) (TL : TxtL mg) : FnOk P w K mg base CX0 1 f fd ["_law_pile"] spTidiedL := by
  refine F.ok scTidied (fun vs H Q E h => ?_) (fun cdv A outer s H vs Q E hr h => ?_)
  · obtain ⟨q, lh, lr, la, ld, lk, tv, wv, hs, rs, al, d, ra, P0, rfl, _⟩ := h
    rfl
  · obtain ⟨q, lh, lr, la, ld, lk, tv, wv, hs, rs, al, d, ra, P0, rfl, ⟨eq, O⟩, ok, R, G, k⟩ := h
    have nd := scTidied.nd
    have hu := hu_of hr
    have W := G.wf
    have few := W.few
    refine ⟨_, (pss_cons (ps_set (i := 1) nd rfl (Or.inr rfl) (pe_lc (own := [("_law_held", 6)]) (g := gName 6) (tt := tB (tNotN (tVar 6))) (te := tVar 6) (by rfl) nd (pi_list (pe_dget hu (pv 0) pe_str (fun _ _ => rfl))) (blkOk_by (N := nTidied) (sc := defScope sTidied) (by decide +kernel)) (fun _ _ _ _ _ => pg_name (i := 6) nd rfl (Or.inl rfl)) (fun _ _ _ _ _ => pts_one (pt_cmp (pc_notN (pv 6)))) (fun _ _ _ _ _ => pv 6)))
      (pss_cons (ps_set (i := 2) nd rfl (Or.inl rfl) pe_int)
      (pss_cons (ps_while PassesOwn.never (pt_cmpR op_lt (pv 2) (pe_callB call_len_seq (by rfl) TL.len PySem.boot_len (pa_cons (pv 1) pa_nil)) (nomark _)) (pss_cons (ps_set (i := 3) nd rfl (Or.inl rfl) (pe_ix ix_list (pe_dget hu (pv 0) pe_str (fun _ _ => rfl)) (pe_ix ix_list (pv 1) (pv 2) (fun _ _ => rfl)) (fun _ _ => rfl)))
      (pss_cons (ps_set (i := 2) nd rfl (Or.inl rfl) (pe_op op_add (pv 2) pe_int))
      (pss_one (ps_for PassesOwn.never rfl (pi_list (pv 3)) (pg_name (i := 4) nd rfl (Or.inl rfl))
      (pss_one (ps_mid (ps_if (PW.pt (pw_and (pt_cmp (pc_notN (pv 4))) (pw_and1 (pt_cmpR op_notIn_seq (pv 4) (pv 1) (by rfl))))) (pss_one (ps_expr (pe_bm PySem.F.plainAttrs_list PySem.F.slot_list_append PySem.F.type_list_append mt_append (pv 1) (pa_cons (pv 4) pa_nil)))) pss_nil))))))))
      (pss_cons (ps_setLc (i := 5) (own := [("_law_number", 7)]) (g := gName 7) (tt := tTest (tOp (rIn K true) (tVar 7) (tVar 1))) (te := tVar 7) (by rfl) nd rfl rfl (sw_true rfl rfl rfl (by decide +kernel)) (pi_list (pe_dget hu (pv 0) pe_str (fun _ _ => rfl))) (blkOk_by (N := nTidied) (sc := defScope sTidied) (by decide +kernel)) (fun _ _ _ _ _ => pg_name (i := 7) nd rfl (Or.inl rfl)) (fun _ _ _ _ _ => pts_one (pt_cmpR op_notIn_seq (pv 7) (pv 1) (by rfl))) (fun _ _ _ _ _ => pv 7))
      (pss_cons (ps_dput hu (pv 0) pe_str (pe_lst pa_nil) rfl)
      (pss_cons (ps_dput hu (pv 0) pe_str (pe_lc (own := [("_law_number", 7)]) (g := gName 7) (tt := tTest (tOp (rIn K false) (tVar 7) (tVar 1))) (te := tVar 7) (by rfl) nd (pi_list (pe_dget hu (pv 0) pe_str (fun _ _ => rfl))) (blkOk_by (N := nTidied) (sc := defScope sTidied) (by decide +kernel)) (fun _ _ _ _ _ => pg_name (i := 7) nd rfl (Or.inl rfl)) (fun _ _ _ _ _ => pts_one (pt_cmpR op_in_seq (pv 7) (pv 1) (by rfl))) (fun _ _ _ _ _ => pv 7)) rfl)
      (pss_one (ps_ret (pv 5))))))))), ?_⟩
    -- the hands
    refine ⟨_, rfl, q, _, rfl, O.dh, lh, rfl, ⟨_, SqL.of O.rm.h⟩, fun L hL => lc_list (K := K) (a := lh) (xs := lV hs) (fun i H' => H' = upd H L (.lst (((hs.take i).filterMap id).map V.int))) rfl (fun i H' _ e => ?_) (fun i y H' hi e => ?_) (fun H1 e1 => ?_)⟩
    · rw [e]
      exact SqL.of (by rw [upd_ne (ne_of_none O.rm.h hL)]; exact O.rm.h)
    · obtain ⟨o, ho, rfl⟩ := lV_at hi
      refine ⟨rfl, _, rfl, _, rfl, ?_⟩
      rw [take_get' ho, List.filterMap_append]
      cases o with
      | none =>
        refine iteF ?_
        rw [e]
        simp
      | some n =>
        refine iteT ⟨_, rfl, _, by rw [e]; exact upd_same, ?_, ?_⟩
        · rw [List.length_map, sizeLine_eq]
          have h1 : ((hs.take i).filterMap id).length ≤ (hs.take i).length := List.length_filterMap_le _ _
          have h2 := ok.hl
          rw [List.length_take] at h1
          omega
        · rw [e, upd_upd, List.map_append]
          rfl
    rw [lV_len, List.take_length] at e1
    have C0 := coming0 W
    rw [R.own.h] at C0
    have nf := O.fresh hL
    have offL : ∀ {b : Addr} {o : HO} {row : List Int}, H b = some o → upd H L (.lst (row.map V.int)) b = some o := fun h => by rw [upd_ne (ne_of_none h hL)]; exact h
    have OL : ∀ row : List Int, OwnIn (upd H L (.lst (row.map V.int))) q lh lr la ld hs rs al d ra := fun row => O.same (same_upd hL)
    refine ⟨fun m σ H' => ∃ (k : Nat) (row : List Int) (v3 v4 : Option V), m = 68 - k ∧ σ = [some (.ref q), some (.ref L), some (.int k), v3, v4, none, none, none] ∧ Coming P0 row k ∧ k ≤ row.length ∧ H' = upd H L (.lst (row.map V.int)), ⟨68, 0, _, none, none, rfl, rfl, C0, Nat.zero_le _, e1⟩, ?_⟩
    clear C0 e1 H1
    rintro m σ H1 ⟨k1, row, v3, v4, rfl, rfl, C1, hk1, rfl⟩
    refine ⟨_, rfl, _, rfl, L, _, rfl, .inl (SqL.of upd_same), _, _, rfl, rfl, _, rfl, ?_⟩
    rw [List.length_map]
    by_cases c : k1 < row.length
    · refine if_pos_of (decide_eq_true (by omega)) ?_
      have h68 := C1.le W
      refine ⟨fun σ' H' => ∃ (row : List Int) (v3 v4 : Option V), σ' = [some (.ref q), some (.ref L), some (.int ((k1 : Int) + 1)), v3, v4, none, none, none] ∧ Coming P0 row (k1 + 1) ∧ k1 + 1 ≤ row.length ∧ H' = upd H L (.lst (row.map V.int)), fun σ' H' ⟨row', v3, v4, w1, w2, w3, w4⟩ => ⟨68 - (k1 + 1), by omega, k1 + 1, row', v3, v4, rfl, w1, w2, w3, w4⟩, ?_⟩
      have hx : row[k1]? = some row[k1] := List.getElem?_eq_getElem c
      generalize row[k1] = x at hx
      have hl := C1.hl x (List.mem_of_getElem? hx)
      obtain ⟨b, hb⟩ := hl.alive W
      obtain ⟨x0, x1⟩ := ok.al x (by rw [R.ks]; exact get_keys.mp ⟨b, hb⟩)
      have xl : x.toNat < ra.length := by rw [O.rm.len]; omega
      have hrq : ra[x.toNat]? = some ra[x.toNat] := List.getElem?_eq_getElem xl
      generalize ra[x.toNat] = rq at hrq
      have hrH := O.rm.room hrq
      have es := slots_room R.own hb
      rw [← es] at hrH
      have hxV : (row.map V.int)[k1]? = some (V.int x) := by rw [List.getElem?_map, hx]; rfl
      refine ⟨_, rfl, q, _, rfl, (OL row).dr, _, rfl, _, rfl, L, _, _, _, rfl, rfl, SqL.of upd_same, at_of (j := k1) rfl hxV, lr, _, _, _, rfl, rfl, SqL.of (OL row).rm.r, at_of (j := x.toNat) (by omega) (by rw [List.getElem?_map, hrq]; rfl), ?_⟩
      refine ⟨_, rfl, _, _, rfl, rfl, ?_⟩
      refine ⟨_, rfl, rq, rfl, ⟨_, SqL.of (offL hrH)⟩, ?_⟩
      refine for_list (K := K) (a := rq) (xs := lV b.slots) (fun i σ H' => ∃ (row : List Int) (v4 : Option V), σ = [some (.ref q), some (.ref L), some (.int ((k1 : Int) + 1)), some (.ref rq), v4, none, none, none] ∧ Coming P0 row k1 ∧ row[k1]? = some x ∧ (∀ m, some m ∈ b.slots.take i → m ∈ row) ∧ H' = upd H L (.lst (row.map V.int)))
        ⟨row, v4, rfl, C1, hx, fun m hm => (by cases hm), rfl⟩ (fun i σ H' _ ⟨_, _, _, _, _, _, e⟩ => by rw [e]; exact SqL.of (offL hrH)) ?_ ?_
      · clear C1 hk1 c h68 hx hxV v4
        rintro i y σ H' hi ⟨row, v4, rfl, C1, hx, hin, rfl⟩
        obtain ⟨o, ho, rfl⟩ := lV_at hi
        have ck : k1 < row.length := (List.getElem?_eq_some_iff.mp hx).1
        have h68 := C1.le W
        refine ⟨fun σ' H' => ∃ (row : List Int), σ' = [some (.ref q), some (.ref L), some (.int ((k1 : Int) + 1)), some (.ref rq), some (oV o), none, none, none] ∧ Coming P0 row k1 ∧ row[k1]? = some x ∧ (∀ m, some m ∈ b.slots.take (i + 1) → m ∈ row) ∧ H' = upd H L (.lst (row.map V.int)), ?_, fun σ' H' ⟨row, w1, w2, w3, w4, w5⟩ => ⟨row, _, w1, w2, w3, w4, w5⟩⟩
        have stay : (∀ m, o = some m → m ∈ row) → ∃ (row' : List Int), ([some (.ref q), some (.ref L), some (.int ((k1 : Int) + 1)), some (.ref rq), some (oV o), none, none, none] : St) = [some (.ref q), some (.ref L), some (.int ((k1 : Int) + 1)), some (.ref rq), some (oV o), none, none, none] ∧ Coming P0 row' k1 ∧ row'[k1]? = some x ∧ (∀ m, some m ∈ b.slots.take (i + 1) → m ∈ row') ∧ upd H L (.lst (row.map V.int)) = upd H L (.lst (row'.map V.int)) := fun h => by
          refine ⟨row, rfl, C1, hx, fun m hm => ?_, rfl⟩
          rw [take_get' ho] at hm
          rcases List.mem_append.mp hm with z | z
          · exact hin m z
          · exact h m (List.mem_singleton.mp z).symm
        cases o with
        | none =>
          refine ⟨_, rfl, _, rfl, ?_⟩
          refine iteF ?_
          exact stay (fun m z => by cases z)
        | some y =>
          refine ⟨_, rfl, _, rfl, ?_⟩
          refine iteT ?_
          refine ⟨_, rfl, _, rfl, L, _, rfl, .inl (SqL.of upd_same), rfl, flat_ints _, _, rfl, ?_⟩
          by_cases c1 : y ∈ row
          · refine if_neg_of (show (!inV (V.int y) (row.map V.int)) = false by rw [inV_ints, decide_eq_true c1]; rfl) ?_
            exact stay (fun m z => by rw [← Option.some.inj z]; exact c1)
          refine if_pos_of (show (!inV (V.int y) (row.map V.int)) = true by rw [inV_ints, decide_eq_false c1]; rfl) ?_
          refine ⟨_, rfl, .inl ⟨rfl, _, SqL.of upd_same⟩, _, rfl, L, _, _, rfl, rfl, upd_same, by rw [List.length_map, sizeLine_eq]; omega, ?_⟩
          have hy : HL P0 y := hl.next ⟨b, hb, List.mem_of_getElem? ho⟩
          refine ⟨row ++ [y], rfl, C1.more hy c1 (by omega), by rw [List.getElem?_append_left ck]; exact hx, fun m hm => ?_, by rw [upd_upd, List.map_append]; rfl⟩
          rw [take_get' ho] at hm
          rcases List.mem_append.mp hm with z | z
          · exact List.mem_append_left _ (hin m z)
          · rw [Option.some.inj (List.mem_singleton.mp z)]
            exact List.mem_append_right _ List.mem_cons_self
      · rintro σ H' ⟨row, v4, rfl, C1, hx, hin, rfl⟩
        rw [lV_len, List.take_length] at hin
        have ck : k1 < row.length := (List.getElem?_eq_some_iff.mp hx).1
        exact ⟨row, _, _, rfl, C1.next hx hb hin, by omega, rfl⟩
    · refine if_neg_of (decide_eq_false (by omega)) ?_
      have hrow := C1.all (by omega)
      obtain ⟨eD, RD⟩ := R.tidied G (row := row) fun n _ => hrow n
      have lal : al.length ≤ 60 := by rw [R.ks]; rw [show (keys P0.boxes).length = P0.boxes.length from List.length_map _]; exact few
      have lfl : ∀ (f : Int → Bool) i, ((al.take i).filter f).length < 1000 := fun f i => by
        have h1 := List.length_filter_le f (al.take i)
        rw [List.length_take] at h1
        omega
      have kL : upd H L (.lst (row.map V.int)) L = some (.lst (row.map V.int)) := upd_same
      have O1 := OL row
      have eq1 := offL (row := row) eq
      have s1 : Same H (upd H L (.lst (row.map V.int))) := same_upd hL
      generalize upd H L (.lst (row.map V.int)) = H1 at kL O1 eq1 s1 ⊢
      -- what goes
      refine ⟨_, rfl, q, _, rfl, O1.da, la, rfl, ⟨_, SqL.of O1.a⟩, fun r hr1 => lc_list (K := K) (a := la) (xs := al.map V.int) (fun i H' => H' = upd H1 r (.lst (((al.take i).filter fun n => decide (n ∉ row)).map V.int))) rfl (fun i H' _ e => ?_) (fun i y H' hi e => ?_) (fun H2 e2 => ?_)⟩
      · rw [e]
        exact SqL.of (by rw [upd_ne (ne_of_none O1.a hr1)]; exact O1.a)
      · obtain ⟨n, hn, rfl⟩ := ints_at hi
        rw [e]
        refine ⟨rfl, _, rfl, _, rfl, L, _, rfl, .inl (SqL.of (by rw [upd_ne (ne_of_none kL hr1)]; exact kL)), rfl, flat_ints _, _, rfl, ?_⟩
        rw [filt_snoc hn]
        by_cases c1 : n ∈ row
        · refine if_neg_of (show (!inV (V.int n) (row.map V.int)) = false by rw [inV_ints, decide_eq_true c1]; rfl) ?_
          rw [if_neg (by rw [decide_eq_false (fun z => z c1)]; exact Bool.false_ne_true), List.append_nil]
        · refine if_pos_of (show (!inV (V.int n) (row.map V.int)) = true by rw [inV_ints, decide_eq_false c1]; rfl) ?_
          refine ⟨_, rfl, _, upd_same, by rw [List.length_map, sizeLine_eq]; have := lfl (fun n => decide (n ∉ row)) i; omega, ?_⟩
          rw [if_pos (decide_eq_true c1), upd_upd, List.map_append]
          rfl
      rw [List.length_map, List.take_length, ← eD] at e2
      have nrH : H r = none := s1.free hr1
      have D2 : OwnD H2 q lh lr la ld lk tv wv hs rs al d ra := by rw [e2]; exact (OwnD.mk eq1 O1).same (same_upd hr1)
      have k2r : H2 r = some (.lst ((deadF P0).map V.int)) := by rw [e2]; exact upd_same
      have k2L : H2 L = some (.lst (row.map V.int)) := by rw [e2]; exact (same_upd hr1) _ _ kL
      have s2 : Same H H2 := by rw [e2]; exact s1.trans (same_upd hr1)
      clear e2 O1 eq1 s1 hr1 kL H1
      have few7 : (pileD lh lr la ld lk tv wv).length < sizeLine := by show 7 < sizeLine; decide
      -- no doubts
      refine ⟨(by show 0 ≤ sizeLine; decide), fun ld' hld => ⟨_, rfl, q, _, rfl, DPut.k (k := Sum.inr "doubts") ((same_upd hld) _ _ D2.e) few7, ?_⟩⟩
      have nld := D2.o.fresh hld
      have D3 := (D2.same (same_upd (o := .lst []) hld)).doubts (d' := []) upd_same ⟨nld.1, nld.2.1, nld.2.2.1, nld.2.2.2.1⟩
      have sq3 : ∀ b o, b ≠ q → H2 b = some o → upd (upd H2 ld' (.lst [])) q (.dK (putK (pileD lh lr la ld lk tv wv) (Sum.inr "doubts" : Key) (.ref ld'))) b = some o := fun b o n e => by rw [upd_ne n, upd_ne (ne_of_none e hld)]; exact e
      generalize upd (upd H2 ld' (.lst [])) q (.dK (putK (pileD lh lr la ld lk tv wv) (Sum.inr "doubts" : Key) (.ref ld'))) = H3 at D3 sq3 ⊢
      have k3r := sq3 _ _ (D2.neq k2r) k2r
      have k3L := sq3 _ _ (D2.neq k2L) k2L
      -- the alive
      refine ⟨_, rfl, q, _, rfl, D3.o.da, la, rfl, ⟨_, SqL.of D3.o.a⟩, fun la' hla => lc_list (K := K) (a := la) (xs := al.map V.int) (fun i H' => H' = upd H3 la' (.lst (((al.take i).filter fun n => decide (n ∈ row)).map V.int))) rfl (fun i H' _ e => ?_) (fun i y H' hi e => ?_) (fun H4 e4 => ?_)⟩
      · rw [e]
        exact SqL.of (by rw [upd_ne (ne_of_none D3.o.a hla)]; exact D3.o.a)
      · obtain ⟨n, hn, rfl⟩ := ints_at hi
        rw [e]
        refine ⟨rfl, _, rfl, _, rfl, L, _, rfl, .inl (SqL.of (by rw [upd_ne (ne_of_none k3L hla)]; exact k3L)), rfl, flat_ints _, _, rfl, ?_⟩
        rw [filt_snoc hn]
        by_cases c1 : n ∈ row
        · refine if_pos_of (show (inV (V.int n) (row.map V.int)) = true by rw [inV_ints, decide_eq_true c1]) ?_
          refine ⟨_, rfl, _, upd_same, by rw [List.length_map, sizeLine_eq]; have := lfl (fun n => decide (n ∈ row)) i; omega, ?_⟩
          rw [if_pos (decide_eq_true c1), upd_upd, List.map_append]
          rfl
        · refine if_neg_of (show (inV (V.int n) (row.map V.int)) = false by rw [inV_ints, decide_eq_false c1]) ?_
          rw [if_neg (by rw [decide_eq_false c1]; exact Bool.false_ne_true), List.append_nil]
      rw [List.length_map, List.take_length] at e4
      have nlaH3 := D3.o.fresh hla
      have nlaH : H la' = none := by
        cases e : H la' with
        | none => rfl
        | some x =>
          have nq : la' ≠ q := fun z => by rw [z, D3.e] at hla; cases hla
          rw [sq3 _ _ nq (s2 _ _ e)] at hla; cases hla
      have nldH : H ld' = none := by
        cases e : H ld' with
        | none => rfl
        | some x => rw [s2 _ _ e] at hld; cases hld
      have D4 : OwnD H4 q lh lr la ld' lk tv wv hs rs al [] ra := by rw [e4]; exact D3.same (same_upd hla)
      have k4a : H4 la' = some (.lst ((al.filter fun n => decide (n ∈ row)).map V.int)) := by rw [e4]; exact upd_same
      have s34 : Same H3 H4 := by rw [e4]; exact same_upd hla
      refine ⟨_, rfl, q, _, rfl, DPut.k (k := Sum.inr "alive") D4.e few7, ?_⟩
      have D5 := D4.alive k4a ⟨nlaH3.1, nlaH3.2.1, nlaH3.2.2.1⟩ nlaH3.2.2.2.2.symm
      refine ⟨_, rfl, ?_⟩
      refine k r la' ld' _ _ nrH (fun z => by rw [z, hla] at k3r; cases k3r) (fun z => by rw [z, hld] at k2r; cases k2r) nlaH nldH (by rw [upd_ne (D4.neq (s34 _ _ k3r))]; exact s34 _ _ k3r) RD D5 fun b o n e => ?_
      rw [upd_ne n]
      exact s34 _ _ (sq3 _ _ n (s2 _ _ e))
/-! ### what is wrong with a deed, by the law's own pile -/
def Deed.dh1 : Deed → List Int
  | .make h _ => [h]
  | .hold h _ => [h]
  | .drop h => [h]
  | .put h _ _ => [h]
  | .empty h _ => [h]
  | .take h _ _ => [h]
  | .tidy => []
def Deed.dh2 : Deed → List Int
  | .hold h o => [h, o]
  | .take h o _ => [h, o]
  | d => d.dh1
def Deed.dh3 : Deed → List Int
  | .put h _ o => [h, o]
  | d => d.dh2
def Deed.wd : Deed → Str
  | .make _ _ => "make"
  | .hold _ _ => "hold"
  | .drop _ => "drop"
  | .put _ _ _ => "put"
  | .empty _ _ => "empty"
  | .take _ _ _ => "take"
  | .tidy => "tidy"
theorem vs0 (d : Deed) : d.vs[0]? = some (.str d.wd) := by
  cases d <;> rfl
theorem dh_cut (d : Deed) : cutV d.vs (some 1) (some 2) = d.dh1.map V.int := by
  cases d <;> rfl
theorem dh_len (d : Deed) : d.dh1.length ≤ 1 ∧ d.dh2.length ≤ 2 ∧ d.dh3.length ≤ 2 := by
  cases d <;> simp [Deed.dh1, Deed.dh2, Deed.dh3]
/-- a hand out of the eight makes 'no hand', whatever else -/
theorem dh_hand {hs : List (Option Int)} {rs : List (List (Option Int))} {al : List Int} {d : Deed} {few y : Int} (hz : d.InZ few y) :
    ((∃ h ∈ d.dh3, 7 < h) ∧ wrongP hs rs al d = "no hand") ∨ ((∀ h ∈ d.dh3, 0 ≤ h ∧ h < 8) ∧ True) := by
  have one : ∀ {h : Int} {s : Str}, 7 < h → wrongH h s = "no hand" := fun c => if_neg (by omega)
  have two : ∀ {h : Int} {s : Str}, h < 8 → wrongH h s = s := fun c => if_pos c
  cases d with
  | tidy => exact .inr ⟨fun h z => (by cases z), trivial⟩
  | make h z =>
    obtain ⟨⟨h0, _⟩, _⟩ := hz
    by_cases c : 7 < h
    · exact .inl ⟨⟨h, List.mem_cons_self, c⟩, one c⟩
    · exact .inr ⟨fun x hx => by rw [List.mem_singleton.mp hx]; omega, trivial⟩
  | drop h =>
    obtain ⟨h0, _⟩ := hz
    by_cases c : 7 < h
    · exact .inl ⟨⟨h, List.mem_cons_self, c⟩, one c⟩
    · exact .inr ⟨fun x hx => by rw [List.mem_singleton.mp hx]; omega, trivial⟩
  | empty h z =>
    obtain ⟨⟨h0, _⟩, _⟩ := hz
    by_cases c : 7 < h
    · exact .inl ⟨⟨h, List.mem_cons_self, c⟩, one c⟩
    · exact .inr ⟨fun x hx => by rw [List.mem_singleton.mp hx]; omega, trivial⟩
  | hold h p =>
    obtain ⟨⟨h0, _⟩, p0, _⟩ := hz
    by_cases c : 7 < h
    · exact .inl ⟨⟨h, List.mem_cons_self, c⟩, one c⟩
    by_cases c2 : 7 < p
    · exact .inl ⟨⟨p, List.mem_cons_of_mem _ List.mem_cons_self, c2⟩, (two (by omega)).trans (one c2)⟩
    · refine .inr ⟨fun x hx => ?_, trivial⟩
      rcases List.mem_cons.mp hx with z | z
      · rw [z]; omega
      · rw [List.mem_singleton.mp z]; omega
  | put h z p =>
    obtain ⟨⟨h0, _⟩, _, p0, _⟩ := hz
    by_cases c : 7 < h
    · exact .inl ⟨⟨h, List.mem_cons_self, c⟩, one c⟩
    by_cases c2 : 7 < p
    · exact .inl ⟨⟨p, List.mem_cons_of_mem _ List.mem_cons_self, c2⟩, (two (by omega)).trans (one c2)⟩
    · refine .inr ⟨fun x hx => ?_, trivial⟩
      rcases List.mem_cons.mp hx with z | z
      · rw [z]; omega
      · rw [List.mem_singleton.mp z]; omega
  | take h p z =>
    obtain ⟨⟨h0, _⟩, ⟨p0, _⟩, _⟩ := hz
    by_cases c : 7 < h
    · exact .inl ⟨⟨h, List.mem_cons_self, c⟩, one c⟩
    by_cases c2 : 7 < p
    · exact .inl ⟨⟨p, List.mem_cons_of_mem _ List.mem_cons_self, c2⟩, (two (by omega)).trans (one c2)⟩
    · refine .inr ⟨fun x hx => ?_, trivial⟩
      rcases List.mem_cons.mp hx with z | z
      · rw [z]; omega
      · rw [List.mem_singleton.mp z]; omega
def spWrong : Sp := fun vs H Q _ => ∃ (q t lh lr la ld : Addr) (hs : List (Option Int)) (rs : List (List (Option Int))) (al d : List Int) (ra : List Addr) (x : Deed) (few y : Int), vs = [.ref q, .ref t] ∧ OwnIn H q lh lr la ld hs rs al d ra ∧ H t = some (.tup x.vs) ∧ x.InZ few y ∧ hs.length = 8 ∧ (∀ n, some n ∈ hs → 0 ≤ n ∧ n < (rs.length : Int)) ∧
  ∀ H', Same H H' → Q (.str (wrongP hs rs al x)) H'
theorem scWrong : FnScope nWrong ["_law_pile", "_law_deed"] (defScope sWrong) := ⟨rfl, rfl, rfl, by decide +kernel, rfl, by decide +kernel, by decide +kernel⟩
theorem ok_wrong {f : Addr} {fd : FuncData} (F : Fun K "_law_wrong" "_law_wrong" sWrong f fd) (TL : TxtL mg) : FnOk P w K mg base CX0 1 f fd ["_law_pile", "_law_deed"] spWrong := by
  refine F.ok scWrong (fun vs H Q E h => ?_) (fun cdv A outer s H vs Q E hr h => ?_)
  · obtain ⟨q, t, lh, lr, la, ld, hs, rs, al, d, ra, x, few, y, rfl, _⟩ := h
    rfl
  · obtain ⟨q, t, lh, lr, la, ld, hs, rs, al, d, ra, x, few, y, rfl, O, ht, hz, h8, hin, k⟩ := h
    have nd := scWrong.nd
    have hu := hu_of hr
    have hT := SqT.of (K := K) ht
    have seq : ∀ {z z' : Str}, z = z' → decide (V.str z = V.str z') = true := fun e => decide_eq_true (by rw [e])
    have sne : ∀ {z z' : Str}, z ≠ z' → decide (V.str z = V.str z') = false := fun e => decide_eq_false (by intro q; injection q with q; exact e q)
    refine ⟨_, (pss_cons (ps_set (i := 2) nd rfl (Or.inl rfl) (pe_callTy call_list_of (by rfl) TL.list (by decide +kernel) (pa_cons (pe_slice sl_tup (pv 1) (po_some pe_int) (po_some pe_int)) pa_nil)))
      (pss_cons (ps_mid (ps_if (pt_cmpR op_in_seq (pe_ix ix_tup (pv 1) pe_int (fun _ _ => rfl)) (pe_lst (pa_cons pe_str (pa_cons pe_str pa_nil))) (by rfl)) (pss_one (ps_expr (pe_bm PySem.F.plainAttrs_list PySem.F.slot_list_append PySem.F.type_list_append mt_append (pv 2) (pa_cons (pe_ix ix_tup (pv 1) pe_int (fun _ _ => rfl)) pa_nil)))) pss_nil))
      (pss_cons (ps_mid (ps_if (pt_cmpR op_eq (pe_ix ix_tup (pv 1) pe_int (fun _ _ => rfl)) pe_str (nomark _)) (pss_one (ps_expr (pe_bm PySem.F.plainAttrs_list PySem.F.slot_list_append PySem.F.type_list_append mt_append (pv 2) (pa_cons (pe_ix ix_tup (pv 1) pe_int (fun _ _ => rfl)) pa_nil)))) pss_nil))
      (pss_cons (ps_if (pt_truth (pe_lc (own := [("_law_hand", 5)]) (g := gName 5) (tt := tTest (tOp (rI0 fun i j => .bl (decide (j < i))) (tVar 5) (tC (.int 7)))) (te := tC (.int 1)) (by rfl) nd (pi_list (pv 2)) (blkOk_by (N := nWrong) (sc := defScope sWrong) (by decide +kernel)) (fun _ _ _ _ _ => pg_name (i := 5) nd rfl (Or.inl rfl)) (fun _ _ _ _ _ => pts_one (pt_cmpR op_gt (pv 5) pe_int (nomark _))) (fun _ _ _ _ _ => pe_int)) (by intro _; rfl)) (pss_one (ps_ret pe_str)) pss_nil)
      (pss_cons (ps_if (pt_cmpR op_eq (pe_ix ix_tup (pv 1) pe_int (fun _ _ => rfl)) pe_str (nomark _)) (pss_cons (ps_if (pt_cmpR op_gt (pe_ix ix_tup (pv 1) pe_int (fun _ _ => rfl)) pe_int (nomark _)) (pss_one (ps_ret pe_str)) pss_nil)
      (pss_one (ps_ret (pe_ix ix_list (pe_lst (pa_cons pe_str (pa_cons pe_str pa_nil))) (pe_callTy call_int1 (by rfl) TL.int (by decide +kernel) (pa_cons (pe_cmpR op_gt (pe_callB call_len_seq (by rfl) TL.len PySem.boot_len (pa_cons (pe_dget hu (pv 0) pe_str (fun _ _ => rfl)) pa_nil)) pe_int (nomark _)) pa_nil)) (fun _ _ => rfl))))) pss_nil)
      (pss_cons (ps_if (pt_cmpR op_in_seq (pe_ix ix_tup (pv 1) pe_int (fun _ _ => rfl)) (pe_lst (pa_cons pe_str (pa_cons pe_str (pa_cons pe_str pa_nil)))) (by rfl)) (pss_cons (ps_set (i := 3) nd rfl (Or.inl rfl) (pe_ix ix_list (pe_dget hu (pv 0) pe_str (fun _ _ => rfl)) (pe_ix ix_list (pv 2) (pe_callTy call_int1 (by rfl) TL.int (by decide +kernel) (pa_cons (pe_cmpR op_eq (pe_ix ix_tup (pv 1) pe_int (fun _ _ => rfl)) pe_str (nomark _)) pa_nil)) (fun _ _ => rfl)) (fun _ _ => rfl)))
      (pss_cons (ps_if (pt_cmp (pc_isN (pv 3))) (pss_one (ps_ret pe_str)) pss_nil)
      (pss_cons (ps_set (i := 4) nd rfl (Or.inl rfl) (pe_ix ix_tup (pv 1) (pe_op op_add pe_int (pe_callTy call_int1 (by rfl) TL.int (by decide +kernel) (pa_cons (pe_cmpR op_eq (pe_ix ix_tup (pv 1) pe_int (fun _ _ => rfl)) pe_str (nomark _)) pa_nil))) (fun _ _ => rfl)))
      (pss_one (ps_if (pt_cmpR op_ge (pv 4) (pe_callB call_len_seq (by rfl) TL.len PySem.boot_len (pa_cons (pe_ix ix_list (pe_dget hu (pv 0) pe_str (fun _ _ => rfl)) (pv 3) (fun _ _ => rfl)) pa_nil)) (nomark _)) (pss_one (ps_ret pe_str)) pss_nil))))) pss_nil)
      (pss_one (ps_ret pe_str)))))))), ?_⟩
    refine ⟨_, rfl, _, rfl, _, rfl, t, _, rfl, hT, ?_, fun u hu1 => ?_⟩
    · cases x <;> exact fun z => absurd z.1 (by show ¬ ((1 : Nat) = 0); decide)
    rw [dh_cut]
    refine ⟨u, _, rfl, .inr (SqT.of upd_same), fun L hL => ?_⟩
    have s1 := (same_upd (o := .tup (x.dh1.map V.int)) hu1).trans (same_upd (o := .lst (x.dh1.map V.int)) hL)
    have k1 : upd (upd H u (.tup (x.dh1.map V.int))) L (.lst (x.dh1.map V.int)) L = some (.lst (x.dh1.map V.int)) := upd_same
    have nL : H L = none := (same_upd hu1).free hL
    generalize upd (upd H u (.tup (x.dh1.map V.int))) L (.lst (x.dh1.map V.int)) = H1 at s1 k1 ⊢
    clear hu1 hL
    have push : ∀ {H1 : Hp} {l : List Int} {n : Int}, Same H H1 → Same H (upd H1 L (.lst (l.map V.int ++ [V.int n]))) := fun s => same_off s nL _
    have wd : ∀ {H1 : Hp}, Same H H1 → SqT K H1 t x.vs := fun s => SqT.of (s _ _ ht)
    -- hold and take
    refine ⟨fun σ' H' => σ' = [some (.ref q), some (.ref t), some (.ref L), none, none, none] ∧ Same H H' ∧ H' L = some (.lst (x.dh2.map V.int)), ?_, ?_⟩
    · refine ⟨_, rfl, t, _, _, _, rfl, rfl, wd s1, at_of (j := 0) rfl (vs0 x), (by show 2 ≤ sizeLine; decide), fun l hl => ⟨l, _, rfl, .inl (SqL.of upd_same), rfl, rfl, _, rfl, ?_⟩⟩
      have s2 := s1.trans (same_upd (o := .lst [.str "hold", .str "take"]) hl)
      have k2 := (same_upd (o := .lst [.str "hold", .str "take"]) hl) _ _ k1
      cases x with
      | hold h p =>
        refine if_pos_of (by dsimp only [Deed.wd]; decide +kernel) ?_
        exact ⟨_, rfl, .inl ⟨rfl, _, SqL.of k2⟩, _, rfl, t, _, _, _, rfl, rfl, wd s2, at_of (j := 2) rfl rfl, L, _, _, rfl, rfl, k2, (by show 1 < sizeLine; decide), rfl, push (l := [h]) s2, upd_same⟩
      | take h p z =>
        refine if_pos_of (by dsimp only [Deed.wd]; decide +kernel) ?_
        exact ⟨_, rfl, .inl ⟨rfl, _, SqL.of k2⟩, _, rfl, t, _, _, _, rfl, rfl, wd s2, at_of (j := 2) rfl rfl, L, _, _, rfl, rfl, k2, (by show 1 < sizeLine; decide), rfl, push (l := [h]) s2, upd_same⟩
      | _ =>
        refine if_neg_of (by dsimp only [Deed.wd]; decide +kernel) ?_
        exact ⟨rfl, s2, k2⟩
    clear s1 k1 H1
    rintro σ' H1 ⟨rfl, s1, k1⟩
    -- put
    refine ⟨fun σ' H' => σ' = [some (.ref q), some (.ref t), some (.ref L), none, none, none] ∧ Same H H' ∧ H' L = some (.lst (x.dh3.map V.int)), ?_, ?_⟩
    · refine ⟨_, rfl, t, _, _, _, rfl, rfl, wd s1, at_of (j := 0) rfl (vs0 x), ?_⟩
      cases x with
      | put h z p =>
        refine ⟨rfl, _, rfl, if_pos_of (seq rfl) ?_⟩
        exact ⟨_, rfl, .inl ⟨rfl, _, SqL.of k1⟩, _, rfl, t, _, _, _, rfl, rfl, wd s1, at_of (j := 3) rfl rfl, L, _, _, rfl, rfl, k1, (by show 1 < sizeLine; decide), rfl, push (l := [h]) s1, upd_same⟩
      | _ =>
        refine ⟨rfl, _, rfl, if_neg_of (sne (by dsimp only [Deed.wd]; decide +kernel)) ?_⟩
        exact ⟨rfl, s1, k1⟩
    clear s1 k1 H1
    rintro σ' H1 ⟨rfl, s1, k1⟩
    -- a hand out of the eight
    have l3 := (dh_len x).2.2
    refine ⟨_, rfl, L, rfl, ⟨_, SqL.of k1⟩, fun Dn hDn => lc_list (K := K) (a := L) (xs := x.dh3.map V.int) (fun i H' => H' = upd H1 Dn (.lst (List.replicate ((x.dh3.take i).filter fun h => decide (7 < h)).length (V.int 1)))) rfl (fun i H' _ e => by rw [e]; exact SqL.of ((same_upd hDn) _ _ k1)) (fun i y H' hi e => ?_) (fun H2 e2 => ?_)⟩
    · obtain ⟨n, hn, rfl⟩ := ints_at hi
      rw [e]
      refine ⟨rfl, _, rfl, _, _, rfl, rfl, _, rfl, ?_⟩
      rw [filt_snoc hn]
      by_cases c : 7 < n
      · refine if_pos_of (decide_eq_true c) ?_
        refine ⟨_, upd_same, ?_, ?_⟩
        · rw [List.length_replicate, sizeLine_eq]
          have h1 := List.length_filter_le (fun h : Int => decide (7 < h)) (x.dh3.take i)
          rw [List.length_take] at h1
          omega
        · rw [if_pos (decide_eq_true c), upd_upd, List.length_append]
          show _ = upd H1 Dn (.lst (List.replicate (_ + 1) _))
          rw [List.replicate_succ']
      · refine if_neg_of (decide_eq_false c) ?_
        rw [if_neg (by rw [decide_eq_false c]; exact Bool.false_ne_true), List.append_nil]
    rw [List.length_map, List.take_length] at e2
    have s2 : Same H H2 := by rw [e2]; exact s1.trans (same_upd hDn)
    have k2 : H2 L = some (.lst (x.dh3.map V.int)) := by rw [e2]; exact (same_upd hDn) _ _ k1
    have kD : H2 Dn = some (.lst (List.replicate (x.dh3.filter fun h => decide (7 < h)).length (V.int 1))) := by rw [e2]; exact upd_same
    clear e2 hDn k1 s1 H1
    refine ⟨_, .inl ⟨_, SqL.of kD, rfl⟩, ?_⟩
    rcases dh_hand (hs := hs) (rs := rs) (al := al) hz with ⟨⟨h, h1, h2⟩, hw⟩ | ⟨hok, -⟩
    · have k := k H2 s2
      rw [hw] at k
      refine if_pos_of ?_ k
      have : 0 < (x.dh3.filter fun h => decide (7 < h)).length := List.length_pos_of_mem (List.mem_filter.mpr ⟨h1, decide_eq_true h2⟩)
      generalize (x.dh3.filter fun h => decide (7 < h)).length = n at this
      cases n with
      | zero => omega
      | succ n => rfl
    have e0 : x.dh3.filter (fun h => decide (7 < h)) = [] := List.filter_eq_nil_iff.mpr fun h hh z => by have := (hok h hh).2; have := of_decide_eq_true z; omega
    rw [e0] at kD ⊢
    refine if_neg_of rfl ?_
    clear kD
    have O2 := O.same s2
    have ixh : ∀ {h : Int}, 0 ≤ h ∧ h < 8 → (lV hs)[h.toNat]? = some (oV (hs.getD h.toNat none)) := fun c => lV_get (by rw [h8]; omega)
    have nh : ∀ {h : Int}, 0 ≤ h → h = ((h.toNat : Nat) : Int) := fun c => (Int.toNat_of_nonneg c).symm
    have fin := k H2 s2
    have room : ∀ {n : Int}, (∃ h : Nat, hs.getD h none = some n) → ∃ rq, 0 ≤ n ∧ ra[n.toNat]? = some rq ∧ H2 rq = some (.lst (lV (roomOf rs n))) := fun {n} ⟨h, e⟩ => by
      obtain ⟨n0, n1⟩ := hin n (getD_mem e)
      have xl : n.toNat < ra.length := by rw [O.rm.len]; omega
      exact ⟨ra[n.toNat], n0, List.getElem?_eq_getElem xl, O2.rm.room (List.getElem?_eq_getElem xl)⟩
    refine ⟨_, rfl, t, _, _, _, rfl, rfl, wd s2, at_of (j := 0) rfl (vs0 x), rfl, _, rfl, ?_⟩
    cases x with
    | make h z =>
      refine if_pos_of (seq rfl) ?_
      have hh := hok h List.mem_cons_self
      have e1 : wrongP hs rs al (.make h z) = (if 6 < z then ("no size" : Str) else if al.length > 59 then ("full" : Str) else Str.empty) := if_pos hh.2
      rw [e1] at fin k
      refine ⟨_, rfl, t, _, _, _, rfl, rfl, wd s2, at_of (j := 2) rfl rfl, _, _, rfl, rfl, _, rfl, ?_⟩
      by_cases c : 6 < z
      · rw [if_pos c] at fin
        exact if_pos_of (decide_eq_true c) fin
      refine if_neg_of (decide_eq_false c) ?_
      rw [if_neg c] at k
      refine ⟨(by show 2 ≤ sizeLine; decide), fun l hl => ?_⟩
      have s3 := same_upd (o := .lst [.str Str.empty, .str "full"]) hl
      have O3 := O2.same s3
      refine ⟨_, rfl, q, _, rfl, O3.da, la, _, rfl, .inl (SqL.of O3.a), _, _, rfl, rfl, .inr ⟨_, rfl, ?_⟩⟩
      rw [List.length_map]
      by_cases c2 : al.length > 59
      · rw [decide_eq_true (show (59 : Int) < (al.length : Int) by omega)]
        have fin := k _ (s2.trans s3)
        rw [if_pos c2] at fin
        exact ⟨l, _, _, _, rfl, rfl, SqL.of upd_same, at_of (j := 1) rfl rfl, fin⟩
      · rw [decide_eq_false (show ¬ (59 : Int) < (al.length : Int) by omega)]
        have fin := k _ (s2.trans s3)
        rw [if_neg c2] at fin
        exact ⟨l, _, _, _, rfl, rfl, SqL.of upd_same, at_of (j := 0) rfl rfl, fin⟩
    | put h z p =>
      refine if_neg_of (sne (by dsimp only [Deed.wd]; decide +kernel)) ?_
      have e1 : wrongP hs rs al (.put h z p) = wrongB hs rs h z := (if_pos (hok h List.mem_cons_self).2).trans (if_pos (hok p (List.mem_cons_of_mem _ List.mem_cons_self)).2)
      rw [e1] at fin k
      have hh := hok h List.mem_cons_self
      have z0 : 0 ≤ z := hz.2.1.1
      refine ⟨_, rfl, t, _, _, _, rfl, rfl, wd s2, at_of (j := 0) rfl (vs0 _), (by show 3 ≤ sizeLine; decide), fun l hl => ⟨l, _, rfl, .inl (SqL.of upd_same), rfl, rfl, _, rfl, ?_⟩⟩
      refine if_pos_of (by dsimp only [Deed.wd]; decide +kernel) ?_
      have s3 := same_upd (o := .lst [.str "put", .str "empty", .str "take"]) hl
      have O3 := O2.same s3
      have k3 := s3 _ _ k2
      have fin := k _ (s2.trans s3)
      have w3 := wd (s2.trans s3)
      have rm3 : ∀ {n : Int}, (∃ h : Nat, hs.getD h none = some n) → ∃ rq, 0 ≤ n ∧ ra[n.toNat]? = some rq ∧ upd H2 l (.lst [.str "put", .str "empty", .str "take"]) rq = some (.lst (lV (roomOf rs n))) := fun hn => by
        obtain ⟨rq, a1, a2, a3⟩ := room hn
        exact ⟨rq, a1, a2, s3 _ _ a3⟩
      generalize upd H2 l (.lst [.str "put", .str "empty", .str "take"]) = H3 at O3 k3 fin w3 rm3 ⊢
      refine ⟨_, rfl, q, _, rfl, O3.dh, _, rfl, _, rfl, t, _, _, _, rfl, rfl, w3, at_of (j := 0) rfl (vs0 _), rfl, .inr ⟨_, rfl, ?_⟩⟩
      refine ⟨L, _, _, _, rfl, rfl, SqL.of k3, at_of (j := 0) (if_neg (by rw [sne (by dsimp only [Deed.wd]; decide +kernel)]; exact Bool.false_ne_true)) rfl, lh, _, _, _, rfl, rfl, SqL.of O3.rm.h, at_of (j := h.toNat) (nh hh.1) (ixh hh), ?_⟩
      unfold wrongB at fin
      cases e : hs.getD h.toNat none with
      | none =>
        rw [e] at fin
        exact ⟨_, rfl, _, rfl, iteT fin⟩
      | some n =>
        rw [e] at fin
        dsimp only at fin
        obtain ⟨rq, n0, hrq, hrr⟩ := rm3 ⟨_, e⟩
        refine ⟨_, rfl, _, rfl, iteF ?_⟩
        refine ⟨_, rfl, _, rfl, t, _, _, _, rfl, rfl, w3, at_of (j := 0) rfl (vs0 _), rfl, .inr ⟨_, rfl, ?_⟩⟩
        refine ⟨_, _, rfl, rfl, t, _, _, _, rfl, rfl, w3, at_of (j := 2) ((congrArg ((2 : Int) + ·) (if_neg (by rw [sne (by dsimp only [Deed.wd]; decide +kernel)]; exact Bool.false_ne_true))).trans rfl) rfl, ?_⟩
        refine ⟨_, rfl, _, rfl, q, _, rfl, O3.dr, _, rfl, lr, _, _, _, rfl, rfl, SqL.of O3.rm.r, at_of (j := n.toNat) (nh n0) (by rw [List.getElem?_map, hrq]; rfl), rq, _, rfl, .inl (SqL.of hrr), _, _, rfl, rfl, _, rfl, ?_⟩
        rw [lV_len]
        by_cases c : z < ((roomOf rs n).length : Int)
        · rw [if_pos c] at fin
          exact if_neg_of (decide_eq_false (by omega)) fin
        · rw [if_neg c] at fin
          exact if_pos_of (decide_eq_true (by omega)) fin
    | empty h z =>
      refine if_neg_of (sne (by dsimp only [Deed.wd]; decide +kernel)) ?_
      have e1 : wrongP hs rs al (.empty h z) = wrongB hs rs h z := if_pos (hok h List.mem_cons_self).2
      rw [e1] at fin k
      have hh := hok h List.mem_cons_self
      have z0 : 0 ≤ z := hz.2.1
      refine ⟨_, rfl, t, _, _, _, rfl, rfl, wd s2, at_of (j := 0) rfl (vs0 _), (by show 3 ≤ sizeLine; decide), fun l hl => ⟨l, _, rfl, .inl (SqL.of upd_same), rfl, rfl, _, rfl, ?_⟩⟩
      refine if_pos_of (by dsimp only [Deed.wd]; decide +kernel) ?_
      have s3 := same_upd (o := .lst [.str "put", .str "empty", .str "take"]) hl
      have O3 := O2.same s3
      have k3 := s3 _ _ k2
      have fin := k _ (s2.trans s3)
      have w3 := wd (s2.trans s3)
      have rm3 : ∀ {n : Int}, (∃ h : Nat, hs.getD h none = some n) → ∃ rq, 0 ≤ n ∧ ra[n.toNat]? = some rq ∧ upd H2 l (.lst [.str "put", .str "empty", .str "take"]) rq = some (.lst (lV (roomOf rs n))) := fun hn => by
        obtain ⟨rq, a1, a2, a3⟩ := room hn
        exact ⟨rq, a1, a2, s3 _ _ a3⟩
      generalize upd H2 l (.lst [.str "put", .str "empty", .str "take"]) = H3 at O3 k3 fin w3 rm3 ⊢
      refine ⟨_, rfl, q, _, rfl, O3.dh, _, rfl, _, rfl, t, _, _, _, rfl, rfl, w3, at_of (j := 0) rfl (vs0 _), rfl, .inr ⟨_, rfl, ?_⟩⟩
      refine ⟨L, _, _, _, rfl, rfl, SqL.of k3, at_of (j := 0) (if_neg (by rw [sne (by dsimp only [Deed.wd]; decide +kernel)]; exact Bool.false_ne_true)) rfl, lh, _, _, _, rfl, rfl, SqL.of O3.rm.h, at_of (j := h.toNat) (nh hh.1) (ixh hh), ?_⟩
      unfold wrongB at fin
      cases e : hs.getD h.toNat none with
      | none =>
        rw [e] at fin
        exact ⟨_, rfl, _, rfl, iteT fin⟩
      | some n =>
        rw [e] at fin
        dsimp only at fin
        obtain ⟨rq, n0, hrq, hrr⟩ := rm3 ⟨_, e⟩
        refine ⟨_, rfl, _, rfl, iteF ?_⟩
        refine ⟨_, rfl, _, rfl, t, _, _, _, rfl, rfl, w3, at_of (j := 0) rfl (vs0 _), rfl, .inr ⟨_, rfl, ?_⟩⟩
        refine ⟨_, _, rfl, rfl, t, _, _, _, rfl, rfl, w3, at_of (j := 2) ((congrArg ((2 : Int) + ·) (if_neg (by rw [sne (by dsimp only [Deed.wd]; decide +kernel)]; exact Bool.false_ne_true))).trans rfl) rfl, ?_⟩
        refine ⟨_, rfl, _, rfl, q, _, rfl, O3.dr, _, rfl, lr, _, _, _, rfl, rfl, SqL.of O3.rm.r, at_of (j := n.toNat) (nh n0) (by rw [List.getElem?_map, hrq]; rfl), rq, _, rfl, .inl (SqL.of hrr), _, _, rfl, rfl, _, rfl, ?_⟩
        rw [lV_len]
        by_cases c : z < ((roomOf rs n).length : Int)
        · rw [if_pos c] at fin
          exact if_neg_of (decide_eq_false (by omega)) fin
        · rw [if_neg c] at fin
          exact if_pos_of (decide_eq_true (by omega)) fin
    | take h p z =>
      refine if_neg_of (sne (by dsimp only [Deed.wd]; decide +kernel)) ?_
      have e1 : wrongP hs rs al (.take h p z) = wrongB hs rs p z := (if_pos (hok h List.mem_cons_self).2).trans (if_pos (hok p (List.mem_cons_of_mem _ List.mem_cons_self)).2)
      rw [e1] at fin k
      have hh := hok p (List.mem_cons_of_mem _ List.mem_cons_self)
      have z0 : 0 ≤ z := hz.2.2.1
      refine ⟨_, rfl, t, _, _, _, rfl, rfl, wd s2, at_of (j := 0) rfl (vs0 _), (by show 3 ≤ sizeLine; decide), fun l hl => ⟨l, _, rfl, .inl (SqL.of upd_same), rfl, rfl, _, rfl, ?_⟩⟩
      refine if_pos_of (by dsimp only [Deed.wd]; decide +kernel) ?_
      have s3 := same_upd (o := .lst [.str "put", .str "empty", .str "take"]) hl
      have O3 := O2.same s3
      have k3 := s3 _ _ k2
      have fin := k _ (s2.trans s3)
      have w3 := wd (s2.trans s3)
      have rm3 : ∀ {n : Int}, (∃ h : Nat, hs.getD h none = some n) → ∃ rq, 0 ≤ n ∧ ra[n.toNat]? = some rq ∧ upd H2 l (.lst [.str "put", .str "empty", .str "take"]) rq = some (.lst (lV (roomOf rs n))) := fun hn => by
        obtain ⟨rq, a1, a2, a3⟩ := room hn
        exact ⟨rq, a1, a2, s3 _ _ a3⟩
      generalize upd H2 l (.lst [.str "put", .str "empty", .str "take"]) = H3 at O3 k3 fin w3 rm3 ⊢
      refine ⟨_, rfl, q, _, rfl, O3.dh, _, rfl, _, rfl, t, _, _, _, rfl, rfl, w3, at_of (j := 0) rfl (vs0 _), rfl, .inr ⟨_, rfl, ?_⟩⟩
      refine ⟨L, _, _, _, rfl, rfl, SqL.of k3, at_of (j := 1) (if_pos (seq rfl)) rfl, lh, _, _, _, rfl, rfl, SqL.of O3.rm.h, at_of (j := p.toNat) (nh hh.1) (ixh hh), ?_⟩
      unfold wrongB at fin
      cases e : hs.getD p.toNat none with
      | none =>
        rw [e] at fin
        exact ⟨_, rfl, _, rfl, iteT fin⟩
      | some n =>
        rw [e] at fin
        dsimp only at fin
        obtain ⟨rq, n0, hrq, hrr⟩ := rm3 ⟨_, e⟩
        refine ⟨_, rfl, _, rfl, iteF ?_⟩
        refine ⟨_, rfl, _, rfl, t, _, _, _, rfl, rfl, w3, at_of (j := 0) rfl (vs0 _), rfl, .inr ⟨_, rfl, ?_⟩⟩
        refine ⟨_, _, rfl, rfl, t, _, _, _, rfl, rfl, w3, at_of (j := 3) ((congrArg ((2 : Int) + ·) (if_pos (seq rfl))).trans rfl) rfl, ?_⟩
        refine ⟨_, rfl, _, rfl, q, _, rfl, O3.dr, _, rfl, lr, _, _, _, rfl, rfl, SqL.of O3.rm.r, at_of (j := n.toNat) (nh n0) (by rw [List.getElem?_map, hrq]; rfl), rq, _, rfl, .inl (SqL.of hrr), _, _, rfl, rfl, _, rfl, ?_⟩
        rw [lV_len]
        by_cases c : z < ((roomOf rs n).length : Int)
        · rw [if_pos c] at fin
          exact if_neg_of (decide_eq_false (by omega)) fin
        · rw [if_neg c] at fin
          exact if_pos_of (decide_eq_true (by omega)) fin
    | _ =>
      refine if_neg_of (sne (by dsimp only [Deed.wd]; decide +kernel)) ?_
      refine ⟨_, rfl, t, _, _, _, rfl, rfl, wd s2, at_of (j := 0) rfl (vs0 _), (by show 3 ≤ sizeLine; decide), fun l hl => ⟨l, _, rfl, .inl (SqL.of upd_same), rfl, rfl, _, rfl, ?_⟩⟩
      refine if_neg_of (by dsimp only [Deed.wd]; decide +kernel) ?_
      have fin := k _ (s2.trans (same_upd (o := .lst [.str "put", .str "empty", .str "take"]) hl))
      first
        | exact fin
        | (rw [show wrongP hs rs al (.drop _) = Str.empty from if_pos (hok _ List.mem_cons_self).2] at fin; exact fin)
        | (rw [show wrongP hs rs al (.hold _ _) = Str.empty from (if_pos (hok _ List.mem_cons_self).2).trans (if_pos (hok _ (List.mem_cons_of_mem _ List.mem_cons_self)).2)] at fin; exact fin)
/-! ### a deed upon the law's own pile -/
theorem PlainR.fit {P : Pl} {hs : List (Option Int)} {rs : List (List (Option Int))} {al d : List Int} (o : PlainR P hs rs al d) (G : Good P) (rl : ∀ r ∈ rs, r.length ≤ 6) : OwnFit hs rs al :=
  ⟨by rw [← o.own.h, G.wf.hl]; decide, rl, fun m hm => by
    rw [o.ks] at hm
    rw [← o.own.m]
    exact G.wf.lo m hm⟩
theorem upd_free {H : Hp} {a b : Addr} {o : HO} (h : upd H a o b = none) : H b = none := by
  by_cases c : b = a
  · rw [c, upd_same] at h; cases h
  · rw [upd_ne c] at h; exact h
theorem OwnD.hand {H : Hp} {q lh lr la ld lk : Addr} {tv wv : V} {hs : List (Option Int)} {rs : List (List (Option Int))} {al d : List Int} {ra : List Addr} (o : OwnD H q lh lr la ld lk tv wv hs rs al d ra) (hs' : List (Option Int)) : OwnD (upd H lh (.lst (lV hs'))) q lh lr la ld lk tv wv hs' rs al d ra :=
  have e : upd H lh (.lst (lV hs')) q = some (.dK (pileD lh lr la ld lk tv wv)) := by rw [upd_ne (o.neq o.o.rm.h).symm]; exact o.e
  ⟨e, .of e (o.o.rm.hand hs') (by rw [upd_ne o.o.na.2.1]; exact o.o.a) (by rw [upd_ne o.o.nd.2.1]; exact o.o.d) o.o.na o.o.nd⟩
theorem OwnD.slot {H : Hp} {q lh lr la ld lk : Addr} {tv wv : V} {hs : List (Option Int)} {rs : List (List (Option Int))} {al d : List Int} {ra : List Addr} (o : OwnD H q lh lr la ld lk tv wv hs rs al d ra) {i : Nat} {a : Addr} (ha : ra[i]? = some a) (row : List (Option Int)) : OwnD (upd H a (.lst (lV row))) q lh lr la ld lk tv wv hs (rs.set i row) al d ra :=
  have hm := List.mem_of_getElem? ha
  have e : upd H a (.lst (lV row)) q = some (.dK (pileD lh lr la ld lk tv wv)) := by rw [upd_ne (fun z => o.notq.1 (by rw [z]; exact hm))]; exact o.e
  ⟨e, .of e (o.o.rm.slot ha row) (by rw [upd_ne (fun z => o.o.na.1 (by rw [z]; exact hm))]; exact o.o.a) (by rw [upd_ne (fun z => o.o.nd.1 (by rw [z]; exact hm))]; exact o.o.d) o.o.na o.o.nd⟩
theorem OwnD.born {H : Hp} {q lh lr la ld lk : Addr} {tv wv : V} {hs : List (Option Int)} {rs : List (List (Option Int))} {al d : List Int} {ra : List Addr} (o : OwnD H q lh lr la ld lk tv wv hs rs al d ra) {a : Addr} (n : a ∉ ra ∧ a ≠ lh ∧ a ≠ lr ∧ a ≠ la ∧ a ≠ ld) {row : List (Option Int)} (ha : H a = some (.lst (lV row))) : OwnD (upd H lr (.lst (ra.map V.ref ++ [V.ref a]))) q lh lr la ld lk tv wv hs (rs ++ [row]) al d (ra ++ [a]) :=
  have e : upd H lr (.lst (ra.map V.ref ++ [V.ref a])) q = some (.dK (pileD lh lr la ld lk tv wv)) := by rw [upd_ne (o.neq o.o.rm.r).symm]; exact o.e
  ⟨e, .of e (o.o.rm.add n.1 n.2.1.symm n.2.2.1.symm ha) (by rw [upd_ne o.o.na.2.2]; exact o.o.a) (by rw [upd_ne o.o.nd.2.2.1]; exact o.o.d)
    ⟨fun z => (List.mem_append.mp z).elim o.o.na.1 (fun z => n.2.2.2.1 (List.mem_singleton.mp z).symm), o.o.na.2⟩ ⟨fun z => (List.mem_append.mp z).elim o.o.nd.1 (fun z => n.2.2.2.2 (List.mem_singleton.mp z).symm), o.o.nd.2⟩⟩
theorem OwnD.lives {H : Hp} {q lh lr la ld lk : Addr} {tv wv : V} {hs : List (Option Int)} {rs : List (List (Option Int))} {al d : List Int} {ra : List Addr} (o : OwnD H q lh lr la ld lk tv wv hs rs al d ra) (al' : List Int) : OwnD (upd H la (.lst (al'.map V.int))) q lh lr la ld lk tv wv hs rs al' d ra :=
  ⟨by rw [upd_ne (o.neq o.o.a).symm]; exact o.e, o.o.dies al'⟩
def OwnA (q lh lr la ld : Addr) (ra : List Addr) (b : Addr) : Prop := b = q ∨ b = lh ∨ b = lr ∨ b = la ∨ b = ld ∨ b ∈ ra
theorem OwnD.has {H : Hp} {q lh lr la ld lk : Addr} {tv wv : V} {hs : List (Option Int)} {rs : List (List (Option Int))} {al d : List Int} {ra : List Addr} (o : OwnD H q lh lr la ld lk tv wv hs rs al d ra) {b : Addr} (h : OwnA q lh lr la ld ra b) : H b ≠ none := by
  intro z
  rcases h with rfl | rfl | rfl | rfl | rfl | h
  · rw [o.e] at z; cases z
  · rw [o.o.rm.h] at z; cases z
  · rw [o.o.rm.r] at z; cases z
  · rw [o.o.a] at z; cases z
  · rw [o.o.d] at z; cases z
  · exact (o.o.rm.not_in z).1 h
theorem OwnD.list {H : Hp} {q lh lr la ld lk : Addr} {tv wv : V} {hs : List (Option Int)} {rs : List (List (Option Int))} {al d : List Int} {ra : List Addr} (o : OwnD H q lh lr la ld lk tv wv hs rs al d ra) {b : Addr} {xs : List V} (h : H b = some (.tup xs)) : ¬ OwnA q lh lr la ld ra b := by
  intro z
  rcases z with rfl | rfl | rfl | rfl | rfl | z
  · rw [o.e] at h; cases h
  · rw [o.o.rm.h] at h; cases h
  · rw [o.o.rm.r] at h; cases h
  · rw [o.o.a] at h; cases h
  · rw [o.o.d] at h; cases h
  · obtain ⟨j, hj⟩ := List.mem_iff_getElem?.mp z
    obtain ⟨row, _, e⟩ := paired_at o.o.rm.p j b hj
    rw [h] at e; cases e
theorem wrongH_inv {h : Int} {s : Str} (e : wrongH h s = Str.empty) : h < 8 ∧ s = Str.empty := by
  unfold wrongH at e
  by_cases c : h < 8
  · rw [if_pos c] at e; exact ⟨c, e⟩
  · rw [if_neg c] at e; exact absurd e s_e1
theorem s_e2 : ¬ (("no box" : Str) = Str.empty) := by decide +kernel
theorem s_e3 : ¬ (("no slot" : Str) = Str.empty) := by decide +kernel
theorem s_e4 : ¬ (("no size" : Str) = Str.empty) := by decide +kernel
theorem wrongB_inv {hs : List (Option Int)} {rs : List (List (Option Int))} {h s : Int} (e : wrongB hs rs h s = Str.empty) : ∃ n, hs.getD h.toNat none = some n ∧ s < ((roomOf rs n).length : Int) ∧ ownAt hs rs h = n.toNat := by
  unfold wrongB at e
  unfold ownAt
  cases q : hs.getD h.toNat none with
  | none => rw [q] at e; exact absurd e s_e2
  | some n =>
    rw [q] at e
    dsimp only at e
    by_cases c : s < ((roomOf rs n).length : Int)
    · exact ⟨n, rfl, c, rfl⟩
    · rw [if_neg c] at e; exact absurd e s_e3
theorem set_rows {rs : List (List (Option Int))} (rl : ∀ r ∈ rs, r.length ≤ 6) {i : Nat} {row : List (Option Int)} (h : row.length ≤ 6) : ∀ r ∈ rs.set i row, r.length ≤ 6 := fun r hr => by
  rcases List.mem_or_eq_of_mem_set hr with z | z
  · exact rl r z
  · rw [z]; exact h
theorem step_al (hs : List (Option Int)) (rs : List (List (Option Int))) (al : List Int) (x : Deed) : (plainStep hs rs al x).2.2.1.length ≤ al.length + 1 := by
  cases x <;> simp [plainStep]
def spOwnL : Sp := fun vs H Q _ => ∃ (q t lh lr la ld lk : Addr) (tv wv : V) (hs : List (Option Int)) (rs : List (List (Option Int))) (al d : List Int) (ra : List Addr) (P : Pl) (x : Deed) (few y : Int), vs = [.ref q, .ref t] ∧ OwnD H q lh lr la ld lk tv wv hs rs al d ra ∧ PlainR P hs rs al d ∧ Good P ∧ (∀ r ∈ rs, r.length ≤ 6) ∧ H t = some (.tup x.vs) ∧ x.InZ few y ∧ wrongP hs rs al x = Str.empty ∧ rs.length ≤ 1000 ∧ d.length ≤ 100000 ∧
  ∀ (r la' ld' : Addr) (hs' : List (Option Int)) (rs' : List (List (Option Int))) (al' d' F : List Int) (ra' : List Addr) (P' : Pl) (H' : Hp), act P x = .fine P' F → H r = none → H' r = some (.lst (F.map V.int)) → ¬ OwnA q lh lr la' ld' ra' r → PlainR P' hs' rs' al' d' → OwnD H' q lh lr la' ld' lk tv wv hs' rs' al' d' ra' → (∀ r ∈ rs', r.length ≤ 6) → rs'.length ≤ rs.length + 1 → d'.length + 6 * al'.length ≤ d.length + 6 * al.length + 7 →
    (∀ b o, ¬ OwnA q lh lr la ld ra b → H b = some o → H' b = some o) → (∀ b, OwnA q lh lr la' ld' ra' b → OwnA q lh lr la ld ra b ∨ H b = none) → Q (.ref r) H'
theorem scOwn : FnScope nOwn ["_law_pile", "_law_deed"] (defScope sOwn) := ⟨rfl, rfl, rfl, by decide +kernel, rfl, by decide +kernel, by decide +kernel⟩
theorem ok_own {f fI fM fO fR fU fE fQ fH fT fG fA fS fX fY fP fL fB fK fCS fCA fPA fRE fTR fTY fDO fRD fRN fAN fPY fW fD fN fZ5 fT1 fT2 fT3 fT4 fT5 fT6 fT7 fT8 fT9 fTA fTB_ fTC fTD : Addr} {fd dI dM dO dR dU dE dQ dH dT dG dA dS dX dY dP dL dB dK dCS dCA dPA dRE dTR dTY dDO dRD dRN dAN dPY dW dD dN dZ5 dT1 dT2 dT3 dT4 dT5 dT6 dT7 dT8 dT9 dTA dTB_ dTC dTD : FuncData} (F : Fun K "_law_own" "_law_own" sOwn f fd) (TL : TxtL mg) (D : Defs K mg C B fI fM fO fR fU fE fQ fH fT fG fA fS fX fY fP fL fB fK fCS fCA fPA fRE fTR fTY fDO fRD fRN fAN fPY fW fD fN fZ5 fT1 fT2 fT3 fT4 fT5 fT6 fT7 fT8 fT9 fTA fTB_ fTC fTD dI dM dO dR dU dE dQ dH dT dG dA dS dX dY dP dL dB dK dCS dCA dPA dRE dTR dTY dDO dRD dRN dAN dPY dW dD dN dZ5 dT1 dT2 dT3 dT4 dT5 dT6 dT7 dT8 dT9 dTA dTB_ dTC dTD) : FnOk P w K mg base CX0 3 f fd ["_law_pile", "_law_deed"] spOwnL := by
  have GT5 : FnOk P w K mg base CX0 2 fT5 dT5 ["_law_pile", "_law_old"] spFreed := ok_freed D.FT5 TL D
  have GT6 : FnOk P w K mg base CX0 1 fT6 dT6 ["_law_pile"] spTidiedL := ok_tidied D.FT6 TL
  refine F.ok scOwn (fun vs H Q E h => ?_) (fun cdv A outer s H vs Q E hr h => ?_)
  · obtain ⟨q, t, lh, lr, la, ld, lk, tv, wv, hs, rs, al, d, ra, P0, x, few, y, rfl, _⟩ := h
    rfl
  · obtain ⟨q, t, lh, lr, la, ld, lk, tv, wv, hs, rs, al, d, ra, P0, x, few, y, rfl, OD, R, G, rl, ht, hz, hw, lrs, ldl, k⟩ := h
    have nd := scOwn.nd
    have hu := hu_of hr
    have hr1 : Room 1 _ := hr.mono (by decide)
    have hr2 : Room 2 _ := hr
    have W := G.wf
    have O := OD.o
    have hT := SqT.of (K := K) ht
    have ok := R.fit G rl
    have seq : ∀ {z z' : Str}, z = z' → decide (V.str z = V.str z') = true := fun e => decide_eq_true (by rw [e])
    have sne : ∀ {z z' : Str}, z ≠ z' → decide (V.str z = V.str z') = false := fun e => decide_eq_false (by intro q; injection q with q; exact e q)
    have h8 : hs.length = 8 := by rw [← R.own.h]; exact W.hl
    have hin : ∀ n, (∃ h : Nat, hs.getD h none = some n) → 0 ≤ n ∧ n < (rs.length : Int) := fun n ⟨h, e⟩ => by
      rw [← R.own.m]
      obtain ⟨b, hb⟩ := W.hand (show P0.hands.getD h none = some n by rw [R.own.h]; exact e)
      exact W.lo n (get_keys.mp ⟨b, hb⟩)
    have room : ∀ n, (∃ h : Nat, hs.getD h none = some n) → ∃ rq, 0 ≤ n ∧ ra[n.toNat]? = some rq ∧ H rq = some (.lst (lV (roomOf rs n))) ∧ (roomOf rs n).length ≤ 6 := fun n hn => by
      obtain ⟨n0, n1⟩ := hin n hn
      have xl : n.toNat < ra.length := by rw [O.rm.len]; omega
      have lk : n.toNat < rs.length := by omega
      exact ⟨ra[n.toNat], n0, List.getElem?_eq_getElem xl, O.rm.room (List.getElem?_eq_getElem xl), rl _ (by unfold roomOf; rw [List.getD_eq_getElem?_getD, List.getElem?_eq_getElem lk]; exact List.getElem_mem lk)⟩
    have ixh : ∀ {h : Int}, 0 ≤ h ∧ h < 8 → ixN (lV hs).length h = some h.toNat := fun c => ixN_int c.1 (by rw [lV_len, h8]; exact c.2)
    have ath : ∀ {h : Int}, 0 ≤ h ∧ h < 8 → (lV hs)[h.toNat]? = some (oV (hs.getD h.toNat none)) := fun c => lV_get (by rw [h8]; omega)
    have nh : ∀ {h : Int}, 0 ≤ h → h = ((h.toNat : Nat) : Int) := fun c => (Int.toNat_of_nonneg c).symm
    refine ⟨_, (pss_cons (ps_set (i := 2) nd rfl (Or.inl rfl) (pe_dget hu (pv 0) pe_str (fun _ _ => rfl)))
      (pss_cons (ps_if (pt_cmpR op_eq (pe_ix ix_tup (pv 1) pe_int (fun _ _ => rfl)) pe_str (nomark _)) (pss_one (ps_ret (pe_call GT6 hr1 (by rfl) D.gT6 D.FT6.kp D.bT6 .nil pass0 (pa_cons (pv 0) pa_nil)))) pss_nil)
      (pss_cons (ps_if (pt_cmpR op_in_seq (pe_ix ix_tup (pv 1) pe_int (fun _ _ => rfl)) (pe_lst (pa_cons pe_str (pa_cons pe_str pa_nil))) (by rfl)) (pss_cons (ps_set (i := 3) nd rfl (Or.inl rfl) (pe_ix ix_list (pe_dget hu (pv 0) pe_str (fun _ _ => rfl)) (pe_ix ix_list (pv 2) (pe_ix ix_tup (pv 1) pe_int (fun _ _ => rfl)) (fun _ _ => rfl)) (fun _ _ => rfl)))
      (pss_cons (ps_set (i := 4) nd rfl (Or.inl rfl) (pe_ix ix_list (pv 3) (pe_ix ix_tup (pv 1) pe_int (fun _ _ => rfl)) (fun _ _ => rfl)))
      (pss_cons (ps_asg pe_non (pg_sub (pv 3) (pe_ix ix_tup (pv 1) pe_int (fun _ _ => rfl)) set_list))
      (pss_cons (ps_mid (ps_if (pt_cmpR op_eq (pe_ix ix_tup (pv 1) pe_int (fun _ _ => rfl)) pe_str (nomark _)) (pss_one (ps_asg (pe_ix ix_list (pv 2) (pe_ix ix_tup (pv 1) pe_int (fun _ _ => rfl)) (fun _ _ => rfl)) (pg_sub (pv 3) (pe_ix ix_tup (pv 1) pe_int (fun _ _ => rfl)) set_list))) pss_nil))
      (pss_one (ps_ret (pe_call GT5 hr2 (by rfl) D.gT5 D.FT5.kp D.bT5 .nil pass0 (pa_cons (pv 0) (pa_cons (pv 4) pa_nil))))))))) pss_nil)
      (pss_cons (ps_set (i := 4) nd rfl (Or.inl rfl) (pe_ix ix_list (pv 2) (pe_ix ix_tup (pv 1) pe_int (fun _ _ => rfl)) (fun _ _ => rfl)))
      (pss_cons (ps_mid (ps_if (pt_cmpR op_eq (pe_ix ix_tup (pv 1) pe_int (fun _ _ => rfl)) pe_str (nomark _)) (pss_cons (ps_expr (pe_bm PySem.F.plainAttrs_list PySem.F.slot_list_append PySem.F.type_list_append mt_append (pe_dget hu (pv 0) pe_str (fun _ _ => rfl)) (pa_cons (pe_lc (own := [("_law_slot", 5)]) (g := gName 5) (tt := tYes) (te := tC .non) (by rfl) nd (pi_range1 (by rfl) TL.range (pa_cons (pe_ix ix_tup (pv 1) pe_int (fun _ _ => rfl)) pa_nil)) (blkOk_by (N := nOwn) (sc := defScope sOwn) (by decide +kernel)) (fun _ _ _ _ _ => pg_name (i := 5) nd rfl (Or.inl rfl)) (fun _ _ _ _ _ => pts_nil) (fun _ _ _ _ _ => pe_non)) pa_nil)))
      (pss_cons (ps_expr (pe_bm PySem.F.plainAttrs_list PySem.F.slot_list_append PySem.F.type_list_append mt_append (pe_dget hu (pv 0) pe_str (fun _ _ => rfl)) (pa_cons (pe_op op_sub (pe_callB call_len_seq (by rfl) TL.len PySem.boot_len (pa_cons (pe_dget hu (pv 0) pe_str (fun _ _ => rfl)) pa_nil)) pe_int) pa_nil)))
      (pss_one (ps_asg (pe_op op_sub (pe_callB call_len_seq (by rfl) TL.len PySem.boot_len (pa_cons (pe_dget hu (pv 0) pe_str (fun _ _ => rfl)) pa_nil)) pe_int) (pg_sub (pv 2) (pe_ix ix_tup (pv 1) pe_int (fun _ _ => rfl)) set_list))))) (pss_one (ps_mid (ps_if (pt_cmpR op_eq (pe_ix ix_tup (pv 1) pe_int (fun _ _ => rfl)) pe_str (nomark _)) (pss_one (ps_asg (pe_ix ix_list (pv 2) (pe_ix ix_tup (pv 1) pe_int (fun _ _ => rfl)) (fun _ _ => rfl)) (pg_sub (pv 2) (pe_ix ix_tup (pv 1) pe_int (fun _ _ => rfl)) set_list))) (pss_one (ps_mid (ps_if (pt_cmpR op_eq (pe_ix ix_tup (pv 1) pe_int (fun _ _ => rfl)) pe_str (nomark _)) (pss_one (ps_asg (pe_ix ix_list (pe_ix ix_list (pe_dget hu (pv 0) pe_str (fun _ _ => rfl)) (pe_ix ix_list (pv 2) (pe_ix ix_tup (pv 1) pe_int (fun _ _ => rfl)) (fun _ _ => rfl)) (fun _ _ => rfl)) (pe_ix ix_tup (pv 1) pe_int (fun _ _ => rfl)) (fun _ _ => rfl)) (pg_sub (pv 2) (pe_ix ix_tup (pv 1) pe_int (fun _ _ => rfl)) set_list))) (pss_one (ps_asg pe_non (pg_sub (pv 2) (pe_ix ix_tup (pv 1) pe_int (fun _ _ => rfl)) set_list)))))))))))
      (pss_one (ps_ret (pe_call GT5 hr2 (by rfl) D.gT5 D.FT5.kp D.bT5 .nil pass0 (pa_cons (pv 0) (pa_cons (pv 4) pa_nil)))))))))), ?_⟩
    refine ⟨_, rfl, q, _, rfl, O.dh, ?_⟩
    refine ⟨_, rfl, t, _, _, _, rfl, rfl, hT, at_of (j := 0) rfl (vs0 x), rfl, _, rfl, ?_⟩
    by_cases nt : x = .tidy
    · subst nt
      refine if_pos_of (seq rfl) ?_
      refine ⟨_, rfl, q, lh, lr, la, ld, lk, tv, wv, hs, rs, al, d, ra, P0, rfl, OD, ok, R, G, fun r la' ld' al' H' hr0 n1 n2 hla hld hH R' O' fr => ?_⟩
      refine k r la' ld' hs rs al' [] (deadF P0) ra _ H' rfl hr0 hH (fun z => ?_) R' O' rl (by omega) (by have e1 := R'.ks; rw [keys_tidied, ← R.ks] at e1; have := List.length_filter_le (fun k => decide (k ∉ deadF P0)) al; rw [← e1] at this; show 0 + 6 * al'.length ≤ _; omega) (fun b o nb e => fr b o (fun z => nb (.inl z)) e) (fun b hb => ?_)
      · rcases z with z | z | z | z | z | z
        · exact OD.has (b := r) (.inl z) hr0
        · exact OD.has (b := r) (.inr (.inl z)) hr0
        · exact OD.has (b := r) (.inr (.inr (.inl z))) hr0
        · exact n1 z
        · exact n2 z
        · exact OD.has (b := r) (.inr (.inr (.inr (.inr (.inr z))))) hr0
      · rcases hb with z | z | z | z | z | z
        · exact .inl (.inl z)
        · exact .inl (.inr (.inl z))
        · exact .inl (.inr (.inr (.inl z)))
        · rw [z]; exact .inr hla
        · rw [z]; exact .inr hld
        · exact .inl (.inr (.inr (.inr (.inr (.inr z)))))
    refine if_neg_of (sne (by cases x <;> first | exact absurd rfl nt | (dsimp only [Deed.wd]; decide +kernel))) ?_
    obtain ⟨P1, Rdy, hP1⟩ : Fine P0 hs rs al d x := by
      rcases plain_act R G hz nt with ⟨e, _, e2⟩ | ⟨_, h⟩
      · rw [hw] at e2
        cases e
        · exact absurd e2.symm s_e1
        · exact absurd e2.symm s_e4
        · exact absurd e2.symm (by decide +kernel)
        · exact absurd e2.symm s_e2
        · exact absurd e2.symm s_e3
      · exact h
    have fin : ∀ (H1 : Hp) (ra1 : List Addr), OwnD H1 q lh lr la ld lk tv wv (plainStep hs rs al x).1 (plainStep hs rs al x).2.1 (plainStep hs rs al x).2.2.1 d ra1 → (∀ b o, ¬ OwnA q lh lr la ld ra b → H b = some o → H1 b = some o) → (∀ b, H1 b = none → H b = none) → (∀ b ∈ ra1, b ∈ ra ∨ H b = none) → (∀ r ∈ (plainStep hs rs al x).2.1, r.length ≤ 6) → (plainStep hs rs al x).2.1.length ≤ rs.length + 1 →
        ∀ (r : Addr) (al' d' F : List Int) (H' : Hp), H1 r = none → r ≠ la → r ≠ ld → H' r = some (.lst (F.map V.int)) → Looked P1 (plainStep hs rs al x).2.2.2 al' d' F → (∀ n ∈ al', n ∈ (plainStep hs rs al x).2.2.1) → d'.length + 6 * al'.length ≤ d.length + 6 * (plainStep hs rs al x).2.2.1.length + 1 → OwnIn H' q lh lr la ld (plainStep hs rs al x).1 (plainStep hs rs al x).2.1 al' d' ra1 → Beside la ld H1 H' → Q (.ref r) H' := fun H1 ra1 O1 fr1 free1 new1 rl1 len1 r al' d' F H' hr1 n1 n2 hH L sub dl O2 be => by
      obtain ⟨P', ha, R'⟩ := hP1 al' d' F L
      refine k r la ld _ _ al' d' F ra1 P' H' ha (free1 r hr1) hH (fun z => O1.has z hr1) R' ⟨be _ _ (O1.neq O1.o.a).symm (O1.neq O1.o.d).symm O1.e, O2⟩ rl1 len1 (by have := step_al hs rs al x; omega) (fun b o nb e => be b o (fun z => nb (.inr (.inr (.inr (.inl z))))) (fun z => nb (.inr (.inr (.inr (.inr (.inl z)))))) (fr1 b o nb e)) (fun b hb => ?_)
      rcases hb with z | z | z | z | z | z
      · exact .inl (.inl z)
      · exact .inl (.inr (.inl z))
      · exact .inl (.inr (.inr (.inl z)))
      · exact .inl (.inr (.inr (.inr (.inl z))))
      · exact .inl (.inr (.inr (.inr (.inr (.inl z)))))
      · exact (new1 b z).imp (fun z => .inr (.inr (.inr (.inr (.inr z))))) id
    refine ⟨_, rfl, t, _, _, _, rfl, rfl, hT, at_of (j := 0) rfl (vs0 x), (by show 2 ≤ sizeLine; decide), fun l hl => ⟨l, _, rfl, .inl (SqL.of upd_same), rfl, rfl, _, rfl, ?_⟩⟩
    have s1 := same_upd (o := .lst [.str "put", .str "empty"]) hl
    have D1 := OD.same s1
    have T1 := SqT.of (K := K) (s1 _ _ ht)
    have ht1 := s1 _ _ ht
    have room1 : ∀ n, (∃ h : Nat, hs.getD h none = some n) → ∃ rq, 0 ≤ n ∧ ra[n.toNat]? = some rq ∧ upd H l (.lst [.str "put", .str "empty"]) rq = some (.lst (lV (roomOf rs n))) ∧ (roomOf rs n).length ≤ 6 := fun n hn => by
      obtain ⟨rq, a1, a2, a3, a4⟩ := room n hn
      exact ⟨rq, a1, a2, s1 _ _ a3, a4⟩
    generalize upd H l (.lst [.str "put", .str "empty"]) = H1 at s1 D1 T1 ht1 room1 ⊢
    clear room hl
    have O1 := D1.o
    have fr1 : ∀ {a : Addr} {o : HO}, OwnA q lh lr la ld ra a → ∀ b u, ¬ OwnA q lh lr la ld ra b → H b = some u → upd H1 a o b = some u := fun ha b u nb e => by rw [upd_ne (fun z => nb (by rw [z]; exact ha))]; exact s1 _ _ e
    have free1 : ∀ {a : Addr} {o : HO} b, upd H1 a o b = none → H b = none := fun b h => s1.free (upd_free h)
    by_cases hxput : ∃ (h z p : Int), x = .put h z p
    · obtain ⟨h, z, p, rfl⟩ := hxput
      obtain ⟨h1, hw1⟩ := wrongH_inv hw
      obtain ⟨p1, hw2⟩ := wrongH_inv hw1
      obtain ⟨n, en, zn, ea⟩ := wrongB_inv hw2
      have z0 : 0 ≤ z := hz.2.1.1
      have hp : 0 ≤ p ∧ p < 8 := ⟨hz.2.2.1, p1⟩
      have hh : 0 ≤ h ∧ h < 8 := ⟨hz.1.1, h1⟩
      obtain ⟨rq, n0, hrq, hrr, r6⟩ := room1 n ⟨_, en⟩
      have hx : (lV hs)[h.toNat]? = some (V.int n) := by rw [ath hh, en]; rfl
      have zl : z.toNat < (roomOf rs n).length := by omega
      have ixz : ∀ row : List (Option Int), row.length = (roomOf rs n).length → ixN (lV row).length z = some z.toNat := fun row e => ixN_int z0 (by rw [lV_len, e]; exact zn)
      have est : plainStep hs rs al (.put h z p) = (hs, rs.set n.toNat ((roomOf rs n).set z.toNat (hs.getD p.toNat none)), al, (roomOf rs n).getD z.toNat none) := by
        unfold plainStep
        dsimp only
        rw [ea]
        rfl
      rw [est] at fin Rdy
      dsimp only at fin Rdy
      refine if_pos_of (by dsimp only [Deed.wd]; decide +kernel) ?_
      refine ⟨_, rfl, q, _, rfl, O1.dr, _, rfl, _, rfl, t, _, _, _, rfl, rfl, T1, at_of (j := 1) rfl rfl, lh, _, _, _, rfl, rfl, SqL.of O1.rm.h, at_of (j := h.toNat) (nh hh.1) hx, lr, _, _, _, rfl, rfl, SqL.of O1.rm.r, at_of (j := n.toNat) (nh n0) (by rw [List.getElem?_map, hrq]; rfl), ?_⟩
      refine ⟨_, rfl, _, rfl, t, _, _, _, rfl, rfl, T1, at_of (j := 2) rfl rfl, rq, _, _, _, rfl, rfl, SqL.of hrr, at_of (j := z.toNat) (nh z0) (lV_get zl), ?_⟩
      refine ⟨_, rfl, _, rfl, t, _, _, _, rfl, rfl, T1, at_of (j := 2) rfl rfl, rq, _, _, z.toNat, rfl, rfl, hrr, ixz _ rfl, ?_⟩
      rw [show V.non = oV none from rfl, lV_set]
      have ntq : t ≠ rq := ne_of ht1 hrr (by intro z; cases z)
      have T2 : SqT K (upd H1 rq (.lst (lV ((roomOf rs n).set z.toNat none)))) t (Deed.put h z p).vs := SqT.of (by rw [upd_ne ntq]; exact ht1)
      refine ⟨fun σ' H' => σ' = [some (.ref q), some (.ref t), some (.ref lh), some (.ref rq), some (oV ((roomOf rs n).getD z.toNat none)), none] ∧ H' = upd H1 rq (.lst (lV ((roomOf rs n).set z.toNat (hs.getD p.toNat none)))), ?_, ?_⟩
      · refine ⟨_, rfl, t, _, _, _, rfl, rfl, T2, at_of (j := 0) rfl (vs0 _), rfl, _, rfl, ?_⟩
        refine if_pos_of (seq rfl) ?_
        have nlq : lh ≠ rq := fun z => O1.rm.nh (by rw [z]; exact List.mem_of_getElem? hrq)
        refine ⟨_, rfl, _, rfl, t, _, _, _, rfl, rfl, T2, at_of (j := 3) rfl rfl, lh, _, _, _, rfl, rfl, SqL.of (by rw [upd_ne nlq]; exact O1.rm.h), at_of (j := p.toNat) (nh hp.1) (ath hp), _, rfl, _, rfl, t, _, _, _, rfl, rfl, T2, at_of (j := 2) rfl rfl, rq, _, _, z.toNat, rfl, rfl, upd_same, ixz _ (List.length_set ..), ?_⟩
        exact ⟨rfl, by rw [upd_upd, lV_set, List.set_set]⟩
      rintro σ' H2 ⟨rfl, rfl⟩
      have D2 := D1.slot hrq ((roomOf rs n).set z.toNat (hs.getD p.toNat none))
      have rl2 := set_rows rl (i := n.toNat) (row := (roomOf rs n).set z.toNat (hs.getD p.toNat none)) (by rw [List.length_set]; exact r6)
      have fit2 : OwnFit hs (rs.set n.toNat ((roomOf rs n).set z.toNat (hs.getD p.toNat none))) al := ⟨ok.hl, rl2, fun m hm => by rw [List.length_set]; exact ok.al m hm⟩
      have hA : OwnA q lh lr la ld ra rq := .inr (.inr (.inr (.inr (.inr (List.mem_of_getElem? hrq)))))
      exact ⟨_, rfl, _, rfl, q, lh, lr, la, ld, _, _, al, d, ra, _, P1, rfl, D2.o, fit2, Rdy, ldl, fin _ ra D2 (fr1 hA) free1 (fun b hb => .inl hb) rl2 (by rw [List.length_set]; omega)⟩
    by_cases hxempty : ∃ (h z : Int), x = .empty h z
    · obtain ⟨h, z, rfl⟩ := hxempty
      obtain ⟨h1, hw1⟩ := wrongH_inv hw
      obtain ⟨n, en, zn, ea⟩ := wrongB_inv hw1
      have z0 : 0 ≤ z := hz.2.1
      have hh : 0 ≤ h ∧ h < 8 := ⟨hz.1.1, h1⟩
      obtain ⟨rq, n0, hrq, hrr, r6⟩ := room1 n ⟨_, en⟩
      have hx : (lV hs)[h.toNat]? = some (V.int n) := by rw [ath hh, en]; rfl
      have zl : z.toNat < (roomOf rs n).length := by omega
      have ixz : ∀ row : List (Option Int), row.length = (roomOf rs n).length → ixN (lV row).length z = some z.toNat := fun row e => ixN_int z0 (by rw [lV_len, e]; exact zn)
      have est : plainStep hs rs al (.empty h z) = (hs, rs.set n.toNat ((roomOf rs n).set z.toNat (none)), al, (roomOf rs n).getD z.toNat none) := by
        unfold plainStep
        dsimp only
        rw [ea]
        rfl
      rw [est] at fin Rdy
      dsimp only at fin Rdy
      refine if_pos_of (by dsimp only [Deed.wd]; decide +kernel) ?_
      refine ⟨_, rfl, q, _, rfl, O1.dr, _, rfl, _, rfl, t, _, _, _, rfl, rfl, T1, at_of (j := 1) rfl rfl, lh, _, _, _, rfl, rfl, SqL.of O1.rm.h, at_of (j := h.toNat) (nh hh.1) hx, lr, _, _, _, rfl, rfl, SqL.of O1.rm.r, at_of (j := n.toNat) (nh n0) (by rw [List.getElem?_map, hrq]; rfl), ?_⟩
      refine ⟨_, rfl, _, rfl, t, _, _, _, rfl, rfl, T1, at_of (j := 2) rfl rfl, rq, _, _, _, rfl, rfl, SqL.of hrr, at_of (j := z.toNat) (nh z0) (lV_get zl), ?_⟩
      refine ⟨_, rfl, _, rfl, t, _, _, _, rfl, rfl, T1, at_of (j := 2) rfl rfl, rq, _, _, z.toNat, rfl, rfl, hrr, ixz _ rfl, ?_⟩
      rw [show V.non = oV none from rfl, lV_set]
      have ntq : t ≠ rq := ne_of ht1 hrr (by intro z; cases z)
      have T2 : SqT K (upd H1 rq (.lst (lV ((roomOf rs n).set z.toNat none)))) t (Deed.empty h z).vs := SqT.of (by rw [upd_ne ntq]; exact ht1)
      refine ⟨fun σ' H' => σ' = [some (.ref q), some (.ref t), some (.ref lh), some (.ref rq), some (oV ((roomOf rs n).getD z.toNat none)), none] ∧ H' = upd H1 rq (.lst (lV ((roomOf rs n).set z.toNat (none)))), ?_, ?_⟩
      · refine ⟨_, rfl, t, _, _, _, rfl, rfl, T2, at_of (j := 0) rfl (vs0 _), rfl, _, rfl, ?_⟩
        refine if_neg_of (sne (by dsimp only [Deed.wd]; decide +kernel)) ?_
        exact ⟨rfl, rfl⟩
      rintro σ' H2 ⟨rfl, rfl⟩
      have D2 := D1.slot hrq ((roomOf rs n).set z.toNat (none))
      have rl2 := set_rows rl (i := n.toNat) (row := (roomOf rs n).set z.toNat (none)) (by rw [List.length_set]; exact r6)
      have fit2 : OwnFit hs (rs.set n.toNat ((roomOf rs n).set z.toNat (none))) al := ⟨ok.hl, rl2, fun m hm => by rw [List.length_set]; exact ok.al m hm⟩
      have hA : OwnA q lh lr la ld ra rq := .inr (.inr (.inr (.inr (.inr (List.mem_of_getElem? hrq)))))
      exact ⟨_, rfl, _, rfl, q, lh, lr, la, ld, _, _, al, d, ra, _, P1, rfl, D2.o, fit2, Rdy, ldl, fin _ ra D2 (fr1 hA) free1 (fun b hb => .inl hb) rl2 (by rw [List.length_set]; omega)⟩
    refine if_neg_of (by cases x <;> first | exact absurd ⟨_, _, _, rfl⟩ hxput | exact absurd ⟨_, _, rfl⟩ hxempty | (dsimp only [Deed.wd]; decide +kernel)) ?_
    have nw : ∀ {a : Addr}, (∀ b ∈ ra, b ∈ ra ∨ H b = none) := fun b hb => .inl hb
    have hold_ : ∀ (hs1 : List (Option Int)), plainStep hs rs al x = (hs1, rs, al, (plainStep hs rs al x).2.2.2) → hs1.length = hs.length →
        ∃ ra1, OwnD (upd H1 lh (.lst (lV hs1))) q lh lr la ld lk tv wv (plainStep hs rs al x).1 (plainStep hs rs al x).2.1 (plainStep hs rs al x).2.2.1 d ra1 ∧ (∀ b o, ¬ OwnA q lh lr la ld ra b → H b = some o → upd H1 lh (.lst (lV hs1)) b = some o) ∧ (∀ b, upd H1 lh (.lst (lV hs1)) b = none → H b = none) ∧ (∀ b ∈ ra1, b ∈ ra ∨ H b = none) ∧ (∀ r ∈ (plainStep hs rs al x).2.1, r.length ≤ 6) ∧ (plainStep hs rs al x).2.1.length ≤ rs.length + 1 ∧ OwnFit (plainStep hs rs al x).1 (plainStep hs rs al x).2.1 (plainStep hs rs al x).2.2.1 := fun hs1 e el => by
      rw [e]
      exact ⟨ra, D1.hand hs1, fr1 (.inr (.inl rfl)), free1, fun b hb => .inl hb, rl, Nat.le_succ _, ⟨by rw [el]; exact ok.hl, rl, ok.al⟩⟩
    obtain ⟨h, hh, eold, ex⟩ : ∃ h : Int, (0 ≤ h ∧ h < 8) ∧ (plainStep hs rs al x).2.2.2 = hs.getD h.toNat none ∧ x.vs[1]? = some (.int h) := by
      cases x with
      | tidy => exact absurd rfl nt
      | put h z p => exact absurd ⟨_, _, _, rfl⟩ hxput
      | empty h z => exact absurd ⟨_, _, rfl⟩ hxempty
      | make h z => exact ⟨h, ⟨hz.1.1, (wrongH_inv hw).1⟩, rfl, rfl⟩
      | hold h z => exact ⟨h, ⟨hz.1.1, (wrongH_inv hw).1⟩, rfl, rfl⟩
      | drop h => exact ⟨h, ⟨hz.1, (wrongH_inv hw).1⟩, rfl, rfl⟩
      | take h p z => exact ⟨h, ⟨hz.1.1, (wrongH_inv hw).1⟩, rfl, rfl⟩
    refine ⟨_, rfl, _, rfl, t, _, _, _, rfl, rfl, T1, at_of (j := 1) rfl ex, lh, _, _, _, rfl, rfl, SqL.of O1.rm.h, at_of (j := h.toNat) (nh hh.1) (ath hh), ?_⟩
    rw [← eold]
    refine ⟨fun σ' H' => σ' = [some (.ref q), some (.ref t), some (.ref lh), none, some (oV (plainStep hs rs al x).2.2.2), none] ∧ ∃ ra1, OwnD H' q lh lr la ld lk tv wv (plainStep hs rs al x).1 (plainStep hs rs al x).2.1 (plainStep hs rs al x).2.2.1 d ra1 ∧ (∀ b o, ¬ OwnA q lh lr la ld ra b → H b = some o → H' b = some o) ∧ (∀ b, H' b = none → H b = none) ∧ (∀ b ∈ ra1, b ∈ ra ∨ H b = none) ∧ (∀ r ∈ (plainStep hs rs al x).2.1, r.length ≤ 6) ∧ (plainStep hs rs al x).2.1.length ≤ rs.length + 1 ∧ OwnFit (plainStep hs rs al x).1 (plainStep hs rs al x).2.1 (plainStep hs rs al x).2.2.1, ?_, ?_⟩
    · refine ⟨_, rfl, t, _, _, _, rfl, rfl, T1, at_of (j := 0) rfl (vs0 x), rfl, _, rfl, ?_⟩
      clear fin Rdy hP1 k
      cases x with
      | tidy => exact absurd rfl nt
      | put h z p => exact absurd ⟨_, _, _, rfl⟩ hxput
      | empty h z => exact absurd ⟨_, _, rfl⟩ hxempty
      | make h' z =>
        cases ex
        refine if_pos_of (seq rfl) ?_
        have z0 : 0 ≤ z := hz.2.1
        have hw2 := (wrongH_inv hw).2
        have z6 : z ≤ 6 := by
          by_cases c : 6 < z
          · rw [if_pos c] at hw2; exact absurd hw2 s_e4
          · omega
        have lal : al.length ≤ 60 := by rw [R.ks]; rw [show (keys P0.boxes).length = P0.boxes.length from List.length_map _]; exact W.few
        refine ⟨_, rfl, q, _, rfl, O1.dr, .inl ⟨rfl, _, SqL.of O1.rm.r⟩, _, rfl, t, _, _, _, rfl, rfl, T1, at_of (j := 2) rfl rfl, z, rfl, by omega, by omega, fun Dn hDn => lc_range (lo := 0) (n := z.toNat) (fun i H' => H' = upd H1 Dn (.lst (lV (List.replicate i none)))) rfl (fun i H' hi e => ?_) (fun H2 e2 => ?_)⟩
        · subst e
          refine ⟨rfl, _, upd_same, (by rw [lV_len, List.length_replicate, sizeLine_eq]; have : i < z.toNat := hi; omega), ?_⟩
          rw [upd_upd, List.replicate_succ']
          simp only [lV, List.map_append]
          rfl
        have nDn := O1.fresh hDn
        have D2 : OwnD H2 q lh lr la ld lk tv wv hs rs al d ra := by rw [e2]; exact D1.same (same_upd hDn)
        have kD2 : H2 Dn = some (.lst (lV (List.replicate z.toNat none))) := by rw [e2]; exact upd_same
        have s2 : Same H1 H2 := by rw [e2]; exact same_upd hDn
        have nDH : H Dn = none := s1.free hDn
        clear e2 hDn
        have D3 := D2.born nDn kD2
        refine ⟨lr, _, _, rfl, rfl, D2.o.rm.r, (by rw [List.length_map, O.rm.len, sizeLine_eq]; omega), ?_⟩
        have D4 := D3.lives (al ++ [(rs.length : Int)])
        have hval : (((ra ++ [Dn]).map V.ref).length : Int) - 1 = (rs.length : Int) := by rw [List.length_map, List.length_append, O.rm.len, List.length_singleton]; omega
        refine ⟨_, rfl, q, _, rfl, D3.o.da, .inl ⟨rfl, _, SqL.of D3.o.a⟩, _, rfl, q, _, rfl, D3.o.dr, lr, _, rfl, .inl (SqL.of D3.o.rm.r), _, _, rfl, rfl, la, _, V.int (rs.length : Int), rfl, (by show [V.int (_ - 1)] = _; rw [hval]), D3.o.a, (by rw [List.length_map, sizeLine_eq]; omega), ?_⟩
        rw [show (al.map V.int ++ [V.int (rs.length : Int)]) = (al ++ [(rs.length : Int)]).map V.int from by rw [List.map_append]; rfl]
        have T4 : SqT K (upd (upd H2 lr (.lst (ra.map V.ref ++ [V.ref Dn]))) la (.lst ((al ++ [(rs.length : Int)]).map V.int))) t (Deed.make h z).vs := SqT.of (by
          rw [upd_ne (ne_of (s2 _ _ ht1) D2.o.a (by intro z; cases z)), upd_ne (ne_of (s2 _ _ ht1) D2.o.rm.r (by intro z; cases z))]
          exact s2 _ _ ht1)
        refine ⟨_, rfl, q, _, rfl, D4.o.dr, lr, _, rfl, .inl (SqL.of D4.o.rm.r), _, _, rfl, rfl, _, rfl, _, rfl, t, _, _, _, rfl, rfl, T4, at_of (j := 1) rfl rfl, lh, _, _, h.toNat, rfl, rfl, D4.o.rm.h, ixh hh, ?_⟩
        dsimp only
        rw [hval, show V.int (rs.length : Int) = oV (some (rs.length : Int)) from rfl, lV_set]
        have D5 := D4.hand (hs.set h.toNat (some (rs.length : Int)))
        have rl5 : ∀ r ∈ rs ++ [List.replicate z.toNat none], r.length ≤ 6 := fun r hr => by
          rcases List.mem_append.mp hr with y | y
          · exact rl r y
          · rw [List.mem_singleton.mp y, List.length_replicate]; omega
        refine ⟨rfl, ra ++ [Dn], D5, fun b o nb e => ?_, fun b e => ?_, fun b hb => ?_, rl5, (by show (rs ++ [List.replicate z.toNat none]).length ≤ _; rw [List.length_append]; exact Nat.le_refl _), ⟨(by show (hs.set h.toNat _).length ≤ _; rw [List.length_set]; exact ok.hl), rl5, fun m hm => ?_⟩⟩
        · rw [upd_ne (fun y => nb (.inr (.inl y))), upd_ne (fun y => nb (.inr (.inr (.inr (.inl y))))), upd_ne (fun y => nb (.inr (.inr (.inl y))))]
          exact s2 _ _ (s1 _ _ e)
        · exact s1.free (s2.free (upd_free (upd_free (upd_free e))))
        · rcases List.mem_append.mp hb with y | y
          · exact .inl y
          · rw [List.mem_singleton.mp y]; exact .inr nDH
        · replace hm : m ∈ al ++ [(rs.length : Int)] := hm
          show 0 ≤ m ∧ m < (((rs ++ [List.replicate z.toNat none]).length : Nat) : Int)
          rw [List.length_append]
          show 0 ≤ m ∧ m < ((rs.length + 1 : Nat) : Int)
          rcases List.mem_append.mp hm with y | y
          · have := ok.al m y; omega
          · rw [List.mem_singleton.mp y]; omega
      | hold h' p =>
        cases ex
        have hp : 0 ≤ p ∧ p < 8 := ⟨hz.2.1, (wrongH_inv (wrongH_inv hw).2).1⟩
        refine if_neg_of (sne (by dsimp only [Deed.wd]; decide +kernel)) ?_
        refine ⟨_, ?_, fun σ' H' h => h⟩
        refine ⟨_, rfl, t, _, _, _, rfl, rfl, T1, at_of (j := 0) rfl (vs0 _), rfl, _, rfl, ?_⟩
        refine if_pos_of (seq rfl) ?_
        refine ⟨_, rfl, _, rfl, t, _, _, _, rfl, rfl, T1, at_of (j := 2) rfl rfl, lh, _, _, _, rfl, rfl, SqL.of O1.rm.h, at_of (j := p.toNat) (nh hp.1) (ath hp), _, rfl, _, rfl, t, _, _, _, rfl, rfl, T1, at_of (j := 1) rfl rfl, lh, _, _, h.toNat, rfl, rfl, O1.rm.h, ixh hh, ?_⟩
        rw [lV_set]
        exact ⟨rfl, hold_ _ rfl (List.length_set ..)⟩
      | take h' p z =>
        cases ex
        have hp : 0 ≤ p ∧ p < 8 := ⟨hz.2.1.1, (wrongH_inv (wrongH_inv hw).2).1⟩
        obtain ⟨n, en, zn, ea⟩ := wrongB_inv (wrongH_inv (wrongH_inv hw).2).2
        have z0 : 0 ≤ z := hz.2.2.1
        obtain ⟨rq, n0, hrq, hrr, r6⟩ := room1 n ⟨_, en⟩
        have hx : (lV hs)[p.toNat]? = some (V.int n) := by rw [ath hp, en]; rfl
        have zl : z.toNat < (roomOf rs n).length := by omega
        refine if_neg_of (sne (by dsimp only [Deed.wd]; decide +kernel)) ?_
        refine ⟨_, ?_, fun σ' H' h => h⟩
        refine ⟨_, rfl, t, _, _, _, rfl, rfl, T1, at_of (j := 0) rfl (vs0 _), rfl, _, rfl, ?_⟩
        refine if_neg_of (sne (by dsimp only [Deed.wd]; decide +kernel)) ?_
        refine ⟨_, ?_, fun σ' H' h => h⟩
        refine ⟨_, rfl, t, _, _, _, rfl, rfl, T1, at_of (j := 0) rfl (vs0 _), rfl, _, rfl, ?_⟩
        refine if_pos_of (seq rfl) ?_
        refine ⟨_, rfl, q, _, rfl, O1.dr, _, rfl, _, rfl, t, _, _, _, rfl, rfl, T1, at_of (j := 2) rfl rfl, lh, _, _, _, rfl, rfl, SqL.of O1.rm.h, at_of (j := p.toNat) (nh hp.1) hx, lr, _, _, _, rfl, rfl, SqL.of O1.rm.r, at_of (j := n.toNat) (nh n0) (by rw [List.getElem?_map, hrq]; rfl), _, rfl, t, _, _, _, rfl, rfl, T1, at_of (j := 3) rfl rfl, rq, _, _, _, rfl, rfl, SqL.of hrr, at_of (j := z.toNat) (nh z0) (lV_get zl), _, rfl, _, rfl, t, _, _, _, rfl, rfl, T1, at_of (j := 1) rfl rfl, lh, _, _, h.toNat, rfl, rfl, O1.rm.h, ixh hh, ?_⟩
        rw [lV_set]
        exact ⟨rfl, hold_ _ (by unfold plainStep; dsimp only; rw [ea]; rfl) (List.length_set ..)⟩
      | drop h' =>
        cases ex
        refine if_neg_of (sne (by dsimp only [Deed.wd]; decide +kernel)) ?_
        refine ⟨_, ?_, fun σ' H' h => h⟩
        refine ⟨_, rfl, t, _, _, _, rfl, rfl, T1, at_of (j := 0) rfl (vs0 _), rfl, _, rfl, ?_⟩
        refine if_neg_of (sne (by dsimp only [Deed.wd]; decide +kernel)) ?_
        refine ⟨_, ?_, fun σ' H' h => h⟩
        refine ⟨_, rfl, t, _, _, _, rfl, rfl, T1, at_of (j := 0) rfl (vs0 _), rfl, _, rfl, ?_⟩
        refine if_neg_of (sne (by dsimp only [Deed.wd]; decide +kernel)) ?_
        refine ⟨_, rfl, _, rfl, t, _, _, _, rfl, rfl, T1, at_of (j := 1) rfl rfl, lh, _, _, h.toNat, rfl, rfl, O1.rm.h, ixh hh, ?_⟩
        rw [show V.non = oV none from rfl, lV_set]
        exact ⟨rfl, hold_ _ rfl (List.length_set ..)⟩
    rintro σ' H2 ⟨rfl, ra1, w1, w2, w3, w4, w5, w6, w7⟩
    exact ⟨_, rfl, _, rfl, q, lh, lr, la, ld, _, _, _, d, ra1, _, P1, rfl, w1.o, w7, Rdy, ldl, fin _ ra1 w1 w2 w3 w4 w5 w6⟩
/-! ### what a line answers, by the law's own pile -/
def spAnswerL : Sp := fun vs H Q _ => ∃ (q t lh lr la ld lk : Addr) (tv wv : V) (hs : List (Option Int)) (rs : List (List (Option Int))) (al d : List Int) (ra : List Addr) (P : Pl) (x : Deed) (few y : Int), vs = [.ref q, .ref t] ∧ OwnD H q lh lr la ld lk tv wv hs rs al d ra ∧ PlainR P hs rs al d ∧ Good P ∧ (∀ r ∈ rs, r.length ≤ 6) ∧ H t = some (.tup x.vs) ∧ x.InZ few y ∧ rs.length ≤ 1000 ∧ d.length ≤ 100000 ∧
  (∀ (e : Bad) (H' : Hp), act P x = .bad e → OwnD H' q lh lr la ld lk tv (.str (badW e)) hs rs al d ra → (∀ b o, ¬ OwnA q lh lr la ld ra b → H b = some o → H' b = some o) → Q (.str (badW e)) H') ∧
  (∀ (r la' ld' : Addr) (hs' : List (Option Int)) (rs' : List (List (Option Int))) (al' d' F : List Int) (ra' : List Addr) (P' : Pl) (H' : Hp), act P x = .fine P' F → H r = none → H' r = some (.lst (F.map V.int)) → ¬ OwnA q lh lr la' ld' ra' r → PlainR P' hs' rs' al' d' → OwnD H' q lh lr la' ld' lk (.ref r) (.str Str.empty) hs' rs' al' d' ra' → (∀ r ∈ rs', r.length ≤ 6) → rs'.length ≤ rs.length + 1 → d'.length + 6 * al'.length ≤ d.length + 6 * al.length + 7 →
    (∀ b o, ¬ OwnA q lh lr la ld ra b → H b = some o → H' b = some o) → (∀ b, OwnA q lh lr la' ld' ra' b → OwnA q lh lr la ld ra b ∨ H b = none) → Q (.str (freesW F)) H')
theorem bad_word (e : Bad) : badWord e = badW e := by cases e <;> rfl
theorem bad_ne (e : Bad) : ¬ badW e = Str.empty := by cases e <;> decide +kernel
theorem eqv_ints (l : List Int) : PyData.eqv (dRow (l.map some)) (.list []) = decide (l = []) := by
  cases l with
  | nil => rfl
  | cons n l => rfl
theorem shaped_ints (l : List Int) : SeqAt.shaped (dRow (l.map some)) = true := by
  unfold SeqAt.shaped
  have h1 : (dRow (l.map some)).canLay0 = true := lay_row _
  have h2 : (dRow (l.map some)).depth ≤ 2 := by
    show PyData.depthAll ((l.map some).map dOf) + 1 ≤ 2
    rw [dep_row]
    decide
  rw [h1, decide_eq_true (by omega)]
  rfl
theorem scAnswerL : FnScope nAnswerL ["_law_pile", "_law_deed"] (defScope sAnswerL) := ⟨rfl, rfl, rfl, by decide +kernel, rfl, by decide +kernel, by decide +kernel⟩
theorem ok_answerl {f fI fM fO fR fU fE fQ fH fT fG fA fS fX fY fP fL fB fK fCS fCA fPA fRE fTR fTY fDO fRD fRN fAN fPY fW fD fN fZ5 fT1 fT2 fT3 fT4 fT5 fT6 fT7 fT8 fT9 fTA fTB_ fTC fTD : Addr} {fd dI dM dO dR dU dE dQ dH dT dG dA dS dX dY dP dL dB dK dCS dCA dPA dRE dTR dTY dDO dRD dRN dAN dPY dW dD dN dZ5 dT1 dT2 dT3 dT4 dT5 dT6 dT7 dT8 dT9 dTA dTB_ dTC dTD : FuncData} (F : Fun K "_law_answer" "_law_answer" sAnswerL f fd) (TL : TxtL mg) (D : Defs K mg C B fI fM fO fR fU fE fQ fH fT fG fA fS fX fY fP fL fB fK fCS fCA fPA fRE fTR fTY fDO fRD fRN fAN fPY fW fD fN fZ5 fT1 fT2 fT3 fT4 fT5 fT6 fT7 fT8 fT9 fTA fTB_ fTC fTD dI dM dO dR dU dE dQ dH dT dG dA dS dX dY dP dL dB dK dCS dCA dPA dRE dTR dTY dDO dRD dRN dAN dPY dW dD dN dZ5 dT1 dT2 dT3 dT4 dT5 dT6 dT7 dT8 dT9 dTA dTB_ dTC dTD) : FnOk P w K mg base CX0 4 f fd ["_law_pile", "_law_deed"] spAnswerL := by
  have GT7 : FnOk P w K mg base CX0 1 fT7 dT7 ["_law_pile", "_law_deed"] spWrong := ok_wrong D.FT7 TL
  have GT8 : FnOk P w K mg base CX0 3 fT8 dT8 ["_law_pile", "_law_deed"] spOwnL := ok_own D.FT8 TL D
  refine F.ok scAnswerL (fun vs H Q E h => ?_) (fun cdv A outer s H vs Q E hr h => ?_)
  · obtain ⟨q, t, lh, lr, la, ld, lk, tv, wv, hs, rs, al, d, ra, P0, x, few, y, rfl, _⟩ := h
    rfl
  · obtain ⟨q, t, lh, lr, la, ld, lk, tv, wv, hs, rs, al, d, ra, P0, x, few, y, rfl, OD, R, G, rl, ht, hz, lrs, ldl, kb, kf⟩ := h
    have nd := scAnswerL.nd
    have hu := hu_of hr
    have hr1 : Room 1 _ := hr.mono (by decide)
    have hr3 : Room 3 _ := hr
    have W := G.wf
    have h8 : hs.length = 8 := by rw [← R.own.h]; exact W.hl
    have hin : ∀ n, some n ∈ hs → 0 ≤ n ∧ n < (rs.length : Int) := fun n hn => by
      rw [← R.own.m]
      obtain ⟨b, hb⟩ := W.cl n (by have := cnt_pos.mpr (show some n ∈ P0.hands by rw [R.own.h]; exact hn); omega)
      exact W.lo n (get_keys.mp ⟨b, hb⟩)
    have few7 : ∀ {lh lr la ld lk : Addr} {tv wv : V}, (pileD lh lr la ld lk tv wv).length < sizeLine := by intros; show 7 < sizeLine; decide
    refine ⟨_, (pss_cons (ps_set (i := 2) nd rfl (Or.inl rfl) (pe_call GT7 hr1 (by rfl) D.gT7 D.FT7.kp D.bT7 .nil pass0 (pa_cons (pv 0) (pa_cons (pv 1) pa_nil))))
      (pss_cons (ps_dput hu (pv 0) pe_str (pv 2) rfl)
      (pss_cons (ps_if (pt_cmpR op_ne (pv 2) pe_str (nomark _)) (pss_one (ps_ret (pv 2))) pss_nil)
      (pss_cons (ps_dput hu (pv 0) pe_str (pe_call GT8 hr3 (by rfl) D.gT8 D.FT8.kp D.bT8 .nil pass0 (pa_cons (pv 0) (pa_cons (pv 1) pa_nil))) rfl)
      (pss_cons (ps_if (pt_cmpR (op_eqD hr.units) (pe_dget hu (pv 0) pe_str (fun _ _ => rfl)) (pe_lst pa_nil) (nomark _)) (pss_one (ps_ret pe_str)) pss_nil)
      (pss_one (ps_ret (pe_op op_add_str pe_str (pe_join pe_str (pe_lc (own := [("_law_number", 3)]) (g := gName 3) (tt := tYes) (te := tCB rStrE (tCons (tVar 3) tNil)) (by rfl) nd (pi_list (pe_dget hu (pv 0) pe_str (fun _ _ => rfl))) (blkOk_by (N := nAnswerL) (sc := defScope sAnswerL) (by decide +kernel)) (fun _ _ _ _ _ => pg_name (i := 3) nd rfl (Or.inl rfl)) (fun _ _ _ _ _ => pts_nil) (fun _ _ _ _ _ => pe_callTy call_strE (by rfl) TL.str (by decide +kernel) (pa_cons (pv 3) pa_nil)))))))))))), ?_⟩
    refine ⟨_, rfl, _, rfl, q, t, lh, lr, la, ld, hs, rs, al, d, ra, x, few, y, rfl, OD.o, ht, hz, h8, hin, fun H1 s1 => ?_⟩
    have D1 := OD.same s1
    refine ⟨_, rfl, _, rfl, q, _, rfl, DPut.k (k := Sum.inr "wrong") D1.e few7, ?_⟩
    have D2 := D1.wrong (.str (wrongP hs rs al x))
    have fr2 : ∀ b o, b ≠ q → H b = some o → upd H1 q (.dK (putK (pileD lh lr la ld lk tv wv) (Sum.inr "wrong" : Key) (.str (wrongP hs rs al x)))) b = some o := fun b o n e => by rw [upd_ne n]; exact s1 _ _ e
    have free2 : ∀ b, upd H1 q (.dK (putK (pileD lh lr la ld lk tv wv) (Sum.inr "wrong" : Key) (.str (wrongP hs rs al x)))) b = none → H b = none := fun b e => s1.free (upd_free e)
    generalize upd H1 q (.dK (putK (pileD lh lr la ld lk tv wv) (Sum.inr "wrong" : Key) (.str (wrongP hs rs al x)))) = H2 at D2 fr2 free2 ⊢
    clear D1 s1
    have ntq : t ≠ q := fun z => by rw [z, OD.e] at ht; cases ht
    have ht2 := fr2 _ _ ntq ht
    refine ⟨_, rfl, rfl, _, rfl, ?_⟩
    by_cases c : wrongP hs rs al x = Str.empty
    case neg =>
      refine if_pos_of (by show (!decide (V.str (wrongP hs rs al x) = V.str Str.empty)) = true; rw [decide_eq_false (fun z => c (by injection z))]; rfl) ?_
      have nt : x ≠ .tidy := fun z => c (by rw [z]; rfl)
      rcases plain_act R G hz nt with ⟨e, e1, e2⟩ | ⟨e1, _⟩
      · rw [bad_word] at e2
        rw [e2] at D2 ⊢
        exact ⟨_, rfl, kb e H2 e1 D2 fun b o nb h => fr2 b o (fun z => nb (.inl z)) h⟩
      · exact absurd e1 c
    refine if_neg_of (by show (!decide (V.str (wrongP hs rs al x) = V.str Str.empty)) = false; rw [decide_eq_true (by rw [c])]; rfl) ?_
    rw [c] at D2
    refine ⟨_, rfl, _, rfl, q, t, lh, lr, la, ld, lk, tv, .str Str.empty, hs, rs, al, d, ra, P0, x, few, y, rfl, D2, R, G, rl, ht2, hz, c, lrs, ldl, fun r la' ld' hs' rs' al' d' F ra' P' H3 ha hr2 hr3' nA R' D3 rl' lrs' ldl' fr3 new3 => ?_⟩
    refine ⟨_, rfl, q, _, rfl, DPut.k (k := Sum.inr "told") D3.e few7, ?_⟩
    have D4 := D3.told (.ref r)
    have nrq : r ≠ q := fun z => nA (.inl z)
    have fr4 : ∀ b o, b ≠ q → H3 b = some o → upd H3 q (.dK (putK (pileD lh lr la' ld' lk tv (.str Str.empty)) (Sum.inr "told" : Key) (.ref r))) b = some o := fun b o n e => by rw [upd_ne n]; exact e
    generalize upd H3 q (.dK (putK (pileD lh lr la' ld' lk tv (.str Str.empty)) (Sum.inr "told" : Key) (.ref r))) = H4 at D4 fr4 ⊢
    have hr4 := fr4 _ _ nrq hr3'
    have fin : ∀ H', Same H4 H' → Q (.str (freesW F)) H' := fun H' s => kf r la' ld' hs' rs' al' d' F ra' P' H' ha (free2 r hr2) (s _ _ hr4) nA R' (D4.same s) rl' lrs' ldl' (fun b o nb e => s _ _ (fr4 b o (fun z => nb (.inl z)) (fr3 b o nb (fr2 b o (fun z => nb (.inl z)) e)))) (fun b hb => (new3 b hb).imp id (free2 b))
    have tdget : ∀ H', Same H4 H' → DGet H' q (.str "told") (some (.ref r)) := fun H' s => by
      rw [← pd_told lh lr la' ld' lk (.ref r) (.str Str.empty)]
      exact DGet.k (k := Sum.inr "told") (s _ _ D4.e)
    have hl0 : ∀ l, H4 l = none → Same H4 (upd H4 l (.lst [])) := fun l h => same_upd h
    refine ⟨_, rfl, q, _, rfl, tdget H4 (fun _ _ e => e), (by show 0 ≤ sizeLine; decide), fun l hl => ⟨dRow (F.map some), .list [], dp_row (by rw [← lV_int]; exact (hl0 l hl) _ _ hr4), .lst (SqL.of upd_same) .nil, shaped_ints F, rfl, _, rfl, ?_⟩⟩
    rw [eqv_ints]
    have s5 := hl0 l hl
    generalize upd H4 l (.lst []) = H5 at s5 ⊢
    by_cases cF : F = []
    · refine if_pos_of (decide_eq_true cF) ?_
      have fin := fin H5 s5
      unfold freesW at fin
      rw [if_pos cF] at fin
      exact fin
    refine if_neg_of (decide_eq_false cF) ?_
    have G' := G.act ha
    obtain ⟨f1, f2, f3, f4⟩ := act_freed G ha
    have hm := R.own.m
    have ff : ∀ n ∈ F, 0 ≤ n ∧ n ≤ 1000000000 := fun n hn => by have := f2 n hn; omega
    obtain ⟨j1, j2, j3⟩ := freed_join f1 ff
    have kr := s5 _ _ hr4
    refine ⟨⟨_, rfl⟩, _, rfl, q, _, rfl, tdget H5 s5, r, rfl, ⟨_, SqL.of kr⟩, fun Dn hDn => ?_⟩
    refine lc_it walk_list (fun j H' => Same H5 H' ∧ H' Dn = some (.lst (((F.map fun n => (toString n : Str)).take j).map V.str))) ⟨samePut (fun _ _ e => e) hDn _, upd_same⟩ (fun j H' _ ⟨S, _⟩ => SqL.of (S _ _ kr)) ?_ ?_
    · rintro j y H6 H7 hj ⟨S4, kd4⟩ ⟨rfl, hy⟩
      rw [List.getElem?_map] at hy
      cases en : F[j]? with
      | none => rw [en] at hy; cases hy
      | some n =>
        rw [en] at hy
        have hy : y = V.int n := (Option.some.inj hy).symm
        subst hy
        have hn := ff n (List.mem_of_getElem? en)
        refine ⟨rfl, _, rfl, .inl ⟨n, rfl, log_nat9 hn.1 hn.2, ?_⟩⟩
        refine ⟨_, kd4, (by rw [List.length_map, List.length_take, List.length_map, sizeLine_eq]; omega), sameOff S4 hDn _, ?_⟩
        rw [upd_same, takeS (i := j) (x := (toString n : Str)) (by rw [List.getElem?_map, en]; rfl), List.map_append]
        rfl
    rintro H6 ⟨S6, kD⟩
    rw [show (F.map V.int).length = (F.map fun n => (toString n : Str)).length from by rw [List.length_map, List.length_map], List.take_length] at kD
    refine ⟨_, Dn, _, rfl, rfl, .inl (SqL.of kD), j2, ?_⟩
    rw [txt_join]
    have e6 : ("frees " : Str).length = 6 := by decide +kernel
    refine ⟨_, _, rfl, rfl, by rw [e6, sizeLine_eq]; omega, ?_⟩
    have fin := fin H6 (s5.trans S6)
    unfold freesW at fin
    rw [if_neg cF] at fin
    exact fin
/-! ### a deed, by the pile's methods -/
theorem scCalled : FnScope nCalled ["_law_pile", "_law_deed"] (defScope sCalled) := ⟨rfl, rfl, rfl, by decide +kernel, rfl, by decide +kernel, by decide +kernel⟩
theorem ok_called {f fI fM fO fR fU fE fQ fH fT fG fA fS fX fY fP fL fB fK fCS fCA fPA fRE fTR fTY fDO fRD fRN fAN fPY fW fD fN fZ5 fT1 fT2 fT3 fT4 fT5 fT6 fT7 fT8 fT9 fTA fTB_ fTC fTD : Addr} {fd dI dM dO dR dU dE dQ dH dT dG dA dS dX dY dP dL dB dK dCS dCA dPA dRE dTR dTY dDO dRD dRN dAN dPY dW dD dN dZ5 dT1 dT2 dT3 dT4 dT5 dT6 dT7 dT8 dT9 dTA dTB_ dTC dTD : FuncData} (F : Fun K "_law_called" "_law_called" sCalled f fd) (T : Txt K mg C B eH eS eF eB eL) (D : Defs K mg C B fI fM fO fR fU fE fQ fH fT fG fA fS fX fY fP fL fB fK fCS fCA fPA fRE fTR fTY fDO fRD fRN fAN fPY fW fD fN fZ5 fT1 fT2 fT3 fT4 fT5 fT6 fT7 fT8 fT9 fTA fTB_ fTC fTD dI dM dO dR dU dE dQ dH dT dG dA dS dX dY dP dL dB dK dCS dCA dPA dRE dTR dTY dDO dRD dRN dAN dPY dW dD dN dZ5 dT1 dT2 dT3 dT4 dT5 dT6 dT7 dT8 dT9 dTA dTB_ dTC dTD) : FnOk P w K mg base (L2N.CX P w) 7 f fd ["_law_pile", "_law_deed"] (spDone K C B eH eS eF eB eL) := by
  have GM : FnOk P w K mg base (L2N.CX P w) 3 fM dM ["self", "hand", "size"] (spMake C B eH eS eF) := ok_make D.FM T D.FL D.bL D.mL D.FP D.bP D.mP D.MB D.FB D.bB D.FK D.bK D.gK
  have GO : FnOk P w K mg base (L2N.CX P w) 3 fO dO ["self", "hand", "other"] (spHold C B eH) := ok_hold D.FO T D.FL D.bL D.mL D.FP D.bP D.mP D.FK D.bK D.gK
  have GR : FnOk P w K mg base (L2N.CX P w) 3 fR dR ["self", "hand"] (spDrop C B eH) := ok_drop D.FR T D.FL D.bL D.mL D.FP D.bP D.mP D.FK D.bK D.gK
  have GU : FnOk P w K mg base (L2N.CX P w) 3 fU dU ["self", "hand", "slot", "other"] (spPut C B eH eB eL) := ok_put D.FU T D.FL D.bL D.mL D.FP D.bP D.mP D.FK D.bK D.gK D.FY D.bY D.mY D.FCS D.bCS D.gCS
  have GE : FnOk P w K mg base (L2N.CX P w) 3 fE dE ["self", "hand", "slot"] (spEmpty C B eH eB eL) := ok_empty D.FE T D.FL D.bL D.mL D.FP D.bP D.mP D.FK D.bK D.gK D.FY D.bY D.mY D.FCS D.bCS D.gCS
  have GQ : FnOk P w K mg base (L2N.CX P w) 3 fQ dQ ["self", "hand", "other", "slot"] (spTake C B eH eB eL) := ok_take D.FQ T D.FL D.bL D.mL D.FP D.bP D.mP D.FK D.bK D.gK D.FY D.bY D.mY D.FCS D.bCS D.gCS
  have GT : FnOk P w K mg base (L2N.CX P w) 2 fT dT ["self", "number"] (spPoints C B eB) := ok_points D.FT T D.FX D.bX D.mX
  have GG : FnOk P w K mg base (L2N.CX P w) 2 fG dG ["self", "number"] (spWeighs C B eB) := ok_weighs D.FG T D.FX D.bX D.mX
  have GS : FnOk P w K mg base CX0 1 fS dS ["self"] (spSuspects C B) := ok_suspects D.FS T
  have GCA : FnOk P w K mg base CX0 1 fCA dCA ["self", "numbers"] (spClear C B) := ok_clear D.FCA T
  have GPA : FnOk P w K mg base (L2N.CX P w) 3 fPA dPA ["pile", "number"] (spPointedAt C B eB) := ok_pointedat D.FPA T GT D.bT D.mT
  have GRE : FnOk P w K mg base (L2N.CX P w) 4 fRE dRE ["pile", "numbers"] (spReached K C B eB) := ok_reached D.FRE T GPA D.FPA D.bPA D.gPA
  have GTR : FnOk P w K mg base CX0 5 fTR dTR ["pile"] (spTrials C B) := ok_trials D.FTR T GPA D.FPA D.bPA D.gPA GRE D.FRE D.bRE D.gRE GS D.bS D.mS GG D.bG D.mG
  have GTY : FnOk P w K mg base CX0 6 fTY dTY ["pile"] (spTidy C B) := ok_tidy D.FTY T GTR D.FTR D.bTR D.gTR GRE D.FRE D.bRE D.gRE GCA D.bCA D.mCA
  have GDO : FnOk P w K mg base (L2N.CX P w) 7 fDO dDO ["pile", "deed"] (spDone K C B eH eS eF eB eL) := ok_donep D.FDO T GM D.bM D.mM GO D.bO D.mO GR D.bR D.mR GU D.bU D.mU GE D.bE D.mE GQ D.bQ D.mQ GTY D.FTY D.bTY D.gTY
  refine okXN F scCalled (fun vs H Q E h => ?_) (fun cdv A outer s H vs Q E hr h => ?_)
  · obtain ⟨p, t, g, P, R, d, rfl, _⟩ := h
    rfl
  · obtain ⟨p, t, g, P0, R, d, rfl, A0, G, ht, kB, k⟩ := h
    have nd := scCalled.nd
    have hr6 : Room 6 _ := hr
    have hr3 : Room 3 _ := hr.mono (by decide)
    have W := G.wf
    have seq : ∀ {z z' : Str}, z = z' → decide (V.str z = V.str z') = true := fun e => decide_eq_true (by rw [e])
    have sne : ∀ {z z' : Str}, z ≠ z' → decide (V.str z = V.str z') = false := fun e => decide_eq_false (by intro q; injection q with q; exact e q)
    refine ⟨_, (pss_cons (ps_if (pt_cmpR op_eq (pe_ix ix_tup (pv 1) pe_int (fun _ _ => rfl)) pe_str (nomark _)) (pss_one (ps_ret (pe_meth (pv 0) T.clC D.mM GM hr3 D.bM .nil (L2N.passes_call (L2N.takes_of rfl rfl rfl rfl) (fun _ _ _ _ h => h)) (pa_cons (pe_ix ix_tup (pv 1) pe_int (fun _ _ => rfl)) (pa_cons (pe_ix ix_tup (pv 1) pe_int (fun _ _ => rfl)) pa_nil))))) pss_nil)
      (pss_cons (ps_if (pt_cmpR op_eq (pe_ix ix_tup (pv 1) pe_int (fun _ _ => rfl)) pe_str (nomark _)) (pss_one (ps_ret (pe_meth (pv 0) T.clC D.mO GO hr3 D.bO .nil (L2N.passes_call (L2N.takes_of rfl rfl rfl rfl) (fun _ _ _ _ h => h)) (pa_cons (pe_ix ix_tup (pv 1) pe_int (fun _ _ => rfl)) (pa_cons (pe_ix ix_tup (pv 1) pe_int (fun _ _ => rfl)) pa_nil))))) pss_nil)
      (pss_cons (ps_if (pt_cmpR op_eq (pe_ix ix_tup (pv 1) pe_int (fun _ _ => rfl)) pe_str (nomark _)) (pss_one (ps_ret (pe_meth (pv 0) T.clC D.mR GR hr3 D.bR .nil (L2N.passes_call (L2N.takes_of rfl rfl rfl rfl) (fun _ _ _ _ h => h)) (pa_cons (pe_ix ix_tup (pv 1) pe_int (fun _ _ => rfl)) pa_nil)))) pss_nil)
      (pss_cons (ps_if (pt_cmpR op_eq (pe_ix ix_tup (pv 1) pe_int (fun _ _ => rfl)) pe_str (nomark _)) (pss_one (ps_ret (pe_meth (pv 0) T.clC D.mU GU hr3 D.bU .nil (L2N.passes_call (L2N.takes_of rfl rfl rfl rfl) (fun _ _ _ _ h => h)) (pa_cons (pe_ix ix_tup (pv 1) pe_int (fun _ _ => rfl)) (pa_cons (pe_ix ix_tup (pv 1) pe_int (fun _ _ => rfl)) (pa_cons (pe_ix ix_tup (pv 1) pe_int (fun _ _ => rfl)) pa_nil)))))) pss_nil)
      (pss_cons (ps_if (pt_cmpR op_eq (pe_ix ix_tup (pv 1) pe_int (fun _ _ => rfl)) pe_str (nomark _)) (pss_one (ps_ret (pe_meth (pv 0) T.clC D.mE GE hr3 D.bE .nil (L2N.passes_call (L2N.takes_of rfl rfl rfl rfl) (fun _ _ _ _ h => h)) (pa_cons (pe_ix ix_tup (pv 1) pe_int (fun _ _ => rfl)) (pa_cons (pe_ix ix_tup (pv 1) pe_int (fun _ _ => rfl)) pa_nil))))) pss_nil)
      (pss_cons (ps_if (pt_cmpR op_eq (pe_ix ix_tup (pv 1) pe_int (fun _ _ => rfl)) pe_str (nomark _)) (pss_one (ps_ret (pe_meth (pv 0) T.clC D.mQ GQ hr3 D.bQ .nil (L2N.passes_call (L2N.takes_of rfl rfl rfl rfl) (fun _ _ _ _ h => h)) (pa_cons (pe_ix ix_tup (pv 1) pe_int (fun _ _ => rfl)) (pa_cons (pe_ix ix_tup (pv 1) pe_int (fun _ _ => rfl)) (pa_cons (pe_ix ix_tup (pv 1) pe_int (fun _ _ => rfl)) pa_nil)))))) pss_nil)
      (pss_one (ps_ret (pe_call GTY hr6 (by rfl) D.gTY D.FTY.kp D.bTY .nil pass0 (pa_cons (pv 0) pa_nil)))))))))), ?_⟩
    cases d with
    | make h z =>
      refine ⟨_, rfl, t, _, _, _, rfl, rfl, ht, at_of (j := 0) rfl (vs0 _), rfl, _, rfl, ?_⟩
      refine if_pos_of (seq rfl) ?_
      exact ⟨_, rfl, p, g.dx, _, rfl, A0.hp, pf_no _ _ _ (by decide +kernel) (by decide +kernel) (by decide +kernel), _, rfl, t, _, _, _, rfl, rfl, ht, at_of (j := 1) rfl rfl, _, rfl, t, _, _, _, rfl, rfl, ht, at_of (j := 2) rfl rfl, p, P0, R, h, z, rfl, ⟨⟨g, A0⟩, W⟩, fun c => kB .hand (if_pos c), fun c1 c2 => kB .size ((if_neg (not_not_intro c1)).trans (if_pos c2)), fun c1 c2 c3 => kB .full ((if_neg (not_not_intro c1)).trans ((if_neg (not_not_intro c2)).trans (if_pos c3))), fun c1 c2 c3 r H' hr ⟨⟨g', A'⟩, _⟩ => k _ _ ((if_neg (not_not_intro c1)).trans ((if_neg (not_not_intro c2)).trans (if_neg (by omega)))) r g' H' hr A'⟩
    | hold h o =>
      refine ⟨_, rfl, t, _, _, _, rfl, rfl, ht, at_of (j := 0) rfl (vs0 _), rfl, _, rfl, ?_⟩
      refine if_neg_of (sne (by dsimp only [Deed.wd]; decide +kernel)) ?_
      refine ⟨_, rfl, t, _, _, _, rfl, rfl, ht, at_of (j := 0) rfl (vs0 _), rfl, _, rfl, ?_⟩
      refine if_pos_of (seq rfl) ?_
      exact ⟨_, rfl, p, g.dx, _, rfl, A0.hp, pf_no _ _ _ (by decide +kernel) (by decide +kernel) (by decide +kernel), _, rfl, t, _, _, _, rfl, rfl, ht, at_of (j := 1) rfl rfl, _, rfl, t, _, _, _, rfl, rfl, ht, at_of (j := 2) rfl rfl, p, P0, R, h, o, rfl, ⟨⟨g, A0⟩, W⟩, fun c => kB .hand (if_pos c), fun c1 c2 => kB .hand ((if_neg (not_not_intro c1)).trans (if_pos c2)), fun c1 c2 r H' hr ⟨⟨g', A'⟩, _⟩ => k _ _ ((if_neg (not_not_intro c1)).trans (if_neg (not_not_intro c2))) r g' H' hr A'⟩
    | drop h =>
      refine ⟨_, rfl, t, _, _, _, rfl, rfl, ht, at_of (j := 0) rfl (vs0 _), rfl, _, rfl, ?_⟩
      refine if_neg_of (sne (by dsimp only [Deed.wd]; decide +kernel)) ?_
      refine ⟨_, rfl, t, _, _, _, rfl, rfl, ht, at_of (j := 0) rfl (vs0 _), rfl, _, rfl, ?_⟩
      refine if_neg_of (sne (by dsimp only [Deed.wd]; decide +kernel)) ?_
      refine ⟨_, rfl, t, _, _, _, rfl, rfl, ht, at_of (j := 0) rfl (vs0 _), rfl, _, rfl, ?_⟩
      refine if_pos_of (seq rfl) ?_
      exact ⟨_, rfl, p, g.dx, _, rfl, A0.hp, pf_no _ _ _ (by decide +kernel) (by decide +kernel) (by decide +kernel), _, rfl, t, _, _, _, rfl, rfl, ht, at_of (j := 1) rfl rfl, p, P0, R, h, rfl, ⟨⟨g, A0⟩, W⟩, fun c => kB .hand (if_pos c), fun c1 r H' hr ⟨⟨g', A'⟩, _⟩ => k _ _ (if_neg (not_not_intro c1)) r g' H' hr A'⟩
    | put h s o =>
      refine ⟨_, rfl, t, _, _, _, rfl, rfl, ht, at_of (j := 0) rfl (vs0 _), rfl, _, rfl, ?_⟩
      refine if_neg_of (sne (by dsimp only [Deed.wd]; decide +kernel)) ?_
      refine ⟨_, rfl, t, _, _, _, rfl, rfl, ht, at_of (j := 0) rfl (vs0 _), rfl, _, rfl, ?_⟩
      refine if_neg_of (sne (by dsimp only [Deed.wd]; decide +kernel)) ?_
      refine ⟨_, rfl, t, _, _, _, rfl, rfl, ht, at_of (j := 0) rfl (vs0 _), rfl, _, rfl, ?_⟩
      refine if_neg_of (sne (by dsimp only [Deed.wd]; decide +kernel)) ?_
      refine ⟨_, rfl, t, _, _, _, rfl, rfl, ht, at_of (j := 0) rfl (vs0 _), rfl, _, rfl, ?_⟩
      refine if_pos_of (seq rfl) ?_
      exact ⟨_, rfl, p, g.dx, _, rfl, A0.hp, pf_no _ _ _ (by decide +kernel) (by decide +kernel) (by decide +kernel), _, rfl, t, _, _, _, rfl, rfl, ht, at_of (j := 1) rfl rfl, _, rfl, t, _, _, _, rfl, rfl, ht, at_of (j := 2) rfl rfl, _, rfl, t, _, _, _, rfl, rfl, ht, at_of (j := 3) rfl rfl, p, P0, R, h, s, o, rfl, ⟨⟨g, A0⟩, W⟩, fun c => kB .hand (if_pos c), fun c1 c2 => kB .hand ((if_neg (not_not_intro c1)).trans (if_pos c2)), fun c1 c2 e => kB .box ((if_neg (not_not_intro c1)).trans ((if_neg (not_not_intro c2)).trans (atSlot_none e))), fun c1 c2 n b e hb c3 => kB .slot ((if_neg (not_not_intro c1)).trans ((if_neg (not_not_intro c2)).trans (atSlot_no e hb c3))), fun c1 c2 n b e hb c3 r H' hr ⟨⟨g', A'⟩, _⟩ => k _ _ ((if_neg (not_not_intro c1)).trans ((if_neg (not_not_intro c2)).trans (atSlot_yes e hb c3))) r g' H' hr A'⟩
    | empty h s =>
      refine ⟨_, rfl, t, _, _, _, rfl, rfl, ht, at_of (j := 0) rfl (vs0 _), rfl, _, rfl, ?_⟩
      refine if_neg_of (sne (by dsimp only [Deed.wd]; decide +kernel)) ?_
      refine ⟨_, rfl, t, _, _, _, rfl, rfl, ht, at_of (j := 0) rfl (vs0 _), rfl, _, rfl, ?_⟩
      refine if_neg_of (sne (by dsimp only [Deed.wd]; decide +kernel)) ?_
      refine ⟨_, rfl, t, _, _, _, rfl, rfl, ht, at_of (j := 0) rfl (vs0 _), rfl, _, rfl, ?_⟩
      refine if_neg_of (sne (by dsimp only [Deed.wd]; decide +kernel)) ?_
      refine ⟨_, rfl, t, _, _, _, rfl, rfl, ht, at_of (j := 0) rfl (vs0 _), rfl, _, rfl, ?_⟩
      refine if_neg_of (sne (by dsimp only [Deed.wd]; decide +kernel)) ?_
      refine ⟨_, rfl, t, _, _, _, rfl, rfl, ht, at_of (j := 0) rfl (vs0 _), rfl, _, rfl, ?_⟩
      refine if_pos_of (seq rfl) ?_
      exact ⟨_, rfl, p, g.dx, _, rfl, A0.hp, pf_no _ _ _ (by decide +kernel) (by decide +kernel) (by decide +kernel), _, rfl, t, _, _, _, rfl, rfl, ht, at_of (j := 1) rfl rfl, _, rfl, t, _, _, _, rfl, rfl, ht, at_of (j := 2) rfl rfl, p, P0, R, h, s, rfl, ⟨⟨g, A0⟩, W⟩, fun c => kB .hand (if_pos c), fun c1 e => kB .box ((if_neg (not_not_intro c1)).trans (atSlot_none e)), fun c1 n b e hb c3 => kB .slot ((if_neg (not_not_intro c1)).trans (atSlot_no e hb c3)), fun c1 n b e hb c3 r H' hr ⟨⟨g', A'⟩, _⟩ => k _ _ ((if_neg (not_not_intro c1)).trans (atSlot_yes e hb c3)) r g' H' hr A'⟩
    | take h o s =>
      refine ⟨_, rfl, t, _, _, _, rfl, rfl, ht, at_of (j := 0) rfl (vs0 _), rfl, _, rfl, ?_⟩
      refine if_neg_of (sne (by dsimp only [Deed.wd]; decide +kernel)) ?_
      refine ⟨_, rfl, t, _, _, _, rfl, rfl, ht, at_of (j := 0) rfl (vs0 _), rfl, _, rfl, ?_⟩
      refine if_neg_of (sne (by dsimp only [Deed.wd]; decide +kernel)) ?_
      refine ⟨_, rfl, t, _, _, _, rfl, rfl, ht, at_of (j := 0) rfl (vs0 _), rfl, _, rfl, ?_⟩
      refine if_neg_of (sne (by dsimp only [Deed.wd]; decide +kernel)) ?_
      refine ⟨_, rfl, t, _, _, _, rfl, rfl, ht, at_of (j := 0) rfl (vs0 _), rfl, _, rfl, ?_⟩
      refine if_neg_of (sne (by dsimp only [Deed.wd]; decide +kernel)) ?_
      refine ⟨_, rfl, t, _, _, _, rfl, rfl, ht, at_of (j := 0) rfl (vs0 _), rfl, _, rfl, ?_⟩
      refine if_neg_of (sne (by dsimp only [Deed.wd]; decide +kernel)) ?_
      refine ⟨_, rfl, t, _, _, _, rfl, rfl, ht, at_of (j := 0) rfl (vs0 _), rfl, _, rfl, ?_⟩
      refine if_pos_of (seq rfl) ?_
      exact ⟨_, rfl, p, g.dx, _, rfl, A0.hp, pf_no _ _ _ (by decide +kernel) (by decide +kernel) (by decide +kernel), _, rfl, t, _, _, _, rfl, rfl, ht, at_of (j := 1) rfl rfl, _, rfl, t, _, _, _, rfl, rfl, ht, at_of (j := 2) rfl rfl, _, rfl, t, _, _, _, rfl, rfl, ht, at_of (j := 3) rfl rfl, p, P0, R, h, o, s, rfl, ⟨⟨g, A0⟩, W⟩, fun c => kB .hand (if_pos c), fun c1 c2 => kB .hand ((if_neg (not_not_intro c1)).trans (if_pos c2)), fun c1 c2 e => kB .box ((if_neg (not_not_intro c1)).trans ((if_neg (not_not_intro c2)).trans (atSlot_none e))), fun c1 c2 n b e hb c3 => kB .slot ((if_neg (not_not_intro c1)).trans ((if_neg (not_not_intro c2)).trans (atSlot_no e hb c3))), fun c1 c2 n b e hb c3 r H' hr ⟨⟨g', A'⟩, _⟩ => k _ _ ((if_neg (not_not_intro c1)).trans ((if_neg (not_not_intro c2)).trans (atSlot_yes e hb c3))) r g' H' hr A'⟩
    | tidy =>
      refine ⟨_, rfl, t, _, _, _, rfl, rfl, ht, at_of (j := 0) rfl (vs0 _), rfl, _, rfl, ?_⟩
      refine if_neg_of (sne (by dsimp only [Deed.wd]; decide +kernel)) ?_
      refine ⟨_, rfl, t, _, _, _, rfl, rfl, ht, at_of (j := 0) rfl (vs0 _), rfl, _, rfl, ?_⟩
      refine if_neg_of (sne (by dsimp only [Deed.wd]; decide +kernel)) ?_
      refine ⟨_, rfl, t, _, _, _, rfl, rfl, ht, at_of (j := 0) rfl (vs0 _), rfl, _, rfl, ?_⟩
      refine if_neg_of (sne (by dsimp only [Deed.wd]; decide +kernel)) ?_
      refine ⟨_, rfl, t, _, _, _, rfl, rfl, ht, at_of (j := 0) rfl (vs0 _), rfl, _, rfl, ?_⟩
      refine if_neg_of (sne (by dsimp only [Deed.wd]; decide +kernel)) ?_
      refine ⟨_, rfl, t, _, _, _, rfl, rfl, ht, at_of (j := 0) rfl (vs0 _), rfl, _, rfl, ?_⟩
      refine if_neg_of (sne (by dsimp only [Deed.wd]; decide +kernel)) ?_
      refine ⟨_, rfl, t, _, _, _, rfl, rfl, ht, at_of (j := 0) rfl (vs0 _), rfl, _, rfl, ?_⟩
      refine if_neg_of (sne (by dsimp only [Deed.wd]; decide +kernel)) ?_
      exact ⟨_, rfl, p, g, P0, R, rfl, A0, G, fun r H' hr A' => k _ _ rfl r g H' hr A'⟩
/-! ### the word of what is refused -/
structure TxtI (K : PySem.W.Frag) (eH eS eF eB eL eD : Addr) : Prop where
  C : ∀ b : Bad, ExcC K (clsOf eH eS eF eB eL b)
  kit : ∀ (b : Bad) (c : Option Bad), PySem.W.kitOne K (.ref (clsOf eH eS eF eB eL b)) (.ref (cls6 eH eS eF eB eL eD c)) = some (decide (some b = c))
def TupsSB (H : Hp) : List Addr → List (Str × Bool) → Prop := Paired fun q e => H q = some (.tup [V.str e.1, V.bl e.2])
def fitsL (b : Bad) : List (Str × Bool) := [("no hand", decide (some b = some Bad.hand)), ("no size", decide (some b = some Bad.size)), ("full", decide (some b = some Bad.full)), ("no box", decide (some b = some Bad.box)), ("no slot", decide (some b = some Bad.slot)), ("no deed", decide (some b = none))]
theorem fits_one : ∀ b : Bad, ((fitsL b).filter fun e => e.2).map (fun e => e.1) = [badW b] := by
  intro b
  cases b <;> rfl
theorem filter_snocE {l : List (Str × Bool)} {i : Nat} {e : Str × Bool} (h : l[i]? = some e) : ((l.take (i + 1)).filter fun e => e.2) = ((l.take i).filter fun e => e.2) ++ (if e.2 = true then [e] else []) := by
  rw [takeS h, List.filter_append]
  congr 1
  rw [List.filter_cons]
  split <;> rfl
def spWordL (eH eS eF eB eL : Addr) (z : Addr × Obj) : Sp := fun vs H Q _ => ∃ b : Bad, vs = [.ref z.1] ∧ Zc (.ref (clsOf eH eS eF eB eL b)) none z.2 ∧ (∃ us, z.2.data = .fields us) ∧ ∀ H', Same H H' → Q (.str (badW b)) H'
theorem scWordL : FnScope nWordL ["_law_error"] (defScope sWordL) := ⟨rfl, rfl, rfl, by decide +kernel, rfl, by decide +kernel, by decide +kernel⟩
theorem ok_wordl {f eD dW' : Addr} {fd : FuncData} (F : Fun K "_law_word" "_law_word" sWordL f fd) (T : Txt K mg C B eH eS eF eB eL) (TL : TxtL mg) (TN : TxtN K w mg eD dW') (TI : TxtI K eH eS eF eB eL eD) : FnE P w K mg base CX0 1 f fd ["_law_error"] (spWordL eH eS eF eB eL) := by
  refine okE F scWordL (fun z vs H Q E h => ?_) (fun cdv A outer s H0 vs Q E z hot1 hot hr h => ?_)
  · obtain ⟨b, rfl, _⟩ := h
    rfl
  · obtain ⟨ax, oe⟩ := z
    obtain ⟨b, rfl, hz, hf, k⟩ := h
    have nd := scWordL.nd
    have hm : (ax, oe) ∈ (L2H.cxH CX0 P w K mg base nWordL "_law_word" (defScope sWordL) f cdv A outer s H0 E (ax, oe)).pn := List.mem_singleton.mpr rfl
    refine ⟨_, (pss_cons (ps_set (i := 1) nd rfl (Or.inl rfl) (pe_lst (pa_cons (pe_tup (pa_cons pe_str (pa_cons (pe_callB (call_isP hz hf hm) (by rfl) TL.isi PyProof.Rows.boot_isinstance (pa_cons (pv 0) (pa_cons (pe_glob (v := .ref eH) rfl T.eH.g rfl) pa_nil))) pa_nil))) (pa_cons (pe_tup (pa_cons pe_str (pa_cons (pe_callB (call_isP hz hf hm) (by rfl) TL.isi PyProof.Rows.boot_isinstance (pa_cons (pv 0) (pa_cons (pe_glob (v := .ref eS) rfl T.eS.g rfl) pa_nil))) pa_nil))) pa_nil))))
      (pss_cons (ps_set (i := 1) nd rfl (Or.inl rfl) (pe_op op_cat (pv 1) (pe_lst (pa_cons (pe_tup (pa_cons pe_str (pa_cons (pe_callB (call_isP hz hf hm) (by rfl) TL.isi PyProof.Rows.boot_isinstance (pa_cons (pv 0) (pa_cons (pe_glob (v := .ref eF) rfl T.eF.g rfl) pa_nil))) pa_nil))) (pa_cons (pe_tup (pa_cons pe_str (pa_cons (pe_callB (call_isP hz hf hm) (by rfl) TL.isi PyProof.Rows.boot_isinstance (pa_cons (pv 0) (pa_cons (pe_glob (v := .ref eB) rfl T.eB.g rfl) pa_nil))) pa_nil))) pa_nil)))))
      (pss_cons (ps_set (i := 1) nd rfl (Or.inl rfl) (pe_op op_cat (pv 1) (pe_lst (pa_cons (pe_tup (pa_cons pe_str (pa_cons (pe_callB (call_isP hz hf hm) (by rfl) TL.isi PyProof.Rows.boot_isinstance (pa_cons (pv 0) (pa_cons (pe_glob (v := .ref eL) rfl T.eL.g rfl) pa_nil))) pa_nil))) (pa_cons (pe_tup (pa_cons pe_str (pa_cons (pe_callB (call_isP hz hf hm) (by rfl) TL.isi PyProof.Rows.boot_isinstance (pa_cons (pv 0) (pa_cons (pe_glob (v := .ref eD) rfl TN.eD.g rfl) pa_nil))) pa_nil))) pa_nil)))))
      (pss_one (ps_ret (pe_join pe_str (pe_lcH (own := [("_law_word_here", 2), ("_law_fits", 3)]) (g := gTup K 2 (gCons (gName 2) (gCons (gName 3) gNil))) (tt := tB (tVar 3)) (te := tVar 2) hot nd (piB_list (pv 1)) (blkOk_by (N := nWordL) (sc := defScope sWordL) (by decide +kernel)) (fun _ _ _ _ _ hb => pg_tupH hb (pgs_cons (pg_name (i := 2) nd rfl (Or.inl rfl)) (pgs_cons (pg_name (i := 3) nd rfl (Or.inl rfl)) pgs_nil))) (fun _ _ _ _ _ => pts_one (pt_val (pv 3))) (fun _ _ _ _ _ => pv 2)))))))), ?_⟩
    have s2 : 2 ≤ sizeLine := by decide
    have S0 : Same H0 H0 := fun _ _ e => e
    refine ⟨_, rfl, _, _, _, _, rfl, rfl, TI.C b, rfl, .own _, TI.kit b (some .hand), s2, fun q0 hq0 => ?_⟩
    have S1 : Same H0 (upd H0 q0 (.tup [V.str "no hand", V.bl (decide (some b = some Bad.hand))])) := S0.trans (same_upd hq0)
    have T1 : Same H0 (upd H0 q0 (.tup [V.str "no hand", V.bl (decide (some b = some Bad.hand))])) := same_upd hq0
    have kq0 : upd H0 q0 (.tup [V.str "no hand", V.bl (decide (some b = some Bad.hand))]) q0 = some (.tup [V.str "no hand", V.bl (decide (some b = some Bad.hand))]) := upd_same
    generalize upd H0 q0 (.tup [V.str "no hand", V.bl (decide (some b = some Bad.hand))]) = H1 at S1 T1 kq0 ⊢
    refine ⟨_, rfl, _, _, _, _, rfl, rfl, TI.C b, rfl, .own _, TI.kit b (some .size), s2, fun q1 hq1 => ?_⟩
    have S2 : Same H0 (upd H1 q1 (.tup [V.str "no size", V.bl (decide (some b = some Bad.size))])) := S1.trans (same_upd hq1)
    have T2 : Same H1 (upd H1 q1 (.tup [V.str "no size", V.bl (decide (some b = some Bad.size))])) := same_upd hq1
    have kq1 : upd H1 q1 (.tup [V.str "no size", V.bl (decide (some b = some Bad.size))]) q1 = some (.tup [V.str "no size", V.bl (decide (some b = some Bad.size))]) := upd_same
    generalize upd H1 q1 (.tup [V.str "no size", V.bl (decide (some b = some Bad.size))]) = H2 at S2 T2 kq1 ⊢
    have kq0 := T2 _ _ kq0
    refine ⟨(by show 2 ≤ sizeLine; decide), fun la hla => ?_⟩
    have S3 : Same H0 (upd H2 la (.lst [V.ref q0, V.ref q1])) := S2.trans (same_upd hla)
    have T3 : Same H2 (upd H2 la (.lst [V.ref q0, V.ref q1])) := same_upd hla
    have kla : upd H2 la (.lst [V.ref q0, V.ref q1]) la = some (.lst [V.ref q0, V.ref q1]) := upd_same
    generalize upd H2 la (.lst [V.ref q0, V.ref q1]) = H3 at S3 T3 kla ⊢
    have kq0 := T3 _ _ kq0
    have kq1 := T3 _ _ kq1
    refine ⟨_, rfl, ?_⟩
    refine ⟨_, rfl, _, _, _, _, rfl, rfl, TI.C b, rfl, .own _, TI.kit b (some .full), s2, fun q2 hq2 => ?_⟩
    have S4 : Same H0 (upd H3 q2 (.tup [V.str "full", V.bl (decide (some b = some Bad.full))])) := S3.trans (same_upd hq2)
    have T4 : Same H3 (upd H3 q2 (.tup [V.str "full", V.bl (decide (some b = some Bad.full))])) := same_upd hq2
    have kq2 : upd H3 q2 (.tup [V.str "full", V.bl (decide (some b = some Bad.full))]) q2 = some (.tup [V.str "full", V.bl (decide (some b = some Bad.full))]) := upd_same
    generalize upd H3 q2 (.tup [V.str "full", V.bl (decide (some b = some Bad.full))]) = H4 at S4 T4 kq2 ⊢
    have kq0 := T4 _ _ kq0
    have kq1 := T4 _ _ kq1
    have kla := T4 _ _ kla
    refine ⟨_, rfl, _, _, _, _, rfl, rfl, TI.C b, rfl, .own _, TI.kit b (some .box), s2, fun q3 hq3 => ?_⟩
    have S5 : Same H0 (upd H4 q3 (.tup [V.str "no box", V.bl (decide (some b = some Bad.box))])) := S4.trans (same_upd hq3)
    have T5 : Same H4 (upd H4 q3 (.tup [V.str "no box", V.bl (decide (some b = some Bad.box))])) := same_upd hq3
    have kq3 : upd H4 q3 (.tup [V.str "no box", V.bl (decide (some b = some Bad.box))]) q3 = some (.tup [V.str "no box", V.bl (decide (some b = some Bad.box))]) := upd_same
    generalize upd H4 q3 (.tup [V.str "no box", V.bl (decide (some b = some Bad.box))]) = H5 at S5 T5 kq3 ⊢
    have kq0 := T5 _ _ kq0
    have kq1 := T5 _ _ kq1
    have kla := T5 _ _ kla
    have kq2 := T5 _ _ kq2
    refine ⟨(by show 2 ≤ sizeLine; decide), fun lb hlb => ?_⟩
    have S6 : Same H0 (upd H5 lb (.lst [V.ref q2, V.ref q3])) := S5.trans (same_upd hlb)
    have T6 : Same H5 (upd H5 lb (.lst [V.ref q2, V.ref q3])) := same_upd hlb
    have klb : upd H5 lb (.lst [V.ref q2, V.ref q3]) lb = some (.lst [V.ref q2, V.ref q3]) := upd_same
    generalize upd H5 lb (.lst [V.ref q2, V.ref q3]) = H6 at S6 T6 klb ⊢
    have kq0 := T6 _ _ kq0
    have kq1 := T6 _ _ kq1
    have kla := T6 _ _ kla
    have kq2 := T6 _ _ kq2
    have kq3 := T6 _ _ kq3
    refine ⟨la, lb, _, _, rfl, rfl, kla, klb, (by show 2 + 2 ≤ sizeLine; decide), fun lc hlc => ?_⟩
    have S7 : Same H0 (upd H6 lc (.lst ([V.ref q0, V.ref q1] ++ [V.ref q2, V.ref q3]))) := S6.trans (same_upd hlc)
    have T7 : Same H6 (upd H6 lc (.lst ([V.ref q0, V.ref q1] ++ [V.ref q2, V.ref q3]))) := same_upd hlc
    have klc : upd H6 lc (.lst ([V.ref q0, V.ref q1] ++ [V.ref q2, V.ref q3])) lc = some (.lst [V.ref q0, V.ref q1, V.ref q2, V.ref q3]) := upd_same
    generalize upd H6 lc (.lst ([V.ref q0, V.ref q1] ++ [V.ref q2, V.ref q3])) = H7 at S7 T7 klc ⊢
    have kq0 := T7 _ _ kq0
    have kq1 := T7 _ _ kq1
    have kla := T7 _ _ kla
    have kq2 := T7 _ _ kq2
    have kq3 := T7 _ _ kq3
    have klb := T7 _ _ klb
    refine ⟨_, rfl, ?_⟩
    refine ⟨_, rfl, _, _, _, _, rfl, rfl, TI.C b, rfl, .own _, TI.kit b (some .slot), s2, fun q4 hq4 => ?_⟩
    have S8 : Same H0 (upd H7 q4 (.tup [V.str "no slot", V.bl (decide (some b = some Bad.slot))])) := S7.trans (same_upd hq4)
    have T8 : Same H7 (upd H7 q4 (.tup [V.str "no slot", V.bl (decide (some b = some Bad.slot))])) := same_upd hq4
    have kq4 : upd H7 q4 (.tup [V.str "no slot", V.bl (decide (some b = some Bad.slot))]) q4 = some (.tup [V.str "no slot", V.bl (decide (some b = some Bad.slot))]) := upd_same
    generalize upd H7 q4 (.tup [V.str "no slot", V.bl (decide (some b = some Bad.slot))]) = H8 at S8 T8 kq4 ⊢
    have kq0 := T8 _ _ kq0
    have kq1 := T8 _ _ kq1
    have kla := T8 _ _ kla
    have kq2 := T8 _ _ kq2
    have kq3 := T8 _ _ kq3
    have klb := T8 _ _ klb
    have klc := T8 _ _ klc
    refine ⟨_, rfl, _, _, _, _, rfl, rfl, TI.C b, rfl, .own _, TI.kit b (none), s2, fun q5 hq5 => ?_⟩
    have S9 : Same H0 (upd H8 q5 (.tup [V.str "no deed", V.bl (decide (some b = none))])) := S8.trans (same_upd hq5)
    have T9 : Same H8 (upd H8 q5 (.tup [V.str "no deed", V.bl (decide (some b = none))])) := same_upd hq5
    have kq5 : upd H8 q5 (.tup [V.str "no deed", V.bl (decide (some b = none))]) q5 = some (.tup [V.str "no deed", V.bl (decide (some b = none))]) := upd_same
    generalize upd H8 q5 (.tup [V.str "no deed", V.bl (decide (some b = none))]) = H9 at S9 T9 kq5 ⊢
    have kq0 := T9 _ _ kq0
    have kq1 := T9 _ _ kq1
    have kla := T9 _ _ kla
    have kq2 := T9 _ _ kq2
    have kq3 := T9 _ _ kq3
    have klb := T9 _ _ klb
    have klc := T9 _ _ klc
    have kq4 := T9 _ _ kq4
    refine ⟨(by show 2 ≤ sizeLine; decide), fun ld hld => ?_⟩
    have S10 : Same H0 (upd H9 ld (.lst [V.ref q4, V.ref q5])) := S9.trans (same_upd hld)
    have T10 : Same H9 (upd H9 ld (.lst [V.ref q4, V.ref q5])) := same_upd hld
    have kld : upd H9 ld (.lst [V.ref q4, V.ref q5]) ld = some (.lst [V.ref q4, V.ref q5]) := upd_same
    generalize upd H9 ld (.lst [V.ref q4, V.ref q5]) = H10 at S10 T10 kld ⊢
    have kq0 := T10 _ _ kq0
    have kq1 := T10 _ _ kq1
    have kla := T10 _ _ kla
    have kq2 := T10 _ _ kq2
    have kq3 := T10 _ _ kq3
    have klb := T10 _ _ klb
    have klc := T10 _ _ klc
    have kq4 := T10 _ _ kq4
    have kq5 := T10 _ _ kq5
    refine ⟨lc, ld, _, _, rfl, rfl, klc, kld, (by show 4 + 2 ≤ sizeLine; decide), fun le hle => ?_⟩
    have S11 : Same H0 (upd H10 le (.lst ([V.ref q0, V.ref q1, V.ref q2, V.ref q3] ++ [V.ref q4, V.ref q5]))) := S10.trans (same_upd hle)
    have T11 : Same H10 (upd H10 le (.lst ([V.ref q0, V.ref q1, V.ref q2, V.ref q3] ++ [V.ref q4, V.ref q5]))) := same_upd hle
    have kle : upd H10 le (.lst ([V.ref q0, V.ref q1, V.ref q2, V.ref q3] ++ [V.ref q4, V.ref q5])) le = some (.lst [V.ref q0, V.ref q1, V.ref q2, V.ref q3, V.ref q4, V.ref q5]) := upd_same
    generalize upd H10 le (.lst ([V.ref q0, V.ref q1, V.ref q2, V.ref q3] ++ [V.ref q4, V.ref q5])) = H11 at S11 T11 kle ⊢
    have kq0 := T11 _ _ kq0
    have kq1 := T11 _ _ kq1
    have kla := T11 _ _ kla
    have kq2 := T11 _ _ kq2
    have kq3 := T11 _ _ kq3
    have klb := T11 _ _ klb
    have klc := T11 _ _ klc
    have kq4 := T11 _ _ kq4
    have kq5 := T11 _ _ kq5
    have kld := T11 _ _ kld
    have TS : TupsSB H11 [q0, q1, q2, q3, q4, q5] (fitsL b) := .cons kq0 (.cons kq1 (.cons kq2 (.cons kq3 (.cons kq4 (.cons kq5 .nil)))))
    have kle : H11 le = some (.lst ([q0, q1, q2, q3, q4, q5].map V.ref)) := kle
    have ln : [q0, q1, q2, q3, q4, q5].length = (fitsL b).length := rfl
    generalize [q0, q1, q2, q3, q4, q5] = qs at TS kle ln
    refine ⟨⟨_, rfl⟩, _, rfl, le, rfl, ⟨_, SqL.of kle⟩, fun D hD => ?_⟩
    refine lc_it walk_list (fun j H' => Same H11 H' ∧ H' D = some (.lst ((((fitsL b).take j).filter fun e => e.2).map fun e => V.str e.1))) ⟨samePut (fun _ _ e => e) hD _, upd_same⟩ (fun j H' _ ⟨S, _⟩ => SqL.of (S _ _ kle)) ?_ ?_
    · rintro j y H8 H9 hj ⟨S8, kd8⟩ ⟨rfl, hy⟩
      obtain ⟨q, hq1, rfl⟩ := refs_at hy
      obtain ⟨e, he, hqe⟩ := paired_at TS j q hq1
      have hqe8 := S8 _ _ hqe
      refine ⟨q, _, rfl, SqT.of hqe8, rfl, _, _, rfl, _, _, rfl, rfl, rfl, _, rfl, e.2, rfl, ?_⟩
      have fs := filter_snocE he
      by_cases c : e.2 = true
      · rw [if_pos c] at fs
        refine if_pos_of c ⟨_, rfl, _, kd8, ?_, sameOff S8 hD _, ?_⟩
        · rw [List.length_map]
          refine Nat.lt_of_le_of_lt (List.length_filter_le _ _) ?_
          rw [List.length_take, sizeLine_eq]
          have : (fitsL b).length = 6 := rfl
          omega
        · rw [upd_same, fs, List.map_append]
          rfl
      · rw [if_neg c, List.append_nil] at fs
        refine if_neg_of (by simpa using c) ⟨S8, ?_⟩
        rw [fs]
        exact kd8
    rintro H8 ⟨S8, kD⟩
    rw [List.length_map, ln, List.take_length] at kD
    have e1 : (((fitsL b).filter fun e => e.2).map fun e => V.str e.1) = [badW b].map V.str := by rw [← fits_one b, List.map_map]; rfl
    rw [e1] at kD
    refine ⟨_, D, _, rfl, rfl, .inl (SqL.of kD), ?_, ?_⟩
    · have := badW_len b
      show ((badW b).length + 0) + 1 * ("" : Str).length ≤ _
      have e0 : ("" : Str).length = 0 := by decide +kernel
      omega
    · rw [txt_join]
      exact k _ (S11.trans S8)
/-! ### a deed told, refused or not, by the methods or by done -/
structure TxtP (K : PySem.W.Frag) (mg : Str → Option Value) (eP eH eS eF eB eL : Addr) : Prop where
  g : mg "PileError" = some (.ref eP)
  x : ∀ e : Bad, PySem.W.exmOne K (.ref (clsOf eH eS eF eB eL e)) (.ref eP) = some true
theorem exm_sub {S : Addr} {cls : Value} (b : PySem.W.subIn K (.ref S) (.type "BaseException") = some true) (t : PySem.W.typeIn K (.ref S) = some (.type "type")) (i : PySem.W.isClsIn K S = true) {z : Bool} (s : PySem.W.subIn K cls (.ref S) = some z) : PySem.W.exmOne K cls (.ref S) = some z := by
  have h1 : (PySem.W.subIn K (.ref S) (.type "BaseException") == some true) = true := by rw [b] <;> rfl
  have h2 : ((PySem.W.clsIn K S).isSome && PySem.W.typeIn K (.ref S) == some (.type "type")) = true := by rw [show (PySem.W.clsIn K S).isSome = true from i, t] <;> rfl
  unfold PySem.W.exmOne
  rw [if_pos h1]
  exact (if_pos h2).trans s
theorem pss_imp {X : Cx} {b : List Stmt} {t t' : TS} (h : PSs X b t) (i : ∀ D σ H, t' D σ H → t D σ H) : PSs X b t' := ⟨fun pins s σ H D I q => h.run pins s σ H D I (i _ _ _ q)⟩
def tsTold (eH eS eF eB eL : Addr) (a : Addr) (cls : Value) (d : Option Addr) : TS := fun D σ H => ∃ (b : Bad) (x0 x1 x2 : Option V), cls = .ref (clsOf eH eS eF eB eL b) ∧ d = none ∧ σ = [x0, x1, x2, some (.ref a)] ∧ ∀ H', Same H H' → D.rt (.str (badW b)) H'
def spToldL (K : PySem.W.Frag) (C B : Addr) : Sp := fun vs H Q _ => ∃ (p t : Addr) (way : Int) (g : Geo) (P : Pl) (R : Hp) (d : Deed), vs = [.ref p, .ref t, .int way] ∧ PileAt C B p g P R H ∧ Good P ∧ SqT K H t d.vs ∧
  (∀ e, act P d = .bad e → ∀ H', Same H H' → Q (.str (badW e)) H') ∧
  (∀ P' f, act P d = .fine P' f → ∀ (r : Addr) (g' : Geo) (H' : Hp), R r = none → PileAt C B p g' P' (upd R r (.lst (f.map V.int))) H' → Q (.ref r) H')
theorem scTold : FnScope nTold ["_law_pile", "_law_deed", "_law_way"] (defScope sTold) := ⟨rfl, rfl, rfl, by decide +kernel, rfl, by decide +kernel, by decide +kernel⟩
theorem ok_told {f eP eD dW' fI fM fO fR fU fE fQ fH fT fG fA fS fX fY fP fL fB fK fCS fCA fPA fRE fTR fTY fDO fRD fRN fAN fPY fW fD fN fZ5 fT1 fT2 fT3 fT4 fT5 fT6 fT7 fT8 fT9 fTA fTB_ fTC fTD : Addr} {fd dI dM dO dR dU dE dQ dH dT dG dA dS dX dY dP dL dB dK dCS dCA dPA dRE dTR dTY dDO dRD dRN dAN dPY dW dD dN dZ5 dT1 dT2 dT3 dT4 dT5 dT6 dT7 dT8 dT9 dTA dTB_ dTC dTD : FuncData} (F : Fun K "_law_told" "_law_told" sTold f fd) (T : Txt K mg C B eH eS eF eB eL) (TL : TxtL mg) (TN : TxtN K w mg eD dW') (TP : TxtP K mg eP eH eS eF eB eL) (TI : TxtI K eH eS eF eB eL eD) (D : Defs K mg C B fI fM fO fR fU fE fQ fH fT fG fA fS fX fY fP fL fB fK fCS fCA fPA fRE fTR fTY fDO fRD fRN fAN fPY fW fD fN fZ5 fT1 fT2 fT3 fT4 fT5 fT6 fT7 fT8 fT9 fTA fTB_ fTC fTD dI dM dO dR dU dE dQ dH dT dG dA dS dX dY dP dL dB dK dCS dCA dPA dRE dTR dTY dDO dRD dRN dAN dPY dW dD dN dZ5 dT1 dT2 dT3 dT4 dT5 dT6 dT7 dT8 dT9 dTA dTB_ dTC dTD) : FnOk P w K mg base CX0 8 f fd ["_law_pile", "_law_deed", "_law_way"] (spToldL K C B) := by
  have GM : FnOk P w K mg base (L2N.CX P w) 3 fM dM ["self", "hand", "size"] (spMake C B eH eS eF) := ok_make D.FM T D.FL D.bL D.mL D.FP D.bP D.mP D.MB D.FB D.bB D.FK D.bK D.gK
  have GO : FnOk P w K mg base (L2N.CX P w) 3 fO dO ["self", "hand", "other"] (spHold C B eH) := ok_hold D.FO T D.FL D.bL D.mL D.FP D.bP D.mP D.FK D.bK D.gK
  have GR : FnOk P w K mg base (L2N.CX P w) 3 fR dR ["self", "hand"] (spDrop C B eH) := ok_drop D.FR T D.FL D.bL D.mL D.FP D.bP D.mP D.FK D.bK D.gK
  have GU : FnOk P w K mg base (L2N.CX P w) 3 fU dU ["self", "hand", "slot", "other"] (spPut C B eH eB eL) := ok_put D.FU T D.FL D.bL D.mL D.FP D.bP D.mP D.FK D.bK D.gK D.FY D.bY D.mY D.FCS D.bCS D.gCS
  have GE : FnOk P w K mg base (L2N.CX P w) 3 fE dE ["self", "hand", "slot"] (spEmpty C B eH eB eL) := ok_empty D.FE T D.FL D.bL D.mL D.FP D.bP D.mP D.FK D.bK D.gK D.FY D.bY D.mY D.FCS D.bCS D.gCS
  have GQ : FnOk P w K mg base (L2N.CX P w) 3 fQ dQ ["self", "hand", "other", "slot"] (spTake C B eH eB eL) := ok_take D.FQ T D.FL D.bL D.mL D.FP D.bP D.mP D.FK D.bK D.gK D.FY D.bY D.mY D.FCS D.bCS D.gCS
  have GT : FnOk P w K mg base (L2N.CX P w) 2 fT dT ["self", "number"] (spPoints C B eB) := ok_points D.FT T D.FX D.bX D.mX
  have GG : FnOk P w K mg base (L2N.CX P w) 2 fG dG ["self", "number"] (spWeighs C B eB) := ok_weighs D.FG T D.FX D.bX D.mX
  have GS : FnOk P w K mg base CX0 1 fS dS ["self"] (spSuspects C B) := ok_suspects D.FS T
  have GCA : FnOk P w K mg base CX0 1 fCA dCA ["self", "numbers"] (spClear C B) := ok_clear D.FCA T
  have GPA : FnOk P w K mg base (L2N.CX P w) 3 fPA dPA ["pile", "number"] (spPointedAt C B eB) := ok_pointedat D.FPA T GT D.bT D.mT
  have GRE : FnOk P w K mg base (L2N.CX P w) 4 fRE dRE ["pile", "numbers"] (spReached K C B eB) := ok_reached D.FRE T GPA D.FPA D.bPA D.gPA
  have GTR : FnOk P w K mg base CX0 5 fTR dTR ["pile"] (spTrials C B) := ok_trials D.FTR T GPA D.FPA D.bPA D.gPA GRE D.FRE D.bRE D.gRE GS D.bS D.mS GG D.bG D.mG
  have GTY : FnOk P w K mg base CX0 6 fTY dTY ["pile"] (spTidy C B) := ok_tidy D.FTY T GTR D.FTR D.bTR D.gTR GRE D.FRE D.bRE D.gRE GCA D.bCA D.mCA
  have GDO : FnOk P w K mg base (L2N.CX P w) 7 fDO dDO ["pile", "deed"] (spDone K C B eH eS eF eB eL) := ok_donep D.FDO T GM D.bM D.mM GO D.bO D.mO GR D.bR D.mR GU D.bU D.mU GE D.bE D.mE GQ D.bQ D.mQ GTY D.FTY D.bTY D.gTY
  have GG : FnOk P w K mg base (L2N.CX P w) 2 fG dG ["self", "number"] (spWeighs C B eB) := ok_weighs D.FG T D.FX D.bX D.mX
  have GTA : FnOk P w K mg base (L2N.CX P w) 7 fTA dTA ["_law_pile", "_law_deed"] (spDone K C B eH eS eF eB eL) := ok_called D.FTA T D
  have GTB : FnE P w K mg base CX0 1 fTB_ dTB_ ["_law_error"] (spWordL eH eS eF eB eL) := ok_wordl D.FTB_ T TL TN TI
  refine F.ok scTold (fun vs H Q E h => ?_) (fun cdv A outer s H vs Q E hr h => ?_)
  · obtain ⟨p, t, way, g, P, R, d, rfl, _⟩ := h
    rfl
  · obtain ⟨p, t, way, g, P0, R, d, rfl, A0, G, ht, kb, kf⟩ := h
    have nd := scTold.nd
    have hr7 : Room 7 _ := hr
    have hrH := L2H.roomH_of (hr.mono (show 1 ≤ 7 by decide))
    refine ⟨_, pss_one (L2N.ps_try_as (i := 3) (tb := fun W => tSeq (tIfS (tTest (tOp rEq (tVar 2) (tC (.int 0)))) (tRet (tCallS (spDone K C B eH eS eF eB eL) (WE W) (tCons (tVar 0) (tCons (tVar 1) tNil)))) tNext) (tRet (tCallS (spDone K C B eH eS eF eB eL) (WE W) (tCons (tVar 0) (tCons (tVar 1) tNil))))) (Wout := fun _ _ _ _ => False) (ts := tsTold eH eS eF eB eL) rfl rfl nd rfl rfl ⟨rfl, by decide, .inl TP.g⟩ takes0N
      (fun W pn xe tk _ => pss_cons (ps_if (pt_cmpR op_eq (pv 2) pe_int (nomark _)) (pss_one (ps_ret (pe_callS GTA hr7 (by rfl) D.gTA D.FTA.kp D.bTA (fun σ => L2N.passAt tk σ) (pa_cons (pv 0) (pa_cons (pv 1) pa_nil))))) pss_nil) (pss_one (ps_ret (pe_callS GDO hr7 (by rfl) D.gDO D.FDO.kp D.bDO (fun σ => L2N.passAt tk σ) (pa_cons (pv 0) (pa_cons (pv 1) pa_nil))))))
      (fun a oe cls d pn hz hf => pss_imp (pss_one (ps_ret (pe_callE (z := (a, oe)) GTB ⟨hrH.dp, hrH.un⟩ ⟨rfl, hf.elim fun us hd => ⟨us, hd, hz.2.2 us hd⟩⟩ List.mem_cons_self (by rfl) D.gTB_ D.FTB_.kp D.bTB_ passAt0 (pa_cons (pv 3) pa_nil)))) (fun D1 σ1 H1 q => ?_))), ?_⟩
    · obtain ⟨b, x0, x1, x2, rfl, rfl, rfl, kk⟩ := q
      exact ⟨_, rfl, b, rfl, hz.zc, hf, kk⟩
    have fin : spDone K C B eH eS eF eB eL [.ref p, .ref t] H Q (WE (wAs K (.ref eP) 3 (tsTold eH eS eF eB eL) (fun _ _ _ _ => False) { nx := fun _ H' => Q .non H', rt := Q }) (L2.start nTold [.ref p, .ref t, .int way])) := by
      refine ⟨p, t, g, P0, R, d, rfl, A0, G, ht, fun e he => ⟨true, TP.x e, fun _ ax hax => ⟨e, _, _, _, rfl, rfl, rfl, kb e he⟩, fun q => nomatch q⟩, fun P' f hf r g' H' hr A' => kf P' f hf r g' H' hr A'⟩
    refine ⟨_, rfl, rfl, _, rfl, ?_⟩
    by_cases c : way = 0
    · refine if_pos_of (decide_eq_true (by rw [c])) ?_
      exact ⟨_, rfl, _, rfl, fin⟩
    · refine if_neg_of (decide_eq_false (by intro z; injection z with z; exact c z)) ?_
      exact ⟨_, rfl, _, rfl, fin⟩
/-! ### a deed done beside the law's own pile -/
/-- one more is kept: what was told, and its copy -/
def keptUp (R : Hp) (r c u lk : Addr) (F : List Int) (ks : List Addr) : Hp := upd (upd (upd (upd R r (.lst (F.map V.int))) c (.lst (F.map V.int))) u (.tup [.ref r, .ref c])) lk (.lst ((ks ++ [u]).map V.ref))
/-- what the law's own pile tells of the deed that was just done -/
inductive Said (R : Hp) (P : Pl) (x : Deed) : Pl → V → V → Prop
  | bad {e : Bad} {tv : V} : act P x = .bad e → Said R P x P tv (.str (badW e))
  | fine {P' : Pl} {F : List Int} {rt : Addr} : act P x = .fine P' F → R rt = some (.lst (F.map V.int)) → Said R P x P' (.ref rt) (.str Str.empty)
def spDoneSo (K : PySem.W.Frag) (C B : Addr) : Sp := fun vs H Q _ => ∃ (p t q lh lr la ld lk : Addr) (way : Int) (tv wv : V) (hs : List (Option Int)) (rs : List (List (Option Int))) (al d : List Int) (ra : List Addr) (g : Geo) (P P' : Pl) (R : Hp) (x : Deed) (ks : List Addr), vs = [.ref p, .ref t, .ref q, .int way] ∧ PileAt C B p g P R H ∧ Good P ∧ R t = some (.tup x.vs) ∧ OwnD R q lh lr la ld lk tv wv hs rs al d ra ∧ PlainR P' hs rs al d ∧ d.length < 4000 ∧ R lk = some (.lst (ks.map V.ref)) ∧ ¬ OwnA q lh lr la ld ra lk ∧ ks.length ≤ 10000 ∧ Said R P x P' tv wv ∧
  (∀ (g' : Geo) (H' : Hp), PileAt C B p g' P' R H' → Q (.bl true) H') ∧
  (∀ (g' : Geo) (H' : Hp) (r c u : Addr) (F : List Int), R r = none → upd R r (.lst (F.map V.int)) c = none → upd (upd R r (.lst (F.map V.int))) c (.lst (F.map V.int)) u = none → PileAt C B p g' P' (keptUp R r c u lk F ks) H' → Q (.bl true) H')
theorem pd_get {H : Hp} {q lh lr la ld lk : Addr} {tv wv : V} {hs : List (Option Int)} {rs : List (List (Option Int))} {al d : List Int} {ra : List Addr} (o : OwnD H q lh lr la ld lk tv wv hs rs al d ra) : DGet H q (.str "wrong") (some wv) ∧ DGet H q (.str "told") (some tv) ∧ DGet H q (.str "kept") (some (.ref lk)) :=
  ⟨by rw [← pd_wrong lh lr la ld lk tv wv]; exact DGet.k (k := Sum.inr "wrong") o.e, by rw [← pd_told lh lr la ld lk tv wv]; exact DGet.k (k := Sum.inr "told") o.e, by rw [← pd_kept lh lr la ld lk tv wv]; exact DGet.k (k := Sum.inr "kept") o.e⟩
theorem OwnD.off {H : Hp} {q lh lr la ld lk : Addr} {tv wv : V} {hs : List (Option Int)} {rs : List (List (Option Int))} {al d : List Int} {ra : List Addr} (x : OwnD H q lh lr la ld lk tv wv hs rs al d ra) {b : Addr} {o : HO} (n : ¬ OwnA q lh lr la ld ra b) : OwnD (upd H b o) q lh lr la ld lk tv wv hs rs al d ra := by
  have nq : q ≠ b := fun z => n (.inl z.symm)
  have e : upd H b o q = some (.dK (pileD lh lr la ld lk tv wv)) := by rw [upd_ne nq]; exact x.e
  exact ⟨e, .of e (x.o.rm.at_upd ⟨fun z => n (.inr (.inr (.inr (.inr (.inr z))))), fun z => n (.inr (.inl z)), fun z => n (.inr (.inr (.inl z)))⟩) (by rw [upd_ne (fun z => n (.inr (.inr (.inr (.inl z.symm)))))]; exact x.o.a) (by rw [upd_ne (fun z => n (.inr (.inr (.inr (.inr (.inl z.symm))))))]; exact x.o.d) x.o.na x.o.nd⟩
theorem scDoneSo : FnScope nDoneSo ["_law_pile", "_law_deed", "_law_own_here", "_law_way"] (defScope sDoneSo) := ⟨rfl, rfl, rfl, by decide +kernel, rfl, by decide +kernel, by decide +kernel⟩
theorem ok_doneso {f eP eD dW' fI fM fO fR fU fE fQ fH fT fG fA fS fX fY fP fL fB fK fCS fCA fPA fRE fTR fTY fDO fRD fRN fAN fPY fW fD fN fZ5 fT1 fT2 fT3 fT4 fT5 fT6 fT7 fT8 fT9 fTA fTB_ fTC fTD : Addr} {fd dI dM dO dR dU dE dQ dH dT dG dA dS dX dY dP dL dB dK dCS dCA dPA dRE dTR dTY dDO dRD dRN dAN dPY dW dD dN dZ5 dT1 dT2 dT3 dT4 dT5 dT6 dT7 dT8 dT9 dTA dTB_ dTC dTD : FuncData} (F : Fun K "_law_done_so" "_law_done_so" sDoneSo f fd) (T : Txt K mg C B eH eS eF eB eL) (TL : TxtL mg) (TN : TxtN K w mg eD dW') (TP : TxtP K mg eP eH eS eF eB eL) (TI : TxtI K eH eS eF eB eL eD) (D : Defs K mg C B fI fM fO fR fU fE fQ fH fT fG fA fS fX fY fP fL fB fK fCS fCA fPA fRE fTR fTY fDO fRD fRN fAN fPY fW fD fN fZ5 fT1 fT2 fT3 fT4 fT5 fT6 fT7 fT8 fT9 fTA fTB_ fTC fTD dI dM dO dR dU dE dQ dH dT dG dA dS dX dY dP dL dB dK dCS dCA dPA dRE dTR dTY dDO dRD dRN dAN dPY dW dD dN dZ5 dT1 dT2 dT3 dT4 dT5 dT6 dT7 dT8 dT9 dTA dTB_ dTC dTD) : FnOk P w K mg base CX0 9 f fd ["_law_pile", "_law_deed", "_law_own_here", "_law_way"] (spDoneSo K C B) := by
  have GS : FnOk P w K mg base CX0 1 fS dS ["self"] (spSuspects C B) := ok_suspects D.FS T
  have GN : FnOk P w K mg base CX0 2 fN dN ["_law_found", "_law_due"] spNums := ok_nums D.FN TL D.FW D.bW D.gW
  have GW : FnOk P w K mg base CX0 1 fW dW ["_law_found"] spWhole := ok_whole D.FW TL
  have GTC : FnOk P w K mg base CX0 8 fTC dTC ["_law_pile", "_law_deed", "_law_way"] (spToldL K C B) := ok_told D.FTC T TL TN TP TI D
  refine F.ok scDoneSo (fun vs H Q E h => ?_) (fun cdv A outer s H vs Q E hr h => ?_)
  · obtain ⟨p, t, q, lh, lr, la, ld, lk, way, tv, wv, hs, rs, al, d, ra, g, P, P', R, x, ks, rfl, _⟩ := h
    rfl
  · obtain ⟨p, t, q, lh, lr, la, ld, lk, way, tv, wv, hs, rs, al, d, ra, g, P0, P', R, x, ks, rfl, A0, G, ht, OD, PR, d4, hlk, nlk, kl, said, k1, k2⟩ := h
    have nd := scDoneSo.nd
    have hu := hu_of hr
    have hr1 : Room 1 _ := hr.mono (by decide)
    have hr2 : Room 2 _ := hr.mono (by decide)
    have hr8 : Room 8 _ := hr
    refine ⟨_, (pss_cons (ps_set (i := 4) nd rfl (Or.inl rfl) (pe_call GTC hr8 (by rfl) D.gTC D.FTC.kp D.bTC .nil pass0 (pa_cons (pv 0) (pa_cons (pv 1) (pa_cons (pv 3) pa_nil)))))
      (pss_cons (ps_if (PW.pt (pw_and (pt_cmpR op_ne (pe_dget hu (pv 2) pe_str (fun _ _ => rfl)) pe_str (nomark _)) (pw_and1 (pt_cmpR op_ne (pv 4) (pe_dget hu (pv 2) pe_str (fun _ _ => rfl)) (nomark _))))) (pss_one (ps_ret pe_bl)) pss_nil)
      (pss_cons (ps_mid (ps_if (pt_cmpR op_eq (pe_dget hu (pv 2) pe_str (fun _ _ => rfl)) pe_str (nomark _)) (pss_cons (ps_if (pt_not (pt_val (pe_call GN hr2 (by rfl) D.gN D.FN.kp D.bN .nil pass0 (pa_cons (pv 4) (pa_cons (pe_dget hu (pv 2) pe_str (fun _ _ => rfl)) pa_nil))))) (pss_one (ps_ret pe_bl)) pss_nil)
      (pss_one (ps_expr (pe_bm PySem.F.plainAttrs_list PySem.F.slot_list_append PySem.F.type_list_append mt_append (pe_dget hu (pv 2) pe_str (fun _ _ => rfl)) (pa_cons (pe_tup (pa_cons (pv 4) (pa_cons (pe_callTy call_list_of (by rfl) TL.list (by decide +kernel) (pa_cons (pv 4) pa_nil)) pa_nil))) pa_nil))))) pss_nil))
      (pss_one (ps_ret (pe_call GN hr2 (by rfl) D.gN D.FN.kp D.bN .nil pass0 (pa_cons (pe_meth0 (pv 0) T.clC D.mS GS hr1 D.bS .nil pass0) (pa_cons (pe_callB (cr_sortedSet rfl) (by rfl) TL.sorted (by decide +kernel) (pa_cons (pe_callTy (cr_setW rfl) (by rfl) TL.set (by decide +kernel) (pa_cons (pe_lc (own := [("_law_one", 5)]) (g := gName 5) (tt := tTest (tOp (rIn K false) (tVar 5) (tDGet (tVar 2) (tC (.str "alive"))))) (te := tVar 5) (by rfl) nd (pi_list (pe_dget hu (pv 2) pe_str (fun _ _ => rfl))) (blkOk_by (N := nDoneSo) (sc := defScope sDoneSo) (by decide +kernel)) (fun _ _ _ _ _ => pg_name (i := 5) nd rfl (Or.inl rfl)) (fun _ _ _ _ _ => pts_one (pt_cmpR op_in_seq (pv 5) (pe_dget hu (pv 2) pe_str (fun _ _ => rfl)) (by rfl))) (fun _ _ _ _ _ => pv 5)) pa_nil)) pa_nil)) pa_nil)))))))), ?_⟩
    have seq : ∀ {z z' : Str}, z = z' → decide (V.str z = V.str z') = true := fun e => decide_eq_true (by rw [e])
    have sne : ∀ {z z' : Str}, z ≠ z' → decide (V.str z = V.str z') = false := fun e => decide_eq_false (by intro q; injection q with q; exact e q)
    have G' : Good P' := by
      cases said with
      | bad _ => exact G
      | fine h _ => exact G.act h
    have W' := G'.wf
    have few := W'.few
    have lal : al.length ≤ 60 := by rw [PR.ks]; rw [show (keys P'.boxes).length = P'.boxes.length from List.length_map _]; exact few
    refine ⟨_, rfl, _, rfl, _, rfl, p, t, way, g, P0, R, x, rfl, A0, G, SqT.of (A0.same _ _ ht), fun e he H1 s1 => ?_, fun P1 Fr he r g1 H1 hr1' A1 => ?_⟩
    · -- refused
      cases said with
      | fine h1 _ => rw [he] at h1; cases h1
      | bad h1 =>
        rename_i e'
        have : e' = e := by rw [he] at h1; injection h1 with h1; exact h1.symm
        subst this
        have A1 := A0.grow s1
        obtain ⟨dw, dt, dk⟩ := pd_get (OD.same A1.same)
        have ne : ¬ V.str (badW e') = V.str Str.empty := fun z => bad_ne e' (by injection z)
        refine ⟨_, rfl, q, _, rfl, dw, rfl, _, rfl, if_pos_of (by show (!decide (V.str (badW e') = V.str Str.empty)) = true; rw [decide_eq_false ne]; rfl) ?_⟩
        refine ⟨_, rfl, _, rfl, q, _, rfl, dw, rfl, _, rfl, if_neg_of (by show (!decide (V.str (badW e') = V.str (badW e'))) = false; rw [decide_eq_true rfl]; rfl) ?_⟩
        refine ⟨fun σ' H' => ∃ (v : V) (g1 : Geo) (R1 : Hp), σ' = [some (.ref p), some (.ref t), some (.ref q), some (.int way), some v, none] ∧ PileAt C B p g1 P0 R1 H' ∧ OwnD R1 q lh lr la ld lk tv (.str (badW e')) hs rs al d ra ∧ (∀ H2, PileAt C B p g1 P0 R1 H2 → Q (.bl true) H2), ?_, ?_⟩
        · refine ⟨_, rfl, q, _, rfl, dw, rfl, _, rfl, if_neg_of (decide_eq_false ne) ?_⟩
          exact ⟨_, g, R, rfl, A1, OD, fun H2 A2 => k1 g H2 A2⟩
        rintro σ' H3 ⟨v, g3, R3, rfl, A3, O3, k3⟩
        have O4 := fun {H4 : Hp} (s : Same R3 H4) => (O3.same s).o
        refine ⟨_, rfl, p, g3.dx, _, rfl, A3.hp, pf_no _ _ _ (by decide +kernel) (by decide +kernel) (by decide +kernel), p, g3, P0, R3, rfl, A3, W', fun s1 H4 hs1 A4 => ?_⟩
        refine ⟨_, rfl, q, _, rfl, (O4 ((same_upd hs1).trans A4.same)).dd, ld, rfl, ⟨_, SqL.of (O4 ((same_upd hs1).trans A4.same)).d⟩, fun Dn hDn => ?_⟩
        have rDn := A4.same.free hDn
        have sDn : ∀ (o : HO), Same R3 (upd (upd R3 s1 (.lst ((susp P0).map V.int))) Dn o) := fun o => (same_upd hs1).trans (same_upd rDn)
        refine lc_list (K := K) (a := ld) (xs := d.map V.int) (fun i H' => PileAt C B p g3 P0 (upd (upd R3 s1 (.lst ((susp P0).map V.int))) Dn (.lst (((d.take i).filter fun n => decide (n ∈ al)).map V.int))) H') (A4.new hDn) (fun i H' _ A' => SqL.of (O4 ((sDn _).trans A'.same)).d) (fun i y H' hi A' => ?_) (fun H5 A5 => ?_)
        · obtain ⟨n, hn, rfl⟩ := ints_at hi
          have O' := O4 ((sDn _).trans A'.same)
          refine ⟨rfl, _, rfl, _, rfl, q, _, rfl, O'.da, la, _, rfl, .inl (SqL.of O'.a), rfl, flat_ints _, _, rfl, ?_⟩
          rw [filt_snoc hn]
          by_cases c1 : n ∈ al
          · refine if_pos_of (show (inV (V.int n) (al.map V.int)) = true by rw [inV_ints, decide_eq_true c1]) ?_
            refine ⟨_, rfl, _, A'.same _ _ upd_same, ?_, ?_⟩
            · rw [List.length_map, sizeLine_eq]
              have h1 := List.length_filter_le (fun n => decide (n ∈ al)) (d.take i)
              rw [List.length_take] at h1
              omega
            · have := A'.set (a := Dn) (o := .lst (((d.take i).filter fun n => decide (n ∈ al)).map V.int ++ [V.int n])) upd_same
              rw [upd_upd] at this
              rw [if_pos (decide_eq_true c1), List.map_append]
              exact this
          · refine if_neg_of (show (inV (V.int n) (al.map V.int)) = false by rw [inV_ints, decide_eq_false c1]) ?_
            rw [if_neg (by rw [decide_eq_false c1]; exact Bool.false_ne_true), List.append_nil]
            exact A'
        rw [List.length_map, List.take_length] at A5
        have k5 := A5.same _ _ upd_same
        have k5s : H5 s1 = some (.lst ((susp P0).map V.int)) := A5.same _ _ ((same_upd rDn) _ _ upd_same)
        have l5 := List.length_filter_le (fun n => decide (n ∈ al)) d
        refine ⟨Dn, _, al, rfl, SqL.of k5, by omega, fun n hn => of_decide_eq_true (List.mem_filter.mp hn).2, fun ps c hc hps => ?_⟩
        refine ⟨ps, _, c, rfl, upd_same, by omega, fun ns2 pl hsrt hmem hlen hpl => ?_⟩
        have e2 : susp P0 = ns2 := by
          refine sorted_ext ?_ hsrt fun n => ?_
          · unfold susp
            exact W'.ks.filter _
          · rw [PR.susp n, hmem n, decide_eq_true_iff, List.mem_filter, decide_eq_true_iff]
        have s56 := (same_upd hps).trans (same_upd (o := .lst (ns2.map V.int)) hpl)
        refine ⟨s1, pl, (susp P0).map some, rfl, by rw [← lV_int]; exact s56 _ _ k5s, by rw [← lV_int, upd_same, e2], ?_, ?_⟩
        · rw [List.length_map]
          have : (susp P0).length ≤ (keys P0.boxes).length := List.length_filter_le _ _
          rw [show (keys P0.boxes).length = P0.boxes.length from List.length_map _] at this
          omega
        · refine k3 _ ((A5.grow s56).less fun b o e => ?_)
          exact sDn _ _ _ e
    · -- done
      cases said with
      | bad h1 => rw [he] at h1; cases h1
      | fine h1 hrt =>
        rename_i F' rt
        have e1 : P' = P1 ∧ F' = Fr := by rw [he] at h1; injection h1 with h1 h2; exact ⟨h1.symm, h2.symm⟩
        obtain ⟨rfl, rfl⟩ := e1
        have sr := same_upd (o := .lst (F'.map V.int)) hr1'
        obtain ⟨dw, dt, dk⟩ := pd_get (OD.same (sr.trans A1.same))
        have hr0 : H1 r = some (.lst (F'.map V.int)) := A1.same _ _ upd_same
        have hrt1 := A1.same _ _ (sr _ _ hrt)
        refine ⟨_, rfl, q, _, rfl, dw, rfl, _, rfl, if_neg_of (by show (!decide (V.str Str.empty = V.str Str.empty)) = false; rw [decide_eq_true rfl]; rfl) (iteF ?_)⟩
        refine ⟨fun σ' H' => ∃ (v : V) (g1 : Geo) (R1 : Hp), σ' = [some (.ref p), some (.ref t), some (.ref q), some (.int way), some v, none] ∧ PileAt C B p g1 P' R1 H' ∧ OwnD R1 q lh lr la ld lk (.ref rt) (.str Str.empty) hs rs al d ra ∧ (∀ H2, PileAt C B p g1 P' R1 H2 → Q (.bl true) H2), ?_, ?_⟩
        · refine ⟨_, rfl, q, _, rfl, dw, rfl, _, rfl, if_pos_of (decide_eq_true rfl) ?_⟩
          have f61 := (act_freed G he).1
          refine ⟨_, rfl, _, rfl, q, _, rfl, dt, r, rt, F'.map some, rfl, by rw [← lV_int]; exact hr0, by rw [← lV_int]; exact hrt1, by rw [List.length_map]; omega, _, rfl, iteF ?_⟩
          refine ⟨_, rfl, q, _, rfl, dk, .inl ⟨rfl, _, SqL.of (A1.same _ _ (sr _ _ hlk))⟩, _, rfl, _, rfl, r, _, rfl, .inl (SqL.of hr0), fun c hc => ⟨(by show 2 ≤ sizeLine; decide), fun u hu => ?_⟩⟩
          have A2 := A1.new (o := .lst (F'.map V.int)) hc
          have A3 := A2.new (o := .tup [.ref r, .ref c]) hu
          have rc := A1.same.free hc
          have ru := A2.same.free hu
          have sc := same_upd (o := .lst (F'.map V.int)) rc
          have su := same_upd (o := .tup [.ref r, .ref c]) ru
          have hlk3 := su _ _ (sc _ _ (sr _ _ hlk))
          refine ⟨lk, _, _, rfl, rfl, A3.same _ _ hlk3, by rw [List.length_map, sizeLine_eq]; omega, ?_⟩
          have A4 := A3.set (o := .lst (ks.map V.ref ++ [V.ref u])) hlk3
          rw [show ks.map V.ref ++ [V.ref u] = (ks ++ [u]).map V.ref from by rw [List.map_append]; rfl] at A4 ⊢
          exact ⟨_, g1, keptUp R r c u lk F' ks, rfl, A4, (OD.same (sr.trans (sc.trans su))).off nlk, fun H2 A5 => k2 g1 H2 r c u F' hr1' rc ru A5⟩
        rintro σ' H3 ⟨v, g3, R3, rfl, A3, O3, k3⟩
        have O4 := fun {H4 : Hp} (s : Same R3 H4) => (O3.same s).o
        refine ⟨_, rfl, p, g3.dx, _, rfl, A3.hp, pf_no _ _ _ (by decide +kernel) (by decide +kernel) (by decide +kernel), p, g3, P', R3, rfl, A3, W', fun s1 H4 hs1 A4 => ?_⟩
        refine ⟨_, rfl, q, _, rfl, (O4 ((same_upd hs1).trans A4.same)).dd, ld, rfl, ⟨_, SqL.of (O4 ((same_upd hs1).trans A4.same)).d⟩, fun Dn hDn => ?_⟩
        have rDn := A4.same.free hDn
        have sDn : ∀ (o : HO), Same R3 (upd (upd R3 s1 (.lst ((susp P').map V.int))) Dn o) := fun o => (same_upd hs1).trans (same_upd rDn)
        refine lc_list (K := K) (a := ld) (xs := d.map V.int) (fun i H' => PileAt C B p g3 P' (upd (upd R3 s1 (.lst ((susp P').map V.int))) Dn (.lst (((d.take i).filter fun n => decide (n ∈ al)).map V.int))) H') (A4.new hDn) (fun i H' _ A' => SqL.of (O4 ((sDn _).trans A'.same)).d) (fun i y H' hi A' => ?_) (fun H5 A5 => ?_)
        · obtain ⟨n, hn, rfl⟩ := ints_at hi
          have O' := O4 ((sDn _).trans A'.same)
          refine ⟨rfl, _, rfl, _, rfl, q, _, rfl, O'.da, la, _, rfl, .inl (SqL.of O'.a), rfl, flat_ints _, _, rfl, ?_⟩
          rw [filt_snoc hn]
          by_cases c1 : n ∈ al
          · refine if_pos_of (show (inV (V.int n) (al.map V.int)) = true by rw [inV_ints, decide_eq_true c1]) ?_
            refine ⟨_, rfl, _, A'.same _ _ upd_same, ?_, ?_⟩
            · rw [List.length_map, sizeLine_eq]
              have h1 := List.length_filter_le (fun n => decide (n ∈ al)) (d.take i)
              rw [List.length_take] at h1
              omega
            · have := A'.set (a := Dn) (o := .lst (((d.take i).filter fun n => decide (n ∈ al)).map V.int ++ [V.int n])) upd_same
              rw [upd_upd] at this
              rw [if_pos (decide_eq_true c1), List.map_append]
              exact this
          · refine if_neg_of (show (inV (V.int n) (al.map V.int)) = false by rw [inV_ints, decide_eq_false c1]) ?_
            rw [if_neg (by rw [decide_eq_false c1]; exact Bool.false_ne_true), List.append_nil]
            exact A'
        rw [List.length_map, List.take_length] at A5
        have k5 := A5.same _ _ upd_same
        have k5s : H5 s1 = some (.lst ((susp P').map V.int)) := A5.same _ _ ((same_upd rDn) _ _ upd_same)
        have l5 := List.length_filter_le (fun n => decide (n ∈ al)) d
        refine ⟨Dn, _, al, rfl, SqL.of k5, by omega, fun n hn => of_decide_eq_true (List.mem_filter.mp hn).2, fun ps c hc hps => ?_⟩
        refine ⟨ps, _, c, rfl, upd_same, by omega, fun ns2 pl hsrt hmem hlen hpl => ?_⟩
        have e2 : susp P' = ns2 := by
          refine sorted_ext ?_ hsrt fun n => ?_
          · unfold susp
            exact W'.ks.filter _
          · rw [PR.susp n, hmem n, decide_eq_true_iff, List.mem_filter, decide_eq_true_iff]
        have s56 := (same_upd hps).trans (same_upd (o := .lst (ns2.map V.int)) hpl)
        refine ⟨s1, pl, (susp P').map some, rfl, by rw [← lV_int]; exact s56 _ _ k5s, by rw [← lV_int, upd_same, e2], ?_, ?_⟩
        · rw [List.length_map]
          have : (susp P').length ≤ (keys P'.boxes).length := List.length_filter_le _ _
          rw [show (keys P'.boxes).length = P'.boxes.length from List.length_map _] at this
          omega
        · refine k3 _ ((A5.grow s56).less fun b o e => ?_)
          exact sDn _ _ _ e
/-! ### rows of deeds, of nine hands -/
/-- a list of deeds, new since H0: m of them make a box at most, n they are at most -/
def DN (y : Int) (H0 H : Hp) (l : Addr) (m n : Nat) : Prop := Same H0 H ∧ H0 l = none ∧ ∃ xs ds, H l = some (.lst xs) ∧ Items H xs ds ∧ (∀ d, d ∈ ds → d.InZ 9 y) ∧ makes ds ≤ m ∧ ds.length ≤ n
theorem DN.more {y : Int} {H0 H : Hp} {l : Addr} {m n m' n' : Nat} (h : DN y H0 H l m n) (hm : m ≤ m') (hn : n ≤ n') : DN y H0 H l m' n' := by
  obtain ⟨s, r, xs, ds, hl, it, al, mk, ln⟩ := h
  exact ⟨s, r, xs, ds, hl, it, al, Nat.le_trans mk hm, Nat.le_trans ln hn⟩
theorem DN.grow {y : Int} {H0 H H' : Hp} {l : Addr} {m n : Nat} (h : DN y H0 H l m n) (s : Same H H') : DN y H0 H' l m n := by
  obtain ⟨s0, r, xs, ds, hl, it, al, mk, ln⟩ := h
  exact ⟨s0.trans s, r, xs, ds, s _ _ hl, it.grow s, al, mk, ln⟩
theorem DN.new {y : Int} {H0 H : Hp} {l : Addr} {xs : List V} {ds : List Deed} (s : Same H0 H) (hl : H l = none) (it : Items H xs ds) (al : ∀ d, d ∈ ds → d.InZ 9 y) : DN y H0 (upd H l (.lst xs)) l (makes ds) ds.length :=
  ⟨s.trans (same_upd hl), s.free hl, xs, ds, upd_same, it.grow (same_upd hl), al, Nat.le_refl _, Nat.le_refl _⟩
theorem DN.cat {y : Int} {H0 H : Hp} {l p : Addr} {m n : Nat} {xs ys : List V} {es : List Deed} (h : DN y H0 H l m n) (hl : H l = some (.lst xs)) (hy : Items H ys es) (ae : ∀ d, d ∈ es → d.InZ 9 y) (hp : H p = none) : DN y H0 (upd H p (.lst (xs ++ ys))) p (m + makes es) (n + es.length) := by
  obtain ⟨s, r, xs', ds, hl', it, al, mk, ln⟩ := h
  have e : xs' = xs := by rw [hl] at hl'; injection hl' with q; injection q with q; exact q.symm
  subst e
  refine (DN.new s hp (paired_app it hy) (all_app al ae)).more ?_ ?_
  · rw [makes_app]; omega
  · rw [List.length_append]; omega
theorem DN.push {y : Int} {H0 H : Hp} {l t : Addr} {m n : Nat} {xs : List V} (d : Deed) (h : DN y H0 H l m n) (hl : H l = some (.lst xs)) (ht : H t = some (.tup d.vs)) (ad : d.InZ 9 y) : DN y H0 (upd H l (.lst (xs ++ [.ref t]))) l (m + makes [d]) (n + 1) := by
  obtain ⟨s, r, xs', ds, hl', it, al, mk, ln⟩ := h
  have e : xs' = xs := by rw [hl] at hl'; injection hl' with q; injection q with q; exact q.symm
  subst e
  have nt : t ≠ l := ne_of ht hl (by intro z; cases z)
  refine ⟨same_off s r _, r, _, ds ++ [d], upd_same, paired_app (it.off hl _) (.cons ⟨t, rfl, by rw [upd_ne nt]; exact ht⟩ .nil), all_app al (fun e he => by rw [List.mem_singleton.mp he]; exact ad), ?_, ?_⟩
  · rw [makes_app]; omega
  · rw [List.length_append, List.length_singleton]; omega
theorem DN.list {y : Int} {H0 H : Hp} {l : Addr} {m n : Nat} (h : DN y H0 H l m n) : ∃ xs, H l = some (.lst xs) ∧ xs.length ≤ n := by
  obtain ⟨s, r, xs, ds, hl, it, al, mk, ln⟩ := h
  exact ⟨xs, hl, by rw [paired_length it]; exact ln⟩
theorem DN.from {y : Int} {H0 H1 H : Hp} {l : Addr} {m n : Nat} (h : DN y H1 H l m n) (s : Same H0 H1) : DN y H0 H l m n := by
  obtain ⟨s0, r, x⟩ := h
  exact ⟨s.trans s0, s.free r, x⟩
theorem nil_in9 {y : Int} : ∀ d, d ∈ ([] : List Deed) → d.InZ 9 y := fun d h => (by cases h)
theorem cons_in9 {y : Int} {d : Deed} {ds : List Deed} (h : d.InZ 9 y) (hs : ∀ d, d ∈ ds → d.InZ 9 y) : ∀ e, e ∈ d :: ds → e.InZ 9 y := fun e he => (List.mem_cons.mp he).elim (fun z => z ▸ h) (hs e)
def spRingDeeds (K : PySem.W.Frag) : Sp := fun vs H Q _ => ∃ (many : Int) (cl : Bool), vs = [.int many, .bl cl] ∧ 0 ≤ many ∧ many ≤ 40 ∧ ∀ (l : Addr) (H' : Hp), DN 8 H H' l (many.toNat + 2) (9 * many.toNat + 11) → Q (.ref l) H'
theorem scRingDeeds : FnScope nRingDeeds ["_law_many", "_law_closed"] (defScope sRingDeeds) := ⟨rfl, rfl, rfl, by decide +kernel, rfl, by decide +kernel, by decide +kernel⟩
theorem ok_ringdeeds {f : Addr} {fd : FuncData} (F : Fun K "_law_ring_deeds" "_law_ring_deeds" sRingDeeds f fd) (TL : TxtL mg) : FnOk P w K mg base CX0 1 f fd ["_law_many", "_law_closed"] (spRingDeeds K) := by
  refine F.ok scRingDeeds (fun vs H Q E h => ?_) (fun cdv A outer s H vs Q E hr h => ?_)
  · obtain ⟨many, cl, rfl, _⟩ := h
    rfl
  · obtain ⟨many, cl, rfl, m0, m40, k⟩ := h
    have nd := scRingDeeds.nd
    refine ⟨_, (pss_cons (ps_set (i := 2) nd rfl (Or.inl rfl) (pe_lst (pa_cons (pe_tup (pa_cons pe_str (pa_cons pe_int (pa_cons pe_int pa_nil)))) (pa_cons (pe_tup (pa_cons pe_str (pa_cons pe_int (pa_cons pe_int pa_nil)))) (pa_cons (pe_tup (pa_cons pe_str (pa_cons pe_int (pa_cons pe_int pa_nil)))) pa_nil)))))
      (pss_cons (ps_for PassesOwn.never rfl (pi_range1 (by rfl) TL.range (pa_cons (pv 0) pa_nil)) (pg_name (i := 3) nd rfl (Or.inl rfl))
      (pss_cons (ps_set (i := 2) nd rfl (Or.inl rfl) (pe_op op_cat (pv 2) (pe_lst (pa_cons (pe_tup (pa_cons pe_str (pa_cons pe_int (pa_cons (pe_op op_add pe_int (pe_op op_mod (pv 3) pe_int)) pa_nil)))) (pa_cons (pe_tup (pa_cons pe_str (pa_cons pe_int (pa_cons (pe_op op_mod (pv 3) pe_int) (pa_cons pe_int pa_nil))))) pa_nil)))))
      (pss_cons (ps_mid (ps_if (pt_cmpR op_gt (pe_op op_mod (pv 3) pe_int) pe_int (nomark _)) (pss_one (ps_expr (pe_bm PySem.F.plainAttrs_list PySem.F.slot_list_append PySem.F.type_list_append mt_append (pv 2) (pa_cons (pe_tup (pa_cons pe_str (pa_cons pe_int (pa_cons pe_int (pa_cons pe_int pa_nil))))) pa_nil)))) pss_nil))
      (pss_cons (ps_mid (ps_if (pt_cmpR op_eq (pe_op op_mod (pv 3) pe_int) pe_int (nomark _)) (pss_one (ps_expr (pe_bm PySem.F.plainAttrs_list PySem.F.slot_list_append PySem.F.type_list_append mt_append (pv 2) (pa_cons (pe_tup (pa_cons pe_str (pa_cons pe_int (pa_cons pe_int pa_nil)))) pa_nil)))) pss_nil))
      (pss_one (ps_expr (pe_bm PySem.F.plainAttrs_list PySem.F.slot_list_append PySem.F.type_list_append mt_append (pv 2) (pa_cons (pe_tup (pa_cons pe_str (pa_cons pe_int (pa_cons pe_int pa_nil)))) pa_nil))))))))
      (pss_cons (ps_expr (pe_bm PySem.F.plainAttrs_list PySem.F.slot_list_append PySem.F.type_list_append mt_append (pv 2) (pa_cons (pe_tup (pa_cons pe_str (pa_cons pe_int pa_nil))) pa_nil)))
      (pss_cons (ps_mid (ps_if (pt_val (pv 1)) (pss_one (ps_set (i := 2) nd rfl (Or.inl rfl) (pe_op op_cat (pv 2) (pe_lst (pa_cons (pe_tup (pa_cons pe_str (pa_cons pe_int (pa_cons pe_int (pa_cons pe_int pa_nil))))) (pa_cons (pe_tup (pa_cons pe_str (pa_cons pe_int pa_nil))) (pa_cons (pe_tup (pa_cons pe_str (pa_cons pe_int pa_nil))) pa_nil))))))) pss_nil))
      (pss_one (ps_ret (pv 2))))))), ?_⟩
    refine ⟨(by show 3 ≤ sizeLine; decide), fun t1 h1 => ⟨(by show 3 ≤ sizeLine; decide), fun t2 h2 => ⟨(by show 3 ≤ sizeLine; decide), fun t3 h3 => ⟨(by show 3 ≤ sizeLine; decide), fun l hl => ?_⟩⟩⟩⟩
    have I3 := ((Items.snoc (.nil : Items H [] []) (.make 0 1) h1).snoc (.hold 1 0) h2).snoc (.hold 3 0) h3
    have D0 := (DN.new (y := 8) (((same_upd h1).trans (same_upd h2)).trans (same_upd h3)) hl I3 (cons_in9 (by decide) (cons_in9 (by decide) (cons_in9 (by decide) nil_in9)))).more (m' := 2) (n' := 7) (by decide) (by decide)
    replace D0 : DN 8 H (upd (upd (upd (upd H t1 (.tup [.str "make", .int 0, .int 1])) t2 (.tup [.str "hold", .int 1, .int 0])) t3 (.tup [.str "hold", .int 3, .int 0])) l (.lst [.ref t1, .ref t2, .ref t3])) l 2 7 := D0
    generalize upd (upd (upd (upd H t1 (.tup [.str "make", .int 0, .int 1])) t2 (.tup [.str "hold", .int 1, .int 0])) t3 (.tup [.str "hold", .int 3, .int 0])) l (.lst [.ref t1, .ref t2, .ref t3]) = H0 at D0 ⊢
    clear I3 h1 h2 h3 hl
    refine ⟨_, rfl, many, rfl, by omega, by omega, ?_⟩
    refine for_range (lo := 0) (n := many.toNat) (fun i σ H' => ∃ (l : Addr) (v3 : Option V), σ = [some (.int many), some (.bl cl), some (.ref l), v3] ∧ DN 8 H H' l (i + 2) (9 * i + 7)) ⟨l, none, rfl, D0⟩ ?_ ?_
    · clear D0 H0
      rintro i σ H0 hi ⟨l, v3, rfl, D0⟩
      have hi' : i < 40 := by have : i < many.toNat := hi; omega
      have c0 : 0 ≤ (0 + (i : Int)) % 6 := Int.emod_nonneg _ (by decide)
      have c6 : (0 + (i : Int)) % 6 < 6 := Int.emod_lt_of_pos _ (by decide)
      obtain ⟨xs, hl, ln⟩ := D0.list
      refine ⟨_, rfl, _, rfl, _, _, rfl, rfl, (by show (0 : Int) < 6; decide), _, _, rfl, rfl, (by show 3 ≤ sizeLine; decide), fun t1 h1 => ⟨_, rfl, _, _, rfl, rfl, (by show (0 : Int) < 6; decide), (by show 4 ≤ sizeLine; decide), fun t2 h2 => ⟨(by show 2 ≤ sizeLine; decide), fun l2 hl2 => ?_⟩⟩⟩
      have I2 := (Items.snoc (.nil : Items H0 [] []) (.make 2 (1 + (0 + (i : Int)) % 6)) h1).snoc (.put 2 ((0 + (i : Int)) % 6) 1) h2
      have s2 := ((same_upd h1).trans (same_upd h2)).trans (same_upd (o := .lst [.ref t1, .ref t2]) hl2)
      refine ⟨l, l2, xs, _, rfl, rfl, s2 _ _ hl, upd_same, (by show xs.length + 2 ≤ sizeLine; rw [sizeLine_eq]; omega), fun p hp => ?_⟩
      have D1 := (D0.grow s2).cat (s2 _ _ hl) (I2.grow (same_upd hl2)) (cons_in9 (by refine ⟨⟨by decide, by decide⟩, ?_, ?_⟩ <;> omega) (cons_in9 (by refine ⟨⟨by decide, by decide⟩, ⟨?_, ?_⟩, by decide, by decide⟩ <;> omega) nil_in9)) hp
      replace D1 := D1.more (m' := i + 3) (n' := 9 * i + 9) (by show i + 2 + 1 ≤ _; omega) (by show 9 * i + 7 + 2 ≤ _; omega)
      have push : ∀ {H1 : Hp} {m n : Nat}, DN 8 H H1 p m n → n ≤ 400 → ∃ ys, H1 p = some (.lst ys) ∧ ys.length < sizeLine := fun D hn => by
        obtain ⟨ys, hy, ln⟩ := D.list
        exact ⟨ys, hy, by rw [sizeLine_eq]; omega⟩
      refine ⟨fun σ' H' => σ' = [some (.int many), some (.bl cl), some (.ref p), some (.int (0 + (i : Int)))] ∧ DN 8 H H' p (i + 3) (9 * i + 10), ?_, ?_⟩
      · refine ⟨_, rfl, _, _, rfl, rfl, (by show (0 : Int) < 6; decide), _, _, rfl, rfl, _, rfl, ?_⟩
        by_cases c : 0 < (0 + (i : Int)) % 6
        · refine if_pos_of (decide_eq_true c) ?_
          obtain ⟨ys, hy, ly⟩ := push D1 (by omega)
          refine ⟨_, rfl, .inl ⟨rfl, _, SqL.of hy⟩, (by show 4 ≤ sizeLine; decide), fun t ht => ⟨p, _, _, rfl, rfl, (same_upd ht) _ _ hy, ly, rfl, ?_⟩⟩
          exact ((D1.grow (same_upd ht)).push (.put 2 0 3) ((same_upd ht) _ _ hy) upd_same (by decide)).more (by show i + 3 + 0 ≤ _; omega) (by omega)
        · refine if_neg_of (decide_eq_false c) ?_
          exact ⟨rfl, D1.more (Nat.le_refl _) (by omega)⟩
      clear D1
      rintro σ' H1 ⟨rfl, D1⟩
      refine ⟨fun σ' H' => σ' = [some (.int many), some (.bl cl), some (.ref p), some (.int (0 + (i : Int)))] ∧ DN 8 H H' p (i + 3) (9 * i + 11), ?_, ?_⟩
      · refine ⟨_, rfl, _, _, rfl, rfl, (by show (0 : Int) < 5; decide), rfl, _, rfl, ?_⟩
        by_cases c : V.int ((0 + (i : Int)) % 5) = V.int 3
        · refine if_pos_of (decide_eq_true c) ?_
          obtain ⟨ys, hy, ly⟩ := push D1 (by omega)
          refine ⟨_, rfl, .inl ⟨rfl, _, SqL.of hy⟩, (by show 3 ≤ sizeLine; decide), fun t ht => ⟨p, _, _, rfl, rfl, (same_upd ht) _ _ hy, ly, rfl, ?_⟩⟩
          exact ((D1.grow (same_upd ht)).push (.hold 3 1) ((same_upd ht) _ _ hy) upd_same (by decide)).more (by show i + 3 + 0 ≤ _; omega) (by omega)
        · refine if_neg_of (decide_eq_false c) ?_
          exact ⟨rfl, D1.more (Nat.le_refl _) (by omega)⟩
      clear D1
      rintro σ' H1 ⟨rfl, D1⟩
      obtain ⟨ys, hy, ly⟩ := push D1 (by omega)
      refine ⟨_, rfl, .inl ⟨rfl, _, SqL.of hy⟩, (by show 3 ≤ sizeLine; decide), fun t ht => ⟨p, _, _, rfl, rfl, (same_upd ht) _ _ hy, ly, p, _, rfl, ?_⟩⟩
      exact ((D1.grow (same_upd ht)).push (.hold 1 2) ((same_upd ht) _ _ hy) upd_same (by decide)).more (by show i + 3 + 0 ≤ _; omega) (by omega)
    · clear D0 H0
      rintro σ H0 ⟨l, v3, rfl, D0⟩
      obtain ⟨ys, hy, ly⟩ := D0.list
      refine ⟨_, rfl, .inl ⟨rfl, _, SqL.of hy⟩, (by show 2 ≤ sizeLine; decide), fun t ht => ⟨l, _, _, rfl, rfl, (same_upd ht) _ _ hy, (by rw [sizeLine_eq]; omega), ?_⟩⟩
      have D1 := ((D0.grow (same_upd ht)).push (.drop 2) ((same_upd ht) _ _ hy) upd_same (by decide)).more (m' := many.toNat + 2) (n' := 9 * many.toNat + 8) (by show many.toNat + 2 + 0 ≤ _; omega) (by omega)
      refine ⟨fun σ' H' => ∃ l, σ' = [some (.int many), some (.bl cl), some (.ref l), v3] ∧ DN 8 H H' l (many.toNat + 2) (9 * many.toNat + 11), ?_, fun σ' H' ⟨l', e, D'⟩ => ?_⟩
      · refine ⟨_, rfl, cl, rfl, ?_⟩
        cases cl with
        | false =>
          refine iteF ?_
          exact ⟨l, rfl, D1.more (Nat.le_refl _) (by omega)⟩
        | true =>
          refine iteT ?_
          obtain ⟨xs, hl, ln⟩ := D1.list
          refine ⟨_, rfl, (by show 4 ≤ sizeLine; decide), fun t1 h1 => ⟨(by show 2 ≤ sizeLine; decide), fun t2 h2 => ⟨(by show 2 ≤ sizeLine; decide), fun t3 h3 => ⟨(by show 3 ≤ sizeLine; decide), fun l2 hl2 => ?_⟩⟩⟩⟩
          have I3 := ((Items.snoc (.nil : Items _ [] []) (.put 0 0 1) h1).snoc (.drop 1) h2).snoc (.drop 3) h3
          have s3 := (((same_upd h1).trans (same_upd h2)).trans (same_upd h3)).trans (same_upd (o := .lst [.ref t1, .ref t2, .ref t3]) hl2)
          refine ⟨l, l2, xs, _, rfl, rfl, s3 _ _ hl, upd_same, (by show xs.length + 3 ≤ sizeLine; rw [sizeLine_eq]; omega), fun p hp => ?_⟩
          have D2 := (D1.grow s3).cat (s3 _ _ hl) (I3.grow (same_upd hl2)) (cons_in9 (by decide) (cons_in9 (by decide) (cons_in9 (by decide) nil_in9))) hp
          exact ⟨p, rfl, D2.more (by show many.toNat + 2 + 0 ≤ _; omega) (by show 9 * many.toNat + 8 + 3 ≤ _; omega)⟩
      · subst e
        exact ⟨_, rfl, k l' H' D'⟩
/-! ### a fan -/
def spFanDeeds (K : PySem.W.Frag) : Sp := fun vs H Q _ => ∃ c : Int, vs = [.int c] ∧ 0 ≤ c ∧ c < 30 ∧ ∀ (l : Addr) (H' : Hp), DN 8 H H' l 50 50 → Q (.ref l) H'
theorem makes_le (ds : List Deed) : makes ds ≤ ds.length := by unfold makes; exact List.length_filter_le _ _
theorem scFanDeeds : FnScope nFanDeeds ["_law_cell"] (defScope sFanDeeds) := ⟨rfl, rfl, rfl, by decide +kernel, rfl, by decide +kernel, by decide +kernel⟩
theorem ok_fandeeds {f : Addr} {fd : FuncData} (F : Fun K "_law_fan_deeds" "_law_fan_deeds" sFanDeeds f fd) (TL : TxtL mg) : FnOk P w K mg base CX0 1 f fd ["_law_cell"] (spFanDeeds K) := by
  refine F.ok scFanDeeds (fun vs H Q E h => ?_) (fun cdv A outer s H vs Q E hr h => ?_)
  · obtain ⟨c, rfl, _⟩ := h
    rfl
  · obtain ⟨c, rfl, c0, c30, k⟩ := h
    have nd := scFanDeeds.nd
    refine ⟨_, (pss_cons (ps_set (i := 1) nd rfl (Or.inl rfl) (pe_lst (pa_cons (pe_tup (pa_cons pe_str (pa_cons pe_int (pa_cons pe_int pa_nil)))) pa_nil)))
      (pss_cons (ps_for PassesOwn.never rfl (pi_range1 (by rfl) TL.range (pa_cons (pe_op op_add pe_int (pe_op op_mod (pv 0) pe_int)) pa_nil)) (pg_name (i := 2) nd rfl (Or.inl rfl))
      (pss_cons (ps_set (i := 1) nd rfl (Or.inl rfl) (pe_op op_cat (pv 1) (pe_lst (pa_cons (pe_tup (pa_cons pe_str (pa_cons pe_int (pa_cons (pe_op op_mod (pv 2) pe_int) pa_nil)))) (pa_cons (pe_tup (pa_cons pe_str (pa_cons pe_int (pa_cons (pe_op op_mod (pe_op op_add (pe_op op_fdiv (pv 0) pe_int) (pv 2)) pe_int) (pa_cons pe_int pa_nil))))) pa_nil)))))
      (pss_cons (ps_mid (ps_if (pt_cmpR op_eq (pe_op op_mod (pv 2) pe_int) pe_int (nomark _)) (pss_one (ps_expr (pe_bm PySem.F.plainAttrs_list PySem.F.slot_list_append PySem.F.type_list_append mt_append (pv 1) (pa_cons (pe_tup (pa_cons pe_str (pa_cons pe_int (pa_cons pe_int (pa_cons pe_int pa_nil))))) pa_nil)))) pss_nil))
      (pss_one (ps_expr (pe_bm PySem.F.plainAttrs_list PySem.F.slot_list_append PySem.F.type_list_append mt_append (pv 1) (pa_cons (pe_tup (pa_cons pe_str (pa_cons pe_int (pa_cons pe_int pa_nil)))) pa_nil)))))))
      (pss_one (ps_ret (pe_op op_cat (pv 1) (pe_lst (pa_cons (pe_tup (pa_cons pe_str (pa_cons pe_int pa_nil))) (pa_cons (pe_tup (pa_cons pe_str (pa_cons pe_int pa_nil))) pa_nil)))))))), ?_⟩
    refine ⟨(by show 3 ≤ sizeLine; decide), fun t1 h1 => ⟨(by show 1 ≤ sizeLine; decide), fun l hl => ?_⟩⟩
    have I1 := Items.snoc (.nil : Items H [] []) (.make 0 6) h1
    have D0 := (DN.new (y := 8) (same_upd h1) hl I1 (cons_in9 (by decide) nil_in9)).more (m' := 1) (n' := 1) (by decide) (by decide)
    replace D0 : DN 8 H (upd (upd H t1 (.tup [.str "make", .int 0, .int 6])) l (.lst [.ref t1])) l 1 1 := D0
    generalize upd (upd H t1 (.tup [.str "make", .int 0, .int 6])) l (.lst [.ref t1]) = H0 at D0 ⊢
    clear I1 h1 hl
    have m0 : 0 ≤ c % 5 := Int.emod_nonneg _ (by decide)
    have m5 : c % 5 < 5 := Int.emod_lt_of_pos _ (by decide)
    refine ⟨_, rfl, _, _, rfl, rfl, (by show (0 : Int) < 5; decide), _, _, rfl, rfl, _, rfl, by omega, by omega, ?_⟩
    refine for_range (lo := 0) (n := (2 + c % 5).toNat) (fun i σ H' => ∃ (l : Addr) (v2 : Option V), σ = [some (.int c), some (.ref l), v2] ∧ DN 8 H H' l (1 + 4 * i) (1 + 4 * i)) ⟨l, none, rfl, D0⟩ ?_ ?_
    · clear D0 H0
      rintro i σ H0 hi ⟨l, v2, rfl, D0⟩
      have hi' : i < 7 := by have : i < (2 + c % 5).toNat := hi; omega
      have a0 : 0 ≤ (0 + (i : Int)) % 3 := Int.emod_nonneg _ (by decide)
      have a3 : (0 + (i : Int)) % 3 < 3 := Int.emod_lt_of_pos _ (by decide)
      have b0 : 0 ≤ (c / 5 + (0 + (i : Int))) % 6 := Int.emod_nonneg _ (by decide)
      have b6 : (c / 5 + (0 + (i : Int))) % 6 < 6 := Int.emod_lt_of_pos _ (by decide)
      obtain ⟨xs, hl, ln⟩ := D0.list
      refine ⟨_, rfl, _, rfl, _, _, rfl, rfl, (by show (0 : Int) < 3; decide), (by show 3 ≤ sizeLine; decide), fun t1 h1 => ⟨_, rfl, _, _, rfl, rfl, ⟨by decide, by decide⟩, _, rfl, _, _, rfl, rfl, _, _, rfl, rfl, (by show (0 : Int) < 6; decide), (by show 4 ≤ sizeLine; decide), fun t2 h2 => ⟨(by show 2 ≤ sizeLine; decide), fun l2 hl2 => ?_⟩⟩⟩
      have I2 := (Items.snoc (.nil : Items H0 [] []) (.make 1 ((0 + (i : Int)) % 3)) h1).snoc (.put 0 ((c / 5 + (0 + (i : Int))) % 6) 1) h2
      have s2 := ((same_upd h1).trans (same_upd h2)).trans (same_upd (o := .lst [.ref t1, .ref t2]) hl2)
      refine ⟨l, l2, xs, _, rfl, rfl, s2 _ _ hl, upd_same, (by show xs.length + 2 ≤ sizeLine; rw [sizeLine_eq]; omega), fun p hp => ?_⟩
      have D1 := (D0.grow s2).cat (s2 _ _ hl) (I2.grow (same_upd hl2)) (cons_in9 (by refine ⟨⟨by decide, by decide⟩, ?_, ?_⟩ <;> omega) (cons_in9 (by refine ⟨⟨by decide, by decide⟩, ⟨?_, ?_⟩, by decide, by decide⟩ <;> omega) nil_in9)) hp
      replace D1 := D1.more (m' := 1 + 4 * i + 2) (n' := 1 + 4 * i + 2) (by have := makes_le [Deed.make 1 ((0 + (i : Int)) % 3), .put 0 ((c / 5 + (0 + (i : Int))) % 6) 1]; show 1 + 4 * i + makes [Deed.make 1 ((0 + (i : Int)) % 3), .put 0 ((c / 5 + (0 + (i : Int))) % 6) 1] ≤ _; exact Nat.add_le_add_left this _) (Nat.le_refl _)
      have push : ∀ {H1 : Hp} {m n : Nat}, DN 8 H H1 p m n → n ≤ 400 → ∃ ys, H1 p = some (.lst ys) ∧ ys.length < sizeLine := fun D hn => by
        obtain ⟨ys, hy, ln⟩ := D.list
        exact ⟨ys, hy, by rw [sizeLine_eq]; omega⟩
      refine ⟨fun σ' H' => σ' = [some (.int c), some (.ref p), some (.int (0 + (i : Int)))] ∧ DN 8 H H' p (1 + 4 * i + 3) (1 + 4 * i + 3), ?_, ?_⟩
      · refine ⟨_, rfl, _, _, rfl, rfl, (by show (0 : Int) < 3; decide), rfl, _, rfl, ?_⟩
        by_cases q : V.int ((0 + (i : Int)) % 3) = V.int 2
        · refine if_pos_of (decide_eq_true q) ?_
          obtain ⟨ys, hy, ly⟩ := push D1 (by omega)
          refine ⟨_, rfl, .inl ⟨rfl, _, SqL.of hy⟩, (by show 4 ≤ sizeLine; decide), fun t ht => ⟨p, _, _, rfl, rfl, (same_upd ht) _ _ hy, ly, rfl, ?_⟩⟩
          exact ((D1.grow (same_upd ht)).push (.put 1 1 2) ((same_upd ht) _ _ hy) upd_same (by decide)).more (by show 1 + 4 * i + 2 + 0 ≤ _; omega) (by omega)
        · refine if_neg_of (decide_eq_false q) ?_
          exact ⟨rfl, D1.more (by omega) (by omega)⟩
      clear D1
      rintro σ' H1 ⟨rfl, D1⟩
      obtain ⟨ys, hy, ly⟩ := push D1 (by omega)
      refine ⟨_, rfl, .inl ⟨rfl, _, SqL.of hy⟩, (by show 3 ≤ sizeLine; decide), fun t ht => ⟨p, _, _, rfl, rfl, (same_upd ht) _ _ hy, ly, p, _, rfl, ?_⟩⟩
      exact ((D1.grow (same_upd ht)).push (.hold 2 1) ((same_upd ht) _ _ hy) upd_same (by decide)).more (by show 1 + 4 * i + 3 + 0 ≤ _; omega) (by omega)
    · clear D0 H0
      rintro σ H0 ⟨l, v2, rfl, D0⟩
      have D1 := D0.more (m' := 40) (n' := 40) (by omega) (by omega)
      obtain ⟨xs, hl, ln⟩ := D1.list
      refine ⟨_, rfl, (by show 2 ≤ sizeLine; decide), fun t1 h1 => ⟨(by show 2 ≤ sizeLine; decide), fun t2 h2 => ⟨(by show 2 ≤ sizeLine; decide), fun l2 hl2 => ?_⟩⟩⟩
      have I2 := (Items.snoc (.nil : Items _ [] []) (.drop 1) h1).snoc (.drop 2) h2
      have s2 := ((same_upd h1).trans (same_upd h2)).trans (same_upd (o := .lst [.ref t1, .ref t2]) hl2)
      refine ⟨l, l2, xs, _, rfl, rfl, s2 _ _ hl, upd_same, (by show xs.length + 2 ≤ sizeLine; rw [sizeLine_eq]; omega), fun p hp => ?_⟩
      have D2 := (D1.grow s2).cat (s2 _ _ hl) (I2.grow (same_upd hl2)) (cons_in9 (by decide) (cons_in9 (by decide) nil_in9)) hp
      exact k p _ (D2.more (by show 40 + 0 ≤ _; omega) (by show 40 + 2 ≤ _; omega))
/-! ### the row of deeds of a script -/
def spDeeds (K : PySem.W.Frag) : Sp := fun vs H Q _ => ∃ (a : Addr) (ns : List Int), vs = [.ref a, .int 8] ∧ SqL K H a (ns.map V.int) ∧ ∀ (l : Addr) (H' : Hp), DN 8 H H' l 150 150 → Q (.ref l) H'
theorem scDeeds : FnScope nDeeds ["_law_script", "_law_most"] (defScope sDeeds) := ⟨rfl, rfl, rfl, by decide +kernel, rfl, by decide +kernel, by decide +kernel⟩
theorem ok_deeds {f fI fM fO fR fU fE fQ fH fT fG fA fS fX fY fP fL fB fK fCS fCA fPA fRE fTR fTY fDO fRD fRN fAN fPY fW fD fN fZ5 fT1 fT2 fT3 fT4 fT5 fT6 fT7 fT8 fT9 fTA fTB_ fTC fTD : Addr} {fd dI dM dO dR dU dE dQ dH dT dG dA dS dX dY dP dL dB dK dCS dCA dPA dRE dTR dTY dDO dRD dRN dAN dPY dW dD dN dZ5 dT1 dT2 dT3 dT4 dT5 dT6 dT7 dT8 dT9 dTA dTB_ dTC dTD : FuncData} (F : Fun K "_law_deeds" "_law_deeds" sDeeds f fd) (TL : TxtL mg) (D : Defs K mg C B fI fM fO fR fU fE fQ fH fT fG fA fS fX fY fP fL fB fK fCS fCA fPA fRE fTR fTY fDO fRD fRN fAN fPY fW fD fN fZ5 fT1 fT2 fT3 fT4 fT5 fT6 fT7 fT8 fT9 fTA fTB_ fTC fTD dI dM dO dR dU dE dQ dH dT dG dA dS dX dY dP dL dB dK dCS dCA dPA dRE dTR dTY dDO dRD dRN dAN dPY dW dD dN dZ5 dT1 dT2 dT3 dT4 dT5 dT6 dT7 dT8 dT9 dTA dTB_ dTC dTD) : FnOk P w K mg base CX0 2 f fd ["_law_script", "_law_most"] (spDeeds K) := by
  have GD : FnOk P w K mg base CX0 1 fD dD ["_law_script", "_law_k"] (spCellAt K) := ok_cellat D.FD TL
  have GZ5 : FnOk P w K mg base CX0 1 fZ5 dZ5 ["_law_one", "_law_two", "_law_few"] spDeedBy := ok_deedby D.FZ5
  have GT1 : FnOk P w K mg base CX0 1 fT1 dT1 ["_law_many", "_law_closed"] (spRingDeeds K) := ok_ringdeeds D.FT1 TL
  have GT2 : FnOk P w K mg base CX0 1 fT2 dT2 ["_law_cell"] (spFanDeeds K) := ok_fandeeds D.FT2 TL
  refine F.ok scDeeds (fun vs H Q E h => ?_) (fun cdv A outer s H vs Q E hr h => ?_)
  · obtain ⟨a, ns, rfl, _⟩ := h
    rfl
  · obtain ⟨a, ns, rfl, hS, k⟩ := h
    have nd := scDeeds.nd
    have hr1 : Room 1 _ := hr
    refine ⟨_, (pss_cons (ps_set (i := 2) nd rfl (Or.inl rfl) (pe_call GD hr1 (by rfl) D.gD D.FD.kp D.bD .nil pass0 (pa_cons (pv 0) (pa_cons pe_int pa_nil))))
      (pss_cons (ps_set (i := 3) nd rfl (Or.inl rfl) (pe_ix ix_list (pe_lst (pa_cons pe_int (pa_cons pe_int (pa_cons pe_int pa_nil)))) (pe_op op_mod (pe_op op_fdiv (pv 2) pe_int) pe_int) (fun _ _ => rfl)))
      (pss_cons (ps_set (i := 4) nd rfl (Or.inl rfl) (pe_lst pa_nil))
      (pss_cons (ps_mid (ps_if (pt_cmpR op_eq (pe_op op_mod (pv 2) pe_int) pe_int (nomark _)) (pss_one (ps_set (i := 4) nd rfl (Or.inl rfl) (pe_call GT2 hr1 (by rfl) D.gT2 D.FT2.kp D.bT2 .nil pass0 (pa_cons (pe_op op_mod (pe_op op_fdiv (pv 2) pe_int) pe_int) pa_nil)))) pss_nil))
      (pss_cons (ps_mid (ps_if (pt_cmpR op_eq (pe_op op_mod (pv 2) pe_int) pe_int (nomark _)) (pss_one (ps_set (i := 4) nd rfl (Or.inl rfl) (pe_call GT1 hr1 (by rfl) D.gT1 D.FT1.kp D.bT1 .nil pass0 (pa_cons (pe_op op_modN (pe_op op_fdiv (pv 2) pe_int) (pv 1)) (pa_cons (pe_cmpR op_eq (pe_op op_mod (pe_op op_fdiv (pv 2) pe_int) pe_int) pe_int (nomark _)) pa_nil))))) pss_nil))
      (pss_cons (ps_for PassesOwn.never rfl (pi_range3 (by rfl) TL.range (pa_cons pe_int (pa_cons (pe_op op_sub (pe_callB (call_min2 rfl) (by rfl) TL.min PyProof.Rows.boot_min (pa_cons (pe_callB call_len_seq (by rfl) TL.len PySem.boot_len (pa_cons (pv 0) pa_nil)) (pa_cons pe_int pa_nil))) pe_int) (pa_cons pe_int pa_nil)))) (pg_name (i := 5) nd rfl (Or.inl rfl))
      (pss_one (ps_expr (pe_bm PySem.F.plainAttrs_list PySem.F.slot_list_append PySem.F.type_list_append mt_append (pv 4) (pa_cons (pe_call GZ5 hr1 (by rfl) D.gZ5 D.FZ5.kp D.bZ5 .nil pass0 (pa_cons (pe_ix ix_list (pv 0) (pv 5) (fun _ _ => rfl)) (pa_cons (pe_ix ix_list (pv 0) (pe_op op_add (pv 5) pe_int) (fun _ _ => rfl)) (pa_cons (pv 3) pa_nil)))) pa_nil)))))
      (pss_one (ps_ret (pe_op op_cat (pv 4) (pe_lst (pa_cons (pe_tup (pa_cons pe_str (pa_cons pe_int pa_nil))) (pa_cons (pe_tup (pa_cons pe_str (pa_cons pe_int pa_nil))) (pa_cons (pe_tup (pa_cons pe_str pa_nil)) pa_nil))))))))))))), ?_⟩
    refine ⟨_, rfl, a, ns, 0, rfl, hS, ?_⟩
    generalize ns.getD 0 0 = c
    have e0 : 0 ≤ c / 300 % 3 := Int.emod_nonneg _ (by decide)
    have e3 : c / 300 % 3 < 3 := Int.emod_lt_of_pos _ (by decide)
    refine ⟨(by show 3 ≤ sizeLine; decide), fun L hL => ?_⟩
    have hl : ∃ few : Int, ([V.int 3, V.int 9, V.int 4] : List V)[(c / 300 % 3).toNat]? = some (.int few) ∧ 0 < few ∧ few ≤ 9 := by
      generalize c / 300 % 3 = z at e0 e3
      have : z = 0 ∨ z = 1 ∨ z = 2 := by omega
      rcases this with rfl | rfl | rfl
      · exact ⟨3, rfl, by decide, by decide⟩
      · exact ⟨9, rfl, by decide, by decide⟩
      · exact ⟨4, rfl, by decide, by decide⟩
    obtain ⟨few, hf, few0, few9⟩ := hl
    refine ⟨_, rfl, _, _, rfl, rfl, ⟨by decide, by decide⟩, _, _, rfl, rfl, (by show (0 : Int) < 3; decide), L, _, _, _, rfl, rfl, SqL.of upd_same, at_of (j := (c / 300 % 3).toNat) (by omega) hf, ?_⟩
    refine ⟨(by show 0 ≤ sizeLine; decide), fun l hl => ?_⟩
    have D0 := ((DN.new (y := 8) (same_upd hL) hl .nil nil_in9)).more (m' := 100) (n' := 100) (Nat.zero_le _) (Nat.zero_le _)
    replace D0 : DN 8 H (upd (upd H L (.lst [.int 3, .int 9, .int 4])) l (.lst [])) l 100 100 := D0
    generalize upd (upd H L (.lst [.int 3, .int 9, .int 4])) l (.lst []) = H0 at D0 ⊢
    clear hf e0 e3 hL hl
    refine ⟨fun σ' H' => ∃ l, σ' = [some (.ref a), some (.int 8), some (.int c), some (.int few), some (.ref l), none] ∧ DN 8 H H' l 100 100, ?_, ?_⟩
    · refine ⟨_, rfl, _, _, rfl, rfl, (by show (0 : Int) < 3; decide), rfl, _, rfl, ?_⟩
      by_cases q : V.int (c % 3) = V.int 1
      · refine if_pos_of (decide_eq_true q) ?_
        have d0 : 0 ≤ c / 3 % 30 := Int.emod_nonneg _ (by decide)
        have d1 : c / 3 % 30 < 30 := Int.emod_lt_of_pos _ (by decide)
        refine ⟨_, rfl, _, _, rfl, rfl, ⟨by decide, by decide⟩, _, _, rfl, rfl, (by show (0 : Int) < 30; decide), c / 3 % 30, rfl, d0, d1, fun l' H1 D1 => ?_⟩
        exact ⟨l', rfl, (D1.from D0.1).more (by omega) (by omega)⟩
      · refine if_neg_of (decide_eq_false q) ?_
        exact ⟨l, rfl, D0⟩
    clear D0 H0
    rintro σ' H0 ⟨l, rfl, D0⟩
    refine ⟨fun σ' H' => ∃ l, σ' = [some (.ref a), some (.int 8), some (.int c), some (.int few), some (.ref l), none] ∧ DN 8 H H' l 100 100, ?_, ?_⟩
    · refine ⟨_, rfl, _, _, rfl, rfl, (by show (0 : Int) < 3; decide), rfl, _, rfl, ?_⟩
      by_cases q : V.int (c % 3) = V.int 2
      · refine if_pos_of (decide_eq_true q) ?_
        have d0 : 0 ≤ (c / 3).fmod 8 := Int.fmod_nonneg_of_pos _ (by decide)
        have d1 : (c / 3).fmod 8 < 8 := Int.fmod_lt_of_pos _ (by decide)
        refine ⟨_, rfl, _, _, rfl, rfl, ⟨by decide, by decide⟩, _, rfl, _, _, rfl, rfl, (by omega), _, rfl, _, _, rfl, rfl, ⟨by decide, by decide⟩, _, _, rfl, rfl, (by show (0 : Int) < 2; decide), rfl, (c / 3).fmod 8, _, rfl, d0, by omega, fun l' H1 D1 => ?_⟩
        exact ⟨l', rfl, (D1.from D0.1).more (by omega) (by omega)⟩
      · refine if_neg_of (decide_eq_false q) ?_
        exact ⟨l, rfl, D0⟩
    clear D0 H0
    rintro σ' H0 ⟨l, rfl, D0⟩
    obtain ⟨kk, ekk, kc, kn⟩ := min_c (ns.map V.int).length 41
    rw [List.length_map] at kn
    obtain ⟨r1, r2⟩ := rgC2 kk (by omega)
    refine ⟨_, rfl, a, _, rfl, .inl (D0.1.seq hS), _, _, rfl, ?_⟩
    rw [show (if (41 : Int) < ((ns.map V.int).length : Int) then (41 : Int) else ((ns.map V.int).length : Int)) = (kk : Int) from ekk.symm]
    refine ⟨_, _, rfl, rfl, 1, _, 2, (kk - 1) / 2, rfl, ⟨by decide, by decide, r1, r2⟩, ?_⟩
    refine for_rangeC (lo := 1) (c := 2) (n := (kk - 1) / 2) (fun i σ H' => ∃ v5 : Option V, σ = [some (.ref a), some (.int 8), some (.int c), some (.int few), some (.ref l), v5] ∧ DN 8 H H' l (100 + i) (100 + i))
      ⟨none, rfl, D0⟩ ?_ ?_
    · clear D0 H0
      rintro i σ H2 hi ⟨v5, rfl, D2⟩
      have hi1 : 2 * i + 2 < ns.length := by omega
      have hg1 : (ns.map V.int)[2 * i + 1]? = some (V.int (ns.getD (2 * i + 1) 0)) := by
        rw [List.getElem?_map, List.getD_eq_getElem?_getD, List.getElem?_eq_getElem (by omega)]; rfl
      have hg2 : (ns.map V.int)[2 * i + 2]? = some (V.int (ns.getD (2 * i + 2) 0)) := by
        rw [List.getElem?_map, List.getD_eq_getElem?_getD, List.getElem?_eq_getElem (by omega)]; rfl
      have hS2 := D2.1.seq hS
      obtain ⟨ys, hy, ly⟩ := D2.list
      refine ⟨_, rfl, .inl ⟨rfl, _, SqL.of hy⟩, _, rfl, _, rfl, a, _, _, _, rfl, rfl, hS2, at_of (j := 2 * i + 1) (by omega) hg1, _, rfl, _, rfl, _, _, rfl, rfl, a, _, _, _, rfl, rfl, hS2, at_of (j := 2 * i + 2) (by omega) hg2, _, rfl, _, _, few, rfl, few0, few9, fun t H3 d ht s3 hd hdi => ?_⟩
      refine ⟨l, ys, _, rfl, rfl, s3 _ _ hy, (by rw [sizeLine_eq]; omega), ?_⟩
      refine ⟨_, rfl, ((D2.grow s3).push d (s3 _ _ hy) hd (hdi.more few9)).more ?_ (by omega)⟩
      have : makes [d] ≤ 1 := makes_le [d]
      omega
    · clear D0 H0
      rintro σ H3 ⟨v5, rfl, D3⟩
      have D4 := D3.more (m' := 125) (n' := 125) (by omega) (by omega)
      obtain ⟨xs, hl, ln⟩ := D4.list
      refine ⟨_, rfl, (by show 2 ≤ sizeLine; decide), fun t1 h1 => ⟨(by show 2 ≤ sizeLine; decide), fun t2 h2 => ⟨(by show 1 ≤ sizeLine; decide), fun t3 h3 => ⟨(by show 3 ≤ sizeLine; decide), fun l2 hl2 => ?_⟩⟩⟩⟩
      have I3 := ((Items.snoc (.nil : Items _ [] []) (.drop 0) h1).snoc (.drop 1) h2).snoc .tidy h3
      have s3 := (((same_upd h1).trans (same_upd h2)).trans (same_upd h3)).trans (same_upd (o := .lst [.ref t1, .ref t2, .ref t3]) hl2)
      refine ⟨l, l2, xs, _, rfl, rfl, s3 _ _ hl, upd_same, (by show xs.length + 3 ≤ sizeLine; rw [sizeLine_eq]; omega), fun p hp => ?_⟩
      have D5 := (D4.grow s3).cat (s3 _ _ hl) (I3.grow (same_upd hl2)) (cons_in9 (by decide) (cons_in9 (by decide) (cons_in9 trivial nil_in9))) hp
      exact k p _ (D5.more (by show 125 + 0 ≤ _; omega) (by show 125 + 3 ≤ _; omega))
/-! ### a deed's line -/
def lineOf (u : Str) (ns : List Nat) : Str := Str.join " " (u :: ns.map fun n : Nat => (toString (n : Int) : Str))
theorem ts_list (n : Nat) : (toString (n : Int) : Str).cps.toList = TL.numL n := TL.tl_num n
theorem numL_head : ∀ n : Nat, n ≠ 0 → (_root_.TL.numL n).head? ≠ some 48 := fun n => by
  induction n using Nat.strongRecOn with
  | _ n ih =>
    intro h0
    by_cases h : n < 10
    · rw [_root_.TL.numL_lt h]
      intro z
      have z : some (48 + n) = some 48 := z
      have := Option.some.inj z
      omega
    · rw [_root_.TL.numL_step (by omega)]
      have h1 := ih (n / 10) (by omega) (by omega)
      cases e : _root_.TL.numL (n / 10) with
      | nil => exact absurd e (_root_.TL.numL_ne _)
      | cons c cs =>
        rw [e] at h1
        exact h1
theorem okN_num {n : Nat} (h : n < 10 ^ 60) : okN (_root_.TL.numL n) = true := by
  unfold okN
  rw [Bool.and_eq_true, Bool.and_eq_true]
  refine ⟨⟨decide_eq_true ⟨?_, _root_.TL.numL_len (by decide) h⟩, List.all_eq_true.mpr fun c hc => decide_eq_true (_root_.TL.numL_digits n c hc)⟩, ?_⟩
  · cases e : _root_.TL.numL n with
    | nil => exact absurd e (_root_.TL.numL_ne n)
    | cons c cs => rw [List.length_cons]; omega
  · by_cases h0 : n = 0
    · rw [h0]
      decide +kernel
    · rw [decide_eq_false (numL_head n h0)]
      rfl
theorem map_inj_str {l l' : List Str} (h : l.map (fun y => y.cps.toList) = l'.map fun y => y.cps.toList) : l = l' := by
  induction l generalizing l' with
  | nil => cases l' with
    | nil => rfl
    | cons y l' => cases h
  | cons x l ih => cases l' with
    | nil => cases h
    | cons y l' =>
      rw [List.map_cons, List.map_cons] at h
      injection h with h1 h2
      rw [str_ext h1, ih h2]
theorem split_line {u : Str} {ns : List Nat} (hu : 32 ∉ u.cps.toList) : Txt.split (lineOf u ns) " " = u :: ns.map fun n : Nat => (toString (n : Int) : Str) := by
  refine map_inj_str ?_
  rw [split_cut]
  unfold lineOf
  rw [sp1, join_glue]
  refine cutL_glue _ (by intro h; cases h) fun p hp => ?_
  obtain ⟨y, hy, e⟩ := List.mem_map.mp hp
  rcases List.mem_cons.mp hy with rfl | hy
  · rw [← e]; exact hu
  · obtain ⟨n, _, e2⟩ := List.mem_map.mp hy
    rw [← e, ← e2, ts_list]
    exact _root_.TL.numL_free (.inl (by decide))
theorem readP_line {u : Str} {ns : List Nat} (hu : 32 ∉ u.cps.toList) (hm : manyOf u = some ns.length) (hns : ∀ n ∈ ns, n < 10 ^ 60) : readP (Txt.split (lineOf u ns) " ") = some (u, ns) := by
  rw [split_line hu]
  show (if manyOf u = some (ns.map fun n : Nat => (toString (n : Int) : Str)).length ∧ ∀ p ∈ ns.map (fun n : Nat => (toString (n : Int) : Str)), okN p.cps.toList = true then some (u, (ns.map fun n : Nat => (toString (n : Int) : Str)).map fun p => NumText.digitsVal p.cps.toList) else none) = _
  have hok : ∀ p ∈ ns.map (fun n : Nat => (toString (n : Int) : Str)), okN p.cps.toList = true := fun p hp => by
    obtain ⟨n, hn, e⟩ := List.mem_map.mp hp
    rw [← e, ts_list]
    exact okN_num (hns n hn)
  have hm2 : manyOf u = some (ns.map fun n : Nat => (toString (n : Int) : Str)).length := by rw [List.length_map]; exact hm
  rw [if_pos ⟨hm2, hok⟩, List.map_map]
  have : ns.map ((fun p : Str => NumText.digitsVal p.cps.toList) ∘ fun n : Nat => (toString (n : Int) : Str)) = ns.map id := List.map_congr_left fun n _ => by
    show NumText.digitsVal (toString (n : Int) : Str).cps.toList = n
    rw [ts_list]
    exact _root_.TL.numL_val n
  rw [this, List.map_id]
theorem line_len {u : Str} {ns : List Nat} (hu : u.length ≤ 100) (hl : ns.length ≤ 3) (hns : ∀ n ∈ ns, n < 10 ^ 60) : (lineOf u ns).length ≤ 10000 := by
  have h := join_len " " 100 (u :: ns.map fun n : Nat => (toString (n : Int) : Str)) fun y hy => by
    rcases List.mem_cons.mp hy with rfl | hy
    · exact hu
    · obtain ⟨n, hn', e⟩ := List.mem_map.mp hy
      rw [← e, str_len, ts_list]
      have := _root_.TL.numL_len (k := 60) (by decide) (hns n hn')
      omega
  have e1 : (" " : Str).length = 1 := by decide +kernel
  rw [e1, List.length_cons, List.length_map] at h
  refine Nat.le_trans h ?_
  have : (ns.length + 1) * (100 + 1) ≤ 4 * 101 := Nat.mul_le_mul_right _ (by omega)
  omega
theorem manyOf_le {z : Str} {k : Nat} (h : manyOf z = some k) : k ≤ 3 := by
  unfold manyOf at h
  repeat' split at h
  all_goals first
    | (injection h with h; omega)
    | cases h
theorem readP_len {ps : List Str} {u : Str} {ns : List Nat} (h : readP ps = some (u, ns)) : ns.length ≤ 3 := by
  cases ps with
  | nil => cases h
  | cons w ps =>
    have h : (if manyOf w = some ps.length ∧ ∀ p ∈ ps, okN p.cps.toList = true then some (w, ps.map fun p => NumText.digitsVal p.cps.toList) else none) = some (u, ns) := h
    by_cases c : manyOf w = some ps.length ∧ ∀ p ∈ ps, okN p.cps.toList = true
    · rw [if_pos c] at h
      injection h with h
      injection h with h1 h2
      rw [← h2, List.length_map]
      exact manyOf_le c.1
    · rw [if_neg c] at h
      cases h
theorem line_sum {u : Str} {ns : List Nat} (hu : u.length ≤ 100) (hl : ns.length ≤ 3) (hns : ∀ n ∈ ns, n < 10 ^ 60) : ((u :: ns.map fun n : Nat => (toString (n : Int) : Str)).map (fun x => x.length)).sum + (u :: ns.map fun n : Nat => (toString (n : Int) : Str)).length * (" " : Str).length ≤ 16777216 := by
  have hb : ∀ y ∈ u :: ns.map fun n : Nat => (toString (n : Int) : Str), y.length ≤ 100 := fun y hy => by
    rcases List.mem_cons.mp hy with rfl | hy
    · exact hu
    · obtain ⟨n, hn', e⟩ := List.mem_map.mp hy
      rw [← e, str_len, ts_list]
      have := _root_.TL.numL_len (k := 60) (by decide) (hns n hn')
      omega
  have h1 := StrLaws.sumLen_le (B := 100) _ hb
  have e1 : (" " : Str).length = 1 := by decide +kernel
  rw [e1]
  rw [List.length_cons, List.length_map] at h1 ⊢
  omega
def Deed.ns : Deed → List Nat
  | .make h z => [h.toNat, z.toNat]
  | .hold h o => [h.toNat, o.toNat]
  | .drop h => [h.toNat]
  | .put h s o => [h.toNat, s.toNat, o.toNat]
  | .empty h s => [h.toNat, s.toNat]
  | .take h o s => [h.toNat, o.toNat, s.toNat]
  | .tidy => []
def Deed.line (x : Deed) : Str := lineOf x.wd x.ns
theorem vs_ns {x : Deed} {few y : Int} (hz : x.InZ few y) : x.vs = .str x.wd :: x.ns.map fun n : Nat => V.int n := by
  have c : ∀ {n : Int}, 0 ≤ n → ((n.toNat : Nat) : Int) = n := fun h => Int.toNat_of_nonneg h
  cases x with
  | make h z => show _ = [V.str "make", V.int (h.toNat : Nat), V.int (z.toNat : Nat)]; rw [c hz.1.1, c hz.2.1]; rfl
  | hold h p => show _ = [V.str "hold", V.int (h.toNat : Nat), V.int (p.toNat : Nat)]; rw [c hz.1.1, c hz.2.1]; rfl
  | drop h => show _ = [V.str "drop", V.int (h.toNat : Nat)]; rw [c hz.1]; rfl
  | put h z p => show _ = [V.str "put", V.int (h.toNat : Nat), V.int (z.toNat : Nat), V.int (p.toNat : Nat)]; rw [c hz.1.1, c hz.2.1.1, c hz.2.2.1]; rfl
  | empty h z => show _ = [V.str "empty", V.int (h.toNat : Nat), V.int (z.toNat : Nat)]; rw [c hz.1.1, c hz.2.1]; rfl
  | take h p z => show _ = [V.str "take", V.int (h.toNat : Nat), V.int (p.toNat : Nat), V.int (z.toNat : Nat)]; rw [c hz.1.1, c hz.2.1.1, c hz.2.2.1]; rfl
  | tidy => rfl
theorem ns_len (x : Deed) : x.ns.length ≤ 3 := by cases x <;> simp [Deed.ns]
theorem ns_small {x : Deed} (hz : x.InZ 9 8) : ∀ n ∈ x.ns, n < 10 := by
  intro n hn
  cases x <;> simp only [Deed.ns, Deed.InZ, List.mem_cons, List.not_mem_nil, or_false] at hn hz <;> omega
theorem wd_facts (x : Deed) : manyOf x.wd = some x.ns.length ∧ 32 ∉ x.wd.cps.toList ∧ x.wd.length ≤ 100 ∧ manyOf ("give" ++ x.wd) = none ∧ 32 ∉ (("give" : Str) ++ x.wd).cps.toList ∧ (("give" : Str) ++ x.wd).length ≤ 100 := by
  cases x with
  | make h z => show manyOf "make" = some 2 ∧ 32 ∉ ("make" : Str).cps.toList ∧ ("make" : Str).length ≤ 100 ∧ manyOf ("give" ++ "make") = none ∧ 32 ∉ (("give" : Str) ++ "make").cps.toList ∧ (("give" : Str) ++ "make").length ≤ 100; decide +kernel
  | hold h z => show manyOf "hold" = some 2 ∧ 32 ∉ ("hold" : Str).cps.toList ∧ ("hold" : Str).length ≤ 100 ∧ manyOf ("give" ++ "hold") = none ∧ 32 ∉ (("give" : Str) ++ "hold").cps.toList ∧ (("give" : Str) ++ "hold").length ≤ 100; decide +kernel
  | drop h => show manyOf "drop" = some 1 ∧ 32 ∉ ("drop" : Str).cps.toList ∧ ("drop" : Str).length ≤ 100 ∧ manyOf ("give" ++ "drop") = none ∧ 32 ∉ (("give" : Str) ++ "drop").cps.toList ∧ (("give" : Str) ++ "drop").length ≤ 100; decide +kernel
  | put h z p => show manyOf "put" = some 3 ∧ 32 ∉ ("put" : Str).cps.toList ∧ ("put" : Str).length ≤ 100 ∧ manyOf ("give" ++ "put") = none ∧ 32 ∉ (("give" : Str) ++ "put").cps.toList ∧ (("give" : Str) ++ "put").length ≤ 100; decide +kernel
  | empty h z => show manyOf "empty" = some 2 ∧ 32 ∉ ("empty" : Str).cps.toList ∧ ("empty" : Str).length ≤ 100 ∧ manyOf ("give" ++ "empty") = none ∧ 32 ∉ (("give" : Str) ++ "empty").cps.toList ∧ (("give" : Str) ++ "empty").length ≤ 100; decide +kernel
  | take h p z => show manyOf "take" = some 3 ∧ 32 ∉ ("take" : Str).cps.toList ∧ ("take" : Str).length ≤ 100 ∧ manyOf ("give" ++ "take") = none ∧ 32 ∉ (("give" : Str) ++ "take").cps.toList ∧ (("give" : Str) ++ "take").length ≤ 100; decide +kernel
  | tidy => show manyOf "tidy" = some 0 ∧ 32 ∉ ("tidy" : Str).cps.toList ∧ ("tidy" : Str).length ≤ 100 ∧ manyOf ("give" ++ "tidy") = none ∧ 32 ∉ (("give" : Str) ++ "tidy").cps.toList ∧ (("give" : Str) ++ "tidy").length ≤ 100; decide +kernel
theorem vs_inj {x y : Deed} (h : x.vs = y.vs) : x = y := by
  have hd : x.wd = y.wd := by
    have e : x.vs[0]? = y.vs[0]? := by rw [h]
    rw [vs0, vs0] at e
    injection e with e
    injection e
  cases x <;> cases y <;> first
    | rfl
    | exact absurd hd (by dsimp only [Deed.wd]; decide +kernel)
    | (simp only [Deed.vs, List.cons.injEq, V.int.injEq, and_true, true_and] at h
       first
         | (subst h; rfl)
         | (obtain ⟨h1, h2⟩ := h; subst h1; subst h2; rfl)
         | (obtain ⟨h1, h2, h3⟩ := h; subst h1; subst h2; subst h3; rfl))
theorem small60 {n : Nat} (h : n < 10) : n < 10 ^ 60 := Nat.lt_of_lt_of_le h (by decide)
theorem read_deed {x : Deed} (hz : x.InZ 9 8) : readP (Txt.split x.line " ") = some (x.wd, x.ns) ∧ deedOf x.wd x.ns = some x := by
  have e := readP_line (wd_facts x).2.1 (wd_facts x).1 fun n hn => small60 (ns_small hz n hn)
  refine ⟨e, ?_⟩
  obtain ⟨d, h1, h2⟩ := deedOf_vs e
  rw [h1, vs_inj (h2.trans (vs_ns hz).symm)]
theorem ans_line {x : Deed} (hz : x.InZ 9 8) (P : Pl) : (∀ e, act P x = .bad e → ans P x.line = (P, badW e)) ∧ (∀ P' f, act P x = .fine P' f → ans P x.line = (P', freesW f)) := by
  obtain ⟨e1, e2⟩ := read_deed hz
  refine ⟨fun e he => ?_, fun P' f he => ?_⟩
  · unfold ans; rw [e1]; dsimp only; rw [e2]; dsimp only; rw [he]
  · unfold ans; rw [e1]; dsimp only; rw [e2]; dsimp only; rw [he]
theorem glue_snoc : ∀ (ps : List (List Nat)) (q : List Nat), ps ≠ [] → glue (ps ++ [q]) = glue ps ++ 32 :: q
  | [], _, h => absurd rfl h
  | [p], q, _ => rfl
  | p :: p2 :: ps, q, _ => by
    have ih := glue_snoc (p2 :: ps) q (by intro z; cases z)
    show p ++ 32 :: glue ((p2 :: ps) ++ [q]) = (p ++ 32 :: glue (p2 :: ps)) ++ 32 :: q
    rw [ih, List.append_assoc]
    rfl
theorem glue_front (g p : List Nat) : ∀ ps : List (List Nat), glue ((g ++ p) :: ps) = g ++ glue (p :: ps)
  | [] => rfl
  | q :: ps => by
    show (g ++ p) ++ 32 :: glue (q :: ps) = g ++ (p ++ 32 :: glue (q :: ps))
    rw [List.append_assoc]
theorem app_list (a b : Str) : (a ++ b).cps.toList = a.cps.toList ++ b.cps.toList := by
  show (a.cps ++ b.cps).toList = _
  simp
theorem one_list : (" 1" : Str).cps.toList = [32, 49] ∧ (toString (((1 : Nat) : Nat) : Int) : Str).cps.toList = [49] := by decide +kernel
theorem line_more (x : Deed) : x.line ++ " 1" = lineOf x.wd (x.ns ++ [1]) := by
  refine str_ext ?_
  rw [app_list, one_list.1]
  unfold Deed.line lineOf
  rw [sp1, join_glue, join_glue, List.map_append, ← List.cons_append, List.map_append]
  rw [show (List.map (fun y : Str => y.cps.toList) ([1].map fun n : Nat => (toString (n : Int) : Str))) = [[49]] from by show [(toString (((1 : Nat) : Nat) : Int) : Str).cps.toList] = _; rw [one_list.2]]
  rw [glue_snoc _ _ (by intro z; cases z)]
theorem line_give (x : Deed) : "give" ++ x.line = lineOf ("give" ++ x.wd) x.ns := by
  refine str_ext ?_
  rw [app_list]
  unfold Deed.line lineOf
  rw [sp1, join_glue, join_glue, List.map_cons, List.map_cons, app_list, glue_front]
theorem readP_not {u : Str} {ns : List Nat} (hu : 32 ∉ u.cps.toList) (hm : manyOf u ≠ some ns.length) : readP (Txt.split (lineOf u ns) " ") = none := by
  rw [split_line hu]
  show (if manyOf u = some (ns.map fun n : Nat => (toString (n : Int) : Str)).length ∧ ∀ p ∈ ns.map (fun n : Nat => (toString (n : Int) : Str)), okN p.cps.toList = true then _ else none) = none
  rw [if_neg (fun z => hm (by rw [z.1, List.length_map]))]
theorem ans_odd (x : Deed) (P : Pl) : ans P (x.line ++ " 1") = (P, ("no deed" : Str)) ∧ ans P ("give" ++ x.line) = (P, ("no deed" : Str)) := by
  obtain ⟨h1, h2, h3, h4, h5, _⟩ := wd_facts x
  refine ⟨?_, ?_⟩
  · unfold ans
    rw [line_more, readP_not h2 (by rw [h1, List.length_append, List.length_singleton]; intro z; injection z with z; omega)]
  · unfold ans
    rw [line_give, readP_not h5 (by rw [h4]; intro z; cases z)]
theorem line_lens {x : Deed} (hz : x.InZ 9 8) : x.line.length ≤ 10000 := line_len (wd_facts x).2.2.1 (ns_len x) fun n hn => small60 (ns_small hz n hn)
/-! ### where the law stands -/
def Mut (q lh lr la ld lk ll lu : Addr) (ra : List Addr) (b : Addr) : Prop := OwnA q lh lr la ld ra b ∨ b = lk ∨ b = ll ∨ b = lu
structure LawSt (H0 : Hp) (q lh lr la ld lk lo ll lu dl p0 p1 : Addr) (tv wv : V) (hs : List (Option Int)) (rs : List (List (Option Int))) (al d : List Int) (ra ks : List Addr) (zs ws : List Str) (xs : List V) (ds : List Deed) (P : Pl) (R : Hp) : Prop where
  s0 : Same H0 R
  own : OwnD R q lh lr la ld lk tv wv hs rs al d ra
  pr : PlainR P hs rs al d
  good : Good P
  rl : ∀ r ∈ rs, r.length ≤ 6
  fresh : ∀ b, Mut q lh lr la ld lk ll lu ra b → H0 b = none
  nk : ¬ OwnA q lh lr la ld ra lk
  nl : ¬ OwnA q lh lr la ld ra ll
  nu : ¬ OwnA q lh lr la ld ra lu
  kl : lk ≠ ll ∧ lk ≠ lu ∧ ll ≠ lu
  kk : R lk = some (.lst (ks.map V.ref))
  kept : ∀ u ∈ ks, ∃ (r c : Addr) (F : List Int), R u = some (.tup [.ref r, .ref c]) ∧ R r = some (.lst (F.map V.int)) ∧ R c = some (.lst (F.map V.int)) ∧ ¬ Mut q lh lr la ld lk ll lu ra r ∧ ¬ Mut q lh lr la ld lk ll lu ra c
  ko : R lo = some (.lst [.ref p0, .ref p1]) ∧ ¬ Mut q lh lr la ld lk ll lu ra lo
  kd : R dl = some (.lst xs) ∧ ¬ Mut q lh lr la ld lk ll lu ra dl
  items : Items R xs ds
  kz : R ll = some (.lst (zs.map V.str))
  ku : R lu = some (.lst (ws.map V.str))
section
variable {H0 R : Hp} {q lh lr la ld lk lo ll lu dl p0 p1 : Addr} {tv wv : V} {hs : List (Option Int)} {rs : List (List (Option Int))} {al d : List Int} {ra ks : List Addr} {zs ws : List Str} {xs : List V} {ds : List Deed} {P : Pl}
/-- a tuple is not one of the lists -/
theorem LawSt.tup (S : LawSt H0 q lh lr la ld lk lo ll lu dl p0 p1 tv wv hs rs al d ra ks zs ws xs ds P R) {b : Addr} {ys : List V} (h : R b = some (.tup ys)) : ¬ Mut q lh lr la ld lk ll lu ra b := by
  rintro (z | z | z | z)
  · exact S.own.list h z
  · rw [z, S.kk] at h; cases h
  · rw [z, S.kz] at h; cases h
  · rw [z, S.ku] at h; cases h
/-- one of the three lists changes -/
theorem LawSt.put (S : LawSt H0 q lh lr la ld lk lo ll lu dl p0 p1 tv wv hs rs al d ra ks zs ws xs ds P R) {b : Addr} {ks' : List Addr} {zs' ws' : List Str} {o : HO} (hb : b = lk ∨ b = ll ∨ b = lu)
    (hk : upd R b o lk = some (.lst (ks'.map V.ref))) (hz : upd R b o ll = some (.lst (zs'.map V.str))) (hu : upd R b o lu = some (.lst (ws'.map V.str)))
    (kept : ∀ u ∈ ks', ∃ (r c : Addr) (F : List Int), R u = some (.tup [.ref r, .ref c]) ∧ R r = some (.lst (F.map V.int)) ∧ R c = some (.lst (F.map V.int)) ∧ ¬ Mut q lh lr la ld lk ll lu ra r ∧ ¬ Mut q lh lr la ld lk ll lu ra c) :
    LawSt H0 q lh lr la ld lk lo ll lu dl p0 p1 tv wv hs rs al d ra ks' zs' ws' xs ds P (upd R b o) := by
  have mb : Mut q lh lr la ld lk ll lu ra b := .inr hb
  have off : ∀ {x : Addr}, ¬ Mut q lh lr la ld lk ll lu ra x → upd R b o x = R x := fun n => upd_ne (fun z => n (by rw [z]; exact mb))
  have nb : ¬ OwnA q lh lr la ld ra b := by
    rcases hb with z | z | z
    · rw [z]; exact S.nk
    · rw [z]; exact S.nl
    · rw [z]; exact S.nu
  refine ⟨fun x u e => ?_, S.own.off nb, S.pr, S.good, S.rl, S.fresh, S.nk, S.nl, S.nu, S.kl, hk, fun u hu => ?_, ⟨(off S.ko.2).trans S.ko.1, S.ko.2⟩, ⟨(off S.kd.2).trans S.kd.1, S.kd.2⟩, paired_imp (fun x y ⟨t, e, h⟩ => ⟨t, e, (off (S.tup h)).trans h⟩) S.items, hz, hu⟩
  · rw [upd_ne (ne_of_none e (S.fresh b mb))]
    exact S.s0 _ _ e
  · obtain ⟨r, c, F, h1, h2, h3, h4, h5⟩ := kept u hu
    exact ⟨r, c, F, (off (S.tup h1)).trans h1, (off h4).trans h2, (off h5).trans h3, h4, h5⟩
theorem LawSt.line (S : LawSt H0 q lh lr la ld lk lo ll lu dl p0 p1 tv wv hs rs al d ra ks zs ws xs ds P R) (zs' : List Str) : LawSt H0 q lh lr la ld lk lo ll lu dl p0 p1 tv wv hs rs al d ra ks zs' ws xs ds P (upd R ll (.lst (zs'.map V.str))) :=
  S.put (.inr (.inl rfl)) (by rw [upd_ne S.kl.1]; exact S.kk) upd_same (by rw [upd_ne S.kl.2.2.symm]; exact S.ku) S.kept
theorem LawSt.due (S : LawSt H0 q lh lr la ld lk lo ll lu dl p0 p1 tv wv hs rs al d ra ks zs ws xs ds P R) (ws' : List Str) : LawSt H0 q lh lr la ld lk lo ll lu dl p0 p1 tv wv hs rs al d ra ks zs ws' xs ds P (upd R lu (.lst (ws'.map V.str))) :=
  S.put (.inr (.inr rfl)) (by rw [upd_ne S.kl.2.1]; exact S.kk) (by rw [upd_ne S.kl.2.2]; exact S.kz) upd_same S.kept
/-- new things -/
theorem LawSt.same (S : LawSt H0 q lh lr la ld lk lo ll lu dl p0 p1 tv wv hs rs al d ra ks zs ws xs ds P R) {R' : Hp} (s : Same R R') : LawSt H0 q lh lr la ld lk lo ll lu dl p0 p1 tv wv hs rs al d ra ks zs ws xs ds P R' :=
  ⟨S.s0.trans s, S.own.same s, S.pr, S.good, S.rl, S.fresh, S.nk, S.nl, S.nu, S.kl, s _ _ S.kk, fun u hu => by
    obtain ⟨r, c, F, h1, h2, h3, h4, h5⟩ := S.kept u hu
    exact ⟨r, c, F, s _ _ h1, s _ _ h2, s _ _ h3, h4, h5⟩, ⟨s _ _ S.ko.1, S.ko.2⟩, ⟨s _ _ S.kd.1, S.kd.2⟩, S.items.grow s, s _ _ S.kz, s _ _ S.ku⟩
/-- one more is kept -/
theorem LawSt.keep (S : LawSt H0 q lh lr la ld lk lo ll lu dl p0 p1 tv wv hs rs al d ra ks zs ws xs ds P R) {r c u : Addr} {F : List Int} (hr : R r = none) (hc : upd R r (.lst (F.map V.int)) c = none) (hu : upd (upd R r (.lst (F.map V.int))) c (.lst (F.map V.int)) u = none) :
    LawSt H0 q lh lr la ld lk lo ll lu dl p0 p1 tv wv hs rs al d ra (ks ++ [u]) zs ws xs ds P (keptUp R r c u lk F ks) := by
  have sr := same_upd (o := .lst (F.map V.int)) hr
  have sc := same_upd (o := .lst (F.map V.int)) hc
  have su := same_upd (o := .tup [.ref r, .ref c]) hu
  have S3 := S.same (sr.trans (sc.trans su))
  have no : ∀ {b : Addr}, R b = none → ¬ Mut q lh lr la ld lk ll lu ra b := fun {b} h => by
    rintro (z | z | z | z)
    · exact S.own.has z h
    · rw [z, S.kk] at h; cases h
    · rw [z, S.kz] at h; cases h
    · rw [z, S.ku] at h; cases h
  refine S3.put (ks' := ks ++ [u]) (.inl rfl) upd_same (by rw [upd_ne S.kl.1.symm]; exact S3.kz) (by rw [upd_ne S.kl.2.1.symm]; exact S3.ku) fun v hv => ?_
  rcases List.mem_append.mp hv with z | z
  · exact S3.kept v z
  · rw [List.mem_singleton.mp z]
    exact ⟨r, c, F, upd_same, su _ _ (sc _ _ upd_same), su _ _ upd_same, no hr, no (sr.free hc)⟩
/-- the law's own pile has gone on -/
theorem LawSt.on (S : LawSt H0 q lh lr la ld lk lo ll lu dl p0 p1 tv wv hs rs al d ra ks zs ws xs ds P R) {R' : Hp} {la' ld' : Addr} {tv' wv' : V} {hs' : List (Option Int)} {rs' : List (List (Option Int))} {al' d' : List Int} {ra' : List Addr} {P' : Pl}
    (own : OwnD R' q lh lr la' ld' lk tv' wv' hs' rs' al' d' ra') (pr : PlainR P' hs' rs' al' d') (good : Good P') (rl : ∀ r ∈ rs', r.length ≤ 6) (fr : ∀ b o, ¬ OwnA q lh lr la ld ra b → R b = some o → R' b = some o) (new : ∀ b, OwnA q lh lr la' ld' ra' b → OwnA q lh lr la ld ra b ∨ R b = none) :
    LawSt H0 q lh lr la' ld' lk lo ll lu dl p0 p1 tv' wv' hs' rs' al' d' ra' ks zs ws xs ds P' R' := by
  have no : ∀ {b : Addr} {o : HO}, R b = some o → ¬ OwnA q lh lr la ld ra b → ¬ OwnA q lh lr la' ld' ra' b := fun h n z => (new _ z).elim n (fun y => by rw [h] at y; cases y)
  have nm : ∀ {b : Addr} {o : HO}, R b = some o → ¬ Mut q lh lr la ld lk ll lu ra b → ¬ Mut q lh lr la' ld' lk ll lu ra' b := fun h n z => z.elim (fun y => no h (fun w => n (.inl w)) y) (fun y => n (.inr y))
  have at_ : ∀ {b : Addr} {o : HO}, R b = some o → ¬ Mut q lh lr la ld lk ll lu ra b → R' b = some o := fun h n => fr _ _ (fun z => n (.inl z)) h
  refine ⟨fun b o e => ?_, own, pr, good, rl, fun b hb => ?_, no S.kk S.nk, no S.kz S.nl, no S.ku S.nu, S.kl, fr _ _ S.nk S.kk, fun u hu => ?_, ⟨at_ S.ko.1 S.ko.2, nm S.ko.1 S.ko.2⟩, ⟨at_ S.kd.1 S.kd.2, nm S.kd.1 S.kd.2⟩, paired_imp (fun x y ⟨t, e, h⟩ => ⟨t, e, at_ h (S.tup h)⟩) S.items, fr _ _ S.nl S.kz, fr _ _ S.nu S.ku⟩
  · refine fr b o (fun z => ?_) (S.s0 _ _ e)
    rw [S.fresh b (.inl z)] at e
    cases e
  · rcases hb with z | z
    · rcases new b z with y | y
      · exact S.fresh b (.inl y)
      · exact S.s0.free y
    · exact S.fresh b (.inr z)
  · obtain ⟨r, c, F, h1, h2, h3, h4, h5⟩ := S.kept u hu
    exact ⟨r, c, F, at_ h1 (S.tup h1), at_ h2 h4, at_ h3 h5, nm h2 h4, nm h3 h5⟩
end
theorem OwnD.at_ {H H' : Hp} {q lh lr la ld lk : Addr} {tv wv : V} {hs : List (Option Int)} {rs : List (List (Option Int))} {al d : List Int} {ra : List Addr} (x : OwnD H q lh lr la ld lk tv wv hs rs al d ra) (h : ∀ b, OwnA q lh lr la ld ra b → H' b = H b) : OwnD H' q lh lr la ld lk tv wv hs rs al d ra := by
  have e : H' q = some (.dK (pileD lh lr la ld lk tv wv)) := (h q (.inl rfl)).trans x.e
  refine ⟨e, .of e ⟨(h lh (.inr (.inl rfl))).trans x.o.rm.h, (h lr (.inr (.inr (.inl rfl)))).trans x.o.rm.r, paired_imp' (fun b row hb y => (h b (.inr (.inr (.inr (.inr (.inr hb)))))).trans y) x.o.rm.p, x.o.rm.nd, x.o.rm.nh, x.o.rm.nr, x.o.rm.hr⟩ ((h la (.inr (.inr (.inr (.inl rfl))))).trans x.o.a) ((h ld (.inr (.inr (.inr (.inr (.inl rfl)))))).trans x.o.d) x.o.na x.o.nd⟩
/-! ### two piles beside what goes on -/
theorem pastK_sub {R H H' : Hp} {b : Addr} {o : HO} (h : pastK R H H' b = some o) : H' b = some o := by
  cases e : H b with
  | none => rw [pastK_new e] at h; exact h
  | some u =>
    cases r : R b with
    | none => rw [pastK_own e r] at h; cases h
    | some v => rw [pastK_old e r] at h; exact h
theorem TwoP.on {p p' : Addr} {P Q : Pl} {R H H' : Hp} (T : TwoP C B p p' P Q R H) (fr : ∀ b o, R b = none → H b = some o → H' b = some o) : ∃ R', TwoP C B p p' P Q R' H' ∧ (∀ b o, R b = some o → R' b = H' b) ∧ (∀ b, H b = none → R' b = H' b) := by
  obtain ⟨g, g', Ra, A, A'⟩ := T
  refine ⟨pastK R Ra (pastK Ra H H'), ⟨g, g', pastK Ra H H', A.re (fun b h n => ?_) (fun b o e => pastK_sub e) (fun b o e r => fr b o (A'.same.free r) e), A'.re (fun b h n => ?_) (fun b o e => pastK_sub e) (fun b o e r => ?_)⟩, fun b o e => ?_, fun b h => ?_⟩
  · cases e : H b with
    | none => exact absurd e n
    | some o => exact pastK_own e h
  · cases e : Ra b with
    | none => exact absurd e n
    | some o => exact pastK_own e h
  · have h1 := A.same _ _ e
    rw [pastK_old h1 e]
    exact fr b o r h1
  · have h1 := A'.same _ _ e
    rw [pastK_old h1 e, pastK_old (A.same _ _ h1) h1]
  · have h1 := A.same.free h
    rw [pastK_new h1, pastK_new h]
theorem TwoP.set {p p' : Addr} {P Q : Pl} {R H : Hp} (T : TwoP C B p p' P Q R H) {a : Addr} {o u : HO} (h : R a = some u) : TwoP C B p p' P Q (upd R a o) (upd H a o) := by
  obtain ⟨g, g', Ra, A, A'⟩ := T
  exact ⟨g, g', _, A.set (A'.same _ _ h), A'.set h⟩
/-- one more is kept, by a call upon the first pile -/
theorem PileAt.keep {p : Addr} {g : Geo} {P : Pl} {R Ra : Hp} (A : PileAt C B p g P R Ra) {r c u lk : Addr} {F : List Int} {ks : List Addr} {o : HO} (hr : Ra r = none) (hc : upd Ra r (.lst (F.map V.int)) c = none) (hu : upd (upd Ra r (.lst (F.map V.int))) c (.lst (F.map V.int)) u = none) (hk : R lk = some o) : PileAt C B p g P (keptUp R r c u lk F ks) (keptUp Ra r c u lk F ks) := by
  have A1 := A.new (o := .lst (F.map V.int)) hr
  have A2 := A1.new (o := .lst (F.map V.int)) hc
  have A3 := A2.new (o := .tup [.ref r, .ref c]) hu
  have s := (same_upd (o := .lst (F.map V.int)) (A.same.free hr)).trans ((same_upd (o := .lst (F.map V.int)) (A1.same.free hc)).trans (same_upd (o := .tup [.ref r, .ref c]) (A2.same.free hu)))
  exact A3.set (s _ _ hk)
/-! ### the law -/
theorem pm_0 (lh lr la ld lt lk : Addr) : putK ([] : List (Key × V)) (Sum.inr "hands" : Key) (V.ref lh) = [((Sum.inr "hands" : Key), V.ref lh)] := putK_new _ (valV_nil)
theorem pm_1 (lh lr la ld lt lk : Addr) : putK ([((Sum.inr "hands" : Key), V.ref lh)] : List (Key × V)) (Sum.inr "rooms" : Key) (V.ref lr) = [((Sum.inr "hands" : Key), V.ref lh), ((Sum.inr "rooms" : Key), V.ref lr)] := putK_new _ ((valV_neg (show ¬ ((Sum.inr "hands" : Key) = (Sum.inr "rooms" : Key)) by decide +kernel)).trans (valV_nil))
theorem pm_2 (lh lr la ld lt lk : Addr) : putK ([((Sum.inr "hands" : Key), V.ref lh), ((Sum.inr "rooms" : Key), V.ref lr)] : List (Key × V)) (Sum.inr "alive" : Key) (V.ref la) = [((Sum.inr "hands" : Key), V.ref lh), ((Sum.inr "rooms" : Key), V.ref lr), ((Sum.inr "alive" : Key), V.ref la)] := putK_new _ ((valV_neg (show ¬ ((Sum.inr "hands" : Key) = (Sum.inr "alive" : Key)) by decide +kernel)).trans ((valV_neg (show ¬ ((Sum.inr "rooms" : Key) = (Sum.inr "alive" : Key)) by decide +kernel)).trans (valV_nil)))
theorem pm_3 (lh lr la ld lt lk : Addr) : putK ([((Sum.inr "hands" : Key), V.ref lh), ((Sum.inr "rooms" : Key), V.ref lr), ((Sum.inr "alive" : Key), V.ref la)] : List (Key × V)) (Sum.inr "doubts" : Key) (V.ref ld) = [((Sum.inr "hands" : Key), V.ref lh), ((Sum.inr "rooms" : Key), V.ref lr), ((Sum.inr "alive" : Key), V.ref la), ((Sum.inr "doubts" : Key), V.ref ld)] := putK_new _ ((valV_neg (show ¬ ((Sum.inr "hands" : Key) = (Sum.inr "doubts" : Key)) by decide +kernel)).trans ((valV_neg (show ¬ ((Sum.inr "rooms" : Key) = (Sum.inr "doubts" : Key)) by decide +kernel)).trans ((valV_neg (show ¬ ((Sum.inr "alive" : Key) = (Sum.inr "doubts" : Key)) by decide +kernel)).trans (valV_nil))))
theorem pm_4 (lh lr la ld lt lk : Addr) : putK ([((Sum.inr "hands" : Key), V.ref lh), ((Sum.inr "rooms" : Key), V.ref lr), ((Sum.inr "alive" : Key), V.ref la), ((Sum.inr "doubts" : Key), V.ref ld)] : List (Key × V)) (Sum.inr "told" : Key) (V.ref lt) = [((Sum.inr "hands" : Key), V.ref lh), ((Sum.inr "rooms" : Key), V.ref lr), ((Sum.inr "alive" : Key), V.ref la), ((Sum.inr "doubts" : Key), V.ref ld), ((Sum.inr "told" : Key), V.ref lt)] := putK_new _ ((valV_neg (show ¬ ((Sum.inr "hands" : Key) = (Sum.inr "told" : Key)) by decide +kernel)).trans ((valV_neg (show ¬ ((Sum.inr "rooms" : Key) = (Sum.inr "told" : Key)) by decide +kernel)).trans ((valV_neg (show ¬ ((Sum.inr "alive" : Key) = (Sum.inr "told" : Key)) by decide +kernel)).trans ((valV_neg (show ¬ ((Sum.inr "doubts" : Key) = (Sum.inr "told" : Key)) by decide +kernel)).trans (valV_nil)))))
theorem pm_5 (lh lr la ld lt lk : Addr) : putK ([((Sum.inr "hands" : Key), V.ref lh), ((Sum.inr "rooms" : Key), V.ref lr), ((Sum.inr "alive" : Key), V.ref la), ((Sum.inr "doubts" : Key), V.ref ld), ((Sum.inr "told" : Key), V.ref lt)] : List (Key × V)) (Sum.inr "wrong" : Key) (V.str Str.empty) = [((Sum.inr "hands" : Key), V.ref lh), ((Sum.inr "rooms" : Key), V.ref lr), ((Sum.inr "alive" : Key), V.ref la), ((Sum.inr "doubts" : Key), V.ref ld), ((Sum.inr "told" : Key), V.ref lt), ((Sum.inr "wrong" : Key), V.str Str.empty)] := putK_new _ ((valV_neg (show ¬ ((Sum.inr "hands" : Key) = (Sum.inr "wrong" : Key)) by decide +kernel)).trans ((valV_neg (show ¬ ((Sum.inr "rooms" : Key) = (Sum.inr "wrong" : Key)) by decide +kernel)).trans ((valV_neg (show ¬ ((Sum.inr "alive" : Key) = (Sum.inr "wrong" : Key)) by decide +kernel)).trans ((valV_neg (show ¬ ((Sum.inr "doubts" : Key) = (Sum.inr "wrong" : Key)) by decide +kernel)).trans ((valV_neg (show ¬ ((Sum.inr "told" : Key) = (Sum.inr "wrong" : Key)) by decide +kernel)).trans (valV_nil))))))
theorem pm_6 (lh lr la ld lt lk : Addr) : putK ([((Sum.inr "hands" : Key), V.ref lh), ((Sum.inr "rooms" : Key), V.ref lr), ((Sum.inr "alive" : Key), V.ref la), ((Sum.inr "doubts" : Key), V.ref ld), ((Sum.inr "told" : Key), V.ref lt), ((Sum.inr "wrong" : Key), V.str Str.empty)] : List (Key × V)) (Sum.inr "kept" : Key) (V.ref lk) = [((Sum.inr "hands" : Key), V.ref lh), ((Sum.inr "rooms" : Key), V.ref lr), ((Sum.inr "alive" : Key), V.ref la), ((Sum.inr "doubts" : Key), V.ref ld), ((Sum.inr "told" : Key), V.ref lt), ((Sum.inr "wrong" : Key), V.str Str.empty), ((Sum.inr "kept" : Key), V.ref lk)] := putK_new _ ((valV_neg (show ¬ ((Sum.inr "hands" : Key) = (Sum.inr "kept" : Key)) by decide +kernel)).trans ((valV_neg (show ¬ ((Sum.inr "rooms" : Key) = (Sum.inr "kept" : Key)) by decide +kernel)).trans ((valV_neg (show ¬ ((Sum.inr "alive" : Key) = (Sum.inr "kept" : Key)) by decide +kernel)).trans ((valV_neg (show ¬ ((Sum.inr "doubts" : Key) = (Sum.inr "kept" : Key)) by decide +kernel)).trans ((valV_neg (show ¬ ((Sum.inr "told" : Key) = (Sum.inr "kept" : Key)) by decide +kernel)).trans ((valV_neg (show ¬ ((Sum.inr "wrong" : Key) = (Sum.inr "kept" : Key)) by decide +kernel)).trans (valV_nil)))))))
theorem pd_made (lh lr la ld lt lk : Addr) : putK (mergeK [] [((Sum.inr "hands" : Key), V.ref lh), ((Sum.inr "rooms" : Key), V.ref lr), ((Sum.inr "alive" : Key), V.ref la), ((Sum.inr "doubts" : Key), V.ref ld), ((Sum.inr "told" : Key), V.ref lt), ((Sum.inr "wrong" : Key), V.str Str.empty)]) (Sum.inr "kept" : Key) (.ref lk) = pileD lh lr la ld lk (.ref lt) (.str Str.empty) := by
  show putK (putK (putK (putK (putK (putK (putK [] (Sum.inr "hands" : Key) (V.ref lh)) (Sum.inr "rooms" : Key) (V.ref lr)) (Sum.inr "alive" : Key) (V.ref la)) (Sum.inr "doubts" : Key) (V.ref ld)) (Sum.inr "told" : Key) (V.ref lt)) (Sum.inr "wrong" : Key) (V.str Str.empty)) (Sum.inr "kept" : Key) (V.ref lk) = _
  rw [pm_0 lh lr la ld lt lk, pm_1 lh lr la ld lt lk, pm_2 lh lr la ld lt lk, pm_3 lh lr la ld lt lk, pm_4 lh lr la ld lt lk, pm_5 lh lr la ld lt lk, pm_6 lh lr la ld lt lk]
  rfl
theorem glue_all {Z : Nat → Prop} (h : Z 32) : ∀ ps : List (List Nat), (∀ p ∈ ps, ∀ c ∈ p, Z c) → ∀ c ∈ glue ps, Z c
  | [], _, c, hc => by cases hc
  | [p], hp, c, hc => hp p List.mem_cons_self c hc
  | p :: q :: ps, hp, c, hc => by
    have hc : c ∈ p ++ 32 :: glue (q :: ps) := hc
    rcases List.mem_append.mp hc with z | z
    · exact hp p List.mem_cons_self c z
    · rcases List.mem_cons.mp z with z | z
      · rw [z]; exact h
      · exact glue_all h (q :: ps) (fun p hp' => hp p (List.mem_cons_of_mem _ hp')) c z
theorem wd_low (x : Deed) : ∀ c ∈ x.wd.cps.toList, c < 128 := by
  cases x with
  | make h z => show ∀ c ∈ ("make" : Str).cps.toList, c < 128; decide +kernel
  | hold h z => show ∀ c ∈ ("hold" : Str).cps.toList, c < 128; decide +kernel
  | drop h => show ∀ c ∈ ("drop" : Str).cps.toList, c < 128; decide +kernel
  | put h z p => show ∀ c ∈ ("put" : Str).cps.toList, c < 128; decide +kernel
  | empty h z => show ∀ c ∈ ("empty" : Str).cps.toList, c < 128; decide +kernel
  | take h p z => show ∀ c ∈ ("take" : Str).cps.toList, c < 128; decide +kernel
  | tidy => show ∀ c ∈ ("tidy" : Str).cps.toList, c < 128; decide +kernel
theorem line_low (x : Deed) : ∀ c ∈ x.line.cps.toList, c < 128 := by
  unfold Deed.line lineOf
  rw [sp1, join_glue]
  refine glue_all (Z := fun c => c < 128) (by decide) _ fun p hp c hc => ?_
  obtain ⟨y, hy, e⟩ := List.mem_map.mp hp
  rcases List.mem_cons.mp hy with rfl | hy
  · rw [← e] at hc; exact wd_low x c hc
  · obtain ⟨n, _, e2⟩ := List.mem_map.mp hy
    rw [← e, ← e2, ts_list] at hc
    have := _root_.TL.numL_digits n c hc
    omega
/-- a text of signs below 128 -/
def Low (z : Str) : Prop := (∀ c ∈ z.cps.toList, c < 128) ∧ z.length ≤ 20000
theorem low_line {x : Deed} (hz : x.InZ 9 8) : Low x.line := ⟨line_low x, Nat.le_trans (line_lens hz) (by decide)⟩
theorem low_more {x : Deed} (hz : x.InZ 9 8) : Low (x.line ++ " 1") := by
  refine ⟨fun c hc => ?_, ?_⟩
  · rw [app_list] at hc
    rcases List.mem_append.mp hc with z | z
    · exact line_low x c z
    · rw [one_list.1] at z
      simp only [List.mem_cons, List.not_mem_nil, or_false] at z
      omega
  · rw [Str.length_append]
    have := line_lens hz
    have e : (" 1" : Str).length = 2 := by decide +kernel
    omega
theorem low_give {x : Deed} (hz : x.InZ 9 8) : Low ("give" ++ x.line) := by
  refine ⟨fun c hc => ?_, ?_⟩
  · rw [app_list] at hc
    rcases List.mem_append.mp hc with z | z
    · exact (show ∀ c ∈ ("give" : Str).cps.toList, c < 128 by decide +kernel) c z
    · exact line_low x c z
  · rw [Str.length_append]
    have := line_lens hz
    have e : ("give" : Str).length = 4 := by decide +kernel
    omega
def dStrs (zs : List Str) : PyData := .list (zs.map PyData.str)
theorem low_lay {z : Str} (h : Low z) : (PyData.str z).canLay0 = true := by
  show PyData.strOk z = true
  unfold PyData.strOk
  rw [Array.all_eq_true_iff_forall_mem]
  intro c hc
  have := h.1 c (by simpa using hc)
  exact decide_eq_true (by omega)
theorem lay_strs : ∀ zs : List Str, (∀ z ∈ zs, Low z) → PyData.canLayAll0 (zs.map PyData.str) = true
  | [], _ => rfl
  | z :: zs, h => by
    have h1 := lay_strs zs fun y hy => h y (List.mem_cons_of_mem _ hy)
    have h2 := low_lay (h z List.mem_cons_self)
    show (PyData.canLay0 (.str z) && PyData.canLayAll0 (zs.map PyData.str)) = true
    rw [h1, h2]; rfl
theorem dep_strs : ∀ zs : List Str, PyData.depthAll (zs.map PyData.str) ≤ 1
  | [] => by decide
  | z :: zs => by
    have h1 := dep_strs zs
    show max (PyData.depth (.str z)) (PyData.depthAll (zs.map PyData.str)) ≤ 1
    exact Nat.max_le.mpr ⟨by show 0 ≤ 1; decide, h1⟩
theorem shaped_strs {zs : List Str} (h : ∀ z ∈ zs, Low z) : SeqAt.shaped (dStrs zs) = true := by
  unfold SeqAt.shaped
  have h1 : (dStrs zs).canLay0 = true := lay_strs zs h
  have h2 : (dStrs zs).depth ≤ 2 := by
    have := dep_strs zs
    show PyData.depthAll (zs.map PyData.str) + 1 ≤ 2
    omega
  rw [h1, decide_eq_true (by omega)]
  rfl
theorem dp_strs {K : PySem.W.Frag} {H : Hp} : ∀ zs : List Str, DpAll K H (zs.map V.str) (zs.map PyData.str)
  | [] => .nil
  | z :: zs => .cons (.str z) (dp_strs zs)
theorem upd_none {H : Hp} {a b : Addr} {o : HO} (h : upd H a o b = none) : b ≠ a ∧ H b = none := by
  by_cases c : b = a
  · rw [c, upd_same] at h; cases h
  · rw [upd_ne c] at h; exact ⟨c, h⟩
theorem cutT_tail (h : V) (xs : List V) : cutV (h :: xs) (some 1) none = xs := by
  have := cutV_drop (h :: xs) 1
  exact this
/-! tuples are known -/
def withT (R H : Hp) : Hp := fun b => match H b with
  | some (.tup xs) => some (.tup xs)
  | _ => R b
theorem withT_tup {R H : Hp} {b : Addr} {xs : List V} (h : H b = some (.tup xs)) : withT R H b = some (.tup xs) := by unfold withT; rw [h]
theorem withT_oth {R H : Hp} {b : Addr} (h : ∀ xs, H b ≠ some (.tup xs)) : withT R H b = R b := by
  unfold withT
  split
  · rename_i xs q
    exact absurd q (h xs)
  · rfl
theorem same_withT {R H : Hp} (s : Same R H) : Same R (withT R H) ∧ Same (withT R H) H := by
  refine ⟨fun b o e => ?_, fun b o e => ?_⟩
  · have h := s b o e
    by_cases q : ∃ xs, o = .tup xs
    · obtain ⟨xs, rfl⟩ := q; exact withT_tup h
    · rw [withT_oth (fun xs z => q ⟨xs, by rw [h] at z; exact Option.some.inj z⟩)]; exact e
  · by_cases q : ∃ xs, H b = some (.tup xs)
    · obtain ⟨xs, h⟩ := q
      rw [withT_tup h] at e
      rw [h]; exact e
    · rw [withT_oth (fun xs z => q ⟨xs, z⟩)] at e
      exact s b o e
theorem PileAt.withT2 {p : Addr} {g : Geo} {P : Pl} {R Ra H : Hp} (A : PileAt C B p g P R Ra) (s : Same Ra H) : PileAt C B p g P (withT R H) (withT Ra H) := by
  have no : ∀ {b : Addr} {o : HO}, Ra b = some o → (∀ xs, o ≠ .tup xs) → ∀ xs, H b ≠ some (.tup xs) := fun h n xs z => n xs (by rw [s _ _ h] at z; exact Option.some.inj z)
  have np := no A.hp (fun _ z => by cases z)
  have nh := no A.hh (fun _ z => by cases z)
  have nd := no A.hd (fun _ z => by cases z)
  refine ⟨fun b o e => ?_, (withT_oth np).trans A.rp, (withT_oth nh).trans A.rh, (withT_oth nd).trans A.rd, fun n b e => (withT_oth (no (A.hb n b e) (fun _ z => by cases z))).trans (A.rb n b e), fun n b e => (withT_oth (no (A.hs n b e) (fun _ z => by cases z))).trans (A.rs n b e),
    (withT_oth np).trans A.hp, (withT_oth nh).trans A.hh, (withT_oth nd).trans A.hd, fun n b e => (withT_oth (no (A.hb n b e) (fun _ z => by cases z))).trans (A.hb n b e), fun n b e => (withT_oth (no (A.hs n b e) (fun _ z => by cases z))).trans (A.hs n b e), A.ib, A.is, A.hn⟩
  by_cases q : ∃ xs, H b = some (.tup xs)
  · obtain ⟨xs, h⟩ := q
    rw [withT_tup h] at e ⊢
    exact e
  · rw [withT_oth (fun xs z => q ⟨xs, z⟩)] at e ⊢
    exact A.same b o e
theorem PileAt.withT1 {p : Addr} {g : Geo} {P : Pl} {R H : Hp} (A : PileAt C B p g P R H) : PileAt C B p g P (withT R H) H := by
  have no : ∀ {b : Addr} {o : HO}, H b = some o → (∀ xs, o ≠ .tup xs) → ∀ xs, H b ≠ some (.tup xs) := fun h n xs z => n xs (by rw [h] at z; exact Option.some.inj z)
  exact ⟨(same_withT A.same).2, (withT_oth (no A.hp (fun _ z => by cases z))).trans A.rp, (withT_oth (no A.hh (fun _ z => by cases z))).trans A.rh, (withT_oth (no A.hd (fun _ z => by cases z))).trans A.rd, fun n b e => (withT_oth (no (A.hb n b e) (fun _ z => by cases z))).trans (A.rb n b e), fun n b e => (withT_oth (no (A.hs n b e) (fun _ z => by cases z))).trans (A.rs n b e), A.hp, A.hh, A.hd, A.hb, A.hs, A.ib, A.is, A.hn⟩
theorem TwoP.tups {p p' : Addr} {P Q : Pl} {R H : Hp} (T : TwoP C B p p' P Q R H) : TwoP C B p p' P Q (withT R H) H := by
  obtain ⟨g, g', Ra, A, A'⟩ := T
  exact ⟨g, g', withT Ra H, A.withT1, A'.withT2 A.same⟩
/-- behind i deeds -/
def LawAt (C B : Addr) (H0 : Hp) (q lh lr lk lo ll lu dl p0 p1 : Addr) (xs : List V) (ds : List Deed) (i : Nat) (H' : Hp) : Prop :=
  ∃ (la ld : Addr) (tv wv : V) (hs : List (Option Int)) (rs : List (List (Option Int))) (al d : List Int) (ra ks : List Addr) (zs ws : List Str) (P : Pl) (R : Hp), LawSt H0 q lh lr la ld lk lo ll lu dl p0 p1 tv wv hs rs al d ra ks zs ws xs ds P R ∧ TwoP C B p0 p1 P P R H' ∧ rs.length ≤ i ∧ d.length + 6 * al.length ≤ 7 * i ∧ ks.length ≤ 2 * i ∧ zs.length = i ∧ (∀ z ∈ zs, Low z) ∧ answers pl0 zs = ws ∧ plAt pl0 zs = P
/-- what a line answers, in one -/
def spAnswer1 : Sp := fun vs H Q _ => ∃ (q t lh lr la ld lk : Addr) (tv wv : V) (hs : List (Option Int)) (rs : List (List (Option Int))) (al d : List Int) (ra : List Addr) (P : Pl) (x : Deed), vs = [.ref q, .ref t] ∧ OwnD H q lh lr la ld lk tv wv hs rs al d ra ∧ PlainR P hs rs al d ∧ Good P ∧ (∀ r ∈ rs, r.length ≤ 6) ∧ H t = some (.tup x.vs) ∧ x.InZ 9 8 ∧ rs.length ≤ 1000 ∧ d.length ≤ 100000 ∧
  ∀ (z : Str) (la' ld' : Addr) (tv' wv' : V) (hs' : List (Option Int)) (rs' : List (List (Option Int))) (al' d' : List Int) (ra' : List Addr) (P' : Pl) (H' : Hp), ans P x.line = (P', z) → z.length ≤ 1000 → OwnD H' q lh lr la' ld' lk tv' wv' hs' rs' al' d' ra' → PlainR P' hs' rs' al' d' → Good P' → (∀ r ∈ rs', r.length ≤ 6) → rs'.length ≤ rs.length + 1 → d'.length + 6 * al'.length ≤ d.length + 6 * al.length + 7 →
    (∀ b o, ¬ OwnA q lh lr la ld ra b → H b = some o → H' b = some o) → (∀ b, OwnA q lh lr la' ld' ra' b → OwnA q lh lr la ld ra b ∨ H b = none) →
    ((∃ e, act P x = .bad e ∧ P' = P ∧ wv' = .str (badW e)) ∨ (∃ (r : Addr) (F : List Int), act P x = .fine P' F ∧ tv' = .ref r ∧ wv' = .str Str.empty ∧ H r = none ∧ H' r = some (.lst (F.map V.int)))) → Q (.str z) H'
theorem sp_answer1 (vs : List V) (H : Hp) (Q : VK) (E : XK) (h : spAnswer1 vs H Q E) : spAnswerL vs H Q E := by
  obtain ⟨q, t, lh, lr, la, ld, lk, tv, wv, hs, rs, al, d, ra, P0, x, rfl, OD, R, G, rl, ht, hz, lrs, ldl, k⟩ := h
  obtain ⟨al1, al2⟩ := ans_line hz P0
  refine ⟨q, t, lh, lr, la, ld, lk, tv, wv, hs, rs, al, d, ra, P0, x, 9, 8, rfl, OD, R, G, rl, ht, hz, lrs, ldl, fun e H' he O' fr => ?_, fun r la' ld' hs' rs' al' d' F ra' P' H' he hr hr' nA R' O' rl' lrs' ldl' fr new => ?_⟩
  · exact k (badW e) la ld tv _ hs rs al d ra P0 H' (al1 e he) (badW_len e) O' R G rl (by omega) (by omega) fr (fun b hb => .inl hb) (.inl ⟨e, he, rfl, rfl⟩)
  · refine k (freesW F) la' ld' _ _ hs' rs' al' d' ra' P' H' (al2 P' F he) ?_ O' R' (G.act he) rl' lrs' ldl' fr new (.inr ⟨r, F, he, rfl, rfl, hr, hr'⟩)
    obtain ⟨f1, f2, f3, f4⟩ := act_freed G he
    have hm := R.own.m
    obtain ⟨j1, j2, j3⟩ := freed_join f1 fun n hn => by have := f2 n hn; exact ⟨this.1, by omega⟩
    have e6 : ("frees " : Str).length = 6 := by decide +kernel
    have e4 : ("none" : Str).length = 4 := by decide +kernel
    unfold freesW
    rw [Str.length_append, e6]
    split
    · rw [e4]; decide
    · omega
theorem scLaw : FnScope nLaw ["_law_script"] (defScope sLaw) := ⟨rfl, rfl, rfl, by decide +kernel, rfl, by decide +kernel, by decide +kernel⟩
theorem ok_law {f eP eD dW' cR Pt fI fM fO fR fU fE fQ fH fT fG fA fS fX fY fP fL fB fK fCS fCA fPA fRE fTR fTY fDO fRD fRN fAN fPY fW fD fN fZ5 fT1 fT2 fT3 fT4 fT5 fT6 fT7 fT8 fT9 fTA fTB_ fTC fTD : Addr} {fd dI dM dO dR dU dE dQ dH dT dG dA dS dX dY dP dL dB dK dCS dCA dPA dRE dTR dTY dDO dRD dRN dAN dPY dW dD dN dZ5 dT1 dT2 dT3 dT4 dT5 dT6 dT7 dT8 dT9 dTA dTB_ dTC dTD : FuncData} (F : Fun K "law" "law" sLaw f fd) (T : Txt K mg C B eH eS eF eB eL) (TL : TxtL mg) (TN : TxtN K w mg eD dW') (TP : TxtP K mg eP eH eS eF eB eL) (TI : TxtI K eH eS eF eB eL eD) (TX : TxtX K eH eS eF eB eL eD) (TB : GxR.TabB base mg cR Pt) (hcR : dRN.code = .ref cR) (D : Defs K mg C B fI fM fO fR fU fE fQ fH fT fG fA fS fX fY fP fL fB fK fCS fCA fPA fRE fTR fTY fDO fRD fRN fAN fPY fW fD fN fZ5 fT1 fT2 fT3 fT4 fT5 fT6 fT7 fT8 fT9 fTA fTB_ fTC fTD dI dM dO dR dU dE dQ dH dT dG dA dS dX dY dP dL dB dK dCS dCA dPA dRE dTR dTY dDO dRD dRN dAN dPY dW dD dN dZ5 dT1 dT2 dT3 dT4 dT5 dT6 dT7 dT8 dT9 dTA dTB_ dTC dTD) : FnOk P w K mg base CX0 10 f fd ["_law_script"] (spLawT K Pt) := by
  have GM : FnOk P w K mg base (L2N.CX P w) 3 fM dM ["self", "hand", "size"] (spMake C B eH eS eF) := ok_make D.FM T D.FL D.bL D.mL D.FP D.bP D.mP D.MB D.FB D.bB D.FK D.bK D.gK
  have GO : FnOk P w K mg base (L2N.CX P w) 3 fO dO ["self", "hand", "other"] (spHold C B eH) := ok_hold D.FO T D.FL D.bL D.mL D.FP D.bP D.mP D.FK D.bK D.gK
  have GR : FnOk P w K mg base (L2N.CX P w) 3 fR dR ["self", "hand"] (spDrop C B eH) := ok_drop D.FR T D.FL D.bL D.mL D.FP D.bP D.mP D.FK D.bK D.gK
  have GU : FnOk P w K mg base (L2N.CX P w) 3 fU dU ["self", "hand", "slot", "other"] (spPut C B eH eB eL) := ok_put D.FU T D.FL D.bL D.mL D.FP D.bP D.mP D.FK D.bK D.gK D.FY D.bY D.mY D.FCS D.bCS D.gCS
  have GE : FnOk P w K mg base (L2N.CX P w) 3 fE dE ["self", "hand", "slot"] (spEmpty C B eH eB eL) := ok_empty D.FE T D.FL D.bL D.mL D.FP D.bP D.mP D.FK D.bK D.gK D.FY D.bY D.mY D.FCS D.bCS D.gCS
  have GQ : FnOk P w K mg base (L2N.CX P w) 3 fQ dQ ["self", "hand", "other", "slot"] (spTake C B eH eB eL) := ok_take D.FQ T D.FL D.bL D.mL D.FP D.bP D.mP D.FK D.bK D.gK D.FY D.bY D.mY D.FCS D.bCS D.gCS
  have GT : FnOk P w K mg base (L2N.CX P w) 2 fT dT ["self", "number"] (spPoints C B eB) := ok_points D.FT T D.FX D.bX D.mX
  have GG : FnOk P w K mg base (L2N.CX P w) 2 fG dG ["self", "number"] (spWeighs C B eB) := ok_weighs D.FG T D.FX D.bX D.mX
  have GS : FnOk P w K mg base CX0 1 fS dS ["self"] (spSuspects C B) := ok_suspects D.FS T
  have GCA : FnOk P w K mg base CX0 1 fCA dCA ["self", "numbers"] (spClear C B) := ok_clear D.FCA T
  have GPA : FnOk P w K mg base (L2N.CX P w) 3 fPA dPA ["pile", "number"] (spPointedAt C B eB) := ok_pointedat D.FPA T GT D.bT D.mT
  have GRE : FnOk P w K mg base (L2N.CX P w) 4 fRE dRE ["pile", "numbers"] (spReached K C B eB) := ok_reached D.FRE T GPA D.FPA D.bPA D.gPA
  have GTR : FnOk P w K mg base CX0 5 fTR dTR ["pile"] (spTrials C B) := ok_trials D.FTR T GPA D.FPA D.bPA D.gPA GRE D.FRE D.bRE D.gRE GS D.bS D.mS GG D.bG D.mG
  have GTY : FnOk P w K mg base CX0 6 fTY dTY ["pile"] (spTidy C B) := ok_tidy D.FTY T GTR D.FTR D.bTR D.gTR GRE D.FRE D.bRE D.gRE GCA D.bCA D.mCA
  have GDO : FnOk P w K mg base (L2N.CX P w) 7 fDO dDO ["pile", "deed"] (spDone K C B eH eS eF eB eL) := ok_donep D.FDO T GM D.bM D.mM GO D.bO D.mO GR D.bR D.mR GU D.bU D.mU GE D.bE D.mE GQ D.bQ D.mQ GTY D.FTY D.bTY D.gTY
  have GI : FnOk P w K mg base CX0 1 fI dI ["self"] (spInit C B) := ok_init D.FI T
  have GG : FnOk P w K mg base (L2N.CX P w) 2 fG dG ["self", "number"] (spWeighs C B eB) := ok_weighs D.FG T D.FX D.bX D.mX
  have GD : FnOk P w K mg base CX0 1 fD dD ["_law_script", "_law_k"] (spCellAt K) := ok_cellat D.FD TL
  have GRN : FnOk P w K mg base (L2.CX P w) 1 fRN dRN ["part"] (spReadNumber Pt eD) := ok_readnumber D.FRN hcR TN TB
  have GRD : FnOk P w K mg base (L2.CX P w) 2 fRD dRD ["line"] (spRead Pt eD) := ok_read D.FRD TN GRN D.FRN D.bRN D.gRN
  have GAN : FnOk P w K mg base CX0 8 fAN dAN ["pile", "line"] (spAnswer C B Pt) := ok_answer D.FAN T TN TX GDO D.FDO D.bDO D.gDO GRD D.FRD D.bRD D.gRD
  have GPY : FnOk P w K mg base CX0 9 fPY dPY ["lines"] (spPlayed K Pt) := ok_played D.FPY T D.MC GI D.bI GAN D.FAN D.bAN D.gAN
  have GT3 : FnOk P w K mg base CX0 2 fT3 dT3 ["_law_script", "_law_most"] (spDeeds K) := ok_deeds D.FT3 TL D
  have GT9 : FnOk P w K mg base CX0 4 fT9 dT9 ["_law_pile", "_law_deed"] spAnswer1 := FnOk.imp (ok_answerl D.FT9 TL D) (fun vs H Q E q => sp_answer1 vs H Q E q)
  have GTD : FnOk P w K mg base CX0 9 fTD dTD ["_law_pile", "_law_deed", "_law_own_here", "_law_way"] (spDoneSo K C B) := ok_doneso D.FTD T TL TN TP TI D
  refine F.ok scLaw (fun vs H Q E h => ?_) (fun cdv A outer s H vs Q E hr h => ?_)
  · obtain ⟨a, ns, rfl, _⟩ := h
    rfl
  · obtain ⟨a, ns, rfl, hS, hlen, hbits, hP, k⟩ := h
    have nd := scLaw.nd
    have hu := hu_of hr
    have hr1 : Room 1 _ := hr.mono (by decide)
    have hr2 : Room 2 _ := hr.mono (by decide)
    have hr4 : Room 4 _ := hr.mono (by decide)
    have hr9 : Room 9 _ := hr
    have T0 : GxR.TabG H Pt := ⟨_, hP, trivial⟩
    refine ⟨_, (pss_cons (ps_set (i := 1) nd rfl (Or.inl rfl) (pe_disp (pps_cons pe_str (pe_lc (own := [("_law_hand", 12)]) (g := gName 12) (tt := tYes) (te := tC .non) (by rfl) nd (pi_range1 (by rfl) TL.range (pa_cons pe_int pa_nil)) (blkOk_by (N := nLaw) (sc := defScope sLaw) (by decide +kernel)) (fun _ _ _ _ _ => pg_name (i := 12) nd rfl (Or.inl rfl)) (fun _ _ _ _ _ => pts_nil) (fun _ _ _ _ _ => pe_non)) (pps_cons pe_str (pe_lst pa_nil) (pps_cons pe_str (pe_lst pa_nil) (pps_cons pe_str (pe_lst pa_nil) (pps_cons pe_str (pe_lst pa_nil) (pps_cons pe_str pe_str pps_nil)))))) rfl rfl (by simp) (by decide)))
      (pss_cons (ps_dput hu (pv 1) pe_str (pe_lst pa_nil) rfl)
      (pss_cons (ps_set (i := 2) nd rfl (Or.inl rfl) (pe_lst (pa_cons (pe_make0 D.MC GI hr2 (by rfl) T.mgC D.bI .nil pass0) (pa_cons (pe_make0 D.MC GI hr2 (by rfl) T.mgC D.bI .nil pass0) pa_nil))))
      (pss_cons (ps_set (i := 3) nd rfl (Or.inl rfl) (pe_lst pa_nil))
      (pss_cons (ps_set (i := 4) nd rfl (Or.inl rfl) (pe_lst pa_nil))
      (pss_cons (ps_set (i := 5) nd rfl (Or.inl rfl) (pe_call GT3 hr2 (by rfl) D.gT3 D.FT3.kp D.bT3 .nil pass0 (pa_cons (pv 0) (pa_cons pe_int pa_nil))))
      (pss_cons (ps_for PassesOwn.never rfl (pi_range1 (by rfl) TL.range (pa_cons (pe_callB call_len_seq (by rfl) TL.len PySem.boot_len (pa_cons (pv 5) pa_nil)) pa_nil)) (pg_name (i := 6) nd rfl (Or.inl rfl))
      (pss_cons (ps_set (i := 7) nd rfl (Or.inl rfl) (pe_join pe_str (pe_op op_cat (pe_lst (pa_cons (pe_ix ix_tup (pe_ix ix_list (pv 5) (pv 6) (fun _ _ => rfl)) pe_int (fun _ _ => rfl)) pa_nil)) (pe_lc (own := [("_law_number", 13)]) (g := gName 13) (tt := tYes) (te := tCB rStrE (tCons (tVar 13) tNil)) (by rfl) nd (pi_tup (pe_slice sl_tup (pe_ix ix_list (pv 5) (pv 6) (fun _ _ => rfl)) (po_some pe_int) po_none)) (blkOk_by (N := nLaw) (sc := defScope sLaw) (by decide +kernel)) (fun _ _ _ _ _ => pg_name (i := 13) nd rfl (Or.inl rfl)) (fun _ _ _ _ _ => pts_nil) (fun _ _ _ _ _ => pe_callTy call_strE (by rfl) TL.str (by decide +kernel) (pa_cons (pv 13) pa_nil))))))
      (pss_cons (ps_set (i := 8) nd rfl (Or.inl rfl) (pe_op op_mod (pe_op op_add (pe_call GD hr1 (by rfl) D.gD D.FD.kp D.bD .nil pass0 (pa_cons (pv 0) (pa_cons (pv 6) pa_nil))) (pv 6)) pe_int))
      (pss_one (ps_if (pt_cmpR op_lt (pv 8) pe_int (nomark _)) (pss_cons (ps_expr (pe_bm PySem.F.plainAttrs_list PySem.F.slot_list_append PySem.F.type_list_append mt_append (pv 3) (pa_cons (pe_ix ix_list (pe_lst (pa_cons (pe_op op_add_str (pv 7) pe_str) (pa_cons (pe_op op_add_str pe_str (pv 7)) pa_nil))) (pv 8) (fun _ _ => rfl)) pa_nil)))
      (pss_one (ps_expr (pe_bm PySem.F.plainAttrs_list PySem.F.slot_list_append PySem.F.type_list_append mt_append (pv 4) (pa_cons pe_str pa_nil))))) (pss_cons (ps_expr (pe_bm PySem.F.plainAttrs_list PySem.F.slot_list_append PySem.F.type_list_append mt_append (pv 3) (pa_cons (pv 7) pa_nil)))
      (pss_cons (ps_expr (pe_bm PySem.F.plainAttrs_list PySem.F.slot_list_append PySem.F.type_list_append mt_append (pv 4) (pa_cons (pe_call GT9 hr4 (by rfl) D.gT9 D.FT9.kp D.bT9 .nil pass0 (pa_cons (pv 1) (pa_cons (pe_ix ix_list (pv 5) (pv 6) (fun _ _ => rfl)) pa_nil))) pa_nil)))
      (pss_one (ps_for PassesOwn.never rfl (pi_range1 (by rfl) TL.range (pa_cons pe_int pa_nil)) (pg_name (i := 9) nd rfl (Or.inl rfl))
      (pss_one (ps_if (pt_not (pt_val (pe_call GTD hr9 (by rfl) D.gTD D.FTD.kp D.bTD .nil pass0 (pa_cons (pe_ix ix_list (pv 2) (pv 9) (fun _ _ => rfl)) (pa_cons (pe_ix ix_list (pv 5) (pv 6) (fun _ _ => rfl)) (pa_cons (pv 1) (pa_cons (pv 9) pa_nil))))))) (pss_one (ps_ret pe_bl)) pss_nil)))))))))))
      (pss_cons (ps_if (pt_cmpR (op_neD hr.units) (pe_lc (own := [("_law_told_here", 11), ("_law_copy", 14)]) (g := gTup K 2 (gCons (gName 11) (gCons (gName 14) gNil))) (tt := tTest (tOp (rNeD K) (tVar 11) (tVar 14))) (te := tC (.int 1)) (by rfl) nd (pi_list (pe_dget hu (pv 1) pe_str (fun _ _ => rfl))) (blkOk_by (N := nLaw) (sc := defScope sLaw) (by decide +kernel)) (fun _ _ _ _ _ => pg_tup rfl (pgs_cons (pg_name (i := 11) nd rfl (Or.inl rfl)) (pgs_cons (pg_name (i := 14) nd rfl (Or.inl rfl)) pgs_nil))) (fun _ _ _ _ _ => pts_one (pt_cmpR (op_neD hr.units) (pv 11) (pv 14) (nomark _))) (fun _ _ _ _ _ => pe_int)) (pe_lst pa_nil) (nomark _)) (pss_one (ps_ret pe_bl)) pss_nil)
      (pss_cons (ps_set (i := 10) nd rfl (Or.inl rfl) (pe_callTy call_list_of (by rfl) TL.list (by decide +kernel) (pa_cons (pv 3) pa_nil)))
      (pss_cons (ps_set (i := 11) nd rfl (Or.inl rfl) (pe_call GPY hr9 (by rfl) D.gPY D.FPY.kp D.bPY .nil pass0 (pa_cons (pv 10) pa_nil)))
      (pss_cons (ps_if (PW.pt (pw_or (pt_not (pt_val (pe_callB call_isi (by rfl) TL.isi PyProof.Rows.boot_isinstance (pa_cons (pv 11) (pa_cons (pe_bltn (v := .ty "list") (by rfl) TL.list (by decide +kernel) rfl) pa_nil))))) (pw_or (pt_cmpR op_ne (pe_callB call_len_seq (by rfl) TL.len PySem.boot_len (pa_cons (pv 11) pa_nil)) (pe_callB call_len_seq (by rfl) TL.len PySem.boot_len (pa_cons (pv 4) pa_nil)) (nomark _)) (pw_or1 (pt_cmpR (op_neD hr.units) (pv 10) (pv 3) (nomark _)))))) (pss_one (ps_ret pe_bl)) pss_nil)
      (pss_cons (ps_for PassesOwn.never rfl (pi_range1 (by rfl) TL.range (pa_cons (pe_callB call_len_seq (by rfl) TL.len PySem.boot_len (pa_cons (pv 4) pa_nil)) pa_nil)) (pg_name (i := 6) nd rfl (Or.inl rfl))
      (pss_one (ps_if (PW.pt (pw_or (pt_not (pt_val (pe_callB call_isi (by rfl) TL.isi PyProof.Rows.boot_isinstance (pa_cons (pe_ix ix_list (pv 11) (pv 6) (fun _ _ => rfl)) (pa_cons (pe_bltn (v := .ty "str") (by rfl) TL.str (by decide +kernel) rfl) pa_nil))))) (pw_or1 (pt_cmpR op_ne (pe_ix ix_list (pv 11) (pv 6) (fun _ _ => rfl)) (pe_ix ix_list (pv 4) (pv 6) (fun _ _ => rfl)) (nomark _))))) (pss_one (ps_ret pe_bl)) pss_nil)))
      (pss_one (ps_ret pe_bl)))))))))))))), ?_⟩
    -- the law's own pile
    intro q hq
    refine ⟨8, rfl, by decide, by decide, fun lh hlh => lc_range (lo := 0) (n := (8 : Int).toNat) (fun i H' => H' = upd (upd H q (.dK [])) lh (.lst (lV (List.replicate i none)))) rfl (fun i H' hi e => ?_) (fun H1 e1 => ?_)⟩
    · subst e
      refine ⟨rfl, _, upd_same, (by rw [lV_len, List.length_replicate, sizeLine_eq]; have : i < 8 := hi; omega), ?_⟩
      rw [upd_upd, List.replicate_succ']
      simp only [lV, List.map_append]
      rfl
    subst e1
    refine ⟨(by show 0 ≤ sizeLine; decide), fun lr hlr => ⟨(by show 0 ≤ sizeLine; decide), fun la hla => ⟨(by show 0 ≤ sizeLine; decide), fun ld hld => ⟨(by show 0 ≤ sizeLine; decide), fun lt hlt => ?_⟩⟩⟩⟩
    have n1 := upd_none hlh
    have n2 := upd_none hlr
    have n2' := upd_none n2.2
    have n3 := upd_none hla
    have n3' := upd_none n3.2
    have n3'' := upd_none n3'.2
    have n4 := upd_none hld
    have n4' := upd_none n4.2
    have n4'' := upd_none n4'.2
    have n4''' := upd_none n4''.2
    have n5 := upd_none hlt
    have n5' := upd_none n5.2
    have n5'' := upd_none n5'.2
    have n5''' := upd_none n5''.2
    have n5'''' := upd_none n5'''.2
    refine ⟨?_, [((Sum.inr "hands" : Key), V.ref lh), ((Sum.inr "rooms" : Key), V.ref lr), ((Sum.inr "alive" : Key), V.ref la), ((Sum.inr "doubts" : Key), V.ref ld), ((Sum.inr "told" : Key), V.ref lt), ((Sum.inr "wrong" : Key), V.str Str.empty)], rfl, (by show 6 ≤ 15; decide), ?_⟩
    · rw [upd_ne n5''''.1.symm, upd_ne n4'''.1.symm, upd_ne n3''.1.symm, upd_ne n2'.1.symm, upd_ne n1.1.symm, upd_same]
    refine ⟨(by show 0 ≤ sizeLine; decide), fun lk hlk => ⟨_, rfl, q, _, rfl, DPut.k (k := Sum.inr "kept") (by rw [upd_ne (upd_none hlk).1.symm]; exact upd_same) (by show 6 < sizeLine; decide), ?_⟩⟩
    rw [pd_made]
    have n6 := upd_none hlk
    have n6a := upd_none n6.2
    have n6b := upd_none n6a.2
    have n6c := upd_none n6b.2
    have n6d := upd_none n6c.2
    have n6e := upd_none n6d.2
    have n6f := upd_none n6e.2
    obtain ⟨H5, e5⟩ : ∃ H5, H5 = upd (upd (upd (upd (upd (upd (upd (upd (upd H q (.dK [])) lh (.lst (lV (List.replicate (8 : Int).toNat none)))) lr (.lst [])) la (.lst [])) ld (.lst [])) lt (.lst [])) q (.dK (mergeK [] [((Sum.inr "hands" : Key), V.ref lh), ((Sum.inr "rooms" : Key), V.ref lr), ((Sum.inr "alive" : Key), V.ref la), ((Sum.inr "doubts" : Key), V.ref ld), ((Sum.inr "told" : Key), V.ref lt), ((Sum.inr "wrong" : Key), V.str Str.empty)]))) lk (.lst [])) q (.dK (pileD lh lr la ld lk (.ref lt) (.str Str.empty))) := ⟨_, rfl⟩
    rw [← e5]
    have vq : H5 q = some (.dK (pileD lh lr la ld lk (.ref lt) (.str Str.empty))) := by rw [e5]; exact upd_same
    have vk : H5 lk = some (.lst (([] : List Addr).map V.ref)) := by rw [e5, upd_ne n6.1]; exact upd_same
    have vh : H5 lh = some (.lst (lV (List.replicate 8 none))) := by rw [e5, upd_ne n1.1, upd_ne n6e.1.symm, upd_ne n1.1, upd_ne n5'''.1.symm, upd_ne n4''.1.symm, upd_ne n3'.1.symm, upd_ne n2.1.symm]; exact upd_same
    have vr : H5 lr = some (.lst (([] : List Addr).map V.ref)) := by rw [e5, upd_ne n2'.1, upd_ne n6d.1.symm, upd_ne n2'.1, upd_ne n5''.1.symm, upd_ne n4'.1.symm, upd_ne n3.1.symm]; exact upd_same
    have va : H5 la = some (.lst (([] : List Int).map V.int)) := by rw [e5, upd_ne n3''.1, upd_ne n6c.1.symm, upd_ne n3''.1, upd_ne n5'.1.symm, upd_ne n4.1.symm]; exact upd_same
    have vd : H5 ld = some (.lst (([] : List Int).map V.int)) := by rw [e5, upd_ne n4'''.1, upd_ne n6b.1.symm, upd_ne n4'''.1, upd_ne n5.1.symm]; exact upd_same
    have s5 : Same H H5 := fun b o e => by
      rw [e5, upd_ne (ne_of_none e hq), upd_ne (ne_of_none e n6f.2), upd_ne (ne_of_none e hq), upd_ne (ne_of_none e n5''''.2), upd_ne (ne_of_none e n4'''.2), upd_ne (ne_of_none e n3''.2), upd_ne (ne_of_none e n2'.2), upd_ne (ne_of_none e n1.2), upd_ne (ne_of_none e hq)]
      exact e
    have O5 : OwnD H5 q lh lr la ld lk (.ref lt) (.str Str.empty) (List.replicate 8 none) [] [] [] [] :=
      ⟨vq, .of vq ⟨vh, vr, .nil, List.nodup_nil, fun z => (by cases z), fun z => (by cases z), n2.1.symm⟩ va vd ⟨fun z => (by cases z), n3'.1, n3.1⟩ ⟨fun z => (by cases z), n4''.1, n4'.1, n4.1⟩⟩
    have nk5 : ¬ OwnA q lh lr la ld [] lk := fun z => by
      rcases z with z | z | z | z | z | z
      · exact n6.1 z
      · exact n6e.1 z
      · exact n6d.1 z
      · exact n6c.1 z
      · exact n6b.1 z
      · cases z
    have f5 : ∀ b, OwnA q lh lr la ld [] b ∨ b = lk → H b = none := fun b z => by
      rcases z with (z | z | z | z | z | z) | z
      · rw [z]; exact hq
      · rw [z]; exact n1.2
      · rw [z]; exact n2'.2
      · rw [z]; exact n3''.2
      · rw [z]; exact n4'''.2
      · cases z
      · rw [z]; exact n6f.2
    clear e5 n1 n2 n2' n3 n3' n3'' n4 n4' n4'' n4''' n5 n5' n5'' n5''' n5'''' n6 n6a n6b n6c n6d n6e n6f hlh hlr hla hld hlt hlk hq
    -- the two piles
    intro x dx nx ndx nex
    refine ⟨H5, x, dx, rfl, fun b o e => by rw [upd_ne (ne_of_none e nx), upd_ne (ne_of_none e ndx)]; exact e, nx, upd_same, fun g1 H6 A1 => ⟨rfl, ?_⟩⟩
    intro y dy ny ndy ney
    refine ⟨H6, y, dy, rfl, fun b o e => by rw [upd_ne (ne_of_none e ny), upd_ne (ne_of_none e ndy)]; exact e, ny, upd_same, fun g2 H7 A2 => ⟨rfl, ?_⟩⟩
    have Tw : TwoP C B x y pl0 pl0 H5 H7 := TwoP.swap ⟨g2, g1, H6, A2, A1⟩
    clear A1 A2 nx ndx nex ny ndy ney
    refine ⟨(by show 2 ≤ sizeLine; decide), fun lo hlo => ⟨(by show 0 ≤ sizeLine; decide), fun ll hll => ⟨(by show 0 ≤ sizeLine; decide), fun lu hlu => ?_⟩⟩⟩
    have Ta := Tw.new (o := .lst [.ref x, .ref y]) hlo
    have Tb := Ta.new (o := .lst []) hll
    have T2 := Tb.new (o := .lst []) hlu
    have r1 := Tw.same.free hlo
    have r2 := Ta.same.free hll
    have r3 := Tb.same.free hlu
    have r2' := upd_none r2
    have r3' := upd_none r3
    have r3'' := upd_none r3'.2
    have s52 := ((same_upd (o := .lst [.ref x, .ref y]) r1).trans (same_upd (o := .lst []) r2)).trans (same_upd (o := .lst []) r3)
    have vlu : upd (upd (upd H5 lo (.lst [.ref x, .ref y])) ll (.lst [])) lu (.lst []) lu = some (.lst (([] : List Str).map V.str)) := upd_same
    have vll : upd (upd (upd H5 lo (.lst [.ref x, .ref y])) ll (.lst [])) lu (.lst []) ll = some (.lst (([] : List Str).map V.str)) := (same_upd r3) _ _ upd_same
    have vlo : upd (upd (upd H5 lo (.lst [.ref x, .ref y])) ll (.lst [])) lu (.lst []) lo = some (.lst [.ref x, .ref y]) := (same_upd r3) _ _ ((same_upd r2) _ _ upd_same)
    generalize upd (upd (upd H5 lo (.lst [.ref x, .ref y])) ll (.lst [])) lu (.lst []) = R2 at T2 s52 vlu vll vlo
    generalize upd (upd (upd H7 lo (.lst [.ref x, .ref y])) ll (.lst [])) lu (.lst []) = H8 at T2 ⊢
    clear Ta Tb Tw hlo hll hlu
    have O2 := O5.same s52
    have vk2 := s52 _ _ vk
    -- the deeds
    refine ⟨_, rfl, a, ns, rfl, ((s5.trans s52).trans T2.same).seq hS, fun dl H9 D9 => ?_⟩
    obtain ⟨s9, rdl, xs, ds, hdl, it9, in9, _, ln9⟩ := D9
    obtain ⟨R', T3, kn, nw⟩ := T2.on (fun b o _ e => s9 b o e)
    have T4 := T3.tups
    have s23 : Same R2 (withT R' H9) := fun b o e => (same_withT T3.same).1 b o ((kn b o e).trans (s9 _ _ (T2.same _ _ e)))
    have kd : withT R' H9 dl = some (.lst xs) := (same_withT T3.same).1 dl _ ((nw dl rdl).trans hdl)
    have it3 : Items (withT R' H9) xs ds := paired_imp (fun _ _ ⟨t, e, h⟩ => ⟨t, e, withT_tup h⟩) it9
    have ndl : ¬ Mut q lh lr la ld lk ll lu [] dl := by
      have rd := T2.same.free rdl
      rintro (z | z | z | z)
      · exact O2.has z rd
      · rw [z, vk2] at rd; cases rd
      · rw [z, vll] at rd; cases rd
      · rw [z, vlu] at rd; cases rd
    have nlo : ¬ Mut q lh lr la ld lk ll lu [] lo := by
      rintro (z | z | z | z)
      · exact O5.has z r1
      · rw [z, vk] at r1; cases r1
      · exact r2'.1 z.symm
      · exact r3''.1 z.symm
    have S0 : LawSt H q lh lr la ld lk lo ll lu dl x y (.ref lt) (.str Str.empty) (List.replicate 8 none) [] [] [] [] [] [] [] xs ds pl0 (withT R' H9) :=
      ⟨(s5.trans s52).trans s23, O2.same s23, plain0, good0, fun r h => (by cases h), fun b z => (by
        rcases z with z | z | z | z
        · exact f5 b (.inl z)
        · exact f5 b (.inr z)
        · rw [z]; exact s5.free r2'.2
        · rw [z]; exact s5.free r3''.2), nk5, fun z => O5.has z r2'.2, fun z => O5.has z r3''.2, ⟨fun z => (by rw [z] at vk; rw [vk] at r2'; cases r2'.2), fun z => (by rw [z] at vk; rw [vk] at r3''; cases r3''.2), r3'.1.symm⟩, s23 _ _ vk2, fun u h => (by cases h), ⟨s23 _ _ vlo, nlo⟩, ⟨kd, ndl⟩, it3, s23 _ _ vll, s23 _ _ vlu⟩
    have L0 : LawAt C B H q lh lr lk lo ll lu dl x y xs ds 0 H9 := ⟨la, ld, .ref lt, .str Str.empty, _, _, _, _, _, _, _, _, _, _, S0, T4, Nat.le_refl _, Nat.le_refl _, Nat.le_refl _, rfl, fun z h => (by cases h), rfl, rfl⟩
    clear S0 T4 it3 s23 kd ndl nlo T3 kn nw hdl it9 s9 rdl T2 O2 vk2 vlo vll vlu r3'' r3' r2' r3 r2 r1 f5 nk5 O5 s5 s52 vd va vr vh vk vq
    have hx : xs.length = ds.length := by
      obtain ⟨_, _, _, _, _, _, _, _, _, _, _, _, _, _, S, _⟩ := L0
      exact paired_length S.items
    have kdl : H9 dl = some (.lst xs) := by
      obtain ⟨_, _, _, _, _, _, _, _, _, _, _, _, _, _, S, T', _⟩ := L0
      exact T'.same _ _ S.kd.1
    refine ⟨_, rfl, dl, _, rfl, .inl (SqL.of kdl), _, rfl, by omega, by omega, ?_⟩
    refine for_range (lo := 0) (n := (xs.length : Int).toNat) (fun i σ H' => ∃ (v6 v7 v8 v9 : Option V), σ = [some (.ref a), some (.ref q), some (.ref lo), some (.ref ll), some (.ref lu), some (.ref dl), v6, v7, v8, v9, none, none, none, none, none] ∧ LawAt C B H q lh lr lk lo ll lu dl x y xs ds i H') ⟨none, none, none, none, rfl, L0⟩ ?_ ?_
    · clear L0 kdl
      rintro i σ H9 hi ⟨v6, v7, v8, v9, rfl, la, ld, tv, wv, hs, rs, al, d, ra, ks, zs, ws, P0, R, S, Tw, rsl, dal, ksl, zl, low, ans1, ans2⟩
      have hil : i < xs.length := by omega
      obtain ⟨e, he, t, ext, ht⟩ := paired_at S.items i xs[i] (List.getElem?_eq_getElem hil)
      have hxi : xs[i]? = some (V.ref t) := by rw [List.getElem?_eq_getElem hil, ext]
      have hz := in9 e (List.mem_of_getElem? he)
      have hix : (0 : Int) + (i : Int) = ((i : Nat) : Int) := by omega
      have kdl := Tw.same _ _ S.kd.1
      have ht9 := Tw.same _ _ ht
      -- the line
      refine ⟨⟨_, rfl⟩, _, rfl, _, rfl, dl, _, _, _, rfl, rfl, SqL.of kdl, at_of (j := i) hix hxi, t, _, _, _, rfl, rfl, SqT.of ht9, at_of (j := 0) rfl (vs0 e), (by show 1 ≤ sizeLine; decide), fun l1 hl1 => ?_⟩
      have s1 := same_upd (o := .lst [.str e.wd]) hl1
      refine ⟨_, rfl, _, rfl, dl, _, _, _, rfl, rfl, SqL.of (s1 _ _ kdl), at_of (j := i) hix hxi, _, rfl, t, _, rfl, SqT.of (s1 _ _ ht9), ?_, fun u hu1 => ?_⟩
      · cases e <;> exact fun z => absurd z.1 (by show ¬ ((1 : Nat) = 0); decide)
      rw [show cutV e.vs (some 1) none = e.ns.map fun n : Nat => V.int n from by rw [vs_ns hz]; exact cutT_tail _ _]
      have s2 := s1.trans (same_upd (o := .tup (e.ns.map fun n : Nat => V.int n)) hu1)
      have k1 := (same_upd (o := .tup (e.ns.map fun n : Nat => V.int n)) hu1) _ _ (show upd H9 l1 (.lst [.str e.wd]) l1 = some (.lst [.str e.wd]) from upd_same)
      have k2 : upd (upd H9 l1 (.lst [.str e.wd])) u (.tup (e.ns.map fun n : Nat => V.int n)) u = some (.tup (e.ns.map fun n : Nat => V.int n)) := upd_same
      generalize upd (upd H9 l1 (.lst [.str e.wd])) u (.tup (e.ns.map fun n : Nat => V.int n)) = H2 at s2 k1 k2 ⊢
      clear s1 hl1 hu1
      refine ⟨u, rfl, ⟨_, SqT.of k2⟩, fun Dn hDn => ?_⟩
      refine lc_it walk_tup (fun j H' => Same H2 H' ∧ H' Dn = some (.lst (((e.ns.map fun n : Nat => (toString (n : Int) : Str)).take j).map V.str))) ⟨samePut (fun _ _ e => e) hDn _, upd_same⟩ (fun j H' _ ⟨S', _⟩ => SqT.of (S' _ _ k2)) ?_ ?_
      · rintro j y H4 H5 hj ⟨S4, kd4⟩ ⟨rfl, hy⟩
        rw [List.getElem?_map] at hy
        cases en : e.ns[j]? with
        | none => rw [en] at hy; cases hy
        | some n =>
          rw [en] at hy
          have hy : y = V.int (n : Nat) := (Option.some.inj hy).symm
          subst hy
          have hn := ns_small hz n (List.mem_of_getElem? en)
          have l3 := ns_len e
          refine ⟨rfl, _, rfl, .inl ⟨(n : Int), rfl, log_nat9 (by omega) (by omega), ?_⟩⟩
          refine ⟨_, kd4, (by rw [List.length_map, List.length_take, List.length_map, sizeLine_eq]; omega), sameOff S4 hDn _, ?_⟩
          rw [upd_same, takeS (i := j) (x := (toString (n : Int) : Str)) (by rw [List.getElem?_map, en]; rfl), List.map_append]
          rfl
      rintro H4 ⟨S4, kD⟩
      rw [show (e.ns.map fun n : Nat => V.int n).length = (e.ns.map fun n : Nat => (toString (n : Int) : Str)).length from by rw [List.length_map, List.length_map], List.take_length] at kD
      have l3 := ns_len e
      refine ⟨l1, Dn, _, _, rfl, rfl, S4 _ _ k1, kD, (by rw [List.length_map, List.length_map, sizeLine_eq]; show 1 + e.ns.length ≤ _; omega), fun p hp => ?_⟩
      have s4 := (s2.trans S4).trans (same_upd (o := .lst ([V.str e.wd] ++ (e.ns.map fun n : Nat => (toString (n : Int) : Str)).map V.str)) hp)
      refine ⟨_, p, e.wd :: e.ns.map fun n : Nat => (toString (n : Int) : Str), rfl, rfl, .inl (SqL.of (by rw [upd_same]; rfl)), line_sum (wd_facts e).2.2.1 l3 fun n hn => small60 (ns_small hz n hn), ?_⟩
      rw [txt_join, show Str.join " " (e.wd :: e.ns.map fun n : Nat => (toString (n : Int) : Str)) = e.line from rfl]
      have T5 := Tw.grow s4
      generalize upd H4 p (.lst ([V.str e.wd] ++ (e.ns.map fun n : Nat => (toString (n : Int) : Str)).map V.str)) = H5 at T5 ⊢
      clear s4 hp kD S4 k1 k2 s2 hDn ht9 kdl Tw
      -- odd or not
      refine ⟨_, rfl, _, rfl, a, ns, i, by rw [hix]; rfl, (S.s0.trans T5.same).seq hS, _, rfl, _, _, rfl, rfl, _, _, rfl, rfl, (by show (0 : Int) < 24; decide), ?_⟩
      have o0 : 0 ≤ (ns.getD i 0 + (0 + (i : Int))) % 24 := Int.emod_nonneg _ (by decide)
      refine ⟨_, rfl, _, _, rfl, rfl, _, rfl, ?_⟩
      by_cases co : (ns.getD i 0 + (0 + (i : Int))) % 24 < 2
      · refine if_pos_of (decide_eq_true co) ?_
        obtain ⟨z, hzo, lowz, oddz⟩ : ∃ z, ([V.str (e.line ++ " 1"), V.str ("give" ++ e.line)] : List V)[((ns.getD i 0 + (0 + (i : Int))) % 24).toNat]? = some (V.str z) ∧ Low z ∧ ∀ P, ans P z = (P, ("no deed" : Str)) := by
          generalize (ns.getD i 0 + (0 + (i : Int))) % 24 = o at o0 co
          have : o = 0 ∨ o = 1 := by omega
          rcases this with rfl | rfl
          · exact ⟨_, rfl, low_more hz, fun P => (ans_odd e P).1⟩
          · exact ⟨_, rfl, low_give hz, fun P => (ans_odd e P).2⟩
        have ll4 := line_lens hz
        have e2 : (" 1" : Str).length = 2 := by decide +kernel
        have e4 : ("give" : Str).length = 4 := by decide +kernel
        refine ⟨_, rfl, .inl ⟨rfl, _, SqL.of (T5.same _ _ S.kz)⟩, _, rfl, _, _, rfl, rfl, by rw [e2, sizeLine_eq]; omega, _, rfl, _, _, rfl, rfl, by rw [e4, sizeLine_eq]; omega, (by show 2 ≤ sizeLine; decide), fun l2 hl2 => ?_⟩
        have T6 := T5.grow (same_upd (o := .lst [V.str (e.line ++ " 1"), V.str ("give" ++ e.line)]) hl2)
        refine ⟨_, rfl, l2, _, _, _, rfl, rfl, SqL.of upd_same, at_of (j := ((ns.getD i 0 + (0 + (i : Int))) % 24).toNat) (Int.toNat_of_nonneg o0).symm hzo, ll, _, _, rfl, rfl, T6.same _ _ S.kz, (by rw [List.length_map, zl, sizeLine_eq]; omega), ?_⟩
        rw [show zs.map V.str ++ [V.str z] = (zs ++ [z]).map V.str from by rw [List.map_append]; rfl]
        have T7 := T6.set (o := .lst ((zs ++ [z]).map V.str)) S.kz
        have S7 := S.line (zs ++ [z])
        generalize upd (upd H5 l2 (.lst [V.str (e.line ++ " 1"), V.str ("give" ++ e.line)])) ll (.lst ((zs ++ [z]).map V.str)) = H7 at T7 ⊢
        generalize upd R ll (.lst ((zs ++ [z]).map V.str)) = R7 at T7 S7
        clear T5 T6 hl2
        have lws : ws.length = i := by rw [← ans1, answers_len, zl]
        refine ⟨_, rfl, .inl ⟨rfl, _, SqL.of (T7.same _ _ S7.ku)⟩, lu, _, _, rfl, rfl, T7.same _ _ S7.ku, (by rw [List.length_map, lws, sizeLine_eq]; omega), ?_⟩
        have T8 := T7.set (o := .lst (ws.map V.str ++ [V.str "no deed"])) S7.ku
        rw [show ws.map V.str ++ [V.str "no deed"] = (ws ++ [("no deed" : Str)]).map V.str from by rw [List.map_append]; rfl] at T8 ⊢
        refine ⟨_, _, _, _, rfl, la, ld, tv, wv, hs, rs, al, d, ra, ks, zs ++ [z], ws ++ [("no deed" : Str)], P0, _, S7.due _, T8, by omega, by omega, by omega, by rw [List.length_append, zl]; rfl, fun y hy => ?_, ?_, ?_⟩
        · rcases List.mem_append.mp hy with w | w
          · exact low y w
          · rw [List.mem_singleton.mp w]; exact lowz
        · rw [answers_snoc, ans1, ans2, oddz]
        · rw [plAt_snoc, ans2, oddz]
      · refine if_neg_of (decide_eq_false co) ?_
        refine ⟨_, rfl, .inl ⟨rfl, _, SqL.of (T5.same _ _ S.kz)⟩, _, rfl, ll, _, _, rfl, rfl, T5.same _ _ S.kz, (by rw [List.length_map, zl, sizeLine_eq]; omega), ?_⟩
        rw [show zs.map V.str ++ [V.str e.line] = (zs ++ [e.line]).map V.str from by rw [List.map_append]; rfl]
        have T6 := T5.set (o := .lst ((zs ++ [e.line]).map V.str)) S.kz
        have S6 := S.line (zs ++ [e.line])
        generalize upd H5 ll (.lst ((zs ++ [e.line]).map V.str)) = H6 at T6 ⊢
        generalize upd R ll (.lst ((zs ++ [e.line]).map V.str)) = R6 at T6 S6
        clear T5
        have lws : ws.length = i := by rw [← ans1, answers_len, zl]
        obtain ⟨_, ht6⟩ : ∃ t', R6 t = some (.tup e.vs) := by
          obtain ⟨d2, hd2, t2, ext2, ht2⟩ := paired_at S6.items i xs[i] (List.getElem?_eq_getElem hil)
          have : d2 = e := by rw [he] at hd2; exact (Option.some.inj hd2).symm
          subst this
          have : t2 = t := by rw [ext] at ext2; injection ext2 with z; exact z.symm
          subst this
          exact ⟨t2, ht2⟩
        refine ⟨_, rfl, .inl ⟨rfl, _, SqL.of (T6.same _ _ S6.ku)⟩, _, rfl, _, rfl, _, rfl, dl, _, _, _, rfl, rfl, SqL.of (T6.same _ _ S6.kd.1), at_of (j := i) hix hxi, q, t, lh, lr, la, ld, lk, tv, wv, hs, rs, al, d, ra, P0, e, rfl, S6.own.same T6.same, S6.pr, S6.good, S6.rl, T6.same _ _ ht6, hz, by omega, by omega, fun z la' ld' tv' wv' hs' rs' al' d' ra' P' H7 ea zle O7 R7' G7 rl7 rs7 d7 fr7 new7 told => ?_⟩
        -- what is known behind it
        have fr6 : ∀ b o, R6 b = none → H6 b = some o → H7 b = some o := fun b o n e => fr7 b o (fun y => S6.own.has y n) e
        obtain ⟨R7, T7, kn7, nw7⟩ := T6.on fr6
        have S7 := S6.on (R' := R7) (O7.at_ fun b hb => (new7 b hb).elim (fun y => by
          cases eR : R6 b with
          | none => exact absurd eR (S6.own.has y)
          | some o => exact kn7 b o eR) (fun y => nw7 b y)) R7' G7 rl7 (fun b o n h => (kn7 b o h).trans (fr7 b o n (T6.same _ _ h))) (fun b hb => (new7 b hb).imp id (fun y => T6.same.free y))
        have lu7 := T7.same _ _ S7.ku
        refine ⟨lu, _, _, rfl, rfl, lu7, (by rw [List.length_map, lws, sizeLine_eq]; omega), ?_⟩
        rw [show ws.map V.str ++ [V.str z] = (ws ++ [z]).map V.str from by rw [List.map_append]; rfl]
        have said7 : ∀ R', (∀ b o, R7 b = some o → b ≠ lk → b ≠ lu → R' b = some o) → Said R' P0 e P' tv' wv' := fun R' st => by
          rcases told with ⟨b, h1, rfl, rfl⟩ | ⟨r, Fr, h1, rfl, rfl, h2, h3⟩
          · exact .bad h1
          · refine .fine h1 (st r _ ((nw7 r h2).trans h3) (fun y => ?_) (fun y => ?_))
            · rw [y, T6.same _ _ S6.kk] at h2; cases h2
            · rw [y, T6.same _ _ S6.ku] at h2; cases h2
        have T8 := T7.set (o := .lst ((ws ++ [z]).map V.str)) S7.ku
        have S8 := S7.due (ws ++ [z])
        have said8 : ∀ R', (∀ b o, upd R7 lu (.lst ((ws ++ [z]).map V.str)) b = some o → b ≠ lk → R' b = some o) → Said R' P0 e P' tv' wv' := fun R' st => said7 R' fun b o h n1 n2 => st b o (by rw [upd_ne n2]; exact h) n1
        have good0' := S6.good
        generalize upd H7 lu (.lst ((ws ++ [z]).map V.str)) = H8 at T8 ⊢
        generalize upd R7 lu (.lst ((ws ++ [z]).map V.str)) = R8 at T8 S8 said8
        have dal' : d'.length < 4000 := by omega
        clear T7 S7 said7 told nw7 kn7 fr6 new7 fr7 O7 T6 S6 ht6 S lu7
        -- the others
        refine ⟨2, rfl, by decide, by decide, ?_⟩
        refine for_range (lo := 0) (n := (2 : Int).toNat) (fun j σ H' => ∃ (v9 : Option V) (ks' : List Addr) (R' : Hp), σ = [some (.ref a), some (.ref q), some (.ref lo), some (.ref ll), some (.ref lu), some (.ref dl), some (.int (0 + (i : Int))), some (.str e.line), some (.int ((ns.getD i 0 + (0 + (i : Int))) % 24)), v9, none, none, none, none, none] ∧ LawSt H q lh lr la' ld' lk lo ll lu dl x y tv' wv' hs' rs' al' d' ra' ks' (zs ++ [e.line]) (ws ++ [z]) xs ds P' R' ∧ TwoP C B x y (if 1 ≤ j then P' else P0) (if 2 ≤ j then P' else P0) R' H' ∧ ks'.length ≤ ks.length + j ∧ ∀ R'', (∀ b o, R' b = some o → b ≠ lk → R'' b = some o) → Said R'' P0 e P' tv' wv')
          ⟨v9, ks, R8, rfl, S8, T8, Nat.le_refl _, said8⟩ ?_ ?_
        · clear S8 T8 said8 H8
          rintro j σ H8 hj ⟨v9, ks', R', rfl, S9, T9, kl9, said9⟩
          have hj2 : j = 0 ∨ j = 1 := by have : j < 2 := hj; omega
          rcases hj2 with rfl | rfl
          · obtain ⟨g, g', Ra, A, A'⟩ := T9
            have lo9 := (A'.same.trans A.same) _ _ S9.ko.1
            have dl9 := (A'.same.trans A.same) _ _ S9.kd.1
            obtain ⟨t2, ext2, ht9⟩ : ∃ t2, xs[i] = V.ref t2 ∧ R' t2 = some (.tup e.vs) := by
              obtain ⟨d2, hd2, t2, ext2, ht2⟩ := paired_at S9.items i xs[i] (List.getElem?_eq_getElem hil)
              have : d2 = e := by rw [he] at hd2; exact (Option.some.inj hd2).symm
              subst this
              exact ⟨t2, ext2, ht2⟩
            have : t2 = t := by rw [ext] at ext2; injection ext2 with z; exact z.symm
            subst this
            refine ⟨_, rfl, _, rfl, lo, _, _, _, rfl, rfl, SqL.of lo9, at_of (j := 0) rfl rfl, _, rfl, _, rfl, dl, _, _, _, rfl, rfl, SqL.of dl9, at_of (j := i) hix hxi, _, rfl, _, rfl, x, t2, q, lh, lr, la', ld', lk, _, tv', wv', hs', rs', al', d', ra', g, P0, P', Ra, e, ks', rfl, A, good0', A'.same _ _ ht9, S9.own.same A'.same, S9.pr, dal', A'.same _ _ S9.kk, S9.nk, by omega, said9 Ra (fun b o h _ => A'.same _ _ h), fun g2 H2 A2 => ⟨_, rfl, iteF ?_⟩, fun g2 H2 r c u Fr hr1' hc1 hu1 A2 => ⟨_, rfl, iteF ?_⟩⟩
            · exact ⟨_, ks', R', rfl, S9, ⟨g2, g', Ra, A2, A'⟩, by omega, said9⟩
            · have rr := A'.same.free hr1'
              have A1' := A'.new (o := .lst (Fr.map V.int)) hr1'
              have rc := A1'.same.free hc1
              have A2' := A1'.new (o := .lst (Fr.map V.int)) hc1
              have ru := A2'.same.free hu1
              refine ⟨_, ks' ++ [u], keptUp R' r c u lk Fr ks', rfl, S9.keep rr rc ru, ⟨g2, g', keptUp Ra r c u lk Fr ks', A2, A'.keep hr1' hc1 hu1 S9.kk⟩, by rw [List.length_append]; show ks'.length + 1 ≤ _; omega, fun R'' st => said9 R'' fun b o h n => st b o ?_ n⟩
              show upd _ lk _ b = some o
              rw [upd_ne n]
              exact (same_upd ru) _ _ ((same_upd rc) _ _ ((same_upd rr) _ _ h))
          · obtain ⟨g, g', Ra, A, A'⟩ := T9.swap
            have lo9 := (A'.same.trans A.same) _ _ S9.ko.1
            have dl9 := (A'.same.trans A.same) _ _ S9.kd.1
            obtain ⟨t2, ext2, ht9⟩ : ∃ t2, xs[i] = V.ref t2 ∧ R' t2 = some (.tup e.vs) := by
              obtain ⟨d2, hd2, t2, ext2, ht2⟩ := paired_at S9.items i xs[i] (List.getElem?_eq_getElem hil)
              have : d2 = e := by rw [he] at hd2; exact (Option.some.inj hd2).symm
              subst this
              exact ⟨t2, ext2, ht2⟩
            have : t2 = t := by rw [ext] at ext2; injection ext2 with z; exact z.symm
            subst this
            refine ⟨_, rfl, _, rfl, lo, _, _, _, rfl, rfl, SqL.of lo9, at_of (j := 1) rfl rfl, _, rfl, _, rfl, dl, _, _, _, rfl, rfl, SqL.of dl9, at_of (j := i) hix hxi, _, rfl, _, rfl, y, t2, q, lh, lr, la', ld', lk, _, tv', wv', hs', rs', al', d', ra', g, P0, P', Ra, e, ks', rfl, A, good0', A'.same _ _ ht9, S9.own.same A'.same, S9.pr, dal', A'.same _ _ S9.kk, S9.nk, by omega, said9 Ra (fun b o h _ => A'.same _ _ h), fun g2 H2 A2 => ⟨_, rfl, iteF ?_⟩, fun g2 H2 r c u Fr hr1' hc1 hu1 A2 => ⟨_, rfl, iteF ?_⟩⟩
            · exact ⟨_, ks', R', rfl, S9, TwoP.swap ⟨g2, g', Ra, A2, A'⟩, by omega, said9⟩
            · have rr := A'.same.free hr1'
              have A1' := A'.new (o := .lst (Fr.map V.int)) hr1'
              have rc := A1'.same.free hc1
              have A2' := A1'.new (o := .lst (Fr.map V.int)) hc1
              have ru := A2'.same.free hu1
              refine ⟨_, ks' ++ [u], keptUp R' r c u lk Fr ks', rfl, S9.keep rr rc ru, TwoP.swap ⟨g2, g', keptUp Ra r c u lk Fr ks', A2, A'.keep hr1' hc1 hu1 S9.kk⟩, by rw [List.length_append]; show ks'.length + 1 ≤ _; omega, fun R'' st => said9 R'' fun b o h n => st b o ?_ n⟩
              show upd _ lk _ b = some o
              rw [upd_ne n]
              exact (same_upd ru) _ _ ((same_upd rc) _ _ ((same_upd rr) _ _ h))
        · clear S8 T8 said8 H8
          rintro σ H8 ⟨v9, ks', R', rfl, S9, T9, kl9, said9⟩
          refine ⟨_, _, _, _, rfl, la', ld', tv', wv', hs', rs', al', d', ra', ks', zs ++ [e.line], ws ++ [z], P', R', S9, T9, by omega, by omega, by have kl9 : ks'.length ≤ ks.length + 2 := kl9; omega, by rw [List.length_append, zl]; rfl, fun y hy => ?_, ?_, ?_⟩
          · rcases List.mem_append.mp hy with w | w
            · exact low y w
            · rw [List.mem_singleton.mp w]; exact low_line hz
          · rw [answers_snoc, ans1, ans2, ea]
          · rw [plAt_snoc, ans2, ea]
    · clear L0 kdl
      rintro σ H9 ⟨v6, v7, v8, v9, rfl, la, ld, tv, wv, hs, rs, al, d, ra, ks, zs, ws, P0, R, S, Tw, rsl, dal, ksl, zl, low, ans1, ans2⟩
      subst ans1
      have hle : zs.length ≤ 150 := by rw [zl]; omega
      -- what was told stays
      obtain ⟨dw, dt, dk⟩ := pd_get (S.own.same Tw.same)
      refine ⟨_, rfl, q, _, rfl, dk, lk, rfl, ⟨_, SqL.of (Tw.same _ _ S.kk)⟩, fun Dn hDn => lc_list (K := K) (a := lk) (xs := ks.map V.ref) (fun i H' => H' = upd H9 Dn (.lst [])) rfl (fun i H' _ e => by rw [e]; exact SqL.of ((same_upd hDn) _ _ (Tw.same _ _ S.kk))) (fun i y H' hi e => ?_) (fun H10 e10 => ?_)⟩
      · obtain ⟨u, hu1, rfl⟩ := refs_at hi
        obtain ⟨r, c, Fr, h1, h2, h3, _, _⟩ := S.kept u (List.mem_of_getElem? hu1)
        have up : ∀ {b : Addr} {o : HO}, R b = some o → upd H9 Dn (.lst []) b = some o := fun h => (same_upd hDn) _ _ (Tw.same _ _ h)
        rw [e]
        have p2 := up h2
        have p3 := up h3
        rw [lV_int] at p2 p3
        refine ⟨u, _, rfl, SqT.of (up h1), rfl, _, _, rfl, _, _, rfl, rfl, rfl, _, rfl, _, rfl, dRow (Fr.map some), dRow (Fr.map some), dp_row p2, dp_row p3, shaped_ints Fr, shaped_ints Fr, _, rfl, ?_⟩
        refine if_neg_of (by rw [SeqAt.eqv_refl _ (show (dRow (Fr.map some)).canLay0 = true from lay_row _)]; rfl) ?_
        rfl
      have s10 : Same H9 H10 := by rw [e10]; exact same_upd hDn
      have k10 : H10 Dn = some (.lst []) := by rw [e10]; exact upd_same
      refine ⟨(by show 0 ≤ sizeLine; decide), fun l0 hl0 => ⟨.list [], .list [], .lst (SqL.of ((same_upd hl0) _ _ k10)) .nil, .lst (SqL.of upd_same) .nil, rfl, rfl, _, rfl, if_neg_of rfl ?_⟩⟩
      have s11 := s10.trans (same_upd (o := .lst []) hl0)
      generalize upd H10 l0 (.lst []) = H11 at s11 ⊢
      have T11 := Tw.grow s11
      clear s10 k10 hl0 e10 hDn Tw s11
      -- the lines played
      refine ⟨_, rfl, ll, _, rfl, .inl (SqL.of (T11.same _ _ S.kz)), fun lhd hlhd => ?_⟩
      have T12 := T11.new (o := .lst (zs.map V.str)) hlhd
      have rl := T11.same.free hlhd
      have kz := (same_upd (o := .lst (zs.map V.str)) rl) _ _ S.kz
      have ku := (same_upd (o := .lst (zs.map V.str)) rl) _ _ S.ku
      have kh : upd R lhd (.lst (zs.map V.str)) lhd = some (.lst (zs.map V.str)) := upd_same
      have s12 := S.s0.trans (same_upd (o := .lst (zs.map V.str)) rl)
      generalize upd R lhd (.lst (zs.map V.str)) = R12 at T12 kz ku kh s12
      generalize upd H11 lhd (.lst (zs.map V.str)) = H12 at T12 ⊢
      have T12' := TabG.of_same T0 (s12.trans T12.same)
      refine ⟨_, rfl, lhd, zs, rfl, SqL.of (T12.same _ _ kh), by omega, fun y hy => Nat.le_trans (low y hy).2 (by decide), T12', fun Da H13 past nDa kDa => ?_⟩
      have kz13 := past.2 _ _ (tab_nl T12' (T12.same _ _ kz)) (T12.same _ _ kz)
      have ku13 := past.2 _ _ (tab_nl T12' (T12.same _ _ ku)) (T12.same _ _ ku)
      have kh13 := past.2 _ _ (tab_nl T12' (T12.same _ _ kh)) (T12.same _ _ kh)
      refine ⟨_, rfl, _, _, _, _, true, rfl, .ty "list", .base (.lst kDa), kit_ty (by decide +kernel), _, rfl, ?_⟩
      refine iteF ⟨_, rfl, Da, _, rfl, .inl (SqL.of kDa), _, rfl, lu, _, rfl, .inl (SqL.of ku13), rfl, _, rfl, ?_⟩
      refine iteNS rfl ⟨_, rfl, _, rfl, dStrs zs, dStrs zs, .lst (SqL.of kh13) (dp_strs zs), .lst (SqL.of kz13) (dp_strs zs), shaped_strs low, shaped_strs low, _, rfl, ?_⟩
      refine if_neg_of (by rw [SeqAt.eqv_refl _ (show (dStrs zs).canLay0 = true from lay_strs zs low)]; rfl) ?_
      have la' : ((answers pl0 zs).map V.str).length = zs.length := by rw [List.length_map, answers_len]
      refine ⟨_, rfl, lu, _, rfl, .inl (SqL.of ku13), _, rfl, by omega, by omega, ?_⟩
      rw [la']
      refine for_range (lo := 0) (n := ((zs.length : Int)).toNat) (fun i σ H' => ∃ v : Option V, σ = [some (.ref a), some (.ref q), some (.ref lo), some (.ref ll), some (.ref lu), some (.ref dl), v, v7, v8, v9, some (.ref lhd), some (.ref Da), none, none, none] ∧ H' = H13) ⟨v6, rfl, rfl⟩ ?_ ?_
      · rintro i σ H' hi ⟨v, rfl, rfl⟩
        have hi' : i < (answers pl0 zs).length := by rw [answers_len]; omega
        have hxz : ((answers pl0 zs).map V.str)[i]? = some (V.str ((answers pl0 zs)[i])) := by rw [List.getElem?_map, List.getElem?_eq_getElem hi']; rfl
        generalize (answers pl0 zs)[i] = z at hxz
        have hix : (0 : Int) + (i : Int) = ((i : Nat) : Int) := by omega
        refine ⟨_, rfl, _, rfl, Da, _, _, _, rfl, rfl, SqL.of kDa, at_of (j := i) hix hxz, _, _, _, _, true, rfl, .ty "str", .base (.str _), kit_ty (by decide +kernel), _, rfl, ?_⟩
        refine iteF ⟨_, rfl, _, rfl, Da, _, _, _, rfl, rfl, SqL.of kDa, at_of (j := i) hix hxz, _, rfl, _, rfl, lu, _, _, _, rfl, rfl, SqL.of ku13, at_of (j := i) hix hxz, rfl, _, rfl, ?_⟩
        refine if_neg_of (by show (!decide (V.str z = V.str z)) = false; rw [decide_eq_true rfl]; rfl) ?_
        exact ⟨_, rfl, rfl⟩
      · rintro σ H' ⟨v, rfl, rfl⟩
        exact k _

end
end BP

namespace BP
open PySem L2
theorem kit_sub {K : PySem.W.Frag} {S : Addr} {a : Addr} {z : Bool} (t : PySem.W.typeIn K (.ref S) = some (.type "type")) (i : PySem.W.isClsIn K S = true) (s : PySem.W.subIn K (.ref a) (.ref S) = some z) (h : a = S → z = true) : PySem.W.kitOne K (.ref a) (.ref S) = some z := by
  have h2 : ((PySem.W.clsIn K S).isSome && PySem.W.typeIn K (.ref S) == some (.type "type")) = true := by rw [show (PySem.W.clsIn K S).isSome = true from i, t] <;> rfl
  unfold PySem.W.kitOne
  by_cases e : a = S
  · rw [h e, if_pos (by rw [e]; simp)]
  · rw [if_neg (by simp [e])]
    exact (if_pos h2).trans s
theorem keys_words {P : Params} {l : List DictEntry} (h : WordsAt P l) : PySem.W.KeysLit P l := by
  obtain ⟨t1, t2, t3, t4, t5, t6, t7, u1, u2, u3, u4, u5, u6, u7, rfl⟩ := h
  exact ⟨⟨_, _, rfl, rfl⟩, ⟨_, _, rfl, rfl⟩, ⟨_, _, rfl, rfl⟩, ⟨_, _, rfl, rfl⟩, ⟨_, _, rfl, rfl⟩, ⟨_, _, rfl, rfl⟩, ⟨_, _, rfl, rfl⟩, trivial⟩
theorem look_words {K : PySem.W.Frag} {P : Params} {d : Addr} {es : Array DictEntry} {n : Nat} (l : K.lookup d = some ⟨.type "dict", none, .dict es n, #[]⟩) (h : WordsAt P es.toList) (z : Str) :
    ∃ r, PySem.W.nsIn K d z = some r ∧ RelV ((manyOf z).elim V.non fun n => V.int n) (r.getD .none) := by
  unfold PySem.W.nsIn
  rw [l]
  dsimp only
  obtain ⟨t1, t2, t3, t4, t5, t6, t7, u1, u2, u3, u4, u5, u6, u7, e⟩ := h
  rw [e]
  have f : ∀ (x : Str) (t : Tok), (z = x → (Value.str x t).isStr z = true) ∧ (z ≠ x → ¬ (Value.str x t).isStr z = true) := fun x t => by
    have e : (Value.str x t).isStr z = (x == z) := rfl
    rw [e, beq_iff_eq]
    exact ⟨fun h => h.symm, fun h q => h q.symm⟩
  unfold manyOf
  by_cases h1 : z = "make"
  · refine ⟨some (.int 2 u1), ?_, ?_⟩
    · rw [List.find?_cons_of_pos (p := fun e : DictEntry => e.key.isStr z) ((f _ _).1 h1)]
    · rw [if_pos h1]; exact ⟨u1, rfl⟩
  rw [List.find?_cons_of_neg (p := fun e : DictEntry => e.key.isStr z) ((f _ _).2 h1), if_neg h1]
  by_cases h2 : z = "hold"
  · refine ⟨some (.int 2 u2), ?_, ?_⟩
    · rw [List.find?_cons_of_pos (p := fun e : DictEntry => e.key.isStr z) ((f _ _).1 h2)]
    · rw [if_pos h2]; exact ⟨u2, rfl⟩
  rw [List.find?_cons_of_neg (p := fun e : DictEntry => e.key.isStr z) ((f _ _).2 h2), if_neg h2]
  by_cases h3 : z = "drop"
  · refine ⟨some (.int 1 u3), ?_, ?_⟩
    · rw [List.find?_cons_of_pos (p := fun e : DictEntry => e.key.isStr z) ((f _ _).1 h3)]
    · rw [if_pos h3]; exact ⟨u3, rfl⟩
  rw [List.find?_cons_of_neg (p := fun e : DictEntry => e.key.isStr z) ((f _ _).2 h3), if_neg h3]
  by_cases h4 : z = "put"
  · refine ⟨some (.int 3 u4), ?_, ?_⟩
    · rw [List.find?_cons_of_pos (p := fun e : DictEntry => e.key.isStr z) ((f _ _).1 h4)]
    · rw [if_pos h4]; exact ⟨u4, rfl⟩
  rw [List.find?_cons_of_neg (p := fun e : DictEntry => e.key.isStr z) ((f _ _).2 h4), if_neg h4]
  by_cases h5 : z = "empty"
  · refine ⟨some (.int 2 u5), ?_, ?_⟩
    · rw [List.find?_cons_of_pos (p := fun e : DictEntry => e.key.isStr z) ((f _ _).1 h5)]
    · rw [if_pos h5]; exact ⟨u5, rfl⟩
  rw [List.find?_cons_of_neg (p := fun e : DictEntry => e.key.isStr z) ((f _ _).2 h5), if_neg h5]
  by_cases h6 : z = "take"
  · refine ⟨some (.int 3 u6), ?_, ?_⟩
    · rw [List.find?_cons_of_pos (p := fun e : DictEntry => e.key.isStr z) ((f _ _).1 h6)]
    · rw [if_pos h6]; exact ⟨u6, rfl⟩
  rw [List.find?_cons_of_neg (p := fun e : DictEntry => e.key.isStr z) ((f _ _).2 h6), if_neg h6]
  by_cases h7 : z = "tidy"
  · refine ⟨some (.int 0 u7), ?_, ?_⟩
    · rw [List.find?_cons_of_pos (p := fun e : DictEntry => e.key.isStr z) ((f _ _).1 h7)]
    · rw [if_pos h7]; exact ⟨u7, rfl⟩
  rw [List.find?_cons_of_neg (p := fun e : DictEntry => e.key.isStr z) ((f _ _).2 h7), if_neg h7]
  exact ⟨none, rfl, rfl⟩
/-! ### what the top has written, the head -/
theorem all_mk {l : PySem.W.OpenLaw} {w : World} {K : PySem.W.Frag} {h : Heap} {mg : Str → Option Value} {fa xRN Pt dW0 B C eH eS eF eB eL eD eP fI fM fO fR fU fE fQ fH fT fG fA fS fX fY fP fL fB fK fCS fCA fPA fRE fTR fTY fDO fRD fRN fAN fPY fW fD fN fZ5 fT1 fT2 fT3 fT4 fT5 fT6 fT7 fT8 fT9 fTA fTB_ fTC fTD fZ : Addr} (X : K.In h) (G : h.Ns mainGlobals mg) (hfa : mg "law" = some (.ref fa))
    {slc : Array (Option Value)} {vc : Value} {odc : Option Addr} {vsc : Array Value} {tF tM : Tok} {esW : Array DictEntry} {nW : Nat}
    {odI anI odM anM odO anO odR anR odU anU odE anE odQ anQ odH anH odT anT odG anG odA anA odS anS odX anX odY anY odP anP odL anL odB anB odK anK odCS anCS odCA anCA odPA anPA odRE anRE odTR anTR odTY anTY odDO anDO odRD anRD odRN anRN odAN anAN odPY anPY odW anW odD anD odN anN odZ5 anZ5 odT1 anT1 odT2 anT2 odT3 anT3 odT4 anT4 odT5 anT5 odT6 anT6 odT7 anT7 odT8 anT8 odT9 anT9 odTA anTA odTB_ anTB_ odTC anTC odTD anTD odZ anZ : Option Addr} {slI slM slO slR slU slE slQ slH slT slG slA slS slX slY slP slL slB slK slCS slCA slPA slRE slTR slTY slDO slRD slRN slAN slPY slW slD slN slZ5 slT1 slT2 slT3 slT4 slT5 slT6 slT7 slT8 slT9 slTA slTB_ slTC slTD slZ : Array (Option Value)} {ocI kVI dcI pmI cdI ctI ocM kVM dcM pmM cdM ctM ocO kVO dcO pmO cdO ctO ocR kVR dcR pmR cdR ctR ocU kVU dcU pmU cdU ctU ocE kVE dcE pmE cdE ctE ocQ kVQ dcQ pmQ cdQ ctQ ocH kVH dcH pmH cdH ctH ocT kVT dcT pmT cdT ctT ocG kVG dcG pmG cdG ctG ocA kVA dcA pmA cdA ctA ocS kVS dcS pmS cdS ctS ocX kVX dcX pmX cdX ctX ocY kVY dcY pmY cdY ctY ocP kVP dcP pmP cdP ctP ocL kVL dcL pmL cdL ctL ocB kVB dcB pmB cdB ctB ocK kVK dcK pmK cdK ctK ocCS kVCS dcCS pmCS cdCS ctCS ocCA kVCA dcCA pmCA cdCA ctCA ocPA kVPA dcPA pmPA cdPA ctPA ocRE kVRE dcRE pmRE cdRE ctRE ocTR kVTR dcTR pmTR cdTR ctTR ocTY kVTY dcTY pmTY cdTY ctTY ocDO kVDO dcDO pmDO cdDO ctDO ocRD kVRD dcRD pmRD cdRD ctRD ocRN kVRN dcRN pmRN ctRN ocAN kVAN dcAN pmAN cdAN ctAN ocPY kVPY dcPY pmPY cdPY ctPY ocW kVW dcW pmW cdW ctW ocD kVD dcD pmD cdD ctD ocN kVN dcN pmN cdN ctN ocZ5 kVZ5 dcZ5 pmZ5 cdZ5 ctZ5 ocT1 kVT1 dcT1 pmT1 cdT1 ctT1 ocT2 kVT2 dcT2 pmT2 cdT2 ctT2 ocT3 kVT3 dcT3 pmT3 cdT3 ctT3 ocT4 kVT4 dcT4 pmT4 cdT4 ctT4 ocT5 kVT5 dcT5 pmT5 cdT5 ctT5 ocT6 kVT6 dcT6 pmT6 cdT6 ctT6 ocT7 kVT7 dcT7 pmT7 cdT7 ctT7 ocT8 kVT8 dcT8 pmT8 cdT8 ctT8 ocT9 kVT9 dcT9 pmT9 cdT9 ctT9 ocTA kVTA dcTA pmTA cdTA ctTA ocTB_ kVTB_ dcTB_ pmTB_ cdTB_ ctTB_ ocTC kVTC dcTC pmTC cdTC ctTC ocTD kVTD dcTD pmTD cdTD ctTD ocZ kVZ dcZ pmZ cdZ ctZ : Value} {tHANDS tMOST_SLOTS tMOST_ALIVE : Tok}
    (acB : PySem.W.nsIn K mainGlobals "Box" = some (some (.ref B)))
    (acC : PySem.W.nsIn K mainGlobals "Pile" = some (some (.ref C)))
    (aeH : PySem.W.nsIn K mainGlobals "NoHand" = some (some (.ref eH)))
    (aeS : PySem.W.nsIn K mainGlobals "NoSize" = some (some (.ref eS)))
    (aeF : PySem.W.nsIn K mainGlobals "Full" = some (some (.ref eF)))
    (aeB : PySem.W.nsIn K mainGlobals "NoBox" = some (some (.ref eB)))
    (aeL : PySem.W.nsIn K mainGlobals "NoSlot" = some (some (.ref eL)))
    (aeD : PySem.W.nsIn K mainGlobals "NoDeed" = some (some (.ref eD)))
    (aeP : PySem.W.nsIn K mainGlobals "PileError" = some (some (.ref eP)))
    (aI : PySem.W.findIn K (.ref C) "__init__" = some (some (.ref fI)))
    (iI : PySem.W.isFn K (.ref fI) = true)
    (lI : K.lookup fI = some ⟨ocI, odI, .func (PySem.W.fnOf "__init__" "Pile.__init__" (defArgs sInit) (defBody sInit) (defScope sInit) .none kVI dcI pmI anI cdI ctI), slI⟩)
    (cI : PySem.W.codeIn K cdI "Pile.__init__" = true)
    (kI : PySem.W.keepIn K (.ref fI) = true)
    (aM : PySem.W.findIn K (.ref C) "make" = some (some (.ref fM)))
    (iM : PySem.W.isFn K (.ref fM) = true)
    (lM : K.lookup fM = some ⟨ocM, odM, .func (PySem.W.fnOf "make" "Pile.make" (defArgs sMake) (defBody sMake) (defScope sMake) .none kVM dcM pmM anM cdM ctM), slM⟩)
    (cM : PySem.W.codeIn K cdM "Pile.make" = true)
    (kM : PySem.W.keepIn K (.ref fM) = true)
    (aO : PySem.W.findIn K (.ref C) "hold" = some (some (.ref fO)))
    (iO : PySem.W.isFn K (.ref fO) = true)
    (lO : K.lookup fO = some ⟨ocO, odO, .func (PySem.W.fnOf "hold" "Pile.hold" (defArgs sHold) (defBody sHold) (defScope sHold) .none kVO dcO pmO anO cdO ctO), slO⟩)
    (cO : PySem.W.codeIn K cdO "Pile.hold" = true)
    (kO : PySem.W.keepIn K (.ref fO) = true)
    (aR : PySem.W.findIn K (.ref C) "drop" = some (some (.ref fR)))
    (iR : PySem.W.isFn K (.ref fR) = true)
    (lR : K.lookup fR = some ⟨ocR, odR, .func (PySem.W.fnOf "drop" "Pile.drop" (defArgs sDrop) (defBody sDrop) (defScope sDrop) .none kVR dcR pmR anR cdR ctR), slR⟩)
    (cR : PySem.W.codeIn K cdR "Pile.drop" = true)
    (kR : PySem.W.keepIn K (.ref fR) = true)
    (aU : PySem.W.findIn K (.ref C) "put" = some (some (.ref fU)))
    (iU : PySem.W.isFn K (.ref fU) = true)
    (lU : K.lookup fU = some ⟨ocU, odU, .func (PySem.W.fnOf "put" "Pile.put" (defArgs sPut) (defBody sPut) (defScope sPut) .none kVU dcU pmU anU cdU ctU), slU⟩)
    (cU : PySem.W.codeIn K cdU "Pile.put" = true)
    (kU : PySem.W.keepIn K (.ref fU) = true)
    (aE : PySem.W.findIn K (.ref C) "empty" = some (some (.ref fE)))
    (iE : PySem.W.isFn K (.ref fE) = true)
    (lE : K.lookup fE = some ⟨ocE, odE, .func (PySem.W.fnOf "empty" "Pile.empty" (defArgs sEmpty) (defBody sEmpty) (defScope sEmpty) .none kVE dcE pmE anE cdE ctE), slE⟩)
    (cE : PySem.W.codeIn K cdE "Pile.empty" = true)
    (kE : PySem.W.keepIn K (.ref fE) = true)
    (aQ : PySem.W.findIn K (.ref C) "take" = some (some (.ref fQ)))
    (iQ : PySem.W.isFn K (.ref fQ) = true)
    (lQ : K.lookup fQ = some ⟨ocQ, odQ, .func (PySem.W.fnOf "take" "Pile.take" (defArgs sTake) (defBody sTake) (defScope sTake) .none kVQ dcQ pmQ anQ cdQ ctQ), slQ⟩)
    (cQ : PySem.W.codeIn K cdQ "Pile.take" = true)
    (kQ : PySem.W.keepIn K (.ref fQ) = true)
    (aH : PySem.W.findIn K (.ref C) "holds" = some (some (.ref fH)))
    (iH : PySem.W.isFn K (.ref fH) = true)
    (lH : K.lookup fH = some ⟨ocH, odH, .func (PySem.W.fnOf "holds" "Pile.holds" (defArgs sHolds) (defBody sHolds) (defScope sHolds) .none kVH dcH pmH anH cdH ctH), slH⟩)
    (cH : PySem.W.codeIn K cdH "Pile.holds" = true)
    (kH : PySem.W.keepIn K (.ref fH) = true)
    (aT : PySem.W.findIn K (.ref C) "points" = some (some (.ref fT)))
    (iT : PySem.W.isFn K (.ref fT) = true)
    (lT : K.lookup fT = some ⟨ocT, odT, .func (PySem.W.fnOf "points" "Pile.points" (defArgs sPoints) (defBody sPoints) (defScope sPoints) .none kVT dcT pmT anT cdT ctT), slT⟩)
    (cT : PySem.W.codeIn K cdT "Pile.points" = true)
    (kT : PySem.W.keepIn K (.ref fT) = true)
    (aG : PySem.W.findIn K (.ref C) "weighs" = some (some (.ref fG)))
    (iG : PySem.W.isFn K (.ref fG) = true)
    (lG : K.lookup fG = some ⟨ocG, odG, .func (PySem.W.fnOf "weighs" "Pile.weighs" (defArgs sWeighs) (defBody sWeighs) (defScope sWeighs) .none kVG dcG pmG anG cdG ctG), slG⟩)
    (cG : PySem.W.codeIn K cdG "Pile.weighs" = true)
    (kG : PySem.W.keepIn K (.ref fG) = true)
    (aA : PySem.W.findIn K (.ref C) "alive" = some (some (.ref fA)))
    (iA : PySem.W.isFn K (.ref fA) = true)
    (lA : K.lookup fA = some ⟨ocA, odA, .func (PySem.W.fnOf "alive" "Pile.alive" (defArgs sAlive) (defBody sAlive) (defScope sAlive) .none kVA dcA pmA anA cdA ctA), slA⟩)
    (cA : PySem.W.codeIn K cdA "Pile.alive" = true)
    (kA : PySem.W.keepIn K (.ref fA) = true)
    (aS : PySem.W.findIn K (.ref C) "suspects" = some (some (.ref fS)))
    (iS : PySem.W.isFn K (.ref fS) = true)
    (lS : K.lookup fS = some ⟨ocS, odS, .func (PySem.W.fnOf "suspects" "Pile.suspects" (defArgs sSuspects) (defBody sSuspects) (defScope sSuspects) .none kVS dcS pmS anS cdS ctS), slS⟩)
    (cS : PySem.W.codeIn K cdS "Pile.suspects" = true)
    (kS : PySem.W.keepIn K (.ref fS) = true)
    (aX : PySem.W.findIn K (.ref C) "_box" = some (some (.ref fX)))
    (iX : PySem.W.isFn K (.ref fX) = true)
    (lX : K.lookup fX = some ⟨ocX, odX, .func (PySem.W.fnOf "_box" "Pile._box" (defArgs sBox) (defBody sBox) (defScope sBox) .none kVX dcX pmX anX cdX ctX), slX⟩)
    (cX : PySem.W.codeIn K cdX "Pile._box" = true)
    (kX : PySem.W.keepIn K (.ref fX) = true)
    (aY : PySem.W.findIn K (.ref C) "_slots_with" = some (some (.ref fY)))
    (iY : PySem.W.isFn K (.ref fY) = true)
    (lY : K.lookup fY = some ⟨ocY, odY, .func (PySem.W.fnOf "_slots_with" "Pile._slots_with" (defArgs sSlotsWith) (defBody sSlotsWith) (defScope sSlotsWith) .none kVY dcY pmY anY cdY ctY), slY⟩)
    (cY : PySem.W.codeIn K cdY "Pile._slots_with" = true)
    (kY : PySem.W.keepIn K (.ref fY) = true)
    (aP : PySem.W.findIn K (.ref C) "_point" = some (some (.ref fP)))
    (iP : PySem.W.isFn K (.ref fP) = true)
    (lP : K.lookup fP = some ⟨ocP, odP, .func (PySem.W.fnOf "_point" "Pile._point" (defArgs sPoint) (defBody sPoint) (defScope sPoint) .none kVP dcP pmP anP cdP ctP), slP⟩)
    (cP : PySem.W.codeIn K cdP "Pile._point" = true)
    (kP : PySem.W.keepIn K (.ref fP) = true)
    (aL : PySem.W.findIn K (.ref C) "_let_go" = some (some (.ref fL)))
    (iL : PySem.W.isFn K (.ref fL) = true)
    (lL : K.lookup fL = some ⟨ocL, odL, .func (PySem.W.fnOf "_let_go" "Pile._let_go" (defArgs sLetGo) (defBody sLetGo) (defScope sLetGo) .none kVL dcL pmL anL cdL ctL), slL⟩)
    (cL : PySem.W.codeIn K cdL "Pile._let_go" = true)
    (kL : PySem.W.keepIn K (.ref fL) = true)
    (aB : PySem.W.findIn K (.ref B) "__init__" = some (some (.ref fB)))
    (iB : PySem.W.isFn K (.ref fB) = true)
    (lB : K.lookup fB = some ⟨ocB, odB, .func (PySem.W.fnOf "__init__" "Box.__init__" (defArgs sBoxInit) (defBody sBoxInit) (defScope sBoxInit) .none kVB dcB pmB anB cdB ctB), slB⟩)
    (cB : PySem.W.codeIn K cdB "Box.__init__" = true)
    (kB : PySem.W.keepIn K (.ref fB) = true)
    (aK : PySem.W.nsIn K mainGlobals "check_hand" = some (some (.ref fK)))
    (lK : K.lookup fK = some ⟨ocK, odK, .func (PySem.W.fnOf "check_hand" "check_hand" (defArgs sCheck) (defBody sCheck) (defScope sCheck) .none kVK dcK pmK anK cdK ctK), slK⟩)
    (cK : PySem.W.codeIn K cdK "check_hand" = true)
    (kK : PySem.W.keepIn K (.ref fK) = true)
    (aCS : PySem.W.nsIn K mainGlobals "check_slot" = some (some (.ref fCS)))
    (lCS : K.lookup fCS = some ⟨ocCS, odCS, .func (PySem.W.fnOf "check_slot" "check_slot" (defArgs sCheckSlot) (defBody sCheckSlot) (defScope sCheckSlot) .none kVCS dcCS pmCS anCS cdCS ctCS), slCS⟩)
    (cCS : PySem.W.codeIn K cdCS "check_slot" = true)
    (kCS : PySem.W.keepIn K (.ref fCS) = true)
    (aCA : PySem.W.findIn K (.ref C) "clear_away" = some (some (.ref fCA)))
    (iCA : PySem.W.isFn K (.ref fCA) = true)
    (lCA : K.lookup fCA = some ⟨ocCA, odCA, .func (PySem.W.fnOf "clear_away" "Pile.clear_away" (defArgs sClear) (defBody sClear) (defScope sClear) .none kVCA dcCA pmCA anCA cdCA ctCA), slCA⟩)
    (cCA : PySem.W.codeIn K cdCA "Pile.clear_away" = true)
    (kCA : PySem.W.keepIn K (.ref fCA) = true)
    (aPA : PySem.W.nsIn K mainGlobals "pointed_at" = some (some (.ref fPA)))
    (lPA : K.lookup fPA = some ⟨ocPA, odPA, .func (PySem.W.fnOf "pointed_at" "pointed_at" (defArgs sPointedAt) (defBody sPointedAt) (defScope sPointedAt) .none kVPA dcPA pmPA anPA cdPA ctPA), slPA⟩)
    (cPA : PySem.W.codeIn K cdPA "pointed_at" = true)
    (kPA : PySem.W.keepIn K (.ref fPA) = true)
    (aRE : PySem.W.nsIn K mainGlobals "reached" = some (some (.ref fRE)))
    (lRE : K.lookup fRE = some ⟨ocRE, odRE, .func (PySem.W.fnOf "reached" "reached" (defArgs sReached) (defBody sReached) (defScope sReached) .none kVRE dcRE pmRE anRE cdRE ctRE), slRE⟩)
    (cRE : PySem.W.codeIn K cdRE "reached" = true)
    (kRE : PySem.W.keepIn K (.ref fRE) = true)
    (aTR : PySem.W.nsIn K mainGlobals "trials" = some (some (.ref fTR)))
    (lTR : K.lookup fTR = some ⟨ocTR, odTR, .func (PySem.W.fnOf "trials" "trials" (defArgs sTrials) (defBody sTrials) (defScope sTrials) .none kVTR dcTR pmTR anTR cdTR ctTR), slTR⟩)
    (cTR : PySem.W.codeIn K cdTR "trials" = true)
    (kTR : PySem.W.keepIn K (.ref fTR) = true)
    (aTY : PySem.W.nsIn K mainGlobals "tidy" = some (some (.ref fTY)))
    (lTY : K.lookup fTY = some ⟨ocTY, odTY, .func (PySem.W.fnOf "tidy" "tidy" (defArgs sTidy) (defBody sTidy) (defScope sTidy) .none kVTY dcTY pmTY anTY cdTY ctTY), slTY⟩)
    (cTY : PySem.W.codeIn K cdTY "tidy" = true)
    (kTY : PySem.W.keepIn K (.ref fTY) = true)
    (aDO : PySem.W.nsIn K mainGlobals "done" = some (some (.ref fDO)))
    (lDO : K.lookup fDO = some ⟨ocDO, odDO, .func (PySem.W.fnOf "done" "done" (defArgs sDoneP) (defBody sDoneP) (defScope sDoneP) .none kVDO dcDO pmDO anDO cdDO ctDO), slDO⟩)
    (cDO : PySem.W.codeIn K cdDO "done" = true)
    (kDO : PySem.W.keepIn K (.ref fDO) = true)
    (aRD : PySem.W.nsIn K mainGlobals "read" = some (some (.ref fRD)))
    (lRD : K.lookup fRD = some ⟨ocRD, odRD, .func (PySem.W.fnOf "read" "read" (defArgs sRead) (defBody sRead) (defScope sRead) .none kVRD dcRD pmRD anRD cdRD ctRD), slRD⟩)
    (cRD : PySem.W.codeIn K cdRD "read" = true)
    (kRD : PySem.W.keepIn K (.ref fRD) = true)
    (aRN : PySem.W.nsIn K mainGlobals "read_number" = some (some (.ref fRN)))
    (lRN : K.lookup fRN = some ⟨ocRN, odRN, .func (PySem.W.fnOf "read_number" "read_number" (defArgs sReadNumber) (defBody sReadNumber) (defScope sReadNumber) .none kVRN dcRN pmRN anRN (.ref xRN) ctRN), slRN⟩)
    (cRN : PySem.W.codeIn K (.ref xRN) "read_number" = true)
    (kRN : PySem.W.keepIn K (.ref fRN) = true)
    (aAN : PySem.W.nsIn K mainGlobals "answer" = some (some (.ref fAN)))
    (lAN : K.lookup fAN = some ⟨ocAN, odAN, .func (PySem.W.fnOf "answer" "answer" (defArgs sAnswer) (defBody sAnswer) (defScope sAnswer) .none kVAN dcAN pmAN anAN cdAN ctAN), slAN⟩)
    (cAN : PySem.W.codeIn K cdAN "answer" = true)
    (kAN : PySem.W.keepIn K (.ref fAN) = true)
    (aPY : PySem.W.nsIn K mainGlobals "played" = some (some (.ref fPY)))
    (lPY : K.lookup fPY = some ⟨ocPY, odPY, .func (PySem.W.fnOf "played" "played" (defArgs sPlayed) (defBody sPlayed) (defScope sPlayed) .none kVPY dcPY pmPY anPY cdPY ctPY), slPY⟩)
    (cPY : PySem.W.codeIn K cdPY "played" = true)
    (kPY : PySem.W.keepIn K (.ref fPY) = true)
    (aW : PySem.W.nsIn K mainGlobals "_law_whole" = some (some (.ref fW)))
    (lW : K.lookup fW = some ⟨ocW, odW, .func (PySem.W.fnOf "_law_whole" "_law_whole" (defArgs sWhole) (defBody sWhole) (defScope sWhole) .none kVW dcW pmW anW cdW ctW), slW⟩)
    (cW : PySem.W.codeIn K cdW "_law_whole" = true)
    (kW : PySem.W.keepIn K (.ref fW) = true)
    (aD : PySem.W.nsIn K mainGlobals "_law_cell_at" = some (some (.ref fD)))
    (lD : K.lookup fD = some ⟨ocD, odD, .func (PySem.W.fnOf "_law_cell_at" "_law_cell_at" (defArgs sCellAt) (defBody sCellAt) (defScope sCellAt) .none kVD dcD pmD anD cdD ctD), slD⟩)
    (cD : PySem.W.codeIn K cdD "_law_cell_at" = true)
    (kD : PySem.W.keepIn K (.ref fD) = true)
    (aN : PySem.W.nsIn K mainGlobals "_law_numbers" = some (some (.ref fN)))
    (lN : K.lookup fN = some ⟨ocN, odN, .func (PySem.W.fnOf "_law_numbers" "_law_numbers" (defArgs sNums) (defBody sNums) (defScope sNums) .none kVN dcN pmN anN cdN ctN), slN⟩)
    (cN : PySem.W.codeIn K cdN "_law_numbers" = true)
    (kN : PySem.W.keepIn K (.ref fN) = true)
    (aZ5 : PySem.W.nsIn K mainGlobals "_law_deed_by" = some (some (.ref fZ5)))
    (lZ5 : K.lookup fZ5 = some ⟨ocZ5, odZ5, .func (PySem.W.fnOf "_law_deed_by" "_law_deed_by" (defArgs sDeedBy) (defBody sDeedBy) (defScope sDeedBy) .none kVZ5 dcZ5 pmZ5 anZ5 cdZ5 ctZ5), slZ5⟩)
    (cZ5 : PySem.W.codeIn K cdZ5 "_law_deed_by" = true)
    (kZ5 : PySem.W.keepIn K (.ref fZ5) = true)
    (aT1 : PySem.W.nsIn K mainGlobals "_law_ring_deeds" = some (some (.ref fT1)))
    (lT1 : K.lookup fT1 = some ⟨ocT1, odT1, .func (PySem.W.fnOf "_law_ring_deeds" "_law_ring_deeds" (defArgs sRingDeeds) (defBody sRingDeeds) (defScope sRingDeeds) .none kVT1 dcT1 pmT1 anT1 cdT1 ctT1), slT1⟩)
    (cT1 : PySem.W.codeIn K cdT1 "_law_ring_deeds" = true)
    (kT1 : PySem.W.keepIn K (.ref fT1) = true)
    (aT2 : PySem.W.nsIn K mainGlobals "_law_fan_deeds" = some (some (.ref fT2)))
    (lT2 : K.lookup fT2 = some ⟨ocT2, odT2, .func (PySem.W.fnOf "_law_fan_deeds" "_law_fan_deeds" (defArgs sFanDeeds) (defBody sFanDeeds) (defScope sFanDeeds) .none kVT2 dcT2 pmT2 anT2 cdT2 ctT2), slT2⟩)
    (cT2 : PySem.W.codeIn K cdT2 "_law_fan_deeds" = true)
    (kT2 : PySem.W.keepIn K (.ref fT2) = true)
    (aT3 : PySem.W.nsIn K mainGlobals "_law_deeds" = some (some (.ref fT3)))
    (lT3 : K.lookup fT3 = some ⟨ocT3, odT3, .func (PySem.W.fnOf "_law_deeds" "_law_deeds" (defArgs sDeeds) (defBody sDeeds) (defScope sDeeds) .none kVT3 dcT3 pmT3 anT3 cdT3 ctT3), slT3⟩)
    (cT3 : PySem.W.codeIn K cdT3 "_law_deeds" = true)
    (kT3 : PySem.W.keepIn K (.ref fT3) = true)
    (aT4 : PySem.W.nsIn K mainGlobals "_law_weight" = some (some (.ref fT4)))
    (lT4 : K.lookup fT4 = some ⟨ocT4, odT4, .func (PySem.W.fnOf "_law_weight" "_law_weight" (defArgs sWeight) (defBody sWeight) (defScope sWeight) .none kVT4 dcT4 pmT4 anT4 cdT4 ctT4), slT4⟩)
    (cT4 : PySem.W.codeIn K cdT4 "_law_weight" = true)
    (kT4 : PySem.W.keepIn K (.ref fT4) = true)
    (aT5 : PySem.W.nsIn K mainGlobals "_law_freed" = some (some (.ref fT5)))
    (lT5 : K.lookup fT5 = some ⟨ocT5, odT5, .func (PySem.W.fnOf "_law_freed" "_law_freed" (defArgs sFreed) (defBody sFreed) (defScope sFreed) .none kVT5 dcT5 pmT5 anT5 cdT5 ctT5), slT5⟩)
    (cT5 : PySem.W.codeIn K cdT5 "_law_freed" = true)
    (kT5 : PySem.W.keepIn K (.ref fT5) = true)
    (aT6 : PySem.W.nsIn K mainGlobals "_law_tidied" = some (some (.ref fT6)))
    (lT6 : K.lookup fT6 = some ⟨ocT6, odT6, .func (PySem.W.fnOf "_law_tidied" "_law_tidied" (defArgs sTidied) (defBody sTidied) (defScope sTidied) .none kVT6 dcT6 pmT6 anT6 cdT6 ctT6), slT6⟩)
    (cT6 : PySem.W.codeIn K cdT6 "_law_tidied" = true)
    (kT6 : PySem.W.keepIn K (.ref fT6) = true)
    (aT7 : PySem.W.nsIn K mainGlobals "_law_wrong" = some (some (.ref fT7)))
    (lT7 : K.lookup fT7 = some ⟨ocT7, odT7, .func (PySem.W.fnOf "_law_wrong" "_law_wrong" (defArgs sWrong) (defBody sWrong) (defScope sWrong) .none kVT7 dcT7 pmT7 anT7 cdT7 ctT7), slT7⟩)
    (cT7 : PySem.W.codeIn K cdT7 "_law_wrong" = true)
    (kT7 : PySem.W.keepIn K (.ref fT7) = true)
    (aT8 : PySem.W.nsIn K mainGlobals "_law_own" = some (some (.ref fT8)))
    (lT8 : K.lookup fT8 = some ⟨ocT8, odT8, .func (PySem.W.fnOf "_law_own" "_law_own" (defArgs sOwn) (defBody sOwn) (defScope sOwn) .none kVT8 dcT8 pmT8 anT8 cdT8 ctT8), slT8⟩)
    (cT8 : PySem.W.codeIn K cdT8 "_law_own" = true)
    (kT8 : PySem.W.keepIn K (.ref fT8) = true)
    (aT9 : PySem.W.nsIn K mainGlobals "_law_answer" = some (some (.ref fT9)))
    (lT9 : K.lookup fT9 = some ⟨ocT9, odT9, .func (PySem.W.fnOf "_law_answer" "_law_answer" (defArgs sAnswerL) (defBody sAnswerL) (defScope sAnswerL) .none kVT9 dcT9 pmT9 anT9 cdT9 ctT9), slT9⟩)
    (cT9 : PySem.W.codeIn K cdT9 "_law_answer" = true)
    (kT9 : PySem.W.keepIn K (.ref fT9) = true)
    (aTA : PySem.W.nsIn K mainGlobals "_law_called" = some (some (.ref fTA)))
    (lTA : K.lookup fTA = some ⟨ocTA, odTA, .func (PySem.W.fnOf "_law_called" "_law_called" (defArgs sCalled) (defBody sCalled) (defScope sCalled) .none kVTA dcTA pmTA anTA cdTA ctTA), slTA⟩)
    (cTA : PySem.W.codeIn K cdTA "_law_called" = true)
    (kTA : PySem.W.keepIn K (.ref fTA) = true)
    (aTB_ : PySem.W.nsIn K mainGlobals "_law_word" = some (some (.ref fTB_)))
    (lTB_ : K.lookup fTB_ = some ⟨ocTB_, odTB_, .func (PySem.W.fnOf "_law_word" "_law_word" (defArgs sWordL) (defBody sWordL) (defScope sWordL) .none kVTB_ dcTB_ pmTB_ anTB_ cdTB_ ctTB_), slTB_⟩)
    (cTB_ : PySem.W.codeIn K cdTB_ "_law_word" = true)
    (kTB_ : PySem.W.keepIn K (.ref fTB_) = true)
    (aTC : PySem.W.nsIn K mainGlobals "_law_told" = some (some (.ref fTC)))
    (lTC : K.lookup fTC = some ⟨ocTC, odTC, .func (PySem.W.fnOf "_law_told" "_law_told" (defArgs sTold) (defBody sTold) (defScope sTold) .none kVTC dcTC pmTC anTC cdTC ctTC), slTC⟩)
    (cTC : PySem.W.codeIn K cdTC "_law_told" = true)
    (kTC : PySem.W.keepIn K (.ref fTC) = true)
    (aTD : PySem.W.nsIn K mainGlobals "_law_done_so" = some (some (.ref fTD)))
    (lTD : K.lookup fTD = some ⟨ocTD, odTD, .func (PySem.W.fnOf "_law_done_so" "_law_done_so" (defArgs sDoneSo) (defBody sDoneSo) (defScope sDoneSo) .none kVTD dcTD pmTD anTD cdTD ctTD), slTD⟩)
    (cTD : PySem.W.codeIn K cdTD "_law_done_so" = true)
    (kTD : PySem.W.keepIn K (.ref fTD) = true)
    (aZ : PySem.W.nsIn K mainGlobals "law" = some (some (.ref fZ)))
    (lZ : K.lookup fZ = some ⟨ocZ, odZ, .func (PySem.W.fnOf "law" "law" (defArgs sLaw) (defBody sLaw) (defScope sLaw) .none kVZ dcZ pmZ anZ cdZ ctZ), slZ⟩)
    (cZ : PySem.W.codeIn K cdZ "law" = true)
    (kZ : PySem.W.keepIn K (.ref fZ) = true)
    (pgB : PySem.W.plainGet K B Str.empty = true)
    (hdB : PySem.W.hasDictIn K B = true)
    (poB : PySem.W.plainOver K B = true)
    (saB : PySem.W.findIn K (.ref B) "__setattr__" = some (some (.builtin "object.__setattr__")))
    (mkB : PySem.W.makesIn K B = true)
    (kcB : PySem.W.keepIn K (.ref B) = true)
    (nBslots : PySem.W.findIn K (.ref B) "slots" = some none)
    (nBweight : PySem.W.findIn K (.ref B) "weight" = some none)
    (nBsuspect : PySem.W.findIn K (.ref B) "suspect" = some none)
    (pgC : PySem.W.plainGet K C Str.empty = true)
    (hdC : PySem.W.hasDictIn K C = true)
    (poC : PySem.W.plainOver K C = true)
    (saC : PySem.W.findIn K (.ref C) "__setattr__" = some (some (.builtin "object.__setattr__")))
    (mkC : PySem.W.makesIn K C = true)
    (kcC : PySem.W.keepIn K (.ref C) = true)
    (nChands : PySem.W.findIn K (.ref C) "_hands" = some none)
    (nCboxes : PySem.W.findIn K (.ref C) "_boxes" = some none)
    (nCmade : PySem.W.findIn K (.ref C) "_made" = some none)
    (xeH : PySem.W.excIn K eH [.type "ValueError", .type "Exception", .type "BaseException", .type "object"] "ValueError.__new__" = true)
    (keeH : PySem.W.keepIn K (.ref eH) = true)
    (beH : PySem.W.subIn K (.ref eH) (.type "BaseException") = some true)
    (tyeH : PySem.W.typeIn K (.ref eH) = some (.type "type"))
    (xeS : PySem.W.excIn K eS [.type "ValueError", .type "Exception", .type "BaseException", .type "object"] "ValueError.__new__" = true)
    (keeS : PySem.W.keepIn K (.ref eS) = true)
    (beS : PySem.W.subIn K (.ref eS) (.type "BaseException") = some true)
    (tyeS : PySem.W.typeIn K (.ref eS) = some (.type "type"))
    (xeF : PySem.W.excIn K eF [.type "ValueError", .type "Exception", .type "BaseException", .type "object"] "ValueError.__new__" = true)
    (keeF : PySem.W.keepIn K (.ref eF) = true)
    (beF : PySem.W.subIn K (.ref eF) (.type "BaseException") = some true)
    (tyeF : PySem.W.typeIn K (.ref eF) = some (.type "type"))
    (xeB : PySem.W.excIn K eB [.type "ValueError", .type "Exception", .type "BaseException", .type "object"] "ValueError.__new__" = true)
    (keeB : PySem.W.keepIn K (.ref eB) = true)
    (beB : PySem.W.subIn K (.ref eB) (.type "BaseException") = some true)
    (tyeB : PySem.W.typeIn K (.ref eB) = some (.type "type"))
    (xeL : PySem.W.excIn K eL [.type "ValueError", .type "Exception", .type "BaseException", .type "object"] "ValueError.__new__" = true)
    (keeL : PySem.W.keepIn K (.ref eL) = true)
    (beL : PySem.W.subIn K (.ref eL) (.type "BaseException") = some true)
    (tyeL : PySem.W.typeIn K (.ref eL) = some (.type "type"))
    (xeD : PySem.W.excIn K eD [.type "ValueError", .type "Exception", .type "BaseException", .type "object"] "ValueError.__new__" = true)
    (keeD : PySem.W.keepIn K (.ref eD) = true)
    (beD : PySem.W.subIn K (.ref eD) (.type "BaseException") = some true)
    (tyeD : PySem.W.typeIn K (.ref eD) = some (.type "type"))
    (xeP : PySem.W.excIn K eP [.type "ValueError", .type "Exception", .type "BaseException", .type "object"] "ValueError.__new__" = true)
    (keeP : PySem.W.keepIn K (.ref eP) = true)
    (beP : PySem.W.subIn K (.ref eP) (.type "BaseException") = some true)
    (tyeP : PySem.W.typeIn K (.ref eP) = some (.type "type"))
    (iseB : PySem.W.isClsIn K eB = true)
    (iseD : PySem.W.isClsIn K eD = true)
    (iseF : PySem.W.isClsIn K eF = true)
    (iseH : PySem.W.isClsIn K eH = true)
    (iseL : PySem.W.isClsIn K eL = true)
    (iseP : PySem.W.isClsIn K eP = true)
    (iseS : PySem.W.isClsIn K eS = true)
    (sueHeP : PySem.W.subIn K (.ref eH) (.ref eP) = some true)
    (sueSeP : PySem.W.subIn K (.ref eS) (.ref eP) = some true)
    (sueFeP : PySem.W.subIn K (.ref eF) (.ref eP) = some true)
    (sueBeP : PySem.W.subIn K (.ref eB) (.ref eP) = some true)
    (sueLeP : PySem.W.subIn K (.ref eL) (.ref eP) = some true)
    (sueHeH : PySem.W.subIn K (.ref eH) (.ref eH) = some true)
    (sueHeS : PySem.W.subIn K (.ref eH) (.ref eS) = some false)
    (sueHeF : PySem.W.subIn K (.ref eH) (.ref eF) = some false)
    (sueHeB : PySem.W.subIn K (.ref eH) (.ref eB) = some false)
    (sueHeL : PySem.W.subIn K (.ref eH) (.ref eL) = some false)
    (sueHeD : PySem.W.subIn K (.ref eH) (.ref eD) = some false)
    (sueSeH : PySem.W.subIn K (.ref eS) (.ref eH) = some false)
    (sueSeS : PySem.W.subIn K (.ref eS) (.ref eS) = some true)
    (sueSeF : PySem.W.subIn K (.ref eS) (.ref eF) = some false)
    (sueSeB : PySem.W.subIn K (.ref eS) (.ref eB) = some false)
    (sueSeL : PySem.W.subIn K (.ref eS) (.ref eL) = some false)
    (sueSeD : PySem.W.subIn K (.ref eS) (.ref eD) = some false)
    (sueFeH : PySem.W.subIn K (.ref eF) (.ref eH) = some false)
    (sueFeS : PySem.W.subIn K (.ref eF) (.ref eS) = some false)
    (sueFeF : PySem.W.subIn K (.ref eF) (.ref eF) = some true)
    (sueFeB : PySem.W.subIn K (.ref eF) (.ref eB) = some false)
    (sueFeL : PySem.W.subIn K (.ref eF) (.ref eL) = some false)
    (sueFeD : PySem.W.subIn K (.ref eF) (.ref eD) = some false)
    (sueBeH : PySem.W.subIn K (.ref eB) (.ref eH) = some false)
    (sueBeS : PySem.W.subIn K (.ref eB) (.ref eS) = some false)
    (sueBeF : PySem.W.subIn K (.ref eB) (.ref eF) = some false)
    (sueBeB : PySem.W.subIn K (.ref eB) (.ref eB) = some true)
    (sueBeL : PySem.W.subIn K (.ref eB) (.ref eL) = some false)
    (sueBeD : PySem.W.subIn K (.ref eB) (.ref eD) = some false)
    (sueLeH : PySem.W.subIn K (.ref eL) (.ref eH) = some false)
    (sueLeS : PySem.W.subIn K (.ref eL) (.ref eS) = some false)
    (sueLeF : PySem.W.subIn K (.ref eL) (.ref eF) = some false)
    (sueLeB : PySem.W.subIn K (.ref eL) (.ref eB) = some false)
    (sueLeL : PySem.W.subIn K (.ref eL) (.ref eL) = some true)
    (sueLeD : PySem.W.subIn K (.ref eL) (.ref eD) = some false)
    (sueDeH : PySem.W.subIn K (.ref eD) (.ref eH) = some false)
    (sueDeS : PySem.W.subIn K (.ref eD) (.ref eS) = some false)
    (sueDeF : PySem.W.subIn K (.ref eD) (.ref eF) = some false)
    (sueDeB : PySem.W.subIn K (.ref eD) (.ref eB) = some false)
    (sueDeL : PySem.W.subIn K (.ref eD) (.ref eL) = some false)
    (sueDeD : PySem.W.subIn K (.ref eD) (.ref eD) = some true)
    (cnHANDS : PySem.W.nsIn K mainGlobals "HANDS" = some (some (.int 8 tHANDS)))
    (cnMOST_SLOTS : PySem.W.nsIn K mainGlobals "MOST_SLOTS" = some (some (.int 6 tMOST_SLOTS)))
    (cnMOST_ALIVE : PySem.W.nsIn K mainGlobals "MOST_ALIVE" = some (some (.int 60 tMOST_ALIVE)))
    (zisinstance : PySem.W.nsIn K mainGlobals "isinstance" = some none)
    (zint : PySem.W.nsIn K mainGlobals "int" = some none)
    (zbool : PySem.W.nsIn K mainGlobals "bool" = some none)
    (zlist : PySem.W.nsIn K mainGlobals "list" = some none)
    (zlen : PySem.W.nsIn K mainGlobals "len" = some none)
    (zrange : PySem.W.nsIn K mainGlobals "range" = some none)
    (zmin : PySem.W.nsIn K mainGlobals "min" = some none)
    (zsorted : PySem.W.nsIn K mainGlobals "sorted" = some none)
    (zset : PySem.W.nsIn K mainGlobals "set" = some none)
    (zall : PySem.W.nsIn K mainGlobals "all" = some none)
    (zstr : PySem.W.nsIn K mainGlobals "str" = some none)
    (ztuple : PySem.W.nsIn K mainGlobals "tuple" = some none)
    (hgeH : PySem.W.findIn K (.ref eH) "__getattribute__" = some (some (.builtin "BaseException.__getattribute__")))
    (hkeH : PySem.W.findIn K (.ref eH) "__getattr__" = some none)
    (hdeH : PySem.W.hasDictIn K eH = true)
    (haeH : PySem.W.findIn K (.ref eH) "__class__" = some (some (.builtin "object.__class__")))
    (hmeH : PySem.W.mroIn K eH (.type "object") = some true)
    (hgeS : PySem.W.findIn K (.ref eS) "__getattribute__" = some (some (.builtin "BaseException.__getattribute__")))
    (hkeS : PySem.W.findIn K (.ref eS) "__getattr__" = some none)
    (hdeS : PySem.W.hasDictIn K eS = true)
    (haeS : PySem.W.findIn K (.ref eS) "__class__" = some (some (.builtin "object.__class__")))
    (hmeS : PySem.W.mroIn K eS (.type "object") = some true)
    (hgeF : PySem.W.findIn K (.ref eF) "__getattribute__" = some (some (.builtin "BaseException.__getattribute__")))
    (hkeF : PySem.W.findIn K (.ref eF) "__getattr__" = some none)
    (hdeF : PySem.W.hasDictIn K eF = true)
    (haeF : PySem.W.findIn K (.ref eF) "__class__" = some (some (.builtin "object.__class__")))
    (hmeF : PySem.W.mroIn K eF (.type "object") = some true)
    (hgeB : PySem.W.findIn K (.ref eB) "__getattribute__" = some (some (.builtin "BaseException.__getattribute__")))
    (hkeB : PySem.W.findIn K (.ref eB) "__getattr__" = some none)
    (hdeB : PySem.W.hasDictIn K eB = true)
    (haeB : PySem.W.findIn K (.ref eB) "__class__" = some (some (.builtin "object.__class__")))
    (hmeB : PySem.W.mroIn K eB (.type "object") = some true)
    (hgeL : PySem.W.findIn K (.ref eL) "__getattribute__" = some (some (.builtin "BaseException.__getattribute__")))
    (hkeL : PySem.W.findIn K (.ref eL) "__getattr__" = some none)
    (hdeL : PySem.W.hasDictIn K eL = true)
    (haeL : PySem.W.findIn K (.ref eL) "__class__" = some (some (.builtin "object.__class__")))
    (hmeL : PySem.W.mroIn K eL (.type "object") = some true)
    (hn : PySem.W.specialIn K (.builtin "object.__class__") "__get__" = some (some (.builtin "getset_descriptor.__get__")))
    (ht : PySem.W.takesIn K (.builtin "object.__class__") = some true)
    (vcl : K.lookup xRN = some ⟨vc, odc, .fields vsc, slc⟩)
    (vPt : vsc[11]? = some (.ref Pt))
    (vNo : K.lookup Pt = none)
    (cnF : PySem.W.nsIn K mainGlobals "FIGURES" = some (some (.str "0123456789" tF)))
    (cnM : PySem.W.nsIn K mainGlobals "MOST_FIGURES" = some (some (.int 60 tM)))
    (aWD : PySem.W.nsIn K mainGlobals "WORDS" = some (some (.ref dW0)))
    (lWD : K.lookup dW0 = some ⟨.type "dict", none, .dict esW nW, #[]⟩)
    (wW : WordsAt w.params esW.toList)
    (loW : (dW0 == sysModules) = false)
    : ∃ (fd : FuncData) (c Pt : Addr), PySem.W.tabIn K "read_number" = some (c, Pt) ∧ K.lookup Pt = none ∧ (∀ (s : Shared) (u : Value), BindsTo s fd ⟨[u], []⟩ [("_law_script", u)]) ∧
        ∀ base : Heap, K.In base → base.Ns mainGlobals mg → GxR.TabB base mg c Pt → FnOk l.prog w K mg base CX0 10 fa fd ["_law_script"] (spLawT K Pt) := by
  have e := hfa.symm.trans (PySem.W.mg_of X G aZ)
  cases e
  have FI := fun_mk (st := sInit) lI cI kI
  have bI := FI.binds (ps := ["self"]) fun _ _ _ _ _ _ us hl => match us, hl with | [_], _ => rfl
  have FM := fun_mk (st := sMake) lM cM kM
  have bM := FM.binds (ps := ["self", "hand", "size"]) fun _ _ _ _ _ _ us hl => match us, hl with | [_, _, _], _ => rfl
  have FO := fun_mk (st := sHold) lO cO kO
  have bO := FO.binds (ps := ["self", "hand", "other"]) fun _ _ _ _ _ _ us hl => match us, hl with | [_, _, _], _ => rfl
  have FR := fun_mk (st := sDrop) lR cR kR
  have bR := FR.binds (ps := ["self", "hand"]) fun _ _ _ _ _ _ us hl => match us, hl with | [_, _], _ => rfl
  have FU := fun_mk (st := sPut) lU cU kU
  have bU := FU.binds (ps := ["self", "hand", "slot", "other"]) fun _ _ _ _ _ _ us hl => match us, hl with | [_, _, _, _], _ => rfl
  have FE := fun_mk (st := sEmpty) lE cE kE
  have bE := FE.binds (ps := ["self", "hand", "slot"]) fun _ _ _ _ _ _ us hl => match us, hl with | [_, _, _], _ => rfl
  have FQ := fun_mk (st := sTake) lQ cQ kQ
  have bQ := FQ.binds (ps := ["self", "hand", "other", "slot"]) fun _ _ _ _ _ _ us hl => match us, hl with | [_, _, _, _], _ => rfl
  have FH := fun_mk (st := sHolds) lH cH kH
  have bH := FH.binds (ps := ["self", "hand"]) fun _ _ _ _ _ _ us hl => match us, hl with | [_, _], _ => rfl
  have FT := fun_mk (st := sPoints) lT cT kT
  have bT := FT.binds (ps := ["self", "number"]) fun _ _ _ _ _ _ us hl => match us, hl with | [_, _], _ => rfl
  have FG := fun_mk (st := sWeighs) lG cG kG
  have bG := FG.binds (ps := ["self", "number"]) fun _ _ _ _ _ _ us hl => match us, hl with | [_, _], _ => rfl
  have FA := fun_mk (st := sAlive) lA cA kA
  have bA := FA.binds (ps := ["self"]) fun _ _ _ _ _ _ us hl => match us, hl with | [_], _ => rfl
  have FS := fun_mk (st := sSuspects) lS cS kS
  have bS := FS.binds (ps := ["self"]) fun _ _ _ _ _ _ us hl => match us, hl with | [_], _ => rfl
  have FX := fun_mk (st := sBox) lX cX kX
  have bX := FX.binds (ps := ["self", "number"]) fun _ _ _ _ _ _ us hl => match us, hl with | [_, _], _ => rfl
  have FY := fun_mk (st := sSlotsWith) lY cY kY
  have bY := FY.binds (ps := ["self", "hand", "slot"]) fun _ _ _ _ _ _ us hl => match us, hl with | [_, _, _], _ => rfl
  have FP := fun_mk (st := sPoint) lP cP kP
  have bP := FP.binds (ps := ["self", "pointers", "at", "number"]) fun _ _ _ _ _ _ us hl => match us, hl with | [_, _, _, _], _ => rfl
  have FL := fun_mk (st := sLetGo) lL cL kL
  have bL := FL.binds (ps := ["self", "pointer"]) fun _ _ _ _ _ _ us hl => match us, hl with | [_, _], _ => rfl
  have FB := fun_mk (st := sBoxInit) lB cB kB
  have bB := FB.binds (ps := ["self", "size"]) fun _ _ _ _ _ _ us hl => match us, hl with | [_, _], _ => rfl
  have FK := fun_mk (st := sCheck) lK cK kK
  have bK := FK.binds (ps := ["hand"]) fun _ _ _ _ _ _ us hl => match us, hl with | [_], _ => rfl
  have FCS := fun_mk (st := sCheckSlot) lCS cCS kCS
  have bCS := FCS.binds (ps := ["slots", "slot"]) fun _ _ _ _ _ _ us hl => match us, hl with | [_, _], _ => rfl
  have FCA := fun_mk (st := sClear) lCA cCA kCA
  have bCA := FCA.binds (ps := ["self", "numbers"]) fun _ _ _ _ _ _ us hl => match us, hl with | [_, _], _ => rfl
  have FPA := fun_mk (st := sPointedAt) lPA cPA kPA
  have bPA := FPA.binds (ps := ["pile", "number"]) fun _ _ _ _ _ _ us hl => match us, hl with | [_, _], _ => rfl
  have FRE := fun_mk (st := sReached) lRE cRE kRE
  have bRE := FRE.binds (ps := ["pile", "numbers"]) fun _ _ _ _ _ _ us hl => match us, hl with | [_, _], _ => rfl
  have FTR := fun_mk (st := sTrials) lTR cTR kTR
  have bTR := FTR.binds (ps := ["pile"]) fun _ _ _ _ _ _ us hl => match us, hl with | [_], _ => rfl
  have FTY := fun_mk (st := sTidy) lTY cTY kTY
  have bTY := FTY.binds (ps := ["pile"]) fun _ _ _ _ _ _ us hl => match us, hl with | [_], _ => rfl
  have FDO := fun_mk (st := sDoneP) lDO cDO kDO
  have bDO := FDO.binds (ps := ["pile", "deed"]) fun _ _ _ _ _ _ us hl => match us, hl with | [_, _], _ => rfl
  have FRD := fun_mk (st := sRead) lRD cRD kRD
  have bRD := FRD.binds (ps := ["line"]) fun _ _ _ _ _ _ us hl => match us, hl with | [_], _ => rfl
  have FRN := fun_mk (st := sReadNumber) lRN cRN kRN
  have bRN := FRN.binds (ps := ["part"]) fun _ _ _ _ _ _ us hl => match us, hl with | [_], _ => rfl
  have FAN := fun_mk (st := sAnswer) lAN cAN kAN
  have bAN := FAN.binds (ps := ["pile", "line"]) fun _ _ _ _ _ _ us hl => match us, hl with | [_, _], _ => rfl
  have FPY := fun_mk (st := sPlayed) lPY cPY kPY
  have bPY := FPY.binds (ps := ["lines"]) fun _ _ _ _ _ _ us hl => match us, hl with | [_], _ => rfl
  have FW := fun_mk (st := sWhole) lW cW kW
  have bW := FW.binds (ps := ["_law_found"]) fun _ _ _ _ _ _ us hl => match us, hl with | [_], _ => rfl
  have FD := fun_mk (st := sCellAt) lD cD kD
  have bD := FD.binds (ps := ["_law_script", "_law_k"]) fun _ _ _ _ _ _ us hl => match us, hl with | [_, _], _ => rfl
  have FN := fun_mk (st := sNums) lN cN kN
  have bN := FN.binds (ps := ["_law_found", "_law_due"]) fun _ _ _ _ _ _ us hl => match us, hl with | [_, _], _ => rfl
  have FZ5 := fun_mk (st := sDeedBy) lZ5 cZ5 kZ5
  have bZ5 := FZ5.binds (ps := ["_law_one", "_law_two", "_law_few"]) fun _ _ _ _ _ _ us hl => match us, hl with | [_, _, _], _ => rfl
  have FT1 := fun_mk (st := sRingDeeds) lT1 cT1 kT1
  have bT1 := FT1.binds (ps := ["_law_many", "_law_closed"]) fun _ _ _ _ _ _ us hl => match us, hl with | [_, _], _ => rfl
  have FT2 := fun_mk (st := sFanDeeds) lT2 cT2 kT2
  have bT2 := FT2.binds (ps := ["_law_cell"]) fun _ _ _ _ _ _ us hl => match us, hl with | [_], _ => rfl
  have FT3 := fun_mk (st := sDeeds) lT3 cT3 kT3
  have bT3 := FT3.binds (ps := ["_law_script", "_law_most"]) fun _ _ _ _ _ _ us hl => match us, hl with | [_, _], _ => rfl
  have FT4 := fun_mk (st := sWeight) lT4 cT4 kT4
  have bT4 := FT4.binds (ps := ["_law_pile", "_law_number"]) fun _ _ _ _ _ _ us hl => match us, hl with | [_, _], _ => rfl
  have FT5 := fun_mk (st := sFreed) lT5 cT5 kT5
  have bT5 := FT5.binds (ps := ["_law_pile", "_law_old"]) fun _ _ _ _ _ _ us hl => match us, hl with | [_, _], _ => rfl
  have FT6 := fun_mk (st := sTidied) lT6 cT6 kT6
  have bT6 := FT6.binds (ps := ["_law_pile"]) fun _ _ _ _ _ _ us hl => match us, hl with | [_], _ => rfl
  have FT7 := fun_mk (st := sWrong) lT7 cT7 kT7
  have bT7 := FT7.binds (ps := ["_law_pile", "_law_deed"]) fun _ _ _ _ _ _ us hl => match us, hl with | [_, _], _ => rfl
  have FT8 := fun_mk (st := sOwn) lT8 cT8 kT8
  have bT8 := FT8.binds (ps := ["_law_pile", "_law_deed"]) fun _ _ _ _ _ _ us hl => match us, hl with | [_, _], _ => rfl
  have FT9 := fun_mk (st := sAnswerL) lT9 cT9 kT9
  have bT9 := FT9.binds (ps := ["_law_pile", "_law_deed"]) fun _ _ _ _ _ _ us hl => match us, hl with | [_, _], _ => rfl
  have FTA := fun_mk (st := sCalled) lTA cTA kTA
  have bTA := FTA.binds (ps := ["_law_pile", "_law_deed"]) fun _ _ _ _ _ _ us hl => match us, hl with | [_, _], _ => rfl
  have FTB_ := fun_mk (st := sWordL) lTB_ cTB_ kTB_
  have bTB_ := FTB_.binds (ps := ["_law_error"]) fun _ _ _ _ _ _ us hl => match us, hl with | [_], _ => rfl
  have FTC := fun_mk (st := sTold) lTC cTC kTC
  have bTC := FTC.binds (ps := ["_law_pile", "_law_deed", "_law_way"]) fun _ _ _ _ _ _ us hl => match us, hl with | [_, _, _], _ => rfl
  have FTD := fun_mk (st := sDoneSo) lTD cTD kTD
  have bTD := FTD.binds (ps := ["_law_pile", "_law_deed", "_law_own_here", "_law_way"]) fun _ _ _ _ _ _ us hl => match us, hl with | [_, _, _, _], _ => rfl
  have FZ := fun_mk (st := sLaw) lZ cZ kZ
  have T : Txt K mg C B eH eS eF eB eL := ⟨⟨pgC, hdC, poC, saC⟩, nChands, nCboxes, nCmade, ⟨pgB, hdB, poB, saB⟩, nBslots, nBweight, nBsuspect, PySem.W.mg_of X G acC, PySem.W.mg_of X G acB, PySem.W.mg_none_of X G zlen, PySem.W.mg_none_of X G zlist, PySem.W.mg_none_of X G zsorted,
    ⟨_, PySem.W.mg_of X G cnHANDS⟩, ⟨_, PySem.W.mg_of X G cnMOST_SLOTS⟩, ⟨_, PySem.W.mg_of X G cnMOST_ALIVE⟩, ⟨PySem.W.mg_of X G aeH, xeH, keeH, beH, tyeH⟩, ⟨PySem.W.mg_of X G aeS, xeS, keeS, beS, tyeS⟩, ⟨PySem.W.mg_of X G aeF, xeF, keeF, beF, tyeF⟩, ⟨PySem.W.mg_of X G aeB, xeB, keeB, beB, tyeB⟩, ⟨PySem.W.mg_of X G aeL, xeL, keeL, beL, tyeL⟩⟩
  have TL : TxtL mg := ⟨PySem.W.mg_none_of X G zisinstance, PySem.W.mg_none_of X G zint, PySem.W.mg_none_of X G zbool, PySem.W.mg_none_of X G zlist, PySem.W.mg_none_of X G zlen, PySem.W.mg_none_of X G zrange, PySem.W.mg_none_of X G zmin, PySem.W.mg_none_of X G zsorted, PySem.W.mg_none_of X G zset, PySem.W.mg_none_of X G ztuple, PySem.W.mg_none_of X G zstr, PySem.W.mg_none_of X G zall⟩
  have D : Defs K mg C B fI fM fO fR fU fE fQ fH fT fG fA fS fX fY fP fL fB fK fCS fCA fPA fRE fTR fTY fDO fRD fRN fAN fPY fW fD fN fZ5 fT1 fT2 fT3 fT4 fT5 fT6 fT7 fT8 fT9 fTA fTB_ fTC fTD _ _ _ _ _ _ _ _ _ _ _ _ _ _ _ _ _ _ _ _ _ _ _ _ _ _ _ _ _ _ _ _ _ _ _ _ _ _ _ _ _ _ _ _ _ _ := ⟨FI, bI, ⟨mkC, aI, iI, kcC⟩, FM, bM, ⟨aM, iM, kM⟩, FO, bO, ⟨aO, iO, kO⟩, FR, bR, ⟨aR, iR, kR⟩, FU, bU, ⟨aU, iU, kU⟩, FE, bE, ⟨aE, iE, kE⟩, FQ, bQ, ⟨aQ, iQ, kQ⟩, FH, bH, ⟨aH, iH, kH⟩, FT, bT, ⟨aT, iT, kT⟩, FG, bG, ⟨aG, iG, kG⟩, FA, bA, ⟨aA, iA, kA⟩, FS, bS, ⟨aS, iS, kS⟩, FX, bX, ⟨aX, iX, kX⟩, FY, bY, ⟨aY, iY, kY⟩, FP, bP, ⟨aP, iP, kP⟩, FL, bL, ⟨aL, iL, kL⟩, FB, bB, ⟨mkB, aB, iB, kcB⟩, FK, bK, PySem.W.mg_of X G aK, FCS, bCS, PySem.W.mg_of X G aCS, FCA, bCA, ⟨aCA, iCA, kCA⟩, FPA, bPA, PySem.W.mg_of X G aPA, FRE, bRE, PySem.W.mg_of X G aRE, FTR, bTR, PySem.W.mg_of X G aTR, FTY, bTY, PySem.W.mg_of X G aTY, FDO, bDO, PySem.W.mg_of X G aDO, FRD, bRD, PySem.W.mg_of X G aRD, FRN, bRN, PySem.W.mg_of X G aRN, FAN, bAN, PySem.W.mg_of X G aAN, FPY, bPY, PySem.W.mg_of X G aPY, FW, bW, PySem.W.mg_of X G aW, FD, bD, PySem.W.mg_of X G aD, FN, bN, PySem.W.mg_of X G aN, FZ5, bZ5, PySem.W.mg_of X G aZ5, FT1, bT1, PySem.W.mg_of X G aT1, FT2, bT2, PySem.W.mg_of X G aT2, FT3, bT3, PySem.W.mg_of X G aT3, FT4, bT4, PySem.W.mg_of X G aT4, FT5, bT5, PySem.W.mg_of X G aT5, FT6, bT6, PySem.W.mg_of X G aT6, FT7, bT7, PySem.W.mg_of X G aT7, FT8, bT8, PySem.W.mg_of X G aT8, FT9, bT9, PySem.W.mg_of X G aT9, FTA, bTA, PySem.W.mg_of X G aTA, FTB_, bTB_, PySem.W.mg_of X G aTB_, FTC, bTC, PySem.W.mg_of X G aTC, FTD, bTD, PySem.W.mg_of X G aTD⟩
  have TP : TxtP K mg eP eH eS eF eB eL := ⟨PySem.W.mg_of X G aeP, fun e => by cases e; exact exm_sub beP tyeP iseP sueHeP; exact exm_sub beP tyeP iseP sueSeP; exact exm_sub beP tyeP iseP sueFeP; exact exm_sub beP tyeP iseP sueBeP; exact exm_sub beP tyeP iseP sueLeP⟩
  have TN : TxtN K w mg eD dW0 := ⟨⟨PySem.W.mg_of X G aeD, xeD, keeD, beD, tyeD⟩, PySem.W.mg_none_of X G zlen, PySem.W.mg_none_of X G zall, PySem.W.mg_none_of X G zint, PySem.W.mg_none_of X G ztuple, PySem.W.mg_none_of X G zstr, ⟨_, PySem.W.mg_of X G cnF⟩, ⟨_, PySem.W.mg_of X G cnM⟩, PySem.W.mg_of X G aWD, ⟨_, _, lWD, keys_words wW, loW⟩, look_words lWD wW⟩
  have sx : ∀ a b : Option Bad, PySem.W.subIn K (.ref (cls6 eH eS eF eB eL eD a)) (.ref (cls6 eH eS eF eB eL eD b)) = some (decide (a = b)) := by
    intro a b
    rcases a with _ | a
    · rcases b with _ | b
      · exact sueDeD
      · cases b
        · exact sueDeH
        · exact sueDeS
        · exact sueDeF
        · exact sueDeB
        · exact sueDeL
    · cases a
      · rcases b with _ | b
        · exact sueHeD
        · cases b
          · exact sueHeH
          · exact sueHeS
          · exact sueHeF
          · exact sueHeB
          · exact sueHeL
      · rcases b with _ | b
        · exact sueSeD
        · cases b
          · exact sueSeH
          · exact sueSeS
          · exact sueSeF
          · exact sueSeB
          · exact sueSeL
      · rcases b with _ | b
        · exact sueFeD
        · cases b
          · exact sueFeH
          · exact sueFeS
          · exact sueFeF
          · exact sueFeB
          · exact sueFeL
      · rcases b with _ | b
        · exact sueBeD
        · cases b
          · exact sueBeH
          · exact sueBeS
          · exact sueBeF
          · exact sueBeB
          · exact sueBeL
      · rcases b with _ | b
        · exact sueLeD
        · cases b
          · exact sueLeH
          · exact sueLeS
          · exact sueLeF
          · exact sueLeB
          · exact sueLeL
  have cb : ∀ b : Option Bad, PySem.W.subIn K (.ref (cls6 eH eS eF eB eL eD b)) (.type "BaseException") = some true ∧ PySem.W.typeIn K (.ref (cls6 eH eS eF eB eL eD b)) = some (.type "type") ∧ PySem.W.isClsIn K (cls6 eH eS eF eB eL eD b) = true := by
    intro b
    rcases b with _ | b
    · exact ⟨beD, tyeD, iseD⟩
    · cases b
      · exact ⟨beH, tyeH, iseH⟩
      · exact ⟨beS, tyeS, iseS⟩
      · exact ⟨beF, tyeF, iseF⟩
      · exact ⟨beB, tyeB, iseB⟩
      · exact ⟨beL, tyeL, iseL⟩
  have TX : TxtX K eH eS eF eB eL eD := ⟨fun a b => exm_sub (cb b).1 (cb b).2.1 (cb b).2.2 (sx a b)⟩
  have TI : TxtI K eH eS eF eB eL eD := ⟨fun b => by cases b; exact ⟨hgeH, hkeH, beH, hdeH, haeH, hn, ht, hmeH⟩; exact ⟨hgeS, hkeS, beS, hdeS, haeS, hn, ht, hmeS⟩; exact ⟨hgeF, hkeF, beF, hdeF, haeF, hn, ht, hmeF⟩; exact ⟨hgeB, hkeB, beB, hdeB, haeB, hn, ht, hmeB⟩; exact ⟨hgeL, hkeL, beL, hdeL, haeL, hn, ht, hmeL⟩, fun b c => kit_sub (cb c).2.1 (cb c).2.2 (sx (some b) c) (fun e => by
    have h1 := sx (some b) c
    have h2 := sx c c
    rw [show clsOf eH eS eF eB eL b = cls6 eH eS eF eB eL eD (some b) from rfl] at e
    rw [e, h2] at h1
    injection h1 with h1
    rw [decide_eq_true rfl] at h1
    exact h1.symm)⟩

  exact ⟨PySem.W.fnOf "law" "law" (defArgs sLaw) (defBody sLaw) (defScope sLaw) .none kVZ dcZ pmZ anZ cdZ ctZ, xRN, Pt, tab_in aRN lRN rfl vcl vPt, vNo, fun s v => .of_eq rfl, fun base _ _ TB => ok_law FZ T TL TN TP TI TX TB rfl D⟩
end BP
open PySem PySem.W PyProof.Rows
set_option maxRecDepth 100000 in
set_option maxHeartbeats 0 in
theorem PySem.Challenge.cw_boxpile_k13_whole_rows_played_holds : PySem.Challenge.rw_boxpile_k13_whole_rows_played.Holds := by
  w_on; o_law; k_head; (case hw => w_witness2)
  k_fill
  refine BP.walkT (l := PySem.Challenge.rw_boxpile_k13_whole_rows_played) (k := 10) rfl rfl ⟨rfl, by decide, by decide⟩ (fun w h Y => PySem.W.kIn_of Y) (by decide +kernel) ?F
  case F =>
    intro w mg fa h KX G hmg
    refine' BP.all_mk KX G hmg ?acB ?acC ?aeH ?aeS ?aeF ?aeB ?aeL ?aeD ?aeP ?aI ?iI ?lI ?cI ?kI ?aM ?iM ?lM ?cM ?kM ?aO ?iO ?lO ?cO ?kO ?aR ?iR ?lR ?cR ?kR ?aU ?iU ?lU ?cU ?kU ?aE ?iE ?lE ?cE ?kE ?aQ ?iQ ?lQ ?cQ ?kQ ?aH ?iH ?lH ?cH ?kH ?aT ?iT ?lT ?cT ?kT ?aG ?iG ?lG ?cG ?kG ?aA ?iA ?lA ?cA ?kA ?aS ?iS ?lS ?cS ?kS ?aX ?iX ?lX ?cX ?kX ?aY ?iY ?lY ?cY ?kY ?aP ?iP ?lP ?cP ?kP ?aL ?iL ?lL ?cL ?kL ?aB ?iB ?lB ?cB ?kB ?aK ?lK ?cK ?kK ?aCS ?lCS ?cCS ?kCS ?aCA ?iCA ?lCA ?cCA ?kCA ?aPA ?lPA ?cPA ?kPA ?aRE ?lRE ?cRE ?kRE ?aTR ?lTR ?cTR ?kTR ?aTY ?lTY ?cTY ?kTY ?aDO ?lDO ?cDO ?kDO ?aRD ?lRD ?cRD ?kRD ?aRN ?lRN ?cRN ?kRN ?aAN ?lAN ?cAN ?kAN ?aPY ?lPY ?cPY ?kPY ?aW ?lW ?cW ?kW ?aD ?lD ?cD ?kD ?aN ?lN ?cN ?kN ?aZ5 ?lZ5 ?cZ5 ?kZ5 ?aT1 ?lT1 ?cT1 ?kT1 ?aT2 ?lT2 ?cT2 ?kT2 ?aT3 ?lT3 ?cT3 ?kT3 ?aT4 ?lT4 ?cT4 ?kT4 ?aT5 ?lT5 ?cT5 ?kT5 ?aT6 ?lT6 ?cT6 ?kT6 ?aT7 ?lT7 ?cT7 ?kT7 ?aT8 ?lT8 ?cT8 ?kT8 ?aT9 ?lT9 ?cT9 ?kT9 ?aTA ?lTA ?cTA ?kTA ?aTB_ ?lTB_ ?cTB_ ?kTB_ ?aTC ?lTC ?cTC ?kTC ?aTD ?lTD ?cTD ?kTD ?aZ ?lZ ?cZ ?kZ ?pgB ?hdB ?poB ?saB ?mkB ?kcB ?nBslots ?nBweight ?nBsuspect ?pgC ?hdC ?poC ?saC ?mkC ?kcC ?nChands ?nCboxes ?nCmade ?xeH ?keeH ?beH ?tyeH ?xeS ?keeS ?beS ?tyeS ?xeF ?keeF ?beF ?tyeF ?xeB ?keeB ?beB ?tyeB ?xeL ?keeL ?beL ?tyeL ?xeD ?keeD ?beD ?tyeD ?xeP ?keeP ?beP ?tyeP ?iseB ?iseD ?iseF ?iseH ?iseL ?iseP ?iseS ?sueHeP ?sueSeP ?sueFeP ?sueBeP ?sueLeP ?sueHeH ?sueHeS ?sueHeF ?sueHeB ?sueHeL ?sueHeD ?sueSeH ?sueSeS ?sueSeF ?sueSeB ?sueSeL ?sueSeD ?sueFeH ?sueFeS ?sueFeF ?sueFeB ?sueFeL ?sueFeD ?sueBeH ?sueBeS ?sueBeF ?sueBeB ?sueBeL ?sueBeD ?sueLeH ?sueLeS ?sueLeF ?sueLeB ?sueLeL ?sueLeD ?sueDeH ?sueDeS ?sueDeF ?sueDeB ?sueDeL ?sueDeD ?cnHANDS ?cnMOST_SLOTS ?cnMOST_ALIVE ?zisinstance ?zint ?zbool ?zlist ?zlen ?zrange ?zmin ?zsorted ?zset ?zall ?zstr ?ztuple ?hgeH ?hkeH ?hdeH ?haeH ?hmeH ?hgeS ?hkeS ?hdeS ?haeS ?hmeS ?hgeF ?hkeF ?hdeF ?haeF ?hmeF ?hgeB ?hkeB ?hdeB ?haeB ?hmeB ?hgeL ?hkeL ?hdeL ?haeL ?hmeL ?hn ?ht ?vcl ?vPt ?vNo ?cnF ?cnM ?aWD ?lWD ?wW ?loW
    (case acB => k_is)
    (case acC => k_is)
    (case aeH => k_is)
    (case aeS => k_is)
    (case aeF => k_is)
    (case aeB => k_is)
    (case aeL => k_is)
    (case aeD => k_is)
    (case aeP => k_is)
    (case aI => k_is)
    (case iI => k_is)
    (case lI => k_is)
    (case cI => k_is)
    (case kI => k_is)
    (case aM => k_is)
    (case iM => k_is)
    (case lM => k_is)
    (case cM => k_is)
    (case kM => k_is)
    (case aO => k_is)
    (case iO => k_is)
    (case lO => k_is)
    (case cO => k_is)
    (case kO => k_is)
    (case aR => k_is)
    (case iR => k_is)
    (case lR => k_is)
    (case cR => k_is)
    (case kR => k_is)
    (case aU => k_is)
    (case iU => k_is)
    (case lU => k_is)
    (case cU => k_is)
    (case kU => k_is)
    (case aE => k_is)
    (case iE => k_is)
    (case lE => k_is)
    (case cE => k_is)
    (case kE => k_is)
    (case aQ => k_is)
    (case iQ => k_is)
    (case lQ => k_is)
    (case cQ => k_is)
    (case kQ => k_is)
    (case aH => k_is)
    (case iH => k_is)
    (case lH => k_is)
    (case cH => k_is)
    (case kH => k_is)
    (case aT => k_is)
    (case iT => k_is)
    (case lT => k_is)
    (case cT => k_is)
    (case kT => k_is)
    (case aG => k_is)
    (case iG => k_is)
    (case lG => k_is)
    (case cG => k_is)
    (case kG => k_is)
    (case aA => k_is)
    (case iA => k_is)
    (case lA => k_is)
    (case cA => k_is)
    (case kA => k_is)
    (case aS => k_is)
    (case iS => k_is)
    (case lS => k_is)
    (case cS => k_is)
    (case kS => k_is)
    (case aX => k_is)
    (case iX => k_is)
    (case lX => k_is)
    (case cX => k_is)
    (case kX => k_is)
    (case aY => k_is)
    (case iY => k_is)
    (case lY => k_is)
    (case cY => k_is)
    (case kY => k_is)
    (case aP => k_is)
    (case iP => k_is)
    (case lP => k_is)
    (case cP => k_is)
    (case kP => k_is)
    (case aL => k_is)
    (case iL => k_is)
    (case lL => k_is)
    (case cL => k_is)
    (case kL => k_is)
    (case aB => k_is)
    (case iB => k_is)
    (case lB => k_is)
    (case cB => k_is)
    (case kB => k_is)
    (case aK => k_is)
    (case lK => k_is)
    (case cK => k_is)
    (case kK => k_is)
    (case aCS => k_is)
    (case lCS => k_is)
    (case cCS => k_is)
    (case kCS => k_is)
    (case aCA => k_is)
    (case iCA => k_is)
    (case lCA => k_is)
    (case cCA => k_is)
    (case kCA => k_is)
    (case aPA => k_is)
    (case lPA => k_is)
    (case cPA => k_is)
    (case kPA => k_is)
    (case aRE => k_is)
    (case lRE => k_is)
    (case cRE => k_is)
    (case kRE => k_is)
    (case aTR => k_is)
    (case lTR => k_is)
    (case cTR => k_is)
    (case kTR => k_is)
    (case aTY => k_is)
    (case lTY => k_is)
    (case cTY => k_is)
    (case kTY => k_is)
    (case aDO => k_is)
    (case lDO => k_is)
    (case cDO => k_is)
    (case kDO => k_is)
    (case aRD => k_is)
    (case lRD => k_is)
    (case cRD => k_is)
    (case kRD => k_is)
    (case aRN => k_is)
    (case lRN => k_is)
    (case cRN => k_is)
    (case kRN => k_is)
    (case aAN => k_is)
    (case lAN => k_is)
    (case cAN => k_is)
    (case kAN => k_is)
    (case aPY => k_is)
    (case lPY => k_is)
    (case cPY => k_is)
    (case kPY => k_is)
    (case aW => k_is)
    (case lW => k_is)
    (case cW => k_is)
    (case kW => k_is)
    (case aD => k_is)
    (case lD => k_is)
    (case cD => k_is)
    (case kD => k_is)
    (case aN => k_is)
    (case lN => k_is)
    (case cN => k_is)
    (case kN => k_is)
    (case aZ5 => k_is)
    (case lZ5 => k_is)
    (case cZ5 => k_is)
    (case kZ5 => k_is)
    (case aT1 => k_is)
    (case lT1 => k_is)
    (case cT1 => k_is)
    (case kT1 => k_is)
    (case aT2 => k_is)
    (case lT2 => k_is)
    (case cT2 => k_is)
    (case kT2 => k_is)
    (case aT3 => k_is)
    (case lT3 => k_is)
    (case cT3 => k_is)
    (case kT3 => k_is)
    (case aT4 => k_is)
    (case lT4 => k_is)
    (case cT4 => k_is)
    (case kT4 => k_is)
    (case aT5 => k_is)
    (case lT5 => k_is)
    (case cT5 => k_is)
    (case kT5 => k_is)
    (case aT6 => k_is)
    (case lT6 => k_is)
    (case cT6 => k_is)
    (case kT6 => k_is)
    (case aT7 => k_is)
    (case lT7 => k_is)
    (case cT7 => k_is)
    (case kT7 => k_is)
    (case aT8 => k_is)
    (case lT8 => k_is)
    (case cT8 => k_is)
    (case kT8 => k_is)
    (case aT9 => k_is)
    (case lT9 => k_is)
    (case cT9 => k_is)
    (case kT9 => k_is)
    (case aTA => k_is)
    (case lTA => k_is)
    (case cTA => k_is)
    (case kTA => k_is)
    (case aTB_ => k_is)
    (case lTB_ => k_is)
    (case cTB_ => k_is)
    (case kTB_ => k_is)
    (case aTC => k_is)
    (case lTC => k_is)
    (case cTC => k_is)
    (case kTC => k_is)
    (case aTD => k_is)
    (case lTD => k_is)
    (case cTD => k_is)
    (case kTD => k_is)
    (case aZ => k_is)
    (case lZ => k_is)
    (case cZ => k_is)
    (case kZ => k_is)
    (case pgB => k_is)
    (case hdB => k_is)
    (case poB => k_is)
    (case saB => k_is)
    (case mkB => k_is)
    (case kcB => k_is)
    (case nBslots => k_is)
    (case nBweight => k_is)
    (case nBsuspect => k_is)
    (case pgC => k_is)
    (case hdC => k_is)
    (case poC => k_is)
    (case saC => k_is)
    (case mkC => k_is)
    (case kcC => k_is)
    (case nChands => k_is)
    (case nCboxes => k_is)
    (case nCmade => k_is)
    (case xeH => first | k_is | k_exc)
    (case keeH => k_is)
    (case beH => k_is)
    (case tyeH => k_is)
    (case xeS => first | k_is | k_exc)
    (case keeS => k_is)
    (case beS => k_is)
    (case tyeS => k_is)
    (case xeF => first | k_is | k_exc)
    (case keeF => k_is)
    (case beF => k_is)
    (case tyeF => k_is)
    (case xeB => first | k_is | k_exc)
    (case keeB => k_is)
    (case beB => k_is)
    (case tyeB => k_is)
    (case xeL => first | k_is | k_exc)
    (case keeL => k_is)
    (case beL => k_is)
    (case tyeL => k_is)
    (case xeD => first | k_is | k_exc)
    (case keeD => k_is)
    (case beD => k_is)
    (case tyeD => k_is)
    (case xeP => first | k_is | k_exc)
    (case keeP => k_is)
    (case beP => k_is)
    (case tyeP => k_is)
    (case iseB => k_is)
    (case iseD => k_is)
    (case iseF => k_is)
    (case iseH => k_is)
    (case iseL => k_is)
    (case iseP => k_is)
    (case iseS => k_is)
    (case sueHeP => first | rfl | k_is)
    (case sueSeP => first | rfl | k_is)
    (case sueFeP => first | rfl | k_is)
    (case sueBeP => first | rfl | k_is)
    (case sueLeP => first | rfl | k_is)
    (case sueHeH => first | rfl | k_is)
    (case sueHeS => first | rfl | k_is)
    (case sueHeF => first | rfl | k_is)
    (case sueHeB => first | rfl | k_is)
    (case sueHeL => first | rfl | k_is)
    (case sueHeD => first | rfl | k_is)
    (case sueSeH => first | rfl | k_is)
    (case sueSeS => first | rfl | k_is)
    (case sueSeF => first | rfl | k_is)
    (case sueSeB => first | rfl | k_is)
    (case sueSeL => first | rfl | k_is)
    (case sueSeD => first | rfl | k_is)
    (case sueFeH => first | rfl | k_is)
    (case sueFeS => first | rfl | k_is)
    (case sueFeF => first | rfl | k_is)
    (case sueFeB => first | rfl | k_is)
    (case sueFeL => first | rfl | k_is)
    (case sueFeD => first | rfl | k_is)
    (case sueBeH => first | rfl | k_is)
    (case sueBeS => first | rfl | k_is)
    (case sueBeF => first | rfl | k_is)
    (case sueBeB => first | rfl | k_is)
    (case sueBeL => first | rfl | k_is)
    (case sueBeD => first | rfl | k_is)
    (case sueLeH => first | rfl | k_is)
    (case sueLeS => first | rfl | k_is)
    (case sueLeF => first | rfl | k_is)
    (case sueLeB => first | rfl | k_is)
    (case sueLeL => first | rfl | k_is)
    (case sueLeD => first | rfl | k_is)
    (case sueDeH => first | rfl | k_is)
    (case sueDeS => first | rfl | k_is)
    (case sueDeF => first | rfl | k_is)
    (case sueDeB => first | rfl | k_is)
    (case sueDeL => first | rfl | k_is)
    (case sueDeD => first | rfl | k_is)
    (case cnHANDS => k_is)
    (case cnMOST_SLOTS => k_is)
    (case cnMOST_ALIVE => k_is)
    (case zisinstance => k_is)
    (case zint => k_is)
    (case zbool => k_is)
    (case zlist => k_is)
    (case zlen => k_is)
    (case zrange => k_is)
    (case zmin => k_is)
    (case zsorted => k_is)
    (case zset => k_is)
    (case zall => k_is)
    (case zstr => k_is)
    (case ztuple => k_is)
    (case hgeH => k_is)
    (case hkeH => k_is)
    (case hdeH => k_is)
    (case haeH => k_is)
    (case hmeH => first | rfl | k_is)
    (case hgeS => k_is)
    (case hkeS => k_is)
    (case hdeS => k_is)
    (case haeS => k_is)
    (case hmeS => first | rfl | k_is)
    (case hgeF => k_is)
    (case hkeF => k_is)
    (case hdeF => k_is)
    (case haeF => k_is)
    (case hmeF => first | rfl | k_is)
    (case hgeB => k_is)
    (case hkeB => k_is)
    (case hdeB => k_is)
    (case haeB => k_is)
    (case hmeB => first | rfl | k_is)
    (case hgeL => k_is)
    (case hkeL => k_is)
    (case hdeL => k_is)
    (case haeL => k_is)
    (case hmeL => first | rfl | k_is)
    (case hn => first | rfl | k_is)
    (case ht => first | rfl | k_is)
    (case vcl => k_is)
    (case vPt => first | rfl | k_is)
    (case vNo => first | rfl | k_is)
    (case cnF => k_is)
    (case cnM => k_is)
    (case aWD => k_is)
    (case lWD => k_is)
    (case wW => exact ⟨_, _, _, _, _, _, _, _, _, _, _, _, _, _, rfl⟩)
    (case loW => rfl)
