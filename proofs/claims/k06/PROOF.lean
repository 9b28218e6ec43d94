import PyProof.Rows.All
import Wide.All
import OpenK.AllK
import Wide.FinOn
import HandS.ForMost
import HandS.ForExc
import HandS.AnyAll
import HandS.More
import HandS.RaiseMore
import PyProof.RulesMatchSeq
import PyProof.Rows.MatchSeqLen
import PyProof.Rows.TupIter
import HandS.Walk
import HandS.DictComp
import HandS.HotCalls
import HandS.SuiteRaise
import HandS.IsInst
import HandS.ListItems
import HandS.TryMany
import HandS.ExcIs
import HandS.Replace
import HandS.ReplaceLit
import HandS.ReplaceDef
import HandS.Flow
import HandS.ExcOwn
import KE.KDictSum
import HandS.EndTab
import KE.KNest
import HandS.CallSlots
import PySem.Challenge.RW_boxpile_k06_refused_and_unchanged
set_option Elab.async false
set_option linter.all false
set_option maxRecDepth 100000
set_option maxHeartbeats 4000000
/-! A list comprehension whose items may raise: what is raised leaves the comprehension. Own work. -/
namespace BP
open PySem PySem.Spec PyProof.Rows L2
theorem note_same {x : Value} {e1 e2 : Env} (h : e1.frame = e2.frame) : noteFrame x e1 = noteFrame x e2 := by
  unfold noteFrame PySem.frameOf
  rw [h]
/-- behind a comprehension's block: its list, or the error that is passed on in the frame fr -/
def PostF (M : Model) (A : Around) (E Q : Value → Shared → Prop) (l : Value) (C : Addr) (fr : Option Addr) : Result → Shared → Prop
  | .ok _, s => ∃ m, s.heap.Ns C m ∧ ∀ h', Heap.SameBut C s.heap h' → Q l { s with heap := h' }
  | .error x, s => ∃ m, s.heap.Ns C m ∧ ∀ h', Heap.SameBut C s.heap h' → ∀ ce : Env, ce.locals = C → ce.frame = fr →
      wpAny M A (PySem.passOn "comprehension.variables-let-go" x ce : Sem Value) (fun _ _ => False) E { s with heap := h' }
section
variable {M : Model} {A : Around} {E Q : Value → Shared → Prop} {s : Shared} {env : Env}
theorem comp_freeF {c : Expr} {sc : Scope} {ps : Pos} {mkAcc first : Sem Value} {g : Comprehension} {gs : List Comprehension} {cl : List (Str × Addr)}
    (hc : clausesOf c = g :: gs) (hfold : ∀ x, foldedSetIterable g.iter env x = pure x) (hclo : closureFor sc env = pure cl) (hk : sc.kind = .function) (hn : ∀ y ∈ sc.names, y.2 = .local → sc.names.lookup y.1 = some .local)
    (h : wpAny M A first (fun v t1 => wpAny M A (pyIter v) (fun w t2 => wpAny M A mkAcc (fun l t3 =>
      wpAny M A (newFunctionEnv sc env.globals cl [] env.qual none .none (some env))
        (fun ce t4 => codeAny M A (.compStart c 0 w l { ce with scope := relabel sc env }) (PostF M A E Q l ce.locals ce.frame) t4) E t3) E t2) E t1) E s) :
    wpAny M A (comprehension c sc env ps mkAcc false first none) Q E s := by
  have mono : ∀ {α : Type} {t : Sem α} {R R' : α → Shared → Prop} {u : Shared}, wpAny M A t R E u → (∀ a u, R a u → R' a u) → wpAny M A t R' E u := fun h k => wpAny_mono h k fun _ _ z => z
  unfold comprehension
  rw [hclo, hc]
  refine wpAny_bind (mono h fun v t1 h1 => ?_)
  refine wpAny_bind (wpAny_standAt (wpAny_bind (wpAny_of_eq (hfold v) (wpAny_bind (wpAny_holding (mono h1 fun w t2 h2 => ?_))))))
  refine wpAny_standIf (wpAny_bind (mono h2 fun l t3 h3 => ?_))
  refine wpAny_bind (wpAny_pure (wpAny_bind (mono h3 fun ce t4 h4 => ?_)))
  dsimp only
  have hv : ∀ x ∈ (sc.names.filter fun y => (y.2 == .local || y.2 == .cell) && y.1 != (".0" : Str)).reverse, x.2 = .local →
      Env.kindOf { ce with scope := relabel sc env } x.1 = some .local := fun x hx hl =>
    lookup_relabel_local (hn x (List.mem_filter.mp (List.mem_reverse.mp hx)).1 hl)
  refine wpAny_holding (wpAny_bind (wpAny_attempt (wpAny_holding (wpAny_run (codeAny_mono h4 fun r t5 hr => ?_)))))
  cases r with
  | ok f =>
    obtain ⟨m, hm, hr⟩ := hr
    refine wpAny_bind (wpAny_holding ?_)
    exact wpAny_comp_letGo (cenv := { ce with scope := relabel sc env }) hk _ t5 m hv hm fun h' m' _ sb => wpAny_pure (hr h' sb)
  | error x =>
    obtain ⟨m, hm, hr⟩ := hr
    refine wpAny_bind (wpAny_holding ?_)
    exact wpAny_comp_letGo (cenv := { ce with scope := relabel sc env }) hk _ t5 m hv hm fun h' m' _ sb => wpAny_mono (hr h' sb _ rfl rfl) (fun _ _ z => z.elim) fun _ _ z => z
end

/-! ### what a call within the block raises -/
theorem ns_kept {h h' : Heap} {C : Addr} {m : Str → Option Value} (hm : h.Ns C m) (k : ∀ o, h.get? C = some o → h'.get? C = some o) : h'.Ns C m := by
  obtain ⟨o, es, ep, h1, h2⟩ := hm
  exact ⟨o, es, ep, k o h1, h2⟩
theorem ns_slots {h h' : Heap} {C : Addr} {m : Str → Option Value} (hm : h.Ns C m) (k : h.UpToSlots h') : h'.Ns C m := by
  obtain ⟨o, es, ep, h1, h2, h3⟩ := hm
  obtain ⟨sl, h4⟩ := k C o h1 fun vs z => by rw [h2] at z; cases z
  exact ⟨_, es, ep, h4, h2, h3⟩
theorem ns_not {h : Heap} {C a : Addr} {m : Str → Option Value} (hm : h.Ns C m) {o : Obj} {vs : Array Value} (ha : h.get? a = some o) (hd : o.data = .fields vs) : a ≠ C := fun z => by
  obtain ⟨o', es, ep, h1, h2, _⟩ := hm
  rw [z] at ha
  have : o = o' := Option.some.inj (ha.symm.trans h1)
  rw [this, h2] at hd
  cases hd
theorem frames_hid {B h h' : Heap} {C : Addr} (k : ∀ b, b ≠ C → h'.get? b = h.get? b) : ∀ {l : List Env}, C ∉ frs l → h.FunFrames B l → h'.FunFrames (PySem.W.hideAll B [C]) l
  | [], _, _ => trivial
  | e :: l, hC, hf => by
    obtain ⟨h1, ⟨L, o, h2, h3, h4, h5⟩, h6⟩ := hf
    have hL : L ∈ frs (e :: l) := List.mem_filterMap.mpr ⟨e, List.mem_cons_self, h2⟩
    refine ⟨h1, ⟨L, o, h2, ?_, ?_, h5⟩, frames_hid k (fun z => hC ?_) h6⟩
    · cases q : (PySem.W.hideAll B [C]).get? L with
      | none => rfl
      | some u => have := PySem.W.of_hideAll _ q; rw [h3] at this; cases this
    · rw [k L (fun z => hC (z ▸ hL))]; exact h4
    · obtain ⟨x, hx, hy⟩ := List.mem_filterMap.mp z
      exact List.mem_filterMap.mpr ⟨x, List.mem_cons_of_mem _ hx, hy⟩
/-- a call within the block X' raised: what the call left, and where the block stood -/
def Air (X : Cx) (E : XK) (u : Value) (s' : Shared) : Prop := ∃ (pins : List (Addr × Obj)) (σ : L2.St) (H : Hp) (s : Shared), Inv X pins σ H s ∧ L2.CX X.prog X.w X.stack H s E u s'
theorem air_passes {X : Cx} {E : XK} {pn : List (Addr × Obj)} : Passes (L2.CX X.prog X.w) (X.tr pn (Air (X.tr pn fun _ _ => False) E)) E := fun pins σ H s u s' I c =>
  ⟨pins, σ, H, s, ⟨⟨I.ok.mod, I.ok.kind, I.ok.glob, I.ok.blt, I.ok.above, I.ok.inj, I.ok.has, I.ok.cab, I.ok.hd, I.ok.frames, I.ok.stk, I.ok.exf, I.ok.bs, I.ok.bsz, I.ok.noex, I.ok.exfs, I.ok.funs, I.ok.frf⟩, I.os, I.bare, I.base, I.loc, I.cell, I.free, I.freeC, I.pin, I.hok, I.len⟩, c⟩
section
variable {X : Cx}
/-- noted in the def's frame, the block's variables let go, passed on: it is in the def's air -/
theorem air_out {E : XK} {σ : L2.St} {H : Hp} {pins : List (Addr × Obj)} {s s' : Shared} {u : Value} {C : Addr} {m : Str → Option Value} {ce : Env} (hs : X.stack = X.env :: X.outer) (hf : X.env.frame = some X.env.locals) (tk : Takes X fun cls d _ H => E cls d H)
    (I : Inv X pins σ H s) (c : L2.CX X.prog X.w X.stack H s E u s') (hm : s.heap.Ns C m) (f : FpOk X pins H C) (hce : ce.frame = X.env.frame) :
    notedBy (model X.prog X.w) X.A ce (fun x t => PostF (model X.prog X.w) X.A X.xe (fun _ _ => False) .none C X.env.frame (.error x) t) u s' := by
  obtain ⟨f0, f1, f2, f3, f4, f5⟩ := f
  have nC : C ∉ frs X.stack := fun z => (List.mem_cons.mp (I.stkSub C z)).elim f1 f2
  have hm' : s'.heap.Ns C m := by
    obtain ⟨a, B, H', cls, d, rfl, fl, hok, ub, _⟩ := c
    exact ns_kept hm fun o e => fl.1 _ _ (ub.keep C o e f0 nC)
  have c2 : L2.CX X.prog X.w X.stack H s (fun cls d H' => E cls d H' ∧ H' C = none) u s' := by
    obtain ⟨a, B, H', cls, d, rfl, fl, hok, ub, na, os, ag, hE⟩ := c
    obtain ⟨o, _, _, ho, _⟩ := hm
    exact ⟨a, B, H', cls, d, rfl, fl, hok, ub, na, os, ag, hE, ub.free C o ho f0⟩
  obtain ⟨a, B, sI, pins', σ', H', cls, d, rfl, J, nb, up, sky, na, os, ag, hE, nHC⟩ := XE.of_call (W := fun cls d _ H' => E cls d H' ∧ H' C = none) I (fun _ _ _ h => h) c2
  have hfr : X.A.frames = some (X.env :: X.outer) := by rw [J.ok.frames, hs]
  have fin : ∀ h1 : Heap, HandSPX.HeldZ B X.stack a (Zc cls d) X.env.locals h1 → s'.heap.UpToSlots h1 → PostF (model X.prog X.w) X.A X.xe (fun _ _ => False) .none C X.env.frame (.error (.ref a)) { s' with heap := h1 } := by
    intro h1 hh up1
    have hm1 := ns_slots hm' up1
    refine ⟨m, hm1, fun h2 sb ce2 _ hfr2 => ?_⟩
    obtain ⟨st, hBa, hl, oe, vs, T, oT, ts, he, hz, hd, h3, hnT, hTe, hT, hdT, h4⟩ := hh
    have naC := ns_not hm1 he hd
    have nTC := ns_not hm1 hT hdT
    have hB : ∀ {b}, B.get? b = none → (PySem.W.hideAll B [C]).get? b = none := fun {b} e => by
      cases q : (PySem.W.hideAll B [C]).get? b with
      | none => rfl
      | some u => have := PySem.W.of_hideAll _ q; rw [e] at this; cases this
    have tr2 : HandSPX.TracedZ h2 (PySem.W.hideAll B [C]) a (Zc cls d) (rawInt X.env.locals) :=
      ⟨oe, vs, T, oT, ts, (sb.2 a naC).trans he, hz, hd, h3, hB hnT, hTe, (sb.2 T nTC).trans hT, hdT, h4⟩
    have st2 : (PySem.W.hideAll B [C]).StaysIn h2 := fun b o e => by
      have nb : b ≠ C := fun z => by rw [z, PySem.W.hideAll_none [C] List.mem_cons_self] at e; cases e
      exact (sb.2 b nb).trans (st b o (PySem.W.of_hideAll _ e))
    have hl2 : h2.FunFrames (PySem.W.hideAll B [C]) X.stack := frames_hid (fun b hb => sb.2 b hb) nC hl
    unfold PySem.passOn
    refine wpAny_bind (wpAny_field ((sb.2 a naC).trans he) hd h3 ?_)
    rw [if_neg (show ¬ ((Value.ref T == Value.none) = true) from by simp)]
    have fin2 : wpAny (model X.prog X.w) X.A (setFlight (.ref a) ce2.frame) (fun _ t => wpAny (model X.prog X.w) X.A (throw (.ref a) : Sem Value) (fun _ _ => False) X.xe t) X.xe { s' with heap := h2 } := by
      rw [hfr2, hf]
      refine HandSPX.setFlight_anyZ st2 hl2 tr2 fun h5 k1 k2 k3 k4 => wpAny_throw (tk _ _ ?_)
      have J2 : Inv X [] σ' H' sI := ⟨J.ok, J.os, J.bare, J.base, J.loc, J.cell, J.free, J.freeC, fun p hp => J.pin p (List.mem_append_left _ (by rw [List.append_nil] at hp; exact hp)), J.hok, J.len⟩
      have J3 : Inv X [] σ' H' { sI with heap := PySem.W.hideAll sI.heap [C], toks := sI.toks } :=
        J2.turned (it := C) (fun b o hb e => PySem.W.hideAll_get _ e (by simpa using hb)) nHC f1.symm.symm f3 f4 (fun p hp => f5 p (List.mem_append_left _ (by rw [List.append_nil] at hp; exact hp)))
      refine ⟨a, PySem.W.hideAll B [C], _, [], σ', H', cls, d, rfl, J3, fun b o e hb => ?_, fun b o e hn => ?_, .inr (.inr ⟨k1, hB hBa, k2, k3⟩), na, os, ag, hE⟩
      · have nbC : b ≠ C := fun z => by rw [z, PySem.W.hideAll_none [C] List.mem_cons_self] at e; cases e
        exact PySem.W.hideAll_get _ (nb b o (PySem.W.of_hideAll _ e) hb) (by simpa using nbC)
      · have nbC : b ≠ C := fun z => by rw [z, PySem.W.hideAll_none [C] List.mem_cons_self] at e; cases e
        obtain ⟨sl1, e1⟩ := up b o (PySem.W.of_hideAll _ e) hn
        obtain ⟨sl2, e2⟩ := up1 b _ e1 hn
        have e3 := (sb.2 b nbC).trans e2
        obtain ⟨sl4, e4⟩ := k4 b _ e3 hn
        exact ⟨sl4, e4⟩
    first
      | exact wpAny_bind (wpAny_pure (wpAny_bind fin2))
      | exact wpAny_bind fin2
  show wpAny (model X.prog X.w) X.A (noteFrame (.ref a) ce) _ _ s'
  rw [note_same hce]
  rw [hs] at sky fin
  rcases sky with ⟨hB, hn, hl, oe, vs, he, hz, hd, h1⟩ | fl | hh
  · exact HandSPX.look_newZ Zc.steady hfr hl hf he hB hn hd h1 hz fin
  · exact HandSPX.looks_onZ Zc.steady hfr hf fl fin
  · exact HandSPX.againZ hf hh.2.2.2 (fin s'.heap hh (Heap.UpToSlots.refl _))

/-- a comprehension as a value; what an item's call raises is wished for by E, as the def wishes it -/
theorem pe_lcX {E : XK} {elt tg iter : Expr} {ifs : List Expr} {sc : Scope} {own : List (Str × Nat)} {pos : Pos} {wi : TI} {g : TG} {tt : TT} {te : TE}
    (hst : X.stack = X.env :: X.outer) (hfr : X.env.frame = some X.env.locals) (tk : Takes X fun cls d _ H => E cls d H)
    (hc : X.calm = true) (hN : X.N.Nodup) (hi : PI X tg iter wi) (ok : BlkOk X.N X.env.scope sc own)
    (hg : ∀ (s : Shared) (H : Hp) (C : Addr) (cl : List (Str × Addr)) (fp : List Addr), PG (X.blk s H sc (compEnvC sc cl C X.env) fp) tg g)
    (ht : ∀ (s : Shared) (H : Hp) (C : Addr) (cl : List (Str × Addr)) (fp : List Addr), PTs (X.blk s H sc (compEnvC sc cl C X.env) fp) ifs tt)
    (he : ∀ (s : Shared) (H : Hp) (C : Addr) (cl : List (Str × Addr)) (fp : List Addr) (pn : List (Addr × Obj)) (xe : Value → Shared → Prop),
      Passes (L2.CX X.prog X.w) ((X.blk s H sc (compEnvC sc cl C X.env) fp).tr pn xe) E → PE ((X.blk s H sc (compEnvC sc cl C X.env) fp).tr pn xe) elt te)
    (hs : ∀ x, foldedSetIterable iter X.env x = pure x := by intro _; rfl) : PE X (.ListComp elt [⟨tg, iter, ifs, 0⟩] sc pos) (tLc wi g tt te (own.map (·.2))) := by
  refine ⟨fun pins s σ H Q I hw => ?_⟩
  rw [eval_ListComp]
  have cells : ∀ y ∈ sc.names, y.2 = .free → ∃ c, X.env.cells.lookup y.1 = some c := fun y hy e =>
    (ok.free y hy e).elim (fun k => I.ok.has _ (.inl k)) (fun k => I.ok.has _ (.inr k))
  refine comp_freeF rfl hs (closure_ok cells) ok.kind (fun y hy e => (ok.uniq y hy).trans (congrArg some e)) (thn (hi.run pins s σ H _ I hw) fun xv s1 hx => thn hx fun itv s2 h2 => ?_)
  obtain ⟨it, fp, tn, J, H2, rfl, I2, T, st2, f2, q⟩ := h2
  refine wpAny_newObj_type (newEnv_comp ?_) (by show 0 ≤ sizeLine; decide)
  obtain ⟨D, hD⟩ : ∃ D, s2.heap.objs.size = D := ⟨_, rfl⟩
  rw [hD]
  obtain ⟨W, ⟨m0, w0⟩, turn⟩ := q D (I2.hok.fresh (Nat.le_of_eq hD))
  -- the list is laid
  obtain ⟨s3, hs3⟩ : ∃ s3 : Shared, ({ s2 with heap := s2.heap.push { cls := .type "list", data := .seq ([] : List Value).toArray } } : Shared) = s3 := ⟨_, rfl⟩
  have h3 : s3.heap = s2.heap.push { cls := .type "list", data := .seq ([] : List Value).toArray } := by rw [← hs3]
  have I3 : Inv X pins σ (upd H2 D (.lst [])) s3 := by
    rw [← hs3]
    refine I2.laid (t' := s2.toks) (fun b o e => Heap.get?_push_of_some _ e) (Nat.le_of_eq hD) ⟨Nat.zero_le _, [], 0, .nil, ?_⟩
    rw [← hD]
    exact Heap.get?_push_size _ rfl
  have below : ∀ b ∈ fp, b < s2.heap.objs.size := fun b hb => (T.obj _ _ st2 b hb).elim fun o e => Heap.lt_size e.1
  have f3 : ∀ b ∈ fp, FpOk X pins (upd H2 D (.lst [])) b ∧ b < s3.heap.objs.size := fun b hb => by
    have lt := below b hb
    refine ⟨⟨?_, (f2 b hb).2⟩, ?_⟩
    · rw [upd_ne (by rw [← hD]; exact Nat.ne_of_lt lt)]
      exact (f2 b hb).1
    · rw [h3, Heap.size_push]
      exact Nat.lt_succ_of_lt lt
  have st3 : tn 0 s3.heap := T.keep _ _ _ st2 fun b _ o e => (by rw [h3]; exact Heap.get?_push_of_some _ e)
  have I4 := block_start I3 ok hN f3
  obtain ⟨cl, hcl⟩ : ∃ cl, cellsFrom (s3.heap.objs.size + 1) sc.names (cloFrom X.env.cells sc.names []) = cl := ⟨_, rfl⟩
  have go : ∀ ce : Env, compEnvC sc cl s3.heap.objs.size X.env = ce → codeAny (model X.prog X.w) X.A (.compStart (.ListComp elt [⟨tg, iter, ifs, 0⟩] sc pos) 0 (.ref it) (.ref D) ce)
      (PostF (model X.prog X.w) X.A X.xe (EP X pins σ Q) (.ref D) s3.heap.objs.size X.env.frame) { s3 with heap := pushCells (s3.heap.push { cls := .type "dict", data := .dict #[] }) sc.names } := by
    intro ce hce
    rw [hcl, hce] at I4
    have pg := hg s3 (upd H2 D (.lst [])) s3.heap.objs.size cl fp
    have pt := ht s3 (upd H2 D (.lst [])) s3.heap.objs.size cl fp
    have pe := he s3 (upd H2 D (.lst [])) s3.heap.objs.size cl fp
    rw [hce] at pg pt pe
    have cL : ce.locals = s3.heap.objs.size := by rw [← hce]; rfl
    have cF : ce.frame = X.env.frame := by rw [← hce]; rfl
    have nfp : ∀ b ∈ fp, (upd H2 D (.lst [])) b = none := fun b hb => (f3 b hb).1.1
    obtain ⟨H3, hH3⟩ : ∃ H3, upd H2 D (.lst []) = H3 := ⟨_, rfl⟩
    rw [hH3] at I3 I4 pg pt pe w0 nfp f3
    obtain ⟨s4, hs4⟩ : ∃ s4 : Shared, ({ s3 with heap := pushCells (s3.heap.push { cls := .type "dict", data := .dict #[] }) sc.names } : Shared) = s4 := ⟨_, rfl⟩
    rw [hs4] at I4 ⊢
    have st4 : tn 0 s4.heap := T.keep _ _ _ st3 fun b _ o e => (by rw [← hs4]; exact pushCells_keeps _ _ _ _ (Heap.get?_push_of_some _ e))
    -- what a state of the block is, seen from the def
    have outer : ∀ {p : List (Addr × Obj)} {σ' : L2.St} {H' : Hp} {s' : Shared}, Inv (X.blk s3 H3 sc ce fp) p σ' H' s' → Inv X pins σ H' s' ∧ (∃ m, s'.heap.Ns s3.heap.objs.size m) ∧ FpOk X pins H' s3.heap.objs.size := by
      intro p σ' H' s' I6
      have nC : H' s3.heap.objs.size = none := by rw [← cL]; exact I6.free
      obtain ⟨m, hn, _⟩ := I6.loc
      refine ⟨I3.call' (ch := fp) I6.os I6.base I6.hok I6.bare fun b hb => ?_, ⟨m, by rw [← cL]; exact hn⟩, I3.fpOk (Nat.le_refl _) nC⟩
      obtain ⟨z1, z2, z3, z4, z5, z6⟩ := (f3 b hb).1
      exact ⟨z4, z2, z5, z6⟩
    have stat : ∀ {σ' : L2.St} {H' : Hp} {s' : Shared}, Inv (X.blk s3 H3 sc ce fp) [] σ' H' s' → (∀ b ∈ fp, H' b = none) → ∀ b ∈ fp, FpOk (X.blk s3 H3 sc ce fp) [] H' b := fun I' hn b hb =>
      ⟨hn b hb, (I'.ok.exf b hb).1, I'.ok.exfs b hb, .inl hb, fun x c e => (I'.ok.exf b hb).2 x c e, fun p hp => nomatch (show p ∈ ([] : List (Addr × Obj)) from hp)⟩
    have loop : codeAny (model X.prog X.w) X.A (.compLoop (.ListComp elt [⟨tg, iter, ifs, 0⟩] sc pos) 0 (.ref it) (.ref D) ce) (PostF (model X.prog X.w) X.A X.xe (EP X pins σ Q) (.ref D) s3.heap.objs.size X.env.frame) s4 := by
      refine compLoop_any (fun n t => ∃ i H', Inv (X.blk s3 H3 sc ce fp) [] (wipe σ (own.map (·.2))) H' t ∧ tn i t.heap ∧ (∀ b ∈ fp, H' b = none) ∧ W i n H') ?_ m0 ⟨0, H3, I4, st4, nfp, w0⟩
      rintro n s5 ⟨i, H5, I5, st5, n5, w5⟩
      rcases turn i n H5 w5 with ⟨stop, fine⟩ | ⟨goes, Nx, hNx, step⟩
      · refine thnF (T.done (X.blk s3 H3 sc ce fp) rfl rfl rfl hc i [] s5 _ H5 (fun _ _ => False) I5 (stat I5 n5) st5 stop) ?_
        rintro r s6 ⟨rfl, I6⟩
        obtain ⟨I7, ⟨m, hn⟩, f0, f1, f2', f3', f4, f5⟩ := outer I6
        exact ⟨m, hn, fun h' sb => ⟨.ref D, H5, I7.turned (t' := s6.toks) (fun b o hb e => (sb.2 b hb).trans e) f0 f1 f3' f4 f5, rfl, fine⟩⟩
      · refine thnF (T.item (X.blk s3 H3 sc ce fp) rfl rfl rfl hc i [] s5 _ H5 (fun _ _ => False) I5 (stat I5 n5) st5 goes) ?_
        rintro r s6 ⟨u, rfl, h6⟩
        refine thnF h6 fun _ s7 ⟨x, H7, I7, r7, y7, st7, n7⟩ => ?_
        refine thnF (pg.run _ s7 _ H7 x u _ (I7.pinned (stat I7 n7) (T.obj _ _ st7)) r7 (step x H7 y7)) fun _ s8 ⟨σ8, H8, I8, hw8, q8⟩ => ?_
        refine thnF (pt.run _ s8 σ8 H8 _ I8 q8) fun b s9 ⟨H9, I9, q9⟩ => ?_
        have fin : ∀ {t : Shared} {H' : Hp}, Inv (X.blk s3 H3 sc ce fp) ([] ++ pinsAt fp s7.heap) σ8 H' t → Nx H' → ∃ m, m < n ∧ ∃ i H', Inv (X.blk s3 H3 sc ce fp) [] (wipe σ (own.map (·.2))) H' t ∧ tn i t.heap ∧ (∀ b ∈ fp, H' b = none) ∧ W i m H' := by
          intro t H' I' nx
          obtain ⟨m', lt, w'⟩ := hNx H' nx
          have pinned : ∀ b ∈ fp, ∀ o, s7.heap.get? b = some o → t.heap.get? b = some o ∧ H' b = none := fun b hb o e => by
            have z := I'.pin (b, o) (List.mem_append_right _ (List.mem_append_right _ (mem_pinsAt hb e)))
            exact ⟨z.1, z.2.1⟩
          refine ⟨m', lt, i + 1, H', (I'.unpinned (pins := [])).weak (by rw [← hw8, wipe_length]) (fun j v e => ?_), T.keep _ _ _ st7 fun b hb o e => (pinned b hb o e).1, fun b hb => ?_, w'⟩
          · rw [← hw8] at e
            exact (wipe_some e).1
          · obtain ⟨o, e, _⟩ := T.obj _ _ st7 b hb
            exact (pinned b hb o e).2
        cases b with
        | false => exact fin I9 q9
        | true =>
          show wpAny (model X.prog X.w) X.A (eval elt ce) _ _ s9
          have I10 := I9.toTry (Air ((X.blk s3 H3 sc ce fp).tr ((X.blk s3 H3 sc ce fp).pn ++ ([] ++ pinsAt fp s7.heap)) fun _ _ => False) E)
          refine wpAny_mono ((pe _ _ air_passes).run [] s9 σ8 H9 _ I10 q9) (fun z s10 hz => ?_) (fun e s10 hz => ?_)
          · obtain ⟨yv, H10, I11, r10, acc, hD10, hz10, nx⟩ := hz
            exact app_ok (X := X.blk s3 H3 sc ce fp) (I11.ofTry I9.ok) hD10 hz10 r10 fun s11 I12 => fin I12 nx
          · obtain ⟨p, σ', H', t, I6, c⟩ := hz
            have I6' : Inv (X.blk s3 H3 sc ce fp) [] σ' H' t := ⟨I9.ok, I6.os, I6.bare, I6.base, I6.loc, I6.cell, I6.free, I6.freeC, (fun q hq => nomatch (show q ∈ ([] : List (Addr × Obj)) from hq)), I6.hok, I6.len⟩
            obtain ⟨I7', ⟨m, hn⟩, f⟩ := outer I6'
            exact air_out hst hfr tk I7' c hn f cF
    exact codeAny_compStart_list loop (T.self X.A 0 _ _ _ st4 loop)
  subst hs3
  rw [hcl.symm] at go
  exact go _ rfl
end
end BP

/-! all(x in G for x in e): e a text, G a text of the module. Own work, over the library's walk of a generator. -/
namespace BP
open PySem PySem.Spec PyProof.Rows L2 GxR
/-- a test of the sign c in a generator's own frame, where the module's names are seen too -/
def EltG (X : Cx) (sc : Scope) (x : Str) (elt : Expr) (pb : Nat → Bool) : Prop :=
  ∀ (ce : Env) (B : Around) (F : Value → Shared → Prop) (c : Nat) (t : Tok) (u : Shared) (m : Str → Option Value), ce.scope = sc → ce.globals = mainGlobals → u.heap.Ns mainGlobals X.mg → u.heap.Ns ce.locals m → m x = some (.str ⟨#[c]⟩ t) →
    wpAny (model X.prog X.w) B (eval elt ce) (fun y u' => y = .bool (pb c) ∧ Keeps u u') F u
theorem elt_in {X : Cx} {sc : Scope} {x y : Str} {z : Str} {tz : Tok} {p1 p2 p3 : Pos} (hk : sc.kind = .function) (hl : sc.names.lookup x = some .local) (hy : sc.names.lookup y = some .globalImplicit) (hm : X.mg y = some (.str z tz))
    (hx : (x == ("__debug__" : Str)) = false := by decide) (hyd : (y == ("__debug__" : Str)) = false := by decide) :
    EltG X sc x (.Compare (.Name x p1) [.In] [.Name y p2] p3) fun c => decide (c ∈ z.cps.toList) := by
  intro ce B F c t u m hs hg hG hn hv
  refine wpAny_Compare1 ?_
  refine wpAny_Name (wpAny_loadName_local (by rw [hs]; exact hk) (by unfold Env.kindOf; rw [hs]; exact hl) hn hv ?_) hx
  refine Calls.Name_function_global (by rw [hs]; exact hk) (by unfold Env.kindOf; rw [hs]; exact hy) (Calls.loadGlobal_global (by rw [hg]; exact hG) hm ?_) hyd
  refine PyProof.Rows.in_str ?_
  exact ⟨congrArg Value.bool (PySem.StrLaws.found_one z c), keeps_refl _⟩
section
variable {X : Cx} {pins : List (Addr × Obj)} {σ : L2.St} {H : Hp} {s : Shared}
theorem gen_over {c P : Addr} {elt iter : Expr} {x : Str} {px gpos : Pos} {sc : Scope} {pb : Nat → Bool} {te : TE} {k : Nat} {Z : Value → Shared → Prop} {R : Str → Hp → Prop}
    (hr : Room k X.A) (TB : GxR.TabB X.base X.mg c P) (hcd : X.env.code = .ref c) (S : GenS X.env sc x) (hi : PE X iter te) (hel : EltG X sc x elt pb) (hs : ∀ v, genFold iter X.env v = pure v) (I : Inv X pins σ H s)
    (hw : te σ H fun v H1 => ∃ a : Str, v = .str a ∧ GxR.TabG H1 P ∧ R a H1) (hZ : ∀ a H1 g u, R a H1 → Ready X pins σ H1 P a pb g u → Z (.ref g) u) :
    wpAny (model X.prog X.w) X.A (eval (.GeneratorExp elt [⟨.Name x px, iter, [], 0⟩] sc gpos) X.env) Z X.xe s := by
  refine wpAny_GeneratorExp_walksQ hr.hd S.co (closure_ok S.free) S.cell S.dot S.loc S.kind (by have := hr.dp; omega) ?_ hs
  refine thn (hi.run pins s σ H _ I hw) fun xv t1 ⟨v, H1, I1, r1, a, ev, ⟨ps, hP, tri⟩, q1⟩ => ?_
  subst ev
  obtain ⟨tk0, rfl⟩ := _root_.id r1
  refine wpAny_pyIter_str fun o St W hst => ?_
  have atP : t1.heap.get? P = some { cls := .none, data := .fields ps } := I1.hok P _ hP
  have ltP : P < t1.heap.objs.size := Heap.lt_size atP
  have atP2 : (t1.heap.push o).get? P = some { cls := .none, data := .fields ps } := Heap.get?_push_of_some _ atP
  have hd : PySem.W.CodeHd (t1.heap.push o) c P := TB.code.keeps fun b u e => Heap.get?_push_of_some _ (I1.bk b u e)
  have nolim : (t1.heap.push o).NoLimit := I1.nolimit.push o
  have GM : t1.heap.Ns mainGlobals X.mg := I1.mod.glob.keeps I1.bk
  have on : ∀ (code : Value) (g3 : Heap) (tk : Nat) (ps' : Array Value), Heap.ExtBut P (t1.heap.push o) g3 → (t1.heap.push o).objs.size ≤ g3.objs.size → g3.get? P = some { cls := .none, data := .fields ps' } → (∃ more, ps' = ps ++ more) → TriplesOk ps'.toList →
      wpAny (model X.prog X.w) X.A (builtinsFor X.env.globals X.env.builtins) (fun bi u =>
        ∃ J fp wr n0 Pf S0 pz F, Value.ref t1.heap.objs.size = .ref J ∧ (∀ B : Around, B.handled = none → Walks X.prog X.w B J fp wr n0 Pf S0) ∧ S0 0 u.heap ∧ (∀ b ∈ fp, b < u.heap.objs.size) ∧ u.heap.NoLimit ∧ cStatics ∉ wr ∧
          (∀ hf : Heap, (∀ b o, u.heap.get? b = some o → hf.get? b = some o) →
            QuietGen X.prog X.w (genEnv sc (cloFrom X.env.cells sc.names []) u.heap.objs.size code bi X.env) x [] elt (List.range u.heap.objs.size) wr Pf pz F hf) ∧
          (∀ a g5 tk gs, gs.bare = true → u.heap.objs.size < a → g5.objs.size = a + 1 → (∀ b o, u.heap.get? b = some o → g5.get? b = some o) →
            WalksS X.prog X.w X.A.in4 a (a :: u.heap.objs.size :: List.range u.heap.objs.size) (u.heap.objs.size :: wr) (GenOnlyQ u.gens.size) (passing pz n0 0).length
              (fun j y => ∃ i, (passing pz n0 0)[j]? = some i ∧ F i y) (GenAt X.prog X.w X.A.in4 a u.gens.size u.heap.objs.size (List.range u.heap.objs.size) wr pz n0 F) →
            GenAt X.prog X.w X.A.in4 a u.gens.size u.heap.objs.size (List.range u.heap.objs.size) wr pz n0 F 0 { u with gens := u.gens.push gs, toks := tk, heap := g5 } →
            Z (.ref a) { u with gens := u.gens.push gs, toks := tk, heap := g5 })) X.xe { t1 with heap := g3, toks := tk } := by
    intro code g3 tk ps' hx hsz atP3 hmore tri3
    obtain ⟨bm, ob, e1, e2, e3, e4, e5, e6, e7, e8⟩ := TB.bm
    have nST : cStatics ≠ P := fun e => by
      obtain ⟨_, ⟨o', es, ep, ho, hd, _⟩, _⟩ := I1.nolimit
      rw [e, atP] at ho
      cases ho
      cases hd
    have ltS : cStatics < t1.heap.objs.size := let ⟨_, hns, _⟩ := I1.nolimit; hns.lt
    have size2 : (t1.heap.push o).objs.size = t1.heap.objs.size + 1 := Heap.size_push ..
    have kept : ∀ b u, b ≠ P → t1.heap.get? b = some u → g3.get? b = some u := fun b u hb e => hx b u hb (Heap.get?_push_of_some _ e)
    refine wpAny_builtinsFor (m := X.mg) (by rw [I1.ok.glob]; exact (GM.push o).extBut hx TB.gP) e1 e2 (kept _ _ e4 (I1.bk _ _ e5)) e6 e7 e8 ?_
    refine ⟨t1.heap.objs.size, [t1.heap.objs.size], [t1.heap.objs.size], a.cps.size, SignAt a, St, (fun _ => true), (fun i y => ∃ d, a.cps[i]? = some d ∧ y = .bool (pb d)), rfl, W, ?_, ?_, nolim.extBut hx nST, ?_, ?_, ?_⟩
    · refine (W X.A hr.hd).frame _ _ _ hst fun b hb u e => hx b u (fun z => ?_) e
      have : b = t1.heap.objs.size := List.mem_singleton.mp hb
      rw [z] at this
      exact Nat.ne_of_lt ltP this
    · intro b hb
      rw [List.mem_singleton.mp hb]
      show t1.heap.objs.size < g3.objs.size
      omega
    · exact fun z => Nat.ne_of_lt ltS (List.mem_singleton.mp z)
    · intro hf hhf
      refine ⟨fun B F i v u m hA hPv hn hm hk => ?_, fun B F i v u m hA hPv hp hn hm hk => ?_⟩
      · simp only [List.forIn_nil]
        exact wpAny_pure ⟨rfl, keeps_refl _⟩
      · obtain ⟨d, t, hdd, rfl⟩ := hPv
        have GM2 : u.heap.Ns mainGlobals X.mg := by
          obtain ⟨og, es, ep, h1, h2⟩ := GM
          have lt1 := Heap.lt_size h1
          have h3 := kept _ _ TB.gP h1
          refine ⟨og, es, ep, hk mainGlobals (List.mem_range.mpr (Heap.lt_size h3)) (fun z => ?_) og (hhf _ _ h3), h2⟩
          exact Nat.ne_of_lt lt1 (List.mem_singleton.mp z)
        exact wpAny_mono (hel _ B F d t u m rfl I1.ok.glob GM2 hn hm) (fun y s3 r => ⟨⟨d, hdd, r.1⟩, r.2⟩) fun _ _ e => e
    · intro g g5 tk5 gs hgb hag hsz5 hk5 W5 hat
      simp only [GxR.passing_true, List.length_range] at W5
      refine hZ a H1 g _ q1 ⟨_, _, _, _, _, W5.in4_1, hat, ?_, fun u' hm => ?_⟩
      · intro j y uj Qj Ej hy hQj
        obtain ⟨i, hij, d, hdd, rfl⟩ := hy
        obtain ⟨hj, ej⟩ := List.getElem?_eq_some_iff.mp hij
        rw [List.getElem_range] at ej
        subst ej
        have h9 : a.cps.toList[j]? = some d := by rw [Array.getElem?_toList]; exact hdd
        have hQ2 : Qj (trF pb a.cps.toList j) uj := hQj
        rw [trF_some h9] at hQ2
        exact wpAny_truthy_bool hQ2
      · obtain ⟨more, em⟩ := hmore
        have nwr : ∀ b u, t1.heap.get? b = some u → b ∉ g3.objs.size :: [t1.heap.objs.size] := fun b u e hb => by
          have hl := Heap.lt_size e
          rcases List.mem_cons.mp hb with z | z
          · rw [z] at hl
            have h10 : (g3.objs.size : Nat) < t1.heap.objs.size := hl
            omega
          · rw [List.mem_singleton.mp z] at hl
            exact Nat.lt_irrefl _ hl
        have J := inv_tab (more := more) (h' := u'.heap) (g' := u'.gens) (d' := u'.drawn) (t' := u'.toks) I1 hP (fun b u hb e => hm.heap b u (nwr b u e) (hk5 b u (kept b u hb e)))
          (by rw [← em]; exact hm.heap P _ (nwr P _ atP) (hk5 P _ atP3)) (AllBare.movedS (I1.bare.push hgb) hm)
        rw [sh_eta t1 u' hm.os] at J
        exact ⟨upd H1 P (.tbl (ps ++ more)), ⟨⟨ps ++ more, upd_same, by rw [← em]; exact tri3⟩, fun b hb => upd_ne hb⟩, J⟩
  refine ⟨nolim, ?_⟩
  cases hf : codeAmong gpos ps.toList with
  | some cv =>
    refine wpAny_genexprCode_hit hcd (hd.code atP2 tri) hf ?_
    exact on cv (t1.heap.push o) t1.toks ps (Heap.ExtBut.refl _ _) (Nat.le_refl _) atP2 ⟨#[], by simp⟩ tri
  | none =>
    refine wpAny_genexprCodeX hcd (hd.code atP2 tri) (hd.tab atP2) hf fun c' h' tk hx hge hlt hco' _ htab' _ => ?_
    obtain ⟨_, _, _, _, _, _, _, _, _, _, _, _, _, _, _, _, _, _, _, htr, _⟩ := hco'
    exact on _ h' tk _ hx (Nat.le_trans hge (Nat.le_of_lt hlt)) htab'.2 ⟨_, rfl⟩ htr
/-- all(.. for x in e) -/
theorem pe_allG {c P : Addr} {elt iter : Expr} {x : Str} {px p pos gpos : Pos} {sc : Scope} {pb : Nat → Bool} {te : TE} {k : Nat}
    (hr : Room k X.A) (hg : Gl X "all") (hm : X.mg "all" = none) (hb : bootBuiltins "all" = some (.builtin "all")) (TB : GxR.TabB X.base X.mg c P) (hcd : X.env.code = .ref c) (S : GenS X.env sc x) (hi : PE X iter te) (hel : EltG X sc x elt pb)
    (hs : ∀ v, genFold iter X.env v = pure v)
    (he : starEach [.GeneratorExp elt [⟨.Name x px, iter, [], 0⟩] sc gpos] X.env = (false, eval (.GeneratorExp elt [⟨.Name x px, iter, [], 0⟩] sc gpos) X.env) :: starEach [] X.env := by rfl) :
    PE X (.Call (.Name "all" p) [.GeneratorExp elt [⟨.Name x px, iter, [], 0⟩] sc gpos] [] pos) (tAllS P pb te) := by
  refine ⟨fun pins s σ H Q I h => ?_⟩
  refine wpAny_Call_Name_kw (ld_blt I hg hm hb ?_)
  refine PyProof.Rows.callWith_builtin1 ?_ he (by rfl)
  rw [he]
  show wpAny _ _ (spliced ((false, eval (.GeneratorExp elt [⟨.Name x px, iter, [], 0⟩] sc gpos) X.env) :: backTo pos (starEach [] X.env))) _ _ s
  refine Calls.spliced_cons (gen_over (R := fun a H1 => ∀ H2, Tabbed P H1 H2 → Q (.bl (a.cps.toList.all pb)) H2) hr TB hcd S hi hel hs I h fun a H1 g u hR hG => ?_)
  obtain ⟨fp, wr, G, F, St, W, hst, htr, hI⟩ := hG
  refine Calls.spliced_nil ?_
  refine call_all_walkS (W.self 0 _ _ _ hst ⟨g, fp, wr, G, _, F, St, _, rfl, W, hst, htr, fun u' hmv => ?_⟩)
  obtain ⟨H2, hT, J⟩ := hI u' hmv
  refine ⟨.bl _, H2, J, rfl, ?_⟩
  rw [all_signs a pb]
  exact hR H2 hT
end
end BP

/-! D.get(k) of a dict of the module with texts as keys. Own work. -/
namespace BP
open PySem PySem.Spec PyProof.Rows L2
def tKGet (K : PySem.W.Frag) (d : Addr) (td ty : TE) : TE := fun σ H Q => td σ H fun x H1 => x = .ref d ∧ ty σ H1 fun y H2 => ∃ (z : Str) (r : Option Value) (v : V), y = .str z ∧ PySem.W.nsIn K d z = some r ∧ RelV v (r.getD .none) ∧ Q v H2
theorem pe_kget {X : Cx} {d : Addr} {es : Array DictEntry} {n : Nat} {o e : Expr} {apos cpos : Pos} {td ty : TE} (D : KDict X.K X.w d es n) (ho : PE X o td) (he : PE X e ty) (m : M1 X o "get" apos e cpos) :
    PE X (.Call (.Attribute o "get" apos) [e] [] cpos) (tKGet X.K d td ty) := by
  refine ⟨fun pins s σ H Q I h => ?_⟩
  refine wpAny_Call_method m.base m.few m.line PySem.F.plainAttrs_dict PySem.F.slot_dict_get PySem.F.type_dict_get (thn (ho.run pins s σ H _ I h) fun u t1 ⟨x, H1, I1, rx, ex, q1⟩ => ?_)
  subst ex
  obtain rfl : u = Value.ref d := rx
  refine ⟨kd_type D I1, fun b eb => ?_, ?_⟩
  · cases eb
    exact ⟨_, I1.kIn _ _ D.at_, rfl⟩
  rw [m.trees]
  refine Calls.callWith_builtin rfl (Calls.evalArgs_plain (Calls.spliced_cons (thn (he.run pins t1 σ H1 _ I1 q1) fun iv t2 ⟨y, H2, I2, ry, z, r, v, ey, hr, rv, q2⟩ => Calls.spliced_nil ?_)))
  subst ey
  obtain ⟨t, rfl⟩ := ry
  refine call_meetsIn PySem.F.slot_dict_get (kd_type D I2) PySem.F.entry_dict_get (PySem.F.args_dict_get_2 _ _) (meets_dict_get (PySem.strKind X.prog X.w) d (PySem.strKind_is X.prog X.w z t) D.low) ⟨_, PySem.W.mapOf_K (prog := X.prog) I2.kIn D.at_ D.lit, ?_⟩
  rw [PySem.W.find_K D.at_ hr]
  exact ⟨v, H2, I2.tok _, rv, q2⟩
end BP

/-! Lines, their parts, and what is read of them. Own work. -/
namespace BP
open PySem L2
/-- cut at each blank -/
def cutL : List Nat → List (List Nat)
  | [] => [[]]
  | c :: cs => if c = 32 then [] :: cutL cs else match cutL cs with
    | [] => [[c]]
    | p :: ps => (c :: p) :: ps
/-- glued by blanks -/
def glue : List (List Nat) → List Nat
  | [] => []
  | [p] => p
  | p :: q :: ps => p ++ 32 :: glue (q :: ps)
theorem cutL_cons (c : Nat) (cs : List Nat) : cutL (c :: cs) = if c = 32 then [] :: cutL cs else match cutL cs with
    | [] => [[c]]
    | p :: ps => (c :: p) :: ps := rfl
theorem cutL_ne : ∀ l, cutL l ≠ []
  | [] => by intro h; cases h
  | c :: cs => by
    unfold cutL
    by_cases h : c = 32
    · rw [if_pos h]; intro h; cases h
    · rw [if_neg h]
      cases cutL cs <;> intro h <;> cases h
theorem cutL_free : ∀ p : List Nat, 32 ∉ p → cutL p = [p]
  | [], _ => rfl
  | c :: cs, h => by
    have h1 : c ≠ 32 := fun z => h (by rw [z]; exact List.mem_cons_self)
    unfold cutL
    rw [if_neg h1, cutL_free cs fun z => h (List.mem_cons_of_mem _ z)]
theorem cutL_app : ∀ (p l : List Nat), 32 ∉ p → cutL (p ++ 32 :: l) = p :: cutL l
  | [], l, _ => by
    show cutL (32 :: l) = _
    unfold cutL
    rw [if_pos rfl]
    cases l <;> rfl
  | c :: cs, l, h => by
    have h1 : c ≠ 32 := fun z => h (by rw [z]; exact List.mem_cons_self)
    show cutL (c :: (cs ++ 32 :: l)) = _
    rw [cutL_cons, if_neg h1, cutL_app cs l fun z => h (List.mem_cons_of_mem _ z)]
theorem cutL_glue : ∀ ps : List (List Nat), ps ≠ [] → (∀ p ∈ ps, 32 ∉ p) → cutL (glue ps) = ps
  | [], h, _ => absurd rfl h
  | [p], _, h => cutL_free p (h p List.mem_cons_self)
  | p :: q :: ps, _, h => by
    show cutL (p ++ 32 :: glue (q :: ps)) = _
    rw [cutL_app p _ (h p List.mem_cons_self), cutL_glue (q :: ps) (by simp) fun r hr => h r (List.mem_cons_of_mem _ hr)]
theorem sp1 : (" " : Str) = ⟨#[32]⟩ := by decide +kernel
theorem join_glue : ∀ ys : List Str, (Str.join ⟨#[32]⟩ ys).cps.toList = glue (ys.map fun y => y.cps.toList)
  | [] => rfl
  | [y] => rfl
  | y :: z :: ys => by
    have ih := join_glue (z :: ys)
    show (y ++ ⟨#[32]⟩ ++ Str.join ⟨#[32]⟩ (z :: ys)).cps.toList = _
    rw [Str.cps_append, Str.cps_append, Array.toList_append, Array.toList_append, ih]
    show y.cps.toList ++ [32] ++ _ = y.cps.toList ++ 32 :: glue _
    rw [List.append_assoc]
    rfl
theorem split_cut (x : Str) : (Txt.split x " ").map (fun y => y.cps.toList) = cutL x.cps.toList := by
  have h1 := StrLaws.join_split x ⟨#[32]⟩
  have h2 := join_glue (Txt.split x ⟨#[32]⟩)
  rw [h1] at h2
  rw [h2, sp1]
  refine (cutL_glue _ ?_ ?_).symm
  · intro z
    have z := List.map_eq_nil_iff.mp z
    have := PyProof.Rows.split_pos x ⟨#[32]⟩
    rw [z] at this
    exact absurd this (by decide)
  · intro p hp
    obtain ⟨y, hy, e⟩ := List.mem_map.mp hp
    rw [← e]
    exact StrLaws.split_free x 32 y hy
/-- a number as it may be written -/
def okN (p : List Nat) : Bool := decide (1 ≤ p.length ∧ p.length ≤ 60) && p.all (fun c => decide (48 ≤ c ∧ c ≤ 57)) && !(decide (p.head? = some 48) && decide (p ≠ [48]))
/-- the seven words and how many numbers stand behind them -/
def manyOf (z : Str) : Option Nat := if z = "make" then some 2 else if z = "hold" then some 2 else if z = "drop" then some 1 else if z = "put" then some 3 else if z = "empty" then some 2 else if z = "take" then some 3 else if z = "tidy" then some 0 else none
/-- what is read of a line's parts: the word, and the numbers -/
def readP : List Str → Option (Str × List Nat)
  | [] => none
  | w :: ps => if manyOf w = some ps.length ∧ ∀ p ∈ ps, okN p.cps.toList = true then some (w, ps.map fun p => NumText.digitsVal p.cps.toList) else none
end BP

/-! A heap that has grown, but for the table of a def's code objects. Own work. -/
namespace BP
open PySem PySem.Spec PyProof.Rows L2
/-- H' holds all that H does, but the table at Pt may have grown -/
def Past (Pt : Addr) (H H' : Hp) : Prop := GxR.TabG H' Pt ∧ ∀ b o, b ≠ Pt → H b = some o → H' b = some o
section
variable {Pt : Addr} {H H' H'' : Hp}
theorem tab_ne {a : Addr} (T : GxR.TabG H Pt) (h : H a = none) : a ≠ Pt := fun z => by
  obtain ⟨ps, e, _⟩ := T
  rw [z, e] at h
  cases h
theorem tab_upd {a : Addr} {o : HO} (T : GxR.TabG H Pt) (h : a ≠ Pt) : GxR.TabG (upd H a o) Pt := by
  obtain ⟨ps, e, t⟩ := T
  exact ⟨ps, by rw [upd_ne h.symm]; exact e, t⟩
theorem Past.refl (T : GxR.TabG H Pt) : Past Pt H H := ⟨T, fun _ _ _ e => e⟩
theorem Past.new (p : Past Pt H H') {a : Addr} (h : H' a = none) (o : HO) : Past Pt H (upd H' a o) :=
  ⟨tab_upd p.1 (tab_ne p.1 h), fun b u n e => by rw [upd_ne (ne_of_none (p.2 b u n e) h)]; exact p.2 b u n e⟩
theorem Past.gone (p : Past Pt H H') (T : GxR.TabG H Pt) {a : Addr} (h : H' a = none) : H a = none := by
  cases e : H a with
  | none => rfl
  | some o =>
    by_cases n : a = Pt
    · exact absurd n (tab_ne p.1 h)
    · rw [p.2 a o n e] at h; cases h
theorem Past.set (p : Past Pt H H') {a : Addr} (T : GxR.TabG H Pt) (h : H a = none) (o : HO) : Past Pt H (upd H' a o) :=
  ⟨tab_upd p.1 (tab_ne T h), fun b u n e => by rw [upd_ne (ne_of_none e h)]; exact p.2 b u n e⟩
theorem Past.tab (p : Past Pt H H') (t : GxR.Tabbed Pt H' H'') : Past Pt H H'' := ⟨t.1, fun b o n e => by rw [t.2 b n]; exact p.2 b o n e⟩
theorem Past.trans (p : Past Pt H H') (q : Past Pt H' H'') : Past Pt H H'' := ⟨q.1, fun b o n e => q.2 b o n (p.2 b o n e)⟩
theorem tabbed_refl (T : GxR.TabG H Pt) : GxR.Tabbed Pt H H := ⟨T, fun _ _ => rfl⟩
end
/-- a def that lets errors out, its code object known -/
theorem okXC {P : Program} {w : World} {K : PySem.W.Frag} {mg : Str → Option Value} {base : Heap} {x qual : Str} {st : Stmt} {f c : Addr} {fd : FuncData} {N ps : List Str} {k : Nat} {sp : Sp} (F : Fun K x qual st f fd) (S : FnScope N ps (defScope st)) (hc : fd.code = .ref c)
    (len : ∀ vs H Q E, sp vs H Q E → vs.length = ps.length)
    (hb : ∀ (A : Around) (outer : List Env) (s : Shared) (H : Hp) (vs : List V) (Q : VK) (E : XK), Room k (A.deeper (envOfC qual (defScope st) s.heap.objs.size f (.ref c))) → sp vs H Q E →
      ∃ t, PSs (cxOf (L2.CX P w) P w K mg base N qual (defScope st) f (.ref c) A outer s H E) (defBody st) t ∧ t { nx := fun _ H' => Q .non H', rt := Q } (start N vs) H) : FnOk P w K mg base (L2.CX P w) (k + 1) f fd ps sp := by
  obtain ⟨oc, od, kV, doc, pm, an, cdv, ct, osl, rfl, lk, hcd⟩ := F.ex
  have e : cdv = .ref c := hc
  subst e
  exact fn_of lk hcd S len hb
/-- str(x) of a whole number or of a text -/
def rStrE : List V → Hp → VK → Prop := fun xs H Q => (∃ i, xs = [.int i] ∧ i.natAbs.log2 < 1920 ∧ Q (.str (toString i)) H) ∨ ∃ a, xs = [.str a] ∧ Q (.str a) H
theorem call_strE {X : Cx} : CallR X (.type "str") rStrE := fun pins s σ H xs us Q I r h => h.elim (fun h => call_str_int pins s σ H xs us Q I r h) fun h => SkE.call_str_str pins s σ H xs us Q I r h
end BP

/-! The pile as plain data: hands, boxes by number, the row of what waits to be let go. Own work; core Lean alone. -/
namespace BP

structure Bx where
  slots : List (Option Int)
  wt : Int
  sus : Bool
structure Pl where
  hands : List (Option Int)
  boxes : List (Int × Bx)
  made : Int

/-! ### boxes by number -/
def get (bs : List (Int × Bx)) (n : Int) : Option Bx := (bs.find? fun e => decide (e.1 = n)).map (·.2)
def chg (bs : List (Int × Bx)) (n : Int) (f : Bx → Bx) : List (Int × Bx) := bs.map fun e => if e.1 = n then (e.1, f e.2) else e
def rm (bs : List (Int × Bx)) (n : Int) : List (Int × Bx) := bs.filter fun e => decide (e.1 ≠ n)
def keys (bs : List (Int × Bx)) : List Int := bs.map (·.1)

theorem get_nil (n : Int) : get [] n = none := rfl
theorem get_cons (e : Int × Bx) (bs : List (Int × Bx)) (n : Int) : get (e :: bs) n = if e.1 = n then some e.2 else get bs n := by
  unfold get
  rw [List.find?_cons]
  by_cases h : e.1 = n
  · simp [h]
  · simp [h]
theorem get_chg (n m : Int) (f : Bx → Bx) : ∀ bs, get (chg bs n f) m = (get bs m).map fun b => if m = n then f b else b
  | [] => rfl
  | e :: bs => by
    have ih := get_chg n m f bs
    have e1 : chg (e :: bs) n f = (if e.1 = n then (e.1, f e.2) else e) :: chg bs n f := rfl
    rw [e1, get_cons, get_cons, ih]
    by_cases h : e.1 = n
    · rw [if_pos h]
      by_cases h2 : e.1 = m
      · have : m = n := h2.symm.trans h
        simp [h2, this]
      · simp [h2]
    · rw [if_neg h]
      by_cases h2 : e.1 = m
      · have : ¬ m = n := fun q => h (h2.trans q)
        simp [h2, this]
      · simp [h2]
theorem get_rm (n m : Int) : ∀ bs, get (rm bs n) m = if m = n then none else get bs m
  | [] => by simp [rm, get]
  | e :: bs => by
    have ih := get_rm n m bs
    by_cases h : e.1 = n
    · have e1 : rm (e :: bs) n = rm bs n := by unfold rm; simp [List.filter_cons, h]
      rw [e1, ih, get_cons]
      by_cases h2 : m = n
      · simp [h2]
      · have : ¬ e.1 = m := fun q => h2 (q.symm.trans h)
        simp [h2, this]
    · have e1 : rm (e :: bs) n = e :: rm bs n := by unfold rm; simp [List.filter_cons, h]
      rw [e1, get_cons, get_cons, ih]
      by_cases h2 : e.1 = m
      · have : ¬ m = n := fun q => h (h2.trans q)
        simp [h2, this]
      · simp [h2]
theorem get_snoc (n m : Int) (b : Bx) : ∀ bs, get (bs ++ [(n, b)]) m = (match get bs m with | some x => some x | none => if n = m then some b else none)
  | [] => by simp [get_cons, get_nil]
  | e :: bs => by
    have ih := get_snoc n m b bs
    rw [List.cons_append, get_cons, get_cons, ih]
    by_cases h2 : e.1 = m
    · simp [h2]
    · simp [h2]
theorem keys_chg (n : Int) (f : Bx → Bx) : ∀ bs, keys (chg bs n f) = keys bs
  | [] => rfl
  | e :: bs => by
    have ih := keys_chg n f bs
    have e1 : keys (chg (e :: bs) n f) = (if e.1 = n then (e.1, f e.2) else e).1 :: keys (chg bs n f) := rfl
    rw [e1, ih]
    by_cases h : e.1 = n <;> simp [h, keys]
theorem keys_rm (n : Int) (bs : List (Int × Bx)) : keys (rm bs n) = (keys bs).filter fun k => decide (k ≠ n) := by
  unfold keys rm
  rw [List.filter_map]
  rfl
theorem len_chg (n : Int) (f : Bx → Bx) (bs : List (Int × Bx)) : (chg bs n f).length = bs.length := List.length_map _
theorem len_rm (n : Int) (bs : List (Int × Bx)) : (rm bs n).length ≤ bs.length := List.length_filter_le _ _
theorem get_keys {bs : List (Int × Bx)} {n : Int} : (∃ b, get bs n = some b) ↔ n ∈ keys bs := by
  induction bs with
  | nil => simp [get_nil, keys]
  | cons e bs ih =>
    rw [get_cons]
    by_cases h : e.1 = n
    · simp [h, keys]
    · have : n ≠ e.1 := fun q => h q.symm
      simp only [if_neg h, ih]
      simp [keys, this]
theorem get_none {bs : List (Int × Bx)} {n : Int} : get bs n = none ↔ n ∉ keys bs := by
  rw [← get_keys]
  cases get bs n <;> simp
theorem get_mem {bs : List (Int × Bx)} {n : Int} {b : Bx} (h : get bs n = some b) : (n, b) ∈ bs := by
  induction bs with
  | nil => simp [get_nil] at h
  | cons e bs ih =>
    rw [get_cons] at h
    by_cases h1 : e.1 = n
    · rw [if_pos h1] at h
      have : e = (n, b) := by
        cases e
        simp at h1 h
        simp [h1, h]
      simp [this]
    · rw [if_neg h1] at h
      exact List.mem_cons_of_mem _ (ih h)
theorem mem_get {bs : List (Int × Bx)} {n : Int} {b : Bx} (hn : (keys bs).Nodup) (h : (n, b) ∈ bs) : get bs n = some b := by
  induction bs with
  | nil => simp at h
  | cons e bs ih =>
    rw [get_cons]
    have hn' : e.1 ∉ keys bs ∧ (keys bs).Nodup := by simpa [keys] using hn
    rcases List.mem_cons.mp h with h | h
    · subst h
      simp
    · have : ¬ e.1 = n := fun q => hn'.1 (by rw [q]; exact List.mem_map.mpr ⟨_, h, rfl⟩)
      rw [if_neg this]
      exact ih hn'.2 h
theorem nodup_lt {l : List Int} (h : l.Pairwise (· < ·)) : l.Nodup := h.imp fun h => Int.ne_of_lt h

/-! ### pointers counted -/
def cnt (l : List (Option Int)) (n : Int) : Nat := l.count (some n)
def one (x : Option Int) (n : Int) : Nat := if x = some n then 1 else 0
def scnt (bs : List (Int × Bx)) (n : Int) : Nat := (bs.map fun e => cnt e.2.slots n).sum
theorem cnt_nil (n : Int) : cnt [] n = 0 := rfl
theorem cnt_cons (x : Option Int) (l : List (Option Int)) (n : Int) : cnt (x :: l) n = one x n + cnt l n := by
  unfold cnt one
  rw [List.count_cons]
  by_cases h : x = some n
  · simp [h]; omega
  · simp [h]
theorem cnt_append (a b : List (Option Int)) (n : Int) : cnt (a ++ b) n = cnt a n + cnt b n := List.count_append
theorem cnt_set : ∀ {l : List (Option Int)} {i : Nat} {o : Option Int} (x : Option Int) (n : Int), l[i]? = some o → cnt (l.set i x) n + one o n = cnt l n + one x n
  | [], i, o, x, n, h => by simp at h
  | y :: l, 0, o, x, n, h => by
    have : y = o := by simpa using h
    subst this
    rw [List.set_cons_zero, cnt_cons, cnt_cons]
    omega
  | y :: l, i + 1, o, x, n, h => by
    have ih := cnt_set x n (show l[i]? = some o by simpa using h)
    rw [List.set_cons_succ, cnt_cons, cnt_cons]
    omega
theorem cnt_pos {l : List (Option Int)} {n : Int} : 0 < cnt l n ↔ some n ∈ l := by
  unfold cnt
  exact List.count_pos_iff
theorem cnt_none : ∀ (k : Nat) (n : Int), cnt (List.replicate k none) n = 0
  | 0, n => rfl
  | k + 1, n => by
    rw [List.replicate_succ, cnt_cons, cnt_none k n]
    simp [one]
theorem scnt_nil (n : Int) : scnt [] n = 0 := rfl
theorem scnt_cons (e : Int × Bx) (bs : List (Int × Bx)) (n : Int) : scnt (e :: bs) n = cnt e.2.slots n + scnt bs n := by simp [scnt]
theorem scnt_append (a b : List (Int × Bx)) (n : Int) : scnt (a ++ b) n = scnt a n + scnt b n := by simp [scnt]
theorem scnt_chg_same {k : Int} {f : Bx → Bx} (hf : ∀ b, (f b).slots = b.slots) (n : Int) : ∀ bs, scnt (chg bs k f) n = scnt bs n
  | [] => rfl
  | e :: bs => by
    have ih := scnt_chg_same (k := k) hf n bs
    have e1 : chg (e :: bs) k f = (if e.1 = k then (e.1, f e.2) else e) :: chg bs k f := rfl
    rw [e1, scnt_cons, scnt_cons, ih]
    by_cases h : e.1 = k
    · simp [h, hf]
    · simp [h]
theorem chg_no {k : Int} {f : Bx → Bx} : ∀ {bs : List (Int × Bx)}, k ∉ keys bs → chg bs k f = bs
  | [], _ => rfl
  | e :: bs, h => by
    have h' : k ≠ e.1 ∧ k ∉ keys bs := by simpa [keys] using h
    have e1 : chg (e :: bs) k f = (if e.1 = k then (e.1, f e.2) else e) :: chg bs k f := rfl
    rw [e1, chg_no h'.2, if_neg (fun q => h'.1 q.symm)]
theorem rm_no {k : Int} : ∀ {bs : List (Int × Bx)}, k ∉ keys bs → rm bs k = bs
  | [], _ => rfl
  | e :: bs, h => by
    have h' : k ≠ e.1 ∧ k ∉ keys bs := by simpa [keys] using h
    have e1 : rm (e :: bs) k = e :: rm bs k := by
      unfold rm
      have : ¬ e.1 = k := fun q => h'.1 q.symm
      simp [List.filter_cons, this]
    rw [e1, rm_no h'.2]
theorem scnt_chg {k : Int} {f : Bx → Bx} {b : Bx} (n : Int) : ∀ {bs : List (Int × Bx)}, (keys bs).Nodup → get bs k = some b → scnt (chg bs k f) n + cnt b.slots n = scnt bs n + cnt (f b).slots n
  | [], _, h => by simp [get_nil] at h
  | e :: bs, hn, h => by
    have hn' : e.1 ∉ keys bs ∧ (keys bs).Nodup := by simpa [keys] using hn
    have e1 : chg (e :: bs) k f = (if e.1 = k then (e.1, f e.2) else e) :: chg bs k f := rfl
    rw [get_cons] at h
    rw [e1, scnt_cons, scnt_cons]
    by_cases h1 : e.1 = k
    · rw [if_pos h1] at h
      have : e.2 = b := Option.some.inj h
      rw [if_pos h1, chg_no (by rw [← h1]; exact hn'.1), this]
      show cnt (f b).slots n + _ + _ = _
      omega
    · rw [if_neg h1] at h
      have ih := scnt_chg (f := f) n hn'.2 h
      rw [if_neg h1]
      omega
theorem scnt_rm {k : Int} {b : Bx} (n : Int) : ∀ {bs : List (Int × Bx)}, (keys bs).Nodup → get bs k = some b → scnt (rm bs k) n + cnt b.slots n = scnt bs n
  | [], _, h => by simp [get_nil] at h
  | e :: bs, hn, h => by
    have hn' : e.1 ∉ keys bs ∧ (keys bs).Nodup := by simpa [keys] using hn
    rw [get_cons] at h
    rw [scnt_cons]
    by_cases h1 : e.1 = k
    · rw [if_pos h1] at h
      have : e.2 = b := Option.some.inj h
      have e1 : rm (e :: bs) k = rm bs k := by unfold rm; simp [List.filter_cons, h1]
      rw [e1, rm_no (by rw [← h1]; exact hn'.1), this]
      omega
    · rw [if_neg h1] at h
      have ih := scnt_rm n hn'.2 h
      have e1 : rm (e :: bs) k = e :: rm bs k := by unfold rm; simp [List.filter_cons, h1]
      rw [e1, scnt_cons]
      omega
theorem scnt_le {bs : List (Int × Bx)} {k : Int} {b : Bx} (n : Int) (h : get bs k = some b) : cnt b.slots n ≤ scnt bs n := by
  induction bs with
  | nil => simp [get_nil] at h
  | cons e bs ih =>
    rw [get_cons] at h
    rw [scnt_cons]
    by_cases h1 : e.1 = k
    · rw [if_pos h1] at h
      have : e.2 = b := Option.some.inj h
      rw [this]
      omega
    · rw [if_neg h1] at h
      have := ih h
      omega

/-! ### what a step of letting go does -/
def room (bs : List (Int × Bx)) : Nat := (bs.map fun e => e.2.slots.length).sum
theorem room_cons (e : Int × Bx) (bs : List (Int × Bx)) : room (e :: bs) = e.2.slots.length + room bs := by simp [room]
theorem room_chg {k : Int} {f : Bx → Bx} (hf : ∀ b, (f b).slots.length = b.slots.length) : ∀ bs, room (chg bs k f) = room bs
  | [] => rfl
  | e :: bs => by
    have ih := room_chg (k := k) hf bs
    have e1 : chg (e :: bs) k f = (if e.1 = k then (e.1, f e.2) else e) :: chg bs k f := rfl
    rw [e1, room_cons, room_cons, ih]
    by_cases h : e.1 = k
    · simp [h, hf]
    · simp [h]
theorem room_rm {k : Int} {b : Bx} : ∀ {bs : List (Int × Bx)}, (keys bs).Nodup → get bs k = some b → room (rm bs k) + b.slots.length = room bs
  | [], _, h => by simp [get_nil] at h
  | e :: bs, hn, h => by
    have hn' : e.1 ∉ keys bs ∧ (keys bs).Nodup := by simpa [keys] using hn
    rw [get_cons] at h
    rw [room_cons]
    by_cases h1 : e.1 = k
    · rw [if_pos h1] at h
      have : e.2 = b := Option.some.inj h
      have e1 : rm (e :: bs) k = rm bs k := by unfold rm; simp [List.filter_cons, h1]
      rw [e1, rm_no (by rw [← h1]; exact hn'.1), this]
      omega
    · rw [if_neg h1] at h
      have ih := room_rm hn'.2 h
      have e1 : rm (e :: bs) k = e :: rm bs k := by unfold rm; simp [List.filter_cons, h1]
      rw [e1, room_cons]
      omega
theorem room_le {bs : List (Int × Bx)} (h : ∀ n b, get bs n = some b → b.slots.length ≤ 6) (hn : (keys bs).Nodup) : room bs ≤ 6 * bs.length := by
  have h' : ∀ e ∈ bs, e.2.slots.length ≤ 6 := fun e he => h e.1 e.2 (mem_get hn he)
  clear h hn
  induction bs with
  | nil => simp [room]
  | cons e bs ih =>
    rw [room_cons, List.length_cons]
    have := ih fun e he => h' e (List.mem_cons_of_mem _ he)
    have := h' e List.mem_cons_self
    omega

def low (b : Bx) : Bx := { b with wt := b.wt - 1, sus := true }
def bump (b : Bx) : Bx := { b with wt := b.wt + 1 }
/-- the first of the row is let go: the boxes behind it, what waits behind it, what is freed by it -/
def fall (bs : List (Int × Bx)) (w : List (Option Int)) : Option Int → List (Int × Bx) × List (Option Int) × List Int
  | none => (bs, w, [])
  | some n => match get bs n with
    | none => (bs, w, [])
    | some b => if b.wt = 1 then (rm bs n, w ++ b.slots, [n]) else (chg bs n low, w, [])
def go : Nat → List (Int × Bx) → List (Option Int) → List (Int × Bx) × List Int
  | 0, bs, _ => (bs, [])
  | _ + 1, bs, [] => (bs, [])
  | m + 1, bs, x :: w => ((go m (fall bs w x).1 (fall bs w x).2.1).1, (fall bs w x).2.2 ++ (go m (fall bs w x).1 (fall bs w x).2.1).2)
/-- all of the row is let go -/
def run (bs : List (Int × Bx)) (w : List (Option Int)) : List (Int × Bx) × List Int := go (w.length + room bs) bs w

/-- weights are right, with the pointers of the row w counted too -/
structure Wf (P : Pl) (w : List (Option Int)) : Prop where
  hl : P.hands.length = 8
  ks : (keys P.boxes).Pairwise (· < ·)
  lo : ∀ n, n ∈ keys P.boxes → 0 ≤ n ∧ n < P.made
  few : P.boxes.length ≤ 60
  sl : ∀ n b, get P.boxes n = some b → b.slots.length ≤ 6
  wt : ∀ n b, get P.boxes n = some b → b.wt = ((cnt P.hands n + scnt P.boxes n + cnt w n : Nat) : Int) ∧ 1 ≤ b.wt
  cl : ∀ n, 0 < cnt P.hands n + scnt P.boxes n + cnt w n → ∃ b, get P.boxes n = some b
  m0 : 0 ≤ P.made
theorem Wf.nd {P : Pl} {w : List (Option Int)} (h : Wf P w) : (keys P.boxes).Nodup := nodup_lt h.ks

/-- one step keeps the weights right; the measure falls by one -/
theorem fall_ok {P : Pl} {x : Option Int} {w : List (Option Int)} (h : Wf P (x :: w)) :
    Wf { P with boxes := (fall P.boxes w x).1 } (fall P.boxes w x).2.1 ∧ (fall P.boxes w x).2.1.length + room (fall P.boxes w x).1 = w.length + room P.boxes := by
  cases x with
  | none =>
    have c0 : ∀ n, cnt (none :: w) n = cnt w n := fun n => by rw [cnt_cons]; simp [one]
    refine ⟨⟨h.hl, h.ks, h.lo, h.few, h.sl, fun n b e => ?_, fun n e => ?_, h.m0⟩, rfl⟩
    · have := h.wt n b e
      rw [c0] at this
      exact this
    · exact h.cl n (by rw [c0]; exact e)
  | some k =>
    have c0 : ∀ n, cnt (some k :: w) n = one (some k) n + cnt w n := fun n => cnt_cons _ _ _
    obtain ⟨b, hb⟩ := h.cl k (by rw [c0]; simp [one]; omega)
    obtain ⟨wb, w1⟩ := h.wt k b hb
    have nd := h.nd
    by_cases hw : b.wt = 1
    · have ef : fall P.boxes w (some k) = (rm P.boxes k, w ++ b.slots, [k]) := by
        show (match get P.boxes k with | none => _ | some b => _) = _
        rw [hb]
        show (if b.wt = 1 then _ else _) = _
        rw [if_pos hw]
      rw [ef]
      have o1 : one (some k) k = 1 := by simp [one]
      have z : cnt P.hands k + scnt P.boxes k + cnt w k = 0 := by
        rw [hw, c0, o1] at wb
        omega
      have sc : ∀ n, scnt (rm P.boxes k) n + cnt b.slots n = scnt P.boxes n := fun n => scnt_rm n nd hb
      refine ⟨⟨h.hl, ?_, fun n hn => ?_, Nat.le_trans (len_rm _ _) h.few, fun n c e => ?_, fun n c e => ?_, fun n e => ?_, h.m0⟩, ?_⟩
      · show (keys (rm P.boxes k)).Pairwise _
        rw [keys_rm]
        exact h.ks.filter _
      · have hn' : n ∈ keys (rm P.boxes k) := hn
        rw [keys_rm] at hn'
        exact h.lo n (List.mem_filter.mp hn').1
      · have e' : get (rm P.boxes k) n = some c := e
        rw [get_rm] at e'
        by_cases q : n = k
        · rw [if_pos q] at e'; cases e'
        · rw [if_neg q] at e'
          exact h.sl n c e'
      · have e' : get (rm P.boxes k) n = some c := e
        rw [get_rm] at e'
        by_cases q : n = k
        · rw [if_pos q] at e'; cases e'
        · rw [if_neg q] at e'
          obtain ⟨w2, w3⟩ := h.wt n c e'
          refine ⟨?_, w3⟩
          have := sc n
          show c.wt = ((cnt P.hands n + scnt (rm P.boxes k) n + cnt (w ++ b.slots) n : Nat) : Int)
          have o0 : one (some k) n = 0 := by
            unfold one
            rw [if_neg (fun q2 => q (Option.some.inj q2).symm)]
          rw [c0, o0] at w2
          rw [cnt_append, w2]
          omega
      · have e' : 0 < cnt P.hands n + scnt (rm P.boxes k) n + cnt (w ++ b.slots) n := e
        rw [cnt_append] at e'
        have := sc n
        show ∃ b, get (rm P.boxes k) n = some b
        rw [get_rm]
        by_cases q : n = k
        · subst q
          omega
        · rw [if_neg q]
          exact h.cl n (by rw [c0]; omega)
      · show (w ++ b.slots).length + room (rm P.boxes k) = _
        rw [List.length_append]
        have := room_rm nd hb
        omega
    · have ef : fall P.boxes w (some k) = (chg P.boxes k low, w, []) := by
        show (match get P.boxes k with | none => _ | some b => _) = _
        rw [hb]
        show (if b.wt = 1 then _ else _) = _
        rw [if_neg hw]
      rw [ef]
      have sc : ∀ n, scnt (chg P.boxes k low) n = scnt P.boxes n := fun n => scnt_chg_same (f := low) (fun _ => rfl) n _
      refine ⟨⟨h.hl, ?_, fun n hn => ?_, ?_, fun n c e => ?_, fun n c e => ?_, fun n e => ?_, h.m0⟩, ?_⟩
      · show (keys (chg P.boxes k low)).Pairwise _
        rw [keys_chg]
        exact h.ks
      · have hn' : n ∈ keys (chg P.boxes k low) := hn
        rw [keys_chg] at hn'
        exact h.lo n hn'
      · show (chg P.boxes k low).length ≤ 60
        rw [len_chg]
        exact h.few
      · have e' : get (chg P.boxes k low) n = some c := e
        rw [get_chg] at e'
        cases g : get P.boxes n with
        | none => rw [g] at e'; cases e'
        | some d =>
          rw [g] at e'
          have e2 : (if n = k then low d else d) = c := Option.some.inj e'
          subst e2
          have := h.sl n d g
          by_cases q : n = k
          · rw [if_pos q]; exact this
          · rw [if_neg q]; exact this
      · have e' : get (chg P.boxes k low) n = some c := e
        rw [get_chg] at e'
        cases g : get P.boxes n with
        | none => rw [g] at e'; cases e'
        | some d =>
          rw [g] at e'
          have e2 : (if n = k then low d else d) = c := Option.some.inj e'
          subst e2
          obtain ⟨w2, w3⟩ := h.wt n d g
          show (if n = k then low d else d).wt = ((cnt P.hands n + scnt (chg P.boxes k low) n + cnt w n : Nat) : Int) ∧ _
          rw [sc n]
          by_cases q : n = k
          · subst q
            rw [if_pos rfl]
            have : d = b := Option.some.inj (g.symm.trans hb)
            subst this
            show d.wt - 1 = _ ∧ 1 ≤ d.wt - 1
            have o1 : one (some n) n = 1 := by simp [one]
            rw [c0, o1] at w2
            refine ⟨by omega, by omega⟩
          · rw [if_neg q]
            have o0 : one (some k) n = 0 := by
              unfold one
              rw [if_neg (fun q2 => q (Option.some.inj q2).symm)]
            rw [c0, o0] at w2
            exact ⟨by omega, w3⟩
      · have e' : 0 < cnt P.hands n + scnt (chg P.boxes k low) n + cnt w n := e
        rw [sc] at e'
        obtain ⟨c, hc⟩ := h.cl n (by rw [c0]; omega)
        show ∃ b, get (chg P.boxes k low) n = some b
        rw [get_chg, hc]
        exact ⟨_, rfl⟩
      · show w.length + room (chg P.boxes k low) = _
        rw [room_chg (f := low) (fun _ => rfl)]
theorem go_ok : ∀ {m : Nat} {P : Pl} {w : List (Option Int)}, Wf P w → w.length + room P.boxes = m → Wf { P with boxes := (go m P.boxes w).1 } []
  | 0, P, w, h, e => by
    have : w = [] := List.eq_nil_of_length_eq_zero (by omega)
    subst this
    exact h
  | m + 1, P, [], h, e => h
  | m + 1, P, x :: w, h, e => by
    obtain ⟨h1, e1⟩ := fall_ok h
    have := go_ok (m := m) h1 (by rw [List.length_cons] at e; show _ + room (fall P.boxes w x).1 = m; omega)
    exact this
theorem run_ok {P : Pl} {w : List (Option Int)} (h : Wf P w) : Wf { P with boxes := (run P.boxes w).1 } [] := go_ok h rfl

/-! ### a pointer becomes another one -/
def bumped (bs : List (Int × Bx)) : Option Int → List (Int × Bx)
  | none => bs
  | some n => chg bs n bump
def setSlot (s : Nat) (x : Option Int) (b : Bx) : Bx := { b with slots := b.slots.set s x }
def slotOf (bs : List (Int × Bx)) (n : Int) (s : Nat) : Option Int := match get bs n with
  | none => none
  | some b => b.slots.getD s none
/-- a hand points at x -/
def ptHand (P : Pl) (h : Nat) (x : Option Int) : Pl × List Int :=
  ({ P with hands := P.hands.set h x, boxes := (run (bumped P.boxes x) [P.hands.getD h none]).1 }, (run (bumped P.boxes x) [P.hands.getD h none]).2)
/-- a slot of the box n points at x -/
def ptSlot (P : Pl) (n : Int) (s : Nat) (x : Option Int) : Pl × List Int :=
  ({ P with boxes := (run (chg (bumped P.boxes x) n (setSlot s x)) [slotOf P.boxes n s]).1 }, (run (chg (bumped P.boxes x) n (setSlot s x)) [slotOf P.boxes n s]).2)
/-- a new box stands there, at which nothing points -/
def born (P : Pl) (size : Nat) : Pl := { P with boxes := P.boxes ++ [(P.made, ⟨List.replicate size none, 0, false⟩)], made := P.made + 1 }
def mk (P : Pl) (h size : Nat) : Pl × List Int := ptHand (born P size) h (some P.made)

/-- weights are right, but that of x may be 0 yet -/
structure Pre (P : Pl) (x : Option Int) : Prop where
  hl : P.hands.length = 8
  ks : (keys P.boxes).Pairwise (· < ·)
  lo : ∀ n, n ∈ keys P.boxes → 0 ≤ n ∧ n < P.made
  few : P.boxes.length ≤ 60
  sl : ∀ n b, get P.boxes n = some b → b.slots.length ≤ 6
  wt : ∀ n b, get P.boxes n = some b → b.wt = ((cnt P.hands n + scnt P.boxes n : Nat) : Int) ∧ (1 ≤ b.wt ∨ x = some n)
  cl : ∀ n, 0 < cnt P.hands n + scnt P.boxes n → ∃ b, get P.boxes n = some b
  m0 : 0 ≤ P.made
  hx : ∀ n, x = some n → ∃ b, get P.boxes n = some b
theorem Wf.pre {P : Pl} {x : Option Int} (h : Wf P []) (hx : ∀ n, x = some n → ∃ b, get P.boxes n = some b) : Pre P x :=
  ⟨h.hl, h.ks, h.lo, h.few, h.sl, fun n b e => by
    obtain ⟨a, b⟩ := h.wt n b e
    exact ⟨a, .inl b⟩, fun n e => h.cl n e, h.m0, hx⟩
/-- what a hand holds is alive -/
theorem Wf.hand {P : Pl} {w : List (Option Int)} (h : Wf P w) {i : Nat} {n : Int} (e : P.hands.getD i none = some n) : ∃ b, get P.boxes n = some b := by
  refine h.cl n ?_
  have : some n ∈ P.hands := by
    rw [List.getD_eq_getElem?_getD] at e
    cases q : P.hands[i]? with
    | none => rw [q] at e; cases e
    | some y =>
      rw [q] at e
      have : y = some n := e
      rw [← this]
      exact List.mem_of_getElem? q
  have := cnt_pos.mpr this
  omega
theorem Wf.slot {P : Pl} {w : List (Option Int)} (h : Wf P w) {k : Int} {b : Bx} {i : Nat} {n : Int} (hb : get P.boxes k = some b) (e : b.slots.getD i none = some n) : ∃ b, get P.boxes n = some b := by
  refine h.cl n ?_
  have : some n ∈ b.slots := by
    rw [List.getD_eq_getElem?_getD] at e
    cases q : b.slots[i]? with
    | none => rw [q] at e; cases e
    | some y =>
      rw [q] at e
      have : y = some n := e
      rw [← this]
      exact List.mem_of_getElem? q
  have h1 := cnt_pos.mpr this
  have h2 := scnt_le n hb
  omega
theorem get_bumped {bs : List (Int × Bx)} {x : Option Int} {n : Int} : get (bumped bs x) n = (get bs n).map fun b => if x = some n then bump b else b := by
  cases x with
  | none =>
    show get bs n = _
    cases get bs n <;> simp
  | some k =>
    show get (chg bs k bump) n = _
    rw [get_chg]
    cases get bs n with
    | none => rfl
    | some b =>
      by_cases q : n = k
      · simp [q]
      · have : ¬ (some k = some n) := fun z => q (Option.some.inj z).symm
        simp [q, this]
theorem keys_bumped {bs : List (Int × Bx)} {x : Option Int} : keys (bumped bs x) = keys bs := by
  cases x with
  | none => rfl
  | some k => exact keys_chg _ _ _
theorem len_bumped {bs : List (Int × Bx)} {x : Option Int} : (bumped bs x).length = bs.length := by
  cases x with
  | none => rfl
  | some k => exact len_chg _ _ _
theorem scnt_bumped {bs : List (Int × Bx)} {x : Option Int} (n : Int) : scnt (bumped bs x) n = scnt bs n := by
  cases x with
  | none => rfl
  | some k => exact scnt_chg_same (f := bump) (fun _ => rfl) n _
theorem room_bumped {bs : List (Int × Bx)} {x : Option Int} : room (bumped bs x) = room bs := by
  cases x with
  | none => rfl
  | some k => exact room_chg (f := bump) (fun _ => rfl) _
theorem getD_some {l : List (Option Int)} {i : Nat} (h : i < l.length) : l[i]? = some (l.getD i none) := by
  rw [List.getD_eq_getElem?_getD, List.getElem?_eq_getElem h]
  rfl
/-- a hand is set: what it pointed at waits -/
theorem Pre.hand {P : Pl} {x : Option Int} (h : Pre P x) {i : Nat} (hi : i < 8) : Wf { P with hands := P.hands.set i x, boxes := bumped P.boxes x } [P.hands.getD i none] := by
  have hold := getD_some (l := P.hands) (i := i) (by rw [h.hl]; exact hi)
  have c1 : ∀ n, cnt (P.hands.set i x) n + one (P.hands.getD i none) n = cnt P.hands n + one x n := fun n => cnt_set x n hold
  have c2 : ∀ n, cnt [P.hands.getD i none] n = one (P.hands.getD i none) n := fun n => by rw [cnt_cons, cnt_nil]; rfl
  refine ⟨by show (P.hands.set i x).length = 8; rw [List.length_set]; exact h.hl, by show (keys (bumped P.boxes x)).Pairwise _; rw [keys_bumped]; exact h.ks, fun n hn => ?_, by show (bumped P.boxes x).length ≤ 60; rw [len_bumped]; exact h.few, fun n c e => ?_, fun n c e => ?_, fun n e => ?_, h.m0⟩
  · have hn' : n ∈ keys (bumped P.boxes x) := hn
    rw [keys_bumped] at hn'
    exact h.lo n hn'
  · have e' : get (bumped P.boxes x) n = some c := e
    rw [get_bumped] at e'
    cases g : get P.boxes n with
    | none => rw [g] at e'; cases e'
    | some d =>
      rw [g] at e'
      have e2 : (if x = some n then bump d else d) = c := Option.some.inj e'
      subst e2
      have := h.sl n d g
      by_cases q : x = some n
      · rw [if_pos q]; exact this
      · rw [if_neg q]; exact this
  · have e' : get (bumped P.boxes x) n = some c := e
    rw [get_bumped] at e'
    cases g : get P.boxes n with
    | none => rw [g] at e'; cases e'
    | some d =>
      rw [g] at e'
      have e2 : (if x = some n then bump d else d) = c := Option.some.inj e'
      subst e2
      obtain ⟨w2, w3⟩ := h.wt n d g
      show _ = ((cnt (P.hands.set i x) n + scnt (bumped P.boxes x) n + cnt [P.hands.getD i none] n : Nat) : Int) ∧ _
      rw [scnt_bumped, c2]
      have := c1 n
      by_cases q : x = some n
      · rw [if_pos q]
        have o1 : one x n = 1 := by simp [one, q]
        show d.wt + 1 = _ ∧ 1 ≤ d.wt + 1
        refine ⟨by omega, by omega⟩
      · rw [if_neg q]
        have o0 : one x n = 0 := by simp [one, q]
        refine ⟨by omega, w3.resolve_right q⟩
  · have e' : 0 < cnt (P.hands.set i x) n + scnt (bumped P.boxes x) n + cnt [P.hands.getD i none] n := e
    rw [scnt_bumped, c2] at e'
    have := c1 n
    show ∃ b, get (bumped P.boxes x) n = some b
    rw [get_bumped]
    have : ∃ b, get P.boxes n = some b := by
      by_cases q : x = some n
      · exact h.hx n q
      · have o0 : one x n = 0 := by simp [one, q]
        exact h.cl n (by omega)
    obtain ⟨b, hb⟩ := this
    rw [hb]
    exact ⟨_, rfl⟩
/-- a slot is set: what it pointed at waits -/
theorem Pre.slot {P : Pl} {x : Option Int} (h : Pre P x) {k : Int} {b : Bx} {i : Nat} (hb : get P.boxes k = some b) (hi : i < b.slots.length) :
    Wf { P with boxes := chg (bumped P.boxes x) k (setSlot i x) } [b.slots.getD i none] := by
  have hold := getD_some hi
  have nd : (keys P.boxes).Nodup := nodup_lt h.ks
  have c1 : ∀ n, cnt (b.slots.set i x) n + one (b.slots.getD i none) n = cnt b.slots n + one x n := fun n => cnt_set x n hold
  have c2 : ∀ n, cnt [b.slots.getD i none] n = one (b.slots.getD i none) n := fun n => by rw [cnt_cons, cnt_nil]; rfl
  have hb' : get (bumped P.boxes x) k = some (if x = some k then bump b else b) := by rw [get_bumped, hb]; rfl
  have hbs : (if x = some k then bump b else b).slots = b.slots := by
    by_cases q : x = some k
    · rw [if_pos q]; rfl
    · rw [if_neg q]
  have c3 : ∀ n, scnt (chg (bumped P.boxes x) k (setSlot i x)) n + cnt b.slots n = scnt P.boxes n + cnt (b.slots.set i x) n := fun n => by
    have := scnt_chg (f := setSlot i x) n (by rw [keys_bumped]; exact nd) hb'
    rw [scnt_bumped, hbs] at this
    have e : (setSlot i x (if x = some k then bump b else b)).slots = b.slots.set i x := by
      show (if x = some k then bump b else b).slots.set i x = _
      rw [hbs]
    rw [e] at this
    exact this
  have gg : ∀ n, get (chg (bumped P.boxes x) k (setSlot i x)) n = (get P.boxes n).map fun d => if n = k then setSlot i x (if x = some n then bump d else d) else (if x = some n then bump d else d) := fun n => by
    rw [get_chg, get_bumped]
    cases get P.boxes n <;> rfl
  have kk : keys (chg (bumped P.boxes x) k (setSlot i x)) = keys P.boxes := by rw [keys_chg, keys_bumped]
  refine ⟨h.hl, by show (keys (chg (bumped P.boxes x) k (setSlot i x))).Pairwise _; rw [kk]; exact h.ks, fun n hn => ?_, by show (chg (bumped P.boxes x) k (setSlot i x)).length ≤ 60; rw [len_chg, len_bumped]; exact h.few, fun n c e => ?_, fun n c e => ?_, fun n e => ?_, h.m0⟩
  · have hn' : n ∈ keys (chg (bumped P.boxes x) k (setSlot i x)) := hn
    rw [kk] at hn'
    exact h.lo n hn'
  · have e' : get (chg (bumped P.boxes x) k (setSlot i x)) n = some c := e
    rw [gg] at e'
    cases g : get P.boxes n with
    | none => rw [g] at e'; cases e'
    | some d =>
      rw [g] at e'
      have e2 : (if n = k then setSlot i x (if x = some n then bump d else d) else (if x = some n then bump d else d)) = c := Option.some.inj e'
      subst e2
      have := h.sl n d g
      have q : (if x = some n then bump d else d).slots = d.slots := by
        by_cases q : x = some n
        · rw [if_pos q]; rfl
        · rw [if_neg q]
      by_cases q2 : n = k
      · rw [if_pos q2]
        show ((if x = some n then bump d else d).slots.set i x).length ≤ 6
        rw [List.length_set, q]
        exact this
      · rw [if_neg q2, q]
        exact this
  · have e' : get (chg (bumped P.boxes x) k (setSlot i x)) n = some c := e
    rw [gg] at e'
    cases g : get P.boxes n with
    | none => rw [g] at e'; cases e'
    | some d =>
      rw [g] at e'
      have e2 : (if n = k then setSlot i x (if x = some n then bump d else d) else (if x = some n then bump d else d)) = c := Option.some.inj e'
      have wc : c.wt = (if x = some n then bump d else d).wt := by
        rw [← e2]
        by_cases q2 : n = k
        · rw [if_pos q2]; rfl
        · rw [if_neg q2]
      obtain ⟨w2, w3⟩ := h.wt n d g
      rw [wc]
      show _ = ((cnt P.hands n + scnt (chg (bumped P.boxes x) k (setSlot i x)) n + cnt [b.slots.getD i none] n : Nat) : Int) ∧ _
      rw [c2]
      have := c1 n
      have := c3 n
      by_cases q : x = some n
      · rw [if_pos q]
        have o1 : one x n = 1 := by simp [one, q]
        show d.wt + 1 = _ ∧ 1 ≤ d.wt + 1
        refine ⟨by omega, by omega⟩
      · rw [if_neg q]
        have o0 : one x n = 0 := by simp [one, q]
        refine ⟨by omega, w3.resolve_right q⟩
  · have e' : 0 < cnt P.hands n + scnt (chg (bumped P.boxes x) k (setSlot i x)) n + cnt [b.slots.getD i none] n := e
    rw [c2] at e'
    have := c1 n
    have := c3 n
    show ∃ b, get (chg (bumped P.boxes x) k (setSlot i x)) n = some b
    rw [gg]
    have : ∃ b, get P.boxes n = some b := by
      by_cases q : x = some n
      · exact h.hx n q
      · have o0 : one x n = 0 := by simp [one, q]
        exact h.cl n (by omega)
    obtain ⟨b, hb⟩ := this
    rw [hb]
    exact ⟨_, rfl⟩
theorem scnt_born (P : Pl) (size : Nat) (n : Int) : scnt (born P size).boxes n = scnt P.boxes n := by
  show scnt (P.boxes ++ _) n = _
  rw [scnt_append, scnt_cons, scnt_nil]
  show _ + (cnt (List.replicate size none) n + 0) = _
  rw [cnt_none]
  rfl
theorem get_born {P : Pl} {w : List (Option Int)} (h : Wf P w) (size : Nat) (n : Int) : get (born P size).boxes n = if n = P.made then some ⟨List.replicate size none, 0, false⟩ else get P.boxes n := by
  show get (P.boxes ++ _) n = _
  rw [get_snoc]
  by_cases q : n = P.made
  · have : get P.boxes n = none := get_none.mpr fun z => by have := (h.lo n z).2; omega
    rw [this]
    simp [q]
  · have : ¬ P.made = n := fun z => q z.symm
    rw [if_neg q]
    cases get P.boxes n <;> simp [this]
theorem Wf.born {P : Pl} (h : Wf P []) {size : Nat} (hs : size ≤ 6) (hf : P.boxes.length < 60) : Pre (born P size) (some P.made) := by
  have gm := get_born h size
  refine ⟨h.hl, ?_, fun n hn => ?_, ?_, fun n b e => ?_, fun n b e => ?_, fun n e => ?_, ?_, fun n e => ?_⟩
  · show (keys (P.boxes ++ _)).Pairwise _
    unfold keys
    rw [List.map_append, List.pairwise_append]
    refine ⟨h.ks, List.pairwise_singleton _ _, fun a ha b hb => ?_⟩
    have : b = P.made := by simpa using hb
    rw [this]
    exact (h.lo a ha).2
  · have hn' : n ∈ keys (P.boxes ++ [(P.made, _)]) := hn
    unfold keys at hn'
    rw [List.map_append, List.mem_append] at hn'
    have m0 := h.m0
    show 0 ≤ n ∧ n < P.made + 1
    rcases hn' with q | q
    · have := h.lo n q
      omega
    · have : n = P.made := by simpa using q
      omega
  · show (P.boxes ++ _).length ≤ 60
    rw [List.length_append]
    show P.boxes.length + 1 ≤ 60
    omega
  · rw [gm] at e
    by_cases q : n = P.made
    · rw [if_pos q] at e
      have := Option.some.inj e
      rw [← this]
      show (List.replicate size none).length ≤ 6
      rw [List.length_replicate]
      exact hs
    · rw [if_neg q] at e
      exact h.sl n b e
  · rw [gm] at e
    rw [scnt_born]
    show _ = ((cnt P.hands n + _ : Nat) : Int) ∧ _
    by_cases q : n = P.made
    · rw [if_pos q] at e
      have eb := Option.some.inj e
      refine ⟨?_, .inr (by rw [q])⟩
      rw [← eb]
      show (0 : Int) = _
      have : ¬ 0 < cnt P.hands n + scnt P.boxes n := fun z => by
        obtain ⟨c, hc⟩ := h.cl n z
        have := (h.lo n (get_keys.mp ⟨c, hc⟩)).2
        omega
      omega
    · rw [if_neg q] at e
      obtain ⟨a, c⟩ := h.wt n b e
      exact ⟨a, .inl c⟩
  · rw [scnt_born] at e
    have e' : 0 < cnt P.hands n + scnt P.boxes n := e
    obtain ⟨c, hc⟩ := h.cl n e'
    rw [gm]
    by_cases q : n = P.made
    · rw [if_pos q]; exact ⟨_, rfl⟩
    · rw [if_neg q]; exact ⟨c, hc⟩
  · have := h.m0
    show 0 ≤ P.made + 1
    omega
  · rw [gm, ← Option.some.inj e, if_pos rfl]
    exact ⟨_, rfl⟩
/-- the numbers of those that are suspects -/
def susp (P : Pl) : List Int := (keys P.boxes).filter fun n => match get P.boxes n with | none => false | some b => b.sus
theorem ptHand_ok {P : Pl} {x : Option Int} (h : Pre P x) {i : Nat} (hi : i < 8) : Wf (ptHand P i x).1 [] := run_ok (h.hand hi)
theorem ptSlot_ok {P : Pl} {x : Option Int} (h : Pre P x) {k : Int} {b : Bx} {i : Nat} (hb : get P.boxes k = some b) (hi : i < b.slots.length) : Wf (ptSlot P k i x).1 [] := by
  have e : slotOf P.boxes k i = b.slots.getD i none := by
    unfold slotOf
    rw [hb]
  have := run_ok (h.slot hb hi)
  rw [← e] at this
  exact this
theorem mk_ok {P : Pl} (h : Wf P []) {i size : Nat} (hi : i < 8) (hs : size ≤ 6) (hf : P.boxes.length < 60) : Wf (mk P i size).1 [] := ptHand_ok (h.born hs hf) hi
def pl0 : Pl := ⟨List.replicate 8 none, [], 0⟩
theorem wf0 : Wf pl0 [] := ⟨rfl, List.Pairwise.nil, fun n h => by simp [pl0, keys] at h, by decide, fun n b e => by simp [pl0, get_nil] at e, fun n b e => by simp [pl0, get_nil] at e, fun n e => by
  have h1 : cnt pl0.hands n = 0 := cnt_none 8 n
  have h2 : scnt pl0.boxes n = 0 := rfl
  rw [h1, h2, cnt_nil] at e
  omega, by decide⟩
end BP

/-! Piles whose slots are all empty. Own work; core Lean alone. -/
namespace BP
theorem go_nones : ∀ {m : Nat} {bs : List (Int × Bx)} {w : List (Option Int)}, (∀ x ∈ w, x = none) → go m bs w = (bs, [])
  | 0, bs, w, _ => rfl
  | m + 1, bs, [], _ => rfl
  | m + 1, bs, x :: w, h => by
    have e : x = none := h x List.mem_cons_self
    subst e
    show ((go m bs w).1, [] ++ (go m bs w).2) = (bs, [])
    rw [go_nones fun y hy => h y (List.mem_cons_of_mem _ hy)]
    rfl
theorem run_none (bs : List (Int × Bx)) : run bs [none] = (bs, []) := go_nones fun x hx => by simpa using hx
/-- a box without pointers of its own is let go -/
theorem run_some {bs : List (Int × Bx)} {n : Int} {b : Bx} (hb : get bs n = some b) (h0 : ∀ x ∈ b.slots, x = none) : run bs [some n] = if b.wt = 1 then (rm bs n, [n]) else (chg bs n low, []) := by
  show go (1 + room bs) bs [some n] = _
  rw [Nat.add_comm]
  show ((go (room bs) (fall bs [] (some n)).1 (fall bs [] (some n)).2.1).1, (fall bs [] (some n)).2.2 ++ (go (room bs) (fall bs [] (some n)).1 (fall bs [] (some n)).2.1).2) = _
  have ef : fall bs [] (some n) = if b.wt = 1 then (rm bs n, b.slots, [n]) else (chg bs n low, [], []) := by
    show (match get bs n with | none => _ | some b => _) = _
    rw [hb]
    rfl
  rw [ef]
  by_cases hw : b.wt = 1
  · rw [if_pos hw, if_pos hw, go_nones h0]
    rfl
  · rw [if_neg hw, if_neg hw, go_nones (fun x hx => by cases hx)]
    rfl
/-- all slots are empty -/
def Bare (P : Pl) : Prop := ∀ n b, get P.boxes n = some b → ∀ x ∈ b.slots, x = none
theorem cnt_nones {l : List (Option Int)} (h : ∀ x ∈ l, x = none) (n : Int) : cnt l n = 0 := by
  cases e : cnt l n with
  | zero => rfl
  | succ k =>
    have : 0 < cnt l n := by omega
    have := h _ (cnt_pos.mp this)
    cases this
theorem scnt_bare {bs : List (Int × Bx)} (hn : (keys bs).Nodup) (h : ∀ n b, get bs n = some b → ∀ x ∈ b.slots, x = none) (n : Int) : scnt bs n = 0 := by
  have h' : ∀ e ∈ bs, ∀ x ∈ e.2.slots, x = none := fun e he => h e.1 e.2 (mem_get hn he)
  clear h hn
  induction bs with
  | nil => rfl
  | cons e bs ih =>
    rw [scnt_cons, cnt_nones (h' e List.mem_cons_self), ih fun e he => h' e (List.mem_cons_of_mem _ he)]
theorem Bare.wt {P : Pl} (h : Bare P) (W : Wf P []) {n : Int} {b : Bx} (hb : get P.boxes n = some b) : b.wt = (cnt P.hands n : Int) ∧ 1 ≤ b.wt := by
  obtain ⟨a, c⟩ := W.wt n b hb
  rw [scnt_bare W.nd h n, cnt_nil] at a
  exact ⟨by omega, c⟩
theorem Bare.held {P : Pl} (h : Bare P) (W : Wf P []) (n : Int) : n ∈ keys P.boxes ↔ some n ∈ P.hands := by
  constructor
  · intro q
    obtain ⟨b, hb⟩ := get_keys.mpr q
    obtain ⟨a, c⟩ := h.wt W hb
    exact cnt_pos.mp (by omega)
  · intro q
    have := cnt_pos.mpr q
    exact get_keys.mp (W.cl n (by omega))
/-- what the hands hold, without the empty ones -/
def somes (hs : List (Option Int)) : List Int := hs.filterMap id
theorem mem_somes {hs : List (Option Int)} {n : Int} : n ∈ somes hs ↔ some n ∈ hs := by
  unfold somes
  rw [List.mem_filterMap]
  constructor
  · rintro ⟨x, hx, e⟩
    have : x = some n := e
    rw [← this]
    exact hx
  · intro h
    exact ⟨_, h, rfl⟩
theorem somes_len (hs : List (Option Int)) : (somes hs).length ≤ hs.length := List.length_filterMap_le _ _
theorem somes_cons (x : Option Int) (hs : List (Option Int)) : somes (x :: hs) = (match x with | none => somes hs | some n => n :: somes hs) := by
  cases x <;> rfl
theorem somes_append (a b : List (Option Int)) : somes (a ++ b) = somes a ++ somes b := List.filterMap_append
theorem count_somes (n : Int) : ∀ hs : List (Option Int), (somes hs).count n = cnt hs n
  | [] => rfl
  | x :: hs => by
    rw [somes_cons, cnt_cons, ← count_somes n hs]
    cases x with
    | none => simp [one]
    | some m =>
      show (m :: somes hs).count n = _
      rw [List.count_cons]
      by_cases q : m = n
      · simp [one, q]; omega
      · simp [one, q]
/-- as many alive as hands at most -/
theorem nodup_le {a : List Int} : ∀ {b : List Int}, a.Nodup → (∀ n ∈ a, n ∈ b) → a.length ≤ b.length := by
  induction a with
  | nil => intro b _ _; exact Nat.zero_le _
  | cons x a ih =>
    intro b hn h
    have hx := h x List.mem_cons_self
    have hn' := List.nodup_cons.mp hn
    have := ih (b := b.erase x) hn'.2 fun n q => (List.mem_erase_of_ne (fun z => hn'.1 (by rw [← z]; exact q))).mpr (h n (List.mem_cons_of_mem _ q))
    rw [List.length_erase_of_mem hx] at this
    have : 0 < b.length := List.length_pos_of_mem hx
    rw [List.length_cons]
    omega
theorem Bare.few {P : Pl} (h : Bare P) (W : Wf P []) : P.boxes.length ≤ 8 := by
  have e : (keys P.boxes).length = P.boxes.length := List.length_map _
  have h1 := nodup_le (b := somes P.hands) W.nd fun n q => mem_somes.mpr ((h.held W n).mp q)
  have h2 := somes_len P.hands
  rw [W.hl] at h2
  omega

/-! ### a box made -/
theorem Bare.born {P : Pl} (h : Bare P) (W : Wf P []) (size : Nat) : Bare (born P size) := fun n b e => by
  rw [get_born W size] at e
  by_cases q : n = P.made
  · rw [if_pos q] at e
    have := Option.some.inj e
    subst this
    intro x hx
    exact List.eq_of_mem_replicate hx
  · rw [if_neg q] at e
    exact h n b e
theorem slots_bumped {bs : List (Int × Bx)} {x : Option Int} (h : ∀ n b, get bs n = some b → ∀ y ∈ b.slots, y = none) : ∀ n b, get (bumped bs x) n = some b → ∀ y ∈ b.slots, y = none := fun n b e => by
  rw [get_bumped] at e
  cases g : get bs n with
  | none => rw [g] at e; cases e
  | some d =>
    rw [g] at e
    have e2 : (if x = some n then bump d else d) = b := Option.some.inj e
    subst e2
    have := h n d g
    by_cases q : x = some n
    · rw [if_pos q]; exact this
    · rw [if_neg q]; exact this
/-- a hand points at x: what becomes of the pile whose slots are empty -/
theorem ptHand_none {P : Pl} {h : Nat} {x : Option Int} (e : P.hands.getD h none = none) : ptHand P h x = ({ P with hands := P.hands.set h x, boxes := bumped P.boxes x }, []) := by
  unfold ptHand
  rw [e, run_none]
theorem ptHand_some {P : Pl} {h : Nat} {x : Option Int} {n : Int} {b : Bx} (B : Bare P) (e : P.hands.getD h none = some n) (hb : get P.boxes n = some b) :
    ptHand P h x = if (if x = some n then b.wt + 1 else b.wt) = 1 then ({ P with hands := P.hands.set h x, boxes := rm (bumped P.boxes x) n }, [n]) else ({ P with hands := P.hands.set h x, boxes := chg (bumped P.boxes x) n low }, []) := by
  have hb' : get (bumped P.boxes x) n = some (if x = some n then bump b else b) := by rw [get_bumped, hb]; rfl
  unfold ptHand
  rw [e, run_some hb' (slots_bumped B n _ hb')]
  have : (if x = some n then bump b else b).wt = (if x = some n then b.wt + 1 else b.wt) := by
    by_cases q : x = some n
    · rw [if_pos q, if_pos q]; rfl
    · rw [if_neg q, if_neg q]
  rw [this]
  by_cases q : (if x = some n then b.wt + 1 else b.wt) = 1
  · rw [if_pos q, if_pos q]
  · rw [if_neg q, if_neg q]
/-! ### each alive box is held once, none is a suspect -/
def lone : Option Int → List Int
  | none => []
  | some n => [n]
def One (P : Pl) : Prop := Bare P ∧ ∀ n b, get P.boxes n = some b → b.wt = 1 ∧ b.sus = false
theorem mk_one {P : Pl} (W : Wf P []) (O : One P) {h size : Nat} (hi : h < 8) (hs : size ≤ 6) :
    One (mk P h size).1 ∧ (mk P h size).1.hands = P.hands.set h (some P.made) ∧ (mk P h size).1.made = P.made + 1 ∧ (mk P h size).2 = lone (P.hands.getD h none) ∧
      get (mk P h size).1.boxes P.made = some ⟨List.replicate size none, 1, false⟩ := by
  have gb : ∀ n, get (bumped (born P size).boxes (some P.made)) n = if n = P.made then some ⟨List.replicate size none, 1, false⟩ else get P.boxes n := fun n => by
    rw [get_bumped, get_born W]
    by_cases q : n = P.made
    · rw [if_pos q, if_pos q, q]
      show some (if some P.made = some P.made then _ else _) = _
      rw [if_pos rfl]
      rfl
    · rw [if_neg q, if_neg q]
      cases get P.boxes n with
      | none => rfl
      | some b =>
        show some (if some P.made = some n then _ else _) = _
        rw [if_neg fun z => q (Option.some.inj z).symm]
  have one : ∀ n b, (if n = P.made then some (⟨List.replicate size none, 1, false⟩ : Bx) else get P.boxes n) = some b → (b.wt = 1 ∧ b.sus = false) ∧ ∀ x ∈ b.slots, x = none := fun n b e => by
    by_cases q : n = P.made
    · rw [if_pos q] at e
      have := Option.some.inj e
      subst this
      exact ⟨⟨rfl, rfl⟩, fun x hx => List.eq_of_mem_replicate hx⟩
    · rw [if_neg q] at e
      exact ⟨O.2 n b e, O.1 n b e⟩
  unfold mk
  cases e : P.hands.getD h none with
  | none =>
    rw [ptHand_none (P := born P size) e]
    refine ⟨⟨fun n b g => ?_, fun n b g => ?_⟩, rfl, rfl, rfl, ?_⟩
    · have g' := (gb n).symm.trans g
      exact (one n b g').2
    · have g' := (gb n).symm.trans g
      exact (one n b g').1
    · exact (gb P.made).trans (if_pos rfl)
  | some n =>
    obtain ⟨b, hb⟩ := W.hand e
    have nm : n ≠ P.made := fun z => by
      have := (W.lo n (get_keys.mp ⟨b, hb⟩)).2
      omega
    have hb' : get (born P size).boxes n = some b := by rw [get_born W, if_neg nm]; exact hb
    have nx : ¬ (some P.made = some n) := fun z => nm (Option.some.inj z).symm
    rw [ptHand_some (P := born P size) (Bare.born O.1 W size) e hb', if_neg nx, if_pos (O.2 n b hb).1]
    have gr : ∀ m, get (rm (bumped (born P size).boxes (some P.made)) n) m = if m = n then none else (if m = P.made then some ⟨List.replicate size none, 1, false⟩ else get P.boxes m) := fun m => by
      rw [get_rm, gb]
    refine ⟨⟨fun m c g => ?_, fun m c g => ?_⟩, rfl, rfl, rfl, ?_⟩
    · have g' := (gr m).symm.trans g
      by_cases q : m = n
      · rw [if_pos q] at g'; cases g'
      · rw [if_neg q] at g'
        exact (one m c g').2
    · have g' := (gr m).symm.trans g
      by_cases q : m = n
      · rw [if_pos q] at g'; cases g'
      · rw [if_neg q] at g'
        exact (one m c g').1
    · exact (gr P.made).trans (by rw [if_neg nm.symm, if_pos rfl])
theorem count_nodup {l : List Int} (h : l.Nodup) (n : Int) : l.count n = if n ∈ l then 1 else 0 := by
  by_cases q : n ∈ l
  · rw [if_pos q]
    have h1 := List.count_pos_iff.mpr q
    have h2 := List.nodup_iff_count.mp h n
    omega
  · rw [if_neg q]
    exact List.count_eq_zero.mpr q
/-- what is alive is what hands hold, each once -/
theorem One.perm {P : Pl} (W : Wf P []) (O : One P) : (somes P.hands).Perm (keys P.boxes) := by
  rw [List.perm_iff_count]
  intro n
  rw [count_somes, count_nodup W.nd]
  by_cases q : n ∈ keys P.boxes
  · rw [if_pos q]
    obtain ⟨b, hb⟩ := get_keys.mpr q
    have h1 := (O.1.wt W hb).1
    rw [(O.2 n b hb).1] at h1
    omega
  · rw [if_neg q]
    have := mt (O.1.held W n).mpr q
    cases e : cnt P.hands n with
    | zero => rfl
    | succ k => exact absurd (cnt_pos.mp (by omega)) this
theorem one0 : One pl0 := ⟨fun n b e => by simp [pl0, get_nil] at e, fun n b e => by simp [pl0, get_nil] at e⟩
end BP

/-! Two boxes that two hands hold for good. Own work; core Lean alone. -/
namespace BP
theorem run_stay {bs : List (Int × Bx)} {n : Int} {b : Bx} (hb : get bs n = some b) (hw : b.wt ≠ 1) : run bs [some n] = (chg bs n low, []) := by
  show go (1 + room bs) bs [some n] = _
  rw [Nat.add_comm]
  show ((go (room bs) (fall bs [] (some n)).1 (fall bs [] (some n)).2.1).1, (fall bs [] (some n)).2.2 ++ (go (room bs) (fall bs [] (some n)).1 (fall bs [] (some n)).2.1).2) = _
  have ef : fall bs [] (some n) = (chg bs n low, [], []) := by
    show (match get bs n with | none => _ | some b => _) = _
    rw [hb]
    show (if b.wt = 1 then _ else _) = _
    rw [if_neg hw]
  rw [ef, go_nones (fun x hx => by cases hx)]
  rfl
/-- the two boxes, by their slots -/
def Shape (bs : List (Int × Bx)) (s0 s1 : List (Option Int)) : Prop := ∃ b0 b1 : Bx, bs = [(0, b0), (1, b1)] ∧ b0.slots = s0 ∧ b1.slots = s1
theorem Shape.chg {bs : List (Int × Bx)} {s0 s1 : List (Option Int)} (h : Shape bs s0 s1) (n : Int) (f : Bx → Bx) (hf : ∀ b, (f b).slots = b.slots) : Shape (chg bs n f) s0 s1 := by
  obtain ⟨b0, b1, rfl, e0, e1⟩ := h
  refine ⟨if (0 : Int) = n then f b0 else b0, if (1 : Int) = n then f b1 else b1, ?_, ?_, ?_⟩
  · show [if (0 : Int) = n then (0, f b0) else (0, b0), if (1 : Int) = n then (1, f b1) else (1, b1)] = _
    by_cases q : (0 : Int) = n
    · by_cases q2 : (1 : Int) = n
      · omega
      · rw [if_pos q, if_pos q, if_neg q2, if_neg q2]
    · by_cases q2 : (1 : Int) = n
      · rw [if_neg q, if_neg q, if_pos q2, if_pos q2]
      · rw [if_neg q, if_neg q, if_neg q2, if_neg q2]
  · by_cases q : (0 : Int) = n
    · rw [if_pos q, hf]; exact e0
    · rw [if_neg q]; exact e0
  · by_cases q : (1 : Int) = n
    · rw [if_pos q, hf]; exact e1
    · rw [if_neg q]; exact e1
theorem Shape.bumped {bs : List (Int × Bx)} {s0 s1 : List (Option Int)} (h : Shape bs s0 s1) (x : Option Int) : Shape (bumped bs x) s0 s1 := by
  cases x with
  | none => exact h
  | some n => exact h.chg n bump fun _ => rfl
theorem Shape.low {bs : List (Int × Bx)} {s0 s1 : List (Option Int)} (h : Shape bs s0 s1) (n : Int) : Shape (BP.chg bs n BP.low) s0 s1 := h.chg n BP.low fun _ => rfl
theorem Shape.set {bs : List (Int × Bx)} {s0 s1 : List (Option Int)} (h : Shape bs s0 s1) (n : Int) (i : Nat) (x : Option Int) :
    Shape (BP.chg bs n (setSlot i x)) (if n = 0 then s0.set i x else s0) (if n = 1 then s1.set i x else s1) := by
  obtain ⟨b0, b1, rfl, rfl, rfl⟩ := h
  refine ⟨if (0 : Int) = n then setSlot i x b0 else b0, if (1 : Int) = n then setSlot i x b1 else b1, ?_, ?_, ?_⟩
  · show [if (0 : Int) = n then (0, setSlot i x b0) else (0, b0), if (1 : Int) = n then (1, setSlot i x b1) else (1, b1)] = _
    by_cases q : (0 : Int) = n
    · by_cases q2 : (1 : Int) = n
      · omega
      · rw [if_pos q, if_pos q, if_neg q2, if_neg q2]
    · by_cases q2 : (1 : Int) = n
      · rw [if_neg q, if_neg q, if_pos q2, if_pos q2]
      · rw [if_neg q, if_neg q, if_neg q2, if_neg q2]
  · by_cases q : (0 : Int) = n
    · rw [if_pos q, if_pos q.symm]; rfl
    · rw [if_neg q, if_neg fun z => q z.symm]
  · by_cases q : (1 : Int) = n
    · rw [if_pos q, if_pos q.symm]; rfl
    · rw [if_neg q, if_neg fun z => q z.symm]
theorem Shape.keys {bs : List (Int × Bx)} {s0 s1 : List (Option Int)} (h : Shape bs s0 s1) : keys bs = [0, 1] := by
  obtain ⟨b0, b1, rfl, _, _⟩ := h
  rfl
theorem Shape.get0 {bs : List (Int × Bx)} {s0 s1 : List (Option Int)} (h : Shape bs s0 s1) : ∃ b, get bs 0 = some b ∧ b.slots = s0 := by
  obtain ⟨b0, b1, rfl, e, _⟩ := h
  exact ⟨b0, rfl, e⟩
theorem Shape.get1 {bs : List (Int × Bx)} {s0 s1 : List (Option Int)} (h : Shape bs s0 s1) : ∃ b, get bs 1 = some b ∧ b.slots = s1 := by
  obtain ⟨b0, b1, rfl, _, e⟩ := h
  exact ⟨b1, rfl, e⟩
theorem Shape.scnt {bs : List (Int × Bx)} {s0 s1 : List (Option Int)} (h : Shape bs s0 s1) (n : Int) : scnt bs n = cnt s0 n + cnt s1 n := by
  obtain ⟨b0, b1, rfl, rfl, rfl⟩ := h
  rw [scnt_cons, scnt_cons, scnt_nil]
  rfl
/-- two boxes, held by hands 6 and 7 -/
structure Two (P : Pl) (s0 s1 : List (Option Int)) : Prop where
  wf : Wf P []
  sh : Shape P.boxes s0 s1
  h6 : P.hands.getD 6 none = some 0
  h7 : P.hands.getD 7 none = some 1
theorem Two.alive {P : Pl} {s0 s1 : List (Option Int)} (h : Two P s0 s1) {n : Int} {b : Bx} (hb : get P.boxes n = some b) : n = 0 ∨ n = 1 := by
  have := get_keys.mp ⟨b, hb⟩
  rw [h.sh.keys] at this
  simpa using this
theorem held67 {hs : List (Option Int)} (h6 : hs.getD 6 none = some 0) (h7 : hs.getD 7 none = some 1) {n : Int} (hn : n = 0 ∨ n = 1) : 1 ≤ cnt hs n := by
  have mem : ∀ i k, hs.getD i none = some k → some k ∈ hs := fun i k e => by
    rw [List.getD_eq_getElem?_getD] at e
    cases q : hs[i]? with
    | none => rw [q] at e; cases e
    | some y =>
      rw [q] at e
      have : y = some k := e
      rw [← this]
      exact List.mem_of_getElem? q
  rcases hn with rfl | rfl
  · exact cnt_pos.mpr (mem _ _ h6)
  · exact cnt_pos.mpr (mem _ _ h7)
/-- what is let go beside them is not freed -/
theorem two_run {P : Pl} {s0 s1 : List (Option Int)} {o : Option Int} (W : Wf P [o]) (sh : Shape P.boxes s0 s1) (h6 : P.hands.getD 6 none = some 0) (h7 : P.hands.getD 7 none = some 1) :
    Shape (run P.boxes [o]).1 s0 s1 ∧ (run P.boxes [o]).2 = [] := by
  cases o with
  | none =>
    rw [run_none]
    exact ⟨sh, rfl⟩
  | some n =>
    obtain ⟨b, hb⟩ := W.cl n (by rw [cnt_cons]; simp [one]; omega)
    have hn : n = 0 ∨ n = 1 := by
      have := get_keys.mp ⟨b, hb⟩
      rw [sh.keys] at this
      simpa using this
    have h1 := held67 h6 h7 hn
    have h2 := (W.wt n b hb).1
    rw [cnt_cons, cnt_nil] at h2
    have o1 : one (some n) n = 1 := by simp [one]
    rw [o1] at h2
    rw [run_stay hb (by omega)]
    exact ⟨sh.low n, rfl⟩
theorem getD_set_ne {l : List (Option Int)} {i j : Nat} {x : Option Int} (h : j ≠ i) : (l.set i x).getD j none = l.getD j none := by
  rw [List.getD_eq_getElem?_getD, List.getD_eq_getElem?_getD, List.getElem?_set_ne (fun q => h q.symm)]
theorem Two.hand {P : Pl} {s0 s1 : List (Option Int)} (h : Two P s0 s1) {i : Nat} (hi : i < 6) {x : Option Int} (hx : ∀ n, x = some n → ∃ b, get P.boxes n = some b) :
    Two (ptHand P i x).1 s0 s1 ∧ (ptHand P i x).2 = [] := by
  have pre := h.wf.pre hx
  have W := pre.hand (show i < 8 by omega)
  have e6 : (P.hands.set i x).getD 6 none = some 0 := by rw [getD_set_ne (by omega)]; exact h.h6
  have e7 : (P.hands.set i x).getD 7 none = some 1 := by rw [getD_set_ne (by omega)]; exact h.h7
  obtain ⟨a, b⟩ := two_run W (h.sh.bumped x) e6 e7
  exact ⟨⟨ptHand_ok pre (by omega), a, e6, e7⟩, b⟩
theorem Two.slot {P : Pl} {s0 s1 : List (Option Int)} (h : Two P s0 s1) {n : Int} {b : Bx} (hb : get P.boxes n = some b) {i : Nat} (hi : i < b.slots.length) {x : Option Int} (hx : ∀ n, x = some n → ∃ b, get P.boxes n = some b) :
    Two (ptSlot P n i x).1 (if n = 0 then s0.set i x else s0) (if n = 1 then s1.set i x else s1) ∧ (ptSlot P n i x).2 = [] := by
  have pre := h.wf.pre hx
  have W := pre.slot hb hi
  obtain ⟨a, c⟩ := two_run W ((h.sh.bumped x).set n i x) h.h6 h.h7
  have e : slotOf P.boxes n i = b.slots.getD i none := by
    unfold slotOf
    rw [hb]
  have W2 := ptSlot_ok pre hb hi
  unfold ptSlot at W2 ⊢
  rw [e] at W2 ⊢
  exact ⟨⟨W2, a, h.h6, h.h7⟩, c⟩
/-- the two are made -/
theorem two_made {a b : Nat} (ha : a ≤ 6) (hb : b ≤ 6) : Two (mk (mk pl0 6 a).1 7 b).1 (List.replicate a none) (List.replicate b none) ∧ (mk pl0 6 a).2 = [] ∧ (mk (mk pl0 6 a).1 7 b).2 = [] ∧
    (mk (mk pl0 6 a).1 7 b).1.hands = [none, none, none, none, none, none, some 0, some 1] := by
  have e1 : mk pl0 6 a = (⟨[none, none, none, none, none, none, some 0, none], [(0, ⟨List.replicate a none, 1, false⟩)], 1⟩, []) := by
    unfold mk
    rw [ptHand_none rfl]
    rfl
  have W1 := mk_ok wf0 (i := 6) (size := a) (by decide) ha (by decide)
  have e2 : mk (mk pl0 6 a).1 7 b = (⟨[none, none, none, none, none, none, some 0, some 1], [(0, ⟨List.replicate a none, 1, false⟩), (1, ⟨List.replicate b none, 1, false⟩)], 2⟩, []) := by
    rw [e1]
    unfold mk
    rw [ptHand_none rfl]
    rfl
  have W2 := mk_ok W1 (i := 7) (size := b) (by decide) hb (by rw [e1]; show 1 < 60; omega)
  refine ⟨⟨W2, ?_, ?_, ?_⟩, by rw [e1], by rw [e2], by rw [e2]⟩
  · rw [e2]; exact ⟨_, _, rfl, rfl, rfl⟩
  · rw [e2]; rfl
  · rw [e2]; rfl
end BP

/-! Hands that hold boxes without pointers: what a deed frees, who is a suspect. Own work; core Lean alone. -/
namespace BP
/-- what a hand lets go of is freed where no hand holds it any more -/
def gone (hs : List (Option Int)) : Option Int → List Int
  | none => []
  | some n => if cnt hs n = 0 then [n] else []
theorem gone_sub {hs : List (Option Int)} {o : Option Int} {n : Int} : n ∈ gone hs o ↔ o = some n ∧ cnt hs n = 0 := by
  cases o with
  | none => simp [gone]
  | some m =>
    show (n ∈ if cnt hs m = 0 then [m] else []) ↔ _
    by_cases c : cnt hs m = 0
    · rw [if_pos c, List.mem_singleton]
      constructor
      · intro e; subst e; exact ⟨rfl, c⟩
      · rintro ⟨e, _⟩; exact (Option.some.inj e).symm
    · rw [if_neg c]
      constructor
      · intro e; cases e
      · rintro ⟨e, z⟩
        have : m = n := Option.some.inj e
        subst this
        exact absurd z c
/-- weights of boxes without pointers, the new one's too -/
theorem Pre.bareWt {P : Pl} {x : Option Int} (h : Pre P x) (B : Bare P) {n : Int} {b : Bx} (hb : get P.boxes n = some b) : b.wt = (cnt P.hands n : Int) := by
  have := (h.wt n b hb).1
  rw [scnt_bare (nodup_lt h.ks) B n] at this
  omega
structure HeldStep (P : Pl) (h : Nat) (x : Option Int) : Prop where
  bare : Bare (ptHand P h x).1
  hands : (ptHand P h x).1.hands = P.hands.set h x
  made : (ptHand P h x).1.made = P.made
  freed : (ptHand P h x).2 = gone (P.hands.set h x) (P.hands.getD h none)
  sus : ∀ m, (∃ b, get (ptHand P h x).1.boxes m = some b ∧ b.sus = true) ↔ (m ∉ gone (P.hands.set h x) (P.hands.getD h none) ∧ ((∃ b, get P.boxes m = some b ∧ b.sus = true) ∨ (P.hands.getD h none = some m)))
theorem heldStep {P : Pl} {x : Option Int} (B : Bare P) (h : Pre P x) {i : Nat} (hi : i < 8) : HeldStep P i x := by
  have gbs : ∀ m, get (bumped P.boxes x) m = (get P.boxes m).map fun b => if x = some m then bump b else b := fun m => get_bumped
  have sb : ∀ m b, get (bumped P.boxes x) m = some b → ∃ d, get P.boxes m = some d ∧ b.sus = d.sus ∧ b.slots = d.slots := fun m b e => by
    rw [gbs] at e
    cases g : get P.boxes m with
    | none => rw [g] at e; cases e
    | some d =>
      rw [g] at e
      have e2 : (if x = some m then bump d else d) = b := Option.some.inj e
      subst e2
      refine ⟨d, rfl, ?_⟩
      by_cases q : x = some m
      · rw [if_pos q]; exact ⟨rfl, rfl⟩
      · rw [if_neg q]; exact ⟨rfl, rfl⟩
  have sb2 : ∀ m d, get P.boxes m = some d → ∃ b, get (bumped P.boxes x) m = some b ∧ b.sus = d.sus := fun m d e => by
    rw [gbs, e]
    refine ⟨_, rfl, ?_⟩
    show (if x = some m then bump d else d).sus = d.sus
    by_cases q : x = some m
    · rw [if_pos q]; rfl
    · rw [if_neg q]
  have hold := getD_some (l := P.hands) (i := i) (by rw [h.hl]; exact hi)
  cases e : P.hands.getD i none with
  | none =>
    have ep := ptHand_none (P := P) (x := x) e
    rw [e] at hold
    refine ⟨?_, by rw [ep], by rw [ep], by rw [ep, e]; rfl, fun m => ?_⟩
    · rw [ep]
      intro n b g
      obtain ⟨d, hd, _, es⟩ := sb n b g
      rw [es]
      exact B n d hd
    · rw [ep, e]
      constructor
      · rintro ⟨b, g, s⟩
        obtain ⟨d, hd, es, _⟩ := sb m b g
        exact ⟨fun z => (by cases z), .inl ⟨d, hd, by rw [← es]; exact s⟩⟩
      · rintro ⟨_, z | z⟩
        · obtain ⟨d, hd, s⟩ := z
          obtain ⟨b, g, es⟩ := sb2 m d hd
          exact ⟨b, g, by rw [es]; exact s⟩
        · cases z
  | some n =>
    rw [e] at hold
    obtain ⟨b, hb⟩ : ∃ b, get P.boxes n = some b := h.cl n (by
      have : 0 < cnt P.hands n := cnt_pos.mpr (List.mem_of_getElem? hold)
      omega)
    have ep := ptHand_some (x := x) B e hb
    have ew := h.bareWt B hb
    have ec := cnt_set x n hold
    have o1 : one (some n) n = 1 := by simp [one]
    rw [o1] at ec
    have key : ((if x = some n then b.wt + 1 else b.wt) = 1) ↔ cnt (P.hands.set i x) n = 0 := by
      by_cases q : x = some n
      · rw [if_pos q]
        have : one x n = 1 := by simp [one, q]
        rw [this] at ec
        omega
      · rw [if_neg q]
        have : one x n = 0 := by simp [one, q]
        rw [this] at ec
        omega
    by_cases c : cnt (P.hands.set i x) n = 0
    · rw [if_pos (key.mpr c)] at ep
      have eg : gone (P.hands.set i x) (some n) = [n] := if_pos c
      refine ⟨?_, by rw [ep], by rw [ep], by rw [ep, e, eg], fun m => ?_⟩
      · rw [ep]
        intro m d g
        have g' : get (rm (bumped P.boxes x) n) m = some d := g
        rw [get_rm] at g'
        by_cases q : m = n
        · rw [if_pos q] at g'; cases g'
        · rw [if_neg q] at g'
          obtain ⟨d2, hd, _, es⟩ := sb m d g'
          rw [es]
          exact B m d2 hd
      · rw [ep, e, eg]
        constructor
        · rintro ⟨d, g, s⟩
          have g' : get (rm (bumped P.boxes x) n) m = some d := g
          rw [get_rm] at g'
          by_cases q : m = n
          · rw [if_pos q] at g'; cases g'
          · rw [if_neg q] at g'
            obtain ⟨d2, hd, es, _⟩ := sb m d g'
            exact ⟨fun z => q (List.mem_singleton.mp z), .inl ⟨d2, hd, by rw [← es]; exact s⟩⟩
        · rintro ⟨nm, z⟩
          have q : m ≠ n := fun z => nm (List.mem_singleton.mpr z)
          rcases z with ⟨d, hd, s⟩ | z
          · obtain ⟨d2, g, es⟩ := sb2 m d hd
            refine ⟨d2, ?_, by rw [es]; exact s⟩
            show get (rm (bumped P.boxes x) n) m = some d2
            rw [get_rm, if_neg q]
            exact g
          · exact absurd (Option.some.inj z).symm q
    · rw [if_neg (mt key.mp c)] at ep
      have eg : gone (P.hands.set i x) (some n) = [] := if_neg c
      refine ⟨?_, by rw [ep], by rw [ep], by rw [ep, e, eg], fun m => ?_⟩
      · rw [ep]
        intro m d g
        have g' : get (chg (bumped P.boxes x) n low) m = some d := g
        rw [get_chg] at g'
        cases g2 : get (bumped P.boxes x) m with
        | none => rw [g2] at g'; cases g'
        | some d2 =>
          rw [g2] at g'
          have e2 : (if m = n then low d2 else d2) = d := Option.some.inj g'
          obtain ⟨d3, hd, _, es⟩ := sb m d2 g2
          have : d.slots = d3.slots := by
            rw [← e2, ← es]
            by_cases q : m = n
            · rw [if_pos q]; rfl
            · rw [if_neg q]
          rw [this]
          exact B m d3 hd
      · rw [ep, e, eg]
        constructor
        · rintro ⟨d, g, s⟩
          have g' : get (chg (bumped P.boxes x) n low) m = some d := g
          rw [get_chg] at g'
          cases g2 : get (bumped P.boxes x) m with
          | none => rw [g2] at g'; cases g'
          | some d2 =>
            rw [g2] at g'
            have e2 : (if m = n then low d2 else d2) = d := Option.some.inj g'
            obtain ⟨d3, hd, es, _⟩ := sb m d2 g2
            refine ⟨fun z => (by cases z), ?_⟩
            by_cases q : m = n
            · exact .inr (by rw [q])
            · rw [if_neg q] at e2
              subst e2
              exact .inl ⟨d3, hd, by rw [← es]; exact s⟩
        · rintro ⟨_, z⟩
          have : ∃ d, get P.boxes m = some d ∧ (m = n ∨ d.sus = true) := by
            rcases z with ⟨d, hd, s⟩ | z
            · exact ⟨d, hd, .inr s⟩
            · have : n = m := Option.some.inj z
              subst this
              exact ⟨b, hb, .inl rfl⟩
          obtain ⟨d, hd, s⟩ := this
          obtain ⟨d2, g, es⟩ := sb2 m d hd
          refine ⟨if m = n then low d2 else d2, ?_, ?_⟩
          · show get (chg (bumped P.boxes x) n low) m = _
            rw [get_chg, g]
            rfl
          · by_cases q : m = n
            · rw [if_pos q]; rfl
            · rw [if_neg q, es]
              exact s.resolve_left q
/-- D names just the suspects, each once -/
def Doubt (D : List Int) (P : Pl) : Prop := D.Nodup ∧ ∀ n, n ∈ D ↔ ∃ b, get P.boxes n = some b ∧ b.sus = true
theorem doubt0 : Doubt [] pl0 := ⟨List.nodup_nil, fun n => ⟨fun h => (by cases h), fun ⟨b, e, _⟩ => by simp [pl0, get_nil] at e⟩⟩
theorem Doubt.born {D : List Int} {P : Pl} (h : Doubt D P) (W : Wf P []) (size : Nat) : Doubt D (born P size) := ⟨h.1, fun n => by
  rw [h.2 n]
  constructor
  · rintro ⟨b, hb, s⟩
    refine ⟨b, ?_, s⟩
    have : n ≠ P.made := fun z => by
      have := (W.lo n (get_keys.mp ⟨b, hb⟩)).2
      omega
    rw [get_born W, if_neg this]
    exact hb
  · rintro ⟨b, hb, s⟩
    rw [get_born W] at hb
    by_cases q : n = P.made
    · rw [if_pos q] at hb
      have := Option.some.inj hb
      rw [← this] at s
      cases s
    · rw [if_neg q] at hb
      exact ⟨b, hb, s⟩⟩
/-- how the law goes on with them: the old one comes to them, what is freed goes -/
def doubted (D : List Int) (hs : List (Option Int)) (o : Option Int) : List Int :=
  match o with
  | none => D
  | some n => if cnt hs n = 0 then D else if n ∈ D then D else D ++ [n]
theorem doubted_nodup {D : List Int} {hs : List (Option Int)} {o : Option Int} (h : D.Nodup) : (doubted D hs o).Nodup := by
  unfold doubted
  cases o with
  | none => exact h
  | some n =>
    show (if cnt hs n = 0 then D else if n ∈ D then D else D ++ [n]).Nodup
    by_cases c : cnt hs n = 0
    · rw [if_pos c]; exact h
    · rw [if_neg c]
      by_cases q : n ∈ D
      · rw [if_pos q]; exact h
      · rw [if_neg q, List.nodup_append]
        refine ⟨h, by simp, fun a ha b hb => ?_⟩
        have : b = n := by simpa using hb
        subst this
        exact fun z => q (by rw [← z]; exact ha)
theorem mem_doubted {D : List Int} {hs : List (Option Int)} {o : Option Int} {m : Int} : m ∈ doubted D hs o ↔ m ∈ D ∨ (o = some m ∧ cnt hs m ≠ 0) := by
  unfold doubted
  cases o with
  | none => simp
  | some n =>
    show m ∈ (if cnt hs n = 0 then D else if n ∈ D then D else D ++ [n]) ↔ _
    by_cases c : cnt hs n = 0
    · rw [if_pos c]
      constructor
      · exact .inl
      · rintro (z | ⟨z, y⟩)
        · exact z
        · have : n = m := Option.some.inj z
          subst this
          exact absurd c y
    · rw [if_neg c]
      by_cases q : n ∈ D
      · rw [if_pos q]
        constructor
        · exact .inl
        · rintro (z | ⟨z, y⟩)
          · exact z
          · have : n = m := Option.some.inj z
            subst this
            exact q
      · rw [if_neg q, List.mem_append, List.mem_singleton]
        constructor
        · rintro (z | z)
          · exact .inl z
          · subst z; exact .inr ⟨rfl, c⟩
        · rintro (z | ⟨z, y⟩)
          · exact .inl z
          · exact .inr (Option.some.inj z).symm
theorem Doubt.step {D : List Int} {P : Pl} {i : Nat} {x : Option Int} (h : Doubt D P) (S : HeldStep P i x) :
    Doubt ((doubted D (P.hands.set i x) (P.hands.getD i none)).filter fun n => decide (n ∉ gone (P.hands.set i x) (P.hands.getD i none))) (ptHand P i x).1 := by
  refine ⟨(doubted_nodup h.1).filter _, fun m => ?_⟩
  rw [S.sus m, List.mem_filter, mem_doubted, h.2 m, decide_eq_true_iff]
  constructor
  · rintro ⟨a | ⟨a, b⟩, c⟩
    · exact ⟨c, .inl a⟩
    · exact ⟨c, .inr a⟩
  · rintro ⟨c, a | a⟩
    · exact ⟨.inl a, c⟩
    · refine ⟨.inr ⟨a, fun z => c (gone_sub.mpr ⟨a, z⟩)⟩, c⟩
theorem mem_susp {P : Pl} {n : Int} : n ∈ susp P ↔ ∃ b, get P.boxes n = some b ∧ b.sus = true := by
  unfold susp
  rw [List.mem_filter]
  constructor
  · rintro ⟨_, e⟩
    cases g : get P.boxes n with
    | none => rw [g] at e; cases e
    | some b =>
      rw [g] at e
      exact ⟨b, rfl, e⟩
  · rintro ⟨b, g, s⟩
    refine ⟨get_keys.mp ⟨b, g⟩, ?_⟩
    rw [g]
    exact s
theorem susp_sorted {P : Pl} {w : List (Option Int)} (W : Wf P w) : (susp P).Pairwise (· < ·) := W.ks.filter _
theorem perm_of_mem {a b : List Int} (ha : a.Nodup) (hb : b.Nodup) (h : ∀ n, n ∈ a ↔ n ∈ b) : a.Perm b := by
  rw [List.perm_iff_count]
  intro n
  rw [count_nodup ha, count_nodup hb]
  by_cases q : n ∈ a
  · rw [if_pos q, if_pos ((h n).mp q)]
  · rw [if_neg q, if_neg (mt (h n).mpr q)]
theorem Doubt.perm {D : List Int} {P : Pl} {w : List (Option Int)} (h : Doubt D P) (W : Wf P w) : D.Perm (susp P) :=
  perm_of_mem h.1 (nodup_lt (susp_sorted W)) fun n => by rw [h.2 n, mem_susp]
theorem sorted_mem_eq {a b : List Int} (ha : a.Pairwise (· < ·)) (hb : b.Pairwise (· < ·)) (h : ∀ n, n ∈ a ↔ n ∈ b) : a = b :=
  (perm_of_mem (nodup_lt ha) (nodup_lt hb) h).eq_of_pairwise (fun x y _ _ h1 h2 => Int.le_antisymm h1 h2) (ha.imp fun h => Int.le_of_lt h) (hb.imp fun h => Int.le_of_lt h)
end BP

/-! Boxes numbered from 1 on, in whose making nothing is freed. Own work; core Lean alone. -/
namespace BP
/-- nothing is freed where the pointer let go is not the last one -/
theorem stay {S : Pl} {o : Option Int} (W : Wf S [o]) (ho : ∀ n, o = some n → 0 < cnt S.hands n + scnt S.boxes n) :
    (run S.boxes [o]).2 = [] ∧ ((run S.boxes [o]).1 = S.boxes ∨ ∃ n, (run S.boxes [o]).1 = chg S.boxes n low) := by
  cases o with
  | none =>
    rw [run_none]
    exact ⟨rfl, .inl rfl⟩
  | some n =>
    obtain ⟨b, hb⟩ := W.cl n (by rw [cnt_cons]; simp [one]; omega)
    have h1 := ho n rfl
    have h2 := (W.wt n b hb).1
    rw [cnt_cons, cnt_nil] at h2
    have o1 : one (some n) n = 1 := by simp [one]
    rw [o1] at h2
    rw [run_stay hb (by omega)]
    exact ⟨rfl, .inr ⟨n, rfl⟩⟩
/-- the boxes 1, 2, .. with the slots of the rows behind the first one -/
structure Rows (P : Pl) (rs : List (List (Option Int))) : Prop where
  wf : Wf P []
  made : P.made = (rs.length : Int)
  pos : 1 ≤ rs.length
  ks : ∀ n : Int, n ∈ keys P.boxes ↔ (1 ≤ n ∧ n < (rs.length : Int))
  sl : ∀ n b, get P.boxes n = some b → rs[n.toNat]? = some b.slots
/-- what stays where pointers' counts alone change -/
def Alike (as bs : List (Int × Bx)) : Prop := keys as = keys bs ∧ (∀ n b, get as n = some b → ∃ c, get bs n = some c ∧ c.slots = b.slots) ∧ ∀ n, scnt as n = scnt bs n
theorem Alike.refl (bs : List (Int × Bx)) : Alike bs bs := ⟨rfl, fun n b e => ⟨b, e, rfl⟩, fun _ => rfl⟩
theorem Alike.trans {a b c : List (Int × Bx)} (h : Alike a b) (k : Alike b c) : Alike a c := ⟨h.1.trans k.1, fun n x e => by
  obtain ⟨y, h1, e1⟩ := h.2.1 n x e
  obtain ⟨z, h2, e2⟩ := k.2.1 n y h1
  exact ⟨z, h2, e2.trans e1⟩, fun n => (h.2.2 n).trans (k.2.2 n)⟩
theorem alike_chg (bs : List (Int × Bx)) (n : Int) (f : Bx → Bx) (hf : ∀ b, (f b).slots = b.slots) : Alike (chg bs n f) bs := by
  refine ⟨keys_chg _ _ _, fun m b e => ?_, fun m => scnt_chg_same hf m bs⟩
  rw [get_chg] at e
  cases g : get bs m with
  | none => rw [g] at e; cases e
  | some d =>
    rw [g] at e
    have e2 : (if m = n then f d else d) = b := Option.some.inj e
    refine ⟨d, rfl, ?_⟩
    rw [← e2]
    by_cases q : m = n
    · rw [if_pos q, hf]
    · rw [if_neg q]
theorem alike_bumped (bs : List (Int × Bx)) (x : Option Int) : Alike (bumped bs x) bs := by
  cases x with
  | none => exact Alike.refl bs
  | some n => exact alike_chg bs n bump fun _ => rfl
theorem Rows.alike {P P' : Pl} {rs : List (List (Option Int))} (h : Rows P rs) (W : Wf P' []) (m : P'.made = P.made) (a : Alike P'.boxes P.boxes) : Rows P' rs :=
  ⟨W, m.trans h.made, h.pos, fun n => by rw [a.1]; exact h.ks n, fun n b e => by
    obtain ⟨c, hc, es⟩ := a.2.1 n b e
    rw [← es]
    exact h.sl n c hc⟩
theorem Rows.hand {P : Pl} {rs : List (List (Option Int))} (h : Rows P rs) {i : Nat} (hi : i < 8) {x : Option Int} (hx : ∀ n, x = some n → ∃ b, get P.boxes n = some b)
    (ho : ∀ n, P.hands.getD i none = some n → 0 < cnt (P.hands.set i x) n + scnt P.boxes n) :
    Rows (ptHand P i x).1 rs ∧ (ptHand P i x).2 = [] ∧ (ptHand P i x).1.hands = P.hands.set i x ∧ ∀ n, scnt (ptHand P i x).1.boxes n = scnt P.boxes n := by
  have pre := h.wf.pre hx
  have W := pre.hand hi
  obtain ⟨f, g⟩ := stay W fun n e => by
    show 0 < cnt (P.hands.set i x) n + scnt (bumped P.boxes x) n
    rw [scnt_bumped]
    exact ho n e
  have al : Alike (ptHand P i x).1.boxes P.boxes := by
    have ab := alike_bumped P.boxes x
    rcases g with g | ⟨n, g⟩
    · show Alike (run (bumped P.boxes x) [P.hands.getD i none]).1 P.boxes
      rw [show (run (bumped P.boxes x) [P.hands.getD i none]).1 = bumped P.boxes x from g]
      exact ab
    · show Alike (run (bumped P.boxes x) [P.hands.getD i none]).1 P.boxes
      rw [show (run (bumped P.boxes x) [P.hands.getD i none]).1 = chg (bumped P.boxes x) n low from g]
      exact (alike_chg _ n low fun _ => rfl).trans ab
  exact ⟨h.alike (ptHand_ok pre hi) rfl al, f, rfl, al.2.2⟩
theorem Rows.len {P : Pl} {rs : List (List (Option Int))} (h : Rows P rs) : P.boxes.length + 1 ≤ rs.length := by
  have e : (keys P.boxes).length = P.boxes.length := List.length_map _
  have := nodup_le (a := keys P.boxes) (b := (List.range (rs.length - 1)).map fun i => ((i : Nat) : Int) + 1) h.wf.nd fun n hn => by
    obtain ⟨a, b⟩ := (h.ks n).mp hn
    rw [List.mem_map]
    exact ⟨(n - 1).toNat, List.mem_range.mpr (by omega), by omega⟩
  rw [List.length_map, List.length_range] at this
  have := h.pos
  omega
theorem Rows.make {P : Pl} {rs : List (List (Option Int))} (h : Rows P rs) {i size : Nat} (hi : i < 8) (hs : size ≤ 6) (hl : rs.length ≤ 60) (hn : P.hands.getD i none = none) :
    Rows (BP.mk P i size).1 (rs ++ [List.replicate size none]) ∧ (BP.mk P i size).2 = [] ∧ (BP.mk P i size).1.hands = P.hands.set i (some P.made) ∧ ∀ n, scnt (BP.mk P i size).1.boxes n = scnt P.boxes n := by
  have few := h.len
  have W := mk_ok h.wf hi hs (by omega)
  have gb := get_born h.wf size
  have e : BP.mk P i size = ({ born P size with hands := P.hands.set i (some P.made), boxes := bumped (born P size).boxes (some P.made) }, []) := by
    unfold BP.mk
    exact ptHand_none hn
  have ab := alike_bumped (born P size).boxes (some P.made)
  have kb : keys (born P size).boxes = keys P.boxes ++ [P.made] := by
    show keys (P.boxes ++ _) = _
    unfold keys
    rw [List.map_append]
    rfl
  have hmade := h.made
  have hpos := h.pos
  rw [e] at W ⊢
  refine ⟨⟨W, ?_, by rw [List.length_append]; omega, fun n => ?_, fun n b g => ?_⟩, rfl, rfl, fun n => (ab.2.2 n).trans (scnt_born P size n)⟩
  · show P.made + 1 = _
    rw [List.length_append, List.length_singleton, hmade]
    rfl
  · show n ∈ keys (bumped (born P size).boxes (some P.made)) ↔ _
    rw [ab.1, kb, List.mem_append, h.ks n, List.mem_singleton, List.length_append, List.length_singleton, hmade]
    omega
  · obtain ⟨c, hc, es⟩ := ab.2.1 n b g
    rw [← es]
    rw [gb] at hc
    by_cases q : n = P.made
    · rw [if_pos q] at hc
      have := Option.some.inj hc
      subst this
      have : n.toNat = rs.length := by omega
      rw [this, List.getElem?_append_right (Nat.le_refl _), Nat.sub_self]
      rfl
    · rw [if_neg q] at hc
      have h1 := h.sl n c hc
      have := (List.getElem?_eq_some_iff.mp h1).1
      rw [List.getElem?_append_left this]
      exact h1
theorem Rows.get {P : Pl} {rs : List (List (Option Int))} (h : Rows P rs) {n : Int} (h1 : 1 ≤ n) (h2 : n < (rs.length : Int)) : ∃ b, get P.boxes n = some b ∧ rs[n.toNat]? = some b.slots := by
  obtain ⟨b, hb⟩ := get_keys.mpr ((h.ks n).mpr ⟨h1, h2⟩)
  exact ⟨b, hb, h.sl n b hb⟩
/-- a slot that points in a row counts -/
theorem Rows.points {P : Pl} {rs : List (List (Option Int))} (h : Rows P rs) {k : Nat} {row : List (Option Int)} (hk : 1 ≤ k) (hr : rs[k]? = some row) {n : Int} (hn : some n ∈ row) : 0 < scnt P.boxes n := by
  have hl := (List.getElem?_eq_some_iff.mp hr).1
  obtain ⟨b, hb, e⟩ := h.get (n := (k : Int)) (by omega) (by omega)
  have : b.slots = row := by
    have e' : rs[k]? = some b.slots := e
    exact Option.some.inj (e'.symm.trans hr)
  have h1 := cnt_pos.mpr hn
  have h2 := scnt_le n hb
  rw [this] at h2
  omega
theorem Rows.slot {P : Pl} {rs : List (List (Option Int))} (h : Rows P rs) {k : Int} {b : Bx} (hb : BP.get P.boxes k = some b) {i : Nat} (hi : i < b.slots.length) (h0 : b.slots.getD i none = none) {x : Option Int}
    (hx : ∀ n, x = some n → ∃ b, BP.get P.boxes n = some b) :
    Rows (ptSlot P k i x).1 (rs.set k.toNat (b.slots.set i x)) ∧ (ptSlot P k i x).2 = [] ∧ (ptSlot P k i x).1.hands = P.hands := by
  have pre := h.wf.pre hx
  have W := ptSlot_ok pre hb hi
  have e : slotOf P.boxes k i = none := by
    unfold slotOf
    rw [hb]
    exact h0
  have ep : ptSlot P k i x = ({ P with boxes := chg (bumped P.boxes x) k (setSlot i x) }, []) := by
    unfold ptSlot
    rw [e, run_none]
  rw [ep] at W ⊢
  have ab := alike_bumped P.boxes x
  have kr := (h.ks k).mp (get_keys.mp ⟨b, hb⟩)
  refine ⟨⟨W, by rw [List.length_set]; exact h.made, by rw [List.length_set]; exact h.pos, fun n => ?_, fun n c g => ?_⟩, rfl, rfl⟩
  · show n ∈ keys (chg (bumped P.boxes x) k (setSlot i x)) ↔ _
    rw [keys_chg, ab.1, List.length_set]
    exact h.ks n
  · have g' : BP.get (chg (bumped P.boxes x) k (setSlot i x)) n = some c := g
    rw [get_chg] at g'
    cases q : BP.get (bumped P.boxes x) n with
    | none => rw [q] at g'; cases g'
    | some d =>
      rw [q] at g'
      have e2 : (if n = k then setSlot i x d else d) = c := Option.some.inj g'
      obtain ⟨d2, hd, es⟩ := ab.2.1 n d q
      have h1 := h.sl n d2 hd
      have kn := (h.ks n).mp (get_keys.mp ⟨d2, hd⟩)
      by_cases qn : n = k
      · subst qn
        rw [if_pos rfl] at e2
        have : d2 = b := Option.some.inj (hd.symm.trans hb)
        subst this
        rw [List.getElem?_set_self (by omega), ← e2]
        show _ = some (d.slots.set i x)
        rw [← es]
      · rw [if_neg qn] at e2
        subst e2
        rw [List.getElem?_set_ne (by omega), h1, es]
def hd4 (h0 h1 h2 h3 : Option Int) : List (Option Int) := [h0, h1, h2, h3, none, none, none, none]
/-- a box made and let go at once -/
theorem rows0 : Rows (ptHand (BP.mk pl0 0 0).1 0 none).1 [[]] ∧ (ptHand (BP.mk pl0 0 0).1 0 none).1.hands = hd4 none none none none := by
  have W := ptHand_ok ((mk_ok wf0 (i := 0) (size := 0) (by decide) (by decide) (by decide)).pre (x := none) fun n e => by cases e) (i := 0) (by decide)
  have e : (ptHand (BP.mk pl0 0 0).1 0 none).1 = ⟨hd4 none none none none, [], 1⟩ := by
    have e1 : BP.mk pl0 0 0 = (⟨hd4 (some 0) none none none, [(0, ⟨[], 1, false⟩)], 1⟩, []) := by
      unfold BP.mk
      rw [ptHand_none rfl]
      rfl
    rw [e1]
    rfl
  rw [e] at W ⊢
  exact ⟨⟨W, rfl, Nat.le_refl _, fun n => ⟨fun h => (by cases h), fun ⟨a, b⟩ => (by have : (([[]] : List (List (Option Int))).length : Int) = 1 := rfl; omega)⟩, fun n b g => by cases g⟩, rfl⟩
theorem mem_set_none {l : List (Option Int)} {i : Nat} {x : Option Int} {t : Int} (h : some t ∈ l) (hi : i < l.length) (h0 : l.getD i none = none) : some t ∈ l.set i x := by
  obtain ⟨j, hj, e⟩ := List.mem_iff_getElem.mp h
  have hji : j ≠ i := fun z => by
    subst z
    rw [List.getD_eq_getElem?_getD, List.getElem?_eq_getElem hj, e] at h0
    cases h0
  exact List.mem_of_getElem? (i := j) (by rw [List.getElem?_set_ne fun z => hji z.symm, List.getElem?_eq_getElem hj, e])
end BP

/-! What falls, step by step. Own work; core Lean alone. -/
namespace BP
theorem fall_gone {bs : List (Int × Bx)} (w : List (Option Int)) {n : Int} (h : get bs n = none) : fall bs w (some n) = (bs, w, []) := by
  show (match get bs n with | none => (bs, w, []) | some b => if b.wt = 1 then (rm bs n, w ++ b.slots, [n]) else (chg bs n low, w, [])) = _
  rw [h]
theorem fall_free {bs : List (Int × Bx)} (w : List (Option Int)) {n : Int} {b : Bx} (h : get bs n = some b) (c : b.wt = 1) : fall bs w (some n) = (rm bs n, w ++ b.slots, [n]) := by
  show (match get bs n with | none => (bs, w, []) | some b => if b.wt = 1 then (rm bs n, w ++ b.slots, [n]) else (chg bs n low, w, [])) = _
  rw [h]
  exact if_pos c
theorem fall_low {bs : List (Int × Bx)} (w : List (Option Int)) {n : Int} {b : Bx} (h : get bs n = some b) (c : b.wt ≠ 1) : fall bs w (some n) = (chg bs n low, w, []) := by
  show (match get bs n with | none => (bs, w, []) | some b => if b.wt = 1 then (rm bs n, w ++ b.slots, [n]) else (chg bs n low, w, [])) = _
  rw [h]
  exact if_neg c
theorem filter_all (l : List Int) : l = l.filter fun n => decide (n ∉ ([] : List Int)) := (List.filter_eq_self.mpr fun n _ => by simp).symm
theorem fall_keys (bs : List (Int × Bx)) (w : List (Option Int)) (x : Option Int) : keys (fall bs w x).1 = (keys bs).filter fun n => decide (n ∉ (fall bs w x).2.2) := by
  cases x with
  | none => exact filter_all _
  | some n =>
    cases e : get bs n with
    | none => rw [fall_gone w e]; exact filter_all _
    | some b =>
      by_cases c : b.wt = 1
      · rw [fall_free w e c, keys_rm]
        simp
      · rw [fall_low w e c]
        show keys (chg bs n low) = _
        rw [keys_chg]
        exact filter_all _
theorem go_keys : ∀ (m : Nat) (bs : List (Int × Bx)) (w : List (Option Int)), keys (go m bs w).1 = (keys bs).filter fun n => decide (n ∉ (go m bs w).2)
  | 0, bs, w => filter_all _
  | m + 1, bs, [] => filter_all _
  | m + 1, bs, x :: w => by
    show keys (go m (fall bs w x).1 (fall bs w x).2.1).1 = (keys bs).filter fun n => decide (n ∉ (fall bs w x).2.2 ++ (go m (fall bs w x).1 (fall bs w x).2.1).2)
    rw [go_keys m, fall_keys, List.filter_filter]
    congr 1
    funext n
    simp [Bool.and_comm]
theorem fall_slots {bs : List (Int × Bx)} {w : List (Option Int)} {x : Option Int} {n : Int} {b : Bx} (h : get (fall bs w x).1 n = some b) : ∃ c, get bs n = some c ∧ c.slots = b.slots := by
  cases x with
  | none => exact ⟨b, h, rfl⟩
  | some k =>
    cases e : get bs k with
    | none =>
      rw [fall_gone w e] at h
      exact ⟨b, h, rfl⟩
    | some d =>
      by_cases c : d.wt = 1
      · rw [fall_free w e c] at h
        have h2 : get (rm bs k) n = some b := h
        rw [get_rm] at h2
        by_cases q : n = k
        · rw [if_pos q] at h2; cases h2
        · rw [if_neg q] at h2
          exact ⟨b, h2, rfl⟩
      · rw [fall_low w e c] at h
        exact (alike_chg bs k low fun _ => rfl).2.1 n b h
theorem go_slots : ∀ {m : Nat} {bs : List (Int × Bx)} {w : List (Option Int)} {n : Int} {b : Bx}, get (go m bs w).1 n = some b → ∃ c, get bs n = some c ∧ c.slots = b.slots
  | 0, bs, w, n, b, h => ⟨b, h, rfl⟩
  | m + 1, bs, [], n, b, h => ⟨b, h, rfl⟩
  | m + 1, bs, x :: w, n, b, h => by
    obtain ⟨c, h1, e1⟩ := go_slots (m := m) h
    obtain ⟨d, h2, e2⟩ := fall_slots h1
    exact ⟨d, h2, e2.trans e1⟩
/-- W tells the weights of the boxes -/
def Told (bs : List (Int × Bx)) (W : List Int) : Prop := ∀ n b, get bs n = some b → 0 ≤ n ∧ W[n.toNat]? = some b.wt
theorem Told.step {bs : List (Int × Bx)} {W : List Int} (h : Told bs W) {w : List (Option Int)} {n : Int} {b : Bx} (hb : get bs n = some b) : Told (fall bs w (some n)).1 (W.set n.toNat (b.wt - 1)) := by
  obtain ⟨n0, hn⟩ := h n b hb
  have hl := (List.getElem?_eq_some_iff.mp hn).1
  intro m c e
  have ef : (fall bs w (some n)).1 = if b.wt = 1 then rm bs n else chg bs n low := by
    by_cases q : b.wt = 1
    · rw [fall_free w hb q, if_pos q]
    · rw [fall_low w hb q, if_neg q]
  rw [ef] at e
  by_cases q : b.wt = 1
  · rw [if_pos q, get_rm] at e
    by_cases qm : m = n
    · rw [if_pos qm] at e; cases e
    · rw [if_neg qm] at e
      obtain ⟨m0, hm⟩ := h m c e
      exact ⟨m0, by rw [List.getElem?_set_ne (by omega)]; exact hm⟩
  · rw [if_neg q, get_chg] at e
    cases g : get bs m with
    | none => rw [g] at e; cases e
    | some d =>
      rw [g] at e
      have e2 : (if m = n then low d else d) = c := Option.some.inj e
      obtain ⟨m0, hm⟩ := h m d g
      by_cases qm : m = n
      · subst qm
        have : d = b := Option.some.inj (g.symm.trans hb)
        subst this
        rw [if_pos rfl] at e2
        refine ⟨m0, ?_⟩
        rw [List.getElem?_set_self hl, ← e2]
        rfl
      · rw [if_neg qm] at e2
        subst e2
        exact ⟨m0, by rw [List.getElem?_set_ne (by omega)]; exact hm⟩
theorem rm_len {k : Int} {b : Bx} : ∀ {bs : List (Int × Bx)}, (keys bs).Nodup → get bs k = some b → (rm bs k).length + 1 = bs.length
  | [], _, h => by simp [get_nil] at h
  | e :: bs, hn, h => by
    have hn' : e.1 ∉ keys bs ∧ (keys bs).Nodup := by simpa [keys] using hn
    rw [get_cons] at h
    by_cases h1 : e.1 = k
    · have e1 : rm (e :: bs) k = rm bs k := by unfold rm; simp [List.filter_cons, h1]
      rw [e1, rm_no (by rw [← h1]; exact hn'.1)]
      rfl
    · rw [if_neg h1] at h
      have ih := rm_len hn'.2 h
      have e1 : rm (e :: bs) k = e :: rm bs k := by unfold rm; simp [List.filter_cons, h1]
      rw [e1, List.length_cons, List.length_cons]
      omega
/-- where the fall stands: what waits is w, what has fallen is row, the weights told are W -/
structure FS (S : Pl) (fin : List (Int × Bx) × List Int) (rs : List (List (Option Int))) (bs : List (Int × Bx)) (w : List (Option Int)) (row W : List Int) : Prop where
  wf : Wf { S with boxes := bs } w
  e2 : row ++ (go (w.length + room bs) bs w).2 = fin.2
  e1 : (go (w.length + room bs) bs w).1 = fin.1
  told : Told bs W
  sl : ∀ n b, get bs n = some b → rs[n.toNat]? = some b.slots
  few : row.length + bs.length ≤ 60
theorem FS.next {S : Pl} {fin : List (Int × Bx) × List Int} {rs : List (List (Option Int))} {bs : List (Int × Bx)} {x : Option Int} {w : List (Option Int)} {row W W' : List Int} (h : FS S fin rs bs (x :: w) row W)
    (ht : Told (fall bs w x).1 W') (hf : (row ++ (fall bs w x).2.2).length + (fall bs w x).1.length ≤ 60) : FS S fin rs (fall bs w x).1 (fall bs w x).2.1 (row ++ (fall bs w x).2.2) W' := by
  obtain ⟨h1, h2'⟩ := fall_ok h.wf
  have h2 : (fall bs w x).2.1.length + room (fall bs w x).1 = w.length + room bs := h2'
  have em : (x :: w).length + room bs = (w.length + room bs) + 1 := by rw [List.length_cons]; omega
  have e2 := h.e2
  have e1 := h.e1
  rw [em] at e2 e1
  refine ⟨h1, ?_, ?_, ht, fun n b e => ?_, hf⟩
  · rw [h2, List.append_assoc]
    exact e2
  · rw [h2]
    exact e1
  · obtain ⟨c, hc, es⟩ := fall_slots e
    rw [← es]
    exact h.sl n c hc
theorem FS.skip {S : Pl} {fin : List (Int × Bx) × List Int} {rs : List (List (Option Int))} {bs : List (Int × Bx)} {w : List (Option Int)} {row W : List Int} (h : FS S fin rs bs (none :: w) row W) : FS S fin rs bs w row W := by
  have := h.next (W' := W) h.told (by rw [show (fall bs w none).2.2 = [] from rfl, List.append_nil]; exact h.few)
  rw [show (fall bs w none).2.2 = [] from rfl, List.append_nil] at this
  exact this
theorem FS.box {S : Pl} {fin : List (Int × Bx) × List Int} {rs : List (List (Option Int))} {bs : List (Int × Bx)} {n : Int} {w : List (Option Int)} {row W : List Int} (h : FS S fin rs bs (some n :: w) row W) : ∃ b, get bs n = some b :=
  h.wf.cl n (by rw [cnt_cons]; simp [one]; omega)
theorem FS.low {S : Pl} {fin : List (Int × Bx) × List Int} {rs : List (List (Option Int))} {bs : List (Int × Bx)} {n : Int} {b : Bx} {w : List (Option Int)} {row W : List Int} (h : FS S fin rs bs (some n :: w) row W) (hb : get bs n = some b) (c : b.wt ≠ 1) :
    FS S fin rs (chg bs n BP.low) w row (W.set n.toNat (b.wt - 1)) := by
  have ef := fall_low w hb c
  have := h.next (h.told.step (w := w) hb) (by rw [ef, len_chg, List.append_nil]; exact h.few)
  rw [ef, List.append_nil] at this
  exact this
theorem FS.free {S : Pl} {fin : List (Int × Bx) × List Int} {rs : List (List (Option Int))} {bs : List (Int × Bx)} {n : Int} {b : Bx} {w : List (Option Int)} {row W : List Int} (h : FS S fin rs bs (some n :: w) row W) (hb : get bs n = some b) (c : b.wt = 1) :
    FS S fin rs (rm bs n) (w ++ b.slots) (row ++ [n]) (W.set n.toNat (b.wt - 1)) ∧ (rm bs n).length + 1 = bs.length := by
  have ef := fall_free w hb c
  have hl : (rm bs n).length + 1 = bs.length := rm_len h.wf.nd hb
  have hf := h.few
  have := h.next (h.told.step (w := w) hb) (by rw [ef, List.length_append]; show row.length + 1 + (rm bs n).length ≤ 60; omega)
  rw [ef] at this
  exact ⟨this, hl⟩
/-- all pointers at n in the rows -/
def tot (rs : List (List (Option Int))) (n : Int) : Nat := (rs.map fun r => cnt r n).sum
theorem tot_nil (n : Int) : tot [] n = 0 := rfl
theorem tot_cons (r : List (Option Int)) (rs : List (List (Option Int))) (n : Int) : tot (r :: rs) n = cnt r n + tot rs n := by simp [tot]
theorem tot_append (a b : List (List (Option Int))) (n : Int) : tot (a ++ b) n = tot a n + tot b n := by simp [tot]
/-- the pointers at 0, 1, .. in the rows -/
def Wt (rs : List (List (Option Int))) (k : Nat) : List Int := (List.range k).map fun (n : Nat) => ((tot rs (n : Int) : Nat) : Int)
theorem Wt_len (rs : List (List (Option Int))) (k : Nat) : (Wt rs k).length = k := by unfold Wt; rw [List.length_map, List.length_range]
theorem Wt_get {rs : List (List (Option Int))} {k : Nat} {n : Int} (h0 : 0 ≤ n) (h1 : n < (k : Int)) : (Wt rs k)[n.toNat]? = some ((tot rs n : Nat) : Int) := by
  unfold Wt
  rw [List.getElem?_map, List.getElem?_range (by omega)]
  show some ((tot rs ((n.toNat : Nat) : Int) : Nat) : Int) = _
  rw [Int.toNat_of_nonneg h0]
theorem Wt_zero (k : Nat) : Wt [] k = List.replicate k 0 := by
  unfold Wt
  show (List.range k).map (fun _ => (0 : Int)) = _
  rw [List.map_const', List.length_range]
theorem Wt_congr {a b : List (List (Option Int))} {k : Nat} (h : ∀ n, tot a n = tot b n) : Wt a k = Wt b k := by
  unfold Wt
  exact List.map_congr_left fun n _ => by rw [h]
theorem Wt_more {a b : List (List (Option Int))} {k : Nat} {n : Int} (h0 : 0 ≤ n) (h1 : n < (k : Int)) (h : ∀ m, tot b m = tot a m + one (some n) m) : (Wt a k).set n.toNat (((tot a n : Nat) : Int) + 1) = Wt b k := by
  refine List.ext_getElem? fun i => ?_
  by_cases c : i < k
  · have hb : (Wt b k)[i]? = some ((tot b (i : Int) : Nat) : Int) := Wt_get (n := (i : Int)) (by omega) (by omega)
    have ha : (Wt a k)[i]? = some ((tot a (i : Int) : Nat) : Int) := Wt_get (n := (i : Int)) (by omega) (by omega)
    rw [hb, h]
    by_cases q : i = n.toNat
    · subst q
      rw [List.getElem?_set_self (by rw [Wt_len]; exact c), Int.toNat_of_nonneg h0]
      have : one (some n) n = 1 := by simp [one]
      rw [this]
      rfl
    · rw [List.getElem?_set_ne (by omega), ha]
      have : one (some n) (i : Int) = 0 := by
        unfold one
        rw [if_neg (fun z => q (by have := Option.some.inj z; omega))]
      rw [this]
      rfl
  · rw [List.getElem?_eq_none (by rw [List.length_set, Wt_len]; omega), List.getElem?_eq_none (by rw [Wt_len]; omega)]
theorem scnt_tot (bs : List (Int × Bx)) (n : Int) : scnt bs n = tot (bs.map fun e => e.2.slots) n := by
  unfold scnt tot
  rw [List.map_map]
  rfl
theorem Rows.list {P : Pl} {rs : List (List (Option Int))} (h : Rows P rs) : keys P.boxes = (List.range (rs.length - 1)).map fun i => ((i : Nat) : Int) + 1 := by
  refine sorted_mem_eq h.wf.ks ?_ fun n => ?_
  · rw [List.pairwise_map]
    exact List.pairwise_lt_range.imp fun h => by omega
  · have := h.pos
    rw [h.ks n, List.mem_map]
    constructor
    · rintro ⟨a, b⟩
      exact ⟨(n - 1).toNat, List.mem_range.mpr (by omega), by omega⟩
    · rintro ⟨i, hi, e⟩
      have := List.mem_range.mp hi
      omega
theorem Rows.tail {P : Pl} {rs : List (List (Option Int))} (h : Rows P rs) : P.boxes.map (fun e => e.2.slots) = rs.tail := by
  have hk := h.list
  have hpos := h.pos
  have hlen : P.boxes.length = rs.length - 1 := by
    have := congrArg List.length hk
    rw [List.length_map, List.length_range] at this
    rw [← this]
    exact (List.length_map _).symm
  refine List.ext_getElem? fun i => ?_
  rw [List.getElem?_map, List.getElem?_tail]
  by_cases c : i < P.boxes.length
  · rw [List.getElem?_eq_getElem c]
    have ek : (P.boxes[i]).1 = (i : Int) + 1 := by
      have e1 : (keys P.boxes)[i]? = some (P.boxes[i]).1 := by
        unfold keys
        rw [List.getElem?_map, List.getElem?_eq_getElem c]
        rfl
      rw [hk, List.getElem?_map, List.getElem?_range (by omega)] at e1
      exact (Option.some.inj e1).symm
    have hb := mem_get h.wf.nd (show ((P.boxes[i]).1, (P.boxes[i]).2) ∈ P.boxes from List.getElem_mem c)
    have := h.sl _ _ hb
    rw [ek] at this
    have e2 : ((i : Int) + 1).toNat = i + 1 := by omega
    rw [e2] at this
    rw [this]
    rfl
  · rw [List.getElem?_eq_none (by omega), List.getElem?_eq_none (by omega)]
    rfl
theorem Rows.scnt {P : Pl} {rs : List (List (Option Int))} (h : Rows P rs) (n : Int) : scnt P.boxes n = tot rs.tail n := by
  rw [scnt_tot, h.tail]
end BP

/-! What leads where: hands, suspects, and what waits; the trial. Own work; core Lean alone. -/
namespace BP
def Edge (bs : List (Int × Bx)) (a b : Int) : Prop := ∃ x, get bs a = some x ∧ some b ∈ x.slots
inductive Path (bs : List (Int × Bx)) : Int → Int → Prop
  | refl (n : Int) : Path bs n n
  | step {a b c : Int} : Edge bs a b → Path bs b c → Path bs a c
theorem Path.trans {bs : List (Int × Bx)} {a b c : Int} (h : Path bs a b) (k : Path bs b c) : Path bs a c := by
  induction h with
  | refl n => exact k
  | step e _ ih => exact .step e (ih k)
theorem Path.one {bs : List (Int × Bx)} {a b : Int} (h : Edge bs a b) : Path bs a b := .step h (.refl b)
theorem Path.mono {bs bs' : List (Int × Bx)} (hm : ∀ a b, Edge bs a b → Edge bs' a b) {a b : Int} (h : Path bs a b) : Path bs' a b := by
  induction h with
  | refl n => exact .refl n
  | step e _ ih => exact .step (hm _ _ e) ih
/-- slots as they were: what leads where stays -/
theorem Edge.alike {bs bs' : List (Int × Bx)} (h : ∀ n b, get bs n = some b → ∃ c, get bs' n = some c ∧ c.slots = b.slots) {a b : Int} (e : Edge bs a b) : Edge bs' a b := by
  obtain ⟨x, hx, hb⟩ := e
  obtain ⟨c, hc, es⟩ := h a x hx
  exact ⟨c, hc, by rw [es]; exact hb⟩
/-- where it starts -/
def Src (P : Pl) (w : List (Option Int)) (m : Int) : Prop := some m ∈ P.hands ∨ (∃ b, get P.boxes m = some b ∧ b.sus = true) ∨ some m ∈ w
def Led (P : Pl) (w : List (Option Int)) : Prop := ∀ n b, get P.boxes n = some b → ∃ m, Src P w m ∧ Path P.boxes m n
theorem path_gone {bs : List (Int × Bx)} {n k : Int} (h : get bs n = none) (p : Path bs n k) : k = n := by
  cases p with
  | refl => rfl
  | step e _ =>
    obtain ⟨x, hx, _⟩ := e
    rw [h] at hx
    cases hx
/-- without the box n: what n led to is led to by its slots -/
theorem path_rm {bs : List (Int × Bx)} {n : Int} {b : Bx} (hb : get bs n = some b) {a k : Int} (p : Path bs a k) (hk : k ≠ n) : Path (rm bs n) a k ∨ ∃ o, some o ∈ b.slots ∧ Path (rm bs n) o k := by
  induction p with
  | refl m => exact .inl (.refl m)
  | @step a c k e _ ih =>
    rcases ih hk with j | j
    · obtain ⟨x, hx, hc⟩ := e
      by_cases q : a = n
      · subst q
        have : x = b := Option.some.inj (hx.symm.trans hb)
        subst this
        exact .inr ⟨c, hc, j⟩
      · exact .inl (.step ⟨x, by rw [get_rm, if_neg q]; exact hx, hc⟩ j)
    · exact .inr j
theorem fall_led {P : Pl} {x : Option Int} {w : List (Option Int)} (h : Led P (x :: w)) : Led { P with boxes := (fall P.boxes w x).1 } (fall P.boxes w x).2.1 := by
  have skip : ∀ n b, get P.boxes n = some b → (∀ k, x = some k → ¬ Path P.boxes k n) → ∃ m, Src P w m ∧ Path P.boxes m n := fun n b hb no => by
    obtain ⟨m, hm, p⟩ := h n b hb
    rcases hm with hm | hm | hm
    · exact ⟨m, .inl hm, p⟩
    · exact ⟨m, .inr (.inl hm), p⟩
    · rcases List.mem_cons.mp hm with hm | hm
      · exact absurd p (no m hm.symm)
      · exact ⟨m, .inr (.inr hm), p⟩
  cases x with
  | none => exact fun n b hb => skip n b hb fun k e => by cases e
  | some n =>
    cases e : get P.boxes n with
    | none =>
      rw [fall_gone w e]
      intro k b hb
      refine skip k b hb fun j ej p => ?_
      have : n = j := Option.some.inj ej
      subst this
      have := path_gone e p
      subst this
      have hb' : get P.boxes k = some b := hb
      rw [e] at hb'
      cases hb'
    | some b =>
      by_cases c : b.wt = 1
      · rw [fall_free w e c]
        intro k d hd
        have hd' : get (rm P.boxes n) k = some d := hd
        have hk : k ≠ n := fun q => by
          rw [get_rm, if_pos q] at hd'
          cases hd'
        rw [get_rm, if_neg hk] at hd'
        obtain ⟨m, hm, p⟩ := h k d hd'
        rcases path_rm e p hk with p | ⟨o, ho, p⟩
        · by_cases qm : m = n
          · subst qm
            have := path_gone (bs := rm P.boxes m) (by rw [get_rm, if_pos rfl]) p
            exact absurd this hk
          · rcases hm with hm | ⟨bm, hbm, hs⟩ | hm
            · exact ⟨m, .inl hm, p⟩
            · exact ⟨m, .inr (.inl ⟨bm, by show get (rm P.boxes n) m = _; rw [get_rm, if_neg qm]; exact hbm, hs⟩), p⟩
            · rcases List.mem_cons.mp hm with hm | hm
              · exact absurd (Option.some.inj hm) qm
              · exact ⟨m, .inr (.inr (List.mem_append_left _ hm)), p⟩
        · exact ⟨o, .inr (.inr (List.mem_append_right _ ho)), p⟩
      · rw [fall_low w e c]
        intro k d hd
        have hd' : get (chg P.boxes n low) k = some d := hd
        have al : ∀ m b, get P.boxes m = some b → ∃ c, get (chg P.boxes n low) m = some c ∧ c.slots = b.slots ∧ (b.sus = true → c.sus = true) ∧ (m = n → c.sus = true) := fun m b hb => by
          rw [get_chg, hb]
          refine ⟨_, rfl, ?_, ?_, ?_⟩
          · split <;> rfl
          · intro s; split
            · rfl
            · exact s
          · intro s; show (if m = n then low b else b).sus = true; rw [if_pos s]; rfl
        obtain ⟨d0, hd0⟩ : ∃ d0, get P.boxes k = some d0 := by
          rw [get_chg] at hd'
          cases q : get P.boxes k with
          | none => rw [q] at hd'; cases hd'
          | some d0 => exact ⟨d0, rfl⟩
        obtain ⟨m, hm, p⟩ := h k d0 hd0
        have p' : Path (chg P.boxes n low) m k := p.mono fun a b e => e.alike fun n b h => by
          obtain ⟨c, h1, h2, _⟩ := al n b h
          exact ⟨c, h1, h2⟩
        rcases hm with hm | ⟨bm, hbm, hs⟩ | hm
        · exact ⟨m, .inl hm, p'⟩
        · obtain ⟨c, h1, _, h3, _⟩ := al m bm hbm
          exact ⟨m, .inr (.inl ⟨c, h1, h3 hs⟩), p'⟩
        · rcases List.mem_cons.mp hm with hm | hm
          · have : m = n := Option.some.inj hm
            subst this
            obtain ⟨c, h1, _, _, h4⟩ := al m b e
            exact ⟨m, .inr (.inl ⟨c, h1, h4 rfl⟩), p'⟩
          · exact ⟨m, .inr (.inr hm), p'⟩
theorem go_led : ∀ {m : Nat} {P : Pl} {w : List (Option Int)}, Wf P w → Led P w → w.length + room P.boxes = m → Led { P with boxes := (go m P.boxes w).1 } []
  | 0, P, w, W, h, e => by
    have : w = [] := List.length_eq_zero_iff.mp (by omega)
    subst this
    exact h
  | m + 1, P, [], W, h, e => h
  | m + 1, P, x :: w, W, h, e => by
    obtain ⟨W1, e1⟩ := fall_ok W
    have h1 := fall_led h
    have := go_led (m := m) W1 h1 (by show (fall P.boxes w x).2.1.length + room (fall P.boxes w x).1 = m; rw [e1]; rw [List.length_cons] at e; omega)
    exact this
theorem run_led {P : Pl} {w : List (Option Int)} (W : Wf P w) (h : Led P w) : Led { P with boxes := (run P.boxes w).1 } [] := go_led W h rfl
theorem mem_set_or {l : List (Option Int)} {i : Nat} (x : Option Int) {m : Int} (h : some m ∈ l) : l.getD i none = some m ∨ some m ∈ l.set i x := by
  obtain ⟨j, hj, e⟩ := List.mem_iff_getElem.mp h
  by_cases c : i = j
  · subst c
    exact .inl (by rw [List.getD_eq_getElem?_getD, List.getElem?_eq_getElem hj, e]; rfl)
  · refine .inr (List.mem_iff_getElem.mpr ⟨j, by rw [List.length_set]; exact hj, ?_⟩)
    rw [List.getElem_set_ne c]
    exact e
theorem bumped_alike {bs : List (Int × Bx)} {x : Option Int} {n : Int} {b : Bx} (h : get bs n = some b) : ∃ c, get (bumped bs x) n = some c ∧ c.slots = b.slots ∧ c.sus = b.sus := by
  rw [get_bumped, h]
  refine ⟨_, rfl, ?_, ?_⟩ <;> split <;> rfl
theorem bumped_was {bs : List (Int × Bx)} {x : Option Int} {n : Int} {b : Bx} (h : get (bumped bs x) n = some b) : ∃ c, get bs n = some c := by
  rw [get_bumped] at h
  cases q : get bs n with
  | none => rw [q] at h; cases h
  | some c => exact ⟨c, rfl⟩
/-- a hand points anew -/
theorem ptHand_led {P : Pl} {x : Option Int} (pre : Pre P x) {i : Nat} (hi : i < 8) (h : ∀ n b, get P.boxes n = some b → x = some n ∨ ∃ m, Src P [] m ∧ Path P.boxes m n) : Led (ptHand P i x).1 [] := by
  refine run_led (P := { P with hands := P.hands.set i x, boxes := bumped P.boxes x }) (pre.hand hi) fun n b hb => ?_
  obtain ⟨c, hc⟩ := bumped_was hb
  have hmem : some n = x → some n ∈ P.hands.set i x := fun e => by
    rw [e]
    exact List.mem_of_getElem? (List.getElem?_set_self (by rw [pre.hl]; exact hi))
  rcases h n c hc with e | ⟨m, hm, p⟩
  · exact ⟨n, .inl (hmem e.symm), .refl n⟩
  · have p' : Path (bumped P.boxes x) m n := p.mono fun a b e => e.alike fun n b h => by
      obtain ⟨c, h1, h2, _⟩ := bumped_alike (x := x) h
      exact ⟨c, h1, h2⟩
    rcases hm with hm | ⟨bm, hbm, hs⟩ | hm
    · rcases mem_set_or (i := i) x hm with q | q
      · exact ⟨m, .inr (.inr (by rw [q]; exact List.mem_singleton.mpr rfl)), p'⟩
      · exact ⟨m, .inl q, p'⟩
    · obtain ⟨c, h1, _, h3⟩ := bumped_alike (x := x) hbm
      exact ⟨m, .inr (.inl ⟨c, h1, h3.trans hs⟩), p'⟩
    · cases hm
/-- a slot points anew -/
theorem ptSlot_led {P : Pl} {x : Option Int} (pre : Pre P x) {k : Int} {b : Bx} {i : Nat} (hb : get P.boxes k = some b) (hi : i < b.slots.length) (h : Led P []) : Led (ptSlot P k i x).1 [] := by
  have W := pre.slot hb hi
  refine run_led (P := { P with boxes := chg (bumped P.boxes x) k (setSlot i x) }) ?_ fun n d hd => ?_
  · have := W
    have e : slotOf P.boxes k i = b.slots.getD i none := by unfold slotOf; rw [hb]
    rw [e]
    exact this
  have e : slotOf P.boxes k i = b.slots.getD i none := by unfold slotOf; rw [hb]
  have hd' : get (chg (bumped P.boxes x) k (setSlot i x)) n = some d := hd
  obtain ⟨c, hc⟩ : ∃ c, get P.boxes n = some c := by
    rw [get_chg] at hd'
    cases q : get (bumped P.boxes x) n with
    | none => rw [q] at hd'; cases hd'
    | some c => exact bumped_was q
  have al : ∀ m b, get P.boxes m = some b → ∃ c, get (chg (bumped P.boxes x) k (setSlot i x)) m = some c ∧ c.sus = b.sus ∧ c.slots = if m = k then b.slots.set i x else b.slots := fun m b hb => by
    obtain ⟨c, h1, h2, h3⟩ := bumped_alike (x := x) hb
    rw [get_chg, h1]
    refine ⟨_, rfl, ?_, ?_⟩
    · split
      · exact h3
      · exact h3
    · by_cases q : m = k
      · show (if m = k then setSlot i x c else c).slots = _
        rw [if_pos q, if_pos q]
        show c.slots.set i x = _
        rw [h2]
      · show (if m = k then setSlot i x c else c).slots = _
        rw [if_neg q, if_neg q]
        exact h2
  have turn : ∀ a z, Path P.boxes a z → Path (chg (bumped P.boxes x) k (setSlot i x)) a z ∨ ∃ o, b.slots.getD i none = some o ∧ Path (chg (bumped P.boxes x) k (setSlot i x)) o z := fun a z p => by
    induction p with
    | refl m => exact .inl (.refl m)
    | @step a c z e _ ih =>
      rcases ih with ih | ih
      · obtain ⟨y, hy, hc⟩ := e
        obtain ⟨y', h1, _, h3⟩ := al a y hy
        by_cases q : a = k
        · subst q
          have : y = b := Option.some.inj (hy.symm.trans hb)
          subst this
          rcases mem_set_or (i := i) x hc with q | q
          · exact .inr ⟨c, q, ih⟩
          · exact .inl (.step ⟨y', h1, by rw [h3, if_pos rfl]; exact q⟩ ih)
        · exact .inl (.step ⟨y', h1, by rw [h3, if_neg q]; exact hc⟩ ih)
      · exact .inr ih
  obtain ⟨m, hm, p⟩ := h n c hc
  rcases turn m n p with p' | ⟨o, ho, p'⟩
  · rcases hm with hm | ⟨bm, hbm, hs⟩ | hm
    · exact ⟨m, .inl hm, p'⟩
    · obtain ⟨c, h1, h2, _⟩ := al m bm hbm
      exact ⟨m, .inr (.inl ⟨c, h1, h2.trans hs⟩), p'⟩
    · cases hm
  · exact ⟨o, .inr (.inr (by rw [e, ho]; exact List.mem_singleton.mpr rfl)), p'⟩
/-- a box made -/
theorem mk_led {P : Pl} (W : Wf P []) {i size : Nat} (hi : i < 8) (hs : size ≤ 6) (hf : P.boxes.length < 60) (h : Led P []) : Led (mk P i size).1 [] := by
  refine ptHand_led (W.born hs hf) hi fun n b hb => ?_
  rw [get_born W size n] at hb
  by_cases q : n = P.made
  · exact .inl (by rw [q])
  · rw [if_neg q] at hb
    obtain ⟨m, hm, p⟩ := h n b hb
    have hno : get P.boxes P.made = none := get_none.mpr fun z => by have := (W.lo _ z).2; omega
    have al : ∀ m b, get P.boxes m = some b → get (born P size).boxes m = some b := fun m b e => by
      rw [get_born W size m, if_neg (fun z => by rw [z, hno] at e; cases e)]
      exact e
    refine .inr ⟨m, ?_, p.mono fun a b e => e.alike fun n b h => ⟨b, al n b h, rfl⟩⟩
    rcases hm with hm | ⟨bm, hbm, hs⟩ | hm
    · exact .inl hm
    · exact .inr (.inl ⟨bm, al _ _ hbm, hs⟩)
    · cases hm
theorem led0 : Led pl0 [] := fun n b e => by simp [pl0, get_nil] at e
/-! ### the trial -/
/-- the boxes of the row F, and those beside it -/
def inn (bs : List (Int × Bx)) (F : List Int) : List (Int × Bx) := bs.filter fun e => decide (e.1 ∈ F)
def out (bs : List (Int × Bx)) (F : List Int) : List (Int × Bx) := bs.filter fun e => decide (e.1 ∉ F)
theorem scnt_split (bs : List (Int × Bx)) (F : List Int) (n : Int) : scnt bs n = scnt (inn bs F) n + scnt (out bs F) n := by
  induction bs with
  | nil => rfl
  | cons e bs ih =>
    unfold inn out at ih ⊢
    rw [scnt_cons, List.filter_cons, List.filter_cons]
    by_cases c : e.1 ∈ F
    · rw [if_pos (decide_eq_true c), if_neg (by simp [c]), scnt_cons]
      omega
    · rw [if_neg (by simp [c]), if_pos (decide_eq_true c), scnt_cons]
      omega
theorem scnt_pos {bs : List (Int × Bx)} {n : Int} (h : 0 < scnt bs n) : ∃ e ∈ bs, some n ∈ e.2.slots := by
  induction bs with
  | nil => simp [scnt_nil] at h
  | cons e bs ih =>
    rw [scnt_cons] at h
    by_cases c : 0 < cnt e.2.slots n
    · exact ⟨e, List.mem_cons_self, cnt_pos.mp c⟩
    · obtain ⟨e', h1, h2⟩ := ih (by omega)
      exact ⟨e', List.mem_cons_of_mem _ h1, h2⟩
theorem scnt_of {bs : List (Int × Bx)} {n : Int} {e : Int × Bx} (he : e ∈ bs) (h : some n ∈ e.2.slots) : 0 < scnt bs n := by
  induction bs with
  | nil => cases he
  | cons d bs ih =>
    rw [scnt_cons]
    rcases List.mem_cons.mp he with rfl | he
    · have := cnt_pos.mpr h
      omega
    · have := ih he
      omega
/-- what a hand leads to -/
def HL (P : Pl) (n : Int) : Prop := ∃ h, some h ∈ P.hands ∧ Path P.boxes h n
/-- what a suspect leads to -/
def SL (P : Pl) (n : Int) : Prop := ∃ s b, get P.boxes s = some b ∧ b.sus = true ∧ Path P.boxes s n
theorem Led.or {P : Pl} (h : Led P []) {n : Int} {b : Bx} (hb : get P.boxes n = some b) : HL P n ∨ SL P n := by
  obtain ⟨m, hm, p⟩ := h n b hb
  rcases hm with hm | ⟨c, hc, hs⟩ | hm
  · exact .inl ⟨m, hm, p⟩
  · exact .inr ⟨m, c, hc, hs, p⟩
  · cases hm
theorem Path.alive {P : Pl} {w : List (Option Int)} (W : Wf P w) {a n : Int} (p : Path P.boxes a n) (ha : ∃ b, get P.boxes a = some b) : ∃ b, get P.boxes n = some b := by
  induction p with
  | refl m => exact ha
  | step e _ ih =>
    obtain ⟨x, hx, hc⟩ := e
    refine ih (W.cl _ ?_)
    have h1 := cnt_pos.mpr hc
    exact Nat.lt_of_lt_of_le h1 (Nat.le_trans (scnt_le _ hx) (Nat.le_trans (Nat.le_add_left _ _) (Nat.le_add_right _ _)))
theorem HL.alive {P : Pl} {w : List (Option Int)} (W : Wf P w) {n : Int} (h : HL P n) : ∃ b, get P.boxes n = some b := by
  obtain ⟨m, hm, p⟩ := h
  refine p.alive W (W.cl m ?_)
  have := cnt_pos.mpr hm
  omega
theorem HL.next {P : Pl} {a n : Int} (h : HL P a) (e : Edge P.boxes a n) : HL P n := by
  obtain ⟨m, hm, p⟩ := h
  exact ⟨m, hm, p.trans (.one e)⟩
/-- boxes beside F stay, and weigh what is left -/
def tidied (P : Pl) (F : List Int) : Pl := { P with boxes := (out P.boxes F).map fun e => (e.1, { e.2 with wt := e.2.wt - ((scnt (inn P.boxes F) e.1 : Nat) : Int), sus := false }) }
theorem get_out (bs : List (Int × Bx)) (F : List Int) (n : Int) : get (out bs F) n = if n ∈ F then none else get bs n := by
  induction bs with
  | nil => unfold out; simp [get_nil]
  | cons e bs ih =>
    unfold out at ih ⊢
    rw [List.filter_cons]
    by_cases c : e.1 ∈ F
    · rw [if_neg (by simp [c]), ih, get_cons]
      by_cases q : n ∈ F
      · rw [if_pos q, if_pos q]
      · rw [if_neg q, if_neg q, if_neg (fun z => q (by rw [← z]; exact c))]
    · rw [if_pos (by simp [c]), get_cons, ih, get_cons]
      by_cases z : e.1 = n
      · rw [if_pos z, if_pos z, if_neg (by rw [← z]; exact c)]
      · rw [if_neg z, if_neg z]
theorem get_mapv (f : Int → Bx → Bx) (n : Int) : ∀ bs : List (Int × Bx), get (bs.map fun e => (e.1, f e.1 e.2)) n = (get bs n).map (f n)
  | [] => rfl
  | e :: bs => by
    have ih := get_mapv f n bs
    rw [List.map_cons, get_cons, get_cons, ih]
    by_cases z : e.1 = n
    · subst z
      rw [if_pos rfl, if_pos rfl]
      rfl
    · rw [if_neg z, if_neg z]
theorem get_tidied (P : Pl) (F : List Int) (n : Int) : get (tidied P F).boxes n = if n ∈ F then none else (get P.boxes n).map fun b => { b with wt := b.wt - ((scnt (inn P.boxes F) n : Nat) : Int), sus := false } := by
  have := get_mapv (fun k b => { b with wt := b.wt - ((scnt (inn P.boxes F) k : Nat) : Int), sus := false }) n (out P.boxes F)
  show get ((out P.boxes F).map fun e => (e.1, _)) n = _
  rw [this, get_out]
  by_cases q : n ∈ F
  · rw [if_pos q, if_pos q]; rfl
  · rw [if_neg q, if_neg q]
theorem keys_tidied (P : Pl) (F : List Int) : keys (tidied P F).boxes = (keys P.boxes).filter fun n => decide (n ∉ F) := by
  unfold keys tidied out
  rw [List.map_map, List.filter_map]
  rfl
theorem scnt_map (f : Int × Bx → Int × Bx) (hf : ∀ e, (f e).2.slots = e.2.slots) (n : Int) (bs : List (Int × Bx)) : scnt (bs.map f) n = scnt bs n := by
  unfold scnt
  rw [List.map_map]
  congr 1
  refine List.map_congr_left fun e _ => ?_
  show cnt (f e).2.slots n = _
  rw [hf]
theorem scnt_tidied (P : Pl) (F : List Int) (n : Int) : scnt (tidied P F).boxes n = scnt (out P.boxes F) n := scnt_map (fun e => (e.1, { e.2 with wt := e.2.wt - ((scnt (inn P.boxes F) e.1 : Nat) : Int), sus := false })) (fun _ => rfl) n _
/-- the row of all that no hand leads to -/
def Dead (P : Pl) (F : List Int) : Prop := ∀ n, n ∈ F ↔ (∃ b, get P.boxes n = some b) ∧ ¬ HL P n
theorem tidied_wf {P : Pl} {F : List Int} (W : Wf P []) (hF : Dead P F) : Wf (tidied P F) [] := by
  have hout : ∀ n, 0 < cnt P.hands n + scnt (out P.boxes F) n → HL P n := fun n e => by
    by_cases c : 0 < cnt P.hands n
    · exact ⟨n, cnt_pos.mp c, .refl n⟩
    · obtain ⟨d, hd, hs⟩ := scnt_pos (bs := out P.boxes F) (n := n) (by omega)
      unfold out at hd
      obtain ⟨h1, h2⟩ := List.mem_filter.mp hd
      have h2' : d.1 ∉ F := of_decide_eq_true h2
      have hb := mem_get W.nd (show (d.1, d.2) ∈ P.boxes from h1)
      have hl : HL P d.1 := Classical.byContradiction fun z => h2' ((hF d.1).mpr ⟨⟨_, hb⟩, z⟩)
      exact hl.next ⟨d.2, hb, hs⟩
  refine ⟨W.hl, by rw [keys_tidied]; exact W.ks.filter _, fun n hn => ?_, ?_, fun n b e => ?_, fun n b e => ?_, fun n e => ?_, W.m0⟩
  · rw [keys_tidied] at hn
    exact W.lo n (List.mem_filter.mp hn |>.1)
  · show ((out P.boxes F).map _).length ≤ 60
    rw [List.length_map]
    exact Nat.le_trans (List.length_filter_le _ _) W.few
  · rw [get_tidied] at e
    split at e
    · cases e
    · cases q : get P.boxes n with
      | none => rw [q] at e; cases e
      | some c =>
        rw [q] at e
        rw [← Option.some.inj e]
        exact W.sl n c q
  · rw [get_tidied] at e
    by_cases c : n ∈ F
    · rw [if_pos c] at e; cases e
    rw [if_neg c] at e
    cases q : get P.boxes n with
    | none => rw [q] at e; cases e
    | some d =>
      rw [q] at e
      have hw := (W.wt n d q).1
      have hh := (tidied P F).hands
      have sp := scnt_split P.boxes F n
      have e1 : b.wt = d.wt - ((scnt (inn P.boxes F) n : Nat) : Int) := by rw [← Option.some.inj e]
      have e2 : (tidied P F).hands = P.hands := rfl
      rw [scnt_tidied, e2, cnt_nil, e1, hw, cnt_nil]
      refine ⟨by omega, ?_⟩
      -- something that stays points at it
      have hl : HL P n := Classical.byContradiction fun z => c ((hF n).mpr ⟨⟨_, q⟩, z⟩)
      have : 0 < cnt P.hands n + scnt (out P.boxes F) n := by
        obtain ⟨m, hm, p⟩ := hl
        have key : ∀ a z, Path P.boxes a z → HL P a → 0 < cnt P.hands a + scnt (out P.boxes F) a → 0 < cnt P.hands z + scnt (out P.boxes F) z := fun a z p => by
          induction p with
          | refl m => exact fun _ h => h
          | @step a c z e _ ih =>
            intro hl _
            refine ih (hl.next e) ?_
            obtain ⟨x, hx, hc⟩ := e
            have : (a, x) ∈ out P.boxes F := by
              unfold out
              refine List.mem_filter.mpr ⟨get_mem hx, decide_eq_true fun z => ((hF a).mp z).2 hl⟩
            have := scnt_of this hc
            omega
        have h0 := cnt_pos.mpr hm
        exact key m n p ⟨m, hm, .refl m⟩ (by omega)
      omega
  · rw [scnt_tidied, cnt_nil] at e
    have e2 : (tidied P F).hands = P.hands := rfl
    rw [e2] at e
    have hl := hout n (by omega)
    obtain ⟨b, hb⟩ := hl.alive W
    rw [get_tidied, if_neg (fun z => ((hF n).mp z).2 hl), hb]
    exact ⟨_, rfl⟩
/-- behind it hands lead to all that is alive, and there is no suspect -/
theorem tidied_hl {P : Pl} {F : List Int} (W : Wf P []) (hF : Dead P F) {n : Int} {b : Bx} (hb : get (tidied P F).boxes n = some b) : HL (tidied P F) n ∧ b.sus = false := by
  rw [get_tidied] at hb
  by_cases c : n ∈ F
  · rw [if_pos c] at hb; cases hb
  rw [if_neg c] at hb
  cases q : get P.boxes n with
  | none => rw [q] at hb; cases hb
  | some d =>
    rw [q] at hb
    refine ⟨?_, by rw [← Option.some.inj hb]⟩
    obtain ⟨m, hm, p⟩ : HL P n := Classical.byContradiction fun z => c ((hF n).mpr ⟨⟨_, q⟩, z⟩)
    refine ⟨m, hm, ?_⟩
    have key : ∀ a z, Path P.boxes a z → HL P a → Path (tidied P F).boxes a z := fun a z p => by
      induction p with
      | refl m => exact fun _ => .refl m
      | @step a c z e _ ih =>
        intro hl
        refine .step ?_ (ih (hl.next e))
        obtain ⟨x, hx, hc⟩ := e
        exact ⟨{ x with wt := x.wt - ((scnt (inn P.boxes F) a : Nat) : Int), sus := false }, by rw [get_tidied, if_neg (fun z => ((hF a).mp z).2 hl), hx]; rfl, hc⟩
    exact key m n p ⟨m, hm, .refl m⟩
theorem tidied_led {P : Pl} {F : List Int} (W : Wf P []) (hF : Dead P F) : Led (tidied P F) [] := fun n b hb => by
  obtain ⟨⟨m, hm, p⟩, _⟩ := tidied_hl W hF hb
  exact ⟨m, .inl hm, p⟩
/-- what is looked at, of that what stays: the rest is just what no hand leads to -/
theorem trial_dead {P : Pl} {A K : List Int} (W : Wf P []) (L : Led P []) (hA : ∀ n, n ∈ A ↔ SL P n)
    (hK : ∀ n, n ∈ K ↔ ∃ m b, m ∈ A ∧ get P.boxes m = some b ∧ 0 < b.wt - ((scnt (inn P.boxes A) m : Nat) : Int) ∧ Path P.boxes m n) : Dead P (A.filter fun n => decide (n ∉ K)) := by
  have tr : ∀ m b, get P.boxes m = some b → b.wt - ((scnt (inn P.boxes A) m : Nat) : Int) = ((cnt P.hands m + scnt (out P.boxes A) m : Nat) : Int) := fun m b hb => by
    have h1 := (W.wt m b hb).1
    have h2 := scnt_split P.boxes A m
    rw [h1, cnt_nil]
    omega
  intro n
  rw [List.mem_filter]
  constructor
  · rintro ⟨ha, hk⟩
    have hk' : n ∉ K := of_decide_eq_true hk
    obtain ⟨s, bs, hs, hss, p⟩ := (hA n).mp ha
    refine ⟨p.alive W ⟨bs, hs⟩, fun ⟨h, hh, q⟩ => hk' ((hK n).mpr ?_)⟩
    have key : ∀ a z, Path P.boxes a z → z ∈ A → (a ∈ A) ∨ ∃ u v, u ∉ A ∧ Edge P.boxes u v ∧ v ∈ A ∧ Path P.boxes v z := fun a z p => by
      induction p with
      | refl m => exact fun h => .inl h
      | @step a c z e p ih =>
        intro hz
        rcases ih hz with j | j
        · by_cases ca : a ∈ A
          · exact .inl ca
          · exact .inr ⟨a, c, ca, e, j, p⟩
        · exact .inr j
    rcases key h n q ha with j | ⟨u, v, hu, ⟨x, hx, hc⟩, hv, pv⟩
    · obtain ⟨b, hb⟩ := W.cl h (by have := cnt_pos.mpr hh; omega)
      refine ⟨h, b, j, hb, ?_, q⟩
      rw [tr h b hb]
      have := cnt_pos.mpr hh
      omega
    · obtain ⟨b, hb⟩ := W.cl v (by have := cnt_pos.mpr hc; have := scnt_le v hx; omega)
      refine ⟨v, b, hv, hb, ?_, pv⟩
      rw [tr v b hb]
      have : (u, x) ∈ out P.boxes A := List.mem_filter.mpr ⟨get_mem hx, decide_eq_true hu⟩
      have := scnt_of this hc
      omega
  · rintro ⟨⟨b, hb⟩, hno⟩
    have ha : n ∈ A := (hA n).mpr ((L.or hb).resolve_left hno)
    refine ⟨ha, decide_eq_true fun hk => ?_⟩
    obtain ⟨m, bm, hm, hbm, ht, p⟩ := (hK n).mp hk
    rw [tr m bm hbm] at ht
    by_cases c : 0 < cnt P.hands m
    · exact hno ⟨m, cnt_pos.mp c, p⟩
    · obtain ⟨d, hd, hs⟩ := scnt_pos (bs := out P.boxes A) (n := m) (by omega)
      unfold out at hd
      obtain ⟨h1, h2⟩ := List.mem_filter.mp hd
      have h2' : d.1 ∉ A := of_decide_eq_true h2
      have hdb := mem_get W.nd (show (d.1, d.2) ∈ P.boxes from h1)
      rcases L.or hdb with ⟨h, hh, q⟩ | sl
      · exact hno ⟨h, hh, (q.trans (.one ⟨d.2, hdb, hs⟩)).trans p⟩
      · exact h2' ((hA d.1).mpr sl)
end BP

/-! Going on from a row by slots till nothing new comes. Own work; core Lean alone. -/
namespace BP
/-- what the row l leads to -/
def From (bs : List (Int × Bx)) (l : List (Option Int)) (n : Int) : Prop := ∃ s, some s ∈ l ∧ Path bs s n
/-- amid the walk: c is the row gone through, of whose boxes the first k have been gone through whole, and part of one more -/
structure Wk (bs : List (Int × Bx)) (l : List (Option Int)) (row : List Int) (k : Nat) (part : List (Option Int)) : Prop where
  nd : row.Nodup
  sound : ∀ n, n ∈ row → From bs l n
  done : ∀ j n b, j < k → row[j]? = some n → get bs n = some b → ∀ m, some m ∈ b.slots → m ∈ row
  part : ∀ m, some m ∈ part → m ∈ row
theorem Wk.add {bs : List (Int × Bx)} {l : List (Option Int)} {row : List Int} {k : Nat} {part : List (Option Int)} (h : Wk bs l row k part) (hk : k ≤ row.length) {n : Int} (hn : n ∉ row) (hf : From bs l n) : Wk bs l (row ++ [n]) k (part ++ [some n]) :=
  ⟨by
    rw [List.nodup_append]
    exact ⟨h.nd, by simp, fun a ha b hb => by rw [List.mem_singleton.mp hb]; exact fun e => hn (by rw [← e]; exact ha)⟩,
  fun m hm => by
    rcases List.mem_append.mp hm with hm | hm
    · exact h.sound m hm
    · rw [List.mem_singleton.mp hm]; exact hf,
  fun j m b hj e hb o ho => List.mem_append_left _ (h.done j m b hj (by rw [List.getElem?_append_left (by omega)] at e; exact e) hb o ho),
  fun m hm => by
    rcases List.mem_append.mp hm with hm | hm
    · exact List.mem_append_left _ (h.part m hm)
    · have : m = n := Option.some.inj (List.mem_singleton.mp hm)
      rw [this]
      exact List.mem_append_right _ (List.mem_singleton.mpr rfl)⟩
theorem Wk.skip {bs : List (Int × Bx)} {l : List (Option Int)} {row : List Int} {k : Nat} {part : List (Option Int)} (h : Wk bs l row k part) {x : Option Int} (hx : ∀ n, x = some n → n ∈ row) : Wk bs l row k (part ++ [x]) :=
  ⟨h.nd, h.sound, h.done, fun m hm => by
    rcases List.mem_append.mp hm with hm | hm
    · exact h.part m hm
    · exact hx m (List.mem_singleton.mp hm).symm⟩
/-- one box gone through -/
theorem Wk.turn {bs : List (Int × Bx)} {l : List (Option Int)} {row : List Int} {k : Nat} {n : Int} {b : Bx} (h : Wk bs l row k b.slots) (hn : row[k]? = some n) (hb : get bs n = some b) : Wk bs l row (k + 1) [] :=
  ⟨h.nd, h.sound, fun j m c hj e hc o ho => by
    by_cases q : j < k
    · exact h.done j m c q e hc o ho
    · have : j = k := by omega
      subst this
      have : n = m := Option.some.inj (hn.symm.trans e)
      subst this
      have : b = c := Option.some.inj (hb.symm.trans hc)
      subst this
      exact h.part o ho, fun m hm => (by cases hm)⟩
theorem Wk.next {bs : List (Int × Bx)} {l : List (Option Int)} {row : List Int} {k : Nat} {part : List (Option Int)} (h : Wk bs l row k part) {j : Nat} {n : Int} {b : Bx} (hn : row[j]? = some n) (hb : get bs n = some b) {m : Int} (hm : some m ∈ b.slots) : From bs l m := by
  obtain ⟨s, hs, p⟩ := h.sound n (List.mem_of_getElem? hn)
  exact ⟨s, hs, p.trans (.one ⟨b, hb, hm⟩)⟩
/-- at its end it has all -/
theorem Wk.all {P : Pl} {l : List (Option Int)} {row : List Int} {part : List (Option Int)} (h : Wk P.boxes l row row.length part) (hl : ∀ s, some s ∈ l → s ∈ row) (n : Int) : n ∈ row ↔ From P.boxes l n := by
  refine ⟨h.sound n, fun ⟨s, hs, p⟩ => ?_⟩
  have key : ∀ a z, Path P.boxes a z → a ∈ row → z ∈ row := fun a z p => by
    induction p with
    | refl m => exact fun q => q
    | @step a c z e _ ih =>
      intro ha
      obtain ⟨x, hx, hc⟩ := e
      obtain ⟨j, hj, ej⟩ := List.mem_iff_getElem.mp ha
      exact ih (h.done j a x hj (by rw [List.getElem?_eq_getElem hj, ej]) hx c hc)
  exact key s n p (hl s hs)
theorem From.alive {P : Pl} {w l : List (Option Int)} (W : Wf P w) (hl : ∀ s, some s ∈ l → ∃ b, get P.boxes s = some b) {n : Int} (h : From P.boxes l n) : ∃ b, get P.boxes n = some b := by
  obtain ⟨s, hs, p⟩ := h
  exact p.alive W (hl s hs)
/-- the row is never longer than the boxes are many -/
theorem Wk.len {P : Pl} {w l : List (Option Int)} {row : List Int} {k : Nat} {part : List (Option Int)} (W : Wf P w) (h : Wk P.boxes l row k part) (hl : ∀ s, some s ∈ l → ∃ b, get P.boxes s = some b) : row.length ≤ P.boxes.length := by
  have := nodup_le (a := row) (b := keys P.boxes) h.nd fun n hn => get_keys.mp ((h.sound n hn).alive W hl)
  rw [show (keys P.boxes).length = P.boxes.length from List.length_map _] at this
  exact this
theorem wk0 (bs : List (Int × Bx)) (l : List (Option Int)) : Wk bs l [] 0 [] := ⟨List.nodup_nil, fun n h => (by cases h), fun j n b h => absurd h (Nat.not_lt_zero j), fun m h => (by cases h)⟩
theorem Wk.clear {bs : List (Int × Bx)} {l : List (Option Int)} {row : List Int} {k : Nat} {part : List (Option Int)} (h : Wk bs l row k part) : Wk bs l row k [] := ⟨h.nd, h.sound, h.done, fun m h => (by cases h)⟩
end BP

/-! A pile in order: weights right, all led to; what stays of it behind a deed. Own work; core Lean alone. -/
namespace BP
structure Good (P : Pl) : Prop where
  wf : Wf P []
  led : Led P []
theorem good0 : Good pl0 := ⟨wf0, led0⟩
theorem Good.hand {P : Pl} (h : Good P) {i : Nat} (hi : i < 8) {x : Option Int} (hx : ∀ n, x = some n → ∃ b, get P.boxes n = some b) : Good (ptHand P i x).1 :=
  ⟨ptHand_ok (h.wf.pre hx) hi, ptHand_led (h.wf.pre hx) hi fun n b e => .inr (h.led n b e)⟩
theorem Good.hold {P : Pl} (h : Good P) {i j : Nat} (hi : i < 8) : Good (ptHand P i (P.hands.getD j none)).1 := h.hand hi fun n e => h.wf.hand e
theorem Good.drop {P : Pl} (h : Good P) {i : Nat} (hi : i < 8) : Good (ptHand P i none).1 := h.hand hi fun n e => by cases e
theorem Good.slot {P : Pl} (h : Good P) {k : Int} {b : Bx} {i : Nat} {x : Option Int} (hb : get P.boxes k = some b) (hi : i < b.slots.length) (hx : ∀ n, x = some n → ∃ b, get P.boxes n = some b) : Good (ptSlot P k i x).1 :=
  ⟨ptSlot_ok (h.wf.pre hx) hb hi, ptSlot_led (h.wf.pre hx) hb hi h.led⟩
theorem Good.make {P : Pl} (h : Good P) {i size : Nat} (hi : i < 8) (hs : size ≤ 6) (hf : P.boxes.length < 60) : Good (BP.mk P i size).1 := ⟨mk_ok h.wf hi hs hf, mk_led h.wf hi hs hf h.led⟩
theorem Good.tidied {P : Pl} (h : Good P) {F : List Int} (hF : Dead P F) : Good (tidied P F) := ⟨tidied_wf h.wf hF, tidied_led h.wf hF⟩
/-- boxes have as many slots as they had -/
theorem run_slots {bs : List (Int × Bx)} {w : List (Option Int)} {n : Int} {b : Bx} (h : get (run bs w).1 n = some b) : ∃ c, get bs n = some c ∧ c.slots = b.slots := go_slots h
theorem bumped_slots {bs : List (Int × Bx)} {x : Option Int} {n : Int} {b : Bx} (h : get (bumped bs x) n = some b) : ∃ c, get bs n = some c ∧ c.slots = b.slots := by
  obtain ⟨c, hc⟩ := bumped_was h
  obtain ⟨d, h1, h2, _⟩ := bumped_alike (x := x) hc
  have : d = b := Option.some.inj (h1.symm.trans h)
  subst this
  exact ⟨c, hc, h2.symm⟩
theorem ptHand_slots {P : Pl} {i : Nat} {x : Option Int} {n : Int} {b : Bx} (h : get (ptHand P i x).1.boxes n = some b) : ∃ c, get P.boxes n = some c ∧ c.slots = b.slots := by
  obtain ⟨c, h1, e1⟩ := run_slots (show get (run (bumped P.boxes x) [P.hands.getD i none]).1 n = some b from h)
  obtain ⟨d, h2, e2⟩ := bumped_slots h1
  exact ⟨d, h2, e2.trans e1⟩
theorem ptSlot_slots {P : Pl} {k : Int} {i : Nat} {x : Option Int} {n : Int} {b : Bx} (h : get (ptSlot P k i x).1.boxes n = some b) : ∃ c, get P.boxes n = some c ∧ b.slots = if n = k then c.slots.set i x else c.slots := by
  obtain ⟨c, h1, e1⟩ := run_slots (show get (run (chg (bumped P.boxes x) k (setSlot i x)) [slotOf P.boxes k i]).1 n = some b from h)
  rw [get_chg] at h1
  cases q : get (bumped P.boxes x) n with
  | none => rw [q] at h1; cases h1
  | some d =>
    rw [q] at h1
    obtain ⟨e, h2, e2⟩ := bumped_slots q
    have h1' : (if n = k then setSlot i x d else d) = c := Option.some.inj h1
    refine ⟨e, h2, ?_⟩
    rw [← e1, ← h1']
    by_cases z : n = k
    · rw [if_pos z, if_pos z, e2]; rfl
    · rw [if_neg z, if_neg z, e2]
theorem mk_slots {P : Pl} (W : Wf P []) {i size : Nat} {n : Int} {b : Bx} (h : get (BP.mk P i size).1.boxes n = some b) : (n = P.made ∧ b.slots = List.replicate size none) ∨ ∃ c, get P.boxes n = some c ∧ c.slots = b.slots := by
  obtain ⟨c, h1, e1⟩ := ptHand_slots (P := born P size) h
  rw [get_born W size n] at h1
  by_cases z : n = P.made
  · rw [if_pos z] at h1
    refine .inl ⟨z, ?_⟩
    rw [← e1, ← Option.some.inj h1]
  · rw [if_neg z] at h1
    exact .inr ⟨c, h1, e1⟩
/-- what a hand holds has so many slots -/
def Has (P : Pl) (h n : Nat) : Prop := ∃ x b, P.hands.getD h none = some x ∧ get P.boxes x = some b ∧ n ≤ b.slots.length
theorem getD_set_off {l : List (Option Int)} {i h : Nat} (x : Option Int) (c : h ≠ i) : (l.set i x).getD h none = l.getD h none := by
  rw [List.getD_eq_getElem?_getD, List.getD_eq_getElem?_getD, List.getElem?_set_ne (fun z => c z.symm)]
theorem getD_set_on {l : List (Option Int)} {i : Nat} (x : Option Int) (c : i < l.length) : (l.set i x).getD i none = x := by
  rw [List.getD_eq_getElem?_getD, List.getElem?_set_self c]
  rfl
theorem Has.hand {P : Pl} {h n i : Nat} {x : Option Int} (s : Has P h n) (c : h ≠ i) (G : Good (ptHand P i x).1) : Has (ptHand P i x).1 h n := by
  obtain ⟨y, b, h1, h2, h3⟩ := s
  have e : (ptHand P i x).1.hands.getD h none = some y := (getD_set_off x c).trans h1
  obtain ⟨d, hd⟩ := G.wf.hand e
  obtain ⟨c', h4, e4⟩ := ptHand_slots hd
  have : c' = b := Option.some.inj (h4.symm.trans h2)
  subst this
  exact ⟨y, d, e, hd, by rw [← e4]; exact h3⟩
theorem Has.slot {P : Pl} {h n i : Nat} {k : Int} {x : Option Int} (s : Has P h n) (G : Good (ptSlot P k i x).1) : Has (ptSlot P k i x).1 h n := by
  obtain ⟨y, b, h1, h2, h3⟩ := s
  have e : (ptSlot P k i x).1.hands.getD h none = some y := h1
  obtain ⟨d, hd⟩ := G.wf.hand e
  obtain ⟨c', h4, e4⟩ := ptSlot_slots hd
  have : c' = b := Option.some.inj (h4.symm.trans h2)
  subst this
  refine ⟨y, d, e, hd, ?_⟩
  rw [e4]
  split
  · rw [List.length_set]; exact h3
  · exact h3
theorem Has.mk {P : Pl} {h n i size : Nat} (W : Wf P []) (s : Has P h n) (c : h ≠ i) (G : Good (BP.mk P i size).1) : Has (BP.mk P i size).1 h n := by
  obtain ⟨y, b, h1, h2, h3⟩ := s
  have e : (BP.mk P i size).1.hands.getD h none = some y := (getD_set_off _ c).trans h1
  obtain ⟨d, hd⟩ := G.wf.hand e
  rcases mk_slots W hd with ⟨q, _⟩ | ⟨c', h4, e4⟩
  · have := (W.lo y (get_keys.mp ⟨b, h2⟩)).2
    omega
  · have : c' = b := Option.some.inj (h4.symm.trans h2)
    subst this
    exact ⟨y, d, e, hd, by rw [← e4]; exact h3⟩
theorem has_mk {P : Pl} {i size : Nat} (W : Wf P []) (hi : i < 8) (G : Good (BP.mk P i size).1) : Has (BP.mk P i size).1 i size := by
  have e : (BP.mk P i size).1.hands.getD i none = some P.made := getD_set_on _ (by rw [show (born P size).hands = P.hands from rfl, W.hl]; exact hi)
  obtain ⟨d, hd⟩ := G.wf.hand e
  rcases mk_slots W hd with ⟨_, q⟩ | ⟨c', h4, _⟩
  · exact ⟨_, d, e, hd, by rw [q, List.length_replicate]; exact Nat.le_refl _⟩
  · have := (W.lo _ (get_keys.mp ⟨c', h4⟩)).2
    omega
/-- there are no more boxes than were made -/
theorem Good.few {P : Pl} (h : Good P) : (P.boxes.length : Int) ≤ P.made := by
  have W := h.wf
  have := nodup_le (a := keys P.boxes) (b := (List.range P.made.toNat).map fun i => ((i : Nat) : Int)) W.nd fun n hn => by
    obtain ⟨a, b⟩ := W.lo n hn
    rw [List.mem_map]
    exact ⟨n.toNat, List.mem_range.mpr (by omega), by omega⟩
  rw [List.length_map, List.length_range, show (keys P.boxes).length = P.boxes.length from List.length_map _] at this
  have := W.m0
  omega
theorem made_hand (P : Pl) (i : Nat) (x : Option Int) : (ptHand P i x).1.made = P.made := rfl
theorem made_slot (P : Pl) (k : Int) (i : Nat) (x : Option Int) : (ptSlot P k i x).1.made = P.made := rfl
theorem made_mk (P : Pl) (i size : Nat) : (BP.mk P i size).1.made = P.made + 1 := rfl
end BP

/-! Going through what is reached from the end of a row; a tidy's three passes over the boxes. Own work; core Lean alone. -/
namespace BP
/-! ### the walk with a stack -/
structure Dw (bs : List (Int × Bx)) (l : List (Option Int)) (row w : List Int) : Prop where
  nd : row.Nodup
  al : ∀ n, n ∈ row → ∃ b, get bs n = some b
  sound : ∀ n, n ∈ row → From bs l n
  wsound : ∀ n, n ∈ w → From bs l n
  done : ∀ n b, n ∈ row → get bs n = some b → ∀ m, some m ∈ b.slots → m ∈ row ∨ m ∈ w
  start : ∀ s, some s ∈ l → s ∈ row ∨ s ∈ w
theorem mem_some {l : List Int} {s : Int} : some s ∈ l.map some ↔ s ∈ l := by simp
theorem dw0 (bs : List (Int × Bx)) (l : List Int) : Dw bs (l.map some) [] l :=
  ⟨List.nodup_nil, fun n h => (by cases h), fun n h => (by cases h), fun n h => ⟨n, mem_some.mpr h, .refl n⟩, fun n b h => (by cases h), fun s h => .inr (mem_some.mp h)⟩
theorem Dw.skip {bs : List (Int × Bx)} {l : List (Option Int)} {row w : List Int} {n : Int} (h : Dw bs l row (w ++ [n])) (hn : n ∈ row) : Dw bs l row w :=
  ⟨h.nd, h.al, h.sound, fun m hm => h.wsound m (List.mem_append_left _ hm), fun k b hk hb m hm => by
    rcases h.done k b hk hb m hm with q | q
    · exact .inl q
    · rcases List.mem_append.mp q with q | q
      · exact .inr q
      · rw [List.mem_singleton.mp q]; exact .inl hn,
  fun s hs => by
    rcases h.start s hs with q | q
    · exact .inl q
    · rcases List.mem_append.mp q with q | q
      · exact .inr q
      · rw [List.mem_singleton.mp q]; exact .inl hn⟩
theorem mem_fm {l : List (Option Int)} {m : Int} : m ∈ l.filterMap id ↔ some m ∈ l := by simp [List.mem_filterMap]
theorem Dw.add {bs : List (Int × Bx)} {l : List (Option Int)} {row w : List Int} {n : Int} {b : Bx} (h : Dw bs l row (w ++ [n])) (hn : n ∉ row) (hb : get bs n = some b) : Dw bs l (row ++ [n]) (w ++ b.slots.filterMap id) :=
  ⟨by
    rw [List.nodup_append]
    exact ⟨h.nd, by simp, fun a ha c hc => by rw [List.mem_singleton.mp hc]; exact fun e => hn (by rw [← e]; exact ha)⟩,
  fun m hm => by
    rcases List.mem_append.mp hm with hm | hm
    · exact h.al m hm
    · rw [List.mem_singleton.mp hm]; exact ⟨b, hb⟩,
  fun m hm => by
    rcases List.mem_append.mp hm with hm | hm
    · exact h.sound m hm
    · rw [List.mem_singleton.mp hm]; exact h.wsound n (List.mem_append_right _ (List.mem_singleton.mpr rfl)),
  fun m hm => by
    rcases List.mem_append.mp hm with hm | hm
    · exact h.wsound m (List.mem_append_left _ hm)
    · obtain ⟨s, hs, p⟩ := h.wsound n (List.mem_append_right _ (List.mem_singleton.mpr rfl))
      exact ⟨s, hs, p.trans (.one ⟨b, hb, mem_fm.mp hm⟩)⟩,
  fun k c hk hc m hm => by
    rcases List.mem_append.mp hk with hk | hk
    · rcases h.done k c hk hc m hm with q | q
      · exact .inl (List.mem_append_left _ q)
      · rcases List.mem_append.mp q with q | q
        · exact .inr (List.mem_append_left _ q)
        · exact .inl (List.mem_append_right _ q)
    · rw [List.mem_singleton.mp hk] at hc
      have : b = c := Option.some.inj (hb.symm.trans hc)
      subst this
      exact .inr (List.mem_append_right _ (mem_fm.mpr hm)),
  fun s hs => by
    rcases h.start s hs with q | q
    · exact .inl (List.mem_append_left _ q)
    · rcases List.mem_append.mp q with q | q
      · exact .inr (List.mem_append_left _ q)
      · exact .inl (List.mem_append_right _ q)⟩
theorem Dw.all {bs : List (Int × Bx)} {l : List (Option Int)} {row : List Int} (h : Dw bs l row []) (n : Int) : n ∈ row ↔ From bs l n := by
  refine ⟨h.sound n, fun ⟨s, hs, p⟩ => ?_⟩
  have key : ∀ a z, Path bs a z → a ∈ row → z ∈ row := fun a z p => by
    induction p with
    | refl m => exact fun q => q
    | @step a c z e _ ih =>
      intro ha
      obtain ⟨x, hx, hc⟩ := e
      exact ih ((h.done a x ha hx c hc).resolve_right fun q => by cases q)
  exact key s n p ((h.start s hs).resolve_right fun q => by cases q)
theorem Dw.len {bs : List (Int × Bx)} {l : List (Option Int)} {row w : List Int} (h : Dw bs l row w) : row.length ≤ bs.length := by
  have := nodup_le (a := row) (b := keys bs) h.nd fun n hn => get_keys.mp (h.al n hn)
  rw [show (keys bs).length = bs.length from List.length_map _] at this
  exact this
/-- a dead one that is met was handed in -/
theorem Dw.dead {P : Pl} {v : List (Option Int)} {l : List (Option Int)} {row w : List Int} (W : Wf P v) (h : Dw P.boxes l row w) {n : Int} (hn : n ∈ w) (hd : get P.boxes n = none) : ∃ s, some s ∈ l ∧ get P.boxes s = none := by
  obtain ⟨s, hs, p⟩ := h.wsound n hn
  refine ⟨s, hs, ?_⟩
  cases q : get P.boxes s with
  | none => rfl
  | some b =>
    obtain ⟨c, hc⟩ := p.alive W ⟨b, q⟩
    rw [hc] at hd
    cases hd
theorem last_of {w : List Int} {y : Int} (h : w[w.length - 1]? = some y) : w = w.dropLast ++ [y] := by
  have hne : w ≠ [] := fun e => by rw [e] at h; cases h
  have h2 := List.dropLast_concat_getLast hne
  have h3 : w.getLast hne = y := by
    rw [List.getLast_eq_getElem]
    exact (List.getElem?_eq_some_iff.mp h).2
  rw [h3] at h2
  exact h2.symm
/-! ### the passes of a tidy -/
def lowr (bs : List (Int × Bx)) (c : Int → Nat) : List (Int × Bx) := bs.map fun e => (e.1, { e.2 with wt := e.2.wt - (c e.1 : Int) })
theorem get_lowr (bs : List (Int × Bx)) (c : Int → Nat) (n : Int) : get (lowr bs c) n = (get bs n).map fun b => { b with wt := b.wt - (c n : Int) } := get_mapv (fun k b => { b with wt := b.wt - (c k : Int) }) n bs
theorem lowr_0 (bs : List (Int × Bx)) : lowr bs (fun _ => 0) = bs := by
  unfold lowr
  induction bs with
  | nil => rfl
  | cons e bs ih =>
    rw [List.map_cons, ih]
    obtain ⟨n, ⟨a, b, c⟩⟩ := e
    show (n, (⟨a, b - ((0 : Nat) : Int), c⟩ : Bx)) :: bs = _
    rw [show b - ((0 : Nat) : Int) = b from by omega]
def less (b : Bx) : Bx := { b with wt := b.wt - 1 }
theorem chg_lowr (m : Int) (c c' : Int → Nat) (hc : ∀ n, c' n = c n + one (some m) n) : ∀ bs, chg (lowr bs c) m less = lowr bs c'
  | [] => rfl
  | e :: bs => by
    have ih := chg_lowr m c c' hc bs
    show (if e.1 = m then (e.1, less { e.2 with wt := e.2.wt - (c e.1 : Int) }) else (e.1, { e.2 with wt := e.2.wt - (c e.1 : Int) })) :: chg (lowr bs c) m less = (e.1, { e.2 with wt := e.2.wt - (c' e.1 : Int) }) :: lowr bs c'
    rw [ih]
    congr 1
    have h := hc e.1
    by_cases q : e.1 = m
    · rw [if_pos q]
      have o : one (some m) e.1 = 1 := by simp [one, q]
      unfold less
      show (e.1, (⟨e.2.slots, e.2.wt - (c e.1 : Int) - 1, e.2.sus⟩ : Bx)) = (e.1, (⟨e.2.slots, e.2.wt - (c' e.1 : Int), e.2.sus⟩ : Bx))
      rw [show e.2.wt - (c e.1 : Int) - 1 = e.2.wt - (c' e.1 : Int) from by omega]
    · rw [if_neg q]
      have o : one (some m) e.1 = 0 := by
        unfold one
        rw [if_neg (fun z => q (Option.some.inj z).symm)]
      rw [show c' e.1 = c e.1 from by omega]
theorem keys_lowr (bs : List (Int × Bx)) (c : Int → Nat) : keys (lowr bs c) = keys bs := by
  unfold keys lowr
  rw [List.map_map]
  rfl
/-- boxes beside the row -/
theorem rm_out (bs : List (Int × Bx)) (F : List Int) (n : Int) : rm (out bs F) n = out bs (F ++ [n]) := by
  unfold rm out
  rw [List.filter_filter]
  congr 1
  funext e
  by_cases h1 : e.1 = n <;> by_cases h2 : e.1 ∈ F <;> simp [h1, h2]
theorem out_nil (bs : List (Int × Bx)) : out bs [] = bs := by
  unfold out
  simp
theorem out_lowr (bs : List (Int × Bx)) (c : Int → Nat) (F : List Int) : out (lowr bs c) F = lowr (out bs F) c := by
  unfold out lowr
  rw [List.filter_map]
  rfl
def calm (b : Bx) : Bx := { b with sus := false }
/-- the first of them are no suspects -/
def calmed (bs : List (Int × Bx)) (S : List Int) : List (Int × Bx) := bs.map fun e => if e.1 ∈ S then (e.1, calm e.2) else e
theorem calmed_nil (bs : List (Int × Bx)) : calmed bs [] = bs := by
  unfold calmed
  simp
theorem chg_calmed (m : Int) (S : List Int) : ∀ bs, chg (calmed bs S) m calm = calmed bs (S ++ [m])
  | [] => rfl
  | e :: bs => by
    have ih := chg_calmed m S bs
    have e1 : ∀ (e : Int × Bx) (bs : List (Int × Bx)) (f : Bx → Bx), chg (e :: bs) m f = (if e.1 = m then (e.1, f e.2) else e) :: chg bs m f := fun _ _ _ => rfl
    show chg ((if e.1 ∈ S then (e.1, calm e.2) else e) :: calmed bs S) m calm = (if e.1 ∈ S ++ [m] then (e.1, calm e.2) else e) :: calmed bs (S ++ [m])
    rw [e1, ih]
    congr 1
    by_cases h1 : e.1 = m <;> by_cases h2 : e.1 ∈ S <;> simp [h1, h2, calm]
    all_goals first | done | (subst h1; simp_all)
theorem get_calmed (S : List Int) (n : Int) : ∀ bs, get (calmed bs S) n = (get bs n).map fun b => if n ∈ S then calm b else b
  | [] => rfl
  | e :: bs => by
    have ih := get_calmed S n bs
    show get ((if e.1 ∈ S then (e.1, calm e.2) else e) :: calmed bs S) n = _
    rw [get_cons, get_cons, ih]
    by_cases h1 : e.1 = n
    · have h2 : (if e.1 ∈ S then (e.1, calm e.2) else e).1 = n := by split <;> exact h1
      rw [if_pos h2, if_pos h1]
      by_cases h3 : e.1 ∈ S
      · rw [if_pos h3]
        rw [h1] at h3
        simp [h3]
      · rw [if_neg h3]
        rw [h1] at h3
        simp [h3]
    · have h2 : ¬ (if e.1 ∈ S then (e.1, calm e.2) else e).1 = n := by split <;> exact h1
      rw [if_neg h2, if_neg h1]
theorem keys_calmed (S : List Int) (bs : List (Int × Bx)) : keys (calmed bs S) = keys bs := by
  unfold keys calmed
  rw [List.map_map]
  congr 1
  funext e
  show (if e.1 ∈ S then (e.1, calm e.2) else e).1 = e.1
  split <;> rfl
/-- all three passes -/
theorem passes {P : Pl} {F : List Int} {c : Int → Nat} (hc : ∀ n, c n = scnt (inn P.boxes F) n) : calmed (lowr (out P.boxes F) c) (keys (lowr (out P.boxes F) c)) = (tidied P F).boxes := by
  have key : ∀ (bs : List (Int × Bx)) (S : List Int), (∀ e ∈ bs, e.1 ∈ S) → calmed (lowr bs c) S = bs.map fun e => (e.1, { e.2 with wt := e.2.wt - ((scnt (inn P.boxes F) e.1 : Nat) : Int), sus := false }) := fun bs S hS => by
    unfold calmed lowr
    rw [List.map_map]
    refine List.map_congr_left fun e he => ?_
    show (if e.1 ∈ S then _ else _) = _
    rw [if_pos (hS e he)]
    unfold calm
    simp only [hc]
  refine key _ _ fun e he => ?_
  rw [keys_lowr]
  exact List.mem_map.mpr ⟨e, he, rfl⟩
theorem inn_nil (bs : List (Int × Bx)) (n : Int) : scnt (inn bs []) n = 0 := by
  have : inn bs [] = [] := by unfold inn; simp
  rw [this]
  rfl
/-- one more box gone through -/
theorem scnt_inn_snoc {m : Int} {b : Bx} {F : List Int} (n : Int) : ∀ {bs : List (Int × Bx)}, (keys bs).Nodup → get bs m = some b → m ∉ F → scnt (inn bs (F ++ [m])) n = scnt (inn bs F) n + cnt b.slots n
  | [], _, h, _ => by simp [get_nil] at h
  | e :: bs, hn, h, hF => by
    have hn' : e.1 ∉ keys bs ∧ (keys bs).Nodup := by simpa [keys] using hn
    rw [get_cons] at h
    have e1 : ∀ F, scnt (inn (e :: bs) F) n = (if e.1 ∈ F then cnt e.2.slots n else 0) + scnt (inn bs F) n := fun F => by
      unfold inn
      rw [List.filter_cons]
      by_cases q : e.1 ∈ F
      · rw [if_pos (decide_eq_true q), if_pos q, scnt_cons]
      · rw [if_neg (by simp [q]), if_neg q]
        omega
    rw [e1, e1]
    by_cases h1 : e.1 = m
    · rw [if_pos h1] at h
      have eb : e.2 = b := Option.some.inj h
      have no : ∀ F', (∀ x, x ∈ F' ↔ x ∈ F ∨ x = m) → scnt (inn bs F') n = scnt (inn bs F) n := fun F' hF' => by
        congr 1
        unfold inn
        refine List.filter_congr fun x hx => ?_
        have : x.1 ≠ m := fun z => hn'.1 (by rw [h1, ← z]; exact List.mem_map.mpr ⟨x, hx, rfl⟩)
        have := hF' x.1
        by_cases q : x.1 ∈ F <;> simp_all
      rw [no (F ++ [m]) (fun x => by simp), if_pos (by simp [h1]), if_neg (by rw [h1]; exact hF), eb]
      omega
    · rw [if_neg h1] at h
      rw [scnt_inn_snoc n hn'.2 h hF]
      have : (e.1 ∈ F ++ [m]) ↔ e.1 ∈ F := by simp [h1]
      by_cases q : e.1 ∈ F
      · rw [if_pos q, if_pos (this.mpr q)]; omega
      · rw [if_neg q, if_neg (fun z => q (this.mp z))]; omega
end BP

/-! The pile as it lies in the heap. Own work. -/
namespace BP
open PySem L2

def oV : Option Int → V
  | none => .non
  | some n => .int n
def lV (l : List (Option Int)) : List V := l.map oV
theorem lV_get {l : List (Option Int)} {i : Nat} (h : i < l.length) : (lV l)[i]? = some (oV (l.getD i none)) := by
  unfold lV
  rw [List.getElem?_map, getD_some h]
  rfl
theorem lV_set (l : List (Option Int)) (i : Nat) (x : Option Int) : (lV l).set i (oV x) = lV (l.set i x) := by
  unfold lV
  rw [List.map_set]
theorem lV_len (l : List (Option Int)) : (lV l).length = l.length := List.length_map _

/-! ### the attributes -/
theorem s_hb : ¬ (("_hands" : Str) = "_boxes") := by decide +kernel
theorem s_hm : ¬ (("_hands" : Str) = "_made") := by decide +kernel
theorem s_bm : ¬ (("_boxes" : Str) = "_made") := by decide +kernel
theorem s_bh : ¬ (("_boxes" : Str) = "_hands") := by decide +kernel
theorem s_sw : ¬ (("slots" : Str) = "weight") := by decide +kernel
theorem s_ss : ¬ (("slots" : Str) = "suspect") := by decide +kernel
theorem s_ws : ¬ (("weight" : Str) = "suspect") := by decide +kernel
theorem s_hs : ¬ (("_hands" : Str) = "slots") := by decide +kernel
def pf (lh db : Addr) (m : Int) : List (Str × V) := putF "_made" (.int m) (putF "_boxes" (.ref db) (putF "_hands" (.ref lh) []))
theorem pf_eq (lh db : Addr) (m : Int) : pf lh db m = ([("_hands", V.ref lh), ("_boxes", V.ref db), ("_made", V.int m)] : List (Str × V)) := by
  show (putF "_made" (.int m) (if ("_hands" : Str) = "_boxes" then [(("_hands" : Str), V.ref db)] else (("_hands" : Str), V.ref lh) :: [(("_boxes" : Str), V.ref db)])) = _
  rw [if_neg s_hb]
  show (if ("_hands" : Str) = "_made" then _ else (("_hands" : Str), V.ref lh) :: (if ("_boxes" : Str) = "_made" then _ else (("_boxes" : Str), V.ref db) :: [(("_made" : Str), V.int m)])) = _
  rw [if_neg s_hm, if_neg s_bm]
theorem pf_hands (lh db : Addr) (m : Int) : (pf lh db m).lookup ("_hands" : Str) = some (.ref lh) := by
  unfold pf
  rw [lookup_putF, if_neg s_hm, lookup_putF, if_neg s_hb, lookup_putF, if_pos rfl]
theorem pf_boxes (lh db : Addr) (m : Int) : (pf lh db m).lookup ("_boxes" : Str) = some (.ref db) := by
  unfold pf
  rw [lookup_putF, if_neg s_bm, lookup_putF, if_pos rfl]
theorem pf_made (lh db : Addr) (m : Int) : (pf lh db m).lookup ("_made" : Str) = some (.int m) := by
  unfold pf
  rw [lookup_putF, if_pos rfl]
theorem pf_no (lh db : Addr) (m : Int) {x : Str} (h1 : ¬ x = "_made") (h2 : ¬ x = "_boxes") (h3 : ¬ x = "_hands") : (pf lh db m).lookup x = none := by
  unfold pf
  rw [lookup_putF, if_neg h1, lookup_putF, if_neg h2, lookup_putF, if_neg h3]
  rfl
theorem pf_put (lh db : Addr) (m z : Int) : putF "_made" (.int z) (pf lh db m) = pf lh db z := by
  rw [pf_eq, pf_eq]
  show (if ("_hands" : Str) = "_made" then _ else (("_hands" : Str), V.ref lh) :: (if ("_boxes" : Str) = "_made" then _ else (("_boxes" : Str), V.ref db) :: (if ("_made" : Str) = "_made" then [(("_made" : Str), V.int z)] else _))) = _
  rw [if_neg s_hm, if_neg s_bm, if_pos rfl]
theorem pf_len (lh db : Addr) (m : Int) : (pf lh db m).length = 3 := by rw [pf_eq]; rfl
def bf (sl : Addr) (w : Int) (s : Bool) : List (Str × V) := putF "suspect" (.bl s) (putF "weight" (.int w) (putF "slots" (.ref sl) []))
theorem bf_eq (sl : Addr) (w : Int) (s : Bool) : bf sl w s = ([("slots", V.ref sl), ("weight", V.int w), ("suspect", V.bl s)] : List (Str × V)) := by
  show (putF "suspect" (.bl s) (if ("slots" : Str) = "weight" then [(("slots" : Str), V.int w)] else (("slots" : Str), V.ref sl) :: [(("weight" : Str), V.int w)])) = _
  rw [if_neg s_sw]
  show (if ("slots" : Str) = "suspect" then _ else (("slots" : Str), V.ref sl) :: (if ("weight" : Str) = "suspect" then _ else (("weight" : Str), V.int w) :: [(("suspect" : Str), V.bl s)])) = _
  rw [if_neg s_ss, if_neg s_ws]
theorem bf_slots (sl : Addr) (w : Int) (s : Bool) : (bf sl w s).lookup ("slots" : Str) = some (.ref sl) := by
  unfold bf
  rw [lookup_putF, if_neg s_ss, lookup_putF, if_neg s_sw, lookup_putF, if_pos rfl]
theorem bf_weight (sl : Addr) (w : Int) (s : Bool) : (bf sl w s).lookup ("weight" : Str) = some (.int w) := by
  unfold bf
  rw [lookup_putF, if_neg s_ws, lookup_putF, if_pos rfl]
theorem bf_suspect (sl : Addr) (w : Int) (s : Bool) : (bf sl w s).lookup ("suspect" : Str) = some (.bl s) := by
  unfold bf
  rw [lookup_putF, if_pos rfl]
theorem bf_putw (sl : Addr) (w z : Int) (s : Bool) : putF "weight" (.int z) (bf sl w s) = bf sl z s := by
  rw [bf_eq, bf_eq]
  show (if ("slots" : Str) = "weight" then _ else (("slots" : Str), V.ref sl) :: (if ("weight" : Str) = "weight" then (("weight" : Str), V.int z) :: [(("suspect" : Str), V.bl s)] else _)) = _
  rw [if_neg s_sw, if_pos rfl]
theorem bf_puts (sl : Addr) (w : Int) (s t : Bool) : putF "suspect" (.bl t) (bf sl w s) = bf sl w t := by
  rw [bf_eq, bf_eq]
  show (if ("slots" : Str) = "suspect" then _ else (("slots" : Str), V.ref sl) :: (if ("weight" : Str) = "suspect" then _ else (("weight" : Str), V.int w) :: (if ("suspect" : Str) = "suspect" then [(("suspect" : Str), V.bl t)] else _))) = _
  rw [if_neg s_ss, if_neg s_ws, if_pos rfl]
theorem bf_len (sl : Addr) (w : Int) (s : Bool) : (bf sl w s).length = 3 := by rw [bf_eq]; rfl
theorem pf_bf (lh db sl : Addr) (m w : Int) (s : Bool) : pf lh db m ≠ bf sl w s := by
  rw [pf_eq, bf_eq]
  intro q
  injection q with q1 q2
  injection q1 with q3 q4
  exact s_hs q3

/-! ### the dict of the boxes -/
def dV (ba : Int → Addr) (bs : List (Int × Bx)) : List (Key × V) := bs.map fun e => ((Sum.inl e.1 : Key), V.ref (ba e.1))
theorem dV_cons (ba : Int → Addr) (e : Int × Bx) (bs : List (Int × Bx)) : dV ba (e :: bs) = ((Sum.inl e.1 : Key), V.ref (ba e.1)) :: dV ba bs := rfl
theorem valV_dV (ba : Int → Addr) (n : Int) : ∀ bs, valV (dV ba bs) (Sum.inl n : Key) = (get bs n).map fun _ => V.ref (ba n)
  | [] => rfl
  | e :: bs => by
    rw [dV_cons, get_cons]
    by_cases h : e.1 = n
    · rw [valV_pos (by rw [h]), if_pos h, h]
      rfl
    · rw [valV_neg (by intro q; injection q with q; exact h q), if_neg h]
      exact valV_dV ba n bs
theorem dV_len (ba : Int → Addr) (bs : List (Int × Bx)) : (dV ba bs).length = bs.length := List.length_map _
theorem dV_keys (ba : Int → Addr) (bs : List (Int × Bx)) : (dV ba bs).map (·.1) = (keys bs).map Sum.inl := by
  unfold dV keys
  rw [List.map_map, List.map_map]
  rfl
theorem dV_chg (ba : Int → Addr) (n : Int) (f : Bx → Bx) : ∀ bs, dV ba (chg bs n f) = dV ba bs
  | [] => rfl
  | e :: bs => by
    have ih := dV_chg ba n f bs
    have e1 : chg (e :: bs) n f = (if e.1 = n then (e.1, f e.2) else e) :: chg bs n f := rfl
    rw [e1, dV_cons, dV_cons, ih]
    by_cases h : e.1 = n <;> simp [h]
theorem dV_rm (ba : Int → Addr) (n : Int) : ∀ bs, dropK (dV ba bs) (Sum.inl n : Key) = dV ba (rm bs n)
  | [] => rfl
  | e :: bs => by
    have ih := dV_rm ba n bs
    rw [dV_cons]
    by_cases h : e.1 = n
    · have e1 : rm (e :: bs) n = rm bs n := by unfold rm; simp [List.filter_cons, h]
      rw [dropK_pos (by rw [h]), e1, ih]
    · have e1 : rm (e :: bs) n = e :: rm bs n := by unfold rm; simp [List.filter_cons, h]
      rw [dropK_neg (by intro q; injection q with q; exact h q), e1, ih]
      rfl
theorem dV_agree {ba bb : Int → Addr} : ∀ {bs : List (Int × Bx)}, (∀ n ∈ keys bs, ba n = bb n) → dV ba bs = dV bb bs
  | [], _ => rfl
  | e :: bs, h => by
    rw [dV_cons, dV_cons, h e.1 (by simp [keys]), dV_agree fun n hn => h n (by simp only [keys, List.map_cons, List.mem_cons]; exact .inr hn)]
theorem dV_snoc (ba : Int → Addr) (n : Int) (b : Bx) (bs : List (Int × Bx)) : dV ba (bs ++ [(n, b)]) = dV ba bs ++ [((Sum.inl n : Key), V.ref (ba n))] := by
  unfold dV
  rw [List.map_append]
  rfl

/-! ### the pile in the heap -/
/-- where the parts lie: the own dict, the hands' list, the boxes' dict, each box's own dict, each box, its slots' list -/
structure Geo where
  dx : Addr
  lh : Addr
  db : Addr
  bd : Int → Addr
  ba : Int → Addr
  sa : Int → Addr
/-- the pile P lies at p in H as g tells; R: what else of H is known, none of it the pile's -/
structure PileAt (C B p : Addr) (g : Geo) (P : Pl) (R H : Hp) : Prop where
  same : Same R H
  rp : R p = none
  rh : R g.lh = none
  rd : R g.db = none
  rb : ∀ n b, get P.boxes n = some b → R (g.ba n) = none
  rs : ∀ n b, get P.boxes n = some b → R (g.sa n) = none
  hp : H p = some (.ins C g.dx (pf g.lh g.db P.made))
  hh : H g.lh = some (.lst (lV P.hands))
  hd : H g.db = some (.dK (dV g.ba P.boxes))
  hb : ∀ n b, get P.boxes n = some b → H (g.ba n) = some (.ins B (g.bd n) (bf (g.sa n) b.wt b.sus))
  hs : ∀ n b, get P.boxes n = some b → H (g.sa n) = some (.lst (lV b.slots))
  ib : ∀ n m b c, get P.boxes n = some b → get P.boxes m = some c → g.ba n = g.ba m → n = m
  is : ∀ n m b c, get P.boxes n = some b → get P.boxes m = some c → g.sa n = g.sa m → n = m
  hn : ∀ n b, get P.boxes n = some b → g.sa n ≠ g.lh
section
variable {C B p : Addr} {g : Geo} {P : Pl} {R R' H : Hp}
theorem ins_ne_lst {C dx : Addr} {fs : List (Str × V)} {xs : List V} : HO.ins C dx fs ≠ HO.lst xs := by intro q; cases q
theorem ins_ne_dK {C dx : Addr} {fs : List (Str × V)} {xs : List (Key × V)} : HO.ins C dx fs ≠ HO.dK xs := by intro q; cases q
theorem lst_ne_dK {ys : List V} {xs : List (Key × V)} : HO.lst ys ≠ HO.dK xs := by intro q; cases q
theorem PileAt.p_lh (A : PileAt C B p g P R H) : p ≠ g.lh := ne_of A.hp A.hh ins_ne_lst
theorem PileAt.p_db (A : PileAt C B p g P R H) : p ≠ g.db := ne_of A.hp A.hd ins_ne_dK
theorem PileAt.lh_db (A : PileAt C B p g P R H) : g.lh ≠ g.db := ne_of A.hh A.hd lst_ne_dK
theorem PileAt.p_ba (A : PileAt C B p g P R H) {n : Int} {b : Bx} (h : get P.boxes n = some b) : p ≠ g.ba n := ne_of A.hp (A.hb n b h) fun q => by
  injection q with _ _ q
  exact pf_bf _ _ _ _ _ _ q
theorem PileAt.p_sa (A : PileAt C B p g P R H) {n : Int} {b : Bx} (h : get P.boxes n = some b) : p ≠ g.sa n := ne_of A.hp (A.hs n b h) ins_ne_lst
theorem PileAt.ba_lh (A : PileAt C B p g P R H) {n : Int} {b : Bx} (h : get P.boxes n = some b) : g.ba n ≠ g.lh := ne_of (A.hb n b h) A.hh ins_ne_lst
theorem PileAt.ba_db (A : PileAt C B p g P R H) {n : Int} {b : Bx} (h : get P.boxes n = some b) : g.ba n ≠ g.db := ne_of (A.hb n b h) A.hd ins_ne_dK
theorem PileAt.sa_db (A : PileAt C B p g P R H) {n : Int} {b : Bx} (h : get P.boxes n = some b) : g.sa n ≠ g.db := ne_of (A.hs n b h) A.hd lst_ne_dK
theorem PileAt.ba_sa (A : PileAt C B p g P R H) {n m : Int} {b c : Bx} (h : get P.boxes n = some b) (h2 : get P.boxes m = some c) : g.ba n ≠ g.sa m := ne_of (A.hb n b h) (A.hs m c h2) ins_ne_lst

/-- less is known -/
theorem PileAt.less (A : PileAt C B p g P R H) (s : Same R' R) : PileAt C B p g P R' H :=
  ⟨s.trans A.same, s.free A.rp, s.free A.rh, s.free A.rd, fun n b h => s.free (A.rb n b h), fun n b h => s.free (A.rs n b h), A.hp, A.hh, A.hd, A.hb, A.hs, A.ib, A.is, A.hn⟩
/-- the heap has grown -/
theorem PileAt.grow {H' : Hp} (A : PileAt C B p g P R H) (s : Same H H') : PileAt C B p g P R H' :=
  ⟨A.same.trans s, A.rp, A.rh, A.rd, A.rb, A.rs, s _ _ A.hp, s _ _ A.hh, s _ _ A.hd, fun n b e => s _ _ (A.hb n b e), fun n b e => s _ _ (A.hs n b e), A.ib, A.is, A.hn⟩
theorem same_upd {a : Addr} {o : HO} (h : R a = none) : Same R (upd R a o) := fun b u e => by
  rw [upd_ne (ne_of_none e h)]
  exact e
theorem upd_upd {a : Addr} {o u : HO} : upd (upd H a o) a u = upd H a u := by
  funext b
  by_cases h : b = a
  · rw [h, upd_same, upd_same]
  · rw [upd_ne h, upd_ne h, upd_ne h]
/-- a new object, known -/
theorem PileAt.new (A : PileAt C B p g P R H) {a : Addr} {o : HO} (h : H a = none) : PileAt C B p g P (upd R a o) (upd H a o) := by
  have n1 : ∀ {b u}, H b = some u → b ≠ a := fun e => ne_of_none e h
  refine ⟨fun b u e => ?_, ?_, ?_, ?_, fun n b e => ?_, fun n b e => ?_, ?_, ?_, ?_, fun n b e => ?_, fun n b e => ?_, A.ib, A.is, A.hn⟩
  · by_cases q : b = a
    · rw [q, upd_same] at e ⊢
      exact e
    · rw [upd_ne q] at e ⊢
      exact A.same b u e
  · rw [upd_ne (n1 A.hp)]; exact A.rp
  · rw [upd_ne (n1 A.hh)]; exact A.rh
  · rw [upd_ne (n1 A.hd)]; exact A.rd
  · rw [upd_ne (n1 (A.hb n b e))]; exact A.rb n b e
  · rw [upd_ne (n1 (A.hs n b e))]; exact A.rs n b e
  · rw [upd_ne (n1 A.hp)]; exact A.hp
  · rw [upd_ne (n1 A.hh)]; exact A.hh
  · rw [upd_ne (n1 A.hd)]; exact A.hd
  · rw [upd_ne (n1 (A.hb n b e))]; exact A.hb n b e
  · rw [upd_ne (n1 (A.hs n b e))]; exact A.hs n b e
/-- a known object is changed -/
theorem PileAt.set (A : PileAt C B p g P R H) {a : Addr} {o u : HO} (h : R a = some u) : PileAt C B p g P (upd R a o) (upd H a o) := by
  have n1 : ∀ {b}, R b = none → b ≠ a := fun e q => by rw [q, h] at e; cases e
  refine ⟨fun b u e => ?_, ?_, ?_, ?_, fun n b e => ?_, fun n b e => ?_, ?_, ?_, ?_, fun n b e => ?_, fun n b e => ?_, A.ib, A.is, A.hn⟩
  · by_cases q : b = a
    · rw [q, upd_same] at e ⊢
      exact e
    · rw [upd_ne q] at e ⊢
      exact A.same b u e
  · rw [upd_ne (n1 A.rp)]; exact A.rp
  · rw [upd_ne (n1 A.rh)]; exact A.rh
  · rw [upd_ne (n1 A.rd)]; exact A.rd
  · rw [upd_ne (n1 (A.rb n b e))]; exact A.rb n b e
  · rw [upd_ne (n1 (A.rs n b e))]; exact A.rs n b e
  · rw [upd_ne (n1 A.rp)]; exact A.hp
  · rw [upd_ne (n1 A.rh)]; exact A.hh
  · rw [upd_ne (n1 A.rd)]; exact A.hd
  · rw [upd_ne (n1 (A.rb n b e))]; exact A.hb n b e
  · rw [upd_ne (n1 (A.rs n b e))]; exact A.hs n b e
/-- a hand is set -/
theorem PileAt.hand (A : PileAt C B p g P R H) (hs : List (Option Int)) : PileAt C B p g { P with hands := hs } R (upd H g.lh (.lst (lV hs))) :=
  ⟨fun b u e => by rw [upd_ne (ne_of_none e A.rh)]; exact A.same b u e, A.rp, A.rh, A.rd, A.rb, A.rs, by rw [upd_ne A.p_lh]; exact A.hp, upd_same, by rw [upd_ne A.lh_db.symm]; exact A.hd,
    fun n b e => by rw [upd_ne (A.ba_lh e)]; exact A.hb n b e, fun n b e => by rw [upd_ne (A.hn n b e)]; exact A.hs n b e, A.ib, A.is, A.hn⟩
/-- what is known of the box n is changed, its slots are not -/
theorem PileAt.box (A : PileAt C B p g P R H) {n : Int} {b : Bx} (hb : get P.boxes n = some b) (f : Bx → Bx) (hf : (f b).slots = b.slots) :
    PileAt C B p g { P with boxes := chg P.boxes n f } R (upd H (g.ba n) (.ins B (g.bd n) (bf (g.sa n) (f b).wt (f b).sus))) := by
  have old : ∀ {m c}, get (chg P.boxes n f) m = some c → ∃ d, get P.boxes m = some d ∧ c = (if m = n then f d else d) := fun {m c} e => by
    rw [get_chg] at e
    cases q : get P.boxes m with
    | none => rw [q] at e; cases e
    | some d =>
      rw [q] at e
      exact ⟨d, rfl, (Option.some.inj e).symm⟩
  refine ⟨fun c u e => ?_, A.rp, A.rh, A.rd, fun m c e => ?_, fun m c e => ?_, ?_, ?_, ?_, fun m c e => ?_, fun m c e => ?_, fun m k c d e1 e2 => ?_, fun m k c d e1 e2 => ?_, fun m c e => ?_⟩
  · rw [upd_ne (ne_of_none e (A.rb n b hb))]; exact A.same c u e
  · obtain ⟨d, hd, _⟩ := old e; exact A.rb m d hd
  · obtain ⟨d, hd, _⟩ := old e; exact A.rs m d hd
  · rw [upd_ne (A.p_ba hb)]; exact A.hp
  · rw [upd_ne (A.ba_lh hb).symm]; exact A.hh
  · rw [upd_ne (A.ba_db hb).symm]
    show H g.db = some (.dK (dV g.ba (chg P.boxes n f)))
    rw [dV_chg]; exact A.hd
  · obtain ⟨d, hd, rfl⟩ := old e
    by_cases q : m = n
    · subst q
      have : d = b := Option.some.inj (hd.symm.trans hb)
      subst this
      rw [upd_same, if_pos rfl]
    · rw [if_neg q, upd_ne (fun z => q (A.ib m n d b hd hb z))]
      exact A.hb m d hd
  · obtain ⟨d, hd, rfl⟩ := old e
    rw [upd_ne (A.ba_sa hb hd).symm, A.hs m d hd]
    by_cases q : m = n
    · subst q
      have : d = b := Option.some.inj (hd.symm.trans hb)
      subst this
      rw [if_pos rfl, hf]
    · rw [if_neg q]
  · obtain ⟨d1, h1, _⟩ := old e1
    obtain ⟨d2, h2, _⟩ := old e2
    exact A.ib m k d1 d2 h1 h2
  · obtain ⟨d1, h1, _⟩ := old e1
    obtain ⟨d2, h2, _⟩ := old e2
    exact A.is m k d1 d2 h1 h2
  · obtain ⟨d, hd, _⟩ := old e; exact A.hn m d hd
/-- a slot of the box n is set -/
theorem PileAt.slot (A : PileAt C B p g P R H) {n : Int} {b : Bx} (hb : get P.boxes n = some b) (i : Nat) (x : Option Int) :
    PileAt C B p g { P with boxes := chg P.boxes n (setSlot i x) } R (upd H (g.sa n) (.lst (lV (b.slots.set i x)))) := by
  have old : ∀ {m c}, get (chg P.boxes n (setSlot i x)) m = some c → ∃ d, get P.boxes m = some d ∧ c = (if m = n then setSlot i x d else d) := fun {m c} e => by
    rw [get_chg] at e
    cases q : get P.boxes m with
    | none => rw [q] at e; cases e
    | some d =>
      rw [q] at e
      exact ⟨d, rfl, (Option.some.inj e).symm⟩
  refine ⟨fun c u e => ?_, A.rp, A.rh, A.rd, fun m c e => ?_, fun m c e => ?_, ?_, ?_, ?_, fun m c e => ?_, fun m c e => ?_, fun m k c d e1 e2 => ?_, fun m k c d e1 e2 => ?_, fun m c e => ?_⟩
  · rw [upd_ne (ne_of_none e (A.rs n b hb))]; exact A.same c u e
  · obtain ⟨d, hd, _⟩ := old e; exact A.rb m d hd
  · obtain ⟨d, hd, _⟩ := old e; exact A.rs m d hd
  · rw [upd_ne (A.p_sa hb)]; exact A.hp
  · rw [upd_ne (A.hn n b hb).symm]; exact A.hh
  · rw [upd_ne (A.sa_db hb).symm]
    show H g.db = some (.dK (dV g.ba (chg P.boxes n (setSlot i x))))
    rw [dV_chg]; exact A.hd
  · obtain ⟨d, hd, rfl⟩ := old e
    rw [upd_ne (A.ba_sa hd hb), A.hb m d hd]
    by_cases q : m = n
    · rw [if_pos q]; rfl
    · rw [if_neg q]
  · obtain ⟨d, hd, rfl⟩ := old e
    by_cases q : m = n
    · subst q
      have : d = b := Option.some.inj (hd.symm.trans hb)
      subst this
      rw [upd_same, if_pos rfl]
      rfl
    · rw [if_neg q, upd_ne (fun z => q (A.is m n d b hd hb z))]
      exact A.hs m d hd
  · obtain ⟨d1, h1, _⟩ := old e1
    obtain ⟨d2, h2, _⟩ := old e2
    exact A.ib m k d1 d2 h1 h2
  · obtain ⟨d1, h1, _⟩ := old e1
    obtain ⟨d2, h2, _⟩ := old e2
    exact A.is m k d1 d2 h1 h2
  · obtain ⟨d, hd, _⟩ := old e; exact A.hn m d hd
/-- a box goes -/
theorem PileAt.del (A : PileAt C B p g P R H) (n : Int) : PileAt C B p g { P with boxes := rm P.boxes n } R (upd H g.db (.dK (dropK (dV g.ba P.boxes) (Sum.inl n)))) := by
  have old : ∀ {m c}, get (rm P.boxes n) m = some c → get P.boxes m = some c := fun {m c} e => by
    rw [get_rm] at e
    by_cases q : m = n
    · rw [if_pos q] at e; cases e
    · rw [if_neg q] at e; exact e
  refine ⟨fun c u e => ?_, A.rp, A.rh, A.rd, fun m c e => A.rb m c (old e), fun m c e => A.rs m c (old e), ?_, ?_, ?_, fun m c e => ?_, fun m c e => ?_, fun m k c d e1 e2 => A.ib m k c d (old e1) (old e2), fun m k c d e1 e2 => A.is m k c d (old e1) (old e2), fun m c e => A.hn m c (old e)⟩
  · rw [upd_ne (ne_of_none e A.rd)]; exact A.same c u e
  · rw [upd_ne A.p_db]; exact A.hp
  · rw [upd_ne A.lh_db]; exact A.hh
  · rw [upd_same, dV_rm]
  · rw [upd_ne (A.ba_db (old e))]; exact A.hb m c (old e)
  · rw [upd_ne (A.sa_db (old e))]; exact A.hs m c (old e)
/-- one more is made -/
theorem PileAt.count (A : PileAt C B p g P R H) (m : Int) : PileAt C B p g { P with made := m } R (upd H p (.ins C g.dx (pf g.lh g.db m))) := by
  refine ⟨fun c u e => ?_, A.rp, A.rh, A.rd, A.rb, A.rs, upd_same, ?_, ?_, fun m c e => ?_, fun m c e => ?_, A.ib, A.is, A.hn⟩
  · rw [upd_ne (ne_of_none e A.rp)]; exact A.same c u e
  · rw [upd_ne A.p_lh.symm]; exact A.hh
  · rw [upd_ne A.p_db.symm]; exact A.hd
  · rw [upd_ne (A.p_ba e).symm]; exact A.hb m c e
  · rw [upd_ne (A.p_sa e).symm]; exact A.hs m c e
/-- a new box, known till now as an object of its own, is laid into the dict -/
theorem PileAt.add (A : PileAt C B p g P R H) {n : Int} {b : Bx} {x dx sl : Addr} (hn : get P.boxes n = none) (hx : R x = some (.ins B dx (bf sl b.wt b.sus))) (hsl : R sl = some (.lst (lV b.slots))) (hR : Same R' R) (rx : R' x = none) (rsl : R' sl = none) :
    PileAt C B p { g with bd := fun m => if m = n then dx else g.bd m, ba := fun m => if m = n then x else g.ba m, sa := fun m => if m = n then sl else g.sa m } { P with boxes := P.boxes ++ [(n, b)] } R' (upd H g.db (.dK (putK (dV g.ba P.boxes) (Sum.inl n) (.ref x)))) := by
  have hx' := A.same _ _ hx
  have hsl' := A.same _ _ hsl
  have gm : ∀ m, get (P.boxes ++ [(n, b)]) m = if m = n then some b else get P.boxes m := fun m => by
    rw [get_snoc]
    by_cases q : m = n
    · rw [q, hn, if_pos rfl]
    · have : ¬ n = m := fun z => q z.symm
      rw [if_neg q]
      cases get P.boxes m <;> simp [this]
  have old : ∀ {m c}, get (P.boxes ++ [(n, b)]) m = some c → (m = n ∧ c = b) ∨ (m ≠ n ∧ get P.boxes m = some c) := fun {m c} e => by
    rw [gm] at e
    by_cases q : m = n
    · rw [if_pos q] at e; exact .inl ⟨q, (Option.some.inj e).symm⟩
    · rw [if_neg q] at e; exact .inr ⟨q, e⟩
  have nba : ∀ {m c}, get P.boxes m = some c → g.ba m ≠ x := fun e q => by have := A.rb _ _ e; rw [q, hx] at this; cases this
  have nsa : ∀ {m c}, get P.boxes m = some c → g.sa m ≠ sl := fun e q => by have := A.rs _ _ e; rw [q, hsl] at this; cases this
  refine ⟨fun c u e => ?_, hR.free A.rp, hR.free A.rh, hR.free A.rd, fun m c e => ?_, fun m c e => ?_, ?_, ?_, ?_, fun m c e => ?_, fun m c e => ?_, fun m k c d e1 e2 => ?_, fun m k c d e1 e2 => ?_, fun m c e => ?_⟩
  · show upd H g.db _ c = _
    rw [upd_ne (ne_of_none e (hR.free A.rd))]; exact A.same c u (hR c u e)
  · show R' (if m = n then x else g.ba m) = none
    rcases old e with ⟨rfl, _⟩ | ⟨q, e'⟩
    · rw [if_pos rfl]; exact rx
    · rw [if_neg q]; exact hR.free (A.rb m c e')
  · show R' (if m = n then sl else g.sa m) = none
    rcases old e with ⟨rfl, _⟩ | ⟨q, e'⟩
    · rw [if_pos rfl]; exact rsl
    · rw [if_neg q]; exact hR.free (A.rs m c e')
  · show upd H g.db _ p = _
    rw [upd_ne A.p_db]; exact A.hp
  · show upd H g.db _ g.lh = _
    rw [upd_ne A.lh_db]; exact A.hh
  · show upd H g.db _ g.db = _
    rw [upd_same, putK_new _ (by rw [valV_dV, hn]; rfl)]
    show some (HO.dK (dV g.ba P.boxes ++ [((Sum.inl n : Key), V.ref x)])) = some (HO.dK (dV (fun m => if m = n then x else g.ba m) (P.boxes ++ [(n, b)])))
    rw [dV_snoc, dV_agree (ba := fun m => if m = n then x else g.ba m) (bb := g.ba) (fun m hm => by
      have : m ≠ n := fun z => by rw [z] at hm; exact get_none.mp hn hm
      show (if m = n then x else g.ba m) = _
      rw [if_neg this])]
    show _ = some (HO.dK (dV g.ba P.boxes ++ [((Sum.inl n : Key), V.ref (if n = n then x else g.ba n))]))
    rw [if_pos rfl]
  · show upd H g.db _ (if m = n then x else g.ba m) = some (.ins B (if m = n then dx else g.bd m) (bf (if m = n then sl else g.sa m) c.wt c.sus))
    rcases old e with ⟨rfl, rfl⟩ | ⟨q, e'⟩
    · rw [if_pos rfl, if_pos rfl, if_pos rfl, upd_ne (ne_of hx' A.hd ins_ne_dK)]; exact hx'
    · rw [if_neg q, if_neg q, if_neg q, upd_ne (A.ba_db e')]; exact A.hb m c e'
  · show upd H g.db _ (if m = n then sl else g.sa m) = some (.lst (lV c.slots))
    rcases old e with ⟨rfl, rfl⟩ | ⟨q, e'⟩
    · rw [if_pos rfl, upd_ne (ne_of hsl' A.hd lst_ne_dK)]; exact hsl'
    · rw [if_neg q, upd_ne (A.sa_db e')]; exact A.hs m c e'
  · show (if m = n then x else g.ba m) = (if k = n then x else g.ba k) → m = k
    rcases old e1 with ⟨rfl, _⟩ | ⟨q1, h1⟩
    · rcases old e2 with ⟨rfl, _⟩ | ⟨q2, h2⟩
      · intro _; rfl
      · rw [if_pos rfl, if_neg q2]
        intro z
        exact absurd z.symm (nba h2)
    · rcases old e2 with ⟨rfl, _⟩ | ⟨q2, h2⟩
      · rw [if_pos rfl, if_neg q1]
        intro z
        exact absurd z (nba h1)
      · rw [if_neg q1, if_neg q2]
        exact A.ib m k c d h1 h2
  · show (if m = n then sl else g.sa m) = (if k = n then sl else g.sa k) → m = k
    rcases old e1 with ⟨rfl, _⟩ | ⟨q1, h1⟩
    · rcases old e2 with ⟨rfl, _⟩ | ⟨q2, h2⟩
      · intro _; rfl
      · rw [if_pos rfl, if_neg q2]
        intro z
        exact absurd z.symm (nsa h2)
    · rcases old e2 with ⟨rfl, _⟩ | ⟨q2, h2⟩
      · rw [if_pos rfl, if_neg q1]
        intro z
        exact absurd z (nsa h1)
      · rw [if_neg q1, if_neg q2]
        exact A.is m k c d h1 h2
  · show (if m = n then sl else g.sa m) ≠ g.lh
    rcases old e with ⟨rfl, _⟩ | ⟨q, e'⟩
    · rw [if_pos rfl]
      intro z
      have := A.rh
      rw [← z, hsl] at this
      cases this
    · rw [if_neg q]; exact A.hn m c e'
end
/-- the pile P lies at p, its weights right; R: what else is known -/
def PileIn (C B p : Addr) (P : Pl) (R H : Hp) : Prop := (∃ g, PileAt C B p g P R H) ∧ Wf P []
end BP

/-! Deeds, and what a deed makes of a pile. Own work. -/
namespace BP
open PySem L2
inductive Deed where
  | make (h z : Int) | hold (h o : Int) | drop (h : Int) | put (h s o : Int) | empty (h s : Int) | take (h o s : Int) | tidy
def Deed.vs : Deed → List V
  | .make h z => [.str "make", .int h, .int z]
  | .hold h o => [.str "hold", .int h, .int o]
  | .drop h => [.str "drop", .int h]
  | .put h s o => [.str "put", .int h, .int s, .int o]
  | .empty h s => [.str "empty", .int h, .int s]
  | .take h o s => [.str "take", .int h, .int o, .int s]
  | .tidy => [.str "tidy"]
def Deed.InZ (few y : Int) : Deed → Prop
  | .make h z => (0 ≤ h ∧ h < few) ∧ (0 ≤ z ∧ z < y)
  | .hold h o => (0 ≤ h ∧ h < few) ∧ (0 ≤ o ∧ o < few)
  | .drop h => 0 ≤ h ∧ h < few
  | .put h s o => (0 ≤ h ∧ h < few) ∧ (0 ≤ s ∧ s < y) ∧ (0 ≤ o ∧ o < few)
  | .empty h s => (0 ≤ h ∧ h < few) ∧ (0 ≤ s ∧ s < y)
  | .take h o s => (0 ≤ h ∧ h < few) ∧ (0 ≤ o ∧ o < few) ∧ (0 ≤ s ∧ s < y)
  | .tidy => True
abbrev Deed.In (few : Int) (d : Deed) : Prop := d.InZ few 8
/-- all that no hand leads to, rising -/
noncomputable def deadF (P : Pl) : List Int := (keys P.boxes).filter fun n => @decide (¬ HL P n) (Classical.propDecidable _)
theorem mem_deadF {P : Pl} {n : Int} : n ∈ deadF P ↔ (∃ b, get P.boxes n = some b) ∧ ¬ HL P n := by
  unfold deadF
  rw [List.mem_filter, get_keys]
  constructor
  · rintro ⟨h1, h2⟩
    exact ⟨h1, @of_decide_eq_true _ (Classical.propDecidable _) h2⟩
  · rintro ⟨h1, h2⟩
    exact ⟨h1, @decide_eq_true _ (Classical.propDecidable _) h2⟩
theorem dead_deadF (P : Pl) : Dead P (deadF P) := fun n => mem_deadF
theorem deadF_sorted {P : Pl} {w : List (Option Int)} (W : Wf P w) : (deadF P).Pairwise (· < ·) := W.ks.filter _
theorem sorted_ext : ∀ {a b : List Int}, a.Pairwise (· < ·) → b.Pairwise (· < ·) → (∀ n, n ∈ a ↔ n ∈ b) → a = b
  | [], [], _, _, _ => rfl
  | [], y :: b, _, _, h => by have := (h y).mpr List.mem_cons_self; cases this
  | x :: a, [], _, _, h => by have := (h x).mp List.mem_cons_self; cases this
  | x :: a, y :: b, ha, hb, h => by
    rw [List.pairwise_cons] at ha hb
    have e : x = y := by
      rcases List.mem_cons.mp ((h x).mp List.mem_cons_self) with q | q
      · exact q
      · rcases List.mem_cons.mp ((h y).mpr List.mem_cons_self) with q2 | q2
        · exact q2.symm
        · have h1 := hb.1 x q
          have h2 := ha.1 y q2
          omega
    subst e
    congr 1
    refine sorted_ext ha.2 hb.2 fun n => ?_
    constructor
    · intro hn
      rcases List.mem_cons.mp ((h n).mp (List.mem_cons_of_mem _ hn)) with q | q
      · have := ha.1 n hn; omega
      · exact q
    · intro hn
      rcases List.mem_cons.mp ((h n).mpr (List.mem_cons_of_mem _ hn)) with q | q
      · have := hb.1 n hn; omega
      · exact q
theorem dead_eq {P : Pl} {w : List (Option Int)} {F : List Int} (W : Wf P w) (hs : F.Pairwise (· < ·)) (hF : Dead P F) : F = deadF P :=
  sorted_ext hs (deadF_sorted W) fun n => by rw [hF n, mem_deadF]
inductive Bad where | hand | size | full | box | slot
  deriving DecidableEq
inductive Res where
  | fine (P : Pl) (f : List Int)
  | bad (e : Bad)
def OkH (h : Int) : Prop := 0 ≤ h ∧ h < 8
instance (h : Int) : Decidable (OkH h) := by unfold OkH; infer_instance
/-- the slot s of what the hand h holds -/
def atSlot (P : Pl) (h s : Int) (k : Int → Bx → Res) : Res := match P.hands.getD h.toNat none with
  | none => .bad .box
  | some n => match get P.boxes n with
    | none => .bad .box
    | some b => if 0 ≤ s ∧ s < (b.slots.length : Int) then k n b else .bad .slot
noncomputable def act (P : Pl) : Deed → Res
  | .make h z => if ¬ OkH h then .bad .hand else if ¬ (0 ≤ z ∧ z ≤ 6) then .bad .size else if 60 ≤ P.boxes.length then .bad .full else .fine (mk P h.toNat z.toNat).1 (mk P h.toNat z.toNat).2
  | .hold h o => if ¬ OkH h then .bad .hand else if ¬ OkH o then .bad .hand else .fine (ptHand P h.toNat (P.hands.getD o.toNat none)).1 (ptHand P h.toNat (P.hands.getD o.toNat none)).2
  | .drop h => if ¬ OkH h then .bad .hand else .fine (ptHand P h.toNat none).1 (ptHand P h.toNat none).2
  | .put h s o => if ¬ OkH h then .bad .hand else if ¬ OkH o then .bad .hand else atSlot P h s fun n _ => .fine (ptSlot P n s.toNat (P.hands.getD o.toNat none)).1 (ptSlot P n s.toNat (P.hands.getD o.toNat none)).2
  | .empty h s => if ¬ OkH h then .bad .hand else atSlot P h s fun n _ => .fine (ptSlot P n s.toNat none).1 (ptSlot P n s.toNat none).2
  | .take h o s => if ¬ OkH h then .bad .hand else if ¬ OkH o then .bad .hand else atSlot P o s fun _ b => .fine (ptHand P h.toNat (b.slots.getD s.toNat none)).1 (ptHand P h.toNat (b.slots.getD s.toNat none)).2
  | .tidy => .fine (tidied P (deadF P)) (deadF P)
theorem atSlot_fine {P : Pl} {h s : Int} {k : Int → Bx → Res} {P' : Pl} {f : List Int} (e : atSlot P h s k = .fine P' f) : ∃ n b, P.hands.getD h.toNat none = some n ∧ get P.boxes n = some b ∧ (0 ≤ s ∧ s < (b.slots.length : Int)) ∧ k n b = .fine P' f := by
  unfold atSlot at e
  cases q : P.hands.getD h.toNat none with
  | none => rw [q] at e; cases e
  | some n =>
    rw [q] at e
    simp only at e
    cases q2 : get P.boxes n with
    | none => rw [q2] at e; cases e
    | some b =>
      rw [q2] at e
      simp only at e
      by_cases c : 0 ≤ s ∧ s < (b.slots.length : Int)
      · rw [if_pos c] at e
        exact ⟨n, b, rfl, q2, c, e⟩
      · rw [if_neg c] at e; cases e
theorem Good.act {P : Pl} (G : Good P) {d : Deed} {P' : Pl} {f : List Int} (e : act P d = .fine P' f) : Good P' := by
  cases d with
  | make h z =>
    unfold BP.act at e; dsimp only at e
    by_cases c1 : OkH h
    case neg => rw [if_pos c1] at e; cases e
    rw [if_neg (fun z => z c1)] at e
    by_cases c2 : 0 ≤ z ∧ z ≤ 6
    case neg => rw [if_pos c2] at e; cases e
    rw [if_neg (fun z => z c2)] at e
    by_cases c3 : 60 ≤ P.boxes.length
    · rw [if_pos c3] at e; cases e
    rw [if_neg c3] at e
    unfold OkH at c1
    injection e with e1 _
    rw [← e1]
    exact G.make (by omega) (by omega) (by omega)
  | hold h o =>
    unfold BP.act at e; dsimp only at e
    by_cases c1 : OkH h
    case neg => rw [if_pos c1] at e; cases e
    rw [if_neg (fun z => z c1)] at e
    by_cases c2 : OkH o
    case neg => rw [if_pos c2] at e; cases e
    rw [if_neg (fun z => z c2)] at e
    unfold OkH at c1
    injection e with e1 _
    rw [← e1]
    exact G.hold (by omega)
  | drop h =>
    unfold BP.act at e; dsimp only at e
    by_cases c1 : OkH h
    case neg => rw [if_pos c1] at e; cases e
    rw [if_neg (fun z => z c1)] at e
    unfold OkH at c1
    injection e with e1 _
    rw [← e1]
    exact G.drop (by omega)
  | put h s o =>
    unfold BP.act at e; dsimp only at e
    by_cases c1 : OkH h
    case neg => rw [if_pos c1] at e; cases e
    rw [if_neg (fun z => z c1)] at e
    by_cases c2 : OkH o
    case neg => rw [if_pos c2] at e; cases e
    rw [if_neg (fun z => z c2)] at e
    obtain ⟨n, b, h1, h2, h3, e⟩ := atSlot_fine e
    injection e with e1 _
    rw [← e1]
    exact G.slot h2 (by omega) fun n e => G.wf.hand e
  | empty h s =>
    unfold BP.act at e; dsimp only at e
    by_cases c1 : OkH h
    case neg => rw [if_pos c1] at e; cases e
    rw [if_neg (fun z => z c1)] at e
    obtain ⟨n, b, h1, h2, h3, e⟩ := atSlot_fine e
    injection e with e1 _
    rw [← e1]
    exact G.slot h2 (by omega) fun n e => by cases e
  | take h o s =>
    unfold BP.act at e; dsimp only at e
    by_cases c1 : OkH h
    case neg => rw [if_pos c1] at e; cases e
    rw [if_neg (fun z => z c1)] at e
    by_cases c2 : OkH o
    case neg => rw [if_pos c2] at e; cases e
    rw [if_neg (fun z => z c2)] at e
    obtain ⟨n, b, h1, h2, h3, e⟩ := atSlot_fine e
    unfold OkH at c1
    injection e with e1 _
    rw [← e1]
    exact G.hand (by omega) fun n e => G.wf.slot h2 e
  | tidy =>
    unfold BP.act at e; dsimp only at e
    injection e with e1 _
    rw [← e1]
    exact G.tidied (dead_deadF P)
/-- behind a tidy there is no suspect -/
theorem susp_tidied {P : Pl} (G : Good P) : susp (tidied P (deadF P)) = [] := by
  unfold susp
  rw [List.filter_eq_nil_iff]
  intro n hn
  obtain ⟨b, hb⟩ := get_keys.mpr hn
  rw [hb]
  have := (tidied_hl G.wf (dead_deadF P) hb).2
  simp [this]
theorem Deed.InZ.more {d : Deed} {few m y : Int} (h : d.InZ few y) (hm : few ≤ m) : d.InZ m y := by
  cases d <;> simp only [Deed.InZ] at h ⊢ <;> omega
theorem Deed.head {d : Deed} : ∃ w ws, d.vs = V.str w :: ws ∧ (decide (V.str w = V.str "tidy") = true ↔ d = .tidy) := by
  have sne : ∀ {z z' : Str}, z ≠ z' → decide (V.str z = V.str z') = false := fun e => decide_eq_false (by intro q; injection q with q; exact e q)
  cases d
  all_goals first
    | exact ⟨_, _, rfl, fun q => (by rw [sne (by decide +kernel)] at q; cases q), fun q => (by cases q)⟩
    | exact ⟨_, _, rfl, fun _ => rfl, fun _ => decide_eq_true rfl⟩
/-- what is new in the heap is known -/
def newK (R H H' : Hp) : Hp := fun b => match H b with | none => H' b | some _ => R b
theorem newK_new {R H H' : Hp} {b : Addr} (h : H b = none) : newK R H H' b = H' b := by unfold newK; rw [h]
theorem newK_old {R H H' : Hp} {b : Addr} {o : HO} (h : H b = some o) : newK R H H' b = R b := by unfold newK; rw [h]
theorem same_newK {R H H' : Hp} (s : Same R H) : Same R (newK R H H') := fun b o e => by rw [newK_old (s b o e)]; exact e
theorem PileAt.fresh {C B p : Addr} {g : Geo} {P : Pl} {R H H' : Hp} (A : PileAt C B p g P R H) (s : Same H H') : PileAt C B p g P (newK R H H') H' := by
  refine ⟨fun b o e => ?_, by rw [newK_old A.hp]; exact A.rp, by rw [newK_old A.hh]; exact A.rh, by rw [newK_old A.hd]; exact A.rd, fun n b e => by rw [newK_old (A.hb n b e)]; exact A.rb n b e, fun n b e => by rw [newK_old (A.hs n b e)]; exact A.rs n b e,
    s _ _ A.hp, s _ _ A.hh, s _ _ A.hd, fun n b e => s _ _ (A.hb n b e), fun n b e => s _ _ (A.hs n b e), A.ib, A.is, A.hn⟩
  cases q : H b with
  | none => rw [newK_new q] at e; exact e
  | some u =>
    rw [newK_old q] at e
    exact s _ _ (A.same _ _ e)
/-- a list that came beside is known -/
theorem PileAt.know {C B p : Addr} {g : Geo} {P : Pl} {R H H' : Hp} (A : PileAt C B p g P R H) {r : Addr} {o : HO} (hr : H r = none) (s : Same H H') (e : H' r = some o) : PileAt C B p g P (upd R r o) H' :=
  (A.new (o := o) hr).grow fun b u h => by
    by_cases q : b = r
    · subst q
      rw [upd_same] at h
      rw [← h]
      exact e
    · rw [upd_ne q] at h
      exact s _ _ h
end BP

/-! What a tidy leaves. Own work; core Lean alone but for the pile's import. -/
namespace BP
theorem due_eq {P : Pl} {row : List Int} (h : ∀ n, n ∈ row ↔ HL P n) : (keys P.boxes).filter (fun n => decide (n ∉ row)) = deadF P := by
  unfold deadF
  refine List.filter_congr fun n _ => ?_
  have := h n
  by_cases c : n ∈ row
  · rw [decide_eq_false (fun z => z c), @decide_eq_false _ (Classical.propDecidable _) (fun z => z (this.mp c))]
  · rw [decide_eq_true c, @decide_eq_true _ (Classical.propDecidable _) (fun z => c (this.mpr z))]
theorem near_eq {P : Pl} {w : List (Option Int)} (W : Wf P w) {ys : List Int} (hs : ys.Pairwise (· < ·)) (h : ∀ n, n ∈ ys ↔ HL P n) : keys (tidied P (deadF P)).boxes = ys := by
  refine sorted_ext (by rw [keys_tidied]; exact W.ks.filter _) hs fun n => ?_
  rw [keys_tidied, List.mem_filter, h n]
  constructor
  · rintro ⟨h1, h2⟩
    have h3 : n ∉ deadF P := of_decide_eq_true h2
    exact Classical.byContradiction fun z => h3 (mem_deadF.mpr ⟨get_keys.mpr h1, z⟩)
  · intro hl
    exact ⟨get_keys.mp (hl.alive W), decide_eq_true fun z => (mem_deadF.mp z).2 hl⟩
theorem deadF_tidied {P : Pl} (G : Good P) : deadF (tidied P (deadF P)) = [] := by
  rw [List.eq_nil_iff_forall_not_mem]
  intro n hn
  obtain ⟨⟨b, hb⟩, h2⟩ := mem_deadF.mp hn
  exact h2 (tidied_hl G.wf (dead_deadF P) hb).1
/-- the slots of a box by its number -/
def slo (bs : List (Int × Bx)) (n : Int) : List (Option Int) := match get bs n with
  | none => []
  | some b => b.slots
theorem slo_of {bs : List (Int × Bx)} {n : Int} {b : Bx} (h : get bs n = some b) : slo bs n = b.slots := by unfold slo; rw [h]
theorem cnt_flat (n : Int) : ∀ ls : List (List (Option Int)), cnt ls.flatten n = (ls.map fun l => cnt l n).sum
  | [] => rfl
  | l :: ls => by rw [List.flatten_cons, cnt_append, List.map_cons, List.sum_cons, cnt_flat n ls]
theorem scnt_slo (n : Int) : ∀ {bs : List (Int × Bx)}, (keys bs).Nodup → scnt bs n = ((keys bs).map fun k => cnt (slo bs k) n).sum := fun {bs} hn => by
  unfold scnt keys
  rw [List.map_map]
  congr 1
  refine List.map_congr_left fun e he => ?_
  show _ = cnt (slo bs e.1) n
  rw [slo_of (mem_get hn (show (e.1, e.2) ∈ bs from he))]
theorem get_tidied_of {P : Pl} {F : List Int} {n : Int} {b : Bx} (h : get (tidied P F).boxes n = some b) : ∃ c, get P.boxes n = some c ∧ c.slots = b.slots ∧ n ∉ F := by
  rw [get_tidied] at h
  by_cases c : n ∈ F
  · rw [if_pos c] at h; cases h
  · rw [if_neg c] at h
    cases q : get P.boxes n with
    | none => rw [q] at h; cases h
    | some d =>
      rw [q] at h
      refine ⟨d, rfl, ?_, c⟩
      rw [← Option.some.inj h]
/-- pointers told weigh what is told -/
theorem weighs_eq {P : Pl} (G : Good P) {n : Int} {b : Bx} (hb : get (tidied P (deadF P)).boxes n = some b) : b.wt = ((cnt (P.hands ++ ((keys (tidied P (deadF P)).boxes).map (slo P.boxes)).flatten) n : Nat) : Int) := by
  have G2 := G.tidied (dead_deadF P)
  have h1 := (G2.wf.wt n b hb).1
  rw [h1, cnt_nil, cnt_append, cnt_flat, List.map_map, scnt_slo n G2.wf.nd]
  have : ((keys (tidied P (deadF P)).boxes).map fun k => cnt (slo (tidied P (deadF P)).boxes k) n) = (keys (tidied P (deadF P)).boxes).map ((fun l => cnt l n) ∘ slo P.boxes) := by
    refine List.map_congr_left fun k hk => ?_
    obtain ⟨c, hc⟩ := get_keys.mpr hk
    obtain ⟨d, hd, es, _⟩ := get_tidied_of hc
    show cnt (slo (tidied P (deadF P)).boxes k) n = cnt (slo P.boxes k) n
    rw [slo_of hc, slo_of hd, es]
  rw [this]
  show ((cnt P.hands n + _ + 0 : Nat) : Int) = _
  rw [Nat.add_zero]
theorem flat_len {P : Pl} {w : List (Option Int)} (W : Wf P w) : ∀ ys : List Int, ((ys.map (slo P.boxes)).flatten).length ≤ 6 * ys.length
  | [] => Nat.le_refl _
  | y :: ys => by
    have ih := flat_len W ys
    rw [List.map_cons, List.flatten_cons, List.length_append, List.length_cons]
    have : (slo P.boxes y).length ≤ 6 := by
      unfold slo
      cases q : get P.boxes y with
      | none => exact Nat.zero_le _
      | some b => exact W.sl y b q
    omega
theorem perm_sorted_eq {a b l : List Int} (ha : a.Perm l) (hb : b.Perm l) (sa : a.Pairwise (· ≤ ·)) (sb : b.Pairwise (· ≤ ·)) : a = b :=
  (ha.trans hb.symm).eq_of_pairwise (fun x y _ _ h1 h2 => Int.le_antisymm h1 h2) sa sb
end BP

/-! Ways, told breadth first. Own work. -/
namespace BP
/-- what the slots of a box offer, behind a way -/
def cands (sl : List (Option Int)) (way : List Int) : List (Option Int × List Int) := (List.range sl.length).map fun i => (sl.getD i none, way ++ [(i : Int)])
/-- from a queue and what is found to all that is found -/
inductive BR (bs : List (Int × Bx)) : List (Option Int × List Int) → List (Int × List Int) → List (Int × List Int) → Prop
  | nil (f : List (Int × List Int)) : BR bs [] f f
  | non {w : List Int} {cs : List (Option Int × List Int)} {f r : List (Int × List Int)} : BR bs cs f r → BR bs ((none, w) :: cs) f r
  | old {n : Int} {w : List Int} {cs : List (Option Int × List Int)} {f r : List (Int × List Int)} : n ∈ f.map (·.1) → BR bs cs f r → BR bs ((some n, w) :: cs) f r
  | new {n : Int} {w : List Int} {cs : List (Option Int × List Int)} {f r : List (Int × List Int)} : n ∉ f.map (·.1) → BR bs (cs ++ cands (slo bs n) w) (f ++ [(n, w)]) r → BR bs ((some n, w) :: cs) f r
theorem BR.det {bs : List (Int × Bx)} {q : List (Option Int × List Int)} {f r r' : List (Int × List Int)} (h : BR bs q f r) (h' : BR bs q f r') : r = r' := by
  induction h with
  | nil f => cases h'; rfl
  | non _ ih => cases h' with | non h' => exact ih h'
  | old hn _ ih =>
    cases h' with
    | old _ h' => exact ih h'
    | new hn' _ => exact absurd hn hn'
  | new hn _ ih =>
    cases h' with
    | old hn' _ => exact absurd hn' hn
    | new _ h' => exact ih h'
/-- where a way leads -/
inductive Leads (P : Pl) : List Int → Option Int → Prop
  | hand {h : Nat} : h < 8 → Leads P [(h : Int)] (P.hands.getD h none)
  | slot {w : List Int} {n : Int} {b : Bx} {s : Nat} : Leads P w (some n) → get P.boxes n = some b → s < b.slots.length → Leads P (w ++ [(s : Int)]) (b.slots.getD s none)
theorem Leads.hl {P : Pl} {w : List Int} {x : Option Int} (h : Leads P w x) : ∀ n, x = some n → HL P n := by
  induction h with
  | @hand h hh =>
    intro n e
    refine ⟨n, ?_, .refl n⟩
    rw [List.getD_eq_getElem?_getD] at e
    cases q : P.hands[h]? with
    | none => rw [q] at e; cases e
    | some y =>
      rw [q] at e
      have : y = some n := e
      rw [← this]
      exact List.mem_of_getElem? q
  | @slot w m b s _ hb hs ih =>
    intro n e
    refine (ih m rfl).next ⟨b, hb, ?_⟩
    rw [List.getD_eq_getElem?_getD] at e
    cases q : b.slots[s]? with
    | none => rw [q] at e; cases e
    | some y =>
      rw [q] at e
      have : y = some n := e
      rw [← this]
      exact List.mem_of_getElem? q
theorem Leads.ne {P : Pl} {w : List Int} {x : Option Int} (h : Leads P w x) : w ≠ [] := by
  cases h with
  | hand _ => intro z; cases z
  | slot _ _ _ => simp
/-- a way of more than one part, and its last slot -/
theorem Leads.last {P : Pl} {w : List Int} {x : Option Int} (h : Leads P w x) : (∃ k : Nat, k < 8 ∧ w = [(k : Int)] ∧ x = P.hands.getD k none) ∨ ∃ (v : List Int) (n : Int) (b : Bx) (s : Nat), w = v ++ [(s : Int)] ∧ v ≠ [] ∧ Leads P v (some n) ∧ get P.boxes n = some b ∧ s < b.slots.length ∧ x = b.slots.getD s none := by
  cases h with
  | @hand k hk => exact .inl ⟨k, hk, rfl, rfl⟩
  | @slot v n b s hv hb hs => exact .inr ⟨v, n, b, s, rfl, hv.ne, hv, hb, hs, rfl⟩
/-- each part of a way leads to a box, and its next slot is there -/
theorem Leads.part {P : Pl} {w : List Int} {x : Option Int} (h : Leads P w x) : ∀ i, 0 < i → i < w.length → ∃ (n : Int) (b : Bx) (s : Nat), Leads P (w.take i) (some n) ∧ get P.boxes n = some b ∧ w[i]? = some (s : Int) ∧ s < b.slots.length ∧ Leads P (w.take (i + 1)) (b.slots.getD s none) := by
  induction h with
  | hand hh => intro i h0 hi; rw [List.length_singleton] at hi; omega
  | @slot w m b s hw hb hs ih =>
    intro i h0 hi
    rw [List.length_append, List.length_singleton] at hi
    by_cases c : i = w.length
    · subst c
      refine ⟨m, b, s, by rw [List.take_left]; exact hw, hb, by rw [List.getElem?_append_right (Nat.le_refl _), Nat.sub_self]; rfl, hs, ?_⟩
      rw [List.take_of_length_le (by rw [List.length_append, List.length_singleton]; omega)]
      exact .slot hw hb hs
    · obtain ⟨n', b', s', h1, h2, h3, h4, h5⟩ := ih i h0 (by omega)
      refine ⟨n', b', s', by rw [List.take_append_of_le_length (by omega)]; exact h1, h2, by rw [List.getElem?_append_left (by omega)]; exact h3, h4, by rw [List.take_append_of_le_length (by omega)]; exact h5⟩
theorem Leads.one {P : Pl} {w : List Int} {x : Option Int} (h : Leads P w x) : ∃ k : Nat, k < 8 ∧ w[0]? = some (k : Int) ∧ Leads P (w.take 1) (P.hands.getD k none) ∧ (w.length = 1 → x = P.hands.getD k none) := by
  induction h with
  | @hand k hk => exact ⟨k, hk, rfl, .hand hk, fun _ => rfl⟩
  | @slot w m b s hw hb hs ih =>
    obtain ⟨k, h1, h2, h3, _⟩ := ih
    have hl : 0 < w.length := List.length_pos_iff.mpr hw.ne
    refine ⟨k, h1, by rw [List.getElem?_append_left hl]; exact h2, by rw [List.take_append_of_le_length hl]; exact h3, fun e => ?_⟩
    rw [List.length_append, List.length_singleton] at e
    omega
/-- what a way leads to is told by the way alone -/
theorem Leads.det {P : Pl} {w : List Int} {x : Option Int} (h : Leads P w x) : ∀ {y : Option Int}, Leads P w y → x = y := by
  induction h with
  | @hand k hk =>
    intro y hy
    rcases hy.last with ⟨k', _, e, ey⟩ | ⟨v, n, b, s, e, hv, _⟩
    · injection e with e _
      have : k = k' := by omega
      subst this
      exact ey.symm
    · exact absurd (List.eq_nil_of_length_eq_zero (by have := congrArg List.length e; rw [List.length_append, List.length_singleton, List.length_singleton] at this; omega)) hv
  | @slot w m b s hw hb hs ih =>
    intro y hy
    rcases hy.last with ⟨k', _, e, ey⟩ | ⟨v, n, b', s', e, hv, hvn, hb', hs', ey⟩
    · have := congrArg List.length e
      rw [List.length_append, List.length_singleton, List.length_singleton] at this
      exact absurd (List.eq_nil_of_length_eq_zero (by omega)) hw.ne
    · have e2 := List.append_inj' e rfl
      obtain ⟨e3, e4⟩ := e2
      subst e3
      injection e4 with e4 _
      have : s = s' := by omega
      subst this
      have : m = n := Option.some.inj (ih hvn)
      subst this
      have : b = b' := Option.some.inj (hb.symm.trans hb')
      subst this
      exact ey.symm
/-- amid the search -/
structure Bi (P : Pl) (f : List (Int × List Int)) (q : List (Option Int × List Int)) : Prop where
  nd : (f.map (·.1)).Nodup
  fl : ∀ n w, (n, w) ∈ f → Leads P w (some n)
  ql : ∀ x w, (x, w) ∈ q → Leads P w x
  cl : ∀ n, n ∈ f.map (·.1) → ∀ b, get P.boxes n = some b → ∀ m, some m ∈ b.slots → m ∈ f.map (·.1) ∨ ∃ w, (some m, w) ∈ q
  st : ∀ h, some h ∈ P.hands → h ∈ f.map (·.1) ∨ ∃ w, (some h, w) ∈ q
  wl : ∀ x w, (x, w) ∈ q → w.length ≤ f.length + 1
theorem Bi.non {P : Pl} {f : List (Int × List Int)} {q : List (Option Int × List Int)} {w : List Int} (h : Bi P f ((none, w) :: q)) : Bi P f q := by
  have drop : ∀ {m : Int}, (m ∈ f.map (·.1) ∨ ∃ w', (some m, w') ∈ (none, w) :: q) → m ∈ f.map (·.1) ∨ ∃ w', (some m, w') ∈ q := fun h => by
    rcases h with h | ⟨w', h⟩
    · exact .inl h
    · rcases List.mem_cons.mp h with h | h
      · injection h with h _; cases h
      · exact .inr ⟨w', h⟩
  exact ⟨h.nd, h.fl, fun x w hx => h.ql x w (List.mem_cons_of_mem _ hx), fun n hn b hb m hm => drop (h.cl n hn b hb m hm), fun x hx => drop (h.st x hx), fun x w hx => h.wl x w (List.mem_cons_of_mem _ hx)⟩
theorem Bi.old {P : Pl} {f : List (Int × List Int)} {q : List (Option Int × List Int)} {n : Int} {w : List Int} (h : Bi P f ((some n, w) :: q)) (hn : n ∈ f.map (·.1)) : Bi P f q := by
  have drop : ∀ {m : Int}, (m ∈ f.map (·.1) ∨ ∃ w', (some m, w') ∈ (some n, w) :: q) → m ∈ f.map (·.1) ∨ ∃ w', (some m, w') ∈ q := fun {m} h => by
    rcases h with h | ⟨w', h⟩
    · exact .inl h
    · rcases List.mem_cons.mp h with h | h
      · injection h with h _
        have : m = n := Option.some.inj h
        rw [this]
        exact .inl hn
      · exact .inr ⟨w', h⟩
  exact ⟨h.nd, h.fl, fun x w hx => h.ql x w (List.mem_cons_of_mem _ hx), fun n hn b hb m hm => drop (h.cl n hn b hb m hm), fun x hx => drop (h.st x hx), fun x w hx => h.wl x w (List.mem_cons_of_mem _ hx)⟩
theorem mem_cands {sl : List (Option Int)} {way : List Int} {x : Option Int} {w : List Int} : (x, w) ∈ cands sl way ↔ ∃ s, s < sl.length ∧ x = sl.getD s none ∧ w = way ++ [(s : Int)] := by
  unfold cands
  rw [List.mem_map]
  constructor
  · rintro ⟨s, hs, e⟩
    injection e with e1 e2
    exact ⟨s, List.mem_range.mp hs, e1.symm, e2.symm⟩
  · rintro ⟨s, hs, rfl, rfl⟩
    exact ⟨s, List.mem_range.mpr hs, rfl⟩
theorem Bi.new {P : Pl} {f : List (Int × List Int)} {q : List (Option Int × List Int)} {n : Int} {w : List Int} {b : Bx} (h : Bi P f ((some n, w) :: q)) (hn : n ∉ f.map (·.1)) (hb : get P.boxes n = some b) : Bi P (f ++ [(n, w)]) (q ++ cands (slo P.boxes n) w) := by
  have hq := h.ql (some n) w List.mem_cons_self
  have es := slo_of hb
  have ek : (f ++ [(n, w)]).map (·.1) = f.map (·.1) ++ [n] := by rw [List.map_append]; rfl
  have drop : ∀ {m : Int}, (m ∈ f.map (·.1) ∨ ∃ w', (some m, w') ∈ (some n, w) :: q) → m ∈ f.map (·.1) ++ [n] ∨ ∃ w', (some m, w') ∈ q ++ cands (slo P.boxes n) w := fun {m} h => by
    rcases h with h | ⟨w', h⟩
    · exact .inl (List.mem_append_left _ h)
    · rcases List.mem_cons.mp h with h | h
      · injection h with h _
        have : m = n := Option.some.inj h
        rw [this]
        exact .inl (List.mem_append_right _ (List.mem_singleton.mpr rfl))
      · exact .inr ⟨w', List.mem_append_left _ h⟩
  refine ⟨?_, fun m v hm => ?_, fun x v hx => ?_, fun m hm c hc k hk => ?_, fun x hx => by rw [ek]; exact drop (h.st x hx), fun x v hx => ?_⟩
  · rw [ek, List.nodup_append]
    exact ⟨h.nd, by simp, fun a ha c hc => by rw [List.mem_singleton.mp hc]; exact fun e => hn (by rw [← e]; exact ha)⟩
  · rcases List.mem_append.mp hm with hm | hm
    · exact h.fl m v hm
    · have := List.mem_singleton.mp hm
      injection this with e1 e2
      rw [e1, e2]
      exact hq
  · rcases List.mem_append.mp hx with hx | hx
    · exact h.ql x v (List.mem_cons_of_mem _ hx)
    · obtain ⟨s, hs, e1, e2⟩ := mem_cands.mp hx
      rw [es] at hs e1
      rw [e1, e2]
      exact .slot hq hb hs
  · rw [ek] at hm ⊢
    rcases List.mem_append.mp hm with hm | hm
    · exact drop (h.cl m hm c hc k hk)
    · have e := List.mem_singleton.mp hm
      subst e
      have : c = b := Option.some.inj (hc.symm.trans hb)
      subst this
      obtain ⟨s, hs, e2⟩ := List.mem_iff_getElem.mp hk
      refine .inr ⟨w ++ [(s : Int)], List.mem_append_right _ (mem_cands.mpr ⟨s, by rw [es]; exact hs, ?_, rfl⟩)⟩
      rw [es, List.getD_eq_getElem?_getD, List.getElem?_eq_getElem hs, e2]
      rfl
  · rw [List.length_append, List.length_singleton]
    rcases List.mem_append.mp hx with hx | hx
    · have := h.wl x v (List.mem_cons_of_mem _ hx)
      omega
    · obtain ⟨s, hs, e1, e2⟩ := mem_cands.mp hx
      have := h.wl (some n) w List.mem_cons_self
      rw [e2, List.length_append, List.length_singleton]
      omega
theorem Bi.keys {P : Pl} {f : List (Int × List Int)} (h : Bi P f []) (n : Int) : n ∈ f.map (·.1) ↔ HL P n := by
  constructor
  · intro hn
    obtain ⟨e, he, e1⟩ := List.mem_map.mp hn
    exact (h.fl e.1 e.2 he).hl n (by rw [← e1])
  · rintro ⟨k, hk, p⟩
    have key : ∀ a z, Path P.boxes a z → a ∈ f.map (·.1) → z ∈ f.map (·.1) := fun a z p => by
      induction p with
      | refl m => exact fun q => q
      | @step a c z e _ ih =>
        intro ha
        obtain ⟨x, hx, hc⟩ := e
        exact ih ((h.cl a ha x hx c hc).resolve_right fun ⟨w, hw⟩ => by cases hw)
    exact key k n p ((h.st k hk).resolve_right fun ⟨w, hw⟩ => by cases hw)
/-- what the hands offer -/
def handsC (P : Pl) : List (Option Int × List Int) := (List.range 8).map fun i => (P.hands.getD i none, [(i : Int)])
theorem bi0 {P : Pl} {w : List (Option Int)} (W : Wf P w) : Bi P [] (handsC P) := by
  refine ⟨List.nodup_nil, fun n w h => (by cases h), fun x w h => ?_, fun n h => (by cases h), fun h hh => ?_, fun x w h => ?_⟩
  · obtain ⟨i, hi, e⟩ := List.mem_map.mp h
    injection e with e1 e2
    rw [← e1, ← e2]
    exact .hand (List.mem_range.mp hi)
  · obtain ⟨i, hi, e⟩ := List.mem_iff_getElem.mp hh
    refine .inr ⟨[(i : Int)], List.mem_map.mpr ⟨i, List.mem_range.mpr (by rw [← W.hl]; exact hi), ?_⟩⟩
    rw [List.getD_eq_getElem?_getD, List.getElem?_eq_getElem hi, e]
    rfl
  · obtain ⟨i, hi, e⟩ := List.mem_map.mp h
    injection e with e1 e2
    rw [← e2]
    exact Nat.le_refl _
theorem Bi.len {P : Pl} {w : List (Option Int)} {f : List (Int × List Int)} {q : List (Option Int × List Int)} (W : Wf P w) (h : Bi P f q) : f.length ≤ P.boxes.length := by
  have := nodup_le (a := f.map (·.1)) (b := BP.keys P.boxes) h.nd fun n hn => by
    obtain ⟨e, he, e1⟩ := List.mem_map.mp hn
    exact get_keys.mp (((h.fl e.1 e.2 he).hl n (by rw [← e1])).alive W)
  rw [List.length_map, show (BP.keys P.boxes).length = P.boxes.length from List.length_map _] at this
  exact this
end BP

/-! A match over a tuple: sequences of a written text and names. Own work. -/
namespace BP
open PySem L2
open PyProof.Rows (matchSeq_tuple_hit matchSeq_tuple_miss unpackItems_tuple)
abbrev TEa := List V → (Option (List V) → Prop) → Prop
/-- the parts of a sequence pattern against the items: the captured ones by their names, or none -/
structure PEa (X : Cx) (ps : List Pattern) (ns : List Str) (t : TEa) : Prop where
  run : ∀ (pins : List (Addr × Obj)) (s : Shared) (σ : St) (H : Hp) (vs : List V) (us : List Value) (Q : Option (List V) → Prop), Inv X pins σ H s → Vals vs us → vs.length = ps.length → t vs Q →
    wpAny (model X.prog X.w) X.A (matchEach ps X.env us) (fun r s' => Inv X pins σ H s' ∧ match r with | none => Q none | some bs => ∃ ws, bs.map (·.1) = ns ∧ Vals ws (bs.map (·.2)) ∧ Q (some ws)) X.xe s
def eNil : TEa := fun _ Q => Q (some [])
def eCap (t : TEa) : TEa := fun vs Q => ∃ v r, vs = v :: r ∧ t r fun o => Q (o.map (v :: ·))
def eStr (x : Str) (t : TEa) : TEa := fun vs Q => ∃ z r, vs = .str z :: r ∧ (if decide (z = x) = true then t r Q else Q none)
section
variable {X : Cx}
theorem pea_nil : PEa X [] [] eNil := ⟨fun pins s σ H vs us Q I r hl h => wpAny_matchEach_nil ⟨I, [], rfl, .nil, h⟩⟩
theorem pea_cap {x : Str} {pos : Pos} {ps : List Pattern} {ns : List Str} {t : TEa} (h : PEa X ps ns t) : PEa X (.MatchAs none (some x) pos :: ps) (x :: ns) (eCap t) := by
  refine ⟨fun pins s σ H vs us Q I r hl h1 => ?_⟩
  obtain ⟨v, rr, rfl, q⟩ := h1
  cases r with
  | @cons _ u _ us r rs =>
    refine wpAny_matchEach_cons (wpAny_matchPattern_Capture ?_)
    refine thn (h.run pins s σ H rr us _ I rs (by simpa using hl) q) fun r' s2 hr => ?_
    obtain ⟨I2, hr⟩ := hr
    cases r' with
    | none => exact ⟨I2, hr⟩
    | some bs =>
      obtain ⟨ws, e1, e2, q2⟩ := hr
      exact ⟨I2, v :: ws, by simp [e1], by simpa using Paired.cons r e2, q2⟩
theorem pea_str {x : Str} {pos pos' : Pos} {j} {ps : List Pattern} {ns : List Str} {t : TEa} (h : PEa X ps ns t) : PEa X (.MatchValue (.Constant (.str x) j pos') pos :: ps) ns (eStr x t) := by
  refine ⟨fun pins s σ H vs us Q I r hl h1 => ?_⟩
  obtain ⟨z, rr, rfl, q⟩ := h1
  cases r with
  | @cons _ u _ us r rs =>
    refine wpAny_matchEach_cons (wpAny_matchPattern_Value ?_)
    refine thn ((pe_str (X := X) (x := x) (j := j) (pos := pos')).run pins s σ H (fun v H' => v = .str x ∧ H' = H) I ⟨rfl, rfl⟩) fun y s1 hy => ?_
    obtain ⟨v, H', I1, ry, rfl, rfl⟩ := hy
    refine thn (op_eq pins s1 σ H' (.str z) (.str x) _ _ (fun v H'' => v = .bl (decide (V.str z = V.str x)) ∧ H'' = H') I1 r ry ⟨rfl, rfl, rfl⟩) fun c s2 hc => ?_
    obtain ⟨v2, H2, I2, r2, rfl, rfl⟩ := hc
    cases r2
    refine wpAny_truthy_bool ?_
    have e : decide (V.str z = V.str x) = decide (z = x) := by
      by_cases q2 : z = x
      · rw [decide_eq_true q2, decide_eq_true (by rw [q2])]
      · rw [decide_eq_false q2, decide_eq_false (by intro y; injection y with y; exact q2 y)]
    rw [e]
    cases c : decide (z = x) with
    | true =>
      rw [if_pos rfl]
      rw [c, if_pos rfl] at q
      refine thn (h.run pins s2 σ H2 rr us _ I2 rs (by simpa using hl) q) fun r' s2 hr => ?_
      obtain ⟨I3, hr⟩ := hr
      cases r' with
      | none => exact ⟨I3, hr⟩
      | some bs => exact ⟨I3, by simpa using hr⟩
    | false =>
      rw [if_neg Bool.false_ne_true]
      rw [c, if_neg Bool.false_ne_true] at q
      exact ⟨I2, q⟩
/-- the captured ones are stored, one behind the other -/
structure PBi (X : Cx) (ns : List Str) (t : TGs) : Prop where
  run : ∀ (pins : List (Addr × Obj)) (s : Shared) (σ : St) (H : Hp) (vs : List V) (us : List Value) (Q : St → Hp → Prop), Inv X pins σ H s → Vals vs us → t vs σ H Q →
    wpAny (model X.prog X.w) X.A (assignInOrder (ns.map (bindName X.env)) us) (fun _ s' => ∃ σ' H', Inv X pins σ' H' s' ∧ Q σ' H') X.xe s
theorem pbi_nil : PBi X [] gNil := by
  refine ⟨fun pins s σ H vs us Q I r h => ?_⟩
  obtain ⟨e, h⟩ := h
  subst e
  cases r
  exact wpAny_assignInOrder_none ⟨σ, H, I, h⟩
theorem pbi_cons {i : Nat} {x : Str} {ns : List Str} {u : TGs} (h2 : PBi X ns u) (hN : X.N.Nodup) (hi : X.N[i]? = some x) (hx : Loc X.env.scope x) (hf : X.fn x = true ∨ X.env.scope.names.lookup x = some .local := by first | exact .inl rfl | exact .inr rfl | assumption) : PBi X (x :: ns) (gCons (gName i) u) := by
  refine ⟨fun pins s σ H vs us Q I r h => ?_⟩
  obtain ⟨v, vr, e1, h⟩ := h
  subst e1
  cases r with
  | cons r rr =>
    refine wpAny_assignInOrder_more ?_
    refine wpAny_bindName (store_ok I hN hi hx r (fun s' I' => ?_) hf)
    exact h2.run pins s' _ H vr _ Q I' rr h
/-- the cases, from the first on -/
structure PMc (X : Cx) (cs : List MatchCase) (t : V → TS) : Prop where
  run : ∀ (b : Bool) (pins : List (Addr × Obj)) (s : Shared) (σ : St) (H : Hp) (D : Ends) (v : V) (u : Value), Inv X pins σ H s → RelV v u → t v D σ H → wpAny (model X.prog X.w) X.A (matchCases cs X.env u b) (SP X pins D) X.xe s
def mNil : V → TS := fun _ D σ H => D.nx σ H
def mSeq (K : PySem.W.Frag) (n : Nat) (te : TEa) (tb : TGs) (tr : V → TS) (tbody : TS) : V → TS := fun v D σ H => ∃ a xs, v = .ref a ∧ SqT K H a xs ∧
  (if decide (xs.length = n) = true then te xs (fun o => match o with | none => tr v D σ H | some ws => tb ws σ H fun σ' H' => tbody D σ' H') else tr v D σ H)
theorem pmc_nil : PMc X [] mNil := ⟨fun b pins s σ H D v u I r h => wpAny_matchCases_nil ⟨σ, H, I, h⟩⟩
theorem pmc_seq {ps : List Pattern} {pos : Pos} {body : List Stmt} {rest : List MatchCase} {ns : List Str} {te : TEa} {tb : TGs} {tr : V → TS} {tbody : TS} {n : Nat} (hc : X.calm = true) (hp : PEa X ps ns te) (hb : PBi X ns tb) (hy : PSs X body tbody) (hr : PMc X rest tr)
    (hn : ps.length = n := by rfl) (hstar : ps.findIdx? (·.isStar) = none := by rfl) (hwild : (ps.all fun p => p.isWildcard || (p.isStar && p.names.isEmpty)) = false := by rfl) :
    PMc X (⟨.MatchSequence ps pos, none, body⟩ :: rest) (mSeq X.K n te tb tr tbody) := by
  refine ⟨fun b pins s σ H D v u I r h => ?_⟩
  obtain ⟨a, xs, rfl, hq, h⟩ := h
  cases r
  obtain ⟨its, rv, ht, hz⟩ := I.tuple hq
  refine wpAny_matchCases_cons ?_
  have hfit : (its.toArray.size : Int) < 2 ^ 63 := by
    have := rv.length
    have h2 : sizeLine = 16777216 ∨ True := .inr trivial
    have : its.toArray.size ≤ sizeLine := by rw [show its.toArray.size = its.length from by simp, ← this]; exact hz
    rw [sizeLine_eq] at this
    omega
  have hln : its.toArray.size = xs.length := by simpa using rv.length.symm
  by_cases c : xs.length = n
  · rw [decide_eq_true c, if_pos rfl] at h
    refine matchSeq_tuple_hit ht hfit (by rw [hln, c, hn]) ?_ hstar hwild
    have e : ps.length = its.toArray.size := by rw [hln, c, hn]
    rw [e]
    refine unpackItems_tuple (I.ok.hd hc) ht fun h' hx => ?_
    have I1 : Inv X pins σ H { s with heap := h', toks := s.toks + 1 + 1 } := I.kept fun b o e => hx b o (Nat.ne_of_lt (Heap.lt_size e)) e
    refine thn (hp.run pins _ σ H xs _ _ I1 (by simpa using rv) (by rw [c, hn]) h) fun r s1 hr1 => ?_
    obtain ⟨I2, hr1⟩ := hr1
    cases r with
    | none => exact hr.run false pins s1 σ H D (.ref a) _ I2 rfl hr1
    | some bs =>
      obtain ⟨ws, e1, e2, q⟩ := hr1
      have e3 : (bs.map fun (n, _) => bindName X.env n) = ns.map (bindName X.env) := by
        rw [← e1, List.map_map]
        rfl
      show wpAny _ _ (assignInOrder (bs.map fun (n, _) => bindName X.env n) (bs.map (·.2))) _ _ _
      rw [e3]
      refine thn (hb.run pins s1 σ H ws _ _ I2 e2 q) fun _ s2 hs => ?_
      obtain ⟨σ', H', I3, q3⟩ := hs
      exact hy.run pins s2 σ' H' D I3 q3
  · rw [decide_eq_false c, if_neg Bool.false_ne_true] at h
    refine matchSeq_tuple_miss ht hfit (by rw [hln, hn]; exact c) ?_ hstar hwild
    exact hr.run false pins _ σ H D (.ref a) _ (I.tok _) rfl h
def tMatch (te : TE) (tc : V → TS) : TS := fun D σ H => te σ H fun v H' => tc v D σ H'
theorem ps_match {e : Expr} {cs : List MatchCase} {pos : Pos} {te : TE} {tc : V → TS} (he : PE X e te) (hc : PMc X cs tc) : PS X (.Match e cs pos) (tMatch te tc) := by
  refine ⟨fun pins s σ H D I h => ?_⟩
  refine wpAny_Match (thn (he.run pins s σ H _ I h) fun u s1 ⟨v, H1, I1, r1, q1⟩ => ?_)
  exact hc.run true pins s1 σ H1 D v u I1 r1 q1
end
end BP

/-! Rows of deeds as lists of tuples in the heap. Own work. -/
namespace BP
open PySem L2
theorem paired_app {α β : Type} {F : α → β → Prop} : ∀ {a : List α} {b : List β} {c : List α} {d : List β}, Paired F a b → Paired F c d → Paired F (a ++ c) (b ++ d)
  | _, _, _, _, .nil, h => h
  | _, _, _, _, .cons r t, h => .cons r (paired_app t h)
theorem paired_imp {α β : Type} {F G : α → β → Prop} (h : ∀ a b, F a b → G a b) : ∀ {a : List α} {b : List β}, Paired F a b → Paired G a b
  | _, _, .nil => .nil
  | _, _, .cons r t => .cons (h _ _ r) (paired_imp h t)
theorem paired_at {α β : Type} {F : α → β → Prop} : ∀ {a : List α} {b : List β}, Paired F a b → ∀ (i : Nat) (x : α), a[i]? = some x → ∃ y, b[i]? = some y ∧ F x y
  | _, _, .nil, i, x, h => by simp at h
  | _, _, .cons r t, 0, x, h => by
    have e := Option.some.inj h
    subst e
    exact ⟨_, rfl, r⟩
  | _, _, .cons r t, i + 1, x, h => paired_at t i x h
theorem paired_length {α β : Type} {F : α → β → Prop} : ∀ {a : List α} {b : List β}, Paired F a b → a.length = b.length
  | _, _, .nil => rfl
  | _, _, .cons _ t => by rw [List.length_cons, List.length_cons, paired_length t]
instance (few y : Int) : (d : Deed) → Decidable (d.InZ few y)
  | .make h z => inferInstanceAs (Decidable ((0 ≤ h ∧ h < few) ∧ (0 ≤ z ∧ z < y)))
  | .hold h o => inferInstanceAs (Decidable ((0 ≤ h ∧ h < few) ∧ (0 ≤ o ∧ o < few)))
  | .drop h => inferInstanceAs (Decidable (0 ≤ h ∧ h < few))
  | .put h s o => inferInstanceAs (Decidable ((0 ≤ h ∧ h < few) ∧ (0 ≤ s ∧ s < y) ∧ (0 ≤ o ∧ o < few)))
  | .empty h s => inferInstanceAs (Decidable ((0 ≤ h ∧ h < few) ∧ (0 ≤ s ∧ s < y)))
  | .take h o s => inferInstanceAs (Decidable ((0 ≤ h ∧ h < few) ∧ (0 ≤ o ∧ o < few) ∧ (0 ≤ s ∧ s < y)))
  | .tidy => inferInstanceAs (Decidable True)
def Deed.mk? : Deed → Bool
  | .make _ _ => true
  | _ => false
def makes (ds : List Deed) : Nat := (ds.filter Deed.mk?).length
theorem makes_app (a b : List Deed) : makes (a ++ b) = makes a + makes b := by unfold makes; rw [List.filter_append, List.length_append]
/-- the deeds that stand at these -/
abbrev Items (H : Hp) : List V → List Deed → Prop := Paired fun x d => ∃ t, x = .ref t ∧ H t = some (.tup d.vs)
theorem Items.grow {H H' : Hp} (s : Same H H') {xs : List V} {ds : List Deed} (h : Items H xs ds) : Items H' xs ds := paired_imp (fun _ _ ⟨t, e, q⟩ => ⟨t, e, s _ _ q⟩) h
theorem Items.snoc {H : Hp} {xs : List V} {ds : List Deed} (h : Items H xs ds) {t : Addr} (d : Deed) (ht : H t = none) : Items (upd H t (.tup d.vs)) (xs ++ [.ref t]) (ds ++ [d]) :=
  paired_app (h.grow (same_upd ht)) (.cons ⟨t, rfl, upd_same⟩ .nil)
theorem Items.off {H : Hp} {xs : List V} {ds : List Deed} (h : Items H xs ds) {l : Addr} {ys : List V} (hl : H l = some (.lst ys)) (o : HO) : Items (upd H l o) xs ds :=
  paired_imp (fun _ _ ⟨t, e, q⟩ => ⟨t, e, by rw [upd_ne (ne_of q hl (by intro z; cases z))]; exact q⟩) h
theorem same_off {H0 H : Hp} {l : Addr} (s : Same H0 H) (r : H0 l = none) (o : HO) : Same H0 (upd H l o) := fun b u e => by rw [upd_ne (ne_of_none e r)]; exact s b u e
/-- a list of deeds, new since H0: m of them make a box at most, n they are at most -/
def DS (y : Int) (H0 H : Hp) (l : Addr) (m n : Nat) : Prop := Same H0 H ∧ H0 l = none ∧ ∃ xs ds, H l = some (.lst xs) ∧ Items H xs ds ∧ (∀ d, d ∈ ds → d.InZ 8 y) ∧ makes ds ≤ m ∧ ds.length ≤ n
theorem DS.more {y : Int} {H0 H : Hp} {l : Addr} {m n m' n' : Nat} (h : DS y H0 H l m n) (hm : m ≤ m') (hn : n ≤ n') : DS y H0 H l m' n' := by
  obtain ⟨s, r, xs, ds, hl, it, al, mk, ln⟩ := h
  exact ⟨s, r, xs, ds, hl, it, al, Nat.le_trans mk hm, Nat.le_trans ln hn⟩
theorem DS.grow {y : Int} {H0 H H' : Hp} {l : Addr} {m n : Nat} (h : DS y H0 H l m n) (s : Same H H') : DS y H0 H' l m n := by
  obtain ⟨s0, r, xs, ds, hl, it, al, mk, ln⟩ := h
  exact ⟨s0.trans s, r, xs, ds, s _ _ hl, it.grow s, al, mk, ln⟩
theorem DS.new {y : Int} {H0 H : Hp} {l : Addr} {xs : List V} {ds : List Deed} (s : Same H0 H) (hl : H l = none) (it : Items H xs ds) (al : ∀ d, d ∈ ds → d.InZ 8 y) : DS y H0 (upd H l (.lst xs)) l (makes ds) ds.length :=
  ⟨s.trans (same_upd hl), s.free hl, xs, ds, upd_same, it.grow (same_upd hl), al, Nat.le_refl _, Nat.le_refl _⟩
theorem all_app {P : Deed → Prop} {a b : List Deed} (ha : ∀ d, d ∈ a → P d) (hb : ∀ d, d ∈ b → P d) : ∀ d, d ∈ a ++ b → P d := fun d h => (List.mem_append.mp h).elim (ha d) (hb d)
theorem DS.cat {y : Int} {H0 H : Hp} {l p : Addr} {m n : Nat} {xs ys : List V} {es : List Deed} (h : DS y H0 H l m n) (hl : H l = some (.lst xs)) (hy : Items H ys es) (ae : ∀ d, d ∈ es → d.InZ 8 y) (hp : H p = none) : DS y H0 (upd H p (.lst (xs ++ ys))) p (m + makes es) (n + es.length) := by
  obtain ⟨s, r, xs', ds, hl', it, al, mk, ln⟩ := h
  have e : xs' = xs := by rw [hl] at hl'; injection hl' with q; injection q with q; exact q.symm
  subst e
  refine (DS.new s hp (paired_app it hy) (all_app al ae)).more ?_ ?_
  · rw [makes_app]; omega
  · rw [List.length_append]; omega
theorem DS.push {y : Int} {H0 H : Hp} {l t : Addr} {m n : Nat} {xs : List V} (d : Deed) (h : DS y H0 H l m n) (hl : H l = some (.lst xs)) (ht : H t = some (.tup d.vs)) (ad : d.InZ 8 y) : DS y H0 (upd H l (.lst (xs ++ [.ref t]))) l (m + makes [d]) (n + 1) := by
  obtain ⟨s, r, xs', ds, hl', it, al, mk, ln⟩ := h
  have e : xs' = xs := by rw [hl] at hl'; injection hl' with q; injection q with q; exact q.symm
  subst e
  have nt : t ≠ l := ne_of ht hl (by intro z; cases z)
  refine ⟨same_off s r _, r, _, ds ++ [d], upd_same, paired_app (it.off hl _) (.cons ⟨t, rfl, by rw [upd_ne nt]; exact ht⟩ .nil), all_app al (fun e he => by rw [List.mem_singleton.mp he]; exact ad), ?_, ?_⟩
  · rw [makes_app]; omega
  · rw [List.length_append, List.length_singleton]; omega
theorem DS.list {y : Int} {H0 H : Hp} {l : Addr} {m n : Nat} (h : DS y H0 H l m n) : ∃ xs, H l = some (.lst xs) ∧ xs.length ≤ n := by
  obtain ⟨s, r, xs, ds, hl, it, al, mk, ln⟩ := h
  exact ⟨xs, hl, by rw [paired_length it]; exact ln⟩
theorem DS.from {y : Int} {H0 H1 H : Hp} {l : Addr} {m n : Nat} (h : DS y H1 H l m n) (s : Same H0 H1) : DS y H0 H l m n := by
  obtain ⟨s0, r, x⟩ := h
  exact ⟨s.trans s0, s.free r, x⟩
theorem rgC2 : ∀ k : Nat, k < 62 → Builtin.Range.small 1 ((k : Int) - 1) 2 = true ∧ Builtin.Range.rangeSize 1 ((k : Int) - 1) 2 = (((k - 1) / 2 : Nat) : Int) := by decide +kernel
/-- min(n, c) as a number of turns -/
theorem min_c (n c : Nat) : ∃ kk : Nat, (kk : Int) = (if (c : Int) < (n : Int) then (c : Int) else (n : Int)) ∧ kk ≤ c ∧ kk ≤ n := by
  by_cases h : (c : Int) < (n : Int)
  · exact ⟨c, by rw [if_pos h], Nat.le_refl _, by omega⟩
  · exact ⟨n, by rw [if_neg h], by omega, Nat.le_refl _⟩
/-- what is new in the heap is known, and all tuples -/
def newT (R H H' : Hp) : Hp := fun b => match H' b with
  | some (.tup xs) => some (.tup xs)
  | _ => newK R H H' b
theorem newT_tup {R H H' : Hp} {b : Addr} {xs : List V} (h : H' b = some (.tup xs)) : newT R H H' b = some (.tup xs) := by unfold newT; rw [h]
theorem newT_oth {R H H' : Hp} {b : Addr} (h : ∀ xs, H' b ≠ some (.tup xs)) : newT R H H' b = newK R H H' b := by
  unfold newT
  split
  · rename_i xs q
    exact absurd q (h xs)
  · rfl
theorem same_newT {R H H' : Hp} (s : Same R H) (s' : Same H H') : Same R (newT R H H') := fun b o e => by
  have h := s' b o (s b o e)
  by_cases q : ∃ xs, o = .tup xs
  · obtain ⟨xs, rfl⟩ := q
    exact newT_tup h
  · rw [newT_oth (fun xs z => q ⟨xs, by rw [h] at z; exact Option.some.inj z⟩)]
    exact same_newK s b o e
theorem PileAt.freshT {C B p : Addr} {g : Geo} {P : Pl} {R H H' : Hp} (A : PileAt C B p g P R H) (s : Same H H') : PileAt C B p g P (newT R H H') H' := by
  have A1 := A.fresh s
  have no : ∀ {b : Addr} {o : HO}, H' b = some o → (∀ xs, o ≠ .tup xs) → ∀ xs, H' b ≠ some (.tup xs) := fun h n xs z => n xs (by rw [h] at z; exact Option.some.inj z)
  refine ⟨fun b o e => ?_, (newT_oth (no A1.hp (fun _ z => by cases z))).trans A1.rp, (newT_oth (no A1.hh (fun _ z => by cases z))).trans A1.rh, (newT_oth (no A1.hd (fun _ z => by cases z))).trans A1.rd,
    fun n b e => (newT_oth (no (A1.hb n b e) (fun _ z => by cases z))).trans (A1.rb n b e), fun n b e => (newT_oth (no (A1.hs n b e) (fun _ z => by cases z))).trans (A1.rs n b e), A1.hp, A1.hh, A1.hd, A1.hb, A1.hs, A1.ib, A1.is, A1.hn⟩
  by_cases q : ∃ xs, H' b = some (.tup xs)
  · obtain ⟨xs, h⟩ := q
    rw [newT_tup h] at e
    rw [h]
    exact e
  · rw [newT_oth (fun xs z => q ⟨xs, z⟩)] at e
    exact A1.same b o e
theorem nil_in {y : Int} : ∀ d, d ∈ ([] : List Deed) → d.InZ 8 y := fun d h => (by cases h)
theorem cons_in {y : Int} {d : Deed} {ds : List Deed} (h : d.InZ 8 y) (hs : ∀ d, d ∈ ds → d.InZ 8 y) : ∀ e, e ∈ d :: ds → e.InZ 8 y := fun e he => (List.mem_cons.mp he).elim (fun z => z ▸ h) (hs e)
end BP

/-! A dict comprehension as a name's value, over any walk. Own work. -/
namespace BP
open PySem L2
abbrev BlkP (X : Cx) (scope : Scope) (Z : Cx → Prop) : Prop := ∀ (s : Shared) (H : Hp) (C : Addr) (cl : List (Str × Addr)) (fp : List Addr), Z (X.blk s H scope (compEnvC scope cl C X.env) fp)
section
variable {X : Cx}
theorem swD {kx vx : Expr} {gs : List Comprehension} {scope : Scope} {pos py : Pos} {y : Str} {l : Nat} {env : Env} (hf : env.scope.kind = .function) (hl : env.scope.names.lookup y = some .local) (hp : (py.line == pos.line) = true)
    (hn : (scope.names.any fun (n, k) => n == y && (k == .local || k == .cell)) = false) : swapsWith (.DictComp kx vx gs scope pos) (some (.Name y py)) l env = pure true := by
  have e1 : env.kindOf y = some .local := hl
  have e2 : env.blockKind = .function := (show (if _ then _ else _) = _ from by rw [hf]; rfl)
  unfold swapsWith
  (simp only [e2, e1, hn, Expr.pos, hp]; rfl)
theorem ps_setDc {i : Nat} {y : Str} {py : Pos} {kx vx tg iter : Expr} {ifs : List Expr} {scope : Scope} {own : List (Str × Nat)} {pos spos : Pos} {wi : TI} {g : TG} {tt : TT} {tk tv : TE} (hc : X.calm = true) (hN : X.N.Nodup) (hy : X.N[i]? = some y) (hyl : X.env.scope.names.lookup y = some .local)
    (hsw : swapsWith (.DictComp kx vx [⟨tg, iter, ifs, 0⟩] scope pos) (some (.Name y py)) spos.line X.env = pure true) (hi : PI X tg iter wi) (ok : BlkOk X.N X.env.scope scope own)
    (hg : BlkP X scope fun Z => PG Z tg g) (ht : BlkP X scope fun Z => PTs Z ifs tt) (hk : BlkP X scope fun Z => PE Z kx tk) (he : BlkP X scope fun Z => PE Z vx tv) (hs : ∀ x, foldedSetIterable iter X.env x = pure x := by intro _; rfl) :
    PS X (.Assign [.Name y py] (.DictComp kx vx [⟨tg, iter, ifs, 0⟩] scope pos) spos) (tAsg (tDc wi g tt tk tv (own.map (·.2))) (gName i)) := by
  constructor
  intro pins s σ H D I q
  rw [exec_Assign_Name_used _ _ _ _ hsw]
  refine wpAny_bind (wpAny_standAt (wpAny_bind (?_ : wpAny _ X.A (do let _ ← comprehension (.DictComp kx vx [⟨tg, iter, ifs, 0⟩] scope pos) scope X.env (firstIterPos [⟨tg, iter, ifs, 0⟩] pos) newDict false (eval iter X.env) (some (assign (.Name y py) X.env))) _ _ s)))
  replace q : tDc wi g tt tk tv (own.map (·.2)) σ H (fun x H1 => gName i x σ H1 D.nx) := q
  refine wpAny_bind (thn (dc_core (Qf := fun _ s' => SP X pins D .next s') hc hN I hi ok hg ht hk he hs q fun L C s' m H' I' q2 hn f => (?_ : wpAny _ _ (assign (.Name y py) X.env (.ref L)) _ _ _)) fun _ s' hq => wpAny_pure (wpAny_pure hq))
  refine wpAny_assign_Name (store_ok2 (v := V.ref L) I' hN hy (.inl hyl) rfl (fun s2 I2 z => ?_) (.inr hyl))
  obtain ⟨⟨a, sb, ha⟩, ⟨f0, f1, f2, f3, f4, f5⟩⟩ := And.intro z f
  have hCa : C ≠ a := ha.elim (fun z => by rw [z]; exact f1) fun z e => f4 y a z e.symm
  exact ⟨m, hn.sameBut sb hCa, fun h3 sb3 => ⟨_, H', I2.turned (t' := s2.toks) (fun b o hb e => (sb3.2 b hb).trans e) f0 f1 f3 f4 f5, q2⟩⟩
end
/-- a dict comprehension over any walk -/
theorem dc_it {J : It} {n : Nat} {G : Hp → Prop} {Y : Nat → Hp → V → Hp → Prop} (w : Walk J n G Y) {g : TG} {tt : TT} {tk tv : TE} {vs : List Nat} {σ : L2.St} {H1 : Hp} {D : Addr} {Qd : Hp → Prop} (Pv : Nat → Hp → Prop) (h0 : Pv 0 (upd H1 D (.dK []))) (hG : ∀ i H, i ≤ n → Pv i H → G H)
    (hs : ∀ i x H H', i < n → Pv i H → Y i H x H' → g x (wipe σ vs) H' fun σ2 H2 => wipe σ2 vs = wipe σ vs ∧ tt σ2 H2 fun b H3 => if b = true then tk σ2 H3 fun y H4 => tv σ2 H4 fun z H5 => ∃ kvs k, y = kV k ∧ H5 D = some (.dK kvs) ∧ kvs.length < sizeLine ∧ Pv (i + 1) (upd H5 D (.dK (putK kvs k z))) else Pv (i + 1) H3)
    (hd : ∀ H, Pv n H → Qd H) : ∃ W : Nat → Nat → Hp → Prop, (∃ m, W 0 m (upd H1 D (.dK []))) ∧ ∀ i m H, W i m H → (J.stop i H ∧ Qd H) ∨ (J.go i H ∧ ∃ Nx : Hp → Prop, (∀ H', Nx H' → ∃ m', m' < m ∧ W (i + 1) m' H') ∧
      ∀ x H', J.yld i H x H' → g x (wipe σ vs) H' fun σ2 H2 => wipe σ2 vs = wipe σ vs ∧ tt σ2 H2 fun b H3 => if b = true then tk σ2 H3 fun y H4 => tv σ2 H4 fun z H5 => ∃ kvs k, y = kV k ∧ H5 D = some (.dK kvs) ∧ kvs.length < sizeLine ∧ Nx (upd H5 D (.dK (putK kvs k z))) else Nx H3) := by
  refine ⟨fun i m H => i ≤ n ∧ Pv i H ∧ m + i = n, ⟨n, Nat.zero_le _, h0, rfl⟩, fun i m H a => ?_⟩
  obtain ⟨hi, p, em⟩ := a
  have q := hG i H hi p
  by_cases c : i < n
  · refine .inr ⟨w.goes i H c q, Pv (i + 1), fun H' p' => ⟨m - 1, by omega, c, p', by omega⟩, fun x H' y => hs i x H H' c p (w.yields i H x H' c q y)⟩
  · have : i = n := by omega
    subst this
    exact .inl ⟨w.stops H q, hd H p⟩
end BP

/-! Within an except suite: tuples taken apart, list comprehensions. Own work. -/
namespace BP
open PySem PySem.Spec L2 HotX L2H
open PyProof.Rows hiding St
section
variable {prog : Program} {w : World} {A : Around} {E : Value → Shared → Prop} {s : Shared}
theorem hot_keep {x1 : Addr} {h h' : Heap} (c : HotAt A x1 h) (k : ∀ o, h.get? x1 = some o → h'.get? x1 = some o) : HotAt A x1 h' := by
  obtain ⟨hh, o, vs, e, d, z⟩ := c
  exact ⟨hh, o, vs, k o e, d, z⟩
/-- a list's iterator at its end, an exception in hand -/
theorem list_end_hot {it l x1 : Addr} {i : Nat} {items} {Q : Option Value → Shared → Prop} (hot : HotAt A x1 s.heap) (nx : x1 ≠ it) (hit : s.heap.IsListIter it l i) (hl : s.heap.IsList l items) (hx : items[i]? = none)
    (hQ : ∀ h', Heap.ExtBut it s.heap h' → Q none { s with heap := h' }) : wpAny (model prog w) A (pyNext (.ref it)) Q E s := by
  obtain ⟨o, ho, hc, hd⟩ := id hit
  obtain ⟨ol, hol, _, nl, hdl⟩ := hl
  obtain ⟨hh, o1, vs1, h1, d1, c1⟩ := hot
  unfold pyNext
  refine wpAny_bind (wpAny_attempt (wpAny_callSpecial?_slot (name := Str.ofString "__next__") hit.typeIs slot_listiter_next
    (wpAny_call_entry slot_listiter_next hit.typeIs entry_listiter_next ?_ (args_listiter_next _))))
  show wpAny _ _ (field (.ref it) 0 >>= _) _ _ s
  refine wpAny_bind (wpAny_field ho hd (x := .ref l) rfl ?_)
  show wpAny _ _ (if (Value.ref l == Value.none) = true then _ else _) _ _ s
  rw [if_neg (show ¬ ((Value.ref l == Value.none) = true) from Bool.false_ne_true)]
  show wpAny _ _ (field (.ref it) 1 >>= _) _ _ s
  refine wpAny_bind (wpAny_field ho hd (x := .int i 0) rfl ?_)
  show wpAny _ _ (seqItems? (.ref l) >>= _) _ _ s
  refine wpAny_bind (wpAny_seqItems hol hdl ?_)
  simp only [Int.toNat_natCast, hx]
  refine wpAny_bind (wpAny_rule (wpAny_bind (wpAny_setField ho hd (by simp) ?_)))
  show wpAny _ _ (newExc (.type "StopIteration") [] >>= _) _ _ _
  refine wpAny_bind ?_
  simp only [newExc, newTuple]
  refine wpAny_bind (wpAny_newObj_type ?_ (by size_fits))
  refine wpAny_bind (m := firstArgMember _ _) (wpAny_of_eq (a := Value.none) (by first | rfl | (simp only [firstArgMember]; rfl)) ?_)
  refine wpAny_newObj_type ?_ (by size_fits)
  have up : ∀ b o', b ≠ it → s.heap.get? b = some o' → (s.heap.update it (Obj.mapFields (·.setIfInBounds 0 Value.none))).get? b = some o' := fun b o' nb e => by
    rw [Heap.get?_update_other _ _ nb.symm]
    exact e
  have h1' := up x1 o1 nx h1
  refine raiseNew_hot ⟨hh, o1, vs1, Heap.get?_push_of_some _ (Heap.get?_push_of_some _ h1'), d1, c1⟩ (Nat.ne_of_lt (Heap.lt_size (Heap.get?_push_of_some _ h1'))) (Heap.get?_push_size _ rfl) rfl (by first | (simp; done) | (simp; omega) | (simp only [Array.size_append]; simp; omega)) ?_
  refine wpAny_bind (wpAny_isInstance (T := "StopIteration") (b := true) ⟨_, Heap.get?_update_self _ (Heap.get?_push_size _ rfl) rfl, rfl⟩ isSubtype_stop ?_)
  refine wpAny_pure (hQ _ fun b o' nb e => ?_)
  rw [Heap.get?_update_other _ _ (Nat.ne_of_gt (Heap.lt_size (Heap.get?_push_of_some _ (up b o' nb e))))]
  exact Heap.get?_push_of_some _ (Heap.get?_push_of_some _ (up b o' nb e))
/-- a tuple's iterator at its end -/
theorem tup_end_hot {it l x1 : Addr} {i : Nat} {items} {Q : Option Value → Shared → Prop} (hot : HotAt A x1 s.heap) (nx : x1 ≠ it) (hit : IsTupIter s.heap it l i) (hl : IsTup s.heap l items) (hx : items[i]? = none)
    (hQ : ∀ h', Heap.ExtBut it s.heap h' → Q none { s with heap := h' }) : wpAny (model prog w) A (pyNext (.ref it)) Q E s := by
  obtain ⟨o, ho, hc, hd⟩ := id hit
  obtain ⟨ol, hol, _, nl, hdl⟩ := hl
  obtain ⟨hh, o1, vs1, h1, d1, c1⟩ := hot
  unfold pyNext
  refine wpAny_bind (wpAny_attempt (wpAny_callSpecial?_slot (name := Str.ofString "__next__") hit.typeIs slot_tupleiter_next
    (wpAny_call_entry slot_tupleiter_next hit.typeIs entry_tupleiter_next ?_ (args_tupleiter_next _))))
  show wpAny _ _ (field (.ref it) 0 >>= _) _ _ s
  refine wpAny_bind (wpAny_field ho hd (x := .ref l) rfl ?_)
  show wpAny _ _ (if (Value.ref l == Value.none) = true then _ else _) _ _ s
  rw [if_neg (show ¬ ((Value.ref l == Value.none) = true) from Bool.false_ne_true)]
  show wpAny _ _ (field (.ref it) 1 >>= _) _ _ s
  refine wpAny_bind (wpAny_field ho hd (x := .int i 0) rfl ?_)
  show wpAny _ _ (seqItems? (.ref l) >>= _) _ _ s
  refine wpAny_bind (wpAny_seqItems hol hdl ?_)
  simp only [Int.toNat_natCast, hx]
  refine wpAny_bind (wpAny_rule (wpAny_bind (wpAny_setField ho hd (by simp) ?_)))
  show wpAny _ _ (newExc (.type "StopIteration") [] >>= _) _ _ _
  refine wpAny_bind ?_
  simp only [newExc, newTuple]
  refine wpAny_bind (wpAny_newObj_type ?_ (by size_fits))
  refine wpAny_bind (m := firstArgMember _ _) (wpAny_of_eq (a := Value.none) (by first | rfl | (simp only [firstArgMember]; rfl)) ?_)
  refine wpAny_newObj_type ?_ (by size_fits)
  have up : ∀ b o', b ≠ it → s.heap.get? b = some o' → (s.heap.update it (Obj.mapFields (·.setIfInBounds 0 Value.none))).get? b = some o' := fun b o' nb e => by
    rw [Heap.get?_update_other _ _ nb.symm]
    exact e
  have h1' := up x1 o1 nx h1
  refine raiseNew_hot ⟨hh, o1, vs1, Heap.get?_push_of_some _ (Heap.get?_push_of_some _ h1'), d1, c1⟩ (Nat.ne_of_lt (Heap.lt_size (Heap.get?_push_of_some _ h1'))) (Heap.get?_push_size _ rfl) rfl (by first | (simp; done) | (simp; omega) | (simp only [Array.size_append]; simp; omega)) ?_
  refine wpAny_bind (wpAny_isInstance (T := "StopIteration") (b := true) ⟨_, Heap.get?_update_self _ (Heap.get?_push_size _ rfl) rfl, rfl⟩ isSubtype_stop ?_)
  refine wpAny_pure (hQ _ fun b o' nb e => ?_)
  rw [Heap.get?_update_other _ _ (Nat.ne_of_gt (Heap.lt_size (Heap.get?_push_of_some _ (up b o' nb e))))]
  exact Heap.get?_push_of_some _ (Heap.get?_push_of_some _ (up b o' nb e))
theorem unpackItems_hot {t x1 : Addr} {items : Array Value} {Q : List Value → Shared → Prop} (hot : HotAt A x1 s.heap) (ht : IsTup s.heap t items)
    (hQ : ∀ h', Heap.ExtBut s.heap.objs.size s.heap h' → Q items.toList { s with heap := h' }) : wpAny (model prog w) A (unpackItems (.ref t) items.size none) Q E s := by
  have hlt : t ≠ s.heap.objs.size := by obtain ⟨o, ho, _⟩ := ht; exact Nat.ne_of_lt (Heap.lt_size ho)
  have xlt : x1 ≠ s.heap.objs.size := by obtain ⟨_, o, _, ho, _⟩ := hot; exact Nat.ne_of_lt (Heap.lt_size ho)
  unfold unpackItems
  refine wpAny_bind ?_
  · unfold notIterableAtAll
    refine wpAny_bind (wpAny_specialOf ht.typeIs slot_tuple_iter.lookup ?_)
    refine wpAny_pure ?_
    simp only [Bool.false_eq_true, if_false]
    refine wpAny_bind (wpAny_holding (iter_tuple ht ?_))
    refine wpAny_bind (wpAny_holding (draw_tuple hlt items.size 0 _ _ ⟨_, Heap.get?_push_size _ rfl, rfl, rfl⟩ (ht.push _) (by omega) fun h₁ hit₁ hs₁ => ?_))
    have hall : List.take items.size (List.drop 0 items.toList) = items.toList := by
      rw [List.drop_zero]; exact List.take_of_length_le (by simp)
    rw [hall]
    rw [if_neg (by simp)]
    have ht₁ : IsTup h₁ t items := (ht.push _).extBut hs₁.extBut hlt
    have hot₁ : HotAt A x1 h₁ := hot_keep hot fun o e => hs₁.extBut _ _ xlt (Heap.get?_push_of_some _ e)
    refine wpAny_bind (wpAny_holding (tup_end_hot hot₁ xlt hit₁ ht₁ (by simp) fun h₂ he₂ => ?_))
    simp only [Option.isSome_none, Bool.false_eq_true, if_false]
    refine wpAny_pure (hQ h₂ fun b o hb e => he₂ b o hb (hs₁.extBut b o hb (Heap.get?_push_of_some _ e)))
theorem assign_tup_hot {env : Env} {elts : List Expr} {k1} {pos : Pos} {t x1 : Addr} {items : Array Value} {Q : Unit → Shared → Prop} (hot : HotAt A x1 s.heap) (ht : IsTup s.heap t items)
    (hn : (assignEach elts env).length = items.size) (hstar : (assignEach elts env).findIdx? (·.1) = none)
    (h : ∀ h', Heap.ExtBut s.heap.objs.size s.heap h' → wpAny (model prog w) A (assignInOrder ((assignEach elts env).map (·.2)) items.toList) Q E { s with heap := h' }) :
    wpAny (model prog w) A (assign (.Tuple elts k1 pos) env (.ref t)) Q E s := by
  rw [assign_Tuple]
  refine wpAny_bind (wpAny_standAt ?_)
  unfold unpack
  rw [hn, hstar]
  exact wpAny_bind (wpAny_holding (unpackItems_hot hot ht h))
end
/-- in every state of the context an exception is in hand -/
def HotB (Y : Cx) : Prop := ∀ (pins : List (Addr × Obj)) (σ : L2.St) (H : Hp) (s : Shared), Inv Y pins σ H s → ∃ x1, HotAt Y.A x1 s.heap ∧ x1 ∉ Y.ex ∧ H x1 = none
theorem hotB_of {X : Cx} (c : HotC X) (hex : X.ex = []) : HotB X := fun pins σ H s I => by
  obtain ⟨p, ⟨hh, v1, e1, c1⟩, hp⟩ := c
  have z := I.pin p (List.mem_append_left _ hp)
  exact ⟨p.1, ⟨hh, p.2, v1, z.1, e1, c1⟩, by rw [hex]; simp, z.2.1⟩
theorem pg_tupH {X : Cx} {es : List Expr} {k : Nat} {pos : Pos} {t : TGs} {n : Nat} (hb : HotB X) (h : PGs X es t)
    (hn : (assignEach es X.env).length = n := by rfl) (hst : (assignEach es X.env).findIdx? (·.1) = none := by rfl) : PG X (.Tuple es k pos) (gTup X.K n t) := by
  refine ⟨fun pins s σ H v u Q I r hw => ?_⟩
  obtain ⟨a, xs, e1, hq, hl, hw⟩ := hw
  subst e1
  cases r
  obtain ⟨its, rv, ht, hz⟩ := I.tuple hq
  obtain ⟨x1, hot, _⟩ := hb pins σ H s I
  refine assign_tup_hot hot ht (by simp [hn, ← hl, rv.length]) hst fun h' hx => ?_
  have I1 : Inv X pins σ H { s with heap := h' } := I.kept (t' := s.toks) fun b o e => hx b o (Nat.ne_of_lt (Heap.lt_size e)) e
  exact h.run pins _ σ H xs _ Q I1 (by simpa using rv) hw
/-- an iterator's turns while an exception is in hand -/
structure TurnB (P : Program) (w : World) (K : PySem.W.Frag) (tg : Expr) (J : It) (fp : List Addr) (it : Addr) (tn : Nat → Heap → Prop) : Prop where
  obj : ∀ i h, tn i h → ∀ b ∈ fp, ∃ o, h.get? b = some o ∧ ∀ v, o.data ≠ .cell v
  keep : ∀ i h h', tn i h → (∀ b ∈ fp, ∀ o, h.get? b = some o → h'.get? b = some o) → tn i h'
  item : ∀ (X : Cx), X.prog = P → X.w = w → X.K = K → HotB X → ∀ (i : Nat) (pins : List (Addr × Obj)) (s : Shared) (σ : L2.St) (H : Hp) (E : Value → Shared → Prop), Inv X pins σ H s → (∀ b ∈ fp, FpOk X pins H b) → (∀ b ∈ fp, b ∈ X.ex) → tn i s.heap → J.go i H →
    wpAny (model P w) X.A (pyNext (.ref it)) (fun r s1 => ∃ u, r = some u ∧
      wpAny (model P w) X.A (letOwnedTupleGo tg (.ref it) u) (fun _ s2 => ∃ x H', Inv X pins σ H' s2 ∧ RelV x u ∧ J.yld i H x H' ∧ tn (i + 1) s2.heap ∧ ∀ b ∈ fp, H' b = none) E s1) E s
  done : ∀ (X : Cx), X.prog = P → X.w = w → X.K = K → HotB X → ∀ (i : Nat) (pins : List (Addr × Obj)) (s : Shared) (σ : L2.St) (H : Hp) (E : Value → Shared → Prop), Inv X pins σ H s → (∀ b ∈ fp, FpOk X pins H b) → (∀ b ∈ fp, b ∈ X.ex) → tn i s.heap → J.stop i H →
    wpAny (model P w) X.A (pyNext (.ref it)) (fun r s1 => r = none ∧ Inv X pins σ H s1) E s
  self : ∀ (A : Around) (i : Nat) (s : Shared) (Q : Value → Shared → Prop) (E : Value → Shared → Prop), tn i s.heap → Q (.ref it) s → wpAny (model P w) A (pyIter (.ref it)) Q E s
theorem turnB_list {P : Program} {w : World} {K : PySem.W.Frag} {tg : Expr} (a it : Addr) : TurnB P w K tg (Itl K a) [it] it (fun i h => h.IsListIter it a i) := by
  have one : ∀ {Z : Addr → Prop} {b : Addr}, b ∈ [it] → Z it → Z b := fun hb z => by rw [List.mem_singleton.mp hb]; exact z
  refine ⟨fun i h st b hb => ?_, fun i h h' st k => st.at fun o e => k it List.mem_cons_self o e, ?_, ?_, fun _ _ _ _ _ st h => wpAny_pyIter_listiter st h⟩
  · obtain ⟨o, e, c, d⟩ := st
    exact ⟨o, one (Z := fun b => h.get? b = some o) hb e, fun v z => by rw [d] at z; cases z⟩
  · rintro X rfl rfl rfl hb i pins s σ H E I hf hx st ⟨xs, x, hq, hx2⟩
    obtain ⟨its, rv, p, hz⟩ := I.list hq
    obtain ⟨u, hu, ru⟩ := rv.get hx2
    obtain ⟨f0, f1, f2, f3, f4, f5⟩ := hf it List.mem_cons_self
    refine wpAny_pyNext_list_item st p.isList (x := u) (by simpa using hu) fun h' st' sb => ?_
    have I1 : Inv X pins σ H { s with heap := h' } := I.turned (t' := s.toks) (fun b o hb e => (sb.2 b hb).trans e) f0 f1 f3 f4 f5
    obtain ⟨o, e, c, d⟩ := id st'
    exact ⟨u, rfl, go_of (s := { s with heap := h' }) e c d (by decide) ⟨x, H, I1, ru, ⟨rfl, fun ys hy => by rw [I.list_inj hy hq]; exact hx2⟩, st', fun b hb => (hf b hb).1⟩⟩
  · rintro X rfl rfl rfl hb i pins s σ H E I hf hx st ⟨xs, hq, hlen⟩
    obtain ⟨its, rv, p, hz⟩ := I.list hq
    obtain ⟨f0, f1, f2, f3, f4, f5⟩ := hf it List.mem_cons_self
    have hl := rv.length
    obtain ⟨x1, hot, nex, _⟩ := hb pins σ H s I
    exact list_end_hot hot (fun z => nex (by rw [z]; exact hx it List.mem_cons_self)) st p.isList (by simp; omega) fun h' eb => ⟨rfl, I.turned (t' := s.toks) (fun b o hb e => eb b o hb e) f0 f1 f3 f4 f5⟩
def PIEB (X : Cx) (pins : List (Addr × Obj)) (σ : L2.St) (tg : Expr) (R : It → Hp → Prop) (itv : Value) (s2 : Shared) : Prop :=
  ∃ (it : Addr) (fp : List Addr) (tn : Nat → Heap → Prop) (J : It) (H' : Hp), itv = .ref it ∧ Inv X pins σ H' s2 ∧ TurnB X.prog X.w X.K tg J fp it tn ∧ tn 0 s2.heap ∧ (∀ b ∈ fp, FpOk X pins H' b) ∧ R J H'
structure PIB (X : Cx) (tg iter : Expr) (wi : TI) : Prop where
  run : ∀ (pins : List (Addr × Obj)) (s : Shared) (σ : L2.St) (H : Hp) (R : It → Hp → Prop), Inv X pins σ H s → wi σ H R →
    wpAny (model X.prog X.w) X.A (eval iter X.env) (fun v s1 => wpAny (model X.prog X.w) X.A (pyIter v) (PIEB X pins σ tg R) X.xe s1) X.xe s
theorem piB_list {X : Cx} {tg l : Expr} {tl : TE} (hl : PE X l tl) : PIB X tg l (iList X.K tl) := by
  refine ⟨fun pins s σ H R I h => thn (hl.run pins s σ H _ I h) fun v s1 ⟨x, H1, I1, r1, a, e, ⟨xs, hq⟩, q⟩ => ?_⟩
  subst e
  cases r1
  obtain ⟨its, rv, p, hz⟩ := I1.list hq
  refine wpAny_pyIter_list p.isList ⟨s1.heap.objs.size, [s1.heap.objs.size], _, _, H1, rfl, I1.kept (t' := s1.toks) fun b o e => Heap.get?_push_of_some _ e, turnB_list a _, ⟨_, Heap.get?_push_size _ rfl, rfl, rfl⟩, fun b hb => ?_, q⟩
  rw [List.mem_singleton.mp hb]
  exact I1.fpOk (Nat.le_refl _) (I1.hok.fresh (Nat.le_refl _))
theorem hot_blk {X : Cx} {pins : List (Addr × Obj)} {σ : L2.St} {H : Hp} {s : Shared} {sc : Scope} {ce : Env} {fp : List Addr} (c : HotC X) (I : Inv X pins σ H s) (hfp : ∀ b ∈ fp, ∀ p ∈ X.pn, p.1 ≠ b) : HotB (X.blk s H sc ce fp) := by
  obtain ⟨p, ⟨hh, v1, e1, c1⟩, hp⟩ := c
  obtain ⟨g1, g2, g3, g4, _⟩ := I.pin p (List.mem_append_left _ hp)
  have nst : p.1 ∉ frs X.stack := by
    rcases I.ok.stk with z | ⟨z, z2⟩
    · rw [z]; exact g4
    · rw [z]
      intro hm
      obtain ⟨e, he, q⟩ := List.mem_filterMap.mp hm
      rcases List.mem_cons.mp he with rfl | he
      · rw [z2] at q
        exact g3 (Option.some.inj q).symm
      · exact g4 (List.mem_filterMap.mpr ⟨e, he, q⟩)
  have nfp : p.1 ∉ fp := fun hm => hfp p.1 hm p hp rfl
  intro pins' σ' H' s' I'
  exact ⟨p.1, ⟨hh, p.2, v1, I'.base.keep p.1 p.2 g1 g2 nst nfp, e1, c1⟩, nfp, I'.base.free p.1 p.2 g1 g2 nfp⟩
section
variable {X : Cx}
/-- a list comprehension within an except suite -/
theorem pe_lcH {elt tg iter : Expr} {ifs : List Expr} {sc : Scope} {own : List (Str × Nat)} {pos : Pos} {wi : TI} {g : TG} {tt : TT} {te : TE}
    (hot : HotC X) (hN : X.N.Nodup) (hi : PIB X tg iter wi) (ok : BlkOk X.N X.env.scope sc own)
    (hg : ∀ (s : Shared) (H : Hp) (C : Addr) (cl : List (Str × Addr)) (fp : List Addr), HotB (X.blk s H sc (compEnvC sc cl C X.env) fp) → PG (X.blk s H sc (compEnvC sc cl C X.env) fp) tg g)
    (ht : ∀ (s : Shared) (H : Hp) (C : Addr) (cl : List (Str × Addr)) (fp : List Addr), PTs (X.blk s H sc (compEnvC sc cl C X.env) fp) ifs tt)
    (he : ∀ (s : Shared) (H : Hp) (C : Addr) (cl : List (Str × Addr)) (fp : List Addr), PE (X.blk s H sc (compEnvC sc cl C X.env) fp) elt te)
    (hs : ∀ x, foldedSetIterable iter X.env x = pure x := by intro _; rfl) : PE X (.ListComp elt [⟨tg, iter, ifs, 0⟩] sc pos) (tLc wi g tt te (own.map (·.2))) := by
  refine ⟨fun pins s σ H Q I hw => ?_⟩
  rw [eval_ListComp]
  have cells : ∀ y ∈ sc.names, y.2 = .free → ∃ c, X.env.cells.lookup y.1 = some c := fun y hy e =>
    (ok.free y hy e).elim (fun k => I.ok.has _ (.inl k)) (fun k => I.ok.has _ (.inr k))
  refine comp_freeF rfl hs (closure_ok cells) ok.kind (fun y hy e => (ok.uniq y hy).trans (congrArg some e)) (thn (hi.run pins s σ H _ I hw) fun xv s1 hx => thn hx fun itv s2 h2 => ?_)
  obtain ⟨it, fp, tn, J, H2, rfl, I2, T, st2, f2, q⟩ := h2
  refine wpAny_newObj_type (newEnv_comp ?_) (by show 0 ≤ sizeLine; decide)
  obtain ⟨D, hD⟩ : ∃ D, s2.heap.objs.size = D := ⟨_, rfl⟩
  rw [hD]
  obtain ⟨W, ⟨m0, w0⟩, turn⟩ := q D (I2.hok.fresh (Nat.le_of_eq hD))
  -- the list is laid
  obtain ⟨s3, hs3⟩ : ∃ s3 : Shared, ({ s2 with heap := s2.heap.push { cls := .type "list", data := .seq ([] : List Value).toArray } } : Shared) = s3 := ⟨_, rfl⟩
  have h3 : s3.heap = s2.heap.push { cls := .type "list", data := .seq ([] : List Value).toArray } := by rw [← hs3]
  have I3 : Inv X pins σ (upd H2 D (.lst [])) s3 := by
    rw [← hs3]
    refine I2.laid (t' := s2.toks) (fun b o e => Heap.get?_push_of_some _ e) (Nat.le_of_eq hD) ⟨Nat.zero_le _, [], 0, .nil, ?_⟩
    rw [← hD]
    exact Heap.get?_push_size _ rfl
  have below : ∀ b ∈ fp, b < s2.heap.objs.size := fun b hb => (T.obj _ _ st2 b hb).elim fun o e => Heap.lt_size e.1
  have f3 : ∀ b ∈ fp, FpOk X pins (upd H2 D (.lst [])) b ∧ b < s3.heap.objs.size := fun b hb => by
    have lt := below b hb
    refine ⟨⟨?_, (f2 b hb).2⟩, ?_⟩
    · rw [upd_ne (by rw [← hD]; exact Nat.ne_of_lt lt)]
      exact (f2 b hb).1
    · rw [h3, Heap.size_push]
      exact Nat.lt_succ_of_lt lt
  have st3 : tn 0 s3.heap := T.keep _ _ _ st2 fun b _ o e => (by rw [h3]; exact Heap.get?_push_of_some _ e)
  have I4 := block_start I3 ok hN f3
  obtain ⟨cl, hcl⟩ : ∃ cl, cellsFrom (s3.heap.objs.size + 1) sc.names (cloFrom X.env.cells sc.names []) = cl := ⟨_, rfl⟩
  have go : ∀ ce : Env, compEnvC sc cl s3.heap.objs.size X.env = ce → codeAny (model X.prog X.w) X.A (.compStart (.ListComp elt [⟨tg, iter, ifs, 0⟩] sc pos) 0 (.ref it) (.ref D) ce)
      (PostF (model X.prog X.w) X.A X.xe (EP X pins σ Q) (.ref D) s3.heap.objs.size X.env.frame) { s3 with heap := pushCells (s3.heap.push { cls := .type "dict", data := .dict #[] }) sc.names } := by
    intro ce hce
    rw [hcl, hce] at I4
    have pt := ht s3 (upd H2 D (.lst [])) s3.heap.objs.size cl fp
    have pe := he s3 (upd H2 D (.lst [])) s3.heap.objs.size cl fp
    rw [hce] at pt pe
    have cL : ce.locals = s3.heap.objs.size := by rw [← hce]; rfl
    have cF : ce.frame = X.env.frame := by rw [← hce]; rfl
    have nfp : ∀ b ∈ fp, (upd H2 D (.lst [])) b = none := fun b hb => (f3 b hb).1.1
    obtain ⟨H3, hH3⟩ : ∃ H3, upd H2 D (.lst []) = H3 := ⟨_, rfl⟩
    rw [hH3] at I3 I4 pt pe w0 nfp f3
    have hb : HotB (X.blk s3 H3 sc ce fp) := hot_blk hot I3 fun b hb p hp => (f3 b hb).1.2.2.2.2.2 p (List.mem_append_left _ hp)
    have pg : PG (X.blk s3 H3 sc ce fp) tg g := by
      have z := hg s3 H3 s3.heap.objs.size cl fp
      rw [hce] at z
      exact z hb
    obtain ⟨s4, hs4⟩ : ∃ s4 : Shared, ({ s3 with heap := pushCells (s3.heap.push { cls := .type "dict", data := .dict #[] }) sc.names } : Shared) = s4 := ⟨_, rfl⟩
    rw [hs4] at I4 ⊢
    have st4 : tn 0 s4.heap := T.keep _ _ _ st3 fun b _ o e => (by rw [← hs4]; exact pushCells_keeps _ _ _ _ (Heap.get?_push_of_some _ e))
    -- what a state of the block is, seen from the def
    have outer : ∀ {p : List (Addr × Obj)} {σ' : L2.St} {H' : Hp} {s' : Shared}, Inv (X.blk s3 H3 sc ce fp) p σ' H' s' → Inv X pins σ H' s' ∧ (∃ m, s'.heap.Ns s3.heap.objs.size m) ∧ FpOk X pins H' s3.heap.objs.size := by
      intro p σ' H' s' I6
      have nC : H' s3.heap.objs.size = none := by rw [← cL]; exact I6.free
      obtain ⟨m, hn, _⟩ := I6.loc
      refine ⟨I3.call' (ch := fp) I6.os I6.base I6.hok I6.bare fun b hb => ?_, ⟨m, by rw [← cL]; exact hn⟩, I3.fpOk (Nat.le_refl _) nC⟩
      obtain ⟨z1, z2, z3, z4, z5, z6⟩ := (f3 b hb).1
      exact ⟨z4, z2, z5, z6⟩
    have stat : ∀ {σ' : L2.St} {H' : Hp} {s' : Shared}, Inv (X.blk s3 H3 sc ce fp) [] σ' H' s' → (∀ b ∈ fp, H' b = none) → ∀ b ∈ fp, FpOk (X.blk s3 H3 sc ce fp) [] H' b := fun I' hn b hb =>
      ⟨hn b hb, (I'.ok.exf b hb).1, I'.ok.exfs b hb, .inl hb, fun x c e => (I'.ok.exf b hb).2 x c e, fun p hp => nomatch (show p ∈ ([] : List (Addr × Obj)) from hp)⟩
    have loop : codeAny (model X.prog X.w) X.A (.compLoop (.ListComp elt [⟨tg, iter, ifs, 0⟩] sc pos) 0 (.ref it) (.ref D) ce) (PostF (model X.prog X.w) X.A X.xe (EP X pins σ Q) (.ref D) s3.heap.objs.size X.env.frame) s4 := by
      refine compLoop_any (fun n t => ∃ i H', Inv (X.blk s3 H3 sc ce fp) [] (wipe σ (own.map (·.2))) H' t ∧ tn i t.heap ∧ (∀ b ∈ fp, H' b = none) ∧ W i n H') ?_ m0 ⟨0, H3, I4, st4, nfp, w0⟩
      rintro n s5 ⟨i, H5, I5, st5, n5, w5⟩
      rcases turn i n H5 w5 with ⟨stop, fine⟩ | ⟨goes, Nx, hNx, step⟩
      · refine thnF (T.done (X.blk s3 H3 sc ce fp) rfl rfl rfl hb i [] s5 _ H5 (fun _ _ => False) I5 (stat I5 n5) (fun _ h => h) st5 stop) ?_
        rintro r s6 ⟨rfl, I6⟩
        obtain ⟨I7, ⟨m, hn⟩, f0, f1, f2', f3', f4, f5⟩ := outer I6
        exact ⟨m, hn, fun h' sb => ⟨.ref D, H5, I7.turned (t' := s6.toks) (fun b o hb e => (sb.2 b hb).trans e) f0 f1 f3' f4 f5, rfl, fine⟩⟩
      · refine thnF (T.item (X.blk s3 H3 sc ce fp) rfl rfl rfl hb i [] s5 _ H5 (fun _ _ => False) I5 (stat I5 n5) (fun _ h => h) st5 goes) ?_
        rintro r s6 ⟨u, rfl, h6⟩
        refine thnF h6 fun _ s7 ⟨x, H7, I7, r7, y7, st7, n7⟩ => ?_
        refine thnF (pg.run _ s7 _ H7 x u _ (I7.pinned (stat I7 n7) (T.obj _ _ st7)) r7 (step x H7 y7)) fun _ s8 ⟨σ8, H8, I8, hw8, q8⟩ => ?_
        refine thnF (pt.run _ s8 σ8 H8 _ I8 q8) fun b s9 ⟨H9, I9, q9⟩ => ?_
        have fin : ∀ {t : Shared} {H' : Hp}, Inv (X.blk s3 H3 sc ce fp) ([] ++ pinsAt fp s7.heap) σ8 H' t → Nx H' → ∃ m, m < n ∧ ∃ i H', Inv (X.blk s3 H3 sc ce fp) [] (wipe σ (own.map (·.2))) H' t ∧ tn i t.heap ∧ (∀ b ∈ fp, H' b = none) ∧ W i m H' := by
          intro t H' I' nx
          obtain ⟨m', lt, w'⟩ := hNx H' nx
          have pinned : ∀ b ∈ fp, ∀ o, s7.heap.get? b = some o → t.heap.get? b = some o ∧ H' b = none := fun b hb o e => by
            have z := I'.pin (b, o) (List.mem_append_right _ (List.mem_append_right _ (mem_pinsAt hb e)))
            exact ⟨z.1, z.2.1⟩
          refine ⟨m', lt, i + 1, H', (I'.unpinned (pins := [])).weak (by rw [← hw8, wipe_length]) (fun j v e => ?_), T.keep _ _ _ st7 fun b hb o e => (pinned b hb o e).1, fun b hb => ?_, w'⟩
          · rw [← hw8] at e
            exact (wipe_some e).1
          · obtain ⟨o, e, _⟩ := T.obj _ _ st7 b hb
            exact (pinned b hb o e).2
        cases b with
        | false => exact fin I9 q9
        | true =>
          refine thnF (pe.run _ s9 σ8 H9 _ I9 q9) fun z s10 ⟨yv, H10, I11, r10, acc, hD10, hz10, nx⟩ => ?_
          exact app_ok (X := X.blk s3 H3 sc ce fp) I11 hD10 hz10 r10 fun s11 I12 => fin I12 nx
    exact codeAny_compStart_list loop (T.self X.A 0 _ _ _ st4 loop)
  subst hs3
  rw [hcl.symm] at go
  exact go _ rfl
end
/-! ### defs that raise with nothing in hand -/
theorem passLN {X : Cx} : Passes (L2N.CX X.prog X.w) X E0 := fun _ _ _ _ _ _ _ h => by
  obtain ⟨_, _, _, _, _, _, _, _, _, _, _, _, z⟩ := h
  exact z.elim
theorem cx_weak {P : Program} {w : World} {outer : List Env} {H : Hp} {s : Shared} {E : XK} {u : Value} {s' : Shared} (c : L2N.CX P w outer H s E u s') : L2.CX P w outer H s E u s' := by
  obtain ⟨a, B, H', cls, d, e, fl, r⟩ := c
  exact ⟨a, B, H', cls, d, e, flyingZ_imp (fun o z => z.zc) fl, r⟩
theorem passes_callM {X : Cx} {W : WX} {E : XK} (tk : L2.Takes X W) (hW : ∀ cls d σ H, E cls d H → W cls d σ H) : Passes (L2N.CX X.prog X.w) X E := fun pins σ H s e s' I c => L2.passes_call tk hW pins σ H s e s' I (cx_weak c)
theorem okXN {P : Program} {w : World} {K : PySem.W.Frag} {mg : Str → Option Value} {base : Heap} {x qual : Str} {st : Stmt} {f : Addr} {fd : FuncData} {N ps : List Str} {k : Nat} {sp : Sp} (F : Fun K x qual st f fd) (S : FnScope N ps (defScope st)) (len : ∀ vs H Q E, sp vs H Q E → vs.length = ps.length)
    (hbody : ∀ (cdv : Value) (A : Around) (outer : List Env) (s : Shared) (H : Hp) (vs : List V) (Q : VK) (E : XK), Room k (A.deeper (envOfC qual (defScope st) s.heap.objs.size f cdv)) → sp vs H Q E →
      ∃ t, PSs (cxOf (L2N.CX P w) P w K mg base N qual (defScope st) f cdv A outer s H E) (defBody st) t ∧ t { nx := fun _ H' => Q .non H', rt := Q } (start N vs) H) : FnOk P w K mg base (L2N.CX P w) (k + 1) f fd ps sp := by
  obtain ⟨oc, od, kV, doc, pm, an, cdv, ct, osl, rfl, lk, hcd⟩ := F.ex
  exact fn_of lk hcd S len fun A outer s H vs Q E hr hsp => hbody cdv A outer s H vs Q E hr hsp
theorem takes0N {X : Cx} : L2N.Takes X (fun _ _ _ _ => False) := fun _ _ x => by
  obtain ⟨_, _, _, _, _, _, _, _, _, _, _, _, _, _, _, _, z⟩ := x
  exact z.elim
theorem hotC_of {X : Cx} {a : Addr} {oe : Obj} {cls : Value} {d : Option Addr} {pn : List (Addr × Obj)} (hz : L2N.Zn cls d oe) (hf : ∃ vs, oe.data = .fields vs) : HotC (X.suite a ((a, oe) :: pn)) := by
  obtain ⟨vs, hd⟩ := hf
  exact ⟨(a, oe), ⟨rfl, vs, hd, hz.2.2 vs hd⟩, List.mem_cons_self⟩
theorem with_hot {Y : Cx} {b : List Stmt} {t : TS} (f : HotC Y → PSs Y b t) (h : HotC Y) : PSs Y b t := f h
end BP

namespace BP
open PySem L2
/-! ### the text by places -/
def top (i : Nat) : Stmt := PySem.Challenge.pw_boxpile_k06_refused_and_unchanged.main.body.getD i (.Pass ⟨0, 0, 0, 0⟩)
abbrev sBoxInit : Stmt := inClass (top 12) 0
abbrev sInit : Stmt := inClass (top 13) 0
abbrev sMake : Stmt := inClass (top 13) 1
abbrev sHold : Stmt := inClass (top 13) 2
abbrev sDrop : Stmt := inClass (top 13) 3
abbrev sPut : Stmt := inClass (top 13) 4
abbrev sEmpty : Stmt := inClass (top 13) 5
abbrev sTake : Stmt := inClass (top 13) 6
abbrev sSlotsWith : Stmt := inClass (top 13) 14
abbrev sHolds : Stmt := inClass (top 13) 7
abbrev sPoints : Stmt := inClass (top 13) 8
abbrev sWeighs : Stmt := inClass (top 13) 9
abbrev sAlive : Stmt := inClass (top 13) 10
abbrev sSuspects : Stmt := inClass (top 13) 11
abbrev sBox : Stmt := inClass (top 13) 13
abbrev sPoint : Stmt := inClass (top 13) 15
abbrev sLetGo : Stmt := inClass (top 13) 16
abbrev sCheck : Stmt := top 14
abbrev sCheckSlot : Stmt := top (14 + 1)
abbrev sClear : Stmt := inClass (top 13) 12

/-- an error class of the text -/
structure Err (K : PySem.W.Frag) (mg : Str → Option Value) (x : Str) (E : Addr) : Prop where
  g : mg x = some (.ref E)
  x : PySem.W.excIn K E [.type "ValueError", .type "Exception", .type "BaseException", .type "object"] "ValueError.__new__" = true
  k : PySem.W.keepIn K (.ref E) = true
  b : PySem.W.subIn K (.ref E) (.type "BaseException") = some true
  t : PySem.W.typeIn K (.ref E) = some (.type "type")
/-- what the top has made -/
structure Txt (K : PySem.W.Frag) (mg : Str → Option Value) (C B eH eS eF eB eL : Addr) : Prop where
  clC : Cls K C
  nH : NoAttr K C "_hands"
  nB : NoAttr K C "_boxes"
  nM : NoAttr K C "_made"
  clB : Cls K B
  nS : NoAttr K B "slots"
  nW : NoAttr K B "weight"
  nU : NoAttr K B "suspect"
  mgC : mg "Pile" = some (.ref C)
  mgB : mg "Box" = some (.ref B)
  len : mg "len" = none
  list : mg "list" = none
  sorted : mg "sorted" = none
  hands : ∃ t, mg "HANDS" = some (.int 8 t)
  most : ∃ t, mg "MOST_SLOTS" = some (.int 6 t)
  alive : ∃ t, mg "MOST_ALIVE" = some (.int 60 t)
  eH : Err K mg "NoHand" eH
  eS : Err K mg "NoSize" eS
  eF : Err K mg "Full" eF
  eB : Err K mg "NoBox" eB
  eL : Err K mg "NoSlot" eL

/-! ### promises -/
def spCheck (eH : Addr) : Sp := fun vs H Q E => ∃ h : Int, vs = [.int h] ∧ ((0 ≤ h ∧ h < 8) → Q .non H) ∧ (¬ (0 ≤ h ∧ h < 8) → E (.ref eH) none H)
def spBoxInit (B : Addr) : Sp := fun vs H Q _ => ∃ (x dx : Addr) (n : Nat), vs = [.ref x, .int n] ∧ n ≤ 6 ∧ H x = some (.ins B dx []) ∧
  ∀ l sl, H l = none → upd H l (.lst [.non]) sl = none → Q .non (upd (upd (upd H l (.lst [.non])) sl (.lst (lV (List.replicate n none)))) x (.ins B dx (bf sl 0 false)))
def spInit (C B : Addr) : Sp := fun vs H Q _ => ∃ (R : Hp) (p dx : Addr), vs = [.ref p] ∧ Same R H ∧ R p = none ∧ H p = some (.ins C dx []) ∧ ∀ (g : Geo) (H' : Hp), PileAt C B p g pl0 R H' → Q .non H'
def spLetGo (C B : Addr) : Sp := fun vs H Q _ => ∃ (p : Addr) (g : Geo) (P : Pl) (R : Hp) (x : Option Int), vs = [.ref p, oV x] ∧ PileAt C B p g P R H ∧ Wf P [x] ∧
  ∀ (l : Addr) (H' : Hp), R l = none → PileAt C B p g { P with boxes := (run P.boxes [x]).1 } (upd R l (.lst ((run P.boxes [x]).2.map V.int))) H' → Q (.ref l) H'
/-- a pointer at a place of a list (the hands', or the slots of a box): S is the pile with the new one there -/
def spPoint (C B : Addr) : Sp := fun vs H Q _ => ∃ (p a : Addr) (g : Geo) (P S : Pl) (R : Hp) (x : Option Int) (l : List (Option Int)) (i : Nat), vs = [.ref p, .ref a, .int i, oV x] ∧ PileAt C B p g P R H ∧ (∀ n, x = some n → ∃ b, get P.boxes n = some b) ∧ i < l.length ∧
  (∀ H1, PileAt C B p g { P with boxes := bumped P.boxes x } R H1 → H1 a = some (.lst (lV l)) ∧ PileAt C B p g S R (upd H1 a (.lst (lV (l.set i x))))) ∧ Wf S [l.getD i none] ∧
  ∀ (r : Addr) (H' : Hp), R r = none → PileAt C B p g { S with boxes := (run S.boxes [l.getD i none]).1 } (upd R r (.lst ((run S.boxes [l.getD i none]).2.map V.int))) H' → Q (.ref r) H'
def spMake (C B eH eS eF : Addr) : Sp := fun vs H Q E => ∃ (p : Addr) (P : Pl) (R : Hp) (h s : Int), vs = [.ref p, .int h, .int s] ∧ PileIn C B p P R H ∧
  (¬ (0 ≤ h ∧ h < 8) → E (.ref eH) none H) ∧ ((0 ≤ h ∧ h < 8) → ¬ (0 ≤ s ∧ s ≤ 6) → E (.ref eS) none H) ∧ ((0 ≤ h ∧ h < 8) → (0 ≤ s ∧ s ≤ 6) → 60 ≤ P.boxes.length → E (.ref eF) none H) ∧
  ((0 ≤ h ∧ h < 8) → (0 ≤ s ∧ s ≤ 6) → P.boxes.length < 60 → ∀ (r : Addr) (H' : Hp), R r = none → PileIn C B p (mk P h.toNat s.toNat).1 (upd R r (.lst ((mk P h.toNat s.toNat).2.map V.int))) H' → Q (.ref r) H')
def spHold (C B eH : Addr) : Sp := fun vs H Q E => ∃ (p : Addr) (P : Pl) (R : Hp) (h o : Int), vs = [.ref p, .int h, .int o] ∧ PileIn C B p P R H ∧
  (¬ (0 ≤ h ∧ h < 8) → E (.ref eH) none H) ∧ ((0 ≤ h ∧ h < 8) → ¬ (0 ≤ o ∧ o < 8) → E (.ref eH) none H) ∧
  ((0 ≤ h ∧ h < 8) → (0 ≤ o ∧ o < 8) → ∀ (r : Addr) (H' : Hp), R r = none → PileIn C B p (ptHand P h.toNat (P.hands.getD o.toNat none)).1 (upd R r (.lst ((ptHand P h.toNat (P.hands.getD o.toNat none)).2.map V.int))) H' → Q (.ref r) H')
def spDrop (C B eH : Addr) : Sp := fun vs H Q E => ∃ (p : Addr) (P : Pl) (R : Hp) (h : Int), vs = [.ref p, .int h] ∧ PileIn C B p P R H ∧
  (¬ (0 ≤ h ∧ h < 8) → E (.ref eH) none H) ∧
  ((0 ≤ h ∧ h < 8) → ∀ (r : Addr) (H' : Hp), R r = none → PileIn C B p (ptHand P h.toNat none).1 (upd R r (.lst ((ptHand P h.toNat none).2.map V.int))) H' → Q (.ref r) H')
def spSlotsWith (C B eB eL : Addr) : Sp := fun vs H Q E => ∃ (p : Addr) (g : Geo) (P : Pl) (R : Hp) (h s : Int), vs = [.ref p, .int h, .int s] ∧ PileAt C B p g P R H ∧ Wf P [] ∧ (0 ≤ h ∧ h < 8) ∧
  (P.hands.getD h.toNat none = none → E (.ref eB) none H) ∧
  (∀ n b, P.hands.getD h.toNat none = some n → get P.boxes n = some b → ¬ (0 ≤ s ∧ s < (b.slots.length : Int)) → E (.ref eL) none H) ∧
  (∀ n b, P.hands.getD h.toNat none = some n → get P.boxes n = some b → (0 ≤ s ∧ s < (b.slots.length : Int)) → Q (.ref (g.sa n)) H)
def spPut (C B eH eB eL : Addr) : Sp := fun vs H Q E => ∃ (p : Addr) (P : Pl) (R : Hp) (h s o : Int), vs = [.ref p, .int h, .int s, .int o] ∧ PileIn C B p P R H ∧
  (¬ (0 ≤ h ∧ h < 8) → E (.ref eH) none H) ∧ ((0 ≤ h ∧ h < 8) → ¬ (0 ≤ o ∧ o < 8) → E (.ref eH) none H) ∧
  ((0 ≤ h ∧ h < 8) → (0 ≤ o ∧ o < 8) → P.hands.getD h.toNat none = none → E (.ref eB) none H) ∧
  ((0 ≤ h ∧ h < 8) → (0 ≤ o ∧ o < 8) → ∀ n b, P.hands.getD h.toNat none = some n → get P.boxes n = some b → ¬ (0 ≤ s ∧ s < (b.slots.length : Int)) → E (.ref eL) none H) ∧
  ((0 ≤ h ∧ h < 8) → (0 ≤ o ∧ o < 8) → ∀ n b, P.hands.getD h.toNat none = some n → get P.boxes n = some b → (0 ≤ s ∧ s < (b.slots.length : Int)) →
    ∀ (r : Addr) (H' : Hp), R r = none → PileIn C B p (ptSlot P n s.toNat (P.hands.getD o.toNat none)).1 (upd R r (.lst ((ptSlot P n s.toNat (P.hands.getD o.toNat none)).2.map V.int))) H' → Q (.ref r) H')
def spEmpty (C B eH eB eL : Addr) : Sp := fun vs H Q E => ∃ (p : Addr) (P : Pl) (R : Hp) (h s : Int), vs = [.ref p, .int h, .int s] ∧ PileIn C B p P R H ∧
  (¬ (0 ≤ h ∧ h < 8) → E (.ref eH) none H) ∧ ((0 ≤ h ∧ h < 8) → P.hands.getD h.toNat none = none → E (.ref eB) none H) ∧
  ((0 ≤ h ∧ h < 8) → ∀ n b, P.hands.getD h.toNat none = some n → get P.boxes n = some b → ¬ (0 ≤ s ∧ s < (b.slots.length : Int)) → E (.ref eL) none H) ∧
  ((0 ≤ h ∧ h < 8) → ∀ n b, P.hands.getD h.toNat none = some n → get P.boxes n = some b → (0 ≤ s ∧ s < (b.slots.length : Int)) →
    ∀ (r : Addr) (H' : Hp), R r = none → PileIn C B p (ptSlot P n s.toNat none).1 (upd R r (.lst ((ptSlot P n s.toNat none).2.map V.int))) H' → Q (.ref r) H')
def spTake (C B eH eB eL : Addr) : Sp := fun vs H Q E => ∃ (p : Addr) (P : Pl) (R : Hp) (h o s : Int), vs = [.ref p, .int h, .int o, .int s] ∧ PileIn C B p P R H ∧
  (¬ (0 ≤ h ∧ h < 8) → E (.ref eH) none H) ∧ ((0 ≤ h ∧ h < 8) → ¬ (0 ≤ o ∧ o < 8) → E (.ref eH) none H) ∧
  ((0 ≤ h ∧ h < 8) → (0 ≤ o ∧ o < 8) → P.hands.getD o.toNat none = none → E (.ref eB) none H) ∧
  ((0 ≤ h ∧ h < 8) → (0 ≤ o ∧ o < 8) → ∀ n b, P.hands.getD o.toNat none = some n → get P.boxes n = some b → ¬ (0 ≤ s ∧ s < (b.slots.length : Int)) → E (.ref eL) none H) ∧
  ((0 ≤ h ∧ h < 8) → (0 ≤ o ∧ o < 8) → ∀ n b, P.hands.getD o.toNat none = some n → get P.boxes n = some b → (0 ≤ s ∧ s < (b.slots.length : Int)) →
    ∀ (r : Addr) (H' : Hp), R r = none → PileIn C B p (ptHand P h.toNat (b.slots.getD s.toNat none)).1 (upd R r (.lst ((ptHand P h.toNat (b.slots.getD s.toNat none)).2.map V.int))) H' → Q (.ref r) H')
def spHolds (C B eH : Addr) : Sp := fun vs H Q E => ∃ (p : Addr) (g : Geo) (P : Pl) (R : Hp) (h : Int), vs = [.ref p, .int h] ∧ PileAt C B p g P R H ∧ P.hands.length = 8 ∧
  (¬ (0 ≤ h ∧ h < 8) → E (.ref eH) none H) ∧ ((0 ≤ h ∧ h < 8) → Q (oV (P.hands.getD h.toNat none)) H)
def spBox (C B eB : Addr) : Sp := fun vs H Q E => ∃ (p : Addr) (g : Geo) (P : Pl) (R : Hp) (n : Int), vs = [.ref p, .int n] ∧ PileAt C B p g P R H ∧
  (get P.boxes n = none → E (.ref eB) none H) ∧ (∀ b, get P.boxes n = some b → Q (.ref (g.ba n)) H)
def spPoints (C B eB : Addr) : Sp := fun vs H Q E => ∃ (p : Addr) (g : Geo) (P : Pl) (R : Hp) (n : Int), vs = [.ref p, .int n] ∧ PileAt C B p g P R H ∧ (∀ b, get P.boxes n = some b → b.slots.length ≤ 6) ∧
  (get P.boxes n = none → E (.ref eB) none H) ∧ (∀ b, get P.boxes n = some b → ∀ r, H r = none → Q (.ref r) (upd H r (.lst (lV b.slots))))
def spWeighs (C B eB : Addr) : Sp := fun vs H Q E => ∃ (p : Addr) (g : Geo) (P : Pl) (R : Hp) (n : Int), vs = [.ref p, .int n] ∧ PileAt C B p g P R H ∧
  (get P.boxes n = none → E (.ref eB) none H) ∧ (∀ b, get P.boxes n = some b → Q (.int b.wt) H)
def spAlive (C B : Addr) : Sp := fun vs H Q _ => ∃ (p : Addr) (g : Geo) (P : Pl) (R : Hp), vs = [.ref p] ∧ PileAt C B p g P R H ∧ Wf P [] ∧ ∀ r, H r = none → Q (.ref r) (upd H r (.lst ((keys P.boxes).map V.int)))
def spSuspects (C B : Addr) : Sp := fun vs H Q _ => ∃ (p : Addr) (g : Geo) (P : Pl) (R : Hp), vs = [.ref p] ∧ PileAt C B p g P R H ∧ Wf P [] ∧ ∀ r H', R r = none → PileAt C B p g P (upd R r (.lst ((susp P).map V.int))) H' → Q (.ref r) H'

section
variable {P : Program} {w : World} {K : PySem.W.Frag} {mg : Str → Option Value} {base : Heap} {C B eH eS eF eB eL : Addr}
/-- a statement read in two steps: what holds behind it, then what is wanted of that -/
def tMid (t : TS) : TS := fun D σ H => ∃ M : St → Hp → Prop, t { D with nx := M } σ H ∧ ∀ σ' H', M σ' H' → D.nx σ' H'
theorem ps_mid {X : Cx} {st : Stmt} {t : TS} (h : PS X st t) : PS X st (tMid t) := by
  refine ⟨fun pins s σ H D I q => ?_⟩
  obtain ⟨M, q1, q2⟩ := q
  refine wpAny_mono (h.run pins s σ H { D with nx := M } I q1) (fun f s1 z => ?_) fun _ _ z => z
  cases f with
  | next =>
    obtain ⟨σ', H', I', m⟩ := z
    exact ⟨σ', H', I', q2 σ' H' m⟩
  | ret v => exact z
  | brk => exact z
  | cont => exact z
/-- a test read in two steps -/
def tMidT (t : TT) : TT := fun σ H Q => ∃ M : Bool → Hp → Prop, t σ H M ∧ ∀ b H', M b H' → Q b H'
theorem pt_mid {X : Cx} {e : Expr} {t : TT} (h : PT X e t) : PT X e (tMidT t) := by
  refine ⟨fun pins s σ H Q I q => ?_⟩
  obtain ⟨M, q1, q2⟩ := q
  refine wpAny_mono (h.run pins s σ H M I q1) (fun b s1 z => ?_) fun _ _ z => z
  obtain ⟨H', I', m⟩ := z
  exact ⟨H', I', q2 b H' m⟩
theorem if_pos_of {c : Bool} {A B : Prop} (hc : c = true) (h : A) : if c = true then A else B := by
  rw [if_pos hc]
  exact h
theorem if_neg_of {c : Bool} {A B : Prop} (hc : c = false) (h : B) : if c = true then A else B := by
  rw [hc, if_neg Bool.false_ne_true]
  exact h
theorem err_raises {X : Cx} {x : Str} {E : Addr} (e : Err X.K X.mg x E) : Raises X (.ref E) := raises_own e.b e.t
/-! ### check_hand -/
theorem scCheck : FnScope ["hand"] ["hand"] (defScope sCheck) := ⟨rfl, rfl, rfl, by decide +kernel, rfl, by decide +kernel, by decide +kernel⟩
theorem ok_check {f : Addr} {fd : FuncData} (F : Fun K "check_hand" "check_hand" sCheck f fd) (T : Txt K mg C B eH eS eF eB eL) : FnOk P w K mg base (L2N.CX P w) 1 f fd ["hand"] (spCheck eH) := by
  refine okXN F scCheck (fun vs H Q E h => ?_) (fun cdv A outer s H vs Q E hr h => ?_)
  · obtain ⟨h, rfl, _⟩ := h
    rfl
  · obtain ⟨h, rfl, k1, k2⟩ := h
    obtain ⟨t, hT⟩ := T.hands
    refine ⟨_, pss_one (ps_if (pt_not (pt_chain op_le op_lt pe_int (pv 0) (pe_glob (v := .int 8) rfl hT ⟨_, rfl⟩))) (pss_one (L2N.ps_raise rfl (L2N.takes_of rfl rfl rfl rfl) (L2N.pmk_own PySem.F.excBase_ValueError T.eH.x T.eH.g T.eH.k (raises_own T.eH.b T.eH.t) rfl))) pss_nil), ?_⟩
    refine ⟨_, rfl, _, _, rfl, rfl, _, rfl, ?_⟩
    by_cases h0 : 0 ≤ h
    · rw [decide_eq_true h0]
      refine iteT ⟨_, _, rfl, rfl, _, rfl, ?_⟩
      by_cases h8 : h < 8
      · rw [decide_eq_true h8]
        exact iteF (k1 ⟨h0, h8⟩)
      · rw [decide_eq_false h8]
        exact iteT (k2 fun z => h8 z.2)
    · rw [decide_eq_false h0]
      refine iteF ⟨_, rfl, ?_⟩
      exact iteT (k2 fun z => h0 z.1)
/-! ### Box.__init__ -/
theorem scBoxInit : FnScope ["self", "size"] ["self", "size"] (defScope sBoxInit) := ⟨rfl, rfl, rfl, by decide +kernel, rfl, by decide +kernel, by decide +kernel⟩
theorem rep_none (n : Nat) : (List.replicate n [V.non]).flatten = lV (List.replicate n none) := by
  unfold lV
  rw [List.map_replicate]
  induction n with
  | zero => rfl
  | succ n ih => rw [List.replicate_succ, List.flatten_cons, ih]; rfl
theorem ok_boxinit {f : Addr} {fd : FuncData} (F : Fun K "__init__" "Box.__init__" sBoxInit f fd) (T : Txt K mg C B eH eS eF eB eL) : FnOk P w K mg base CX0 1 f fd ["self", "size"] (spBoxInit B) := by
  refine F.ok scBoxInit (fun vs H Q E h => ?_) (fun cdv A outer s H vs Q E hr h => ?_)
  · obtain ⟨x, dx, n, rfl, _⟩ := h
    rfl
  · obtain ⟨x, dx, n, rfl, hn, hx, k⟩ := h
    refine ⟨_, pss_cons (ps_fld (pv 0) (pe_op op_rep (pe_lst (pa_cons pe_non pa_nil)) (pv 1)) rfl) (pss_cons (ps_fld (pv 0) pe_int rfl) (pss_one (ps_fld (pv 0) pe_bl rfl))), ?_⟩
    refine ⟨(by show 1 ≤ sizeLine; decide), fun l hl => ?_⟩
    have nx : x ≠ l := ne_of_none hx hl
    refine ⟨_, rfl, l, n, [.non], rfl, rfl, upd_same, by omega, by omega, (by show 1 * n ≤ sizeLine; rw [sizeLine_eq]; omega), fun sl hsl => ?_⟩
    have nx2 : x ≠ sl := ne_of_none (by rw [upd_ne nx]; exact hx) hsl
    refine ⟨_, rfl, x, B, dx, [], rfl, (by rw [upd_ne nx2, upd_ne nx]; exact hx), T.clB, T.nS, (by show 0 < 1000; decide), ?_⟩
    refine ⟨_, rfl, x, B, dx, _, rfl, upd_same, T.clB, T.nW, (by show 1 < 1000; decide), ?_⟩
    refine ⟨_, rfl, x, B, dx, _, rfl, upd_same, T.clB, T.nU, (by show (putF "weight" (.int 0) (putF "slots" (.ref sl) [])).length < 1000; show (if ("slots" : Str) = "weight" then [(("slots" : Str), V.int 0)] else (("slots" : Str), V.ref sl) :: [(("weight" : Str), V.int 0)]).length < 1000; rw [if_neg s_sw]; show 2 < 1000; decide), ?_⟩
    have k' := k l sl hl hsl
    rw [← rep_none] at k'
    rw [upd_upd, upd_upd]
    exact k'
/-! ### Pile.__init__ -/
theorem scInit : FnScope ["self"] ["self"] (defScope sInit) := ⟨rfl, rfl, rfl, by decide +kernel, rfl, by decide +kernel, by decide +kernel⟩
theorem ok_init {f : Addr} {fd : FuncData} (F : Fun K "__init__" "Pile.__init__" sInit f fd) (T : Txt K mg C B eH eS eF eB eL) : FnOk P w K mg base CX0 1 f fd ["self"] (spInit C B) := by
  refine F.ok scInit (fun vs H Q E h => ?_) (fun cdv A outer s H vs Q E hr h => ?_)
  · obtain ⟨R, p, dx, rfl, _⟩ := h
    rfl
  · obtain ⟨R, p, dx, rfl, hs, rp, hp, k⟩ := h
    obtain ⟨t, hT⟩ := T.hands
    refine ⟨_, pss_cons (ps_fld (pv 0) (pe_op op_rep (pe_lst (pa_cons pe_non pa_nil)) (pe_glob (v := .int 8) rfl hT ⟨_, rfl⟩)) rfl) (pss_cons (ps_fld (pv 0) pe_dnewK rfl) (pss_one (ps_fld (pv 0) pe_int rfl))), ?_⟩
    refine ⟨(by show 1 ≤ sizeLine; decide), fun l hl => ?_⟩
    have npl : p ≠ l := ne_of_none hp hl
    refine ⟨l, 8, [.non], rfl, rfl, upd_same, by omega, by omega, (by show 8 ≤ sizeLine; rw [sizeLine_eq]; omega), fun lh hlh => ?_⟩
    have npm : p ≠ lh := ne_of_none (by rw [upd_ne npl]; exact hp) hlh
    refine ⟨_, rfl, p, C, dx, [], rfl, (by rw [upd_ne npm, upd_ne npl]; exact hp), T.clC, T.nH, (by show 0 < 1000; decide), fun db hdb => ?_⟩
    have npd : p ≠ db := ne_of_none upd_same hdb
    have nhd : lh ≠ db := ne_of_none (by rw [upd_ne npm.symm, upd_same]) hdb
    refine ⟨_, rfl, p, C, dx, _, rfl, (by rw [upd_ne npd, upd_same]), T.clC, T.nB, (by show 1 < 1000; decide), ?_⟩
    refine ⟨_, rfl, p, C, dx, _, rfl, upd_same, T.clC, T.nM, (by show (putF "_boxes" (.ref db) (putF "_hands" (.ref lh) [])).length < 1000; show (if ("_hands" : Str) = "_boxes" then [(("_hands" : Str), V.ref db)] else (("_hands" : Str), V.ref lh) :: [(("_boxes" : Str), V.ref db)]).length < 1000; rw [if_neg s_hb]; show 2 < 1000; decide), ?_⟩
    rw [upd_upd]
    have fl : H l = none := hl
    have flh : H lh = none := by
      by_cases q : lh = l
      · rw [q]; exact hl
      · rw [upd_ne q] at hlh; exact hlh
    have fdb : H db = none := by
      have n1 : db ≠ p := npd.symm
      have n2 : db ≠ lh := nhd.symm
      rw [upd_ne n1, upd_ne n2] at hdb
      by_cases q : db = l
      · rw [q]; exact hl
      · rw [upd_ne q] at hdb; exact hdb
    have e8 : (List.replicate (Int.toNat 8) [V.non]).flatten = lV pl0.hands := rep_none 8
    refine k ⟨dx, lh, db, fun _ => 0, fun _ => 0, fun _ => 0⟩ _ ⟨fun b o e => ?_, rp, hs.free flh, hs.free fdb, fun n b e => ?_, fun n b e => ?_, upd_same, ?_, ?_, fun n b e => ?_, fun n b e => ?_, fun n m b c e => ?_, fun n m b c e => ?_, fun n b e => ?_⟩
    · have e' := hs b o e
      rw [upd_ne (fun q => by rw [q, rp] at e; cases e), upd_ne (ne_of_none e' fdb), upd_ne (fun q => by rw [q, rp] at e; cases e), upd_ne (ne_of_none e' flh), upd_ne (ne_of_none e' fl)]
      exact e'
    · cases e
    · cases e
    · show upd _ p _ lh = _
      rw [upd_ne npm.symm, upd_ne nhd, upd_ne npm.symm, upd_same, e8]
    · show upd _ p _ db = _
      rw [upd_ne npd.symm, upd_same]
      rfl
    · cases e
    · cases e
    · cases e
    · cases e
    · cases e
/-! ### _let_go -/
theorem scLetGo : FnScope ["self", "pointer", "waiting", "freed", "number", "box"] ["self", "pointer"] (defScope sLetGo) := ⟨rfl, rfl, rfl, by decide +kernel, rfl, by decide +kernel, by decide +kernel⟩
/-- two lists of the def's own beside what is known -/
def twoL (R : Hp) (a b : Addr) (xs ys : List V) : Hp := upd (upd R a (.lst xs)) b (.lst ys)
theorem upd_comm {H : Hp} {a b : Addr} {o u : HO} (h : a ≠ b) : upd (upd H a o) b u = upd (upd H b u) a o := by
  funext c
  by_cases q : c = a
  · rw [q, upd_ne h, upd_same, upd_same]
  · by_cases q2 : c = b
    · rw [q2, upd_same, upd_ne h.symm, upd_same]
    · rw [upd_ne q2, upd_ne q, upd_ne q, upd_ne q2]
theorem twoL_a {R : Hp} {a b : Addr} {xs ys zs : List V} (h : a ≠ b) : upd (twoL R a b xs ys) a (.lst zs) = twoL R a b zs ys := by
  unfold twoL
  rw [upd_comm h, upd_upd, ← upd_comm h]
theorem twoL_b {R : Hp} {a b : Addr} {xs ys zs : List V} : upd (twoL R a b xs ys) b (.lst zs) = twoL R a b xs zs := upd_upd
theorem chg_chg (n : Int) (f g : Bx → Bx) : ∀ bs, chg (chg bs n f) n g = chg bs n fun b => g (f b)
  | [] => rfl
  | e :: bs => by
    have e1 : ∀ (e : Int × Bx) (bs : List (Int × Bx)) (f : Bx → Bx), chg (e :: bs) n f = (if e.1 = n then (e.1, f e.2) else e) :: chg bs n f := fun _ _ _ => rfl
    rw [e1, e1, e1, chg_chg n f g bs]
    by_cases h : e.1 = n
    · simp [h]
    · simp [h]
theorem rm_chg (n : Int) (f : Bx → Bx) : ∀ bs, rm (chg bs n f) n = rm bs n
  | [] => rfl
  | e :: bs => by
    have e1 : chg (e :: bs) n f = (if e.1 = n then (e.1, f e.2) else e) :: chg bs n f := rfl
    have ih := rm_chg n f bs
    unfold rm at ih ⊢
    rw [e1, List.filter_cons, List.filter_cons, ih]
    by_cases h : e.1 = n
    · simp [h]
    · simp [h]
theorem seq0 {n : Nat} (h : 0 < n) : seqIndex? 0 n = some 0 := by
  unfold seqIndex?
  simp [h]
theorem ok_letgo {f : Addr} {fd : FuncData} (F : Fun K "_let_go" "Pile._let_go" sLetGo f fd) (T : Txt K mg C B eH eS eF eB eL) : FnOk P w K mg base CX0 1 f fd ["self", "pointer"] (spLetGo C B) := by
  refine F.ok scLetGo (fun vs H Q E h => ?_) (fun cdv A outer s H vs Q E hr h => ?_)
  · obtain ⟨p, g, P, R, x, rfl, _⟩ := h
    rfl
  · obtain ⟨p, g, Q0, R, x, rfl, A0, W0, k⟩ := h
    have hu := hu_of hr
    refine ⟨_, pss_cons (ps_set (i := 2) scLetGo.nd rfl (Or.inl rfl) (pe_lst (pa_cons (pv 1) pa_nil))) (pss_cons (ps_set (i := 3) scLetGo.nd rfl (Or.inl rfl) (pe_lst pa_nil))
      (pss_cons (ps_while PassesOwn.never (pt_truth (pv 2) (by intro _; rfl))
        (pss_cons (ps_set (i := 4) scLetGo.nd rfl (Or.inl rfl) (pe_bm PySem.F.plainAttrs_list PySem.F.slot_list_pop PySem.F.type_list_pop mt_popAt (pv 2) (pa_cons pe_int pa_nil)))
        (pss_cons (ps_if (pt_cmpR op_isN (pv 4) pe_non (nomark _)) (pss_one ps_continue) pss_nil)
        (pss_cons (ps_set (i := 5) scLetGo.nd rfl (Or.inl rfl) (pe_dget hu (pe_fld (pv 0) rfl) (pv 4) (fun _ _ => rfl)))
        (pss_cons (ps_fldaug (pv 5) pe_int in_sub)
        (pss_cons (ps_fld (pv 5) pe_bl rfl)
        (pss_one (ps_if (pt_cmpR op_eq (pe_fld (pv 5) rfl) pe_int (nomark _))
          (pss_cons (ps_ddel (pe_fld (pv 0) rfl) (pv 4))
          (pss_cons (ps_expr (pe_bm PySem.F.plainAttrs_list PySem.F.slot_list_append PySem.F.type_list_append mt_append (pv 3) (pa_cons (pv 4) pa_nil)))
          (pss_one (ps_expr (pe_bm PySem.F.plainAttrs_list PySem.F.slot_list_extend PySem.F.type_list_extend mt_extend (pv 2) (pa_cons (pe_fld (pv 5) rfl) pa_nil)))))) pss_nil))))))))
      (pss_one (ps_ret (pv 3))))), ?_⟩
    refine ⟨_, rfl, (by show 1 ≤ sizeLine; decide), fun wl hwl => ?_⟩
    refine ⟨(by show 0 ≤ sizeLine; decide), fun fl hfl => ?_⟩
    have nwf : wl ≠ fl := ne_of_none upd_same hfl
    have rwl : R wl = none := A0.same.free hwl
    have rfl' : R fl = none := by
      have : H fl = none := by rw [upd_ne nwf.symm] at hfl; exact hfl
      exact A0.same.free this
    have A1 : PileAt C B p g Q0 (twoL R wl fl (lV [x]) ([] : List V)) (upd (upd H wl (.lst [oV x])) fl (.lst [])) := (A0.new hwl).new hfl
    have hm0 : [x].length + room Q0.boxes ≤ 400 := by
      have := room_le W0.sl W0.nd
      have := W0.few
      show 1 + _ ≤ 400
      omega
    refine ⟨fun m σ H => ∃ (bs : List (Int × Bx)) (w : List (Option Int)) (f : List Int) (v4 v5 : Option V), σ = [some (.ref p), some (oV x), some (.ref wl), some (.ref fl), v4, v5] ∧
      PileAt C B p g { Q0 with boxes := bs } (twoL R wl fl (lV w) (f.map V.int)) H ∧ Wf { Q0 with boxes := bs } w ∧ w.length + room bs = m ∧ f ++ (go m bs w).2 = (run Q0.boxes [x]).2 ∧ (go m bs w).1 = (run Q0.boxes [x]).1 ∧ f.length + m ≤ 400,
      ⟨_, Q0.boxes, [x], [], none, none, rfl, A1, W0, rfl, rfl, rfl, by rw [List.length_nil]; omega⟩, ?_⟩
    rintro m σ H ⟨bs, w, f, v4, v5, rfl, A, W, hm, e2, e1, hle⟩
    have hwl : H wl = some (.lst (lV w)) := A.same _ _ (by unfold twoL; rw [upd_ne nwf, upd_same])
    have hfl : H fl = some (.lst (f.map V.int)) := A.same _ _ (by unfold twoL; rw [upd_same])
    refine ⟨_, rfl, !(lV w).isEmpty, .inl ⟨_, SqL.of hwl, rfl⟩, ?_⟩
    cases w with
    | nil =>
      refine iteF ?_
      have m0 : (go m bs []).1 = bs ∧ (go m bs []).2 = [] := by cases m <;> exact ⟨rfl, rfl⟩
      rw [m0.2, List.append_nil] at e2
      rw [m0.1] at e1
      refine ⟨_, rfl, k fl _ rfl' ?_⟩
      rw [← e1, ← e2]
      refine A.less fun b o e => ?_
      by_cases q : b = fl
      · rw [q, upd_same] at e
        rw [q]
        unfold twoL
        rw [upd_same]
        exact e
      · rw [upd_ne q] at e
        unfold twoL
        rw [upd_ne q, upd_ne (ne_of_none e rwl)]
        exact e
    | cons y w =>
      refine iteT ?_
      obtain ⟨m', rfl⟩ : ∃ m', m = m' + 1 := ⟨w.length + room bs, by rw [List.length_cons] at hm; omega⟩
      refine ⟨fun σ' H' => ∃ (bs : List (Int × Bx)) (w : List (Option Int)) (f : List Int) (v4 v5 : Option V), σ' = [some (.ref p), some (oV x), some (.ref wl), some (.ref fl), v4, v5] ∧
        PileAt C B p g { Q0 with boxes := bs } (twoL R wl fl (lV w) (f.map V.int)) H' ∧ Wf { Q0 with boxes := bs } w ∧ w.length + room bs = m' ∧ f ++ (go m' bs w).2 = (run Q0.boxes [x]).2 ∧ (go m' bs w).1 = (run Q0.boxes [x]).1 ∧ f.length + m' ≤ 400,
        fun σ' H' h' => ⟨m', Nat.lt_succ_self _, h'⟩, ?_⟩
      obtain ⟨Wf', mf'⟩ := fall_ok W
      have mf : (fall bs w y).2.1.length + room (fall bs w y).1 = m' := by
        have q : (fall bs w y).2.1.length + room (fall bs w y).1 = w.length + room bs := mf'
        rw [List.length_cons] at hm
        omega
      have e2' : (f ++ (fall bs w y).2.2) ++ (go m' (fall bs w y).1 (fall bs w y).2.1).2 = (run Q0.boxes [x]).2 := by rw [List.append_assoc]; exact e2
      have e1' : (go m' (fall bs w y).1 (fall bs w y).2.1).1 = (run Q0.boxes [x]).1 := e1
      -- number = waiting.pop(0)
      refine ⟨_, rfl, .inl ⟨rfl, _, SqL.of hwl⟩, wl, lV (y :: w), 0, 0, oV y, rfl, rfl, hwl, by omega, by omega, seq0 (by show 0 < (lV (y :: w)).length; rw [lV_len]; exact Nat.succ_pos _), rfl, ?_⟩
      have A2 : PileAt C B p g { Q0 with boxes := bs } (twoL R wl fl (lV w) (f.map V.int)) (upd H wl (.lst (lV w))) := by
        have := A.set (a := wl) (o := .lst (lV w)) (by unfold twoL; rw [upd_ne nwf, upd_same])
        rw [twoL_a nwf] at this
        exact this
      show (tSeq _ _ : TS) _ _ (upd H wl (.lst (lV w)))
      generalize upd H wl (.lst (lV w)) = H2 at A2 ⊢
      cases y with
      | none =>
        refine ⟨_, rfl, rfl, _, rfl, ?_⟩
        refine iteT ?_
        exact ⟨bs, w, f, _, _, rfl, A2, Wf', mf, by simpa [fall] using e2', e1', by omega⟩
      | some n =>
        refine ⟨_, rfl, rfl, _, rfl, ?_⟩
        refine iteF ?_
        obtain ⟨b, hb'⟩ := W.cl n (by rw [cnt_cons]; show 0 < _ + (one (some n) n + _); simp [one]; omega)
        have hb : get bs n = some b := hb'
        have hg : valV (dV g.ba bs) (Sum.inl n : Key) = some (V.ref (g.ba n)) := by rw [valV_dV, hb]; rfl
        have hD : DGet H2 g.db (.int n) (some (V.ref (g.ba n))) := by
          have := DGet.k (k := Sum.inl n) A2.hd
          rw [hg] at this
          exact this
        have hB := A2.hb n b hb
        have eo : putF "suspect" (.bl true) (putF "weight" (.int (b.wt - 1)) (bf (g.sa n) b.wt b.sus)) = bf (g.sa n) (low b).wt (low b).sus := by rw [bf_putw, bf_puts]; rfl
        refine ⟨_, rfl, p, C, g.dx, _, _, rfl, A2.hp, T.clC, T.nB, pf_boxes _ _ _, _, rfl, g.db, _, rfl, hD, ?_⟩
        refine ⟨_, rfl, g.ba n, B, g.bd n, _, _, rfl, hB, T.clB, T.nW, bf_weight _ _ _, _, _, rfl, rfl, g.bd n, _, hB, (by rw [bf_len]; decide), ?_⟩
        refine ⟨_, rfl, g.ba n, B, g.bd n, _, rfl, upd_same, T.clB, T.nU, (by rw [bf_putw, bf_len]; decide), ?_⟩
        rw [eo, upd_upd]
        have A3 : PileAt C B p g { Q0 with boxes := chg bs n low } (twoL R wl fl (lV w) (f.map V.int)) (upd H2 (g.ba n) (.ins B (g.bd n) (bf (g.sa n) (low b).wt (low b).sus))) := A2.box hb low rfl
        have hb3 : get (chg bs n low) n = some (low b) := by rw [get_chg, hb]; simp
        have hB3 := A3.hb n (low b) hb3
        have hS3 := A3.hs n (low b) hb3
        generalize upd H2 (g.ba n) (.ins B (g.bd n) (bf (g.sa n) (low b).wt (low b).sus)) = H3 at A3 hB3 hS3 ⊢
        refine ⟨_, rfl, g.ba n, B, g.bd n, _, _, rfl, hB3, T.clB, T.nW, bf_weight _ _ _, rfl, _, rfl, ?_⟩
        by_cases hw : b.wt = 1
        · have ef : fall bs w (some n) = (rm bs n, w ++ b.slots, [n]) := by
            show (match get bs n with | none => _ | some b => _) = _
            rw [hb]
            show (if b.wt = 1 then _ else _) = _
            rw [if_pos hw]
          rw [ef] at Wf' mf e2' e1'
          have hz : decide (V.int (low b).wt = V.int 0) = true := decide_eq_true (by show V.int (b.wt - 1) = V.int 0; rw [hw]; rfl)
          rw [hz]
          refine iteT ?_
          have hk : valV (dV g.ba (chg bs n low)) (Sum.inl n : Key) = some (V.ref (g.ba n)) := by rw [valV_dV, hb3]; rfl
          refine ⟨_, rfl, p, C, g.dx, _, _, rfl, A3.hp, T.clC, T.nB, pf_boxes _ _ _, _, rfl, g.db, _, Sum.inl n, rfl, A3.hd, rfl, (by simp [hk]), ?_⟩
          have A4 : PileAt C B p g { Q0 with boxes := rm bs n } (twoL R wl fl (lV w) (f.map V.int)) (upd H3 g.db (.dK (dropK (dV g.ba (chg bs n low)) (Sum.inl n)))) := by
            have := A3.del n
            have e : rm (chg bs n low) n = rm bs n := rm_chg n low bs
            rw [show ({ ({ Q0 with boxes := chg bs n low } : Pl) with boxes := rm ({ Q0 with boxes := chg bs n low } : Pl).boxes n } : Pl) = { Q0 with boxes := rm bs n } from by rw [← e]] at this
            exact this
          have hB4 : upd H3 g.db (.dK (dropK (dV g.ba (chg bs n low)) (Sum.inl n))) (g.ba n) = some (.ins B (g.bd n) (bf (g.sa n) (low b).wt (low b).sus)) := by rw [upd_ne (A3.ba_db hb3)]; exact hB3
          have hS4 : upd H3 g.db (.dK (dropK (dV g.ba (chg bs n low)) (Sum.inl n))) (g.sa n) = some (.lst (lV b.slots)) := by rw [upd_ne (A3.sa_db hb3)]; exact hS3
          have nsf : g.sa n ≠ fl := fun q => by
            have := A3.rs n (low b) hb3
            rw [q] at this
            unfold twoL at this
            rw [upd_same] at this
            cases this
          have nsw : g.sa n ≠ wl := fun q => by
            have := A3.rs n (low b) hb3
            rw [q] at this
            unfold twoL at this
            rw [upd_ne nwf, upd_same] at this
            cases this
          generalize upd H3 g.db (.dK (dropK (dV g.ba (chg bs n low)) (Sum.inl n))) = H4 at A4 hB4 hS4 ⊢
          have hfl4 : H4 fl = some (.lst (f.map V.int)) := A4.same _ _ (by unfold twoL; rw [upd_same])
          refine ⟨_, rfl, .inl ⟨rfl, _, SqL.of hfl4⟩, _, rfl, fl, _, _, rfl, rfl, hfl4, (by rw [List.length_map, sizeLine_eq]; omega), ?_⟩
          have A5 : PileAt C B p g { Q0 with boxes := rm bs n } (twoL R wl fl (lV w) ((f ++ [n]).map V.int)) (upd H4 fl (.lst (f.map V.int ++ [V.int n]))) := by
            have := A4.set (a := fl) (o := .lst (f.map V.int ++ [V.int n])) (by unfold twoL; rw [upd_same])
            rw [twoL_b] at this
            rw [List.map_append]
            exact this
          have hB5 : upd H4 fl (.lst (f.map V.int ++ [V.int n])) (g.ba n) = some (.ins B (g.bd n) (bf (g.sa n) (low b).wt (low b).sus)) := by rw [upd_ne (ne_of hB4 hfl4 ins_ne_lst)]; exact hB4
          have hS5 : upd H4 fl (.lst (f.map V.int ++ [V.int n])) (g.sa n) = some (.lst (lV b.slots)) := by rw [upd_ne nsf]; exact hS4
          rw [show oV (some n) = V.int n from rfl]
          generalize upd H4 fl (.lst (f.map V.int ++ [V.int n])) = H5 at A5 hB5 hS5 ⊢
          have hwl5 : H5 wl = some (.lst (lV w)) := A5.same _ _ (by unfold twoL; rw [upd_ne nwf, upd_same])
          refine ⟨_, rfl, .inl ⟨rfl, _, SqL.of hwl5⟩, _, rfl, g.ba n, B, g.bd n, _, _, rfl, hB5, T.clB, T.nS, bf_slots _ _ _, wl, g.sa n, _, _, rfl, rfl, hwl5, hS5, ?_, ?_⟩
          · have h6 : b.slots.length ≤ 6 := W.sl n b hb
            rw [lV_len, lV_len, sizeLine_eq]
            rw [List.length_cons] at hm
            omega
          · have A6 : PileAt C B p g { Q0 with boxes := rm bs n } (twoL R wl fl (lV (w ++ b.slots)) ((f ++ [n]).map V.int)) (upd H5 wl (.lst (lV w ++ lV b.slots))) := by
              have := A5.set (a := wl) (o := .lst (lV w ++ lV b.slots)) (by unfold twoL; rw [upd_ne nwf, upd_same])
              rw [twoL_a nwf] at this
              have e : lV (w ++ b.slots) = lV w ++ lV b.slots := List.map_append
              rw [e]
              exact this
            exact ⟨rm bs n, w ++ b.slots, f ++ [n], _, _, rfl, A6, Wf', mf, e2', e1', by rw [List.length_append, List.length_singleton]; omega⟩
        · have ef : fall bs w (some n) = (chg bs n low, w, []) := by
            show (match get bs n with | none => _ | some b => _) = _
            rw [hb]
            show (if b.wt = 1 then _ else _) = _
            rw [if_neg hw]
          rw [ef] at Wf' mf e2' e1'
          have hz : decide (V.int (low b).wt = V.int 0) = false := decide_eq_false (by show ¬ V.int (b.wt - 1) = V.int 0; intro q; injection q with q; omega)
          rw [hz]
          refine iteF ?_
          exact ⟨chg bs n low, w, f, _, _, rfl, A3, Wf', mf, by simpa using e2', e1', by omega⟩
/-! ### _point -/
theorem scPoint : FnScope ["self", "pointers", "at", "number", "box", "old"] ["self", "pointers", "at", "number"] (defScope sPoint) := ⟨rfl, rfl, rfl, by decide +kernel, rfl, by decide +kernel, by decide +kernel⟩
theorem ixN_of {n i : Nat} (h : i < n) : ixN n (i : Int) = some i := by
  unfold ixN
  rw [if_pos (by omega), if_pos (by omega)]
  rfl
theorem ok_point {f fL : Addr} {fd fdL : FuncData} (F : Fun K "_point" "Pile._point" sPoint f fd) (T : Txt K mg C B eH eS eF eB eL) (FL : Fun K "_let_go" "Pile._let_go" sLetGo fL fdL) (bL : Binds K fdL ["self", "pointer"] []) (mL : Meth K C "_let_go" fL) :
    FnOk P w K mg base CX0 2 f fd ["self", "pointers", "at", "number"] (spPoint C B) := by
  have GL : FnOk P w K mg base CX0 1 fL fdL ["self", "pointer"] (spLetGo C B) := ok_letgo FL T
  refine F.ok scPoint (fun vs H Q E h => ?_) (fun cdv A outer s H vs Q E hr h => ?_)
  · obtain ⟨p, a, g, P, S, R, x, l, i, rfl, _⟩ := h
    rfl
  · obtain ⟨p, a, g, P0, S, R, x, l, i, rfl, A0, hx, hi, hset, WS, k⟩ := h
    have hu := hu_of hr
    refine ⟨_, pss_cons (ps_if (pt_cmpR op_notN (pv 3) pe_non (nomark _))
        (pss_cons (ps_set (i := 4) scPoint.nd rfl (Or.inl rfl) (pe_dget hu (pe_fld (pv 0) rfl) (pv 3) (fun _ _ => rfl))) (pss_one (ps_fldaug (pv 4) pe_int in_add))) pss_nil)
      (pss_cons (ps_set (i := 5) scPoint.nd rfl (Or.inl rfl) (pe_ix ix_list (pv 1) (pv 2) (fun _ _ => rfl)))
      (pss_cons (ps_asg (pv 3) (pg_sub (pv 1) (pv 2) set_list))
      (pss_one (ps_ret (pe_meth (pv 0) T.clC mL GL hr bL .nil pass0 (pa_cons (pv 5) pa_nil)))))), ?_⟩
    refine ⟨_, rfl, rfl, _, rfl, ?_⟩
    cases x
    case' none =>
      refine iteF ?_
      have A1 : PileAt C B p g { P0 with boxes := bumped P0.boxes none } R H := A0
    case' some n =>
      refine iteT ?_
      obtain ⟨b, hb⟩ := hx n rfl
      have hD : DGet H g.db (.int n) (some (V.ref (g.ba n))) := by
        have := DGet.k (k := Sum.inl n) A0.hd
        rw [valV_dV, hb] at this
        exact this
      have hB := A0.hb n b hb
      refine ⟨_, rfl, p, C, g.dx, _, _, rfl, A0.hp, T.clC, T.nB, pf_boxes _ _ _, _, rfl, g.db, _, rfl, hD, ?_⟩
      refine ⟨_, rfl, g.ba n, B, g.bd n, _, _, rfl, hB, T.clB, T.nW, bf_weight _ _ _, _, _, rfl, rfl, g.bd n, _, hB, (by rw [bf_len]; decide), ?_⟩
      rw [bf_putw]
      have A1 : PileAt C B p g { P0 with boxes := bumped P0.boxes (some n) } R (upd H (g.ba n) (.ins B (g.bd n) (bf (g.sa n) (bump b).wt (bump b).sus))) := A0.box hb bump rfl
      show (tSeq _ _ : TS) _ _ (upd H (g.ba n) (.ins B (g.bd n) (bf (g.sa n) (bump b).wt (bump b).sus)))
      generalize upd H (g.ba n) (.ins B (g.bd n) (bf (g.sa n) (bump b).wt (bump b).sus)) = H1 at A1 ⊢
    all_goals
      obtain ⟨h1, A2⟩ := hset _ A1
      refine ⟨_, rfl, _, rfl, a, _, _, _, rfl, rfl, SqL.of h1, at_of (j := i) rfl (lV_get hi), ?_⟩
      refine ⟨_, rfl, _, rfl, _, rfl, a, _, _, i, rfl, rfl, h1, ixN_of (by rw [lV_len]; exact hi), ?_⟩
      rw [lV_set]
      exact ⟨_, rfl, p, g.dx, _, rfl, A2.hp, pf_no _ _ _ (by decide +kernel) (by decide +kernel) (by decide +kernel), _, rfl, p, g, S, R, l.getD i none, rfl, A2, WS, k⟩
/-! ### make -/
theorem scMake : FnScope ["self", "hand", "size", "number"] ["self", "hand", "size"] (defScope sMake) := ⟨rfl, rfl, rfl, by decide +kernel, rfl, by decide +kernel, by decide +kernel⟩
theorem ok_make {f fL fP fB fK : Addr} {fd fdL fdP fdB fdK : FuncData} (F : Fun K "make" "Pile.make" sMake f fd) (T : Txt K mg C B eH eS eF eB eL) (FL : Fun K "_let_go" "Pile._let_go" sLetGo fL fdL) (bL : Binds K fdL ["self", "pointer"] []) (mL : Meth K C "_let_go" fL)
    (FP : Fun K "_point" "Pile._point" sPoint fP fdP) (bP : Binds K fdP ["self", "pointers", "at", "number"] []) (mP : Meth K C "_point" fP) (MB : Mk K B fB) (FB : Fun K "__init__" "Box.__init__" sBoxInit fB fdB) (bB : Binds K fdB ["self", "size"] [])
    (FK : Fun K "check_hand" "check_hand" sCheck fK fdK) (bK : Binds K fdK ["hand"] []) (gK : mg "check_hand" = some (.ref fK)) :
    FnOk P w K mg base (L2N.CX P w) 3 f fd ["self", "hand", "size"] (spMake C B eH eS eF) := by
  have GK : FnOk P w K mg base (L2N.CX P w) 1 fK fdK ["hand"] (spCheck eH) := ok_check FK T
  have GB : FnOk P w K mg base CX0 1 fB fdB ["self", "size"] (spBoxInit B) := ok_boxinit FB T
  have GP : FnOk P w K mg base CX0 2 fP fdP ["self", "pointers", "at", "number"] (spPoint C B) := ok_point FP T FL bL mL
  refine okXN F scMake (fun vs H Q E h => ?_) (fun cdv A outer s H vs Q E hr h => ?_)
  · obtain ⟨p, P, R, h, s, rfl, _⟩ := h
    rfl
  · obtain ⟨p, P0, R, h, z, rfl, ⟨⟨g, A0⟩, W0⟩, kH, kS, kF, k⟩ := h
    have hu := hu_of hr
    have hr1 : Room 1 _ := hr.mono (by decide)
    obtain ⟨t6, hT6⟩ := T.most
    obtain ⟨t60, hT60⟩ := T.alive
    refine ⟨_, pss_cons (ps_expr (pe_call GK hr1 rfl gK FK.kp bK .nil (L2N.passes_call (L2N.takes_of rfl rfl rfl rfl) (fun _ _ _ _ h => h)) (pa_cons (pv 1) pa_nil)))
      (pss_cons (ps_if (pt_not (pt_chain op_le op_le pe_int (pv 2) (pe_glob (v := .int 6) rfl hT6 ⟨_, rfl⟩))) (pss_one (L2N.ps_raise rfl (L2N.takes_of rfl rfl rfl rfl) (L2N.pmk_own PySem.F.excBase_ValueError T.eS.x T.eS.g T.eS.k (raises_own T.eS.b T.eS.t) rfl))) pss_nil)
      (pss_cons (ps_if (pt_cmpR op_ge (pe_callB call_lenD (by rfl) T.len PySem.boot_len (pa_cons (pe_fld (pv 0) rfl) pa_nil)) (pe_glob (v := .int 60) rfl hT60 ⟨_, rfl⟩) (nomark _)) (pss_one (L2N.ps_raise rfl (L2N.takes_of rfl rfl rfl rfl) (L2N.pmk_own PySem.F.excBase_ValueError T.eF.x T.eF.g T.eF.k (raises_own T.eF.b T.eF.t) rfl))) pss_nil)
      (pss_cons (ps_set (i := 3) scMake.nd rfl (Or.inl rfl) (pe_fld (pv 0) rfl))
      (pss_cons (ps_fldaug (pv 0) pe_int in_add)
      (pss_cons (ps_dput hu (pe_fld (pv 0) rfl) (pv 3) (pe_make MB GB hr rfl T.mgB bB .nil pass0 (pa_cons (pv 2) pa_nil)) rfl)
      (pss_one (ps_ret (pe_meth (pv 0) T.clC mP GP hr bP .nil pass0 (pa_cons (pe_fld (pv 0) rfl) (pa_cons (pv 1) (pa_cons (pv 3) pa_nil))))))))))), ?_⟩
    refine ⟨_, rfl, h, rfl, fun ch => ?_, fun ch => kH ch⟩
    refine ⟨_, rfl, _, _, rfl, rfl, _, rfl, ?_⟩
    have size : ∀ {A B : Prop}, ((0 ≤ z ∧ z ≤ 6) → B) → (¬ (0 ≤ z ∧ z ≤ 6) → A) → True := fun _ _ => trivial
    by_cases z0 : 0 ≤ z
    case neg =>
      rw [decide_eq_false z0]
      refine iteF ⟨_, rfl, ?_⟩
      exact iteT (kS ch fun q => z0 q.1)
    rw [decide_eq_true z0]
    refine iteT ⟨_, _, rfl, rfl, _, rfl, ?_⟩
    by_cases z6 : z ≤ 6
    case neg =>
      rw [decide_eq_false z6]
      exact iteT (kS ch fun q => z6 q.2)
    rw [decide_eq_true z6]
    refine iteF ?_
    have kF' := kF ch ⟨z0, z6⟩
    have k' := k ch ⟨z0, z6⟩
    refine ⟨_, rfl, p, C, g.dx, _, _, rfl, A0.hp, T.clC, T.nB, pf_boxes _ _ _, _, _, rfl, A0.hd, _, _, rfl, rfl, _, rfl, ?_⟩
    rw [dV_len]
    by_cases c60 : 60 ≤ P0.boxes.length
    · refine if_pos_of (decide_eq_true (by omega)) ?_
      exact kF' c60
    refine if_neg_of (decide_eq_false (by omega)) ?_
    have c60' : P0.boxes.length < 60 := by omega
    have hsz : z.toNat ≤ 6 := by omega
    have hh8 : h.toNat < 8 := by omega
    refine ⟨_, rfl, p, C, g.dx, _, _, rfl, A0.hp, T.clC, T.nM, pf_made _ _ _, ?_⟩
    refine ⟨_, rfl, p, C, g.dx, _, _, rfl, A0.hp, T.clC, T.nM, pf_made _ _ _, _, _, rfl, rfl, g.dx, _, A0.hp, (by rw [pf_len]; decide), ?_⟩
    rw [pf_put]
    have A1 := A0.count (P0.made + 1)
    generalize upd H p (.ins C g.dx (pf g.lh g.db (P0.made + 1))) = H1 at A1 ⊢
    refine ⟨_, rfl, ?_⟩
    intro x dx nx ndx nex
    refine ⟨x, dx, z.toNat, (by rw [Int.toNat_of_nonneg z0]; rfl), hsz, upd_same, fun l sl hl hsl => ⟨rfl, ?_⟩⟩
    have A2 := A1.new (o := .own x) ndx
    have A3 := A2.new (a := x) (o := .ins B dx []) (by rw [upd_ne nex.symm]; exact nx)
    have A4 := A3.new (o := .lst [.non]) hl
    have A5 := A4.new (o := .lst (lV (List.replicate z.toNat none))) hsl
    have xl : x ≠ l := ne_of_none upd_same hl
    have xsl : x ≠ sl := ne_of_none (by rw [upd_ne xl]; exact upd_same) hsl
    have A6 := A5.set (a := x) (o := .ins B dx (bf sl 0 false)) (by rw [upd_ne xsl, upd_ne xl]; exact upd_same)
    have rx : R x = none := A1.same.free nx
    have rdx : R dx = none := A1.same.free ndx
    have r2 : Same R (upd (upd R dx (.own x)) x (.ins B dx [])) := (same_upd rdx).trans (same_upd (by rw [upd_ne nex.symm]; exact rx))
    have rl : upd (upd R dx (.own x)) x (.ins B dx []) l = none := A3.same.free hl
    have rsl : upd (upd (upd R dx (.own x)) x (.ins B dx [])) l (.lst [.non]) sl = none := A4.same.free hsl
    have r3 := r2.trans (same_upd (o := .lst [.non]) rl)
    have r4 := r3.trans (same_upd (o := .lst (lV (List.replicate z.toNat none))) rsl)
    have r5 : Same R (upd (upd (upd (upd (upd R dx (.own x)) x (.ins B dx [])) l (.lst [.non])) sl (.lst (lV (List.replicate z.toNat none)))) x (.ins B dx (bf sl 0 false))) := fun b o e => by
      rw [upd_ne (ne_of_none e rx)]
      exact r4 b o e
    have gn : get ({ P0 with made := P0.made + 1 } : Pl).boxes P0.made = none := get_none.mpr fun q => by
      have := (W0.lo P0.made q).2
      omega
    have A7 := A6.add (R' := R) (n := P0.made) (b := ⟨List.replicate z.toNat none, 0, false⟩) (x := x) (dx := dx) (sl := sl) gn upd_same (by rw [upd_ne xsl.symm]; exact upd_same) r5 rx (r3.free rsl)
    generalize upd (upd (upd (upd (upd H1 dx (.own x)) x (.ins B dx [])) l (.lst [.non])) sl (.lst (lV (List.replicate z.toNat none)))) x (.ins B dx (bf sl 0 false)) = H6 at A6 A7 ⊢
    refine ⟨_, rfl, p, C, g.dx, _, _, rfl, A6.hp, T.clC, T.nB, pf_boxes _ _ _, _, rfl, g.db, _, rfl, DPut.k (k := Sum.inl P0.made) A6.hd (by rw [dV_len, sizeLine_eq]; show P0.boxes.length < _; omega), ?_⟩
    refine ⟨_, rfl, p, g.dx, _, rfl, A7.hp, pf_no _ _ _ (by decide +kernel) (by decide +kernel) (by decide +kernel), _, rfl, p, C, g.dx, _, _, rfl, A7.hp, T.clC, T.nH, pf_hands _ _ _, _, rfl, _, rfl, ?_⟩
    refine ⟨p, g.lh, _, born P0 z.toNat, { born P0 z.toNat with hands := P0.hands.set h.toNat (some P0.made), boxes := bumped (born P0 z.toNat).boxes (some P0.made) }, R, some P0.made, P0.hands, h.toNat, ?_, A7, (W0.born hsz c60').hx, by rw [W0.hl]; exact hh8,
      fun H1 A => ⟨A.hh, A.hand _⟩, (W0.born hsz c60').hand hh8, fun r H' hr A => k' c60' r H' hr ⟨⟨_, A⟩, mk_ok W0 hh8 hsz c60'⟩⟩
    rw [Int.toNat_of_nonneg ch.1]
    rfl
/-! ### hold -/
theorem scHold : FnScope ["self", "hand", "other"] ["self", "hand", "other"] (defScope sHold) := ⟨rfl, rfl, rfl, by decide +kernel, rfl, by decide +kernel, by decide +kernel⟩
theorem ok_hold {f fL fP fK : Addr} {fd fdL fdP fdK : FuncData} (F : Fun K "hold" "Pile.hold" sHold f fd) (T : Txt K mg C B eH eS eF eB eL) (FL : Fun K "_let_go" "Pile._let_go" sLetGo fL fdL) (bL : Binds K fdL ["self", "pointer"] []) (mL : Meth K C "_let_go" fL)
    (FP : Fun K "_point" "Pile._point" sPoint fP fdP) (bP : Binds K fdP ["self", "pointers", "at", "number"] []) (mP : Meth K C "_point" fP) (FK : Fun K "check_hand" "check_hand" sCheck fK fdK) (bK : Binds K fdK ["hand"] []) (gK : mg "check_hand" = some (.ref fK)) :
    FnOk P w K mg base (L2N.CX P w) 3 f fd ["self", "hand", "other"] (spHold C B eH) := by
  have GK : FnOk P w K mg base (L2N.CX P w) 1 fK fdK ["hand"] (spCheck eH) := ok_check FK T
  have GP : FnOk P w K mg base CX0 2 fP fdP ["self", "pointers", "at", "number"] (spPoint C B) := ok_point FP T FL bL mL
  refine okXN F scHold (fun vs H Q E h => ?_) (fun cdv A outer s H vs Q E hr h => ?_)
  · obtain ⟨p, P, R, h, o, rfl, _⟩ := h
    rfl
  · obtain ⟨p, P0, R, h, o, rfl, ⟨⟨g, A0⟩, W0⟩, kH, kO, k⟩ := h
    have hr1 : Room 1 _ := hr.mono (by decide)
    refine ⟨_, pss_cons (ps_expr (pe_call GK hr1 rfl gK FK.kp bK .nil (L2N.passes_call (L2N.takes_of rfl rfl rfl rfl) (fun _ _ _ _ h => h)) (pa_cons (pv 1) pa_nil))) (pss_cons (ps_expr (pe_call GK hr1 rfl gK FK.kp bK .nil (L2N.passes_call (L2N.takes_of rfl rfl rfl rfl) (fun _ _ _ _ h => h)) (pa_cons (pv 2) pa_nil)))
      (pss_one (ps_ret (pe_meth (pv 0) T.clC mP GP hr bP .nil pass0 (pa_cons (pe_fld (pv 0) rfl) (pa_cons (pv 1) (pa_cons (pe_ix ix_list (pe_fld (pv 0) rfl) (pv 2) (fun _ _ => rfl)) pa_nil))))))), ?_⟩
    refine ⟨_, rfl, h, rfl, fun ch => ?_, fun ch => kH ch⟩
    refine ⟨_, rfl, o, rfl, fun co => ?_, fun co => kO ch co⟩
    have h8 : h.toNat < 8 := by omega
    have ol : o.toNat < P0.hands.length := by rw [W0.hl]; omega
    have hpre : Pre P0 (P0.hands.getD o.toNat none) := W0.pre fun n e => W0.hand e
    refine ⟨_, rfl, p, g.dx, _, rfl, A0.hp, pf_no _ _ _ (by decide +kernel) (by decide +kernel) (by decide +kernel), _, rfl, p, C, g.dx, _, _, rfl, A0.hp, T.clC, T.nH, pf_hands _ _ _, _, rfl, _, rfl, p, C, g.dx, _, _, rfl, A0.hp, T.clC, T.nH, pf_hands _ _ _, _, rfl, g.lh, _, _, _, rfl, rfl, SqL.of A0.hh, at_of (j := o.toNat) (by rw [Int.toNat_of_nonneg co.1]) (lV_get ol), ?_⟩
    refine ⟨p, g.lh, g, P0, { P0 with hands := P0.hands.set h.toNat (P0.hands.getD o.toNat none), boxes := bumped P0.boxes (P0.hands.getD o.toNat none) }, R, P0.hands.getD o.toNat none, P0.hands, h.toNat, (by rw [Int.toNat_of_nonneg ch.1]; rfl), A0, hpre.hx, by rw [W0.hl]; exact h8,
      fun H1 A => ⟨A.hh, A.hand _⟩, hpre.hand h8, fun r H' hr A => k ch co r H' hr ⟨⟨_, A⟩, ptHand_ok hpre h8⟩⟩
/-! ### drop -/
theorem scDrop : FnScope ["self", "hand"] ["self", "hand"] (defScope sDrop) := ⟨rfl, rfl, rfl, by decide +kernel, rfl, by decide +kernel, by decide +kernel⟩
theorem ok_drop {f fL fP fK : Addr} {fd fdL fdP fdK : FuncData} (F : Fun K "drop" "Pile.drop" sDrop f fd) (T : Txt K mg C B eH eS eF eB eL) (FL : Fun K "_let_go" "Pile._let_go" sLetGo fL fdL) (bL : Binds K fdL ["self", "pointer"] []) (mL : Meth K C "_let_go" fL)
    (FP : Fun K "_point" "Pile._point" sPoint fP fdP) (bP : Binds K fdP ["self", "pointers", "at", "number"] []) (mP : Meth K C "_point" fP) (FK : Fun K "check_hand" "check_hand" sCheck fK fdK) (bK : Binds K fdK ["hand"] []) (gK : mg "check_hand" = some (.ref fK)) :
    FnOk P w K mg base (L2N.CX P w) 3 f fd ["self", "hand"] (spDrop C B eH) := by
  have GK : FnOk P w K mg base (L2N.CX P w) 1 fK fdK ["hand"] (spCheck eH) := ok_check FK T
  have GP : FnOk P w K mg base CX0 2 fP fdP ["self", "pointers", "at", "number"] (spPoint C B) := ok_point FP T FL bL mL
  refine okXN F scDrop (fun vs H Q E h => ?_) (fun cdv A outer s H vs Q E hr h => ?_)
  · obtain ⟨p, P, R, h, rfl, _⟩ := h
    rfl
  · obtain ⟨p, P0, R, h, rfl, ⟨⟨g, A0⟩, W0⟩, kH, k⟩ := h
    have hr1 : Room 1 _ := hr.mono (by decide)
    refine ⟨_, pss_cons (ps_expr (pe_call GK hr1 rfl gK FK.kp bK .nil (L2N.passes_call (L2N.takes_of rfl rfl rfl rfl) (fun _ _ _ _ h => h)) (pa_cons (pv 1) pa_nil)))
      (pss_one (ps_ret (pe_meth (pv 0) T.clC mP GP hr bP .nil pass0 (pa_cons (pe_fld (pv 0) rfl) (pa_cons (pv 1) (pa_cons pe_non pa_nil)))))), ?_⟩
    refine ⟨_, rfl, h, rfl, fun ch => ?_, fun ch => kH ch⟩
    have h8 : h.toNat < 8 := by omega
    have hpre : Pre P0 none := W0.pre fun n e => by cases e
    refine ⟨_, rfl, p, g.dx, _, rfl, A0.hp, pf_no _ _ _ (by decide +kernel) (by decide +kernel) (by decide +kernel), _, rfl, p, C, g.dx, _, _, rfl, A0.hp, T.clC, T.nH, pf_hands _ _ _, _, rfl, ?_⟩
    refine ⟨p, g.lh, g, P0, { P0 with hands := P0.hands.set h.toNat none, boxes := bumped P0.boxes none }, R, none, P0.hands, h.toNat, (by rw [Int.toNat_of_nonneg ch.1]; rfl), A0, hpre.hx, by rw [W0.hl]; exact h8,
      fun H1 A => ⟨A.hh, A.hand _⟩, hpre.hand h8, fun r H' hr A => k ch r H' hr ⟨⟨_, A⟩, ptHand_ok hpre h8⟩⟩
/-! ### check_slot -/
def spCheckSlot (eL : Addr) : Sp := fun vs H Q E => ∃ (a : Addr) (xs : List V) (z : Int), vs = [.ref a, .int z] ∧ H a = some (.lst xs) ∧ ((0 ≤ z ∧ z < (xs.length : Int)) → Q .non H) ∧ (¬ (0 ≤ z ∧ z < (xs.length : Int)) → E (.ref eL) none H)
theorem scCheckSlot : FnScope ["slots", "slot"] ["slots", "slot"] (defScope sCheckSlot) := ⟨rfl, rfl, rfl, by decide +kernel, rfl, by decide +kernel, by decide +kernel⟩
theorem ok_checkslot {f : Addr} {fd : FuncData} (F : Fun K "check_slot" "check_slot" sCheckSlot f fd) (T : Txt K mg C B eH eS eF eB eL) : FnOk P w K mg base (L2N.CX P w) 1 f fd ["slots", "slot"] (spCheckSlot eL) := by
  refine okXN F scCheckSlot (fun vs H Q E h => ?_) (fun cdv A outer s H vs Q E hr h => ?_)
  · obtain ⟨a, xs, z, rfl, _⟩ := h
    rfl
  · obtain ⟨a, xs, z, rfl, ha, k1, k2⟩ := h
    refine ⟨_, pss_one (ps_if (pt_not (pt_chain op_le op_lt pe_int (pv 1) (pe_callB call_len_seq (by rfl) T.len PySem.boot_len (pa_cons (pv 0) pa_nil)))) (pss_one (L2N.ps_raise rfl (L2N.takes_of rfl rfl rfl rfl) (L2N.pmk_own PySem.F.excBase_ValueError T.eL.x T.eL.g T.eL.k (raises_own T.eL.b T.eL.t) rfl))) pss_nil), ?_⟩
    refine ⟨_, rfl, _, _, rfl, rfl, _, rfl, ?_⟩
    by_cases z0 : 0 ≤ z
    case neg =>
      rw [decide_eq_false z0]
      refine iteF ⟨_, rfl, ?_⟩
      exact iteT (k2 fun q => z0 q.1)
    rw [decide_eq_true z0]
    refine iteT ⟨_, rfl, a, _, rfl, .inl (SqL.of ha), _, _, rfl, rfl, _, rfl, ?_⟩
    by_cases zl : z < (xs.length : Int)
    case neg =>
      rw [decide_eq_false zl]
      exact iteT (k2 fun q => zl q.2)
    rw [decide_eq_true zl]
    exact iteF (k1 ⟨z0, zl⟩)
/-! ### _slots_with -/
theorem scSlotsWith : FnScope ["self", "hand", "slot", "number", "slots"] ["self", "hand", "slot"] (defScope sSlotsWith) := ⟨rfl, rfl, rfl, by decide +kernel, rfl, by decide +kernel, by decide +kernel⟩
theorem ok_slotswith {f fCS : Addr} {fd fdCS : FuncData} (F : Fun K "_slots_with" "Pile._slots_with" sSlotsWith f fd) (T : Txt K mg C B eH eS eF eB eL) (FCS : Fun K "check_slot" "check_slot" sCheckSlot fCS fdCS) (bCS : Binds K fdCS ["slots", "slot"] []) (gCS : mg "check_slot" = some (.ref fCS)) : FnOk P w K mg base (L2N.CX P w) 2 f fd ["self", "hand", "slot"] (spSlotsWith C B eB eL) := by
  have GCS : FnOk P w K mg base (L2N.CX P w) 1 fCS fdCS ["slots", "slot"] (spCheckSlot eL) := ok_checkslot FCS T
  refine okXN F scSlotsWith (fun vs H Q E h => ?_) (fun cdv A outer s H vs Q E hr h => ?_)
  · obtain ⟨p, g, P, R, h, s, rfl, _⟩ := h
    rfl
  · obtain ⟨p, g, P0, R, h, z, rfl, A0, W0, ch, kB, kL, k⟩ := h
    have hu := hu_of hr
    refine ⟨_, pss_cons (ps_set (i := 3) scSlotsWith.nd rfl (Or.inl rfl) (pe_ix ix_list (pe_fld (pv 0) rfl) (pv 1) (fun _ _ => rfl)))
      (pss_cons (ps_if (pt_cmpR op_isN (pv 3) pe_non (nomark _)) (pss_one (L2N.ps_raise rfl (L2N.takes_of rfl rfl rfl rfl) (L2N.pmk_own PySem.F.excBase_ValueError T.eB.x T.eB.g T.eB.k (raises_own T.eB.b T.eB.t) rfl))) pss_nil)
      (pss_cons (ps_set (i := 4) scSlotsWith.nd rfl (Or.inl rfl) (pe_fld (pe_dget hu (pe_fld (pv 0) rfl) (pv 3) (fun _ _ => rfl)) rfl))
      (pss_cons (ps_expr (pe_call GCS hr rfl gCS FCS.kp bCS .nil (L2N.passes_call (L2N.takes_of rfl rfl rfl rfl) (fun _ _ _ _ h => h)) (pa_cons (pv 4) (pa_cons (pv 2) pa_nil))))
      (pss_one (ps_ret (pv 4)))))), ?_⟩
    have hl : h.toNat < P0.hands.length := by rw [W0.hl]; omega
    have hx := lV_get hl
    refine ⟨_, rfl, p, C, g.dx, _, _, rfl, A0.hp, T.clC, T.nH, pf_hands _ _ _, _, rfl, g.lh, _, _, _, rfl, rfl, SqL.of A0.hh, at_of (j := h.toNat) (by rw [Int.toNat_of_nonneg ch.1]) hx, ?_⟩
    refine ⟨_, rfl, rfl, _, rfl, ?_⟩
    cases e : P0.hands.getD h.toNat none with
    | none => exact iteT (kB e)
    | some n =>
      refine iteF ?_
      obtain ⟨b, hb⟩ := W0.hand e
      have hD : DGet H g.db (.int n) (some (V.ref (g.ba n))) := by
        have := DGet.k (k := Sum.inl n) A0.hd
        rw [valV_dV, hb] at this
        exact this
      refine ⟨_, rfl, p, C, g.dx, _, _, rfl, A0.hp, T.clC, T.nB, pf_boxes _ _ _, _, rfl, g.db, _, rfl, hD, g.ba n, B, g.bd n, _, _, rfl, A0.hb n b hb, T.clB, T.nS, bf_slots _ _ _, ?_⟩
      exact ⟨_, rfl, _, rfl, g.sa n, _, z, rfl, A0.hs n b hb, fun c => ⟨_, rfl, k n b e hb (by rw [lV_len] at c; exact c)⟩, fun c => kL n b e hb (by rw [lV_len] at c; exact c)⟩
/-- a slot is set, as _point does it -/
theorem PileAt.slot' {p : Addr} {g : Geo} {P0 : Pl} {R H1 : Hp} {x : Option Int} {n : Int} {b : Bx} (hb : get P0.boxes n = some b) (i : Nat) (A : PileAt C B p g { P0 with boxes := bumped P0.boxes x } R H1) :
    H1 (g.sa n) = some (.lst (lV b.slots)) ∧ PileAt C B p g { P0 with boxes := chg (bumped P0.boxes x) n (setSlot i x) } R (upd H1 (g.sa n) (.lst (lV (b.slots.set i x)))) := by
  have hb' : get (bumped P0.boxes x) n = some (if x = some n then bump b else b) := by rw [get_bumped, hb]; rfl
  have es : (if x = some n then bump b else b).slots = b.slots := by
    by_cases q : x = some n
    · rw [if_pos q]; rfl
    · rw [if_neg q]
  have h1 := A.hs n _ hb'
  have h2 := A.slot hb' i x
  rw [es] at h1 h2
  exact ⟨h1, h2⟩
theorem slotOf_eq {bs : List (Int × Bx)} {n : Int} {b : Bx} (hb : get bs n = some b) (i : Nat) : slotOf bs n i = b.slots.getD i none := by
  unfold slotOf
  rw [hb]
/-! ### put -/
theorem scPut : FnScope ["self", "hand", "slot", "other"] ["self", "hand", "slot", "other"] (defScope sPut) := ⟨rfl, rfl, rfl, by decide +kernel, rfl, by decide +kernel, by decide +kernel⟩
theorem ok_put {f fL fP fK fY fCS : Addr} {fd fdL fdP fdK fdY fdCS : FuncData} (F : Fun K "put" "Pile.put" sPut f fd) (T : Txt K mg C B eH eS eF eB eL) (FL : Fun K "_let_go" "Pile._let_go" sLetGo fL fdL) (bL : Binds K fdL ["self", "pointer"] []) (mL : Meth K C "_let_go" fL)
    (FP : Fun K "_point" "Pile._point" sPoint fP fdP) (bP : Binds K fdP ["self", "pointers", "at", "number"] []) (mP : Meth K C "_point" fP) (FK : Fun K "check_hand" "check_hand" sCheck fK fdK) (bK : Binds K fdK ["hand"] []) (gK : mg "check_hand" = some (.ref fK)) (FY : Fun K "_slots_with" "Pile._slots_with" sSlotsWith fY fdY) (bY : Binds K fdY ["self", "hand", "slot"] []) (mY : Meth K C "_slots_with" fY) (FCS : Fun K "check_slot" "check_slot" sCheckSlot fCS fdCS) (bCS : Binds K fdCS ["slots", "slot"] []) (gCS : mg "check_slot" = some (.ref fCS)) :
    FnOk P w K mg base (L2N.CX P w) 3 f fd ["self", "hand", "slot", "other"] (spPut C B eH eB eL) := by
  have GK : FnOk P w K mg base (L2N.CX P w) 1 fK fdK ["hand"] (spCheck eH) := ok_check FK T
  have GP : FnOk P w K mg base CX0 2 fP fdP ["self", "pointers", "at", "number"] (spPoint C B) := ok_point FP T FL bL mL
  have GY : FnOk P w K mg base (L2N.CX P w) 2 fY fdY ["self", "hand", "slot"] (spSlotsWith C B eB eL) := ok_slotswith FY T FCS bCS gCS
  refine okXN F scPut (fun vs H Q E h => ?_) (fun cdv A outer s H vs Q E hr h => ?_)
  · obtain ⟨p, P, R, h, s, o, rfl, _⟩ := h
    rfl
  · obtain ⟨p, P0, R, h, z, o, rfl, ⟨⟨g, A0⟩, W0⟩, kH, kO, kB, kL, k⟩ := h
    have hr1 : Room 1 _ := hr.mono (by decide)
    refine ⟨_, pss_cons (ps_expr (pe_call GK hr1 rfl gK FK.kp bK .nil (L2N.passes_call (L2N.takes_of rfl rfl rfl rfl) (fun _ _ _ _ h => h)) (pa_cons (pv 1) pa_nil))) (pss_cons (ps_expr (pe_call GK hr1 rfl gK FK.kp bK .nil (L2N.passes_call (L2N.takes_of rfl rfl rfl rfl) (fun _ _ _ _ h => h)) (pa_cons (pv 3) pa_nil)))
      (pss_one (ps_ret (pe_meth (pv 0) T.clC mP GP hr bP .nil pass0 (pa_cons (pe_meth (pv 0) T.clC mY GY hr bY .nil (L2N.passes_call (L2N.takes_of rfl rfl rfl rfl) (fun _ _ _ _ h => h)) (pa_cons (pv 1) (pa_cons (pv 2) pa_nil))) (pa_cons (pv 2) (pa_cons (pe_ix ix_list (pe_fld (pv 0) rfl) (pv 3) (fun _ _ => rfl)) pa_nil))))))), ?_⟩
    refine ⟨_, rfl, h, rfl, fun ch => ?_, fun ch => kH ch⟩
    refine ⟨_, rfl, o, rfl, fun co => ?_, fun co => kO ch co⟩
    have ol : o.toNat < P0.hands.length := by rw [W0.hl]; omega
    have hpre : Pre P0 (P0.hands.getD o.toNat none) := W0.pre fun n e => W0.hand e
    refine ⟨_, rfl, p, g.dx, _, rfl, A0.hp, pf_no _ _ _ (by decide +kernel) (by decide +kernel) (by decide +kernel), _, rfl, p, g.dx, _, rfl, A0.hp, pf_no _ _ _ (by decide +kernel) (by decide +kernel) (by decide +kernel), _, rfl, _, rfl, p, g, P0, R, h, z, rfl, A0, W0, ch, kB ch co, kL ch co, fun n b e hb cz => ?_⟩
    refine ⟨_, rfl, _, rfl, p, C, g.dx, _, _, rfl, A0.hp, T.clC, T.nH, pf_hands _ _ _, _, rfl, g.lh, _, _, _, rfl, rfl, SqL.of A0.hh, at_of (j := o.toNat) (by rw [Int.toNat_of_nonneg co.1]) (lV_get ol), ?_⟩
    have zl : z.toNat < b.slots.length := by omega
    have k' := k ch co n b e hb cz
    unfold ptSlot at k'
    rw [slotOf_eq hb] at k'
    have W' := ptSlot_ok hpre hb zl
    unfold ptSlot at W'
    rw [slotOf_eq hb] at W'
    exact ⟨p, g.sa n, g, P0, { P0 with boxes := chg (bumped P0.boxes (P0.hands.getD o.toNat none)) n (setSlot z.toNat (P0.hands.getD o.toNat none)) }, R, P0.hands.getD o.toNat none, b.slots, z.toNat, (by rw [Int.toNat_of_nonneg cz.1]; rfl), A0, hpre.hx, zl,
      fun H1 A => A.slot' hb z.toNat, hpre.slot hb zl, fun r H' hr A => k' r H' hr ⟨⟨_, A⟩, W'⟩⟩
/-! ### empty -/
theorem scEmpty : FnScope ["self", "hand", "slot"] ["self", "hand", "slot"] (defScope sEmpty) := ⟨rfl, rfl, rfl, by decide +kernel, rfl, by decide +kernel, by decide +kernel⟩
theorem ok_empty {f fL fP fK fY fCS : Addr} {fd fdL fdP fdK fdY fdCS : FuncData} (F : Fun K "empty" "Pile.empty" sEmpty f fd) (T : Txt K mg C B eH eS eF eB eL) (FL : Fun K "_let_go" "Pile._let_go" sLetGo fL fdL) (bL : Binds K fdL ["self", "pointer"] []) (mL : Meth K C "_let_go" fL)
    (FP : Fun K "_point" "Pile._point" sPoint fP fdP) (bP : Binds K fdP ["self", "pointers", "at", "number"] []) (mP : Meth K C "_point" fP) (FK : Fun K "check_hand" "check_hand" sCheck fK fdK) (bK : Binds K fdK ["hand"] []) (gK : mg "check_hand" = some (.ref fK)) (FY : Fun K "_slots_with" "Pile._slots_with" sSlotsWith fY fdY) (bY : Binds K fdY ["self", "hand", "slot"] []) (mY : Meth K C "_slots_with" fY) (FCS : Fun K "check_slot" "check_slot" sCheckSlot fCS fdCS) (bCS : Binds K fdCS ["slots", "slot"] []) (gCS : mg "check_slot" = some (.ref fCS)) :
    FnOk P w K mg base (L2N.CX P w) 3 f fd ["self", "hand", "slot"] (spEmpty C B eH eB eL) := by
  have GK : FnOk P w K mg base (L2N.CX P w) 1 fK fdK ["hand"] (spCheck eH) := ok_check FK T
  have GP : FnOk P w K mg base CX0 2 fP fdP ["self", "pointers", "at", "number"] (spPoint C B) := ok_point FP T FL bL mL
  have GY : FnOk P w K mg base (L2N.CX P w) 2 fY fdY ["self", "hand", "slot"] (spSlotsWith C B eB eL) := ok_slotswith FY T FCS bCS gCS
  refine okXN F scEmpty (fun vs H Q E h => ?_) (fun cdv A outer s H vs Q E hr h => ?_)
  · obtain ⟨p, P, R, h, s, rfl, _⟩ := h
    rfl
  · obtain ⟨p, P0, R, h, z, rfl, ⟨⟨g, A0⟩, W0⟩, kH, kB, kL, k⟩ := h
    have hr1 : Room 1 _ := hr.mono (by decide)
    refine ⟨_, pss_cons (ps_expr (pe_call GK hr1 rfl gK FK.kp bK .nil (L2N.passes_call (L2N.takes_of rfl rfl rfl rfl) (fun _ _ _ _ h => h)) (pa_cons (pv 1) pa_nil)))
      (pss_one (ps_ret (pe_meth (pv 0) T.clC mP GP hr bP .nil pass0 (pa_cons (pe_meth (pv 0) T.clC mY GY hr bY .nil (L2N.passes_call (L2N.takes_of rfl rfl rfl rfl) (fun _ _ _ _ h => h)) (pa_cons (pv 1) (pa_cons (pv 2) pa_nil))) (pa_cons (pv 2) (pa_cons pe_non pa_nil)))))), ?_⟩
    refine ⟨_, rfl, h, rfl, fun ch => ?_, fun ch => kH ch⟩
    have hpre : Pre P0 none := W0.pre fun n e => by cases e
    refine ⟨_, rfl, p, g.dx, _, rfl, A0.hp, pf_no _ _ _ (by decide +kernel) (by decide +kernel) (by decide +kernel), _, rfl, p, g.dx, _, rfl, A0.hp, pf_no _ _ _ (by decide +kernel) (by decide +kernel) (by decide +kernel), _, rfl, _, rfl, p, g, P0, R, h, z, rfl, A0, W0, ch, kB ch, kL ch, fun n b e hb cz => ?_⟩
    refine ⟨_, rfl, ?_⟩
    have zl : z.toNat < b.slots.length := by omega
    have k' := k ch n b e hb cz
    unfold ptSlot at k'
    rw [slotOf_eq hb] at k'
    have W' := ptSlot_ok hpre hb zl
    unfold ptSlot at W'
    rw [slotOf_eq hb] at W'
    exact ⟨p, g.sa n, g, P0, { P0 with boxes := chg (bumped P0.boxes none) n (setSlot z.toNat none) }, R, none, b.slots, z.toNat, (by rw [Int.toNat_of_nonneg cz.1]; rfl), A0, hpre.hx, zl,
      fun H1 A => A.slot' hb z.toNat, hpre.slot hb zl, fun r H' hr A => k' r H' hr ⟨⟨_, A⟩, W'⟩⟩
/-! ### take -/
theorem scTake : FnScope ["self", "hand", "other", "slot", "slots"] ["self", "hand", "other", "slot"] (defScope sTake) := ⟨rfl, rfl, rfl, by decide +kernel, rfl, by decide +kernel, by decide +kernel⟩
theorem ok_take {f fL fP fK fY fCS : Addr} {fd fdL fdP fdK fdY fdCS : FuncData} (F : Fun K "take" "Pile.take" sTake f fd) (T : Txt K mg C B eH eS eF eB eL) (FL : Fun K "_let_go" "Pile._let_go" sLetGo fL fdL) (bL : Binds K fdL ["self", "pointer"] []) (mL : Meth K C "_let_go" fL)
    (FP : Fun K "_point" "Pile._point" sPoint fP fdP) (bP : Binds K fdP ["self", "pointers", "at", "number"] []) (mP : Meth K C "_point" fP) (FK : Fun K "check_hand" "check_hand" sCheck fK fdK) (bK : Binds K fdK ["hand"] []) (gK : mg "check_hand" = some (.ref fK)) (FY : Fun K "_slots_with" "Pile._slots_with" sSlotsWith fY fdY) (bY : Binds K fdY ["self", "hand", "slot"] []) (mY : Meth K C "_slots_with" fY) (FCS : Fun K "check_slot" "check_slot" sCheckSlot fCS fdCS) (bCS : Binds K fdCS ["slots", "slot"] []) (gCS : mg "check_slot" = some (.ref fCS)) :
    FnOk P w K mg base (L2N.CX P w) 3 f fd ["self", "hand", "other", "slot"] (spTake C B eH eB eL) := by
  have GK : FnOk P w K mg base (L2N.CX P w) 1 fK fdK ["hand"] (spCheck eH) := ok_check FK T
  have GP : FnOk P w K mg base CX0 2 fP fdP ["self", "pointers", "at", "number"] (spPoint C B) := ok_point FP T FL bL mL
  have GY : FnOk P w K mg base (L2N.CX P w) 2 fY fdY ["self", "hand", "slot"] (spSlotsWith C B eB eL) := ok_slotswith FY T FCS bCS gCS
  refine okXN F scTake (fun vs H Q E h => ?_) (fun cdv A outer s H vs Q E hr h => ?_)
  · obtain ⟨p, P, R, h, o, s, rfl, _⟩ := h
    rfl
  · obtain ⟨p, P0, R, h, o, z, rfl, ⟨⟨g, A0⟩, W0⟩, kH, kO, kB, kL, k⟩ := h
    have hr1 : Room 1 _ := hr.mono (by decide)
    refine ⟨_, pss_cons (ps_expr (pe_call GK hr1 rfl gK FK.kp bK .nil (L2N.passes_call (L2N.takes_of rfl rfl rfl rfl) (fun _ _ _ _ h => h)) (pa_cons (pv 1) pa_nil))) (pss_cons (ps_expr (pe_call GK hr1 rfl gK FK.kp bK .nil (L2N.passes_call (L2N.takes_of rfl rfl rfl rfl) (fun _ _ _ _ h => h)) (pa_cons (pv 2) pa_nil)))
      (pss_cons (ps_set (i := 4) scTake.nd rfl (Or.inl rfl) (pe_meth (pv 0) T.clC mY GY hr bY .nil (L2N.passes_call (L2N.takes_of rfl rfl rfl rfl) (fun _ _ _ _ h => h)) (pa_cons (pv 2) (pa_cons (pv 3) pa_nil))))
      (pss_one (ps_ret (pe_meth (pv 0) T.clC mP GP hr bP .nil pass0 (pa_cons (pe_fld (pv 0) rfl) (pa_cons (pv 1) (pa_cons (pe_ix ix_list (pv 4) (pv 3) (fun _ _ => rfl)) pa_nil)))))))), ?_⟩
    refine ⟨_, rfl, h, rfl, fun ch => ?_, fun ch => kH ch⟩
    refine ⟨_, rfl, o, rfl, fun co => ?_, fun co => kO ch co⟩
    have h8 : h.toNat < 8 := by omega
    refine ⟨_, rfl, p, g.dx, _, rfl, A0.hp, pf_no _ _ _ (by decide +kernel) (by decide +kernel) (by decide +kernel), _, rfl, _, rfl, p, g, P0, R, o, z, rfl, A0, W0, co, kB ch co, kL ch co, fun n b e hb cz => ?_⟩
    have zl : z.toNat < b.slots.length := by omega
    have hpre : Pre P0 (b.slots.getD z.toNat none) := W0.pre fun n e => W0.slot hb e
    refine ⟨_, rfl, p, g.dx, _, rfl, A0.hp, pf_no _ _ _ (by decide +kernel) (by decide +kernel) (by decide +kernel), _, rfl, p, C, g.dx, _, _, rfl, A0.hp, T.clC, T.nH, pf_hands _ _ _, _, rfl, _, rfl, _, rfl, g.sa n, _, _, _, rfl, rfl, SqL.of (A0.hs n b hb), at_of (j := z.toNat) (by rw [Int.toNat_of_nonneg cz.1]) (lV_get zl), ?_⟩
    have k' := k ch co n b e hb cz
    exact ⟨p, g.lh, g, P0, { P0 with hands := P0.hands.set h.toNat (b.slots.getD z.toNat none), boxes := bumped P0.boxes (b.slots.getD z.toNat none) }, R, b.slots.getD z.toNat none, P0.hands, h.toNat, (by rw [Int.toNat_of_nonneg ch.1]; rfl), A0, hpre.hx, by rw [W0.hl]; exact h8,
      fun H1 A => ⟨A.hh, A.hand _⟩, hpre.hand h8, fun r H' hr A => k' r H' hr ⟨⟨_, A⟩, ptHand_ok hpre h8⟩⟩
/-! ### what a pile tells -/
theorem scHolds : FnScope ["self", "hand"] ["self", "hand"] (defScope sHolds) := ⟨rfl, rfl, rfl, by decide +kernel, rfl, by decide +kernel, by decide +kernel⟩
theorem ok_holds {f fK : Addr} {fd fdK : FuncData} (F : Fun K "holds" "Pile.holds" sHolds f fd) (T : Txt K mg C B eH eS eF eB eL) (FK : Fun K "check_hand" "check_hand" sCheck fK fdK) (bK : Binds K fdK ["hand"] []) (gK : mg "check_hand" = some (.ref fK)) :
    FnOk P w K mg base (L2N.CX P w) 2 f fd ["self", "hand"] (spHolds C B eH) := by
  have GK : FnOk P w K mg base (L2N.CX P w) 1 fK fdK ["hand"] (spCheck eH) := ok_check FK T
  refine okXN F scHolds (fun vs H Q E h => ?_) (fun cdv A outer s H vs Q E hr h => ?_)
  · obtain ⟨p, g, P, R, h, rfl, _⟩ := h
    rfl
  · obtain ⟨p, g, P0, R, h, rfl, A0, h8, kH, k⟩ := h
    refine ⟨_, pss_cons (ps_expr (pe_call GK hr rfl gK FK.kp bK .nil (L2N.passes_call (L2N.takes_of rfl rfl rfl rfl) (fun _ _ _ _ h => h)) (pa_cons (pv 1) pa_nil)))
      (pss_one (ps_ret (pe_ix ix_list (pe_fld (pv 0) rfl) (pv 1) (fun _ _ => rfl)))), ?_⟩
    refine ⟨_, rfl, h, rfl, fun ch => ?_, fun ch => kH ch⟩
    exact ⟨_, rfl, p, C, g.dx, _, _, rfl, A0.hp, T.clC, T.nH, pf_hands _ _ _, _, rfl, g.lh, _, _, _, rfl, rfl, SqL.of A0.hh, at_of (j := h.toNat) (by rw [Int.toNat_of_nonneg ch.1]) (lV_get (by omega)), k ch⟩
theorem scBox : FnScope ["self", "number"] ["self", "number"] (defScope sBox) := ⟨rfl, rfl, rfl, by decide +kernel, rfl, by decide +kernel, by decide +kernel⟩
theorem ok_box {f : Addr} {fd : FuncData} (F : Fun K "_box" "Pile._box" sBox f fd) (T : Txt K mg C B eH eS eF eB eL) : FnOk P w K mg base (L2N.CX P w) 1 f fd ["self", "number"] (spBox C B eB) := by
  refine okXN F scBox (fun vs H Q E h => ?_) (fun cdv A outer s H vs Q E hr h => ?_)
  · obtain ⟨p, g, P, R, h, rfl, _⟩ := h
    rfl
  · obtain ⟨p, g, P0, R, n, rfl, A0, kB, k⟩ := h
    have hu := hu_of hr
    refine ⟨_, pss_cons (ps_if (pt_cmp (pc_dnotin hu (pv 1) (pe_fld (pv 0) rfl))) (pss_one (L2N.ps_raise rfl (L2N.takes_of rfl rfl rfl rfl) (L2N.pmk_own PySem.F.excBase_ValueError T.eB.x T.eB.g T.eB.k (raises_own T.eB.b T.eB.t) rfl))) pss_nil)
      (pss_one (ps_ret (pe_dget hu (pe_fld (pv 0) rfl) (pv 1) (fun _ _ => rfl)))), ?_⟩
    refine ⟨_, rfl, _, rfl, p, C, g.dx, _, _, rfl, A0.hp, T.clC, T.nB, pf_boxes _ _ _, g.db, _, rfl, DGet.k (k := Sum.inl n) A0.hd, _, rfl, ?_⟩
    have hD := DGet.k (k := Sum.inl n) A0.hd
    rw [valV_dV] at hD ⊢
    cases e : get P0.boxes n with
    | none => exact iteT (kB e)
    | some b =>
      rw [e] at hD
      refine iteF ?_
      exact ⟨_, rfl, p, C, g.dx, _, _, rfl, A0.hp, T.clC, T.nB, pf_boxes _ _ _, _, rfl, g.db, _, rfl, hD, k b e⟩
theorem scPoints : FnScope ["self", "number"] ["self", "number"] (defScope sPoints) := ⟨rfl, rfl, rfl, by decide +kernel, rfl, by decide +kernel, by decide +kernel⟩
theorem ok_points {f fX : Addr} {fd fdX : FuncData} (F : Fun K "points" "Pile.points" sPoints f fd) (T : Txt K mg C B eH eS eF eB eL) (FX : Fun K "_box" "Pile._box" sBox fX fdX) (bX : Binds K fdX ["self", "number"] []) (mX : Meth K C "_box" fX) :
    FnOk P w K mg base (L2N.CX P w) 2 f fd ["self", "number"] (spPoints C B eB) := by
  have GX : FnOk P w K mg base (L2N.CX P w) 1 fX fdX ["self", "number"] (spBox C B eB) := ok_box FX T
  refine okXN F scPoints (fun vs H Q E h => ?_) (fun cdv A outer s H vs Q E hr h => ?_)
  · obtain ⟨p, g, P, R, h, rfl, _⟩ := h
    rfl
  · obtain ⟨p, g, P0, R, n, rfl, A0, hl6, kB, k⟩ := h
    refine ⟨_, pss_one (ps_ret (pe_callTy call_list_of (by rfl) T.list (by decide +kernel) (pa_cons (pe_fld (pe_meth (pv 0) T.clC mX GX hr bX .nil (L2N.passes_call (L2N.takes_of rfl rfl rfl rfl) (fun _ _ _ _ h => h)) (pa_cons (pv 1) pa_nil)) rfl) pa_nil))), ?_⟩
    refine ⟨_, rfl, p, g.dx, _, rfl, A0.hp, pf_no _ _ _ (by decide +kernel) (by decide +kernel) (by decide +kernel), _, rfl, p, g, P0, R, n, rfl, A0, kB, fun b hb => ?_⟩
    exact ⟨g.ba n, B, g.bd n, _, _, rfl, A0.hb n b hb, T.clB, T.nS, bf_slots _ _ _, g.sa n, _, rfl, .inl (SqL.of (A0.hs n b hb)), fun r hr => k b hb r hr⟩
theorem scWeighs : FnScope ["self", "number"] ["self", "number"] (defScope sWeighs) := ⟨rfl, rfl, rfl, by decide +kernel, rfl, by decide +kernel, by decide +kernel⟩
theorem ok_weighs {f fX : Addr} {fd fdX : FuncData} (F : Fun K "weighs" "Pile.weighs" sWeighs f fd) (T : Txt K mg C B eH eS eF eB eL) (FX : Fun K "_box" "Pile._box" sBox fX fdX) (bX : Binds K fdX ["self", "number"] []) (mX : Meth K C "_box" fX) :
    FnOk P w K mg base (L2N.CX P w) 2 f fd ["self", "number"] (spWeighs C B eB) := by
  have GX : FnOk P w K mg base (L2N.CX P w) 1 fX fdX ["self", "number"] (spBox C B eB) := ok_box FX T
  refine okXN F scWeighs (fun vs H Q E h => ?_) (fun cdv A outer s H vs Q E hr h => ?_)
  · obtain ⟨p, g, P, R, h, rfl, _⟩ := h
    rfl
  · obtain ⟨p, g, P0, R, n, rfl, A0, kB, k⟩ := h
    refine ⟨_, pss_one (ps_ret (pe_fld (pe_meth (pv 0) T.clC mX GX hr bX .nil (L2N.passes_call (L2N.takes_of rfl rfl rfl rfl) (fun _ _ _ _ h => h)) (pa_cons (pv 1) pa_nil)) rfl)), ?_⟩
    refine ⟨_, rfl, p, g.dx, _, rfl, A0.hp, pf_no _ _ _ (by decide +kernel) (by decide +kernel) (by decide +kernel), _, rfl, p, g, P0, R, n, rfl, A0, kB, fun b hb => ?_⟩
    exact ⟨g.ba n, B, g.bd n, _, _, rfl, A0.hb n b hb, T.clB, T.nW, bf_weight _ _ _, k b hb⟩
theorem scAlive : FnScope ["self"] ["self"] (defScope sAlive) := ⟨rfl, rfl, rfl, by decide +kernel, rfl, by decide +kernel, by decide +kernel⟩
theorem sorted_same {ys ks : List Int} (p : ys.Perm ks) (h : ys.Pairwise (· ≤ ·)) (hk : ks.Pairwise (· < ·)) : ys = ks :=
  p.eq_of_pairwise (fun a b _ _ h1 h2 => Int.le_antisymm h1 h2) h (hk.imp fun h => Int.le_of_lt h)
theorem ok_alive {f : Addr} {fd : FuncData} (F : Fun K "alive" "Pile.alive" sAlive f fd) (T : Txt K mg C B eH eS eF eB eL) : FnOk P w K mg base CX0 1 f fd ["self"] (spAlive C B) := by
  refine F.ok scAlive (fun vs H Q E h => ?_) (fun cdv A outer s H vs Q E hr h => ?_)
  · obtain ⟨p, g, P, R, rfl, _⟩ := h
    rfl
  · obtain ⟨p, g, P0, R, rfl, A0, W0, k⟩ := h
    refine ⟨_, pss_one (ps_ret (pe_callB (call_sortedDI rfl) (by rfl) T.sorted (by decide +kernel) (pa_cons (pe_fld (pv 0) rfl) pa_nil))), ?_⟩
    refine ⟨_, rfl, p, C, g.dx, _, _, rfl, A0.hp, T.clC, T.nB, pf_boxes _ _ _, g.db, _, keys P0.boxes, rfl, .inl A0.hd, dV_keys _ _, ?_, fun ys r hp hs hr => ?_⟩
    · have := W0.few
      have e : (keys P0.boxes).length = P0.boxes.length := List.length_map _
      omega
    · rw [sorted_same hp hs W0.ks]
      exact k r hr
theorem scSuspects : FnScope ["self", "number"] ["self"] (defScope sSuspects) := ⟨rfl, rfl, rfl, by decide +kernel, rfl, by decide +kernel, by decide +kernel⟩
theorem take_get {α : Type} : ∀ {l : List α} {i : Nat} {x : α}, l[i]? = some x → l.take (i + 1) = l.take i ++ [x]
  | [], i, x, h => by simp at h
  | a :: l, 0, x, h => by
    have e : a = x := Option.some.inj h
    subst e
    rfl
  | a :: l, i + 1, x, h => by
    have ih := take_get (l := l) (i := i) (x := x) h
    show a :: l.take (i + 1) = a :: l.take i ++ [x]
    rw [ih]
    rfl
theorem ok_suspects {f : Addr} {fd : FuncData} (F : Fun K "suspects" "Pile.suspects" sSuspects f fd) (T : Txt K mg C B eH eS eF eB eL) : FnOk P w K mg base CX0 1 f fd ["self"] (spSuspects C B) := by
  refine F.ok scSuspects (fun vs H Q E h => ?_) (fun cdv A outer s H vs Q E hr h => ?_)
  · obtain ⟨p, g, P, R, rfl, _⟩ := h
    rfl
  · obtain ⟨p, g, P0, R, rfl, A0, W0, k⟩ := h
    have hu := hu_of hr
    refine ⟨_, pss_one (ps_ret (pe_lc (own := [("number", 1)]) (g := gName 1) (tt := tB (tFld K (tDGet (tFld K (tVar 0) "_boxes") (tVar 1)) "suspect")) rfl scSuspects.nd (pi_list (pe_callB (call_sortedDI rfl) (by rfl) T.sorted (by decide +kernel) (pa_cons (pe_fld (pv 0) rfl) pa_nil)))
      (blkOk_by (N := ["self", "number"]) (sc := defScope sSuspects) (by decide +kernel)) (fun _ _ _ _ _ => pg_name (i := 1) scSuspects.nd rfl (Or.inl rfl))
      (fun _ _ _ _ _ => pts_one (pt_val (pe_fld (pe_dget hu (pe_fld (pv 0) rfl) (pv 1) (fun _ _ => rfl)) rfl))) (fun _ _ _ _ _ => by exact (pv 1)))), ?_⟩
    refine ⟨_, rfl, p, C, g.dx, _, _, rfl, A0.hp, T.clC, T.nB, pf_boxes _ _ _, g.db, _, keys P0.boxes, rfl, .inl A0.hd, dV_keys _ _, ?_, fun ys r hp hs hr => ?_⟩
    · have := W0.few
      have e : (keys P0.boxes).length = P0.boxes.length := List.length_map _
      omega
    · rw [sorted_same hp hs W0.ks]
      refine ⟨r, rfl, ⟨_, SqL.of upd_same⟩, fun D hD => ?_⟩
      have A1 := A0.new (o := .lst ((keys P0.boxes).map V.int)) hr
      have nrD : r ≠ D := ne_of_none upd_same hD
      have A2 := A1.new (o := .lst []) hD
      refine lc_list (K := K) (a := r) (xs := (keys P0.boxes).map V.int) (fun i H' => PileAt C B p g P0 (twoL R r D ((keys P0.boxes).map V.int) ((((keys P0.boxes).take i).filter fun n => match get P0.boxes n with | none => false | some b => b.sus).map V.int)) H') A2 ?_ ?_ ?_
      · intro i H' _ A
        exact SqL.of (A.same _ _ (by unfold twoL; rw [upd_ne nrD, upd_same]))
      · intro i y H' hi A
        obtain ⟨n, hn, rfl⟩ : ∃ n, (keys P0.boxes)[i]? = some n ∧ y = V.int n := by
          rw [List.getElem?_map] at hi
          cases e : (keys P0.boxes)[i]? with
          | none => rw [e] at hi; cases hi
          | some n =>
            rw [e] at hi
            exact ⟨n, rfl, (Option.some.inj hi).symm⟩
        obtain ⟨b, hb⟩ := get_keys.mpr (List.mem_of_getElem? hn)
        have hD' : DGet H' g.db (.int n) (some (V.ref (g.ba n))) := by
          have := DGet.k (k := Sum.inl n) A.hd
          rw [valV_dV, hb] at this
          exact this
        have hacc : H' D = some (.lst ((((keys P0.boxes).take i).filter fun n => match get P0.boxes n with | none => false | some b => b.sus).map V.int)) := A.same _ _ (by unfold twoL; rw [upd_same])
        refine ⟨rfl, _, rfl, p, C, g.dx, _, _, rfl, A.hp, T.clC, T.nB, pf_boxes _ _ _, _, rfl, g.db, _, rfl, hD', g.ba n, B, g.bd n, _, _, rfl, A.hb n b hb, T.clB, T.nU, bf_suspect _ _ _, b.sus, rfl, ?_⟩
        cases q : b.sus with
        | true =>
          refine iteT ⟨_, rfl, _, hacc, ?_, ?_⟩
          · rw [List.length_map, sizeLine_eq]
            have h1 := List.length_filter_le (fun n => match get P0.boxes n with | none => false | some b => b.sus) ((keys P0.boxes).take i)
            have h2 : ((keys P0.boxes).take i).length ≤ (keys P0.boxes).length := by rw [List.length_take]; exact Nat.min_le_right _ _
            have e : (keys P0.boxes).length = P0.boxes.length := List.length_map _
            have := W0.few
            omega
          · have := A.set (a := D) (o := .lst ((((keys P0.boxes).take i).filter fun n => match get P0.boxes n with | none => false | some b => b.sus).map V.int ++ [V.int n])) (by unfold twoL; rw [upd_same])
            rw [twoL_b] at this
            rw [take_get hn, List.filter_append, List.map_append]
            have e1 : (List.filter (fun n => match get P0.boxes n with | none => false | some b => b.sus) [n]) = [n] := by simp [hb, q]
            rw [e1]
            exact this
        | false =>
          refine iteF ?_
          rw [take_get hn, List.filter_append, List.map_append]
          have e1 : (List.filter (fun n => match get P0.boxes n with | none => false | some b => b.sus) [n]) = [] := by simp [hb, q]
          rw [e1, List.map_nil, List.append_nil]
          exact A
      · intro H' A
        have el : ((keys P0.boxes).map V.int).length = (keys P0.boxes).length := List.length_map _
        rw [el, List.take_length] at A
        refine k D H' (A0.same.free (by rw [upd_ne nrD.symm] at hD; exact hD)) (A.less fun b o e => ?_)
        by_cases q : b = D
        · rw [q, upd_same] at e
          rw [q]
          unfold twoL
          rw [upd_same]
          exact e
        · rw [upd_ne q] at e
          unfold twoL
          rw [upd_ne q, upd_ne (ne_of_none (A0.same _ _ e) hr)]
          exact e
end
end BP

namespace BP
open PySem L2
abbrev sReached : Stmt := top 17
abbrev sTrials : Stmt := top 18
abbrev sTidy : Stmt := top 19
abbrev sPointedAt : Stmt := top 20
abbrev nClear : List Str := ["self", "numbers", "number", "pointed", "box"]
abbrev nPointedAt : List Str := ["pile", "number", "pointed"]
abbrev nReached : List Str := ["pile", "numbers", "found", "waiting", "number"]
abbrev nTrials : List Str := ["pile", "looked_at", "from_without", "number", "pointed"]
abbrev nTidy : List Str := ["pile", "pairs", "kept", "freed", "number", "trial", "_"]
/-- met: the row as keys -/
def metV (row : List Int) : List (Key × V) := row.map fun n => (Sum.inl n, .bl true)
theorem metV_get (n : Int) : ∀ row : List Int, valV (metV row) (Sum.inl n : Key) = if n ∈ row then some (.bl true) else none
  | [] => rfl
  | m :: row => by
    have ih := metV_get n row
    show valV ((Sum.inl m, .bl true) :: metV row) _ = _
    by_cases c : m = n
    · rw [valV_pos (by rw [c]), if_pos (by rw [c]; exact List.mem_cons_self)]
    · rw [valV_neg (by intro z; injection z with z; exact c z), ih]
      by_cases q : n ∈ row
      · rw [if_pos q, if_pos (List.mem_cons_of_mem _ q)]
      · rw [if_neg q, if_neg (fun z => (List.mem_cons.mp z).elim (fun e => c e.symm) q)]
theorem metV_len (row : List Int) : (metV row).length = row.length := List.length_map _
theorem metV_keys (row : List Int) : (metV row).map (·.1) = row.map Sum.inl := by
  unfold metV
  rw [List.map_map]
  rfl
theorem metV_put {n : Int} {row : List Int} (h : n ∉ row) : putK (metV row) (Sum.inl n : Key) (.bl true) = metV (row ++ [n]) := by
  rw [putK_new _ (by rw [metV_get, if_neg h])]
  unfold metV
  rw [List.map_append]
  rfl
theorem strict {ys : List Int} (h : ys.Pairwise (· ≤ ·)) (n : ys.Nodup) : ys.Pairwise (· < ·) := by
  induction ys with
  | nil => exact .nil
  | cons y ys ih =>
    rw [List.pairwise_cons] at h ⊢
    rw [List.nodup_cons] at n
    refine ⟨fun z hz => ?_, ih h.2 n.2⟩
    have := h.1 z hz
    have : y ≠ z := fun e => n.1 (by rw [e]; exact hz)
    omega
theorem upd_self {H : Hp} {a : Addr} {o : HO} (h : H a = some o) : upd H a o = H := by
  funext b
  by_cases q : b = a
  · rw [q, upd_same, h]
  · rw [upd_ne q]
theorem dV_calmed (ba : Int → Addr) (S : List Int) : ∀ bs, dV ba (calmed bs S) = dV ba bs
  | [] => rfl
  | e :: bs => by
    show dV ba ((if e.1 ∈ S then (e.1, calm e.2) else e) :: calmed bs S) = _
    rw [dV_cons, dV_cons, dV_calmed ba S bs]
    by_cases h : e.1 ∈ S <;> simp [h]
theorem take_get' {α : Type} : ∀ {l : List α} {i : Nat} {x : α}, l[i]? = some x → l.take (i + 1) = l.take i ++ [x]
  | [], i, x, h => by simp at h
  | a :: l, 0, x, h => by
    have e : a = x := Option.some.inj h
    subst e
    rfl
  | a :: l, i + 1, x, h => by
    have ih := take_get' (l := l) (i := i) (x := x) h
    show a :: l.take (i + 1) = a :: l.take i ++ [x]
    rw [ih]
    rfl
theorem not_take {l : List Int} (hn : l.Nodup) {i : Nat} {x : Int} (h : l[i]? = some x) : x ∉ l.take i := by
  intro hx
  have := hn
  rw [← List.take_append_drop i l, List.nodup_append] at this
  refine this.2.2 x hx x ?_ rfl
  obtain ⟨hi, e⟩ := List.getElem?_eq_some_iff.mp h
  rw [List.drop_eq_getElem_cons hi, e]
  exact List.mem_cons_self
theorem ints_at' {l : List Int} {i : Nat} {y : V} (hi : (l.map V.int)[i]? = some y) : ∃ n, l[i]? = some n ∧ y = V.int n := by
  rw [List.getElem?_map] at hi
  cases e : l[i]? with
  | none => rw [e] at hi; cases hi
  | some o =>
    rw [e] at hi
    exact ⟨o, rfl, (Option.some.inj hi).symm⟩
theorem lV_at' {l : List (Option Int)} {i : Nat} {y : V} (hi : (lV l)[i]? = some y) : ∃ o, l[i]? = some o ∧ y = oV o := by
  unfold lV at hi
  rw [List.getElem?_map] at hi
  cases e : l[i]? with
  | none => rw [e] at hi; cases hi
  | some o =>
    rw [e] at hi
    exact ⟨o, rfl, (Option.some.inj hi).symm⟩
def spClear (C B : Addr) : Sp := fun vs H Q _ => ∃ (p a : Addr) (g : Geo) (P : Pl) (R : Hp) (F : List Int), vs = [.ref p, .ref a] ∧ PileAt C B p g P R H ∧ Wf P [] ∧ R a = some (.lst (F.map V.int)) ∧ F.Nodup ∧ (∀ n, n ∈ F → ∃ b, get P.boxes n = some b) ∧
  ∀ H', PileAt C B p g (tidied P F) R H' → Q .non H'
def spPointedAt (C B eB : Addr) : Sp := fun vs H Q E => ∃ (p : Addr) (g : Geo) (P : Pl) (R : Hp) (n : Int), vs = [.ref p, .int n] ∧ PileAt C B p g P R H ∧ (∀ b, get P.boxes n = some b → b.slots.length ≤ 6) ∧
  (get P.boxes n = none → E (.ref eB) none H) ∧ (∀ b, get P.boxes n = some b → ∀ r H', R r = none → PileAt C B p g P (upd R r (.lst ((b.slots.filterMap id).map V.int))) H' → Q (.ref r) H')
def spReached (K : PySem.W.Frag) (C B eB : Addr) : Sp := fun vs H Q E => ∃ (p a : Addr) (g : Geo) (P : Pl) (R : Hp) (l : List Int), vs = [.ref p, .ref a] ∧ PileAt C B p g P R H ∧ Wf P [] ∧ SqL K H a (l.map V.int) ∧ l.length ≤ 1000 ∧
  ((∃ s, s ∈ l ∧ get P.boxes s = none) → ∀ H', PileAt C B p g P R H' → E (.ref eB) none H') ∧
  ((∀ s, s ∈ l → ∃ b, get P.boxes s = some b) → ∀ (r : Addr) (ys : List Int) (H' : Hp), R r = none → ys.Pairwise (· < ·) → (∀ n, n ∈ ys ↔ From P.boxes (l.map some) n) → PileAt C B p g P (upd R r (.lst (ys.map V.int))) H' → Q (.ref r) H')
/-- n and the told trial number of the row A -/
def wtOf (P : Pl) (n : Int) : Int := match get P.boxes n with
  | none => 0
  | some b => b.wt
def triNo (P : Pl) (A : List Int) (n : Int) : Int := wtOf P n - ((scnt (inn P.boxes A) n : Nat) : Int)
structure ToldT (P : Pl) (A : List Int) (ts : List Addr) (R R' : Hp) : Prop where
  len : ts.length = A.length
  new : ∀ t, t ∈ ts → R t = none
  at_ : ∀ (i : Nat) (t : Addr) (n : Int), ts[i]? = some t → A[i]? = some n → R' t = some (.tup [.int n, .int (triNo P A n)])
def spTrials (C B : Addr) : Sp := fun vs H Q _ => ∃ (p : Addr) (g : Geo) (P : Pl) (R : Hp), vs = [.ref p] ∧ PileAt C B p g P R H ∧ Wf P [] ∧
  ∀ (A : List Int) (ts : List Addr) (r : Addr) (R' H' : Hp), A.Pairwise (· < ·) → (∀ n, n ∈ A ↔ SL P n) → Same R R' → R r = none → R' r = some (.lst (ts.map V.ref)) → ToldT P A ts R R' → PileAt C B p g P R' H' → Q (.ref r) H'
def spTidy (C B : Addr) : Sp := fun vs H Q _ => ∃ (p : Addr) (g : Geo) (P : Pl) (R : Hp), vs = [.ref p] ∧ PileAt C B p g P R H ∧ Good P ∧
  ∀ (r : Addr) (H' : Hp), R r = none → PileAt C B p g (tidied P (deadF P)) (upd R r (.lst ((deadF P).map V.int))) H' → Q (.ref r) H'
/-- a dict of numbers by numbers -/
def trV (A : List Int) (f : Int → Int) : List (Key × V) := A.map fun n => (Sum.inl n, .int (f n))
theorem trV_get (f : Int → Int) (n : Int) : ∀ A : List Int, valV (trV A f) (Sum.inl n : Key) = if n ∈ A then some (.int (f n)) else none
  | [] => rfl
  | m :: A => by
    have ih := trV_get f n A
    show valV ((Sum.inl m, .int (f m)) :: trV A f) _ = _
    by_cases c : m = n
    · rw [valV_pos (by rw [c]), if_pos (by rw [c]; exact List.mem_cons_self), c]
    · rw [valV_neg (by intro z; injection z with z; exact c z), ih]
      by_cases q : n ∈ A
      · rw [if_pos q, if_pos (List.mem_cons_of_mem _ q)]
      · rw [if_neg q, if_neg (fun z => (List.mem_cons.mp z).elim (fun e => c e.symm) q)]
theorem trV_len (A : List Int) (f : Int → Int) : (trV A f).length = A.length := List.length_map _
theorem trV_new {n : Int} {A : List Int} {f : Int → Int} (h : n ∉ A) : putK (trV A f) (Sum.inl n : Key) (.int (f n)) = trV (A ++ [n]) f := by
  rw [putK_new _ (by rw [trV_get, if_neg h])]
  unfold trV
  rw [List.map_append]
  rfl
theorem trV_old {n v : Int} {f : Int → Int} {A : List Int} (h : n ∈ A) : putK (trV A f) (Sum.inl n : Key) (.int v) = trV A fun m => if m = n then v else f m := by
  unfold putK
  rw [if_pos (by rw [valV_any, trV_get, if_pos h]; rfl)]
  unfold trV
  rw [List.map_map]
  refine List.map_congr_left fun x _ => ?_
  show (if (Sum.inl x : Key) = Sum.inl n then ((Sum.inl x : Key), V.int v) else (Sum.inl x, V.int (f x))) = (Sum.inl x, V.int (if x = n then v else f x))
  by_cases c : x = n
  · subst c; rw [if_pos rfl, if_pos rfl]
  · rw [if_neg (by intro z; injection z with z; exact c z), if_neg c]
theorem trV_keys (A : List Int) (f : Int → Int) : (trV A f).map (·.1) = A.map Sum.inl := by
  unfold trV
  rw [List.map_map]
  rfl
theorem cnt_fm (n : Int) : ∀ l : List (Option Int), (l.filterMap id).count n = cnt l n
  | [] => rfl
  | none :: l => by
    rw [cnt_cons, show (none :: l).filterMap id = l.filterMap id from rfl, cnt_fm n l]
    simp [one]
  | some m :: l => by
    rw [cnt_cons, show (some m :: l).filterMap id = m :: l.filterMap id from rfl, List.count_cons, cnt_fm n l]
    unfold one
    by_cases c : m = n
    · simp [c]; omega
    · simp [c]
theorem paired_len {α β : Type} {F : α → β → Prop} : ∀ {a : List α} {b : List β}, Paired F a b → a.length = b.length ∧ ∀ (i : Nat) (x : α) (y : β), a[i]? = some x → b[i]? = some y → F x y
  | _, _, .nil => ⟨rfl, fun i x y h => by simp at h⟩
  | _, _, .cons r t => by
    obtain ⟨h1, h2⟩ := paired_len t
    refine ⟨by simp [h1], fun i x y hx hy => ?_⟩
    cases i with
    | zero =>
      have e1 := Option.some.inj hx
      have e2 := Option.some.inj hy
      rw [← e1, ← e2]
      exact r
    | succ i => exact h2 i x y hx hy
/-- what suspects lead to -/
theorem mem_suspT {P : Pl} {s : Int} : s ∈ susp P ↔ ∃ b, get P.boxes s = some b ∧ b.sus = true := by
  unfold susp
  rw [List.mem_filter]
  constructor
  · rintro ⟨h1, h2⟩
    obtain ⟨b, hb⟩ := get_keys.mpr h1
    rw [hb] at h2
    exact ⟨b, hb, h2⟩
  · rintro ⟨b, hb, hs⟩
    exact ⟨get_keys.mp ⟨b, hb⟩, by rw [hb]; exact hs⟩
theorem from_susp {P : Pl} {n : Int} : From P.boxes ((susp P).map some) n ↔ SL P n := by
  constructor
  · rintro ⟨s, hs, p⟩
    obtain ⟨b, hb, h⟩ := mem_suspT.mp (mem_some.mp hs)
    exact ⟨s, b, hb, h, p⟩
  · rintro ⟨s, b, hb, h, p⟩
    exact ⟨s, mem_some.mpr (mem_suspT.mpr ⟨b, hb, h⟩), p⟩
theorem susp_len (P : Pl) : (susp P).length ≤ P.boxes.length := by
  have e : (keys P.boxes).length = P.boxes.length := List.length_map _
  rw [← e]
  exact List.length_filter_le _ _
section
variable {P : Program} {w : World} {K : PySem.W.Frag} {mg : Str → Option Value} {base : Heap} {C B eH eS eF eB eL : Addr}
/-! ### clear_away -/
theorem scClear : FnScope nClear ["self", "numbers"] (defScope sClear) := ⟨rfl, rfl, rfl, by decide +kernel, rfl, by decide +kernel, by decide +kernel⟩
theorem ok_clear {f : Addr} {fd : FuncData} (F : Fun K "clear_away" "Pile.clear_away" sClear f fd) (T : Txt K mg C B eH eS eF eB eL) : FnOk P w K mg base CX0 1 f fd ["self", "numbers"] (spClear C B) := by
  refine F.ok scClear (fun vs H Q E h => ?_) (fun cdv A outer s H vs Q E hr h => ?_)
  · obtain ⟨p, a, g, P, R, F, rfl, _⟩ := h
    rfl
  · obtain ⟨p, a, g, P0, R, F, rfl, A0, W, ha, hF, hal, k⟩ := h
    have nd := scClear.nd
    have hu := hu_of hr
    refine ⟨_, (pss_cons (ps_for PassesOwn.never rfl (pi_list (pv 1)) (pg_name (i := 2) nd rfl (Or.inl rfl))
      (pss_one (ps_for PassesOwn.never rfl (pi_list (pe_fld (pe_dget hu (pe_fld (pv 0) rfl) (pv 2) (fun _ _ => rfl)) rfl)) (pg_name (i := 3) nd rfl (Or.inl rfl))
      (pss_one (ps_mid (ps_if (pt_cmp (pc_notN (pv 3))) (pss_cons (ps_set (i := 4) nd rfl (Or.inl rfl) (pe_dget hu (pe_fld (pv 0) rfl) (pv 3) (fun _ _ => rfl)))
      (pss_one (ps_fldaug (pv 4) pe_int in_sub))) pss_nil))))))
      (pss_cons (ps_for PassesOwn.never rfl (pi_list (pv 1)) (pg_name (i := 2) nd rfl (Or.inl rfl))
      (pss_one (ps_ddel (pe_fld (pv 0) rfl) (pv 2))))
      (pss_one (ps_lock (ps_for PassesOwn.never rfl (pi_values (pe_fld (pv 0) rfl)) (pg_name (i := 4) nd rfl (Or.inl rfl))
      (pss_one (ps_fld (pv 4) pe_bl rfl))))))), ?_⟩
    have e0 : ({ P0 with boxes := lowr P0.boxes fun n => scnt (inn P0.boxes (F.take 0)) n } : Pl) = P0 := by
      rw [show (fun n => scnt (inn P0.boxes (F.take 0)) n) = fun _ => 0 from funext fun n => inn_nil _ n, lowr_0]
    refine ⟨_, rfl, a, rfl, ⟨_, SqL.of (A0.same _ _ ha)⟩, for_list (K := K) (a := a) (xs := F.map V.int) (fun i σ H' => ∃ v2 v3 v4 : Option V, σ = [some (.ref p), some (.ref a), v2, v3, v4] ∧
      PileAt C B p g { P0 with boxes := lowr P0.boxes fun n => scnt (inn P0.boxes (F.take i)) n } R H') ⟨none, none, none, rfl, by rw [e0]; exact A0⟩ (fun i σ H' _ ⟨_, _, _, _, A⟩ => SqL.of (A.same _ _ ha)) ?_ ?_⟩
    · rintro i y σ H1 hi ⟨v2, v3, v4, rfl, A1⟩
      obtain ⟨n, hn, rfl⟩ := ints_at' hi
      obtain ⟨b, hb⟩ := hal n (List.mem_of_getElem? hn)
      have gb : ∀ (c : Int → Nat), get (lowr P0.boxes c) n = some { b with wt := b.wt - (c n : Int) } := fun c => by rw [get_lowr, hb]; rfl
      have hD : DGet H1 g.db (.int n) (some (V.ref (g.ba n))) := by
        have := DGet.k (k := Sum.inl n) A1.hd
        rw [valV_dV, gb] at this
        exact this
      refine ⟨_, rfl, p, C, g.dx, _, _, rfl, A1.hp, T.clC, T.nB, pf_boxes _ _ _, _, rfl, g.db, _, rfl, hD, g.ba n, B, g.bd n, _, _, rfl, A1.hb n _ (gb _), T.clB, T.nS, bf_slots _ _ _, g.sa n, rfl, ⟨_, SqL.of (A1.hs n _ (gb _))⟩, ?_⟩
      refine for_list (K := K) (a := g.sa n) (xs := lV b.slots) (fun j σ H' => ∃ v3 v4 : Option V, σ = [some (.ref p), some (.ref a), some (.int n), v3, v4] ∧
        PileAt C B p g { P0 with boxes := lowr P0.boxes fun m => scnt (inn P0.boxes (F.take i)) m + cnt (b.slots.take j) m } R H') ⟨v3, v4, rfl, A1⟩ (fun j σ H' _ ⟨_, _, _, A⟩ => by have := A.hs n _ (gb fun m => scnt (inn P0.boxes (F.take i)) m + cnt (b.slots.take j) m); exact SqL.of this) ?_ ?_
      · clear A1 hD
        rintro j y σ H2 hj ⟨v3, v4, rfl, A2⟩
        obtain ⟨o, ho, rfl⟩ := lV_at' hj
        refine ⟨_, ?_, fun σ' H' h => h⟩
        refine ⟨_, rfl, _, rfl, ?_⟩
        rw [take_get' ho]
        cases o with
        | none =>
          refine if_neg_of (by show (!decide (V.non = V.non)) = false; rw [decide_eq_true rfl]; rfl) ?_
          refine ⟨_, _, rfl, ?_⟩
          rw [show (fun m => scnt (inn P0.boxes (F.take i)) m + cnt (b.slots.take j ++ [none]) m) = fun m => scnt (inn P0.boxes (F.take i)) m + cnt (b.slots.take j) m from funext fun m => by rw [cnt_append, cnt_cons, cnt_nil]; simp [one]]
          exact A2
        | some m =>
          refine if_pos_of (by show (!decide (V.int m = V.non)) = true; rw [decide_eq_false (by intro z; cases z)]; rfl) ?_
          obtain ⟨bm, hbm⟩ : ∃ c, get P0.boxes m = some c := W.slot hb (i := j) (by rw [List.getD_eq_getElem?_getD, ho]; rfl)
          have gm : ∀ (c : Int → Nat), get (lowr P0.boxes c) m = some { bm with wt := bm.wt - (c m : Int) } := fun c => by rw [get_lowr, hbm]; rfl
          have hD : DGet H2 g.db (.int m) (some (V.ref (g.ba m))) := by
            have := DGet.k (k := Sum.inl m) A2.hd
            rw [valV_dV, gm] at this
            exact this
          have gm' := gm fun m => scnt (inn P0.boxes (F.take i)) m + cnt (b.slots.take j) m
          have hB := A2.hb m _ gm'
          refine ⟨_, rfl, p, C, g.dx, _, _, rfl, A2.hp, T.clC, T.nB, pf_boxes _ _ _, _, rfl, g.db, _, rfl, hD, ?_⟩
          refine ⟨_, rfl, g.ba m, B, g.bd m, _, _, rfl, hB, T.clB, T.nW, bf_weight _ _ _, _, _, rfl, rfl, g.bd m, _, hB, (by rw [bf_len]; decide), ?_⟩
          rw [bf_putw]
          have A3 := A2.box gm' less rfl
          rw [show ({ ({ P0 with boxes := lowr P0.boxes fun m => scnt (inn P0.boxes (F.take i)) m + cnt (b.slots.take j) m } : Pl) with boxes := chg ({ P0 with boxes := lowr P0.boxes fun m => scnt (inn P0.boxes (F.take i)) m + cnt (b.slots.take j) m } : Pl).boxes m less } : Pl) =
            { P0 with boxes := lowr P0.boxes fun k => scnt (inn P0.boxes (F.take i)) k + cnt (b.slots.take j ++ [some m]) k } from by
              rw [show chg ({ P0 with boxes := lowr P0.boxes fun m => scnt (inn P0.boxes (F.take i)) m + cnt (b.slots.take j) m } : Pl).boxes m less = _ from chg_lowr m (fun m => scnt (inn P0.boxes (F.take i)) m + cnt (b.slots.take j) m) (fun k => scnt (inn P0.boxes (F.take i)) k + cnt (b.slots.take j ++ [some m]) k) (fun k => by rw [cnt_append, cnt_cons, cnt_nil]; omega) _]] at A3
          exact ⟨_, _, rfl, A3⟩
      · clear A1 hD
        rintro σ H2 ⟨v3, v4, rfl, A2⟩
        rw [lV_len, List.take_length] at A2
        refine ⟨_, _, _, rfl, ?_⟩
        rw [take_get' hn, show (fun m => scnt (inn P0.boxes (F.take i ++ [n])) m) = fun m => scnt (inn P0.boxes (F.take i)) m + cnt b.slots m from funext fun m => scnt_inn_snoc m W.nd hb (not_take hF hn)]
        exact A2
    · clear e0
      rintro σ H1 ⟨v2, v3, v4, rfl, A1⟩
      rw [List.length_map, List.take_length] at A1
      have al2 : ∀ i n, F[i]? = some n → ∃ b, get (out (lowr P0.boxes fun n => scnt (inn P0.boxes F) n) (F.take i)) n = some b := fun i n hn => by
        obtain ⟨b, hb⟩ := hal n (List.mem_of_getElem? hn)
        rw [get_out, if_neg (not_take hF hn), get_lowr, hb]
        exact ⟨_, rfl⟩
      refine ⟨_, rfl, a, rfl, ⟨_, SqL.of (A1.same _ _ ha)⟩, for_list (K := K) (a := a) (xs := F.map V.int) (fun i σ H' => ∃ v2 : Option V, σ = [some (.ref p), some (.ref a), v2, v3, v4] ∧
        PileAt C B p g { P0 with boxes := out (lowr P0.boxes fun n => scnt (inn P0.boxes F) n) (F.take i) } R H') ⟨v2, rfl, by rw [List.take_zero, out_nil]; exact A1⟩ (fun i σ H' _ ⟨_, _, A⟩ => SqL.of (A.same _ _ ha)) ?_ ?_⟩
      · clear A1
        rintro i y σ H2 hi ⟨v2, rfl, A2⟩
        obtain ⟨n, hn, rfl⟩ := ints_at' hi
        obtain ⟨b, hb⟩ := al2 i n hn
        refine ⟨_, rfl, p, C, g.dx, _, _, rfl, A2.hp, T.clC, T.nB, pf_boxes _ _ _, _, rfl, g.db, _, Sum.inl n, rfl, A2.hd, rfl, (by rw [valV_dV, hb]; rfl), ?_⟩
        have A3 := A2.del n
        refine ⟨_, rfl, ?_⟩
        rw [take_get' hn, ← rm_out]
        exact A3
      · clear A1
        rintro σ H2 ⟨v2, rfl, A2⟩
        rw [List.length_map, List.take_length] at A2
        generalize hbs : out (lowr P0.boxes fun n => scnt (inn P0.boxes F) n) F = bs at A2
        refine ⟨g.db, _, A2.hd, trivial, fun od => ?_⟩
        refine ⟨_, rfl, p, C, g.dx, _, _, rfl, (by rw [upd_ne A2.p_db]; exact A2.hp), T.clC, T.nB, pf_boxes _ _ _, g.db, od, _, rfl, upd_same, ?_⟩
        refine for_it walk_values (fun i σ H' => ∃ v4 : Option V, σ = [some (.ref p), some (.ref a), v2, v3, v4] ∧ ∃ H0, PileAt C B p g { P0 with boxes := calmed bs ((keys bs).take i) } R H0 ∧ H' = upd H0 g.db (.frz od (.dK (dV g.ba bs))))
          ⟨v4, rfl, H2, by rw [List.take_zero, calmed_nil]; exact A2, rfl⟩ (fun i σ H' _ ⟨_, _, H0, _, e⟩ => by rw [e]; exact upd_same) ?_ ?_
        · clear A2
          rintro i x σ H3 H4 hi ⟨v4, rfl, H0, A3, rfl⟩ ⟨rfl, ky, hky⟩
          rw [dV_len] at hi
          obtain ⟨e, he⟩ : ∃ e, bs[i]? = some e := ⟨_, List.getElem?_eq_getElem hi⟩
          have hk : (keys bs)[i]? = some e.1 := by unfold keys; rw [List.getElem?_map, he]; rfl
          have hx : x = V.ref (g.ba e.1) := by
            unfold dV at hky
            rw [List.getElem?_map, he] at hky
            have := Option.some.inj hky
            injection this with _ h2
            exact h2.symm
          subst hx
          obtain ⟨b, hb⟩ := get_keys.mpr (List.mem_of_getElem? hk)
          have gb : ∀ S, get (calmed bs S) e.1 = some (if e.1 ∈ S then calm b else b) := fun S => by rw [get_calmed, hb]; rfl
          have hB := A3.hb e.1 _ (gb _)
          have nbd := A3.ba_db (gb _)
          refine ⟨_, rfl, g.ba e.1, B, g.bd e.1, _, rfl, (by rw [upd_ne nbd]; exact hB), T.clB, T.nU, (by rw [bf_len]; decide), ?_⟩
          rw [bf_puts, upd_comm nbd.symm]
          have A4 := A3.box (gb _) calm rfl
          refine ⟨_, rfl, _, ?_, rfl⟩
          rw [take_get' hk, ← chg_calmed]
          exact A4
        · clear A2
          rintro σ H3 ⟨v4, rfl, H0, A3, rfl⟩
          refine ⟨upd_same, ?_⟩
          rw [upd_upd]
          have hd0 := A3.hd
          rw [show dV g.ba ({ P0 with boxes := calmed bs ((keys bs).take (dV g.ba bs).length) } : Pl).boxes = dV g.ba bs from dV_calmed _ _ _] at hd0
          rw [upd_self hd0]
          have el : (keys bs).take (dV g.ba bs).length = keys bs := List.take_of_length_le (by rw [dV_len]; exact Nat.le_of_eq (List.length_map _))
          rw [el, ← hbs, out_lowr, passes (fun n => rfl)] at A3
          exact k _ A3
/-! ### pointed_at -/
theorem scPointedAt : FnScope nPointedAt ["pile", "number"] (defScope sPointedAt) := ⟨rfl, rfl, rfl, by decide +kernel, rfl, by decide +kernel, by decide +kernel⟩
theorem ok_pointedat {f fT : Addr} {fd dT : FuncData} (F : Fun K "pointed_at" "pointed_at" sPointedAt f fd) (T : Txt K mg C B eH eS eF eB eL) (GT : FnOk P w K mg base (L2N.CX P w) 2 fT dT ["self", "number"] (spPoints C B eB)) (bT : Binds K dT ["self", "number"] []) (mT : Meth K C "points" fT) :
    FnOk P w K mg base (L2N.CX P w) 3 f fd ["pile", "number"] (spPointedAt C B eB) := by
  refine okXN F scPointedAt (fun vs H Q E h => ?_) (fun cdv A outer s H vs Q E hr h => ?_)
  · obtain ⟨p, g, P, R, n, rfl, _⟩ := h
    rfl
  · obtain ⟨p, g, P0, R, n, rfl, A0, hl6, kB, k⟩ := h
    have nd := scPointedAt.nd
    have hr2 : Room 2 _ := hr
    refine ⟨_, (pss_one (ps_ret (pe_lc (own := [("pointed", 2)]) (g := gName 2) (tt := tB (tNotN (tVar 2))) (te := tVar 2) (by rfl) nd (pi_list (pe_meth (pv 0) T.clC mT GT hr2 bT .nil (L2N.passes_call (L2N.takes_of rfl rfl rfl rfl) (fun _ _ _ _ h => h)) (pa_cons (pv 1) pa_nil))) (blkOk_by (N := nPointedAt) (sc := defScope sPointedAt) (by decide +kernel)) (fun _ _ _ _ _ => pg_name (i := 2) nd rfl (Or.inl rfl)) (fun _ _ _ _ _ => pts_one (pt_cmp (pc_notN (pv 2)))) (fun _ _ _ _ _ => pv 2)))), ?_⟩
    refine ⟨_, rfl, p, g.dx, _, rfl, A0.hp, pf_no _ _ _ (by decide +kernel) (by decide +kernel) (by decide +kernel), _, rfl, p, g, P0, R, n, rfl, A0, hl6, kB, fun b hb r hr => ⟨r, rfl, ⟨_, SqL.of upd_same⟩, fun D hD => ?_⟩⟩
    have nrD : r ≠ D := ne_of_none upd_same hD
    have A1 := A0.new (o := .lst (lV b.slots)) hr
    have A2 := A1.new (o := .lst []) hD
    refine lc_list (K := K) (a := r) (xs := lV b.slots) (fun i H' => PileAt C B p g P0 (twoL R r D (lV b.slots) (((b.slots.take i).filterMap id).map V.int)) H') A2 (fun i H' _ A => SqL.of (A.same _ _ (by unfold twoL; rw [upd_ne nrD, upd_same]))) ?_ ?_
    · intro i y H' hi A
      obtain ⟨o, ho, rfl⟩ := lV_at' hi
      refine ⟨rfl, _, rfl, _, rfl, ?_⟩
      rw [take_get' ho, List.filterMap_append]
      cases o with
      | none =>
        refine if_neg_of (by show (!decide (V.non = V.non)) = false; rw [decide_eq_true rfl]; rfl) ?_
        rw [show List.filterMap id [(none : Option Int)] = [] from rfl, List.append_nil]
        exact A
      | some m =>
        refine if_pos_of (by show (!decide (V.int m = V.non)) = true; rw [decide_eq_false (by intro z; cases z)]; rfl) ?_
        refine ⟨_, rfl, _, A.same _ _ (by unfold twoL; rw [upd_same]), ?_, ?_⟩
        · rw [List.length_map, sizeLine_eq]
          have h1 := List.length_filterMap_le (f := (id : Option Int → Option Int)) (l := b.slots.take i)
          have h2 : (b.slots.take i).length ≤ b.slots.length := by rw [List.length_take]; exact Nat.min_le_right _ _
          have := hl6 b hb
          omega
        · have := A.set (a := D) (o := .lst (((b.slots.take i).filterMap id).map V.int ++ [V.int m])) (by unfold twoL; rw [upd_same])
          rw [twoL_b] at this
          rw [show List.filterMap id [some m] = [m] from rfl, List.map_append]
          exact this
    · intro H' A
      rw [lV_len, List.take_length] at A
      refine k b hb D H' (A0.same.free (by rw [upd_ne nrD.symm] at hD; exact hD)) (A.less fun c o e => ?_)
      by_cases q : c = D
      · rw [q, upd_same] at e
        rw [q]
        unfold twoL
        rw [upd_same]
        exact e
      · rw [upd_ne q] at e
        unfold twoL
        rw [upd_ne q, upd_ne (ne_of_none (A0.same _ _ e) hr)]
        exact e
/-! ### reached -/
/-- what was found, and what waits -/
def fw (R : Hp) (wl d : Addr) (wt row : List Int) : Hp := upd (upd R wl (.lst (wt.map V.int))) d (.dK (metV row))
section
variable {p wl d : Addr} {g : Geo} {P' : Pl} {R H : Hp} {wt row : List Int}
theorem fw_d : fw R wl d wt row d = some (.dK (metV row)) := upd_same
theorem fw_w (h : wl ≠ d) : fw R wl d wt row wl = some (.lst (wt.map V.int)) := by unfold fw; rw [upd_ne h, upd_same]
theorem fw_setw (h : wl ≠ d) (A : PileAt C B p g P' (fw R wl d wt row) H) (wt' : List Int) : PileAt C B p g P' (fw R wl d wt' row) (upd H wl (.lst (wt'.map V.int))) := by
  have := A.set (a := wl) (o := .lst (wt'.map V.int)) (fw_w h)
  unfold fw at this
  rw [upd_comm h.symm, upd_upd] at this
  exact this
theorem fw_put (A : PileAt C B p g P' (fw R wl d wt row) H) {n : Int} (hn : n ∉ row) : PileAt C B p g P' (fw R wl d wt (row ++ [n])) (upd H d (.dK (putK (metV row) (Sum.inl n : Key) (.bl true)))) := by
  have := A.set (a := d) (o := .dK (putK (metV row) (Sum.inl n : Key) (.bl true))) fw_d
  unfold fw at this
  rw [upd_upd, metV_put hn] at this
  rw [metV_put hn]
  exact this
theorem fw_o {a : Addr} (h1 : a ≠ wl) (h2 : a ≠ d) : fw R wl d wt row a = R a := by unfold fw; rw [upd_ne h2, upd_ne h1]
theorem fw_less (hw : R wl = none) (hd : R d = none) (A : PileAt C B p g P' (fw R wl d wt row) H) : PileAt C B p g P' R H := A.less fun b o e => by
  rw [fw_o (ne_of_none e hw) (ne_of_none e hd)]
  exact e
end
theorem fm_len (l : List (Option Int)) : (l.filterMap id).length ≤ l.length := List.length_filterMap_le _ _
theorem scReached : FnScope nReached ["pile", "numbers"] (defScope sReached) := ⟨rfl, rfl, rfl, by decide +kernel, rfl, by decide +kernel, by decide +kernel⟩
theorem ok_reached {f fPA : Addr} {fd dPA : FuncData} (F : Fun K "reached" "reached" sReached f fd) (T : Txt K mg C B eH eS eF eB eL) (GPA : FnOk P w K mg base (L2N.CX P w) 3 fPA dPA ["pile", "number"] (spPointedAt C B eB)) (FPA : Fun K "pointed_at" "pointed_at" sPointedAt fPA dPA) (bPA : Binds K dPA ["pile", "number"] []) (gPA : mg "pointed_at" = some (.ref fPA)) :
    FnOk P w K mg base (L2N.CX P w) 4 f fd ["pile", "numbers"] (spReached K C B eB) := by
  refine okXN F scReached (fun vs H Q E h => ?_) (fun cdv A outer s H vs Q E hr h => ?_)
  · obtain ⟨p, a, g, P, R, l, rfl, _⟩ := h
    rfl
  · obtain ⟨p, a, g, P0, R, l, rfl, A0, W, hS, hl, kB, k⟩ := h
    have nd := scReached.nd
    have hr3 : Room 3 _ := hr
    have hu := hu_of hr
    have few := W.few
    refine ⟨_, (pss_cons (ps_set (i := 2) nd rfl (Or.inl rfl) pe_dnewK)
      (pss_cons (ps_set (i := 3) nd rfl (Or.inl rfl) (pe_callTy call_list_of (by rfl) T.list (by decide +kernel) (pa_cons (pv 1) pa_nil)))
      (pss_cons (ps_while (passes_of rfl) (pt_truth (pv 3) (by intro _; rfl)) (pss_cons (ps_set (i := 4) nd rfl (Or.inl rfl) (pe_bm0 PySem.F.plainAttrs_list PySem.F.slot_list_pop PySem.F.type_list_pop mt_pop (pv 3)))
      (pss_one (ps_mid (ps_if (pt_cmp (pc_dnotin hu (pv 4) (pv 2))) (pss_cons (ps_expr (pe_bm PySem.F.plainAttrs_list PySem.F.slot_list_extend PySem.F.type_list_extend mt_extend (pv 3) (pa_cons (pe_call GPA hr3 (by rfl) gPA FPA.kp bPA .nil (L2N.passes_call (L2N.takes_of rfl rfl rfl rfl) (fun _ _ _ _ h => h)) (pa_cons (pv 0) (pa_cons (pv 4) pa_nil))) pa_nil)))
      (pss_one (ps_dput hu (pv 2) (pv 4) pe_bl rfl))) pss_nil)))))
      (pss_one (ps_ret (pe_callB (call_sortedDI rfl) (by rfl) T.sorted (by decide +kernel) (pa_cons (pv 2) pa_nil))))))), ?_⟩
    intro d hd
    have A1 := A0.new (o := .dK []) hd
    have rd := A0.same.free hd
    refine ⟨_, rfl, a, _, rfl, .inl ((same_upd hd).seq hS), fun wl hwl => ?_⟩
    have A2 := A1.new (o := .lst (l.map V.int)) hwl
    have nwd : wl ≠ d := fun q => by rw [q, upd_same] at hwl; cases hwl
    have rw0 : R wl = none := A0.same.free (by rw [upd_ne nwd] at hwl; exact hwl)
    replace A2 : PileAt C B p g P0 (fw R wl d l []) (upd (upd H d (.dK [])) wl (.lst (l.map V.int))) := by
      unfold fw
      rw [upd_comm nwd]
      exact A2
    generalize upd (upd H d (.dK [])) wl (.lst (l.map V.int)) = H2 at A2 ⊢
    clear A1 hwl
    refine ⟨fun m σ H => ∃ (row wt : List Int) (v4 : Option V), σ = [some (.ref p), some (.ref a), some (.ref d), some (.ref wl), v4] ∧ PileAt C B p g P0 (fw R wl d wt row) H ∧ Dw P0.boxes (l.map some) row wt ∧ wt.length + 7 * (P0.boxes.length - row.length) = m ∧ wt.length + 6 * (P0.boxes.length - row.length) ≤ 1400,
      ⟨_, [], l, none, rfl, A2, dw0 _ _, rfl, by rw [List.length_nil]; omega⟩, ?_⟩
    clear A2 H2
    rintro m σ H2 ⟨row, wt, v4, rfl, A2, W2, rfl, hle⟩
    have hwl : H2 wl = some (.lst (wt.map V.int)) := A2.same _ _ (fw_w nwd)
    refine ⟨_, rfl, !(wt.map V.int).isEmpty, .inl ⟨_, SqL.of hwl, rfl⟩, ?_⟩
    rcases List.eq_nil_or_concat wt with rfl | ⟨w', y, ewt⟩
    · refine iteF ?_
      have hal : ∀ s, s ∈ l → ∃ b, get P0.boxes s = some b := fun s hs => W2.al s ((W2.start s (mem_some.mpr hs)).resolve_right fun q => by cases q)
      refine ⟨_, rfl, d, _, row, rfl, .inl (A2.same _ _ fw_d), metV_keys _, by have := W2.len; omega, fun ys r hp hs hr => ?_⟩
      have rr : R r = none := by
        have := A2.same.free hr
        rw [fw_o (fun q => by rw [q, fw_w nwd] at this; cases this) (fun q => by rw [q, fw_d] at this; cases this)] at this
        exact this
      exact k hal r ys _ rr (strict hs (hp.symm.nodup W2.nd)) (fun n => by rw [hp.mem_iff]; exact W2.all n) ((fw_less rw0 rd A2).new hr)
    · rw [List.concat_eq_append] at ewt
      subst ewt
      rw [show (!(List.map V.int (w' ++ [y])).isEmpty) = true from by simp]
      refine iteT ?_
      refine ⟨fun σ' H' => ∃ m', m' < (w' ++ [y]).length + 7 * (P0.boxes.length - row.length) ∧ ∃ (row wt : List Int) (v4 : Option V), σ' = [some (.ref p), some (.ref a), some (.ref d), some (.ref wl), v4] ∧ PileAt C B p g P0 (fw R wl d wt row) H' ∧ Dw P0.boxes (l.map some) row wt ∧ wt.length + 7 * (P0.boxes.length - row.length) = m' ∧ wt.length + 6 * (P0.boxes.length - row.length) ≤ 1400,
        fun σ' H' h' => h', ?_⟩
      refine ⟨_, rfl, .inl ⟨rfl, _, SqL.of hwl⟩, wl, _, V.int y, rfl, rfl, hwl, by simp, ?_⟩
      have A3 := fw_setw nwd A2 w'
      rw [show ((w' ++ [y]).map V.int).dropLast = w'.map V.int from by simp]
      generalize upd H2 wl (.lst (w'.map V.int)) = H3 at A3 ⊢
      clear A2 hwl
      rw [List.length_append, List.length_singleton] at hle ⊢
      refine ⟨_, ?_, fun σ' H' h => h⟩
      refine ⟨_, rfl, _, rfl, d, _, rfl, DGet.k (k := Sum.inl y) (A3.same _ _ fw_d), _, rfl, ?_⟩
      rw [metV_get]
      by_cases c : y ∈ row
      · rw [if_pos c]
        refine iteF ?_
        exact ⟨_, by omega, row, w', _, rfl, A3, W2.skip c, rfl, by omega⟩
      · rw [if_neg c]
        refine iteT ?_
        have hwl3 : H3 wl = some (.lst (w'.map V.int)) := A3.same _ _ (fw_w nwd)
        refine ⟨_, rfl, .inl ⟨rfl, _, SqL.of hwl3⟩, _, rfl, _, rfl, p, g, P0, _, y, rfl, A3, fun b hb => W.sl _ _ hb, fun hn => ?_, fun b hb r H4 hr A4 => ?_⟩
        · obtain ⟨s, hs, hsn⟩ := W2.dead W (List.mem_append_right _ (List.mem_singleton.mpr rfl)) hn
          exact kB ⟨s, mem_some.mp hs, hsn⟩ _ (fw_less rw0 rd A3)
        have hr4 : H4 r = some (.lst ((b.slots.filterMap id).map V.int)) := A4.same _ _ upd_same
        have nrw : r ≠ wl := fun q => by rw [q, fw_w nwd] at hr; cases hr
        replace A4 := A4.less (same_upd hr)
        have hwl4 : H4 wl = some (.lst (w'.map V.int)) := A4.same _ _ (fw_w nwd)
        have ls := W.sl y b hb
        have lf := fm_len b.slots
        refine ⟨wl, r, _, _, rfl, rfl, hwl4, hr4, by rw [List.length_map, List.length_map, sizeLine_eq]; omega, ?_⟩
        have A5 := fw_setw nwd A4 (w' ++ b.slots.filterMap id)
        rw [List.map_append] at A5
        generalize upd H4 wl (.lst (w'.map V.int ++ (b.slots.filterMap id).map V.int)) = H5 at A5 ⊢
        have W3 := W2.add c hb
        have l3 := W3.len
        rw [List.length_append, List.length_singleton] at l3
        refine ⟨_, rfl, _, rfl, d, _, rfl, DPut.k (k := Sum.inl y) (A5.same _ _ fw_d) (by rw [metV_len, sizeLine_eq]; omega), ?_⟩
        refine ⟨_, ?_, row ++ [y], w' ++ b.slots.filterMap id, _, rfl, fw_put A5 c, W3, rfl, ?_⟩
        · rw [List.length_append, List.length_append, List.length_singleton]; omega
        · rw [List.length_append, List.length_append, List.length_singleton]; omega
/-! ### trials -/
/-- the dict of weights beside the rest -/
theorem scTrials : FnScope nTrials ["pile"] (defScope sTrials) := ⟨rfl, rfl, rfl, by decide +kernel, rfl, by decide +kernel, by decide +kernel⟩
theorem ok_trials {f fPA fRE fS fG : Addr} {fd dPA dRE dS dG : FuncData} (F : Fun K "trials" "trials" sTrials f fd) (T : Txt K mg C B eH eS eF eB eL) (GPA : FnOk P w K mg base (L2N.CX P w) 3 fPA dPA ["pile", "number"] (spPointedAt C B eB)) (FPA : Fun K "pointed_at" "pointed_at" sPointedAt fPA dPA) (bPA : Binds K dPA ["pile", "number"] []) (gPA : mg "pointed_at" = some (.ref fPA))
    (GRE : FnOk P w K mg base (L2N.CX P w) 4 fRE dRE ["pile", "numbers"] (spReached K C B eB)) (FRE : Fun K "reached" "reached" sReached fRE dRE) (bRE : Binds K dRE ["pile", "numbers"] []) (gRE : mg "reached" = some (.ref fRE))
    (GS : FnOk P w K mg base CX0 1 fS dS ["self"] (spSuspects C B)) (bS : Binds K dS ["self"] []) (mS : Meth K C "suspects" fS) (GG : FnOk P w K mg base (L2N.CX P w) 2 fG dG ["self", "number"] (spWeighs C B eB)) (bG : Binds K dG ["self", "number"] []) (mG : Meth K C "weighs" fG) :
    FnOk P w K mg base CX0 5 f fd ["pile"] (spTrials C B) := by
  refine F.ok scTrials (fun vs H Q E h => ?_) (fun cdv A outer s H vs Q E hr h => ?_)
  · obtain ⟨p, g, P, R, rfl, _⟩ := h
    rfl
  · obtain ⟨p, g, P0, R, rfl, A0, W, k⟩ := h
    have nd := scTrials.nd
    have hr4 : Room 4 _ := hr
    have hr3 : Room 3 _ := hr.mono (by decide)
    have hr2 : Room 2 _ := hr.mono (by decide)
    have hr1 : Room 1 _ := hr.mono (by decide)
    have hu := hu_of hr
    have few := W.few
    refine ⟨_, (pss_cons (ps_set (i := 1) nd rfl (Or.inl rfl) (pe_call GRE hr4 (by rfl) gRE FRE.kp bRE .nil passLN (pa_cons (pv 0) (pa_cons (pe_meth0 (pv 0) T.clC mS GS hr1 bS .nil pass0) pa_nil))))
      (pss_cons (ps_setDc (i := 2) (own := [("number", 3)]) (g := gName 3) (tt := tYes) (tk := tVar 3) (tv := tMeth C "weighs" (spWeighs C B eB) [] E0 (tVar 0) (tCons (tVar 3) tNil)) (by rfl) nd rfl rfl (swD rfl rfl rfl (by decide +kernel)) (pi_list (pv 1)) (blkOk_by (N := nTrials) (sc := defScope sTrials) (by decide +kernel)) (fun _ _ _ _ _ => pg_name (i := 3) nd rfl (Or.inl rfl)) (fun _ _ _ _ _ => pts_nil) (fun _ _ _ _ _ => pv 3) (fun _ _ _ _ _ => pe_meth (pv 0) T.clC mG GG hr2 bG .nil passLN (pa_cons (pv 3) pa_nil)))
      (pss_cons (ps_for PassesOwn.never rfl (pi_list (pv 1)) (pg_name (i := 3) nd rfl (Or.inl rfl))
      (pss_one (ps_for PassesOwn.never rfl (pi_list (pe_call GPA hr3 (by rfl) gPA FPA.kp bPA .nil passLN (pa_cons (pv 0) (pa_cons (pv 3) pa_nil)))) (pg_name (i := 4) nd rfl (Or.inl rfl))
      (pss_one (ps_daug hu (pv 2) (pv 4) pe_int in_sub (fun _ _ _ => rfl))))))
      (pss_one (ps_ret (LiI.pe_listItems (by rfl) (pv 2) (by rfl) T.list (by decide +kernel))))))), ?_⟩
    refine ⟨_, rfl, _, rfl, p, g.dx, _, rfl, A0.hp, pf_no _ _ _ (by decide +kernel) (by decide +kernel) (by decide +kernel), p, g, P0, R, rfl, A0, W, fun d0 H1 rd0 A1 => ?_⟩
    have hd1 : H1 d0 = some (.lst ((susp P0).map V.int)) := A1.same _ _ upd_same
    refine ⟨p, d0, g, P0, _, susp P0, rfl, A1, W, SqL.of hd1, by have := susp_len P0; omega, fun ⟨s, hs, hn⟩ => ?_, fun _ r0 A H2 hr0 hAs hAm A2 => ?_⟩
    · obtain ⟨b, hb, _⟩ := mem_suspT.mp hs
      rw [hb] at hn
      cases hn
    have hAm' : ∀ n, n ∈ A ↔ SL P0 n := fun n => (hAm n).trans from_susp
    have alive : ∀ n, n ∈ A → ∃ b, get P0.boxes n = some b := fun n hn => by
      obtain ⟨s, b, hb, _, pt⟩ := (hAm' n).mp hn
      exact pt.alive W ⟨b, hb⟩
    have hnd : A.Nodup := nodup_lt hAs
    have hlA : A.length ≤ 60 := by
      have := nodup_le (a := A) (b := keys P0.boxes) hnd fun n hn => get_keys.mp (alive n hn)
      rw [show (keys P0.boxes).length = P0.boxes.length from List.length_map _] at this
      omega
    -- from here on R1: what was known, and the row
    have hr2' : H2 r0 = some (.lst (A.map V.int)) := A2.same _ _ upd_same
    have rr0 : R r0 = none := (same_upd rd0).free hr0
    replace A2 : PileAt C B p g P0 (upd R r0 (.lst (A.map V.int))) H2 := A2.less fun b o e => by
      by_cases q : b = r0
      · rw [q, upd_same] at e ⊢; exact e
      · rw [upd_ne q] at e ⊢
        rw [upd_ne (ne_of_none e rd0)]
        exact e
    have sR1 : Same R (upd R r0 (.lst (A.map V.int))) := same_upd rr0
    have hR1 : upd R r0 (.lst (A.map V.int)) r0 = some (.lst (A.map V.int)) := upd_same
    generalize upd R r0 (.lst (A.map V.int)) = R1 at A2 sR1 hR1
    clear A1 hd1 hr0
    refine ⟨_, rfl, r0, rfl, ⟨_, SqL.of hr2'⟩, fun D hD => ?_⟩
    have rD : R1 D = none := A2.same.free hD
    refine dc_it walk_list (fun i H' => PileAt C B p g P0 (upd R1 D (.dK (trV (A.take i) (wtOf P0)))) H') (A2.new hD) (fun i H' _ A' => SqL.of (A'.same _ _ ((same_upd rD) _ _ hR1))) ?_ ?_
    · rintro i x H3 H4 hi A3 ⟨rfl, hx⟩
      obtain ⟨n, hn, rfl⟩ := ints_at' hx
      obtain ⟨b, hb⟩ := alive n (List.mem_of_getElem? hn)
      have hw : b.wt = wtOf P0 n := by unfold wtOf; rw [hb]
      refine ⟨rfl, _, rfl, _, rfl, p, g.dx, _, rfl, A3.hp, pf_no _ _ _ (by decide +kernel) (by decide +kernel) (by decide +kernel), _, rfl, p, g, P0, _, n, rfl, A3, fun z => absurd (hb.symm.trans z) (by intro z; cases z), fun b' hb' => ?_⟩
      have : b' = b := Option.some.inj (hb'.symm.trans hb)
      subst this
      refine ⟨_, Sum.inl n, rfl, A3.same _ _ upd_same, by rw [trV_len, List.length_take, sizeLine_eq]; omega, ?_⟩
      have A4 := A3.set (a := D) (o := .dK (putK (trV (A.take i) (wtOf P0)) (Sum.inl n) (.int b'.wt))) upd_same
      rw [upd_upd] at A4
      rw [take_get' hn, ← trV_new (not_take hnd hn), ← hw]
      exact A4
    intro H3 A3
    rw [List.length_map, List.take_length] at A3
    -- the slots of the row are gone through
    have hcl : ∀ n b m, n ∈ A → get P0.boxes n = some b → some m ∈ b.slots → m ∈ A := fun n b m hn hb hm => by
      obtain ⟨s, c, hc, hs, pt⟩ := (hAm' n).mp hn
      exact (hAm' m).mpr ⟨s, c, hc, hs, pt.trans (.one ⟨b, hb, hm⟩)⟩
    refine ⟨_, rfl, r0, rfl, ⟨_, SqL.of (A3.same _ _ ((same_upd rD) _ _ hR1))⟩, for_list (K := K) (a := r0) (xs := A.map V.int) (fun i σ H' => ∃ v3 v4 : Option V, σ = [some (.ref p), some (.ref r0), some (.ref D), v3, v4] ∧
      PileAt C B p g P0 (upd R1 D (.dK (trV A fun n => wtOf P0 n - ((scnt (inn P0.boxes (A.take i)) n : Nat) : Int)))) H') ⟨_, _, rfl, ?_⟩ (fun i σ H' _ ⟨_, _, _, A'⟩ => SqL.of (A'.same _ _ ((same_upd rD) _ _ hR1))) ?_ ?_⟩
    · rw [show (fun n => wtOf P0 n - ((scnt (inn P0.boxes (A.take 0)) n : Nat) : Int)) = wtOf P0 from funext fun n => by rw [List.take_zero, inn_nil]; exact Int.sub_zero _]
      exact A3
    · clear A3
      rintro i y σ H4 hi ⟨v3, v4, rfl, A4⟩
      obtain ⟨n, hn, rfl⟩ := ints_at' hi
      have hnA := List.mem_of_getElem? hn
      obtain ⟨b, hb⟩ := alive n hnA
      refine ⟨_, rfl, _, rfl, p, g, P0, _, n, rfl, A4, fun b hb => W.sl _ _ hb, fun z => absurd (hb.symm.trans z) (by intro z; cases z), fun b' hb' r H5 hr A5 => ?_⟩
      have : b' = b := Option.some.inj (hb'.symm.trans hb)
      subst this
      have nrD : r ≠ D := fun q => by rw [q, upd_same] at hr; cases hr
      have rr1 : R1 r = none := by rw [upd_ne nrD] at hr; exact hr
      rw [upd_comm nrD.symm] at A5
      refine ⟨r, rfl, ⟨_, SqL.of (A5.same _ _ (by rw [upd_ne nrD, upd_same]))⟩, for_list (K := K) (a := r) (xs := (b'.slots.filterMap id).map V.int) (fun j σ H' => ∃ v4 : Option V, σ = [some (.ref p), some (.ref r0), some (.ref D), some (.int n), v4] ∧
        PileAt C B p g P0 (upd (upd R1 r (.lst ((b'.slots.filterMap id).map V.int))) D (.dK (trV A fun n => wtOf P0 n - (((scnt (inn P0.boxes (A.take i)) n + ((b'.slots.filterMap id).take j).count n) : Nat) : Int)))) H') ⟨_, rfl, A5⟩ (fun j σ H' _ ⟨_, _, A'⟩ => SqL.of (A'.same _ _ (by rw [upd_ne nrD, upd_same]))) ?_ ?_⟩
      · clear A5
        rintro j y σ H6 hj ⟨v4, rfl, A6⟩
        obtain ⟨m, hm, rfl⟩ := ints_at' hj
        have hmA : m ∈ A := hcl n b' m hnA hb (mem_fm.mp (List.mem_of_getElem? hm))
        have hD6 := A6.same _ _ (upd_same (a := D))
        refine ⟨_, rfl, _, rfl, D, .int (wtOf P0 m - (((scnt (inn P0.boxes (A.take i)) m + ((b'.slots.filterMap id).take j).count m) : Nat) : Int)), rfl, ?_, _, _, rfl, rfl, _, DPut.k (k := Sum.inl m) hD6 (by rw [trV_len, sizeLine_eq]; omega), ?_⟩
        · have := DGet.k (k := Sum.inl m) hD6
          rw [trV_get, if_pos hmA] at this
          exact this
        refine ⟨_, rfl, ?_⟩
        rw [trV_old hmA]
        have A7 := A6.set (a := D) (o := .dK (trV A fun k => if k = m then wtOf P0 m - (((scnt (inn P0.boxes (A.take i)) m + ((b'.slots.filterMap id).take j).count m) : Nat) : Int) - 1 else wtOf P0 k - (((scnt (inn P0.boxes (A.take i)) k + ((b'.slots.filterMap id).take j).count k) : Nat) : Int))) upd_same
        rw [upd_upd] at A7
        rw [take_get' hm, show (fun k => wtOf P0 k - (((scnt (inn P0.boxes (A.take i)) k + ((b'.slots.filterMap id).take j ++ [m]).count k) : Nat) : Int)) = fun k => if k = m then wtOf P0 m - (((scnt (inn P0.boxes (A.take i)) m + ((b'.slots.filterMap id).take j).count m) : Nat) : Int) - 1 else wtOf P0 k - (((scnt (inn P0.boxes (A.take i)) k + ((b'.slots.filterMap id).take j).count k) : Nat) : Int) from funext fun k => by
          rw [List.count_append, List.count_cons, List.count_nil]
          by_cases q : k = m
          · subst q
            rw [if_pos rfl]
            simp
            omega
          · rw [if_neg q]
            have : ¬ m = k := fun z => q z.symm
            simp [this]]
        exact A7
      · clear A5
        rintro σ H6 ⟨v4, rfl, A6⟩
        rw [List.length_map, List.take_length] at A6
        refine ⟨_, _, rfl, A6.less fun c o e => ?_⟩
        rw [take_get' hn, show (fun k => wtOf P0 k - ((scnt (inn P0.boxes (A.take i ++ [n])) k : Nat) : Int)) = fun k => wtOf P0 k - (((scnt (inn P0.boxes (A.take i)) k + (b'.slots.filterMap id).count k) : Nat) : Int) from funext fun k => by rw [scnt_inn_snoc k W.nd hb (not_take hnd hn), cnt_fm]] at e
        by_cases q : c = D
        · rw [q, upd_same] at e ⊢; exact e
        · rw [upd_ne q] at e ⊢
          rw [upd_ne (ne_of_none e rr1)]
          exact e
    · clear A3
      rintro σ H4 ⟨v3, v4, rfl, A4⟩
      rw [List.length_map, List.take_length] at A4
      have hD4 := A4.same _ _ (upd_same (a := D))
      refine ⟨_, rfl, D, _, rfl, hD4, fun H5 r ts hs hr hts hnr hl hp => ?_⟩
      have A5 := A4.fresh hs
      have sR : Same R (upd R1 D (.dK (trV A fun n => wtOf P0 n - ((scnt (inn P0.boxes A) n : Nat) : Int)))) := sR1.trans (same_upd rD)
      obtain ⟨hlen, hat⟩ := paired_len hp
      rw [trV_len] at hlen
      refine k A ts r _ H5 hAs hAm' (sR.trans (same_newK A4.same)) (sR.free (A4.same.free hr)) (by rw [newK_new hr]; exact hl) ⟨hlen, fun t ht => sR.free (A4.same.free (hts t ht)), fun i t n ht hn => ?_⟩ A5
      rw [newK_new (hts t (List.mem_of_getElem? ht))]
      exact hat i t _ ht (by unfold trV; rw [List.getElem?_map, hn]; rfl)
/-! ### tidy -/
theorem inV_intsR (n : Int) : ∀ l : List Int, inV (V.int n) (l.map V.int) = decide (n ∈ l)
  | [] => rfl
  | m :: l => by
    have ih := inV_intsR n l
    unfold inV at ih ⊢
    rw [List.map_cons, List.any_cons, ih]
    show ((m == n) || decide (n ∈ l)) = decide (n ∈ m :: l)
    by_cases q : m = n
    · subst q; simp
    · have : ¬ n = m := fun z => q z.symm
      simp [q, this]
theorem flat_intsR : ∀ l : List Int, (l.map V.int).all flatV = true
  | [] => rfl
  | m :: l => by rw [List.map_cons, List.all_cons, flat_intsR l]; rfl
theorem filt_snoc {l : List Int} {i : Nat} {x : Int} {f : Int → Bool} (h : l[i]? = some x) : (l.take (i + 1)).filter f = (l.take i).filter f ++ (if f x = true then [x] else []) := by
  rw [take_get' h, List.filter_append]
  congr 1
  by_cases c : f x = true
  · rw [if_pos c]; simp [c]
  · rw [if_neg c]; simp [c]
theorem refs_at {ts : List Addr} {i : Nat} {y : V} (hi : (ts.map V.ref)[i]? = some y) : ∃ t, ts[i]? = some t ∧ y = V.ref t := by
  rw [List.getElem?_map] at hi
  cases e : ts[i]? with
  | none => rw [e] at hi; cases hi
  | some o =>
    rw [e] at hi
    exact ⟨o, rfl, (Option.some.inj hi).symm⟩
theorem scTidy : FnScope nTidy ["pile"] (defScope sTidy) := ⟨rfl, rfl, rfl, by decide +kernel, rfl, by decide +kernel, by decide +kernel⟩
theorem ok_tidy {f fTR fRE fCA : Addr} {fd dTR dRE dCA : FuncData} (F : Fun K "tidy" "tidy" sTidy f fd) (T : Txt K mg C B eH eS eF eB eL) (GTR : FnOk P w K mg base CX0 5 fTR dTR ["pile"] (spTrials C B)) (FTR : Fun K "trials" "trials" sTrials fTR dTR) (bTR : Binds K dTR ["pile"] []) (gTR : mg "trials" = some (.ref fTR))
    (GRE : FnOk P w K mg base (L2N.CX P w) 4 fRE dRE ["pile", "numbers"] (spReached K C B eB)) (FRE : Fun K "reached" "reached" sReached fRE dRE) (bRE : Binds K dRE ["pile", "numbers"] []) (gRE : mg "reached" = some (.ref fRE))
    (GCA : FnOk P w K mg base CX0 1 fCA dCA ["self", "numbers"] (spClear C B)) (bCA : Binds K dCA ["self", "numbers"] []) (mCA : Meth K C "clear_away" fCA) :
    FnOk P w K mg base CX0 6 f fd ["pile"] (spTidy C B) := by
  refine F.ok scTidy (fun vs H Q E h => ?_) (fun cdv A outer s H vs Q E hr h => ?_)
  · obtain ⟨p, g, P, R, rfl, _⟩ := h
    rfl
  · obtain ⟨p, g, P0, R, rfl, A0, G, k⟩ := h
    have nd := scTidy.nd
    have hr5 : Room 5 _ := hr
    have hr4 : Room 4 _ := hr.mono (by decide)
    have hr1 : Room 1 _ := hr.mono (by decide)
    have hu := hu_of hr
    have W := G.wf
    have few := W.few
    refine ⟨_, (pss_cons (ps_set (i := 1) nd rfl (Or.inl rfl) (pe_call GTR hr5 (by rfl) gTR FTR.kp bTR .nil pass0 (pa_cons (pv 0) pa_nil)))
      (pss_cons (ps_set (i := 2) nd rfl (Or.inr rfl) (pe_call GRE hr4 (by rfl) gRE FRE.kp bRE .nil passLN (pa_cons (pv 0) (pa_cons (pe_lc (own := [("number", 4), ("trial", 5)]) (g := gTup K 2 (gCons (gName 4) (gCons (gName 5) gNil))) (tt := tTest (tOp (rI0 fun i j => .bl (decide (j < i))) (tVar 5) (tC (.int 0)))) (te := tVar 4) (by rfl) nd (pi_list (pv 1)) (blkOk_by (N := nTidy) (sc := defScope sTidy) (by decide +kernel)) (fun _ _ _ _ _ => pg_tup rfl (pgs_cons (pg_name (i := 4) nd rfl (Or.inl rfl)) (pgs_cons (pg_name (i := 5) nd rfl (Or.inl rfl)) pgs_nil))) (fun _ _ _ _ _ => pts_one (pt_cmpR op_gt (pv 5) pe_int (nomark _))) (fun _ _ _ _ _ => pv 4)) pa_nil))))
      (pss_cons (ps_setLc (i := 3) (own := [("number", 4), ("_", 6)]) (g := gTup K 2 (gCons (gName 4) (gCons (gName 6) gNil))) (tt := tTest (tOp (rIn K true) (tVar 4) (tVar 2))) (te := tVar 4) (by rfl) nd rfl rfl (sw_true rfl rfl rfl (by decide +kernel)) (pi_list (pv 1)) (blkOk_by (N := nTidy) (sc := defScope sTidy) (by decide +kernel)) (fun _ _ _ _ _ => pg_tup rfl (pgs_cons (pg_name (i := 4) nd rfl (Or.inl rfl)) (pgs_cons (pg_name (i := 6) nd rfl (Or.inl rfl)) pgs_nil))) (fun _ _ _ _ _ => pts_one (pt_cmpR op_notIn_seq (pv 4) (pv 2) (by rfl))) (fun _ _ _ _ _ => pv 4))
      (pss_cons (ps_expr (pe_meth (pv 0) T.clC mCA GCA hr1 bCA .nil pass0 (pa_cons (pv 3) pa_nil)))
      (pss_one (ps_ret (pv 3))))))), ?_⟩
    refine ⟨_, rfl, p, g, P0, R, rfl, A0, W, fun Al ts r R1 H1 hAs hAm sR rr hr1' told A1 => ?_⟩
    have alive : ∀ n, n ∈ Al → ∃ b, get P0.boxes n = some b := fun n hn => by
      obtain ⟨s, b, hb, _, pt⟩ := (hAm n).mp hn
      exact pt.alive W ⟨b, hb⟩
    have hnd : Al.Nodup := nodup_lt hAs
    have hlA : Al.length ≤ 60 := by
      have := nodup_le (a := Al) (b := keys P0.boxes) hnd fun n hn => get_keys.mp (alive n hn)
      rw [show (keys P0.boxes).length = P0.boxes.length from List.length_map _] at this
      omega
    have hpair : ∀ i t, ts[i]? = some t → ∃ n, Al[i]? = some n ∧ R1 t = some (.tup [.int n, .int (triNo P0 Al n)]) := fun i t ht => by
      have hi : i < Al.length := by rw [← told.len]; exact (List.getElem?_eq_some_iff.mp ht).1
      exact ⟨_, List.getElem?_eq_getElem hi, told.at_ i t _ ht (List.getElem?_eq_getElem hi)⟩
    refine ⟨_, rfl, _, rfl, r, rfl, ⟨_, SqL.of (A1.same _ _ hr1')⟩, fun D hD => ?_⟩
    have rD : R1 D = none := A1.same.free hD
    have sD : ∀ o, Same R1 (upd R1 D o) := fun o => same_upd rD
    refine lc_list (K := K) (a := r) (xs := ts.map V.ref) (fun i H' => PileAt C B p g P0 (upd R1 D (.lst (((Al.take i).filter fun n => decide (0 < triNo P0 Al n)).map V.int))) H') (A1.new hD) (fun i H' _ A' => SqL.of (A'.same _ _ (sD _ _ _ hr1'))) ?_ ?_
    · intro i y H2 hi A2
      obtain ⟨t, ht, rfl⟩ := refs_at hi
      obtain ⟨n, hn, htup⟩ := hpair i t ht
      refine ⟨t, _, rfl, SqT.of (A2.same _ _ (sD _ _ _ htup)), rfl, _, _, rfl, _, _, rfl, rfl, rfl, _, rfl, _, _, rfl, rfl, _, rfl, ?_⟩
      rw [filt_snoc hn]
      by_cases c : 0 < triNo P0 Al n
      · refine if_pos_of (decide_eq_true c) ?_
        refine ⟨_, rfl, _, A2.same _ _ upd_same, ?_, ?_⟩
        · rw [List.length_map, sizeLine_eq]
          have h1 := List.length_filter_le (fun n => decide (0 < triNo P0 Al n)) (Al.take i)
          have h2 : (Al.take i).length ≤ Al.length := by rw [List.length_take]; exact Nat.min_le_right _ _
          omega
        · have := A2.set (a := D) (o := .lst (((Al.take i).filter fun n => decide (0 < triNo P0 Al n)).map V.int ++ [V.int n])) upd_same
          rw [upd_upd] at this
          rw [if_pos (decide_eq_true c), List.map_append]
          exact this
      · refine if_neg_of (decide_eq_false c) ?_
        rw [if_neg (by rw [decide_eq_false c]; exact Bool.false_ne_true), List.append_nil]
        exact A2
    intro H2 A2
    have el : Al.take (ts.map V.ref).length = Al := List.take_of_length_le (by rw [List.length_map, told.len]; exact Nat.le_refl _)
    rw [el] at A2
    refine ⟨p, D, g, P0, _, Al.filter fun n => decide (0 < triNo P0 Al n), rfl, A2, W, SqL.of (A2.same _ _ upd_same), by have := List.length_filter_le (fun n => decide (0 < triNo P0 Al n)) Al; omega, fun ⟨s, hs, hn⟩ => ?_, fun _ r2 ys H3 hr2 hys hym A3 => ?_⟩
    · obtain ⟨b, hb⟩ := alive s (List.mem_filter.mp hs).1
      rw [hb] at hn
      cases hn
    have hyk : ∀ n, n ∈ ys ↔ ∃ m b, m ∈ Al ∧ get P0.boxes m = some b ∧ 0 < b.wt - ((scnt (inn P0.boxes Al) m : Nat) : Int) ∧ Path P0.boxes m n := fun n => by
      rw [hym n]
      constructor
      · rintro ⟨m, hm, pt⟩
        obtain ⟨h1, h2⟩ := List.mem_filter.mp (mem_some.mp hm)
        obtain ⟨b, hb⟩ := alive m h1
        have h3 : 0 < triNo P0 Al m := of_decide_eq_true h2
        unfold triNo wtOf at h3
        rw [hb] at h3
        exact ⟨m, b, h1, hb, h3, pt⟩
      · rintro ⟨m, b, h1, hb, h3, pt⟩
        refine ⟨m, mem_some.mpr (List.mem_filter.mpr ⟨h1, decide_eq_true ?_⟩), pt⟩
        unfold triNo wtOf
        rw [hb]
        exact h3
    have hF : Al.filter (fun n => decide (n ∉ ys)) = deadF P0 := dead_eq W (hAs.filter _) (trial_dead W G.led hAm hyk)
    have s12 : Same R1 (upd (upd R1 D (.lst ((Al.filter fun n => decide (0 < triNo P0 Al n)).map V.int))) r2 (.lst (ys.map V.int))) := (sD _).trans (same_upd hr2)
    have hy2 : (upd (upd R1 D (.lst ((Al.filter fun n => decide (0 < triNo P0 Al n)).map V.int))) r2 (.lst (ys.map V.int))) r2 = some (.lst (ys.map V.int)) := upd_same
    generalize upd (upd R1 D (.lst ((Al.filter fun n => decide (0 < triNo P0 Al n)).map V.int))) r2 (.lst (ys.map V.int)) = R2 at A3 s12 hy2
    clear A2 hr2 sD rD hD hym
    refine ⟨_, rfl, r, rfl, ⟨_, SqL.of (A3.same _ _ (s12 _ _ hr1'))⟩, fun D2 hD2 => ?_⟩
    have rD2 : R2 D2 = none := A3.same.free hD2
    have sD2 : ∀ o, Same R2 (upd R2 D2 o) := fun o => same_upd rD2
    refine lc_list (K := K) (a := r) (xs := ts.map V.ref) (fun i H' => PileAt C B p g P0 (upd R2 D2 (.lst (((Al.take i).filter fun n => decide (n ∉ ys)).map V.int))) H') (A3.new hD2) (fun i H' _ A' => SqL.of (A'.same _ _ (sD2 _ _ _ (s12 _ _ hr1')))) ?_ ?_
    · intro i y H4 hi A4
      obtain ⟨t, ht, rfl⟩ := refs_at hi
      obtain ⟨n, hn, htup⟩ := hpair i t ht
      refine ⟨t, _, rfl, SqT.of (A4.same _ _ (sD2 _ _ _ (s12 _ _ htup))), rfl, _, _, rfl, _, _, rfl, rfl, rfl, _, rfl, _, rfl, r2, _, rfl, .inl (SqL.of (A4.same _ _ (sD2 _ _ _ hy2))), rfl, flat_intsR _, _, rfl, ?_⟩
      rw [filt_snoc hn, inV_intsR]
      by_cases c : n ∈ ys
      · refine if_neg_of (by rw [decide_eq_true c]; rfl) ?_
        rw [if_neg (by rw [decide_eq_false (fun z => z c)]; exact Bool.false_ne_true), List.append_nil]
        exact A4
      · refine if_pos_of (by rw [decide_eq_false c]; rfl) ?_
        refine ⟨_, rfl, _, A4.same _ _ upd_same, ?_, ?_⟩
        · rw [List.length_map, sizeLine_eq]
          have h1 := List.length_filter_le (fun n => decide (n ∉ ys)) (Al.take i)
          have h2 : (Al.take i).length ≤ Al.length := by rw [List.length_take]; exact Nat.min_le_right _ _
          omega
        · have := A4.set (a := D2) (o := .lst (((Al.take i).filter fun n => decide (n ∉ ys)).map V.int ++ [V.int n])) upd_same
          rw [upd_upd] at this
          rw [if_pos (decide_eq_true c), List.map_append]
          exact this
    intro H4 A4
    rw [el, hF] at A4
    refine ⟨_, rfl, p, g.dx, _, rfl, A4.hp, pf_no _ _ _ (by decide +kernel) (by decide +kernel) (by decide +kernel), _, rfl, p, D2, g, P0, _, deadF P0, rfl, A4, W, upd_same, nodup_lt (deadF_sorted W), fun n hn => (mem_deadF.mp hn).1, fun H5 A5 => ?_⟩
    have sRR : Same R R2 := sR.trans s12
    exact ⟨_, rfl, k D2 H5 (sRR.free rD2) (A5.less fun b o e => by
      by_cases q : b = D2
      · rw [q, upd_same] at e ⊢; exact e
      · rw [upd_ne q] at e ⊢; exact sRR _ _ e)⟩
/-! ### done -/
abbrev sDoneP : Stmt := top 27
abbrev nDoneP : List Str := ["pile", "deed", "hand", "size", "other", "slot"]
theorem scDoneP : FnScope nDoneP ["pile", "deed"] (defScope sDoneP) := ⟨rfl, rfl, rfl, by decide +kernel, rfl, by decide +kernel, by decide +kernel⟩
def clsOf (eH eS eF eB eL : Addr) : Bad → Addr
  | .hand => eH | .size => eS | .full => eF | .box => eB | .slot => eL
def spDone (K : PySem.W.Frag) (C B eH eS eF eB eL : Addr) : Sp := fun vs H Q E => ∃ (p t : Addr) (g : Geo) (P : Pl) (R : Hp) (d : Deed), vs = [.ref p, .ref t] ∧ PileAt C B p g P R H ∧ Good P ∧ SqT K H t d.vs ∧
  (∀ e, act P d = .bad e → E (.ref (clsOf eH eS eF eB eL e)) none H) ∧
  (∀ P' f, act P d = .fine P' f → ∀ (r : Addr) (g' : Geo) (H' : Hp), R r = none → PileAt C B p g' P' (upd R r (.lst (f.map V.int))) H' → Q (.ref r) H')
theorem atSlot_none {P : Pl} {h s : Int} {k : Int → Bx → Res} (e : P.hands.getD h.toNat none = none) : atSlot P h s k = .bad .box := by unfold atSlot; rw [e]
theorem atSlot_no {P : Pl} {h s n : Int} {b : Bx} {k : Int → Bx → Res} (e : P.hands.getD h.toNat none = some n) (hb : get P.boxes n = some b) (c : ¬ (0 ≤ s ∧ s < (b.slots.length : Int))) : atSlot P h s k = .bad .slot := by
  unfold atSlot; rw [e]; dsimp only; rw [hb]; exact if_neg c
theorem atSlot_yes {P : Pl} {h s n : Int} {b : Bx} {k : Int → Bx → Res} (e : P.hands.getD h.toNat none = some n) (hb : get P.boxes n = some b) (c : 0 ≤ s ∧ s < (b.slots.length : Int)) : atSlot P h s k = k n b := by
  unfold atSlot; rw [e]; dsimp only; rw [hb]; exact if_pos c
theorem ok_donep {f fM fO fR fU fE fQ fTY : Addr} {fd dM dO dR dU dE dQ dTY : FuncData} (F : Fun K "done" "done" sDoneP f fd) (T : Txt K mg C B eH eS eF eB eL) (GM : FnOk P w K mg base (L2N.CX P w) 3 fM dM ["self", "hand", "size"] (spMake C B eH eS eF)) (bM : Binds K dM ["self", "hand", "size"] []) (mM : Meth K C "make" fM) (GO : FnOk P w K mg base (L2N.CX P w) 3 fO dO ["self", "hand", "other"] (spHold C B eH)) (bO : Binds K dO ["self", "hand", "other"] []) (mO : Meth K C "hold" fO) (GR : FnOk P w K mg base (L2N.CX P w) 3 fR dR ["self", "hand"] (spDrop C B eH)) (bR : Binds K dR ["self", "hand"] []) (mR : Meth K C "drop" fR) (GU : FnOk P w K mg base (L2N.CX P w) 3 fU dU ["self", "hand", "slot", "other"] (spPut C B eH eB eL)) (bU : Binds K dU ["self", "hand", "slot", "other"] []) (mU : Meth K C "put" fU) (GE : FnOk P w K mg base (L2N.CX P w) 3 fE dE ["self", "hand", "slot"] (spEmpty C B eH eB eL)) (bE : Binds K dE ["self", "hand", "slot"] []) (mE : Meth K C "empty" fE) (GQ : FnOk P w K mg base (L2N.CX P w) 3 fQ dQ ["self", "hand", "other", "slot"] (spTake C B eH eB eL)) (bQ : Binds K dQ ["self", "hand", "other", "slot"] []) (mQ : Meth K C "take" fQ)
    (GTY : FnOk P w K mg base CX0 6 fTY dTY ["pile"] (spTidy C B)) (FTY : Fun K "tidy" "tidy" sTidy fTY dTY) (bTY : Binds K dTY ["pile"] []) (gTY : mg "tidy" = some (.ref fTY)) :
    FnOk P w K mg base (L2N.CX P w) 7 f fd ["pile", "deed"] (spDone K C B eH eS eF eB eL) := by
  refine okXN F scDoneP (fun vs H Q E h => ?_) (fun cdv A outer s H vs Q E hr h => ?_)
  · obtain ⟨p, t, g, P, R, d, rfl, _⟩ := h
    rfl
  · obtain ⟨p, t, g, P0, R, d, rfl, A0, G, ht, kB, k⟩ := h
    have nd := scDoneP.nd
    have hr6 : Room 6 _ := hr
    have hr3 : Room 3 _ := hr.mono (by decide)
    have W := G.wf
    refine ⟨_, (pss_cons (ps_match (pv 1) (pmc_seq rfl (pea_str (pea_cap (pea_cap pea_nil))) (pbi_cons (i := 2) (pbi_cons (i := 3) pbi_nil nd rfl (Or.inl rfl)) nd rfl (Or.inl rfl)) (pss_one (ps_ret (pe_meth (pv 0) T.clC mM GM hr3 bM .nil (L2N.passes_call (L2N.takes_of rfl rfl rfl rfl) (fun _ _ _ _ h => h)) (pa_cons (pv 2) (pa_cons (pv 3) pa_nil)))))
      (pmc_seq rfl (pea_str (pea_cap (pea_cap pea_nil))) (pbi_cons (i := 2) (pbi_cons (i := 4) pbi_nil nd rfl (Or.inl rfl)) nd rfl (Or.inl rfl)) (pss_one (ps_ret (pe_meth (pv 0) T.clC mO GO hr3 bO .nil (L2N.passes_call (L2N.takes_of rfl rfl rfl rfl) (fun _ _ _ _ h => h)) (pa_cons (pv 2) (pa_cons (pv 4) pa_nil)))))
      (pmc_seq rfl (pea_str (pea_cap pea_nil)) (pbi_cons (i := 2) pbi_nil nd rfl (Or.inl rfl)) (pss_one (ps_ret (pe_meth (pv 0) T.clC mR GR hr3 bR .nil (L2N.passes_call (L2N.takes_of rfl rfl rfl rfl) (fun _ _ _ _ h => h)) (pa_cons (pv 2) pa_nil))))
      (pmc_seq rfl (pea_str (pea_cap (pea_cap (pea_cap pea_nil)))) (pbi_cons (i := 2) (pbi_cons (i := 5) (pbi_cons (i := 4) pbi_nil nd rfl (Or.inl rfl)) nd rfl (Or.inl rfl)) nd rfl (Or.inl rfl)) (pss_one (ps_ret (pe_meth (pv 0) T.clC mU GU hr3 bU .nil (L2N.passes_call (L2N.takes_of rfl rfl rfl rfl) (fun _ _ _ _ h => h)) (pa_cons (pv 2) (pa_cons (pv 5) (pa_cons (pv 4) pa_nil))))))
      (pmc_seq rfl (pea_str (pea_cap (pea_cap pea_nil))) (pbi_cons (i := 2) (pbi_cons (i := 5) pbi_nil nd rfl (Or.inl rfl)) nd rfl (Or.inl rfl)) (pss_one (ps_ret (pe_meth (pv 0) T.clC mE GE hr3 bE .nil (L2N.passes_call (L2N.takes_of rfl rfl rfl rfl) (fun _ _ _ _ h => h)) (pa_cons (pv 2) (pa_cons (pv 5) pa_nil)))))
      (pmc_seq rfl (pea_str (pea_cap (pea_cap (pea_cap pea_nil)))) (pbi_cons (i := 2) (pbi_cons (i := 4) (pbi_cons (i := 5) pbi_nil nd rfl (Or.inl rfl)) nd rfl (Or.inl rfl)) nd rfl (Or.inl rfl)) (pss_one (ps_ret (pe_meth (pv 0) T.clC mQ GQ hr3 bQ .nil (L2N.passes_call (L2N.takes_of rfl rfl rfl rfl) (fun _ _ _ _ h => h)) (pa_cons (pv 2) (pa_cons (pv 4) (pa_cons (pv 5) pa_nil))))))
      (pmc_seq rfl (pea_str pea_nil) pbi_nil (pss_one (ps_ret (pe_call GTY hr6 (by rfl) gTY FTY.kp bTY .nil pass0 (pa_cons (pv 0) pa_nil))))
      pmc_nil))))))))
      (pss_one ps_never)), ?_⟩
    have sne : ∀ {z z' : Str}, z ≠ z' → decide (z = z') = false := fun e => decide_eq_false e
    refine ⟨_, rfl, ?_⟩
    cases d with
    | make h z =>
      refine ⟨t, _, rfl, ht, ?_⟩
      refine iteT ⟨_, _, rfl, ?_⟩
      refine if_pos_of (decide_eq_true rfl) ?_
      refine ⟨_, _, rfl, ⟨_, _, rfl, ?_⟩⟩
      refine ⟨_, _, rfl, ⟨_, _, rfl, ⟨rfl, ?_⟩⟩⟩
      exact ⟨_, rfl, p, g.dx, _, rfl, A0.hp, pf_no _ _ _ (by decide +kernel) (by decide +kernel) (by decide +kernel), _, rfl, _, rfl, p, P0, R, h, z, rfl, ⟨⟨g, A0⟩, W⟩, fun c => kB .hand (if_pos c), fun c1 c2 => kB .size ((if_neg (not_not_intro c1)).trans (if_pos c2)), fun c1 c2 c3 => kB .full ((if_neg (not_not_intro c1)).trans ((if_neg (not_not_intro c2)).trans (if_pos c3))), fun c1 c2 c3 r H' hr ⟨⟨g', A'⟩, _⟩ => k _ _ ((if_neg (not_not_intro c1)).trans ((if_neg (not_not_intro c2)).trans (if_neg (by omega)))) r g' H' hr A'⟩
    | hold h o =>
      refine ⟨t, _, rfl, ht, ?_⟩
      refine iteT ⟨_, _, rfl, ?_⟩
      refine if_neg_of (sne (by decide +kernel)) ?_
      refine ⟨t, _, rfl, ht, ?_⟩
      refine iteT ⟨_, _, rfl, ?_⟩
      refine if_pos_of (decide_eq_true rfl) ?_
      refine ⟨_, _, rfl, ⟨_, _, rfl, ?_⟩⟩
      refine ⟨_, _, rfl, ⟨_, _, rfl, ⟨rfl, ?_⟩⟩⟩
      exact ⟨_, rfl, p, g.dx, _, rfl, A0.hp, pf_no _ _ _ (by decide +kernel) (by decide +kernel) (by decide +kernel), _, rfl, _, rfl, p, P0, R, h, o, rfl, ⟨⟨g, A0⟩, W⟩, fun c => kB .hand (if_pos c), fun c1 c2 => kB .hand ((if_neg (not_not_intro c1)).trans (if_pos c2)), fun c1 c2 r H' hr ⟨⟨g', A'⟩, _⟩ => k _ _ ((if_neg (not_not_intro c1)).trans (if_neg (not_not_intro c2))) r g' H' hr A'⟩
    | drop h =>
      refine ⟨t, _, rfl, ht, ?_⟩
      refine iteF ?_
      refine ⟨t, _, rfl, ht, ?_⟩
      refine iteF ?_
      refine ⟨t, _, rfl, ht, ?_⟩
      refine iteT ⟨_, _, rfl, ?_⟩
      refine if_pos_of (decide_eq_true rfl) ?_
      refine ⟨_, _, rfl, ?_⟩
      refine ⟨_, _, rfl, ⟨rfl, ?_⟩⟩
      exact ⟨_, rfl, p, g.dx, _, rfl, A0.hp, pf_no _ _ _ (by decide +kernel) (by decide +kernel) (by decide +kernel), _, rfl, p, P0, R, h, rfl, ⟨⟨g, A0⟩, W⟩, fun c => kB .hand (if_pos c), fun c1 r H' hr ⟨⟨g', A'⟩, _⟩ => k _ _ (if_neg (not_not_intro c1)) r g' H' hr A'⟩
    | put h s o =>
      refine ⟨t, _, rfl, ht, ?_⟩
      refine iteF ?_
      refine ⟨t, _, rfl, ht, ?_⟩
      refine iteF ?_
      refine ⟨t, _, rfl, ht, ?_⟩
      refine iteF ?_
      refine ⟨t, _, rfl, ht, ?_⟩
      refine iteT ⟨_, _, rfl, ?_⟩
      refine if_pos_of (decide_eq_true rfl) ?_
      refine ⟨_, _, rfl, ⟨_, _, rfl, ⟨_, _, rfl, ?_⟩⟩⟩
      refine ⟨_, _, rfl, ⟨_, _, rfl, ⟨_, _, rfl, ⟨rfl, ?_⟩⟩⟩⟩
      exact ⟨_, rfl, p, g.dx, _, rfl, A0.hp, pf_no _ _ _ (by decide +kernel) (by decide +kernel) (by decide +kernel), _, rfl, _, rfl, _, rfl, p, P0, R, h, s, o, rfl, ⟨⟨g, A0⟩, W⟩, fun c => kB .hand (if_pos c), fun c1 c2 => kB .hand ((if_neg (not_not_intro c1)).trans (if_pos c2)), fun c1 c2 e => kB .box ((if_neg (not_not_intro c1)).trans ((if_neg (not_not_intro c2)).trans (atSlot_none e))), fun c1 c2 n b e hb c3 => kB .slot ((if_neg (not_not_intro c1)).trans ((if_neg (not_not_intro c2)).trans (atSlot_no e hb c3))), fun c1 c2 n b e hb c3 r H' hr ⟨⟨g', A'⟩, _⟩ => k _ _ ((if_neg (not_not_intro c1)).trans ((if_neg (not_not_intro c2)).trans (atSlot_yes e hb c3))) r g' H' hr A'⟩
    | empty h s =>
      refine ⟨t, _, rfl, ht, ?_⟩
      refine iteT ⟨_, _, rfl, ?_⟩
      refine if_neg_of (sne (by decide +kernel)) ?_
      refine ⟨t, _, rfl, ht, ?_⟩
      refine iteT ⟨_, _, rfl, ?_⟩
      refine if_neg_of (sne (by decide +kernel)) ?_
      refine ⟨t, _, rfl, ht, ?_⟩
      refine iteF ?_
      refine ⟨t, _, rfl, ht, ?_⟩
      refine iteF ?_
      refine ⟨t, _, rfl, ht, ?_⟩
      refine iteT ⟨_, _, rfl, ?_⟩
      refine if_pos_of (decide_eq_true rfl) ?_
      refine ⟨_, _, rfl, ⟨_, _, rfl, ?_⟩⟩
      refine ⟨_, _, rfl, ⟨_, _, rfl, ⟨rfl, ?_⟩⟩⟩
      exact ⟨_, rfl, p, g.dx, _, rfl, A0.hp, pf_no _ _ _ (by decide +kernel) (by decide +kernel) (by decide +kernel), _, rfl, _, rfl, p, P0, R, h, s, rfl, ⟨⟨g, A0⟩, W⟩, fun c => kB .hand (if_pos c), fun c1 e => kB .box ((if_neg (not_not_intro c1)).trans (atSlot_none e)), fun c1 n b e hb c3 => kB .slot ((if_neg (not_not_intro c1)).trans (atSlot_no e hb c3)), fun c1 n b e hb c3 r H' hr ⟨⟨g', A'⟩, _⟩ => k _ _ ((if_neg (not_not_intro c1)).trans (atSlot_yes e hb c3)) r g' H' hr A'⟩
    | take h o s =>
      refine ⟨t, _, rfl, ht, ?_⟩
      refine iteF ?_
      refine ⟨t, _, rfl, ht, ?_⟩
      refine iteF ?_
      refine ⟨t, _, rfl, ht, ?_⟩
      refine iteF ?_
      refine ⟨t, _, rfl, ht, ?_⟩
      refine iteT ⟨_, _, rfl, ?_⟩
      refine if_neg_of (sne (by decide +kernel)) ?_
      refine ⟨t, _, rfl, ht, ?_⟩
      refine iteF ?_
      refine ⟨t, _, rfl, ht, ?_⟩
      refine iteT ⟨_, _, rfl, ?_⟩
      refine if_pos_of (decide_eq_true rfl) ?_
      refine ⟨_, _, rfl, ⟨_, _, rfl, ⟨_, _, rfl, ?_⟩⟩⟩
      refine ⟨_, _, rfl, ⟨_, _, rfl, ⟨_, _, rfl, ⟨rfl, ?_⟩⟩⟩⟩
      exact ⟨_, rfl, p, g.dx, _, rfl, A0.hp, pf_no _ _ _ (by decide +kernel) (by decide +kernel) (by decide +kernel), _, rfl, _, rfl, _, rfl, p, P0, R, h, o, s, rfl, ⟨⟨g, A0⟩, W⟩, fun c => kB .hand (if_pos c), fun c1 c2 => kB .hand ((if_neg (not_not_intro c1)).trans (if_pos c2)), fun c1 c2 e => kB .box ((if_neg (not_not_intro c1)).trans ((if_neg (not_not_intro c2)).trans (atSlot_none e))), fun c1 c2 n b e hb c3 => kB .slot ((if_neg (not_not_intro c1)).trans ((if_neg (not_not_intro c2)).trans (atSlot_no e hb c3))), fun c1 c2 n b e hb c3 r H' hr ⟨⟨g', A'⟩, _⟩ => k _ _ ((if_neg (not_not_intro c1)).trans ((if_neg (not_not_intro c2)).trans (atSlot_yes e hb c3))) r g' H' hr A'⟩
    | tidy =>
      refine ⟨t, _, rfl, ht, ?_⟩
      refine iteF ?_
      refine ⟨t, _, rfl, ht, ?_⟩
      refine iteF ?_
      refine ⟨t, _, rfl, ht, ?_⟩
      refine iteF ?_
      refine ⟨t, _, rfl, ht, ?_⟩
      refine iteF ?_
      refine ⟨t, _, rfl, ht, ?_⟩
      refine iteF ?_
      refine ⟨t, _, rfl, ht, ?_⟩
      refine iteF ?_
      refine ⟨t, _, rfl, ht, ?_⟩
      refine iteT ⟨_, _, rfl, ?_⟩
      refine if_pos_of (decide_eq_true rfl) ?_
      refine ⟨rfl, ?_⟩
      exact ⟨_, rfl, p, g, P0, R, rfl, A0, G, fun r H' hr A' => k _ _ rfl r g H' hr A'⟩
end
end BP

namespace BP
open PySem L2
abbrev sBestWays : Stmt := top 33
abbrev nBestWays : List Str := ["pile", "found", "ways", "longer", "number", "way", "hand", "slot", "pointed"]
/-- names of built-ins that ways' defs call -/
structure TxtW (mg : Str → Option Value) : Prop where
  enumerate : mg "enumerate" = none
  range : mg "range" = none
theorem ints_refs {w : List Int} (h : w ≠ []) (ts : List Addr) : w.map V.int ≠ ts.map V.ref := by
  intro e
  cases w with
  | nil => exact h rfl
  | cons n w =>
    cases ts with
    | nil => cases e
    | cons t ts => injection e with e _; cases e
/-- pairs of a target and a way, as tuples -/
def QAt (R0 R : Hp) : List Addr → List (Option Int × List Int) → Prop := Paired fun t c => c.2 ≠ [] ∧ ∃ a, R0 a = none ∧ R t = some (.tup [oV c.1, .ref a]) ∧ R a = some (.lst (c.2.map V.int))
/-- ways by their boxes, as a dict -/
def FAt (R0 R : Hp) : List (Key × V) → List (Int × List Int) → Prop := Paired fun kv e => kv.1 = Sum.inl e.1 ∧ e.2 ≠ [] ∧ ∃ a, R0 a = none ∧ kv.2 = .ref a ∧ R a = some (.lst (e.2.map V.int))
theorem QAt.same {R0 R R' : Hp} (s : Same R R') {ts : List Addr} {q : List (Option Int × List Int)} (h : QAt R0 R ts q) : QAt R0 R' ts q := paired_imp (fun _ _ ⟨n, a, h0, h1, h2⟩ => ⟨n, a, h0, s _ _ h1, s _ _ h2⟩) h
theorem FAt.same {R0 R R' : Hp} (s : Same R R') {kvs : List (Key × V)} {f : List (Int × List Int)} (h : FAt R0 R kvs f) : FAt R0 R' kvs f := paired_imp (fun _ _ ⟨k, n, a, h0, h1, h2⟩ => ⟨k, n, a, h0, h1, s _ _ h2⟩) h
theorem QAt.off {R0 R : Hp} {ts us : List Addr} {q : List (Option Int × List Int)} (h : QAt R0 R ts q) {l : Addr} (hl : R l = some (.lst (us.map V.ref))) (o : HO) : QAt R0 (upd R l o) ts q :=
  paired_imp (fun _ _ ⟨n, a, h0, h1, h2⟩ => ⟨n, a, h0, by rw [upd_ne (ne_of h1 hl (by intro z; cases z))]; exact h1, by rw [upd_ne (ne_of h2 hl (by intro z; injection z with z; exact ints_refs n _ z))]; exact h2⟩) h
theorem FAt.off {R0 R : Hp} {us : List Addr} {kvs : List (Key × V)} {f : List (Int × List Int)} (h : FAt R0 R kvs f) {l : Addr} (hl : R l = some (.lst (us.map V.ref))) (o : HO) : FAt R0 (upd R l o) kvs f :=
  paired_imp (fun _ _ ⟨k, n, a, h0, h1, h2⟩ => ⟨k, n, a, h0, h1, by rw [upd_ne (ne_of h2 hl (by intro z; injection z with z; exact ints_refs n _ z))]; exact h2⟩) h
theorem QAt.offd {R0 R : Hp} {ts : List Addr} {q : List (Option Int × List Int)} (h : QAt R0 R ts q) {d : Addr} {kvs : List (Key × V)} (hd : R d = some (.dK kvs)) (o : HO) : QAt R0 (upd R d o) ts q :=
  paired_imp (fun _ _ ⟨n, a, h0, h1, h2⟩ => ⟨n, a, h0, by rw [upd_ne (ne_of h1 hd (by intro z; cases z))]; exact h1, by rw [upd_ne (ne_of h2 hd (by intro z; cases z))]; exact h2⟩) h
theorem FAt.offd {R0 R : Hp} {kvs' : List (Key × V)} {f : List (Int × List Int)} (h : FAt R0 R kvs' f) {d : Addr} {kvs : List (Key × V)} (hd : R d = some (.dK kvs)) (o : HO) : FAt R0 (upd R d o) kvs' f :=
  paired_imp (fun _ _ ⟨k, n, a, h0, h1, h2⟩ => ⟨k, n, a, h0, h1, by rw [upd_ne (ne_of h2 hd (by intro z; cases z))]; exact h2⟩) h
theorem FAt.get {R0 R : Hp} : ∀ {kvs : List (Key × V)} {f : List (Int × List Int)}, FAt R0 R kvs f → ∀ n : Int, (n ∉ f.map (·.1) ∧ valV kvs (Sum.inl n : Key) = none) ∨ (∃ w a, (n, w) ∈ f ∧ w ≠ [] ∧ valV kvs (Sum.inl n : Key) = some (.ref a) ∧ R a = some (.lst (w.map V.int)) ∧ R0 a = none)
  | _, _, .nil, n => .inl ⟨fun h => (by cases h), rfl⟩
  | (k, v) :: kvs, e :: f, .cons ⟨h1, h2, a, h0, h3, h4⟩ t, n => by
    by_cases c : e.1 = n
    · refine .inr ⟨e.2, a, by rw [← c]; exact List.mem_cons_self, h2, ?_, h4, h0⟩
      rw [valV_pos (show (k, v).1 = Sum.inl n from by rw [← c]; exact h1)]
      exact congrArg some h3
    · have hk : (k, v).1 ≠ Sum.inl n := fun z => by rw [show (k, v).1 = Sum.inl e.1 from h1] at z; injection z with z; exact c z
      rcases FAt.get t n with ⟨g1, g2⟩ | ⟨w, a', g1, g2, g3, g4, g5⟩
      · refine .inl ⟨fun h => ?_, by rw [valV_neg hk]; exact g2⟩
        rcases List.mem_cons.mp h with h | h
        · exact c h.symm
        · exact g1 h
      · exact .inr ⟨w, a', List.mem_cons_of_mem _ g1, g2, by rw [valV_neg hk]; exact g3, g4, g5⟩
theorem FAt.keys {R0 R : Hp} : ∀ {kvs : List (Key × V)} {f : List (Int × List Int)}, FAt R0 R kvs f → kvs.map (·.1) = (f.map (·.1)).map Sum.inl
  | _, _, .nil => rfl
  | (k, v) :: kvs, e :: f, .cons ⟨h1, _⟩ t => by
    show k :: _ = Sum.inl e.1 :: _
    rw [show k = Sum.inl e.1 from h1, FAt.keys t]
theorem mem_uniq {f : List (Int × List Int)} (h : (f.map (·.1)).Nodup) {n : Int} {w w' : List Int} (h1 : (n, w) ∈ f) (h2 : (n, w') ∈ f) : w = w' := by
  induction f with
  | nil => cases h1
  | cons e f ih =>
    have hn := List.nodup_cons.mp (show (e.1 :: f.map (·.1)).Nodup from h)
    rcases List.mem_cons.mp h1 with h1 | h1
    · rcases List.mem_cons.mp h2 with h2 | h2
      · rw [← h1] at h2; injection h2 with _ h2; exact h2.symm
      · exact absurd (List.mem_map.mpr ⟨_, h2, by rw [← h1]⟩) hn.1
    · rcases List.mem_cons.mp h2 with h2 | h2
      · exact absurd (List.mem_map.mpr ⟨_, h1, by rw [← h2]⟩) hn.1
      · exact ih hn.2 h1 h2
def spBestWays (C B : Addr) : Sp := fun vs H Q _ => ∃ (p : Addr) (g : Geo) (P : Pl) (R : Hp), vs = [.ref p] ∧ PileAt C B p g P R H ∧ Wf P [] ∧
  ∀ (d : Addr) (kvs : List (Key × V)) (f : List (Int × List Int)) (R' H' : Hp), Same R R' → R d = none → R' d = some (.dK kvs) → FAt R R' kvs f → Bi P f [] → BR P.boxes (handsC P) [] f → PileAt C B p g P R' H' → Q (.ref d) H'
section
variable {P : Program} {w : World} {K : PySem.W.Frag} {mg : Str → Option Value} {base : Heap} {C B eH eS eF eB eL : Addr}
theorem scBestWays : FnScope nBestWays ["pile"] (defScope sBestWays) := ⟨rfl, rfl, rfl, by decide +kernel, rfl, by decide +kernel, by decide +kernel⟩
theorem ok_bestways {f fH fT : Addr} {fd dH dT : FuncData} (F : Fun K "best_ways" "best_ways" sBestWays f fd) (T : Txt K mg C B eH eS eF eB eL) (TW : TxtW mg) (GH : FnOk P w K mg base (L2N.CX P w) 2 fH dH ["self", "hand"] (spHolds C B eH)) (bH : Binds K dH ["self", "hand"] []) (mH : Meth K C "holds" fH)
    (GT : FnOk P w K mg base (L2N.CX P w) 2 fT dT ["self", "number"] (spPoints C B eB)) (bT : Binds K dT ["self", "number"] []) (mT : Meth K C "points" fT) : FnOk P w K mg base CX0 3 f fd ["pile"] (spBestWays C B) := by
  refine F.ok scBestWays (fun vs H Q E h => ?_) (fun cdv A outer s H vs Q E hr h => ?_)
  · obtain ⟨p, g, P, R, rfl, _⟩ := h
    rfl
  · obtain ⟨p, g, P0, R, rfl, A0, W, k⟩ := h
    have nd := scBestWays.nd
    have hr2 : Room 2 _ := hr
    have hu := hu_of hr
    have few := W.few
    obtain ⟨t8, hT⟩ := T.hands
    refine ⟨_, (pss_cons (ps_set (i := 1) nd rfl (Or.inl rfl) pe_dnewK)
      (pss_cons (ps_setLc (i := 2) (own := [("hand", 6)]) (g := gName 6) (tt := tYes) (te := tTup (tCons (tMeth C "holds" (spHolds C B eH) [] E0 (tVar 0) (tCons (tVar 6) tNil)) (tCons (tLst (tCons (tVar 6) tNil)) tNil))) (by rfl) nd rfl rfl (sw_true rfl rfl rfl (by decide +kernel)) (pi_range1 (by rfl) TW.range (pa_cons (pe_glob (v := .int 8) (by rfl) hT ⟨_, rfl⟩) pa_nil)) (blkOk_by (N := nBestWays) (sc := defScope sBestWays) (by decide +kernel)) (fun _ _ _ _ _ => pg_name (i := 6) nd rfl (Or.inl rfl)) (fun _ _ _ _ _ => pts_nil) (fun _ _ _ _ _ => pe_tup (pa_cons (pe_meth (pv 0) T.clC mH GH hr2 bH .nil passLN (pa_cons (pv 6) pa_nil)) (pa_cons (pe_lst (pa_cons (pv 6) pa_nil)) pa_nil))))
      (pss_cons (ps_while PassesOwn.never (pt_truth (pv 2) (by intro _; rfl)) (pss_cons (ps_set (i := 3) nd rfl (Or.inl rfl) (pe_lst pa_nil))
      (pss_cons (ps_for PassesOwn.never rfl (pi_list (pv 2)) (pg_tup rfl (pgs_cons (pg_name (i := 4) nd rfl (Or.inl rfl)) (pgs_cons (pg_name (i := 5) nd rfl (Or.inr rfl)) pgs_nil)))
      (pss_one (ps_mid (ps_if (PW.pt (pw_and (pt_cmp (pc_notN (pv 4))) (pw_and1 (pt_cmp (pc_dnotin hu (pv 4) (pv 1)))))) (pss_cons (ps_dput hu (pv 1) (pv 4) (pv 5) rfl)
      (pss_one (ps_expr (pe_bm PySem.F.plainAttrs_list PySem.F.slot_list_extend PySem.F.type_list_extend mt_extend (pv 3) (pa_cons (pe_lc (own := [("slot", 7), ("pointed", 8)]) (g := gTup K 2 (gCons (gName 7) (gCons (gName 8) gNil))) (tt := tYes) (te := tTup (tCons (tVar 8) (tCons (tOp rCat (tVar 5) (tLst (tCons (tVar 7) tNil))) tNil))) (by rfl) nd (pi_enum (by rfl) TW.enumerate (pa_cons (pe_meth (pv 0) T.clC mT GT hr2 bT .nil passLN (pa_cons (pv 4) pa_nil)) pa_nil)) (blkOk_by (N := nBestWays) (sc := defScope sBestWays) (by decide +kernel)) (fun _ _ _ _ _ => pg_tup rfl (pgs_cons (pg_name (i := 7) nd rfl (Or.inl rfl)) (pgs_cons (pg_name (i := 8) nd rfl (Or.inl rfl)) pgs_nil))) (fun _ _ _ _ _ => pts_nil) (fun _ _ _ _ _ => pe_tup (pa_cons (pv 8) (pa_cons (pe_op op_cat (pv 5) (pe_lst (pa_cons (pv 7) pa_nil))) pa_nil)))) pa_nil))))) pss_nil))))
      (pss_one (ps_set (i := 2) nd rfl (Or.inl rfl) (pv 3))))))
      (pss_one (ps_ret (pv 1)))))), ?_⟩
    intro d hd
    have A1 := A0.new (o := .dK []) hd
    have rd := A0.same.free hd
    -- the hands' pairs
    refine ⟨8, rfl, by decide, by decide, fun lw hlw => lc_range (lo := 0) (n := (8 : Int).toNat) (fun i H' => ∃ (R' : Hp) (ts : List Addr), Same (upd R d (.dK [])) R' ∧ R' lw = none ∧ PileAt C B p g P0 (upd R' lw (.lst (ts.map V.ref))) H' ∧ QAt R R' ts ((handsC P0).take i)) ⟨_, [], fun _ _ e => e, A1.same.free hlw, A1.new hlw, .nil⟩ ?_ ?_⟩
    · rintro i H1 hi ⟨R', ts, sR, rlw, A2, hq⟩
      have hi8 : i < 8 := hi
      refine ⟨rfl, _, rfl, p, g.dx, _, rfl, A2.hp, pf_no _ _ _ (by decide +kernel) (by decide +kernel) (by decide +kernel), _, rfl, p, g, P0, _, _, rfl, A2, W.hl, fun c => absurd ⟨by omega, by show (0 : Int) + (i : Int) < 8; omega⟩ c, fun _ => ?_⟩
      refine ⟨_, rfl, (by show 1 ≤ sizeLine; decide), fun a ha => ⟨(by show 2 ≤ sizeLine; decide), fun t ht => ?_⟩⟩
      have A3 := (A2.new (o := .lst [.int (0 + (i : Int))]) ha).new (o := .tup [oV (P0.hands.getD ((0 : Int) + (i : Int)).toNat none), .ref a]) ht
      have nla : lw ≠ a := fun e => by rw [← e, A2.same _ _ upd_same] at ha; cases ha
      have nlt : lw ≠ t := fun e => by rw [← e, upd_ne nla, A2.same _ _ upd_same] at ht; cases ht
      have ra : R' a = none := by have := A2.same.free ha; rw [upd_ne nla.symm] at this; exact this
      have rt : upd R' a (.lst [.int (0 + (i : Int))]) t = none := by
        have := (A2.new (o := .lst [.int (0 + (i : Int))]) ha).same.free ht
        rw [upd_comm nla, upd_ne nlt.symm] at this
        exact this
      rw [upd_comm nla, upd_comm nlt] at A3
      refine ⟨_, A3.same _ _ upd_same, (by rw [List.length_map, paired_length hq, List.length_take, sizeLine_eq]; omega), ?_⟩
      have A4 := A3.set (a := lw) (o := .lst (ts.map V.ref ++ [V.ref t])) upd_same
      rw [upd_upd] at A4
      have s4 := (same_upd (o := .lst [.int (0 + (i : Int))]) ra).trans (same_upd (o := .tup [oV (P0.hands.getD ((0 : Int) + (i : Int)).toNat none), .ref a]) rt)
      refine ⟨_, ts ++ [t], sR.trans s4, by rw [upd_ne nlt, upd_ne nla]; exact rlw, by rw [List.map_append]; exact A4, ?_⟩
      have hc : (handsC P0)[i]? = some (P0.hands.getD i none, [(i : Int)]) := by unfold handsC; rw [List.getElem?_map, List.getElem?_range hi8]; rfl
      rw [take_get' hc]
      have e0i : ((0 : Int) + (i : Int)).toNat = i := by omega
      have nat : a ≠ t := fun e => by rw [← e, upd_same] at rt; cases rt
      exact paired_app (hq.same s4) (.cons ⟨by simp, a, ((same_upd rd).trans sR).free ra, by rw [upd_same, e0i], by rw [upd_ne nat, upd_same, Int.zero_add]; rfl⟩ .nil)
    rintro H1 ⟨R1, ts, sR, rlw, A2, hq⟩
    have hlw : upd R1 lw (.lst (ts.map V.ref)) lw = some (.lst (ts.map V.ref)) := upd_same
    have hdd : upd R1 lw (.lst (ts.map V.ref)) d = some (.dK []) := (same_upd rlw) _ _ (sR _ _ upd_same)
    have sR2 : Same R (upd R1 lw (.lst (ts.map V.ref))) := ((same_upd rd).trans sR).trans (same_upd rlw)
    replace hq : QAt R (upd R1 lw (.lst (ts.map V.ref))) ts (handsC P0) := by
      have e8 : (handsC P0).take (8 : Int).toNat = handsC P0 := List.take_of_length_le (by unfold handsC; rw [List.length_map, List.length_range]; decide)
      rw [e8] at hq
      exact hq.same (same_upd rlw)
    generalize upd R1 lw (.lst (ts.map V.ref)) = R2 at A2 hlw hdd sR2 hq
    clear A1 sR rlw R1
    -- level by level
    refine ⟨fun m σ H => ∃ (lw : Addr) (ts : List Addr) (q : List (Option Int × List Int)) (kvs : List (Key × V)) (f : List (Int × List Int)) (R' : Hp) (v3 v4 v5 : Option V), σ = [some (.ref p), some (.ref d), some (.ref lw), v3, v4, v5, none, none, none] ∧ PileAt C B p g P0 R' H ∧ Same R R' ∧ R' d = some (.dK kvs) ∧ R' lw = some (.lst (ts.map V.ref)) ∧ QAt R R' ts q ∧ FAt R R' kvs f ∧ Bi P0 f q ∧ (∀ r, BR P0.boxes q f r → BR P0.boxes (handsC P0) [] r) ∧ m = 2 * (P0.boxes.length - f.length) + min 1 q.length,
      ⟨_, lw, ts, handsC P0, [], [], R2, none, none, none, rfl, A2, sR2, hdd, hlw, hq, .nil, bi0 W, fun r h => h, rfl⟩, ?_⟩
    clear A2 hdd sR2 hq
    rintro m σ H1 ⟨lw, ts, q, kvs, f, R1, v3, v4, v5, rfl, A1, sR1, hdd, hlw, hq, hf, hbi, hbr, rfl⟩
    refine ⟨_, rfl, !(ts.map V.ref).isEmpty, .inl ⟨_, SqL.of (A1.same _ _ hlw), rfl⟩, ?_⟩
    by_cases c : q = []
    · subst c
      have : ts = [] := List.eq_nil_of_length_eq_zero (by rw [paired_length hq]; rfl)
      subst this
      refine iteF ?_
      exact ⟨_, rfl, k d kvs f R1 H1 sR1 rd hdd hf hbi (hbr f (.nil f)) A1⟩
    have hts : ts ≠ [] := fun e => c (List.eq_nil_of_length_eq_zero (by rw [← paired_length hq, e]; rfl))
    rw [show (!(ts.map V.ref).isEmpty) = true from by cases ts with | nil => exact absurd rfl hts | cons _ _ => rfl]
    refine iteT ?_
    have hq1 : 1 ≤ q.length := List.length_pos_iff.mpr c
    refine ⟨fun σ' H' => ∃ m', m' < 2 * (P0.boxes.length - f.length) + min 1 q.length ∧ ∃ (lw : Addr) (ts : List Addr) (q : List (Option Int × List Int)) (kvs : List (Key × V)) (f : List (Int × List Int)) (R' : Hp) (v3 v4 v5 : Option V), σ' = [some (.ref p), some (.ref d), some (.ref lw), v3, v4, v5, none, none, none] ∧ PileAt C B p g P0 R' H' ∧ Same R R' ∧ R' d = some (.dK kvs) ∧ R' lw = some (.lst (ts.map V.ref)) ∧ QAt R R' ts q ∧ FAt R R' kvs f ∧ Bi P0 f q ∧ (∀ r, BR P0.boxes q f r → BR P0.boxes (handsC P0) [] r) ∧ m' = 2 * (P0.boxes.length - f.length) + min 1 q.length, fun σ' H' h => h, ?_⟩
    refine ⟨(by show 0 ≤ sizeLine; decide), fun ll hll => ?_⟩
    have A2 := A1.new (o := .lst ([] : List V)) hll
    have rll := A1.same.free hll
    have s12 := same_upd (o := .lst ([] : List V)) rll
    refine ⟨_, rfl, lw, rfl, ⟨_, SqL.of (A2.same _ _ (s12 _ _ hlw))⟩, for_list (K := K) (a := lw) (xs := ts.map V.ref) (fun i σ H' => ∃ (tl : List Addr) (ql : List (Option Int × List Int)) (kvs' : List (Key × V)) (f' : List (Int × List Int)) (R' : Hp) (v4 v5 : Option V), σ = [some (.ref p), some (.ref d), some (.ref lw), some (.ref ll), v4, v5, none, none, none] ∧ PileAt C B p g P0 R' H' ∧ Same R R' ∧ R ll = none ∧ R' d = some (.dK kvs') ∧ R' lw = some (.lst (ts.map V.ref)) ∧ R' ll = some (.lst (tl.map V.ref)) ∧ lw ≠ ll ∧ QAt R R' ts q ∧ QAt R R' tl ql ∧ FAt R R' kvs' f' ∧ Bi P0 f' (q.drop i ++ ql) ∧ (∀ r, BR P0.boxes (q.drop i ++ ql) f' r → BR P0.boxes (handsC P0) [] r) ∧ ((f'.length = f.length ∧ ql = []) ∨ f.length < f'.length) ∧ ql.length ≤ 6 * f'.length)
      ⟨[], [], kvs, f, _, v4, v5, rfl, A2, sR1.trans s12, sR1.free rll, s12 _ _ hdd, s12 _ _ hlw, upd_same, ne_of_none hlw rll, hq.same s12, .nil, hf.same s12, by rw [List.drop_zero, List.append_nil]; exact hbi, by rw [List.drop_zero, List.append_nil]; exact hbr, .inl ⟨rfl, rfl⟩, Nat.zero_le _⟩
      (fun i σ H' _ ⟨_, _, _, _, R', _, _, _, A', _, _, _, h, _⟩ => SqL.of (A'.same _ _ h)) ?_ ?_⟩
    · clear A2 A1 hdd hlw hq hf hbi hbr hll rll s12 sR1
      rintro i y σ H2 hi ⟨tl, ql, kvs', f', R2, v4, v5, rfl, A2, sR2, rll, hdd, hlw, hll, nwl, hq, hql, hf, hbi, hbr, hprog, hlen⟩
      obtain ⟨t, ht, rfl⟩ := refs_at hi
      obtain ⟨⟨x, wy⟩, hc, hw0, a, ha0, htt, hta⟩ := paired_at hq i t ht
      have hil := (List.getElem?_eq_some_iff.mp hc).1
      have hdrop : q.drop i = (x, wy) :: q.drop (i + 1) := by
        rw [List.drop_eq_getElem_cons hil]
        congr 1
        exact (List.getElem?_eq_some_iff.mp hc).2
      rw [hdrop] at hbi hbr
      replace hbi : Bi P0 f' ((x, wy) :: (q.drop (i + 1) ++ ql)) := hbi
      replace hbr : ∀ r, BR P0.boxes ((x, wy) :: (q.drop (i + 1) ++ ql)) f' r → BR P0.boxes (handsC P0) [] r := hbr
      have hf60 := hbi.len W
      have hwl := hbi.wl x wy List.mem_cons_self
      refine ⟨t, _, rfl, SqT.of (A2.same _ _ htt), rfl, _, _, rfl, _, _, rfl, rfl, ?_⟩
      refine ⟨_, ?_, fun σ' H' h => h⟩
      refine ⟨_, rfl, _, rfl, ?_⟩
      cases x with
      | none =>
        refine if_neg_of (by show (!decide (V.non = V.non)) = false; rw [decide_eq_true rfl]; rfl) ?_
        refine iteF ?_
        exact ⟨tl, ql, kvs', f', R2, _, _, rfl, A2, sR2, rll, hdd, hlw, hll, nwl, hq, hql, hf, hbi.non, fun r h => hbr r (.non h), hprog, hlen⟩
      | some n =>
        refine if_pos_of (by show (!decide (V.int n = V.non)) = true; rw [decide_eq_false (by intro z; cases z)]; rfl) ?_
        have hdg := DGet.k (k := Sum.inl n) (A2.same _ _ hdd)
        rcases hf.get n with ⟨hn, hv⟩ | ⟨w', a', hn, _, hv, _, _⟩
        case inr =>
          rw [hv] at hdg
          refine ⟨_, rfl, _, rfl, d, _, rfl, hdg, _, rfl, ?_⟩
          refine iteF ?_
          have hnk : n ∈ f'.map (·.1) := List.mem_map.mpr ⟨_, hn, rfl⟩
          exact ⟨tl, ql, kvs', f', R2, _, _, rfl, A2, sR2, rll, hdd, hlw, hll, nwl, hq, hql, hf, hbi.old hnk, fun r h => hbr r (.old hnk h), hprog, hlen⟩
        rw [hv] at hdg
        refine ⟨_, rfl, _, rfl, d, _, rfl, hdg, _, rfl, ?_⟩
        refine iteT ?_
        obtain ⟨b, hb⟩ := ((hbi.ql (some n) wy List.mem_cons_self).hl n rfl).alive W
        have kl : kvs'.length = f'.length := paired_length hf
        refine ⟨_, rfl, _, rfl, _, rfl, d, _, rfl, DPut.k (k := Sum.inl n) (A2.same _ _ hdd) (by rw [kl, sizeLine_eq]; omega), ?_⟩
        have A3 := A2.set (a := d) (o := .dK (putK kvs' (Sum.inl n) (.ref a))) hdd
        rw [putK_new _ hv] at A3 ⊢
        have hd3 : upd R2 d (.dK (kvs' ++ [((Sum.inl n : Key), V.ref a)])) d = some (.dK (kvs' ++ [((Sum.inl n : Key), V.ref a)])) := upd_same
        have ndl : lw ≠ d := ne_of hlw hdd (by intro z; cases z)
        have ndl2 : ll ≠ d := ne_of hll hdd (by intro z; cases z)
        have nda : a ≠ d := ne_of hta hdd (by intro z; cases z)
        have hlw3 : upd R2 d (.dK (kvs' ++ [((Sum.inl n : Key), V.ref a)])) lw = _ := (upd_ne ndl).trans hlw
        have hll3 : upd R2 d (.dK (kvs' ++ [((Sum.inl n : Key), V.ref a)])) ll = _ := (upd_ne ndl2).trans hll
        have hta3 : upd R2 d (.dK (kvs' ++ [((Sum.inl n : Key), V.ref a)])) a = _ := (upd_ne nda).trans hta
        have hq3 := hq.offd hdd (.dK (kvs' ++ [((Sum.inl n : Key), V.ref a)]))
        have hql3 := hql.offd hdd (.dK (kvs' ++ [((Sum.inl n : Key), V.ref a)]))
        have hf3 : FAt R (upd R2 d (.dK (kvs' ++ [((Sum.inl n : Key), V.ref a)]))) (kvs' ++ [((Sum.inl n : Key), V.ref a)]) (f' ++ [(n, wy)]) := paired_app (hf.offd hdd _) (.cons ⟨rfl, hw0, a, ha0, rfl, hta3⟩ .nil)
        have sR3 : Same R (upd R2 d (.dK (kvs' ++ [((Sum.inl n : Key), V.ref a)]))) := same_off sR2 rd _
        generalize upd R2 d (.dK (kvs' ++ [((Sum.inl n : Key), V.ref a)])) = R3 at A3 hd3 hlw3 hll3 hta3 hq3 hql3 hf3 sR3
        generalize upd H2 d (.dK (kvs' ++ [((Sum.inl n : Key), V.ref a)])) = H3 at A3 ⊢
        have hbi3 := hbi.new hn hb
        have hbr3 : ∀ r, BR P0.boxes ((q.drop (i + 1) ++ ql) ++ cands (slo P0.boxes n) wy) (f' ++ [(n, wy)]) r → BR P0.boxes (handsC P0) [] r := fun r h => hbr r (.new hn h)
        clear A2 hdd hlw hll hq hql hf hbi hbr hdg sR2 htt hta
        have ls := W.sl n b hb
        have wl : wy.length ≤ 1000000 := by omega
        -- longer grows
        refine ⟨_, rfl, .inl ⟨rfl, _, SqL.of (A3.same _ _ hll3)⟩, _, rfl, p, g.dx, _, rfl, A3.hp, pf_no _ _ _ (by decide +kernel) (by decide +kernel) (by decide +kernel), _, rfl, p, g, P0, R3, n, rfl, A3, fun b hb => W.sl _ _ hb, fun z => absurd (hb.symm.trans z) (by intro z; cases z), fun b' hb' r hr => ?_⟩
        have : b' = b := Option.some.inj (hb'.symm.trans hb)
        subst this
        have A4 := A3.new (o := .lst (lV b'.slots)) hr
        have rr := A3.same.free hr
        have s34 := same_upd (o := .lst (lV b'.slots)) rr
        have hr4 : upd R3 r (.lst (lV b'.slots)) r = some (.lst (lV b'.slots)) := upd_same
        refine ⟨r, _, rfl, SqL.of upd_same, fun lt hlt => ?_⟩
        refine lc_it walk_enum (fun j H' => ∃ (R' : Hp) (tt : List Addr), Same (upd R3 r (.lst (lV b'.slots))) R' ∧ R' lt = none ∧ PileAt C B p g P0 (upd R' lt (.lst (tt.map V.ref))) H' ∧ QAt R R' tt ((cands (slo P0.boxes n) wy).take j)) ⟨_, [], fun _ _ e => e, A4.same.free hlt, A4.new hlt, .nil⟩ (fun j H' _ ⟨R', tt, s', rl', A', _⟩ => SqL.of (A'.same _ _ ((same_upd rl') _ _ (s' _ _ hr4)))) ?_ ?_
        · clear hlt A4
          rintro j z H3' H4' hj ⟨R', tt, s', rl', A5, hqt⟩ ⟨te, y1, y2, rfl, hte, rfl, e1, e2⟩
          have e1' : V.int (j : Int) = y1 := Option.some.inj e1
          subst e1'
          obtain ⟨o, ho, rfl⟩ := lV_at' e2
          have hjl : j < b'.slots.length := (List.getElem?_eq_some_iff.mp ho).1
          have A6 := (A5.new (o := .tup [V.int (j : Int), oV o]) hte).less (same_upd (A5.same.free hte))
          refine ⟨te, _, rfl, SqT.of upd_same, rfl, _, _, rfl, _, _, rfl, rfl, rfl, _, rfl, ?_⟩
          generalize upd H3' te (.tup [V.int (j : Int), oV o]) = H5 at A6 ⊢
          clear A5 hte
          have hta6 := A6.same _ _ ((same_upd rl') _ _ (s' _ _ (s34 _ _ hta3)))
          refine ⟨_, rfl, _, rfl, (by show 1 ≤ sizeLine; decide), fun l1 hl1 => ?_⟩
          have A7 := (A6.new (o := .lst [.int (j : Int)]) hl1).less (same_upd (A6.same.free hl1))
          refine ⟨a, l1, _, _, rfl, rfl, (same_upd hl1) _ _ hta6, upd_same, (by rw [List.length_map, sizeLine_eq]; show wy.length + 1 ≤ _; omega), fun l2 hl2 => ⟨(by show 2 ≤ sizeLine; decide), fun t2 ht2 => ?_⟩⟩
          generalize upd H5 l1 (.lst [.int (j : Int)]) = H6 at A7 hl2 ht2 ⊢
          clear A6 hl1 hta6
          have A8 := (A7.new (o := .lst (wy.map V.int ++ [.int (j : Int)])) hl2).new (o := .tup [oV o, .ref l2]) ht2
          have n1 : lt ≠ l2 := fun e => by rw [← e, A7.same _ _ upd_same] at hl2; cases hl2
          have n2 : lt ≠ t2 := fun e => by rw [← e, upd_ne n1, A7.same _ _ upd_same] at ht2; cases ht2
          have r2 : R' l2 = none := by have := A7.same.free hl2; rw [upd_ne n1.symm] at this; exact this
          have rt2 : upd R' l2 (.lst (wy.map V.int ++ [.int (j : Int)])) t2 = none := by
            have := (A7.new (o := .lst (wy.map V.int ++ [.int (j : Int)])) hl2).same.free ht2
            rw [upd_comm n1, upd_ne n2.symm] at this
            exact this
          rw [upd_comm n1, upd_comm n2] at A8
          have es : slo P0.boxes n = b'.slots := slo_of hb
          have hcj : (cands (slo P0.boxes n) wy)[j]? = some (o, wy ++ [(j : Int)]) := by
            unfold cands
            rw [es, List.getElem?_map, List.getElem?_range hjl]
            show some (b'.slots.getD j none, _) = _
            rw [List.getD_eq_getElem?_getD, ho]
            rfl
          refine ⟨_, A8.same _ _ upd_same, (by rw [List.length_map, paired_length hqt, List.length_take, sizeLine_eq]; omega), ?_⟩
          have A9 := A8.set (a := lt) (o := .lst (tt.map V.ref ++ [V.ref t2])) upd_same
          rw [upd_upd] at A9
          have s9 := (same_upd (o := .lst (wy.map V.int ++ [.int (j : Int)])) r2).trans (same_upd (o := .tup [oV o, .ref l2]) rt2)
          refine ⟨_, tt ++ [t2], s'.trans s9, by rw [upd_ne n2, upd_ne n1]; exact rl', by rw [List.map_append]; exact A9, ?_⟩
          rw [take_get' hcj]
          have nlt2 : l2 ≠ t2 := fun e => by rw [← e, upd_same] at rt2; cases rt2
          exact paired_app (hqt.same s9) (.cons ⟨by simp, l2, (sR3.trans (s34.trans s')).free r2, upd_same, by rw [upd_ne nlt2, upd_same, List.map_append]; rfl⟩ .nil)
        · rintro H4 ⟨R', tt, s', rl', A5, hqt⟩
          have s3' : Same R3 (upd R' lt (.lst (tt.map V.ref))) := (s34.trans s').trans (same_upd rl')
          have hlt5 : upd R' lt (.lst (tt.map V.ref)) lt = some (.lst (tt.map V.ref)) := upd_same
          have lc : (cands (slo P0.boxes n) wy).length = b'.slots.length := by unfold cands; rw [List.length_map, List.length_range, slo_of hb]
          rw [lV_len, ← lc, List.take_length] at hqt
          replace hqt := hqt.same (same_upd (o := .lst (tt.map V.ref)) rl')
          generalize upd R' lt (.lst (tt.map V.ref)) = R5 at A5 s3' hlt5 hqt
          have hll5 := s3' _ _ hll3
          have ltt : tt.length = b'.slots.length := (paired_length hqt).trans lc
          have ltl := paired_length hql3
          refine ⟨ll, lt, _, _, rfl, rfl, A5.same _ _ hll5, A5.same _ _ hlt5, (by rw [List.length_map, List.length_map, sizeLine_eq]; omega), ?_⟩
          have A6 := A5.set (a := ll) (o := .lst (tl.map V.ref ++ tt.map V.ref)) hll5
          have ndl : d ≠ ll := ne_of hd3 hll3 (by intro z; cases z)
          refine ⟨tl ++ tt, ql ++ cands (slo P0.boxes n) wy, _, _, _, _, _, rfl, A6, same_off (sR3.trans s3') rll _, rll, (upd_ne ndl).trans (s3' _ _ hd3), (upd_ne nwl).trans (s3' _ _ hlw3), by rw [upd_same, List.map_append], nwl, (hq3.same s3').off hll5 _, paired_app ((hql3.same s3').off hll5 _) (hqt.off hll5 _), (hf3.same s3').off hll5 _, by rw [← List.append_assoc]; exact hbi3, by rw [← List.append_assoc]; exact hbr3, .inr ?_, ?_⟩
          · rw [List.length_append, List.length_singleton]
            rcases hprog with ⟨h, _⟩ | h <;> omega
          · rw [List.length_append, List.length_append, List.length_singleton, lc]
            omega
    · clear A2 A1 hdd hlw hf hbi hbr hll rll s12 sR1
      rintro σ H2 ⟨tl, ql, kvs', f', R2, v4, v5, rfl, A2, sR2, rll, hdd, hlw, hll, nwl, hq2, hql, hf, hbi, hbr, hprog, hlen⟩
      rw [List.length_map, paired_length hq, List.drop_length, List.nil_append] at hbi hbr
      have hf60 := hbi.len W
      refine ⟨_, rfl, _, ?_, ll, tl, ql, kvs', f', R2, _, _, _, rfl, A2, sR2, hdd, hll, hql, hf, hbi, hbr, rfl⟩
      rcases hprog with ⟨h1, h2⟩ | h
      · rw [h1, h2, List.length_nil]
        omega
      · omega
/-- where a way leads from what is held, or what refuses it: true no box, false no slot -/
def ledGo (bs : List (Int × Bx)) : Option Int → List Int → Int ⊕ Bool
  | none, _ => .inr true
  | some n, [] => .inl n
  | some n, s :: ws => if 0 ≤ s ∧ s < ((slo bs n).length : Int) then ledGo bs ((slo bs n).getD s.toNat none) ws else .inr false
abbrev sCheckAlive : Stmt := top 34
abbrev nCheckAlive : List Str := ["pile", "number"]
abbrev sCheckLeads : Stmt := top 35
abbrev nCheckLeads : List Str := ["number"]
abbrev sWayTo : Stmt := top 31
abbrev nWayTo : List Str := ["pile", "number"]
abbrev sLed : Stmt := top 32
abbrev nLed : List Str := ["pile", "way", "number", "slot", "slots"]
def spCheckAlive (C B eB : Addr) : Sp := fun vs H Q E => ∃ (p : Addr) (g : Geo) (P : Pl) (R : Hp) (n : Int), vs = [.ref p, .int n] ∧ PileAt C B p g P R H ∧ (get P.boxes n = none → E (.ref eB) none H) ∧ ((∃ b, get P.boxes n = some b) → Q .non H)
theorem scCheckAlive : FnScope nCheckAlive ["pile", "number"] (defScope sCheckAlive) := ⟨rfl, rfl, rfl, by decide +kernel, rfl, by decide +kernel, by decide +kernel⟩
theorem ok_checkalive {f fG : Addr} {fd dG : FuncData} (F : Fun K "check_alive" "check_alive" sCheckAlive f fd) (T : Txt K mg C B eH eS eF eB eL) (GG : FnOk P w K mg base (L2N.CX P w) 2 fG dG ["self", "number"] (spWeighs C B eB)) (bG : Binds K dG ["self", "number"] []) (mG : Meth K C "weighs" fG) : FnOk P w K mg base (L2N.CX P w) 3 f fd ["pile", "number"] (spCheckAlive C B eB) := by
  refine okXN F scCheckAlive (fun vs H Q E h => ?_) (fun cdv A outer s H vs Q E hr h => ?_)
  · obtain ⟨p, g, P, R, n, rfl, _⟩ := h
    rfl
  · obtain ⟨p, g, P0, R, n, rfl, A0, k1, k2⟩ := h
    have hr2 : Room 2 _ := hr
    refine ⟨_, (pss_one (ps_expr (pe_meth (pv 0) T.clC mG GG hr2 bG .nil (L2N.passes_call (L2N.takes_of rfl rfl rfl rfl) (fun _ _ _ _ h => h)) (pa_cons (pv 1) pa_nil)))), ?_⟩
    exact ⟨_, rfl, p, g.dx, _, rfl, A0.hp, pf_no _ _ _ (by decide +kernel) (by decide +kernel) (by decide +kernel), _, rfl, p, g, P0, R, n, rfl, A0, k1, fun b hb => k2 ⟨b, hb⟩⟩
def spCheckLeads (eB : Addr) : Sp := fun vs H Q E => ∃ o : Option Int, vs = [oV o] ∧ (o = none → E (.ref eB) none H) ∧ (o ≠ none → Q .non H)
theorem scCheckLeads : FnScope nCheckLeads ["number"] (defScope sCheckLeads) := ⟨rfl, rfl, rfl, by decide +kernel, rfl, by decide +kernel, by decide +kernel⟩
theorem ok_checkleads {f : Addr} {fd : FuncData} (F : Fun K "check_leads" "check_leads" sCheckLeads f fd) (T : Txt K mg C B eH eS eF eB eL) : FnOk P w K mg base (L2N.CX P w) 1 f fd ["number"] (spCheckLeads eB) := by
  refine okXN F scCheckLeads (fun vs H Q E h => ?_) (fun cdv A outer s H vs Q E hr h => ?_)
  · obtain ⟨o, rfl, _⟩ := h
    rfl
  · obtain ⟨o, rfl, k1, k2⟩ := h
    refine ⟨_, (pss_one (ps_if (pt_cmp (pc_isN (pv 0))) (pss_one (L2N.ps_raise rfl (L2N.takes_of rfl rfl rfl rfl) (L2N.pmk_own PySem.F.excBase_ValueError T.eB.x T.eB.g T.eB.k (raises_own T.eB.b T.eB.t) rfl))) pss_nil)), ?_⟩
    refine ⟨_, rfl, _, rfl, ?_⟩
    cases o with
    | none => exact if_pos_of (decide_eq_true rfl) (k1 rfl)
    | some n => exact if_neg_of (decide_eq_false (by intro z; cases z)) (k2 (by intro z; cases z))
def spWayTo (C B eB : Addr) : Sp := fun vs H Q E => ∃ (p : Addr) (g : Geo) (P : Pl) (R : Hp) (n : Int), vs = [.ref p, .int n] ∧ PileAt C B p g P R H ∧ Wf P [] ∧ (get P.boxes n = none → E (.ref eB) none H) ∧
  ((∃ b, get P.boxes n = some b) → ∀ (f : List (Int × List Int)) (R' H' : Hp), Same R R' → PileAt C B p g P R' H' → Bi P f [] → BR P.boxes (handsC P) [] f →
    (n ∉ f.map (·.1) → Q .non H') ∧ ∀ (w : List Int) (r : Addr), (n, w) ∈ f → w ≠ [] → R r = none → R' r = some (.lst (w.map V.int)) → Q (.ref r) H')
theorem scWayTo : FnScope nWayTo ["pile", "number"] (defScope sWayTo) := ⟨rfl, rfl, rfl, by decide +kernel, rfl, by decide +kernel, by decide +kernel⟩
theorem ok_wayto {f fCV fBW : Addr} {fd dCV dBW : FuncData} (F : Fun K "way_to" "way_to" sWayTo f fd) (T : Txt K mg C B eH eS eF eB eL) (GCV : FnOk P w K mg base (L2N.CX P w) 3 fCV dCV ["pile", "number"] (spCheckAlive C B eB)) (FCV : Fun K "check_alive" "check_alive" sCheckAlive fCV dCV) (bCV : Binds K dCV ["pile", "number"] []) (gCV : mg "check_alive" = some (.ref fCV))
    (GBW : FnOk P w K mg base CX0 3 fBW dBW ["pile"] (spBestWays C B)) (FBW : Fun K "best_ways" "best_ways" sBestWays fBW dBW) (bBW : Binds K dBW ["pile"] []) (gBW : mg "best_ways" = some (.ref fBW)) : FnOk P w K mg base (L2N.CX P w) 4 f fd ["pile", "number"] (spWayTo C B eB) := by
  refine okXN F scWayTo (fun vs H Q E h => ?_) (fun cdv A outer s H vs Q E hr h => ?_)
  · obtain ⟨p, g, P, R, n, rfl, _⟩ := h
    rfl
  · obtain ⟨p, g, P0, R, n, rfl, A0, W, k1, k2⟩ := h
    have hr3 : Room 3 _ := hr
    have hu := hu_of hr
    refine ⟨_, (pss_cons (ps_expr (pe_call GCV hr3 (by rfl) gCV FCV.kp bCV .nil (L2N.passes_call (L2N.takes_of rfl rfl rfl rfl) (fun _ _ _ _ h => h)) (pa_cons (pv 0) (pa_cons (pv 1) pa_nil))))
      (pss_one (ps_ret (pe_dget1 hu (pe_call GBW hr3 (by rfl) gBW FBW.kp bBW .nil pass0 (pa_cons (pv 0) pa_nil)) (pv 1) ⟨rfl, rfl, rfl, rfl⟩)))), ?_⟩
    refine ⟨_, rfl, _, rfl, p, g, P0, R, n, rfl, A0, k1, fun hb => ?_⟩
    refine ⟨_, rfl, p, g, P0, R, rfl, A0, W, fun d kvs f R1 H1 s1 hd hd1 hf hbi hbr A1 => ?_⟩
    obtain ⟨q1, q2⟩ := k2 hb f R1 H1 s1 A1 hbi hbr
    have hg := DGet.k (k := Sum.inl n) (A1.same _ _ hd1)
    refine ⟨d, rfl, .inl ⟨_, .inl (A1.same _ _ hd1)⟩, _, rfl, _, hg, ?_⟩
    rcases hf.get n with ⟨hn, hv⟩ | ⟨w, a, hn, hw, hv, ha, h0⟩
    · rw [hv]
      exact q1 hn
    · rw [hv]
      exact q2 w a hn hw h0 ha
theorem cutV_tail (h : V) (xs : List V) : cutV (h :: xs) (some 1) none = xs := by
  unfold cutV
  rw [HT.sIx_none, show HT.sIx (h :: xs).length 0 (some 1) = 1 from by
    rw [show (some (1 : Int)) = some ((1 : Nat) : Int) from rfl, HT.sIx_nat, List.length_cons]
    omega]
  rw [List.drop_succ_cons, List.drop_zero, List.take_of_length_le (by rw [List.length_cons]; omega)]
def spLed (K : PySem.W.Frag) (C B eH eB eL : Addr) : Sp := fun vs H Q E => ∃ (p a : Addr) (g : Geo) (P : Pl) (R : Hp) (h : Int) (ws : List Int), vs = [.ref p, .ref a] ∧ PileAt C B p g P R H ∧ Wf P [] ∧ SqL K H a ((h :: ws).map V.int) ∧ (¬ (0 ≤ h ∧ h < 8) → E (.ref eH) none H) ∧
  ((0 ≤ h ∧ h < 8) → ∀ H', PileAt C B p g P R H' → (∀ n, ledGo P.boxes (P.hands.getD h.toNat none) ws = .inl n → Q (.int n) H') ∧ (ledGo P.boxes (P.hands.getD h.toNat none) ws = .inr true → E (.ref eB) none H') ∧ (ledGo P.boxes (P.hands.getD h.toNat none) ws = .inr false → E (.ref eL) none H'))
theorem scLed : FnScope nLed ["pile", "way"] (defScope sLed) := ⟨rfl, rfl, rfl, by decide +kernel, rfl, by decide +kernel, by decide +kernel⟩
theorem ok_led {f fH fT fCL fCS : Addr} {fd dH dT dCL dCS : FuncData} (F : Fun K "led" "led" sLed f fd) (T : Txt K mg C B eH eS eF eB eL) (GH : FnOk P w K mg base (L2N.CX P w) 2 fH dH ["self", "hand"] (spHolds C B eH)) (bH : Binds K dH ["self", "hand"] []) (mH : Meth K C "holds" fH)
    (GT : FnOk P w K mg base (L2N.CX P w) 2 fT dT ["self", "number"] (spPoints C B eB)) (bT : Binds K dT ["self", "number"] []) (mT : Meth K C "points" fT) (GCL : FnOk P w K mg base (L2N.CX P w) 1 fCL dCL ["number"] (spCheckLeads eB)) (FCL : Fun K "check_leads" "check_leads" sCheckLeads fCL dCL) (bCL : Binds K dCL ["number"] []) (gCL : mg "check_leads" = some (.ref fCL))
    (GCS : FnOk P w K mg base (L2N.CX P w) 1 fCS dCS ["slots", "slot"] (spCheckSlot eL)) (FCS : Fun K "check_slot" "check_slot" sCheckSlot fCS dCS) (bCS : Binds K dCS ["slots", "slot"] []) (gCS : mg "check_slot" = some (.ref fCS)) : FnOk P w K mg base (L2N.CX P w) 3 f fd ["pile", "way"] (spLed K C B eH eB eL) := by
  refine okXN F scLed (fun vs H Q E h => ?_) (fun cdv A outer s H vs Q E hr h => ?_)
  · obtain ⟨p, a, g, P, R, h, ws, rfl, _⟩ := h
    rfl
  · obtain ⟨p, a, g, P0, R, h, ws, rfl, A0, W, ha, k1, k2⟩ := h
    have nd := scLed.nd
    have hr1 : Room 1 _ := hr.mono (by decide)
    have hr2 : Room 2 _ := hr
    have hu := hu_of hr
    refine ⟨_, (pss_cons (ps_set (i := 2) nd rfl (Or.inl rfl) (pe_meth (pv 0) T.clC mH GH hr2 bH .nil (L2N.passes_call (L2N.takes_of rfl rfl rfl rfl) (fun _ _ _ _ h => h)) (pa_cons (pe_ix ix_list (pv 1) pe_int (fun _ _ => rfl)) pa_nil)))
      (pss_cons (ps_expr (pe_call GCL hr1 (by rfl) gCL FCL.kp bCL .nil (L2N.passes_call (L2N.takes_of rfl rfl rfl rfl) (fun _ _ _ _ h => h)) (pa_cons (pv 2) pa_nil)))
      (pss_cons (ps_for (passes_of rfl) rfl (pi_list (pe_slice sl_list (pv 1) (po_some pe_int) po_none)) (pg_name (i := 3) nd rfl (Or.inl rfl))
      (pss_cons (ps_set (i := 4) nd rfl (Or.inl rfl) (pe_meth (pv 0) T.clC mT GT hr2 bT .nil (L2N.passes_call (L2N.takes_of rfl rfl rfl rfl) (fun _ _ _ _ h => h)) (pa_cons (pv 2) pa_nil)))
      (pss_cons (ps_expr (pe_call GCS hr1 (by rfl) gCS FCS.kp bCS .nil (L2N.passes_call (L2N.takes_of rfl rfl rfl rfl) (fun _ _ _ _ h => h)) (pa_cons (pv 4) (pa_cons (pv 3) pa_nil))))
      (pss_cons (ps_set (i := 2) nd rfl (Or.inl rfl) (pe_ix ix_list (pv 4) (pv 3) (fun _ _ => rfl)))
      (pss_one (ps_expr (pe_call GCL hr1 (by rfl) gCL FCL.kp bCL .nil (L2N.passes_call (L2N.takes_of rfl rfl rfl rfl) (fun _ _ _ _ h => h)) (pa_cons (pv 2) pa_nil))))))))
      (pss_one (ps_ret (pv 2)))))), ?_⟩
    refine ⟨_, rfl, p, g.dx, _, rfl, A0.hp, pf_no _ _ _ (by decide +kernel) (by decide +kernel) (by decide +kernel), _, rfl, a, _, _, _, rfl, rfl, ha, at_of (j := 0) rfl rfl, p, g, P0, R, h, rfl, A0, W.hl, k1, fun hh => ?_⟩
    have alive0 : ∀ n, P0.hands.getD h.toNat none = some n → ∃ b, get P0.boxes n = some b := fun n e => by
      refine HL.alive W ⟨n, ?_, .refl n⟩
      rw [List.getD_eq_getElem?_getD] at e
      cases q : P0.hands[h.toNat]? with
      | none => rw [q] at e; cases e
      | some y => rw [q] at e; rw [← show y = some n from e]; exact List.mem_of_getElem? q
    replace k2 := k2 hh
    generalize P0.hands.getD h.toNat none = o0 at k2 alive0
    refine ⟨_, rfl, o0, rfl, fun e => (k2 H A0).2.1 (by rw [e]; unfold ledGo; rfl), fun hne => ?_⟩
    refine ⟨_, rfl, _, rfl, a, _, rfl, ha, fun l hl => ?_⟩
    rw [show cutV ((h :: ws).map V.int) (some 1) none = ws.map V.int from cutV_tail _ _]
    have A1 := (A0.new (o := .lst (ws.map V.int)) hl)
    have rl := A0.same.free hl
    refine ⟨l, rfl, ⟨_, SqL.of (A1.same _ _ upd_same)⟩, for_list (K := K) (a := l) (xs := ws.map V.int) (fun i σ H' => ∃ (n : Int) (v3 v4 : Option V), σ = [some (.ref p), some (.ref a), some (.int n), v3, v4] ∧ PileAt C B p g P0 (upd R l (.lst (ws.map V.int))) H' ∧ (∃ b, get P0.boxes n = some b) ∧ ledGo P0.boxes o0 ws = ledGo P0.boxes (some n) (ws.drop i))
      ?_ (fun i σ H' _ ⟨_, _, _, _, A', _⟩ => SqL.of (A'.same _ _ upd_same)) ?_ ?_⟩
    · cases o0 with
      | none => exact absurd rfl hne
      | some n => exact ⟨n, none, none, rfl, A1, alive0 n rfl, by rw [List.drop_zero]⟩
    · rintro i y σ H1 hi ⟨n, v3, v4, rfl, A2, ⟨b, hb⟩, e⟩
      obtain ⟨z, hz, rfl⟩ := ints_at' hi
      have hdrop : ws.drop i = z :: ws.drop (i + 1) := by
        rw [List.drop_eq_getElem_cons (List.getElem?_eq_some_iff.mp hz).1]
        congr 1
        exact (List.getElem?_eq_some_iff.mp hz).2
      rw [hdrop] at e
      have es : slo P0.boxes n = b.slots := slo_of hb
      have e2 : ledGo P0.boxes (some n) (z :: ws.drop (i + 1)) = if 0 ≤ z ∧ z < (b.slots.length : Int) then ledGo P0.boxes (b.slots.getD z.toNat none) (ws.drop (i + 1)) else .inr false := by
        rw [← es]; rfl
      rw [e2] at e
      refine ⟨_, rfl, p, g.dx, _, rfl, A2.hp, pf_no _ _ _ (by decide +kernel) (by decide +kernel) (by decide +kernel), _, rfl, p, g, P0, _, n, rfl, A2, fun b hb => W.sl _ _ hb, fun z => absurd (hb.symm.trans z) (by intro z; cases z), fun b' hb' r hr => ?_⟩
      have : b' = b := Option.some.inj (hb'.symm.trans hb)
      subst this
      have A3 := A2.grow (same_upd (o := .lst (lV b'.slots)) hr)
      have hr3' : upd H1 r (.lst (lV b'.slots)) r = some (.lst (lV b'.slots)) := upd_same
      refine ⟨_, rfl, _, rfl, r, _, z, rfl, hr3', fun c => ?_, fun c => ?_⟩
      case refine_2 =>
        rw [lV_len] at c
        rw [if_neg c] at e
        exact (k2 _ (A3.less (same_upd rl))).2.2 e
      rw [lV_len] at c
      rw [if_pos c] at e
      have hg : b'.slots[z.toNat]? = some (b'.slots.getD z.toNat none) := by rw [List.getD_eq_getElem?_getD, List.getElem?_eq_getElem (by omega)]; rfl
      have hx : (lV b'.slots)[z.toNat]? = some (oV (b'.slots.getD z.toNat none)) := by
        unfold lV
        rw [List.getElem?_map, hg]
        rfl
      refine ⟨_, rfl, _, rfl, r, _, _, _, rfl, rfl, SqL.of hr3', at_of (j := z.toNat) (by omega) hx, ?_⟩
      have al : ∀ m, b'.slots.getD z.toNat none = some m → ∃ b, get P0.boxes m = some b := fun m em => W.slot hb (i := z.toNat) em
      generalize b'.slots.getD z.toNat none = o1 at e al
      refine ⟨_, rfl, o1, rfl, fun e1 => (k2 _ (A3.less (same_upd rl))).2.1 (by rw [e, e1]; unfold ledGo; rfl), fun hne => ?_⟩
      cases o1 with
      | none => exact absurd rfl hne
      | some m => exact ⟨m, _, _, rfl, A3, al m rfl, e⟩
    · rintro σ H1 ⟨n, v3, v4, rfl, A2, _, e⟩
      rw [List.length_map, List.drop_length] at e
      exact ⟨_, rfl, (k2 H1 (A2.less (same_upd rl))).1 n e⟩
end
end BP

/-! Several except clauses, each with a name or without one; isinstance of what is caught, whatever its class. Own work. -/
namespace BP
open PySem PySem.Spec PyProof.Rows L2
/-- what is wished of an error within a try, whatever the slots -/
abbrev EWx (W : WX) : XK := fun cls d H => ∀ σ, W cls d σ H
abbrev Suite := Addr → Value → Option Addr → TS
/-- the ends of a suite whose name at slot i is let go behind it -/
def endsAs (D : Ends) (i : Nat) : Ends := { nx := fun σ H => D.nx (σ.set i none) H, rt := D.rt, bk := fun σ H => D.bk (σ.set i none) H, ct := fun σ H => D.ct (σ.set i none) H }
/-- what the clauses wish of an error of the body, one behind the other -/
def wMix (K : PySem.W.Frag) (Wout : WX) (D : Ends) : List (Value × Option Nat × Suite) → WX
  | [] => Wout
  | (c, none, ts) :: r => fun cls d σ H => ∃ b, PySem.W.exmOne K cls c = some b ∧ (b = true → ∀ a, H a = none → ts a cls d D σ H) ∧ (b = false → wMix K Wout D r cls d σ H)
  | (c, some i, ts) :: r => fun cls d σ H => ∃ b, PySem.W.exmOne K cls c = some b ∧ (b = true → ∀ a, H a = none → ts a cls d (endsAs D i) (σ.set i (some (.ref a))) H) ∧ (b = false → wMix K Wout D r cls d σ H)
inductive HdsM (X : Cx) : List ExceptHandler → List (Value × Option Nat × Suite) → Prop
  | nil : HdsM X [] []
  | bare {x : Str} {c : Value} {ts : Suite} {b0 : Stmt} {su : List Stmt} {p q : Pos} {hs : List ExceptHandler} {l : List (Value × Option Nat × Suite)} (hc : Names X x c)
      (hsu : ∀ (a : Addr) (oe : Obj) (cls : Value) (d : Option Addr) (pn : List (Addr × Obj)), Zc cls d oe → (∃ vs, oe.data = .fields vs) → PSs (X.suite a ((a, oe) :: pn)) (b0 :: su) (ts a cls d)) (r : HdsM X hs l) :
      HdsM X (.ExceptHandler (some (.Name x p)) none (b0 :: su) q :: hs) ((c, none, ts) :: l)
  | named {x n : Str} {i : Nat} {c : Value} {ts : Suite} {b0 : Stmt} {su : List Stmt} {p q : Pos} {hs : List ExceptHandler} {l : List (Value × Option Nat × Suite)} (hN : X.N.Nodup) (hi : X.N[i]? = some n) (hl : X.env.kindOf n = some .local) (hc : Names X x c)
      (hsu : ∀ (a : Addr) (oe : Obj) (cls : Value) (d : Option Addr) (pn : List (Addr × Obj)), Zc cls d oe → (∃ vs, oe.data = .fields vs) → PSs (X.suite a ((a, oe) :: pn)) (b0 :: su) (ts a cls d)) (r : HdsM X hs l) :
      HdsM X (.ExceptHandler (some (.Name x p)) (some n) (b0 :: su) q :: hs) ((c, some i, ts) :: l)
section
variable {X : Cx}
theorem ps_try_mix {body : List Stmt} {h0 : ExceptHandler} {hds : List ExceptHandler} {l : List (Value × Option Nat × Suite)} {pos : Pos} {tb : WX → TS} {Wout : WX} (hs : X.stack = X.env :: X.outer) (hf : X.env.frame = some X.env.locals) (tk : Takes X Wout)
    (hb : ∀ (W : WX) (pn : List (Addr × Obj)) (xe : Value → Shared → Prop), Takes (X.tr pn xe) W → PassesOwn (model X.prog X.w) X.A X.env xe → PSs (X.tr pn xe) body (tb W)) (hh : HdsM X (h0 :: hds) l) :
    PS X (.Try body (h0 :: hds) [] [] pos) (fun D σ H => tb (wMix X.K Wout D l) D σ H) := by
  refine ⟨fun pins s σ H D I hw => ?_⟩
  have ok := I.ok
  have frm : X.A.frames = some (X.env :: X.outer) := by rw [ok.frames, hs]
  refine wpAny_Try_except ?_
  let xe0 : Value → Shared → Prop := fun e s₁ => wpAny (model X.prog X.w) X.A (noteFrame e X.env) (fun _ s₂ => wpAny (model X.prog X.w) X.A (setFlight e none) (fun _ s₃ => wpAny (model X.prog X.w) X.A (handleBy e X.env (h0 :: hds)) (SP X pins D) X.xe s₃) X.xe s₂) X.xe s₁
  have catch_ : Takes (X.tr (X.pn ++ pins) xe0) (wMix X.K Wout D l) := by
    rintro u t ⟨a, B, sI, pins', σ', H', cls, d, rfl, J', nb, up, sky, na, os, ag, w⟩
    have J : Inv X pins σ' H' sI := J'.ofTry ok
    have sky' : Sky B (X.env :: X.outer) a (Zc cls d) X.env.locals t.heap := by rw [← hs]; exact sky
    show wpAny (model X.prog X.w) X.A (noteFrame (.ref a) X.env) _ _ _
    refine Sky.land Zc.steady frm hf sky' fun h3 fl3 up3 => ?_
    have J3 : Inv X pins σ' H' { t with heap := h3 } := J.landed nb fl3.1 (up.trans up3) os ag
    obtain ⟨oe3, vs3, he3, hz3, hd3⟩ := fl3.there
    have away : a ∉ frs (X.env :: X.outer) := fun hm => by
      obtain ⟨_, o', e', hnf⟩ := fl3.2.2.1.mem hm
      rw [he3] at e'
      cases e'
      exact hnf _ hd3
    have aL : a ≠ X.env.locals := fun z => away (List.mem_filterMap.mpr ⟨X.env, List.mem_cons_self, by rw [hf, z]⟩)
    have aF : a ∉ X.fs := fun hm => by
      obtain ⟨e, he, q⟩ := List.mem_filterMap.mp hm
      exact away (List.mem_filterMap.mpr ⟨e, List.mem_cons_of_mem _ he, q⟩)
    have S3 := J3.suite he3 hd3 na aL aF
    have LT : PySem.W.Looks (model X.prog X.w) h3 (typeOf (.ref a)) cls := fun A Q E s k q => wpAny_typeOf_ref (k _ _ he3) (by rw [hz3.1]; exact q)
    have test : ∀ {x : Str} {c : Value} {np : Pos}, Names X x c → ∀ {Q : Value → Shared → Prop} {E : Value → Shared → Prop}, Q c { t with heap := h3 } → wpAny (model X.prog X.w) (X.A.mark (some (.ref a))) (eval (.Name x np) X.env) Q E { t with heap := h3 } := by
      rintro x c np ⟨hg, hdbg, hm | ⟨hm, hv, hnn⟩⟩ Q E q
      · exact ld_glob (X := X.suite a ((a, oe3) :: (X.pn ++ pins))) S3 hg hm q hdbg
      · exact ld_blt (X := X.suite a ((a, oe3) :: (X.pn ++ pins))) S3 hg hm hv q hnn hdbg
    have go : ∀ {hs' : List ExceptHandler} {l' : List (Value × Option Nat × Suite)}, HdsM X hs' l' → wMix X.K Wout D l' cls d σ' H' → wpAny (model X.prog X.w) X.A (handleBy (.ref a) X.env hs') (SP X pins D) X.xe { t with heap := h3 } := by
      intro hs' l' hk
      induction hk with
      | nil =>
        intro w
        refine wpAny_handleBy_nil ?_
        obtain ⟨k1, k2, k3, oe, vs, T, oT, ts', he, hz, hd, h1, hr⟩ := id fl3
        unfold PySem.passOn
        refine wpAny_bind (wpAny_field he hd h1 ?_)
        rw [if_neg (show ¬ ((Value.ref T == Value.none) = true) from by simp)]
        have out : wpAny (model X.prog X.w) X.A (setFlight (.ref a) X.env.frame) (fun _ v => wpAny (model X.prog X.w) X.A (throw (.ref a) : Sem Flow) (SP X pins D) X.xe v) X.xe { t with heap := h3 } := by
          rw [hf]
          refine HandSPX.setFlight_upZ fl3 fun h4 hh4 up4 => wpAny_throw (tk _ _ ?_)
          exact ⟨a, B, sI, pins, σ', H', cls, d, rfl, J, nb, (up.trans up3).trans up4, .inr (.inr (by rw [hs]; exact hh4)), na, os, ag, w⟩
        first
          | exact wpAny_bind (wpAny_pure (wpAny_bind out))
          | exact wpAny_bind out
      | @bare x c ts b0 su p q hs2 l2 hc hsu r ih =>
        rintro ⟨b, hb1, yes, no⟩
        refine wpAny_handleBy_cons (codeAny_handlers_test ?_) (by intro q; cases q)
        refine test hc ((PySem.W.exm_one (M := model X.prog X.w) (J3.kIn) LT hb1).here ?_)
        cases b with
        | false =>
          show wpAny _ X.A (handleBy (.ref a) X.env hs2) _ _ _
          exact ih (no rfl)
        | true =>
          refine codeAny_handlers_suite ?_
          refine HandSPX.lands_againZ fl3 fun h4 fl4 up4 => ?_
          have J4 : Inv X pins σ' H' { t with heap := h4 } := J.landed nb fl4.1 ((up.trans up3).trans up4) os ag
          obtain ⟨oe4, vs4, he4, hz4, hd4⟩ := fl4.there
          refine wpAny_mono ((hsu a oe4 cls d (X.pn ++ pins) hz4 ⟨_, hd4⟩).run [] _ _ H' _ (J4.suite he4 hd4 na aL aF) (yes rfl a na)) (fun f v hsp => ?_) (fun _ _ z => False.elim z)
          cases f with
          | next => obtain ⟨σ6, H6, S6, q6⟩ := hsp; exact ⟨_, _, S6.unsuite ok, q6⟩
          | brk => obtain ⟨σ6, H6, S6, q6⟩ := hsp; exact ⟨_, _, S6.unsuite ok, q6⟩
          | cont => obtain ⟨σ6, H6, S6, q6⟩ := hsp; exact ⟨_, _, S6.unsuite ok, q6⟩
          | ret u => obtain ⟨v6, σ6, H6, S6, r6, q6⟩ := hsp; exact ⟨_, _, _, S6.unsuite ok, r6, q6⟩
      | @named x n i c ts b0 su p q hs2 l2 hN hi hl hc hsu r ih =>
        rintro ⟨b, hb1, yes, no⟩
        refine wpAny_handleBy_cons (codeAny_handlers_test ?_) (by intro q; cases q)
        refine test hc ((PySem.W.exm_one (M := model X.prog X.w) (J3.kIn) LT hb1).here ?_)
        cases b with
        | false =>
          show wpAny _ X.A (handleBy (.ref a) X.env hs2) _ _ _
          exact ih (no rfl)
        | true =>
          refine codeAny_handlers_suite_as ?_
          refine HandSPX.lands_againZ fl3 fun h4 fl4 up4 => ?_
          have J4 : Inv X pins σ' H' { t with heap := h4 } := J.landed nb fl4.1 ((up.trans up3).trans up4) os ag
          obtain ⟨oe4, vs4, he4, hz4, hd4⟩ := fl4.there
          refine store_ok (X := X.suite a ((a, oe4) :: (X.pn ++ pins))) (v := .ref a) (J4.suite he4 hd4 na aL aF) hN hi (.inl hl) rfl (fun t5 S5 => ?_) (.inr hl)
          refine wpAny_mono ((hsu a oe4 cls d (X.pn ++ pins) hz4 ⟨_, hd4⟩).run [] t5 _ H' _ S5 (yes rfl a na)) (fun f v hsp => ?_) (fun _ _ z => False.elim z)
          have letGo : ∀ {σ6 : L2.St} {H6 : Hp} {Z : Shared → Prop}, Inv (X.suite a ((a, oe4) :: (X.pn ++ pins))) [] σ6 H6 v → (∀ s7, Inv X pins (σ6.set i none) H6 s7 → Z s7) →
              wpAny (model X.prog X.w) X.A (do bindName X.env n .none; unbindBehindTheSuite X.env n q) (fun _ s7 => Z s7) X.xe v := fun S6 hq => gone_ok (S6.unsuite ok) hN hi hl hq
          cases f with
          | next => obtain ⟨σ6, H6, S6, q6⟩ := hsp; exact letGo S6 fun s7 J7 => ⟨_, _, J7, q6⟩
          | brk => obtain ⟨σ6, H6, S6, q6⟩ := hsp; exact letGo S6 fun s7 J7 => ⟨_, _, J7, q6⟩
          | cont => obtain ⟨σ6, H6, S6, q6⟩ := hsp; exact letGo S6 fun s7 J7 => ⟨_, _, J7, q6⟩
          | ret u => obtain ⟨v6, σ6, H6, S6, r6, q6⟩ := hsp; exact letGo S6 fun s7 J7 => ⟨_, _, _, J7, r6, q6⟩
    exact go hh w
  refine wpAny_mono ((hb (wMix X.K Wout D l) (X.pn ++ pins) xe0 catch_ PassesOwn.looking).run [] s σ H D (I.toTry _) hw) (fun f s1 hsp => ?_) (fun e s1 he => he)
  cases f with
  | next => obtain ⟨σ', H', J', q⟩ := hsp; exact wpAny_execs_nil ⟨σ', H', J'.ofTry ok, q⟩
  | brk => obtain ⟨σ', H', J', q⟩ := hsp; exact ⟨σ', H', J'.ofTry ok, q⟩
  | cont => obtain ⟨σ', H', J', q⟩ := hsp; exact ⟨σ', H', J'.ofTry ok, q⟩
  | ret u => obtain ⟨v, σ', H', J', r, q⟩ := hsp; exact ⟨v, σ', H', J'.ofTry ok, r, q⟩
/-- isinstance(e, c) of what the suite holds -/
def rIsE1 (K : PySem.W.Frag) (a : Addr) (cls : Value) (d : Option Addr) : List V → Hp → VK → Prop := fun xs H Q => ∃ (D : Addr) (c : V) (u : Value) (b : Bool), cls = .ref D ∧ d = none ∧ ExcC K D ∧ xs = [.ref a, c] ∧ ClsV c u ∧ PySem.W.kitOne K (.ref D) u = some b ∧ Q (.bl b) H
/-- isinstance(e, (c1, c2, ..)) -/
def rIsEs (K : PySem.W.Frag) (a : Addr) (cls : Value) (d : Option Addr) : List V → Hp → VK → Prop := fun xs H Q => ∃ (D tp : Addr) (cs : List V) (us : List Value) (b : Bool), cls = .ref D ∧ d = none ∧ ExcC K D ∧ xs = [.ref a, .ref tp] ∧ H tp = some (.tup cs) ∧ Paired ClsV cs us ∧ PySem.W.kitAny K (.ref D) us = some b ∧ Q (.bl b) H
theorem inst_at {s : Shared} {a D : Addr} {oe : Obj} (hz : Zc (.ref D) none oe) (hf : ∃ vs, oe.data = .fields vs) (e : s.heap.get? a = some oe) : PySem.W.InstAt s.heap a oe D none := by
  obtain ⟨oc, od, oda, osl⟩ := oe
  obtain ⟨h1, h2⟩ := hz
  obtain ⟨vs, hv⟩ := hf
  dsimp only at h1 h2 hv
  subst h1 h2 hv
  exact ⟨e, rfl, rfl, trivial⟩
theorem call_isE1 {a : Addr} {oe : Obj} {cls : Value} {d : Option Addr} {pn : List (Addr × Obj)} (hz : Zc cls d oe) (hf : ∃ vs, oe.data = .fields vs) : CallR (X.suite a ((a, oe) :: pn)) (.builtin "isinstance") (rIsE1 X.K a cls d) := by
  rintro pins s σ H xs us Q I r ⟨D, c, u, b, rfl, rfl, C, rfl, k, e, q⟩
  obtain ⟨u1, u2, rfl, r1, r2⟩ := vals2 r
  cases r1
  have e2 := k.eq r2
  subst e2
  obtain ⟨hget, _⟩ := I.pin (a, oe) (List.mem_append_left _ List.mem_cons_self)
  exact PySem.W.kia_one (PySem.W.handS_kitx_exc C.hg C.hk C.hs C.hd C.ha C.hn C.ht C.hm) I.kIn (inst_at hz hf hget) e (fun z => nomatch z) fun tk => ⟨.bl b, H, I.tok tk, rfl, q⟩
theorem call_isEs {a : Addr} {oe : Obj} {cls : Value} {d : Option Addr} {pn : List (Addr × Obj)} (hz : Zc cls d oe) (hf : ∃ vs, oe.data = .fields vs) : CallR (X.suite a ((a, oe) :: pn)) (.builtin "isinstance") (rIsEs X.K a cls d) := by
  rintro pins s σ H xs us Q I r ⟨D, tp, cs, ws, b, rfl, rfl, C, rfl, hT, k, e, q⟩
  obtain ⟨u1, u2, rfl, r1, r2⟩ := vals2 r
  cases r1
  cases (show u2 = Value.ref tp from r2)
  obtain ⟨hget, _⟩ := I.pin (a, oe) (List.mem_append_left _ List.mem_cons_self)
  obtain ⟨_, its, rv, o, h1, h2, n, h3⟩ := (show ObjOk X.prog X.w H s.heap tp (.tup cs) from I.hok tp _ hT)
  have e3 := ClsV.all k rv
  subst e3
  obtain ⟨oc, od, dt, sl⟩ := o
  simp only at h2 h3
  subst h2 h3
  exact PySem.W.kia_tup (PySem.W.handS_kitx_exc C.hg C.hk C.hs C.hd C.ha C.hn C.ht C.hm) I.kIn (inst_at hz hf hget) h1 e (fun z => nomatch z) fun tk => ⟨.bl b, H, I.tok tk, rfl, q⟩
end
end BP

/-! A law's own hands and rooms, in which nothing is ever freed, beside a pile. Own work; core Lean alone. -/
namespace BP
structure Own (P : Pl) (hs : List (Option Int)) (rs : List (List (Option Int))) : Prop where
  h : P.hands = hs
  m : P.made = (rs.length : Int)
  s : ∀ n b, get P.boxes n = some b → rs[n.toNat]? = some b.slots
theorem own0 : Own pl0 (List.replicate 8 none) [] := ⟨rfl, rfl, fun n b e => by simp [pl0, get_nil] at e⟩
theorem Own.hand {P : Pl} {hs : List (Option Int)} {rs : List (List (Option Int))} (o : Own P hs rs) (i : Nat) (x : Option Int) : Own (ptHand P i x).1 (hs.set i x) rs :=
  ⟨by show P.hands.set i x = _; rw [o.h], o.m, fun n b e => by
    obtain ⟨c, hc, es⟩ := ptHand_slots e
    rw [← es]
    exact o.s n c hc⟩
theorem Own.slot {P : Pl} {hs : List (Option Int)} {rs : List (List (Option Int))} (o : Own P hs rs) (W : Wf P []) {k : Int} {b : Bx} (hb : get P.boxes k = some b) (i : Nat) (x : Option Int) : Own (ptSlot P k i x).1 hs (rs.set k.toNat (b.slots.set i x)) :=
  ⟨o.h, by rw [List.length_set]; exact o.m, fun n c e => by
    obtain ⟨d, hd, es⟩ := ptSlot_slots e
    have k0 := (W.lo k (get_keys.mp ⟨b, hb⟩)).1
    have n0 := (W.lo n (get_keys.mp ⟨d, hd⟩)).1
    by_cases q : n = k
    · subst q
      have : d = b := Option.some.inj (hd.symm.trans hb)
      subst this
      rw [if_pos rfl] at es
      rw [List.getElem?_set_self (List.getElem?_eq_some_iff.mp (o.s n d hd)).1, es]
    · rw [if_neg q] at es
      rw [List.getElem?_set_ne (by omega), es]
      exact o.s n d hd⟩
theorem Own.make {P : Pl} {hs : List (Option Int)} {rs : List (List (Option Int))} (o : Own P hs rs) (W : Wf P []) (i size : Nat) : Own (BP.mk P i size).1 (hs.set i (some (rs.length : Int))) (rs ++ [List.replicate size none]) :=
  ⟨by show (born P size).hands.set i (some P.made) = _; rw [← o.m, ← o.h]; rfl, by show P.made + 1 = _; rw [o.m, List.length_append]; rfl, fun n b e => by
    rcases mk_slots W e with ⟨q, es⟩ | ⟨c, hc, es⟩
    · have : n.toNat = rs.length := by rw [q, o.m]; rfl
      rw [this, List.getElem?_append_right (Nat.le_refl _), Nat.sub_self, es]
      rfl
    · have := o.s n c hc
      rw [List.getElem?_append_left (List.getElem?_eq_some_iff.mp this).1, ← es]
      exact this⟩
theorem Own.tidied {P : Pl} {hs : List (Option Int)} {rs : List (List (Option Int))} (o : Own P hs rs) (F : List Int) : Own (tidied P F) hs rs :=
  ⟨o.h, o.m, fun n b e => by
    rw [get_tidied] at e
    by_cases c : n ∈ F
    · rw [if_pos c] at e; cases e
    · rw [if_neg c] at e
      cases q : get P.boxes n with
      | none => rw [q] at e; cases e
      | some d =>
        rw [q] at e
        rw [← Option.some.inj e]
        exact o.s n d q⟩
/-- by the law's own rooms -/
inductive RPath (rs : List (List (Option Int))) : Int → Int → Prop
  | refl (n : Int) : RPath rs n n
  | step {a b c : Int} {row : List (Option Int)} : rs[a.toNat]? = some row → some b ∈ row → RPath rs b c → RPath rs a c
/-- what hands lead to by the law's own rooms is what they lead to in the pile -/
theorem Own.hl {P : Pl} {hs : List (Option Int)} {rs : List (List (Option Int))} (o : Own P hs rs) (W : Wf P []) (n : Int) : HL P n ↔ ∃ h, some h ∈ hs ∧ RPath rs h n := by
  constructor
  · rintro ⟨h, hh, p⟩
    refine ⟨h, by rw [← o.h]; exact hh, ?_⟩
    clear hh
    induction p with
    | refl m => exact .refl m
    | step e _ ih =>
      obtain ⟨x, hx, hc⟩ := e
      exact .step (o.s _ x hx) hc ih
  · rintro ⟨h, hh, p⟩
    have hh' : some h ∈ P.hands := by rw [o.h]; exact hh
    refine ⟨h, hh', ?_⟩
    have ha : ∃ b, get P.boxes h = some b := W.cl h (by have := cnt_pos.mpr hh'; omega)
    clear hh hh'
    induction p with
    | refl m => exact .refl m
    | @step a b c row e hc _ ih =>
      obtain ⟨x, hx⟩ := ha
      have : x.slots = row := Option.some.inj ((o.s _ x hx).symm.trans e)
      subst this
      exact .step ⟨x, hx, hc⟩ (ih (W.cl _ (Nat.lt_of_lt_of_le (cnt_pos.mpr hc) (Nat.le_trans (scnt_le _ hx) (Nat.le_trans (Nat.le_add_left _ _) (Nat.le_add_right _ _))))))
end BP

/-! A law's own hands and rooms: its steps, its lists in the heap. Own work. -/
namespace BP
open PySem L2
/-- what is known has changed, the pile's own has not -/
theorem PileAt.re {C B p : Addr} {g : Geo} {P : Pl} {R R' H H' : Hp} (A : PileAt C B p g P R H) (h1 : ∀ b, R b = none → H b ≠ none → R' b = none) (h2 : Same R' H') (h3 : ∀ b o, H b = some o → R b = none → H' b = some o) : PileAt C B p g P R' H' :=
  ⟨h2, h1 _ A.rp (by rw [A.hp]; intro z; cases z), h1 _ A.rh (by rw [A.hh]; intro z; cases z), h1 _ A.rd (by rw [A.hd]; intro z; cases z), fun n b e => h1 _ (A.rb n b e) (by rw [A.hb n b e]; intro z; cases z), fun n b e => h1 _ (A.rs n b e) (by rw [A.hs n b e]; intro z; cases z),
    h3 _ _ A.hp A.rp, h3 _ _ A.hh A.rh, h3 _ _ A.hd A.rd, fun n b e => h3 _ _ (A.hb n b e) (A.rb n b e), fun n b e => h3 _ _ (A.hs n b e) (A.rs n b e), A.ib, A.is, A.hn⟩
def wrong (hs : List (Option Int)) (rs : List (List (Option Int))) (h s : Int) : Str := match hs.getD h.toNat none with
  | none => "box"
  | some n => if s < ((rs.getD n.toNat []).length : Int) then Str.empty else "slot"
/-- the slot s of what the hand h holds, by the own rooms -/
def ownAt (hs : List (Option Int)) (rs : List (List (Option Int))) (h : Int) : Nat := match hs.getD h.toNat none with
  | none => 0
  | some n => n.toNat
def ownStep (hs : List (Option Int)) (rs : List (List (Option Int))) : Deed → List (Option Int) × List (List (Option Int)) × Str
  | .make h z => (hs.set h.toNat (some (rs.length : Int)), rs ++ [List.replicate z.toNat none], Str.empty)
  | .hold h o => (hs.set h.toNat (hs.getD o.toNat none), rs, Str.empty)
  | .drop h => (hs.set h.toNat none, rs, Str.empty)
  | .put h s o => if wrong hs rs h s = Str.empty then (hs, rs.set (ownAt hs rs h) ((rs.getD (ownAt hs rs h) []).set s.toNat (hs.getD o.toNat none)), Str.empty) else (hs, rs, wrong hs rs h s)
  | .empty h s => if wrong hs rs h s = Str.empty then (hs, rs.set (ownAt hs rs h) ((rs.getD (ownAt hs rs h) []).set s.toNat none), Str.empty) else (hs, rs, wrong hs rs h s)
  | .take h o s => if wrong hs rs o s = Str.empty then (hs.set h.toNat ((rs.getD (ownAt hs rs o) []).getD s.toNat none), rs, Str.empty) else (hs, rs, wrong hs rs o s)
  | .tidy => (hs, rs, Str.empty)
theorem s_box : ¬ (("box" : Str) = Str.empty) := by decide +kernel
theorem s_slot : ¬ (("slot" : Str) = Str.empty) := by decide +kernel
def wordOf : Bad → Str
  | .box => "box"
  | .slot => "slot"
  | _ => Str.empty
theorem rs_get {P : Pl} {hs : List (Option Int)} {rs : List (List (Option Int))} (o : Own P hs rs) {n : Int} {b : Bx} (hb : get P.boxes n = some b) : rs.getD n.toNat [] = b.slots := by
  rw [List.getD_eq_getElem?_getD, o.s n b hb]
  rfl
/-- what is wrong is told alike -/
theorem wrong_at {P : Pl} {hs : List (Option Int)} {rs : List (List (Option Int))} (W : Wf P []) (o : Own P hs rs) (h : Int) {s : Int} (s0 : 0 ≤ s) (k : Int → Bx → Res) :
    (∃ n b, P.hands.getD h.toNat none = some n ∧ get P.boxes n = some b ∧ s < (b.slots.length : Int) ∧ wrong hs rs h s = Str.empty ∧ ownAt hs rs h = n.toNat ∧ rs.getD (ownAt hs rs h) [] = b.slots ∧ atSlot P h s k = k n b) ∨
    (wrong hs rs h s = "box" ∧ atSlot P h s k = .bad .box) ∨ (wrong hs rs h s = "slot" ∧ atSlot P h s k = .bad .slot) := by
  cases e : P.hands.getD h.toNat none with
  | none =>
    refine .inr (.inl ⟨?_, ?_⟩)
    · unfold wrong; rw [← o.h, e]
    · unfold atSlot; rw [e]
  | some n =>
    obtain ⟨b, hb⟩ := W.hand e
    have ea : ownAt hs rs h = n.toNat := by unfold ownAt; rw [← o.h, e]
    have eg := rs_get o hb
    by_cases c : s < (b.slots.length : Int)
    · refine .inl ⟨n, b, rfl, hb, c, ?_, ea, by rw [ea]; exact eg, ?_⟩
      · unfold wrong; rw [← o.h, e]; dsimp only; rw [eg, if_pos c]
      · unfold atSlot; rw [e]; dsimp only; rw [hb]; exact if_pos ⟨s0, c⟩
    · refine .inr (.inr ⟨?_, ?_⟩)
      · unfold wrong; rw [← o.h, e]; dsimp only; rw [eg, if_neg c]
      · unfold atSlot; rw [e]; dsimp only; rw [hb]; exact if_neg (fun z => c z.2)
/-- a deed, by the pile and by the own hands and rooms -/
theorem own_act {P : Pl} {hs : List (Option Int)} {rs : List (List (Option Int))} (G : Good P) (o : Own P hs rs) {d : Deed} (hd : d.InZ 8 7) (hm : P.made < 60) :
    (∃ P' f, act P d = .fine P' f ∧ Own P' (ownStep hs rs d).1 (ownStep hs rs d).2.1 ∧ (ownStep hs rs d).2.2 = Str.empty ∧ P'.made ≤ P.made + (makes [d] : Int)) ∨
    (∃ e, act P d = .bad e ∧ (e = .box ∨ e = .slot) ∧ (ownStep hs rs d).1 = hs ∧ (ownStep hs rs d).2.1 = rs ∧ (ownStep hs rs d).2.2 = wordOf e) := by
  have few := G.few
  have W := G.wf
  cases d with
  | make h z =>
    obtain ⟨h1, h2⟩ := hd
    refine .inl ⟨_, _, (if_neg (not_not_intro h1)).trans ((if_neg (not_not_intro (show 0 ≤ z ∧ z ≤ 6 by omega))).trans (if_neg (by omega))), o.make W h.toNat z.toNat, rfl, ?_⟩
    show P.made + 1 ≤ P.made + 1
    omega
  | hold h p =>
    obtain ⟨h1, h2⟩ := hd
    refine .inl ⟨_, _, (if_neg (not_not_intro h1)).trans (if_neg (not_not_intro h2)), ?_, rfl, ?_⟩
    · show Own _ (hs.set h.toNat (hs.getD p.toNat none)) rs
      rw [← o.h]
      exact (show Own (ptHand P h.toNat (P.hands.getD p.toNat none)).1 (P.hands.set h.toNat (P.hands.getD p.toNat none)) rs from by have := o.hand h.toNat (P.hands.getD p.toNat none); rw [← o.h] at this; exact this)
    · show P.made ≤ P.made + 0
      omega
  | drop h =>
    refine .inl ⟨_, _, if_neg (not_not_intro hd), o.hand h.toNat none, rfl, ?_⟩
    show P.made ≤ P.made + 0
    omega
  | put h s p =>
    obtain ⟨h1, ⟨s0, _⟩, h2⟩ := hd
    have ha : act P (.put h s p) = atSlot P h s fun n _ => .fine (ptSlot P n s.toNat (P.hands.getD p.toNat none)).1 (ptSlot P n s.toNat (P.hands.getD p.toNat none)).2 := (if_neg (not_not_intro h1)).trans (if_neg (not_not_intro h2))
    rcases wrong_at W o h s0 (fun n _ => .fine (ptSlot P n s.toNat (P.hands.getD p.toNat none)).1 (ptSlot P n s.toNat (P.hands.getD p.toNat none)).2) with ⟨n, b, e1, e2, e3, e4, e5, e6, e7⟩ | ⟨e1, e2⟩ | ⟨e1, e2⟩
    · refine .inl ⟨_, _, ha.trans e7, ?_, ?_, ?_⟩
      · unfold ownStep; dsimp only
        rw [if_pos e4]
        dsimp only
        rw [e6, e5, ← o.h]
        have := o.slot W e2 s.toNat (P.hands.getD p.toNat none)
        rw [← o.h] at this
        exact this
      · unfold ownStep; dsimp only; rw [if_pos e4]
      · show P.made ≤ P.made + 0
        omega
    · refine .inr ⟨.box, ha.trans e2, .inl rfl, ?_⟩
      unfold ownStep; dsimp only; rw [if_neg (by rw [e1]; exact s_box)]; exact ⟨rfl, rfl, e1⟩
    · refine .inr ⟨.slot, ha.trans e2, .inr rfl, ?_⟩
      unfold ownStep; dsimp only; rw [if_neg (by rw [e1]; exact s_slot)]; exact ⟨rfl, rfl, e1⟩
  | empty h s =>
    obtain ⟨h1, ⟨s0, _⟩⟩ := hd
    have ha : act P (.empty h s) = atSlot P h s fun n _ => .fine (ptSlot P n s.toNat none).1 (ptSlot P n s.toNat none).2 := if_neg (not_not_intro h1)
    rcases wrong_at W o h s0 (fun n _ => .fine (ptSlot P n s.toNat none).1 (ptSlot P n s.toNat none).2) with ⟨n, b, e1, e2, e3, e4, e5, e6, e7⟩ | ⟨e1, e2⟩ | ⟨e1, e2⟩
    · refine .inl ⟨_, _, ha.trans e7, ?_, ?_, ?_⟩
      · unfold ownStep; dsimp only
        rw [if_pos e4]
        dsimp only
        rw [e6, e5]
        exact o.slot W e2 s.toNat none
      · unfold ownStep; dsimp only; rw [if_pos e4]
      · show P.made ≤ P.made + 0
        omega
    · refine .inr ⟨.box, ha.trans e2, .inl rfl, ?_⟩
      unfold ownStep; dsimp only; rw [if_neg (by rw [e1]; exact s_box)]; exact ⟨rfl, rfl, e1⟩
    · refine .inr ⟨.slot, ha.trans e2, .inr rfl, ?_⟩
      unfold ownStep; dsimp only; rw [if_neg (by rw [e1]; exact s_slot)]; exact ⟨rfl, rfl, e1⟩
  | take h p s =>
    obtain ⟨h1, h2, ⟨s0, _⟩⟩ := hd
    have ha : act P (.take h p s) = atSlot P p s fun _ b => .fine (ptHand P h.toNat (b.slots.getD s.toNat none)).1 (ptHand P h.toNat (b.slots.getD s.toNat none)).2 := (if_neg (not_not_intro h1)).trans (if_neg (not_not_intro h2))
    rcases wrong_at W o p s0 (fun _ b => .fine (ptHand P h.toNat (b.slots.getD s.toNat none)).1 (ptHand P h.toNat (b.slots.getD s.toNat none)).2) with ⟨n, b, e1, e2, e3, e4, e5, e6, e7⟩ | ⟨e1, e2⟩ | ⟨e1, e2⟩
    · refine .inl ⟨_, _, ha.trans e7, ?_, ?_, ?_⟩
      · unfold ownStep; dsimp only
        rw [if_pos e4]
        dsimp only
        rw [e6]
        exact o.hand h.toNat (b.slots.getD s.toNat none)
      · unfold ownStep; dsimp only; rw [if_pos e4]
      · show P.made ≤ P.made + 0
        omega
    · refine .inr ⟨.box, ha.trans e2, .inl rfl, ?_⟩
      unfold ownStep; dsimp only; rw [if_neg (by rw [e1]; exact s_box)]; exact ⟨rfl, rfl, e1⟩
    · refine .inr ⟨.slot, ha.trans e2, .inr rfl, ?_⟩
      unfold ownStep; dsimp only; rw [if_neg (by rw [e1]; exact s_slot)]; exact ⟨rfl, rfl, e1⟩
  | tidy =>
    refine .inl ⟨_, _, rfl, o.tidied _, rfl, ?_⟩
    show P.made ≤ P.made + 0
    omega
/-! ### their lists in the heap -/
structure RoomsIn (H : Hp) (lh lr : Addr) (hs : List (Option Int)) (rs : List (List (Option Int))) (ra : List Addr) : Prop where
  h : H lh = some (.lst (lV hs))
  r : H lr = some (.lst (ra.map V.ref))
  p : Paired (fun a row => H a = some (.lst (lV row))) ra rs
  nd : ra.Nodup
  nh : lh ∉ ra
  nr : lr ∉ ra
  hr : lh ≠ lr
theorem paired_imp' {α β : Type} {F G : α → β → Prop} : ∀ {a : List α} {b : List β}, (∀ x y, x ∈ a → F x y → G x y) → Paired F a b → Paired G a b
  | _, _, _, .nil => .nil
  | _, _, h, .cons r t => .cons (h _ _ List.mem_cons_self r) (paired_imp' (fun x y hx => h x y (List.mem_cons_of_mem _ hx)) t)
theorem RoomsIn.same {H H' : Hp} {lh lr : Addr} {hs : List (Option Int)} {rs : List (List (Option Int))} {ra : List Addr} (x : RoomsIn H lh lr hs rs ra) (s : Same H H') : RoomsIn H' lh lr hs rs ra :=
  ⟨s _ _ x.h, s _ _ x.r, paired_imp (fun _ _ q => s _ _ q) x.p, x.nd, x.nh, x.nr, x.hr⟩
theorem RoomsIn.len {H : Hp} {lh lr : Addr} {hs : List (Option Int)} {rs : List (List (Option Int))} {ra : List Addr} (x : RoomsIn H lh lr hs rs ra) : ra.length = rs.length := paired_length x.p
theorem RoomsIn.hand {H : Hp} {lh lr : Addr} {hs : List (Option Int)} {rs : List (List (Option Int))} {ra : List Addr} (x : RoomsIn H lh lr hs rs ra) (hs' : List (Option Int)) : RoomsIn (upd H lh (.lst (lV hs'))) lh lr hs' rs ra :=
  ⟨upd_same, by rw [upd_ne x.hr.symm]; exact x.r, paired_imp' (fun a row ha q => by rw [upd_ne (fun e => x.nh (by rw [← e]; exact ha))]; exact q) x.p, x.nd, x.nh, x.nr, x.hr⟩
theorem paired_set {α β : Type} {F : α → β → Prop} : ∀ {a : List α} {b : List β} {i : Nat} {x : α} {y : β}, Paired F a b → a[i]? = some x → F x y → Paired F a (b.set i y)
  | _, _, i, x, y, .nil, h, _ => by simp at h
  | _, _, 0, x, y, .cons r t, h, f => by
    have e := Option.some.inj h
    subst e
    exact .cons f t
  | _, _, i + 1, x, y, .cons r t, h, f => .cons r (paired_set t h f)
theorem nodup_at {α : Type} {l : List α} (hn : l.Nodup) {i j : Nat} {x : α} (hi : l[i]? = some x) (hj : l[j]? = some x) : i = j := by
  have h1 := (List.getElem?_eq_some_iff.mp hi)
  have h2 := (List.getElem?_eq_some_iff.mp hj)
  obtain ⟨a, ea⟩ := h1
  obtain ⟨b, eb⟩ := h2
  exact (List.getElem_inj hn).mp (ea.trans eb.symm)
theorem RoomsIn.slot {H : Hp} {lh lr : Addr} {hs : List (Option Int)} {rs : List (List (Option Int))} {ra : List Addr} (x : RoomsIn H lh lr hs rs ra) {i : Nat} {a : Addr} (ha : ra[i]? = some a) (row : List (Option Int)) : RoomsIn (upd H a (.lst (lV row))) lh lr hs (rs.set i row) ra := by
  have hm := List.mem_of_getElem? ha
  refine ⟨by rw [upd_ne (fun e => x.nh (by rw [e]; exact hm))]; exact x.h, by rw [upd_ne (fun e => x.nr (by rw [e]; exact hm))]; exact x.r, ?_, x.nd, x.nh, x.nr, x.hr⟩
  have key : ∀ {ra : List Addr} {rs : List (List (Option Int))} {i : Nat}, ra.Nodup → Paired (fun a row => H a = some (.lst (lV row))) ra rs → ra[i]? = some a → Paired (fun b r => upd H a (.lst (lV row)) b = some (.lst (lV r))) ra (rs.set i row) := fun {ra rs i} hn p => by
    induction p generalizing i with
    | nil => intro h; simp at h
    | @cons b r ra rs q t ih =>
      intro h
      have hn' := List.nodup_cons.mp hn
      cases i with
      | zero =>
        have e := Option.some.inj h
        subst e
        exact .cons upd_same (paired_imp' (fun c r hc q => by rw [upd_ne (fun e => hn'.1 (by rw [← e]; exact hc))]; exact q) t)
      | succ i =>
        have h' : ra[i]? = some a := h
        refine .cons ?_ (ih hn'.2 h')
        rw [upd_ne (fun e => hn'.1 (by rw [e]; exact List.mem_of_getElem? h'))]
        exact q
  exact key x.nd x.p ha
theorem RoomsIn.add {H : Hp} {lh lr : Addr} {hs : List (Option Int)} {rs : List (List (Option Int))} {ra : List Addr} (x : RoomsIn H lh lr hs rs ra) {a : Addr} (hna : a ∉ ra) (hnh : lh ≠ a) (hnr : lr ≠ a) {row : List (Option Int)} (ha : H a = some (.lst (lV row))) : RoomsIn (upd H lr (.lst (ra.map V.ref ++ [V.ref a]))) lh lr hs (rs ++ [row]) (ra ++ [a]) := by
  refine ⟨by rw [upd_ne x.hr]; exact x.h, by rw [upd_same, List.map_append]; rfl, ?_, ?_, ?_, ?_, x.hr⟩
  · exact paired_app (paired_imp' (fun b r hb q => by rw [upd_ne (fun e => x.nr (by rw [← e]; exact hb))]; exact q) x.p) (.cons (by rw [upd_ne hnr.symm]; exact ha) .nil)
  · rw [List.nodup_append]
    exact ⟨x.nd, by simp, fun b hb c hc => by rw [List.mem_singleton.mp hc]; exact fun e => hna (by rw [← e]; exact hb)⟩
  · intro h
    rcases List.mem_append.mp h with h | h
    · exact x.nh h
    · exact hnh (List.mem_singleton.mp h)
  · intro h
    rcases List.mem_append.mp h with h | h
    · exact x.nr h
    · exact hnr (List.mem_singleton.mp h)
/-- what points points at a room -/
structure OwnOk (hs : List (Option Int)) (rs : List (List (Option Int))) : Prop where
  l8 : hs.length = 8
  h : ∀ n, some n ∈ hs → 0 ≤ n ∧ n < (rs.length : Int)
  s : ∀ row, row ∈ rs → row.length ≤ 6 ∧ ∀ n, some n ∈ row → 0 ≤ n ∧ n < (rs.length : Int)
theorem mem_set_imp {l : List (Option Int)} {i : Nat} {x : Option Int} {n : Int} (h : some n ∈ l.set i x) : some n ∈ l ∨ x = some n := by
  rcases List.mem_or_eq_of_mem_set h with h | h
  · exact .inl h
  · exact .inr h.symm
theorem getD_mem {l : List (Option Int)} {i : Nat} {n : Int} (h : l.getD i none = some n) : some n ∈ l := by
  rw [List.getD_eq_getElem?_getD] at h
  cases q : l[i]? with
  | none => rw [q] at h; cases h
  | some y =>
    rw [q] at h
    have : y = some n := h
    rw [← this]
    exact List.mem_of_getElem? q
theorem OwnOk.setHand {hs : List (Option Int)} {rs : List (List (Option Int))} (o : OwnOk hs rs) (i : Nat) {x : Option Int} (hx : ∀ n, x = some n → 0 ≤ n ∧ n < (rs.length : Int)) : OwnOk (hs.set i x) rs :=
  ⟨by rw [List.length_set]; exact o.l8, fun n h => (mem_set_imp h).elim (o.h n) (hx n), o.s⟩
theorem OwnOk.setSlot {hs : List (Option Int)} {rs : List (List (Option Int))} (o : OwnOk hs rs) (k i : Nat) {x : Option Int} (hx : ∀ n, x = some n → 0 ≤ n ∧ n < (rs.length : Int)) : OwnOk hs (rs.set k ((rs.getD k []).set i x)) := by
  refine ⟨o.l8, fun n h => by rw [List.length_set]; exact o.h n h, fun row hr => ?_⟩
  rw [List.length_set]
  rcases List.mem_or_eq_of_mem_set hr with hr | hr
  · exact o.s row hr
  · subst hr
    rw [List.length_set]
    by_cases c : k < rs.length
    · have hm : rs.getD k [] ∈ rs := by
        rw [List.getD_eq_getElem?_getD, List.getElem?_eq_getElem c]
        exact List.getElem_mem c
      exact ⟨(o.s _ hm).1, fun n h => (mem_set_imp h).elim ((o.s _ hm).2 n) (hx n)⟩
    · have e : rs.getD k [] = [] := by rw [List.getD_eq_getElem?_getD, List.getElem?_eq_none (by omega)]; rfl
      rw [e]
      exact ⟨Nat.zero_le _, fun n h => by cases h⟩
theorem OwnOk.step {hs : List (Option Int)} {rs : List (List (Option Int))} (o : OwnOk hs rs) {d : Deed} (hd : d.InZ 8 7) : OwnOk (ownStep hs rs d).1 (ownStep hs rs d).2.1 := by
  have hand : ∀ i n, hs.getD i none = some n → 0 ≤ n ∧ n < (rs.length : Int) := fun i n h => o.h n (getD_mem h)
  cases d with
  | make h z =>
    obtain ⟨h1, h2⟩ := hd
    unfold ownStep
    dsimp only
    refine ⟨by rw [List.length_set]; exact o.l8, fun n h => ?_, fun row hr => ?_⟩
    · rw [List.length_append, List.length_singleton]
      rcases mem_set_imp h with h | h
      · have := o.h n h; omega
      · have := Option.some.inj h; omega
    · rw [List.length_append, List.length_singleton]
      rcases List.mem_append.mp hr with hr | hr
      · exact ⟨(o.s row hr).1, fun n h => by have := (o.s row hr).2 n h; omega⟩
      · rw [List.mem_singleton.mp hr]
        refine ⟨by rw [List.length_replicate]; omega, fun n h => ?_⟩
        have := List.eq_of_mem_replicate h
        cases this
  | hold h p => exact o.setHand _ fun n e => hand _ n e
  | drop h => exact o.setHand _ fun n e => by cases e
  | put h s p =>
    unfold ownStep
    dsimp only
    by_cases c : wrong hs rs h s = Str.empty
    · rw [if_pos c]
      exact o.setSlot _ _ fun n e => hand _ n e
    · rw [if_neg c]; exact o
  | empty h s =>
    unfold ownStep
    dsimp only
    by_cases c : wrong hs rs h s = Str.empty
    · rw [if_pos c]
      exact o.setSlot _ _ fun n e => by cases e
    · rw [if_neg c]; exact o
  | take h p s =>
    unfold ownStep
    dsimp only
    by_cases c : wrong hs rs p s = Str.empty
    · rw [if_pos c]
      refine o.setHand _ fun n e => ?_
      by_cases c2 : ownAt hs rs p < rs.length
      · have hm : rs.getD (ownAt hs rs p) [] ∈ rs := by
          rw [List.getD_eq_getElem?_getD, List.getElem?_eq_getElem c2]
          exact List.getElem_mem c2
        exact (o.s _ hm).2 n (getD_mem e)
      · have e2 : rs.getD (ownAt hs rs p) [] = [] := by rw [List.getD_eq_getElem?_getD, List.getElem?_eq_none (by omega)]; rfl
        rw [e2] at e
        cases e
    · rw [if_neg c]; exact o
  | tidy => exact o
theorem ownOk0 : OwnOk (List.replicate 8 none) [] := ⟨rfl, fun n h => (by have := List.eq_of_mem_replicate h; cases this), fun row h => (by cases h)⟩
theorem row_len {k : Nat} {row : List Int} (hn : row.Nodup) (h : ∀ n, n ∈ row → 0 ≤ n ∧ n < (k : Int)) : row.length ≤ k := by
  have := nodup_le (a := row) (b := (List.range k).map fun i => ((i : Nat) : Int)) hn fun n hm => by
    obtain ⟨a, b⟩ := h n hm
    rw [List.mem_map]
    exact ⟨n.toNat, List.mem_range.mpr (by omega), by omega⟩
  rw [List.length_map, List.length_range] at this
  exact this
theorem RPath.snoc {rs : List (List (Option Int))} {a b c : Int} {row : List (Option Int)} (p : RPath rs a b) (hr : rs[b.toNat]? = some row) (hc : some c ∈ row) : RPath rs a c := by
  induction p with
  | refl n => exact .step hr hc (.refl c)
  | step h1 h2 _ ih => exact .step h1 h2 (ih hr)
end BP

/-! Lines played on a pile: what each answers; a pile beside a def's table. Own work. -/
namespace BP
open PySem L2
/-! ### a pile beside the table -/
def pastK (R H H' : Hp) : Hp := fun b => match H b with
  | none => H' b
  | some _ => match R b with
    | none => none
    | some _ => H' b
section
variable {C B p : Addr} {g : Geo} {P : Pl} {R H H' : Hp} {Pt : Addr}
theorem pastK_new {b : Addr} (h : H b = none) : pastK R H H' b = H' b := by unfold pastK; rw [h]
theorem pastK_old {b : Addr} {o u : HO} (h : H b = some o) (r : R b = some u) : pastK R H H' b = H' b := by unfold pastK; rw [h]; dsimp only; rw [r]
theorem pastK_own {b : Addr} {o : HO} (h : H b = some o) (r : R b = none) : pastK R H H' b = none := by unfold pastK; rw [h]; dsimp only; rw [r]
theorem TabG.of_same (T : GxR.TabG R Pt) (s : Same R H) : GxR.TabG H Pt := by
  obtain ⟨ps, e, t⟩ := T
  exact ⟨ps, s _ _ e, t⟩
theorem PileAt.past (A : PileAt C B p g P R H) (T : GxR.TabG R Pt) (q : Past Pt H H') : PileAt C B p g P (pastK R H H') H' ∧ Past Pt R (pastK R H H') := by
  have rP : ∃ o, R Pt = some o := by obtain ⟨ps, e, _⟩ := T; exact ⟨_, e⟩
  obtain ⟨oP, rP⟩ := rP
  refine ⟨A.re (fun b hb hn => ?_) (fun b o e => ?_) (fun b o e r => q.2 b o (fun z => ?_) e), ⟨?_, fun b o n e => ?_⟩⟩
  · cases e : H b with
    | none => exact absurd e hn
    | some o => exact pastK_own e hb
  · cases e2 : H b with
    | none => rw [pastK_new e2] at e; exact e
    | some u =>
      cases e3 : R b with
      | none => rw [pastK_own e2 e3] at e; cases e
      | some v => rw [pastK_old e2 e3] at e; exact e
  · rw [z, rP] at r; cases r
  · obtain ⟨ps, e, t⟩ := q.1
    exact ⟨ps, by rw [pastK_old (A.same _ _ rP) rP]; exact e, t⟩
  · rw [pastK_old (A.same _ _ e) e]
    exact q.2 b o n (A.same _ _ e)
theorem Past.same {H H' : Hp} (T : GxR.TabG H Pt) (S : Same H H') : Past Pt H H' := ⟨TabG.of_same T S, fun b o _ h => S b o h⟩
theorem Past.seq {K : PySem.W.Frag} {H H' : Hp} {a : Addr} {xs : List V} (p : Past Pt H H') (T : GxR.TabG H Pt) (h : SqL K H a xs) : SqL K H' a xs := by
  obtain ⟨ps, e, t⟩ := T
  refine h.elim (fun h => .inl (h.elim (fun h => .inl (p.2 _ _ (fun z => ?_) h)) fun ⟨o, h⟩ => .inr ⟨o, p.2 _ _ (fun z => ?_) h⟩)) fun h => .inr h
  · rw [z, e] at h; cases h
  · rw [z, e] at h; cases h
theorem tab_nl {a : Addr} {xs : List V} (T : GxR.TabG H Pt) (h : H a = some (.lst xs)) : a ≠ Pt := fun z => by
  obtain ⟨ps, e, _⟩ := T
  rw [z, e] at h; cases h
theorem tab_nt {a : Addr} {xs : List V} (T : GxR.TabG H Pt) (h : H a = some (.tup xs)) : a ≠ Pt := fun z => by
  obtain ⟨ps, e, _⟩ := T
  rw [z, e] at h; cases h
end
theorem samePut {H H' : Hp} (s : Same H H') {a : Addr} (h : H' a = none) (o : HO) : Same H (upd H' a o) := s.trans (same_upd h)
theorem sameOff {H H' : Hp} (s : Same H H') {a : Addr} (h : H a = none) (o : HO) : Same H (upd H' a o) := fun b u e => by
  rw [upd_ne (ne_of_none e h)]
  exact s b u e
/-! ### what a deed frees -/
theorem go_freed : ∀ (m : Nat) (bs : List (Int × Bx)) (w : List (Option Int)), (go m bs w).2.length ≤ bs.length ∧ ∀ n ∈ (go m bs w).2, n ∈ keys bs
  | 0, bs, w => ⟨Nat.zero_le _, fun n h => by cases h⟩
  | m + 1, bs, [] => ⟨Nat.zero_le _, fun n h => by cases h⟩
  | m + 1, bs, x :: w => by
    obtain ⟨h1, h2⟩ := go_freed m (fall bs w x).1 (fall bs w x).2.1
    show ((fall bs w x).2.2 ++ (go m (fall bs w x).1 (fall bs w x).2.1).2).length ≤ bs.length ∧ ∀ n ∈ (fall bs w x).2.2 ++ (go m (fall bs w x).1 (fall bs w x).2.1).2, n ∈ keys bs
    cases x with
    | none => exact ⟨h1, h2⟩
    | some n =>
      cases e : get bs n with
      | none =>
        rw [fall_gone w e] at h1 h2 ⊢
        exact ⟨h1, h2⟩
      | some b =>
        by_cases c : b.wt = 1
        · rw [fall_free w e c] at h1 h2 ⊢
          have hk : n ∈ keys bs := get_keys.mp ⟨b, e⟩
          refine ⟨?_, fun k hk' => ?_⟩
          · have : (rm bs n).length < bs.length := by
              have e1 : (rm bs n).length = (keys (rm bs n)).length := (List.length_map _).symm
              have e2 : bs.length = (keys bs).length := (List.length_map _).symm
              rw [e1, e2, keys_rm]
              exact List.length_filter_lt_length_iff_exists.mpr ⟨n, hk, by simp⟩
            have : (go m (rm bs n) (w ++ b.slots)).2.length ≤ (rm bs n).length := h1
            rw [List.length_append, List.length_singleton]
            show 1 + (go m (rm bs n) (w ++ b.slots)).2.length ≤ _
            omega
          · rcases List.mem_append.mp hk' with q | q
            · rw [List.mem_singleton.mp q]; exact hk
            · have := h2 k q
              rw [keys_rm] at this
              exact (List.mem_filter.mp this).1
        · rw [fall_low w e c] at h1 h2 ⊢
          have e1 : (chg bs n low).length = bs.length := by
            have e1 : (chg bs n low).length = (keys (chg bs n low)).length := (List.length_map _).symm
            have e2 : bs.length = (keys bs).length := (List.length_map _).symm
            rw [e1, e2, keys_chg]
          rw [e1] at h1
          rw [keys_chg] at h2
          exact ⟨h1, h2⟩
theorem run_freed (bs : List (Int × Bx)) (w : List (Option Int)) : (run bs w).2.length ≤ bs.length ∧ ∀ n ∈ (run bs w).2, n ∈ keys bs := go_freed _ _ _
theorem len_keys (bs : List (Int × Bx)) : (keys bs).length = bs.length := List.length_map _
/-- what is freed is alive, or was just made; no more than sixty-one -/
theorem act_freed {P P' : Pl} {d : Deed} {f : List Int} (G : Good P) (e : act P d = .fine P' f) : f.length ≤ 61 ∧ (∀ n ∈ f, 0 ≤ n ∧ n ≤ P.made) ∧ P.made ≤ P'.made ∧ P'.made ≤ P.made + 1 := by
  have few := G.wf.few
  have lo := G.wf.lo
  have pt : ∀ (Q : Pl) (k : Pl × List Int), k.2.length ≤ P.boxes.length → (∀ n ∈ k.2, n ∈ keys P.boxes) → k.1.made = P.made → Res.fine k.1 k.2 = .fine P' f → f.length ≤ 61 ∧ (∀ n ∈ f, 0 ≤ n ∧ n ≤ P.made) ∧ P.made ≤ P'.made ∧ P'.made ≤ P.made + 1 := fun _ k h1 h2 h3 h4 => by
    injection h4 with h4 h5
    rw [← h4, ← h5]
    exact ⟨by omega, fun n hn => by have := lo n (h2 n hn); omega, by omega, by omega⟩
  have hand : ∀ (h : Nat) (x : Option Int), Res.fine (ptHand P h x).1 (ptHand P h x).2 = .fine P' f → f.length ≤ 61 ∧ (∀ n ∈ f, 0 ≤ n ∧ n ≤ P.made) ∧ P.made ≤ P'.made ∧ P'.made ≤ P.made + 1 := fun h x => by
    obtain ⟨h1, h2⟩ := run_freed (bumped P.boxes x) [P.hands.getD h none]
    rw [keys_bumped] at h2
    rw [← len_keys, keys_bumped, len_keys] at h1
    exact pt P (ptHand P h x) h1 h2 rfl
  have slot : ∀ (n : Int) (s : Nat) (x : Option Int), Res.fine (ptSlot P n s x).1 (ptSlot P n s x).2 = .fine P' f → f.length ≤ 61 ∧ (∀ n ∈ f, 0 ≤ n ∧ n ≤ P.made) ∧ P.made ≤ P'.made ∧ P'.made ≤ P.made + 1 := fun n s x => by
    obtain ⟨h1, h2⟩ := run_freed (chg (bumped P.boxes x) n (setSlot s x)) [slotOf P.boxes n s]
    rw [keys_chg, keys_bumped] at h2
    rw [← len_keys, keys_chg, keys_bumped, len_keys] at h1
    exact pt P (ptSlot P n s x) h1 h2 rfl
  cases d with
  | make h z =>
    unfold act at e; dsimp only at e
    split at e
    · cases e
    split at e
    · cases e
    split at e
    · cases e
    injection e with e1 e2
    rw [← e1, ← e2]
    obtain ⟨h1, h2⟩ := run_freed (bumped (born P z.toNat).boxes (some P.made)) [(born P z.toNat).hands.getD h.toNat none]
    rw [keys_bumped] at h2
    rw [← len_keys, keys_bumped, len_keys] at h1
    have eb : (born P z.toNat).boxes.length = P.boxes.length + 1 := by
      show (P.boxes ++ [_]).length = _
      rw [List.length_append, List.length_singleton]
    have ek : keys (born P z.toNat).boxes = keys P.boxes ++ [P.made] := by
      show keys (P.boxes ++ [_]) = _
      unfold keys
      rw [List.map_append]
      rfl
    have m0 := G.wf.m0
    refine ⟨by show (run _ _).2.length ≤ 61; omega, fun n hn => ?_, by rw [made_mk]; omega, by rw [made_mk]; exact Int.le_refl _⟩
    have := h2 n hn
    rw [ek] at this
    rcases List.mem_append.mp this with q | q
    · have := lo n q; omega
    · rw [List.mem_singleton.mp q]; omega
  | hold h o =>
    unfold act at e; dsimp only at e
    split at e
    · cases e
    split at e
    · cases e
    exact hand _ _ e
  | drop h =>
    unfold act at e; dsimp only at e
    split at e
    · cases e
    exact hand _ _ e
  | put h s o =>
    unfold act at e; dsimp only at e
    split at e
    · cases e
    split at e
    · cases e
    obtain ⟨n, b, _, _, _, e⟩ := atSlot_fine e
    exact slot _ _ _ e
  | empty h s =>
    unfold act at e; dsimp only at e
    split at e
    · cases e
    obtain ⟨n, b, _, _, _, e⟩ := atSlot_fine e
    exact slot _ _ _ e
  | take h o s =>
    unfold act at e; dsimp only at e
    split at e
    · cases e
    split at e
    · cases e
    obtain ⟨n, b, _, _, _, e⟩ := atSlot_fine e
    exact hand _ _ e
  | tidy =>
    injection e with e1 e2
    rw [← e1, ← e2]
    have hk : ∀ n ∈ deadF P, n ∈ keys P.boxes := fun n hn => get_keys.mp (mem_deadF.mp hn).1
    refine ⟨?_, fun n hn => by have := lo n (hk n hn); omega, Int.le_refl _, by show P.made ≤ _; omega⟩
    have : (deadF P).length ≤ (keys P.boxes).length := by unfold deadF; exact List.length_filter_le _ _
    rw [len_keys] at this
    omega
/-! ### a line's deed, a line's answer -/
def deedOf (u : Str) (ns : List Nat) : Option Deed :=
  if u = "make" then match ns with | [a, b] => some (.make a b) | _ => none
  else if u = "hold" then match ns with | [a, b] => some (.hold a b) | _ => none
  else if u = "drop" then match ns with | [a] => some (.drop a) | _ => none
  else if u = "put" then match ns with | [a, b, c] => some (.put a b c) | _ => none
  else if u = "empty" then match ns with | [a, b] => some (.empty a b) | _ => none
  else if u = "take" then match ns with | [a, b, c] => some (.take a b c) | _ => none
  else if u = "tidy" then match ns with | [] => some .tidy | _ => none
  else none
theorem deedOf_vs {ps : List Str} {u : Str} {ns : List Nat} (h : readP ps = some (u, ns)) : ∃ d, deedOf u ns = some d ∧ d.vs = .str u :: ns.map fun n => V.int (n : Nat) := by
  have hm : manyOf u = some ns.length := by
    cases ps with
    | nil => cases h
    | cons w ps =>
      have h : (if manyOf w = some ps.length ∧ ∀ p ∈ ps, okN p.cps.toList = true then some (w, ps.map fun p => NumText.digitsVal p.cps.toList) else none) = some (u, ns) := h
      by_cases c : manyOf w = some ps.length ∧ ∀ p ∈ ps, okN p.cps.toList = true
      · rw [if_pos c] at h
        injection h with h
        injection h with h1 h2
        rw [← h1, ← h2, List.length_map]
        exact c.1
      · rw [if_neg c] at h
        cases h
  clear h
  have two : ∀ {k : Nat}, k = 2 → some k = some ns.length → ∃ a b, ns = [a, b] := fun e q => by
    injection q with q
    match ns, q with
    | [a, b], _ => exact ⟨a, b, rfl⟩
    | [], q => rw [e] at q; cases q
    | [a], q => rw [e] at q; cases q
    | a :: b :: c :: l, q => rw [e] at q; simp only [List.length_cons] at q; omega
  have three : some 3 = some ns.length → ∃ a b c, ns = [a, b, c] := fun q => by
    injection q with q
    match ns, q with
    | [a, b, c], _ => exact ⟨a, b, c, rfl⟩
    | [], q => cases q
    | [a], q => cases q
    | [a, b], q => cases q
    | a :: b :: c :: d :: l, q => simp only [List.length_cons] at q; omega
  have one : some 1 = some ns.length → ∃ a, ns = [a] := fun q => by
    injection q with q
    match ns, q with
    | [a], _ => exact ⟨a, rfl⟩
    | [], q => cases q
    | a :: b :: l, q => simp only [List.length_cons] at q; omega
  unfold manyOf at hm
  unfold deedOf
  by_cases h1 : u = "make"
  · rw [if_pos h1] at hm ⊢
    obtain ⟨a, b, rfl⟩ := two rfl hm
    exact ⟨_, rfl, by rw [h1]; rfl⟩
  rw [if_neg h1] at hm ⊢
  by_cases h2 : u = "hold"
  · rw [if_pos h2] at hm ⊢
    obtain ⟨a, b, rfl⟩ := two rfl hm
    exact ⟨_, rfl, by rw [h2]; rfl⟩
  rw [if_neg h2] at hm ⊢
  by_cases h3 : u = "drop"
  · rw [if_pos h3] at hm ⊢
    obtain ⟨a, rfl⟩ := one hm
    exact ⟨_, rfl, by rw [h3]; rfl⟩
  rw [if_neg h3] at hm ⊢
  by_cases h4 : u = "put"
  · rw [if_pos h4] at hm ⊢
    obtain ⟨a, b, c, rfl⟩ := three hm
    exact ⟨_, rfl, by rw [h4]; rfl⟩
  rw [if_neg h4] at hm ⊢
  by_cases h5 : u = "empty"
  · rw [if_pos h5] at hm ⊢
    obtain ⟨a, b, rfl⟩ := two rfl hm
    exact ⟨_, rfl, by rw [h5]; rfl⟩
  rw [if_neg h5] at hm ⊢
  by_cases h6 : u = "take"
  · rw [if_pos h6] at hm ⊢
    obtain ⟨a, b, c, rfl⟩ := three hm
    exact ⟨_, rfl, by rw [h6]; rfl⟩
  rw [if_neg h6] at hm ⊢
  by_cases h7 : u = "tidy"
  · rw [if_pos h7] at hm ⊢
    injection hm with hm
    match ns, hm with
    | [], _ => exact ⟨_, rfl, by rw [h7]; rfl⟩
  rw [if_neg h7] at hm
  cases hm
def badW : Bad → Str
  | .hand => "no hand" | .size => "no size" | .full => "full" | .box => "no box" | .slot => "no slot"
def freesW (f : List Int) : Str := ("frees " : Str) ++ (if f = [] then ("none" : Str) else Str.join " " (f.map fun n => (toString n : Str)))
/-- the pile behind a line, and the line's answer -/
noncomputable def ans (P : Pl) (z : Str) : Pl × Str := match readP (Txt.split z " ") with
  | none => (P, "no deed")
  | some (u, ns) => match deedOf u ns with
    | none => (P, "no deed")
    | some d => match act P d with
      | .bad e => (P, badW e)
      | .fine P' f => (P', freesW f)
/-- the pile behind some lines -/
noncomputable def plAt (P : Pl) : List Str → Pl
  | [] => P
  | z :: zs => plAt (ans P z).1 zs
noncomputable def answers (P : Pl) : List Str → List Str
  | [] => []
  | z :: zs => (ans P z).2 :: answers (ans P z).1 zs
theorem plAt_snoc : ∀ (zs : List Str) (P : Pl) (z : Str), plAt P (zs ++ [z]) = (ans (plAt P zs) z).1
  | [], _, _ => rfl
  | y :: zs, P, z => plAt_snoc zs (ans P y).1 z
theorem answers_snoc : ∀ (zs : List Str) (P : Pl) (z : Str), answers P (zs ++ [z]) = answers P zs ++ [(ans (plAt P zs) z).2]
  | [], _, _ => rfl
  | y :: zs, P, z => by
    show (ans P y).2 :: answers (ans P y).1 (zs ++ [z]) = (ans P y).2 :: (answers (ans P y).1 zs ++ _)
    rw [answers_snoc zs]
    rfl
theorem answers_len : ∀ (zs : List Str) (P : Pl), (answers P zs).length = zs.length
  | [], _ => rfl
  | y :: zs, P => by
    show (answers (ans P y).1 zs).length + 1 = zs.length + 1
    rw [answers_len zs]
end BP

/-! s.replace(y, one of some written texts, n): some text of bounded length. Own work. -/
namespace BP
open PySem PySem.Spec PyProof.Rows L2 PySem.Builtin PySem.Builtin.Str
theorem gives_repl4 (x y z : Str) (k : Int) (t u v n : Tok) (hk : (decide (k < -(2 ^ 63 : Int)) || decide (k ≥ 2 ^ 63)) = false) (h0 : (u == 0 || v == 0) = false) (hyz : (y == z) = false)
    (hl : tooLong (x.length + (occurrences x y 0 x.length (if k < 0 then x.length + 1 else k.toNat)).length * z.length) = false) :
    Gives (Builtin.«str.replace» ⟨[.str x t, .str y u, .str z v, .int k n], []⟩)
      (if ((occurrences x y 0 x.length (if k < 0 then x.length + 1 else k.toNat)).isEmpty || (y.length == 0 && z.length == 0)) = true then .val (.str x t) else if (u == v) = true then .val (.str x t) else .str (glued z (partsBetween x (occurrences x y 0 x.length (if k < 0 then x.length + 1 else k.toNat)) y.length))) := by
  show Gives (do let limit ← countLimit "str.replace" (some (.int k n)) (x.length + 1); _) _
  rw [countLimit_int "str.replace" k n (x.length + 1) hk]
  generalize (if k < 0 then x.length + 1 else k.toNat) = m at hl ⊢
  show Gives (if ((occurrences x y 0 x.length m).isEmpty || (y.length == 0 && z.length == 0)) = true then (do rule "str.replace.nothing"; ret (.str x t)) else
          (do let same ← isSame (.str y u) (.str z v)
              if same = true then (do rule "str.replace.old-is-new"; ret (.str x t)) else
              if tooLong (x.length + (occurrences x y 0 x.length m).length * z.length) = true then unsupported "str.replace:memory" else
              retStr (glued z (partsBetween x (occurrences x y 0 x.length m) y.length)))) _
  cases hc : ((occurrences x y 0 x.length m).isEmpty || (y.length == 0 && z.length == 0))
  · cases huv : (u == v)
    · rw [isSame_str_other y z u v h0 huv hyz, hl]
      exact .of_eq rfl
    · have e : isSame (.str y u) (.str z v) = pure true := by
        show (if (u == 0 || v == 0) = true then _ else if (u == v) = true then pure true else _ : Sem Bool) = _
        rw [h0, huv]
        rfl
      rw [e]
      exact .rule (.of_eq rfl)
  · exact .rule (.of_eq rfl)
theorem join_len (sep : Str) (B : Nat) : ∀ ys : List Str, (∀ y ∈ ys, y.length ≤ B) → (Str.join sep ys).length ≤ ys.length * (B + sep.length)
  | [], _ => by show 0 ≤ _; omega
  | [y], h => by
    have := h y List.mem_cons_self
    show y.length ≤ 1 * _
    omega
  | y :: z :: ys, h => by
    have ih := join_len sep B (z :: ys) fun q hq => h q (List.mem_cons_of_mem _ hq)
    have := h y List.mem_cons_self
    show (y ++ sep ++ Str.join sep (z :: ys)).length ≤ _
    rw [Str.length_append, Str.length_append, List.length_cons (a := y), Nat.add_mul]
    omega
/-- replaced at most twice, it is not much longer -/
theorem repl_len (x y z : Str) (m : Nat) (hm : m ≤ 2) (hx : x.length ≤ 100000) (hz : z.length ≤ 10) : (glued z (partsBetween x (occurrences x y 0 x.length m) y.length)).length ≤ 3 * (x.length + 10) := by
  rw [StrLaws.glued_eq_join]
  have h1 := join_len z x.length (partsBetween x (occurrences x y 0 x.length m) y.length) fun p hp => by
    simp only [partsBetween, List.mem_map] at hp
    obtain ⟨⟨i, j⟩, _, rfl⟩ := hp
    exact strSub_length_le ..
  rw [PyProof.Rows.len_partsBetween] at h1
  have h2 := StrLaws.occ_length_le x y 0 x.length m
  refine Nat.le_trans h1 (Nat.mul_le_mul ?_ ?_) <;> omega
def tRepl3 (to ti tn : TE) : TE := fun σ H Q => to σ H fun v H1 => ∃ x : Str, v = .str x ∧ x.length ≤ 100000 ∧ ∀ H2, Same H1 H2 → ti σ H2 fun i H3 => ∃ k : Int, i = .int k ∧ 0 ≤ k ∧ k < 3 ∧ H3 = H2 ∧
  tn σ H3 fun n H4 => ∃ m : Int, n = .int m ∧ 0 ≤ m ∧ m ≤ 2 ∧ ∀ r : Str, r.length ≤ 3 * (x.length + 10) → Q (.str r) H4
section
variable {X : Cx}
theorem pet_repl3 {o idx cnt : Expr} {y z1 z2 z3 : Str} {j0 j1 j2 j3 : Nat} {c0 c1 c2 c3 lp sp apos pos : Pos} {to ti tn : TE} (ho : PE X o to) (hi : PE X idx ti) (hn : PE X cnt tn)
    (hz : ∀ z ∈ [z1, z2, z3], z.length ≤ 10 ∧ (y == z) = false) (hix : PlainIx idx)
    (hbase : attributeBase o "replace" X.env (eval o X.env) = eval o X.env := by rfl) (hline : (apos.endLine == pos.line) = true := by rfl)
    (hfew : ((backTo pos (starEach [.Constant (.str y) j0 c0, .Subscript (.List [.Constant (.str z1) j1 c1, .Constant (.str z2) j2 c2, .Constant (.str z3) j3 c3] lp) idx sp, cnt] X.env)).all (fun x => !x.1) && (backToKw pos (keywordEach [] X.env)).all (fun x => x.1.isSome)
      && decide (([.Constant (.str y) j0 c0, .Subscript (.List [.Constant (.str z1) j1 c1, .Constant (.str z2) j2 c2, .Constant (.str z3) j3 c3] lp) idx sp, cnt] : List Expr).length + ([] : List Keyword).length + (if ([] : List Keyword).isEmpty then 0 else 1) < 30)) = true := by rfl)
    (htr : backTo pos (starEach [.Constant (.str y) j0 c0, .Subscript (.List [.Constant (.str z1) j1 c1, .Constant (.str z2) j2 c2, .Constant (.str z3) j3 c3] lp) idx sp, cnt] X.env) =
      [(false, eval (.Constant (.str y) j0 c0) X.env), (false, eval (.Subscript (.List [.Constant (.str z1) j1 c1, .Constant (.str z2) j2 c2, .Constant (.str z3) j3 c3] lp) idx sp) X.env), (false, eval cnt X.env)] := by rfl) :
    PET X (.Call (.Attribute o "replace" apos) [.Constant (.str y) j0 c0, .Subscript (.List [.Constant (.str z1) j1 c1, .Constant (.str z2) j2 c2, .Constant (.str z3) j3 c3] lp) idx sp, cnt] [] pos) (tRepl3 to ti tn) := by
  intro pins s σ H Q h0 I h
  refine wpAny_Call_method_lateS hbase hfew hline (wpAny_mono (PySem.wpAny_toks (ho.run pins s σ H _ I h)) (fun v s1 q => ?_) fun _ _ z => z.2)
  obtain ⟨hk, v', H1, I1, r1, x, e1, hx, q⟩ := q
  subst e1
  obtain ⟨tx, e2⟩ := r1
  subst e2
  refine ⟨"str", _, PySem.F.plainAttrs_str, PySem.F.slot_str_replace, PySem.F.type_str_replace, typeIs_str _ _ _, (fun _ e => nomatch e), ?_⟩
  rw [htr]
  refine Calls.callWith_builtin rfl (Calls.evalArgs_plain (Calls.spliced_cons (Calls.Constant_str (Calls.spliced_cons (Subscript_ (wpAny_List_spliced ?_))))))
  show wpAny _ _ (spliced ((false, eval (.Constant (.str z1) j1 c1) X.env) :: backTo lp (starEach [.Constant (.str z2) j2 c2, .Constant (.str z3) j3 c3] X.env))) _ _ _
  refine Calls.spliced_cons (Calls.Constant_str ?_)
  show wpAny _ _ (spliced ((false, eval (.Constant (.str z2) j2 c2) X.env) :: backTo lp (starEach [.Constant (.str z3) j3 c3] X.env))) _ _ _
  refine Calls.spliced_cons (Calls.Constant_str ?_)
  show wpAny _ _ (spliced ((false, eval (.Constant (.str z3) j3 c3) X.env) :: backTo lp (starEach [] X.env))) _ _ _
  refine Calls.spliced_cons (Calls.Constant_str (Calls.spliced_nil ?_))
  obtain ⟨k0, hk0⟩ : ∃ k0, s1.toks = k0 := ⟨_, rfl⟩
  have three : (3 : Nat) ≤ sizeLine := by decide
  refine ⟨three, ?_⟩
  have fresh : H1 s1.heap.objs.size = none := I1.hok.fresh (Nat.le_refl _)
  have I2 := I1.laid (t' := s1.toks + 1 + 1 + 1 + 1) (h' := s1.heap.push { cls := .type "list", data := .seq #[.str z1 (s1.toks + 1), .str z2 (s1.toks + 1 + 1), .str z3 (s1.toks + 1 + 1 + 1)] })
    (o := .frz { cls := .type "list", data := .seq #[.str z1 (s1.toks + 1), .str z2 (s1.toks + 1 + 1), .str z3 (s1.toks + 1 + 1 + 1)] 0 } (.lst [.str z1, .str z2, .str z3])) (fun b u e => Heap.get?_push_of_some _ e) (Nat.le_refl _)
    ⟨Heap.get?_push_size _ rfl, three, [.str z1 (s1.toks + 1), .str z2 (s1.toks + 1 + 1), .str z3 (s1.toks + 1 + 1 + 1)], 0, .cons ⟨_, rfl⟩ (.cons ⟨_, rfl⟩ (.cons ⟨_, rfl⟩ .nil)), Heap.get?_push_size _ rfl⟩
  obtain ⟨H2, eH2⟩ : ∃ H2, upd H1 s1.heap.objs.size (.frz { cls := .type "list", data := .seq #[.str z1 (s1.toks + 1), .str z2 (s1.toks + 1 + 1), .str z3 (s1.toks + 1 + 1 + 1)] 0 } (.lst [.str z1, .str z2, .str z3])) = H2 := ⟨_, rfl⟩
  have here : H2 s1.heap.objs.size = some (.frz { cls := .type "list", data := .seq #[.str z1 (s1.toks + 1), .str z2 (s1.toks + 1 + 1), .str z3 (s1.toks + 1 + 1 + 1)] 0 } (.lst [.str z1, .str z2, .str z3])) := by
    rw [← eH2]
    simp [upd]
  have same : Same H1 H2 := fun b o e => by
    have ne : b ≠ s1.heap.objs.size := fun eb => by
      rw [eb, fresh] at e
      nomatch e
    rw [← eH2, upd_ne ne]
    exact e
  rw [eH2] at I2
  refine thn (hi.run _ _ _ _ _ I2 (q _ same)) fun v s3 ⟨w, H3, I3, r3, q3⟩ => ?_
  obtain ⟨k, e3, k0', k3, eH, q3⟩ := q3
  subst e3 eH
  obtain ⟨tk, e4⟩ := r3
  subst e4
  have isl : s3.heap.IsList s1.heap.objs.size #[.str z1 (s1.toks + 1), .str z2 (s1.toks + 1 + 1), .str z3 (s1.toks + 1 + 1 + 1)] := by
    obtain ⟨h5, _⟩ := I3.hok _ _ here
    exact ⟨_, h5, rfl, 0, rfl⟩
  obtain ⟨z, tz, hz1, hzt, hit⟩ : ∃ z tz, z ∈ [z1, z2, z3] ∧ tz ≠ 0 ∧ (#[.str z1 (s1.toks + 1), .str z2 (s1.toks + 1 + 1), .str z3 (s1.toks + 1 + 1 + 1)] : Array Value)[k.toNat]? = some (.str z tz) := by
    have : k = 0 ∨ k = 1 ∨ k = 2 := by omega
    rcases this with rfl | rfl | rfl
    · exact ⟨z1, s1.toks + 1, by simp, Nat.succ_ne_zero _, rfl⟩
    · exact ⟨z2, s1.toks + 1 + 1, by simp, Nat.succ_ne_zero _, rfl⟩
    · exact ⟨z3, s1.toks + 1 + 1 + 1, by simp, Nat.succ_ne_zero _, rfl⟩
  refine item_listR isl k0' (by omega) hit ?_ (hix _ _)
  refine Calls.spliced_cons (thn (hn.run _ _ _ _ _ I3 q3) fun v s4 ⟨w, H4, I4, r4, q4⟩ => ?_)
  obtain ⟨m, e5, m0, m2, q4⟩ := q4
  subst e5
  obtain ⟨tm, e6⟩ := r4
  subst e6
  refine Calls.spliced_nil ?_
  obtain ⟨zl, zy⟩ := hz z hz1
  have hm : (if m < 0 then x.length + 1 else m.toNat) ≤ 2 := by split <;> omega
  have rl := repl_len x y z _ hm hx zl
  have ol := StrLaws.occ_length_le x y 0 x.length (if m < 0 then x.length + 1 else m.toNat)
  refine PySem.call_gives PySem.F.slot_str_replace (typeIs_str _ _ _) PySem.F.entry_str_replace (PySem.F.args_str_replace_4 _ _ _ _)
    (gives_repl4 x y z m tx _ tz tm (by rw [Bool.or_eq_false_iff]; exact ⟨decide_eq_false (by omega), decide_eq_false (by omega)⟩) (by rw [Bool.or_eq_false_iff]; exact ⟨beq_eq_false_iff_ne.mpr (Nat.ne_of_gt (Nat.lt_of_lt_of_le h0 hk)), beq_eq_false_iff_ne.mpr hzt⟩) zy ?_) ?_
  · have e : (2 : Nat) ^ 24 = 16777216 := by decide
    have : (occurrences x y 0 x.length (if m < 0 then x.length + 1 else m.toNat)).length * z.length ≤ 2 * 10 := Nat.mul_le_mul (Nat.le_trans ol hm) zl
    unfold tooLong sizeLine
    exact decide_eq_false (by omega)
  · generalize (if m < 0 then x.length + 1 else m.toNat) = mm at rl ⊢
    split
    · exact ⟨.str x, H4, I4.tok _, ⟨tx, rfl⟩, q4 x (by omega)⟩
    · split
      · exact ⟨.str x, H4, I4.tok _, ⟨tx, rfl⟩, q4 x (by omega)⟩
      · exact ⟨by unfold sizeLine; omega, ⟨.str _, H4, I4.tok _, ⟨_, rfl⟩, q4 _ rl⟩⟩
end
end BP

namespace BP
open PySem L2
abbrev sRead : Stmt := top 25
abbrev sReadNumber : Stmt := top 26
abbrev nRead : List Str := ["line", "parts", "word", "part"]
abbrev nReadNumber : List Str := ["part"]
/-- what the top has made for the notes -/
structure TxtN (K : PySem.W.Frag) (w : World) (mg : Str → Option Value) (eD dW : Addr) : Prop where
  eD : Err K mg "NoDeed" eD
  len : mg "len" = none
  all : mg "all" = none
  int : mg "int" = none
  tuple : mg "tuple" = none
  str : mg "str" = none
  figs : ∃ t, mg "FIGURES" = some (.str "0123456789" t)
  most : ∃ t, mg "MOST_FIGURES" = some (.int 60 t)
  gW : mg "WORDS" = some (.ref dW)
  kd : ∃ es n, KDict K w dW es n
  look : ∀ z : Str, ∃ r, PySem.W.nsIn K dW z = some r ∧ RelV ((manyOf z).elim V.non fun n => V.int n) (r.getD .none)
def spReadNumber (Pt eD : Addr) : Sp := fun vs H Q E => ∃ p : Str, vs = [.str p] ∧ p.length ≤ 1000000 ∧ GxR.TabG H Pt ∧ ∀ H', GxR.Tabbed Pt H H' → (okN p.cps.toList = true → Q (.int (NumText.digitsVal p.cps.toList : Nat)) H') ∧ (okN p.cps.toList = false → E (.ref eD) none H')
def spRead (Pt eD : Addr) : Sp := fun vs H Q E => ∃ z : Str, vs = [.str z] ∧ z.length ≤ 1000000 ∧ GxR.TabG H Pt ∧ ∀ H', Past Pt H H' →
  (∀ u ns, readP (Txt.split z " ") = some (u, ns) → ∀ t, H t = none → H' t = some (.tup (.str u :: ns.map fun n => V.int (n : Nat))) → Q (.ref t) H') ∧ (readP (Txt.split z " ") = none → E (.ref eD) none H')
section
variable {P : Program} {w : World} {K : PySem.W.Frag} {mg : Str → Option Value} {base : Heap} {eD dW : Addr}
theorem scReadNumber : FnScope nReadNumber ["part"] (defScope sReadNumber) := ⟨rfl, rfl, rfl, by decide +kernel, rfl, by decide +kernel, by decide +kernel⟩
theorem figs_digits : ∀ c : Nat, c ∈ ("0123456789" : Str).cps.toList ↔ (48 ≤ c ∧ c ≤ 57) := by
  intro c
  have e : ("0123456789" : Str).cps.toList = [48, 49, 50, 51, 52, 53, 54, 55, 56, 57] := by decide +kernel
  rw [e]
  simp only [List.mem_cons, List.not_mem_nil, or_false]
  omega
theorem str_len (p : Str) : p.length = p.cps.toList.length := by rw [Array.length_toList]; rfl
theorem str_ext {a b : Str} (h : a.cps.toList = b.cps.toList) : a = b := Str.ext' (Array.toList_inj.mp h)
theorem gen_free {env : Env} : ∀ {y : Str × NameKind}, y ∈ [((".0" : Str), NameKind.local), (("sign" : Str), NameKind.local), (("FIGURES" : Str), NameKind.globalImplicit)] → y.2 = .free → ∃ c, env.cells.lookup y.1 = some c := by
  intro y hy e
  rcases List.mem_cons.mp hy with rfl | hy
  · cases e
  rcases List.mem_cons.mp hy with rfl | hy
  · cases e
  rcases List.mem_cons.mp hy with rfl | hy
  · cases e
  · cases hy
theorem ok_readnumber {f c Pt : Addr} {fd : FuncData} (F : Fun K "read_number" "read_number" sReadNumber f fd) (hc : fd.code = .ref c) (TN : TxtN K w mg eD dW) (TB : GxR.TabB base mg c Pt) : FnOk P w K mg base (L2.CX P w) 1 f fd ["part"] (spReadNumber Pt eD) := by
  refine okXC F scReadNumber hc (fun vs H Q E h => ?_) (fun A outer s H vs Q E hr h => ?_)
  · obtain ⟨p, rfl, _⟩ := h
    rfl
  · obtain ⟨p, rfl, hp, hT, k⟩ := h
    obtain ⟨t60, h60⟩ := TN.most
    obtain ⟨tF, hF⟩ := TN.figs
    refine ⟨_, pss_cons (ps_if (PW.pt (pw_or (pt_not (pt_chain op_le op_le pe_int (pe_callB call_len_str (by rfl) TN.len PySem.boot_len (pa_cons (pv 0) pa_nil)) (pe_glob (v := .int 60) rfl h60 ⟨_, rfl⟩)))
        (pw_or1 (pt_not (pt_val (pe_allG hr (by rfl) TN.all (by decide +kernel) TB rfl ⟨rfl, rfl, by decide +kernel, by decide +kernel, by decide +kernel, fun y hy e => gen_free hy e⟩ (pv 0) (elt_in (by rfl) (by decide +kernel) (by decide +kernel) hF) (fun _ => rfl)))))))
        (pss_one (ps_raise rfl (takes_of rfl rfl rfl rfl) (pmk_own PySem.F.excBase_ValueError TN.eD.x TN.eD.g TN.eD.k (raises_own TN.eD.b TN.eD.t) rfl))) pss_nil)
      (pss_cons (ps_if (PW.pt (pw_and (pt_cmpR op_eq (pe_ix ix_str (pv 0) pe_int (fun _ _ => rfl)) pe_str (nomark _)) (pw_and1 (pt_cmpR op_ne (pv 0) pe_str (nomark _)))))
        (pss_one (ps_raise rfl (takes_of rfl rfl rfl rfl) (pmk_own PySem.F.excBase_ValueError TN.eD.x TN.eD.g TN.eD.k (raises_own TN.eD.b TN.eD.t) rfl))) pss_nil)
      (pss_one (ps_ret (pe_callTy call_int_str (by rfl) TN.int (by decide +kernel) (pa_cons (pv 0) pa_nil))))), ?_⟩
    have e32 := str_len p
    refine ⟨_, rfl, _, rfl, (by rw [sizeLine_eq]; omega), _, _, rfl, rfl, _, rfl, ?_⟩
    by_cases h1 : (1 : Int) ≤ (p.length : Int)
    case neg =>
      rw [decide_eq_false h1]
      refine iteF ⟨_, rfl, ?_⟩
      refine iteT (iteT ?_)
      refine (k H (tabbed_refl hT)).2 ?_
      unfold okN
      rw [decide_eq_false (by rw [← e32]; omega)]
      rfl
    rw [decide_eq_true h1]
    refine iteT ⟨_, _, rfl, rfl, _, rfl, ?_⟩
    by_cases h2 : (p.length : Int) ≤ 60
    case neg =>
      rw [decide_eq_false h2]
      refine iteT (iteT ?_)
      refine (k H (tabbed_refl hT)).2 ?_
      unfold okN
      rw [decide_eq_false (by rw [← e32]; omega)]
      rfl
    rw [decide_eq_true h2]
    refine iteF ?_
    refine ⟨_, rfl, p, rfl, hT, fun H' T' => ⟨_, rfl, ?_⟩⟩
    obtain ⟨k1, k2⟩ := k H' T'
    have ea : (p.cps.toList.all fun c => decide (c ∈ ("0123456789" : Str).cps.toList)) = p.cps.toList.all fun c => decide (48 ≤ c ∧ c ≤ 57) := by
      exact List.all_congr rfl fun c => decide_eq_decide.mpr (figs_digits c)
    rw [ea]
    have hlen : decide (1 ≤ p.cps.toList.length ∧ p.cps.toList.length ≤ 60) = true := decide_eq_true (by rw [← e32]; omega)
    by_cases h3 : (p.cps.toList.all fun c => decide (48 ≤ c ∧ c ≤ 57)) = true
    case neg =>
      rw [Bool.not_eq_true] at h3
      rw [h3]
      refine iteT ?_
      refine k2 ?_
      unfold okN
      rw [hlen, h3]
      rfl
    rw [h3]
    refine iteF ?_
    obtain ⟨c0, cs, ec⟩ : ∃ c0 cs, p.cps.toList = c0 :: cs := by
      cases e : p.cps.toList with
      | nil => rw [e] at hlen; exact absurd (of_decide_eq_true hlen).1 (by decide)
      | cons c cs => exact ⟨c, cs, rfl⟩
    have dig : NumText.AllDigits p.cps.toList := fun c hc => of_decide_eq_true (List.all_eq_true.mp h3 c hc)
    have fin : okN p.cps.toList = true → Q (.int (NumText.digitsVal p.cps.toList : Nat)) H' := k1
    have it : intText? p = some ((NumText.digitsVal p.cps.toList : Nat) : Int) := intText_digits dig (by rw [ec]; simp) (by omega)
    refine ⟨_, rfl, p, 0, c0, rfl, rfl, (by rw [sizeLine_eq]; omega), atI_nat (xs := p.cps.toList) (j := 0) (show p.cps.toList[0]? = some c0 by rw [ec]; rfl), rfl, _, rfl, ?_⟩
    by_cases h4 : c0 = 48
    case neg =>
      refine if_neg_of (decide_eq_false (fun z => h4 ?_)) ?_
      · injection z with z
        have := congrArg (fun x : Str => x.cps.toList) z
        have e48 : ("0" : Str).cps.toList = [48] := by decide +kernel
        rw [e48] at this
        injection this
      refine iteF ?_
      refine ⟨_, rfl, p, _, rfl, it, by omega, fin ?_⟩
      unfold okN
      rw [hlen, h3, ec]
      simp [h4]
    subst h4
    refine if_pos_of (decide_eq_true (congrArg V.str (by decide +kernel))) ?_
    refine ⟨_, rfl, rfl, _, rfl, ?_⟩
    have e48 : ("0" : Str).cps.toList = [48] := by decide +kernel
    by_cases h5 : p.cps.toList = [48]
    · have ep : p = "0" := str_ext (h5.trans e48.symm)
      refine if_neg_of (by rw [decide_eq_true (congrArg V.str ep)]; rfl) ?_
      refine ⟨_, rfl, p, _, rfl, it, by omega, fin ?_⟩
      rw [h5]
      decide
    · have ne0 : V.str p ≠ V.str "0" := fun z => h5 (by injection z with z; rw [z, e48])
      refine if_pos_of (by rw [decide_eq_false ne0]; rfl) ?_
      refine k2 ?_
      unfold okN
      rw [hlen, h3, ec]
      rw [ec] at h5
      simp [h5]
theorem takeS {α : Type} {l : List α} {i : Nat} {x : α} (h : l[i]? = some x) : l.take (i + 1) = l.take i ++ [x] := by
  rw [List.take_add_one, h]
  rfl
theorem scRead : FnScope nRead ["line"] (defScope sRead) := ⟨rfl, rfl, rfl, by decide +kernel, rfl, by decide +kernel, by decide +kernel⟩
theorem len_glue : ∀ ps : List (List Nat), ps.length ≤ (glue ps).length + 1 ∧ ∀ p ∈ ps, p.length ≤ (glue ps).length
  | [] => ⟨by decide, fun p h => by cases h⟩
  | [p] => ⟨by show 1 ≤ _; omega, fun q h => by rw [List.mem_singleton.mp h]; exact Nat.le_refl _⟩
  | p :: q :: ps => by
    obtain ⟨h1, h2⟩ := len_glue (q :: ps)
    have e : (glue (p :: q :: ps)).length = p.length + ((glue (q :: ps)).length + 1) := by
      show (p ++ 32 :: glue (q :: ps)).length = _
      rw [List.length_append, List.length_cons]
    refine ⟨by rw [e, List.length_cons]; omega, fun r hr => ?_⟩
    rw [e]
    rcases List.mem_cons.mp hr with rfl | hr
    · omega
    · have := h2 r hr
      omega
theorem glue_split (z : Str) : glue ((Txt.split z " ").map fun y => y.cps.toList) = z.cps.toList := by
  have h1 := StrLaws.join_split z ⟨#[32]⟩
  have h2 := join_glue (Txt.split z ⟨#[32]⟩)
  rw [h1] at h2
  rw [sp1]
  exact h2.symm
theorem split_small (z : Str) : (Txt.split z " ").length ≤ z.length + 1 ∧ ∀ p ∈ Txt.split z " ", p.length ≤ z.length := by
  obtain ⟨h1, h2⟩ := len_glue ((Txt.split z " ").map fun y => y.cps.toList)
  rw [glue_split, List.length_map, ← str_len] at h1
  refine ⟨h1, fun p hp => ?_⟩
  have := h2 _ (List.mem_map.mpr ⟨p, hp, rfl⟩)
  rw [glue_split, ← str_len] at this
  rw [str_len p]
  exact this
theorem ok_read {f fN Pt : Addr} {fd dN : FuncData} (F : Fun K "read" "read" sRead f fd) (TN : TxtN K w mg eD dW) (GN : FnOk P w K mg base (L2.CX P w) 1 fN dN ["part"] (spReadNumber Pt eD)) (FN : Fun K "read_number" "read_number" sReadNumber fN dN)
    (bN : Binds K dN ["part"] []) (gN : mg "read_number" = some (.ref fN)) : FnOk P w K mg base (L2.CX P w) 2 f fd ["line"] (spRead Pt eD) := by
  refine F.okX scRead (fun vs H Q E h => ?_) (fun cdv A outer s H vs Q E hr h => ?_)
  · obtain ⟨z, rfl, _⟩ := h
    rfl
  · obtain ⟨z, rfl, hz, hT, k⟩ := h
    have nd := scRead.nd
    obtain ⟨es, n0, D⟩ := TN.kd
    refine ⟨_, pss_cons (ps_set (i := 1) nd rfl (Or.inl rfl) (pe_split (pv 0) pe_str))
      (pss_cons (ps_set (i := 2) nd rfl (Or.inl rfl) (pe_ix ix_list (pv 1) pe_int (fun _ _ => rfl)))
      (pss_cons (ps_if (pt_cmpR op_ne (pe_kget D (pe_glob (v := .ref dW) rfl TN.gW rfl) (pv 2) ⟨rfl, rfl, rfl, rfl⟩) (pe_op op_sub (pe_callB call_len_seq (by rfl) TN.len PySem.boot_len (pa_cons (pv 1) pa_nil)) pe_int) (nomark _))
        (pss_one (ps_raise rfl (takes_of rfl rfl rfl rfl) (pmk_own PySem.F.excBase_ValueError TN.eD.x TN.eD.g TN.eD.k (raises_own TN.eD.b TN.eD.t) rfl))) pss_nil)
      (pss_one (ps_ret (pe_callTy call_tuple_of (by rfl) TN.tuple (by decide +kernel) (pa_cons (pe_op op_cat (pe_lst (pa_cons (pv 2) pa_nil))
        (pe_lcX (E := E) (own := [("part", 3)]) (g := gName 3) (tt := tYes) (te := tCall (spReadNumber Pt eD) [] E (tCons (tVar 3) tNil)) rfl rfl (takes_of rfl rfl rfl rfl) (by rfl) nd (pi_list (pe_slice sl_list (pv 1) (po_some pe_int) po_none))
          (blkOk_by (N := nRead) (sc := defScope sRead) (by decide +kernel)) (fun _ _ _ _ _ => pg_name (i := 3) nd rfl (Or.inl rfl)) (fun _ _ _ _ _ => pts_nil)
          (fun _ _ _ _ _ pn xe px => pe_call GN hr (by rfl) gN FN.kp bN .nil px (pa_cons (pv 3) pa_nil)))) pa_nil)))))), ?_⟩
    obtain ⟨sm1, sm2⟩ := split_small z
    refine ⟨_, rfl, ⟨_, rfl⟩, z, _, rfl, rfl, (by decide +kernel), (by rw [sizeLine_eq]; omega), fun a ha => ?_⟩
    have P1 := (Past.refl hT).new ha (.lst ((Txt.split z " ").map V.str))
    have ka : upd H a (.lst ((Txt.split z " ").map V.str)) a = some (.lst ((Txt.split z " ").map V.str)) := upd_same
    have hsp := PyProof.Rows.split_pos z " "
    generalize upd H a (.lst ((Txt.split z " ").map V.str)) = H1 at P1 ka ⊢
    have k' : ∀ H', Past Pt H H' → (∀ u ns, readP (Txt.split z " ") = some (u, ns) → ∀ t, H t = none → H' t = some (.tup (.str u :: ns.map fun n => V.int (n : Nat))) → Q (.ref t) H') ∧ (readP (Txt.split z " ") = none → E (.ref eD) none H') := k
    generalize Txt.split z " " = ps at ka sm1 sm2 hsp k'
    obtain ⟨u, us, rfl⟩ : ∃ u us, ps = u :: us := by
      cases ps with
      | nil => exact absurd hsp (by decide)
      | cons u us => exact ⟨u, us, rfl⟩
    rw [List.length_cons] at sm1
    refine ⟨_, rfl, a, _, _, _, rfl, rfl, SqL.of ka, at_of (j := 0) rfl rfl, ?_⟩
    obtain ⟨r, hr1, hr2⟩ := TN.look u
    refine ⟨rfl, _, rfl, u, r, _, rfl, hr1, hr2, ?_⟩
    refine ⟨_, rfl, a, _, rfl, .inl (SqL.of ka), _, _, rfl, rfl, (by cases manyOf u <;> rfl), _, rfl, ?_⟩
    have eqv : ((manyOf u).elim V.non fun n => V.int (n : Nat)) = V.int ((((u :: us).map V.str).length : Int) - 1) ↔ manyOf u = some us.length := by
      rw [List.length_map, List.length_cons]
      constructor
      · intro zz
        cases em : manyOf u with
        | none => rw [em] at zz; cases zz
        | some n =>
          rw [em] at zz
          injection zz with zz
          congr 1
          omega
      · intro em
        rw [em]
        show V.int _ = V.int _
        congr 1
        omega
    by_cases hm : manyOf u = some us.length
    case neg =>
      refine if_pos_of (by rw [decide_eq_false fun zz => hm (eqv.mp zz)]; rfl) ?_
      exact (k' H1 P1).2 (if_neg fun zz => hm zz.1)
    refine if_neg_of (by rw [decide_eq_true (eqv.mpr hm)]; rfl) ?_
    refine ⟨_, rfl, (by show 1 ≤ sizeLine; decide), fun l hl => ?_⟩
    have P2 := P1.new hl (.lst [V.str u])
    have nla : a ≠ l := ne_of_none ka hl
    have ka2 : upd H1 l (.lst [V.str u]) a = some (.lst ((u :: us).map V.str)) := by rw [upd_ne nla]; exact ka
    have kl2 : upd H1 l (.lst [V.str u]) l = some (.lst [V.str u]) := upd_same
    have nl : H l = none := P1.gone hT hl
    generalize upd H1 l (.lst [V.str u]) = H2 at P2 ka2 kl2 ⊢
    refine ⟨_, rfl, _, rfl, a, _, rfl, SqL.of ka2, fun c hc => ?_⟩
    rw [show cutV ((u :: us).map V.str) (some 1) none = us.map V.str from by
      unfold cutV
      rw [HT.sIx_none, show HT.sIx ((u :: us).map V.str).length 0 (some 1) = 1 from by
        rw [show (some (1 : Int)) = some ((1 : Nat) : Int) from rfl, HT.sIx_nat, List.length_map, List.length_cons]
        omega]
      rw [List.map_cons, List.drop_succ_cons, List.drop_zero, List.take_of_length_le (by rw [List.length_cons]; omega)]]
    have P3 := P2.new hc (.lst (us.map V.str))
    have kc3 : upd H2 c (.lst (us.map V.str)) c = some (.lst (us.map V.str)) := upd_same
    have kl3 : upd H2 c (.lst (us.map V.str)) l = some (.lst [V.str u]) := by rw [upd_ne (ne_of_none kl2 hc)]; exact kl2
    have nc : H c = none := P2.gone hT hc
    generalize upd H2 c (.lst (us.map V.str)) = H3 at P3 kc3 kl3 ⊢
    have ncl : c ≠ Pt := tab_ne hT nc
    have nll : l ≠ Pt := tab_ne hT nl
    refine ⟨c, rfl, ⟨_, SqL.of kc3⟩, fun D hD => ?_⟩
    have nD : H D = none := P3.gone hT hD
    have nDP : D ≠ Pt := tab_ne hT nD
    have nDc : c ≠ D := ne_of_none kc3 hD
    have nDl : l ≠ D := ne_of_none kl3 hD
    refine lc_it walk_list (fun j H' => Past Pt H H' ∧ H' c = some (.lst (us.map V.str)) ∧ H' l = some (.lst [V.str u]) ∧ H' D = some (.lst ((us.take j).map fun p => V.int (NumText.digitsVal p.cps.toList : Nat))) ∧ ∀ p ∈ us.take j, okN p.cps.toList = true)
      ⟨P3.new hD _, by rw [upd_ne nDc]; exact kc3, by rw [upd_ne nDl]; exact kl3, upd_same, fun p hp => by cases hp⟩ (fun j H' _ ⟨_, h, _⟩ => SqL.of h) ?_ ?_
    · rintro j y H4 H5 hj ⟨P4, kc4, kl4, kD4, al4⟩ ⟨rfl, hy⟩
      obtain ⟨p, hp, rfl⟩ : ∃ p, us[j]? = some p ∧ y = V.str p := by
        rw [List.getElem?_map] at hy
        cases e : us[j]? with
        | none => rw [e] at hy; cases hy
        | some p => rw [e] at hy; exact ⟨p, rfl, (Option.some.inj hy).symm⟩
      have hpm := List.mem_of_getElem? hp
      have hju : j < us.length := (List.getElem?_eq_some_iff.mp hp).1
      refine ⟨rfl, _, rfl, p, rfl, (by have := sm2 p (List.mem_cons_of_mem _ hpm); omega), P4.1, fun H6 T6 => ⟨fun okp => ?_, fun nok => ?_⟩⟩
      · have P6 := P4.tab T6
        refine ⟨_, (T6.2 D nDP).trans kD4, (by rw [List.length_map, List.length_take, sizeLine_eq]; omega), P6.set hT nD _, by rw [upd_ne nDc]; exact (T6.2 c ncl).trans kc4, by rw [upd_ne nDl]; exact (T6.2 l nll).trans kl4, ?_, ?_⟩
        · rw [upd_same, takeS hp, List.map_append]
          rfl
        · rw [takeS hp]
          intro q hq
          rcases List.mem_append.mp hq with hq | hq
          · exact al4 q hq
          · rw [List.mem_singleton.mp hq]; exact okp
      · refine (k' H6 (P4.tab T6)).2 (if_neg fun zz => ?_)
        have := zz.2 p hpm
        rw [nok] at this
        cases this
    rintro H4 ⟨P4, kc4, kl4, kD4, al4⟩
    rw [List.length_map, List.take_length] at kD4 al4
    have hread : readP (u :: us) = some (u, us.map fun p => NumText.digitsVal p.cps.toList) := if_pos ⟨hm, al4⟩
    refine ⟨l, D, _, _, rfl, rfl, kl4, kD4, (by rw [List.length_map, sizeLine_eq]; show 1 + us.length ≤ _; omega), fun q hq => ?_⟩
    have P5 := P4.new hq (.lst ([V.str u] ++ us.map fun p => V.int (NumText.digitsVal p.cps.toList : Nat)))
    refine ⟨q, _, rfl, .inl ⟨SqL.of upd_same, fun t ht => ?_⟩⟩
    refine (k' _ (P5.new ht _)).1 u _ hread t (P5.gone hT ht) ?_
    rw [upd_same, List.map_map]
    rfl
end
abbrev sAnswer : Stmt := top 29
abbrev nAnswer : List Str := ["pile", "line", "freed", "number"]
abbrev sPlayed : Stmt := top 28
abbrev nPlayed : List Str := ["lines", "pile", "line"]
theorem scAnswer : FnScope nAnswer ["pile", "line"] (defScope sAnswer) := ⟨rfl, rfl, rfl, by decide +kernel, rfl, by decide +kernel, by decide +kernel⟩
theorem scPlayed : FnScope nPlayed ["lines"] (defScope sPlayed) := ⟨rfl, rfl, rfl, by decide +kernel, rfl, by decide +kernel, by decide +kernel⟩
section
variable {P : Program} {w : World} {K : PySem.W.Frag} {mg : Str → Option Value} {base : Heap} {C B eH eS eF eB eL eD dW : Addr}
def cls6 (eH eS eF eB eL eD : Addr) : Option Bad → Addr
  | none => eD
  | some b => clsOf eH eS eF eB eL b
structure TxtX (K : PySem.W.Frag) (eH eS eF eB eL eD : Addr) : Prop where
  x : ∀ a b : Option Bad, PySem.W.exmOne K (.ref (cls6 eH eS eF eB eL eD a)) (.ref (cls6 eH eS eF eB eL eD b)) = some (decide (a = b))
def spAnswer (C B Pt : Addr) : Sp := fun vs H Q _ => ∃ (p : Addr) (g : Geo) (P : Pl) (R : Hp) (z : Str), vs = [.ref p, .str z] ∧ PileAt C B p g P R H ∧ Good P ∧ z.length ≤ 100000 ∧ P.made ≤ 1000000000 ∧ GxR.TabG R Pt ∧
  ∀ (g' : Geo) (R' H' : Hp), Past Pt R R' → PileAt C B p g' (ans P z).1 R' H' → Good (ans P z).1 → (ans P z).1.made ≤ P.made + 1 → (ans P z).2.length ≤ 1000 → Q (.str (ans P z).2) H'
theorem badW_len : ∀ b : Bad, (badW b).length ≤ 1000 := by intro b; cases b <;> decide +kernel
theorem num_len {n : Int} (h0 : 0 ≤ n) (h : n ≤ 1000000000) : (toString n : Str).length ≤ 10 := by
  obtain ⟨k, rfl⟩ := Int.eq_ofNat_of_zero_le h0
  have := TL.numL_len (n := k) (k := 10) (by decide) (by show k < 10000000000; omega)
  rw [str_len]
  show (TL.tl _).length ≤ 10
  rw [TL.tl_num]
  exact this
theorem num_pos {n : Int} (h0 : 0 ≤ n) : 1 ≤ (toString n : Str).length := by
  obtain ⟨k, rfl⟩ := Int.eq_ofNat_of_zero_le h0
  rw [str_len]
  show 1 ≤ (TL.tl _).length
  rw [TL.tl_num]
  cases e : TL.numL k with
  | nil => exact absurd e (TL.numL_ne k)
  | cons c cs => rw [List.length_cons]; omega
theorem log_nat9 {n : Int} (h0 : 0 ≤ n) (h : n ≤ 1000000000) : n.natAbs.log2 < 1920 := by
  by_cases z : n.natAbs = 0
  · rw [z]; decide
  · exact Nat.lt_of_lt_of_le ((Nat.log2_lt z).mpr (Nat.lt_of_lt_of_le (show n.natAbs < 2 ^ 30 by omega) (Nat.le_refl _))) (by decide)
theorem txt_join (sep : Str) (l : List Str) : Txt.join sep l = Str.join sep l := eq_of_beq (PyProof.Rows.join_plain_closes sep l)
theorem freed_join {f : List Int} (hl : f.length ≤ 61) (hf : ∀ n ∈ f, 0 ≤ n ∧ n ≤ 1000000000) : (Str.join " " (f.map fun n => (toString n : Str))).length ≤ 700 ∧ ((f.map fun n => (toString n : Str)).map (fun x => x.length)).sum + (f.map fun n => (toString n : Str)).length * (" " : Str).length ≤ 16777216 ∧ (((Str.join " " (f.map fun n => (toString n : Str))).length : Int) != 0) = decide (f ≠ []) := by
  have hb : ∀ y ∈ f.map fun n => (toString n : Str), y.length ≤ 10 := fun y hy => by
    obtain ⟨n, hn, e⟩ := List.mem_map.mp hy
    rw [← e]
    exact num_len (hf n hn).1 (hf n hn).2
  have e1 : (" " : Str).length = 1 := by decide +kernel
  refine ⟨?_, ?_, ?_⟩
  · have h := join_len " " 10 _ hb
    rw [e1, List.length_map] at h
    have : f.length * (10 + 1) ≤ 61 * 11 := Nat.mul_le_mul_right _ hl
    omega
  · have h1 := StrLaws.sumLen_le (B := 10) _ hb
    rw [e1]
    rw [List.length_map] at h1 ⊢
    omega
  · cases f with
    | nil => rfl
    | cons n f =>
      rw [decide_eq_true (by intro q; cases q)]
      have h1 := num_pos (hf n List.mem_cons_self).1
      have h2 : 1 ≤ (Str.join " " ((n :: f).map fun n => (toString n : Str))).length := by
        cases f with
        | nil => exact h1
        | cons m f =>
          show 1 ≤ ((toString n : Str) ++ " " ++ Str.join " " ((toString m : Str) :: f.map fun n => (toString n : Str))).length
          rw [Str.length_append, Str.length_append]
          omega
      have : ((Str.join " " ((n :: f).map fun n => (toString n : Str))).length : Int) ≠ 0 := by omega
      simpa using this
theorem ok_answer {f fDO fRD Pt : Addr} {fd dDO dRD : FuncData} (F : Fun K "answer" "answer" sAnswer f fd) (T : Txt K mg C B eH eS eF eB eL) (TN : TxtN K w mg eD dW) (TX : TxtX K eH eS eF eB eL eD)
    (GDO : FnOk P w K mg base (L2N.CX P w) 7 fDO dDO ["pile", "deed"] (spDone K C B eH eS eF eB eL)) (FDO : Fun K "done" "done" sDoneP fDO dDO) (bDO : Binds K dDO ["pile", "deed"] []) (gDO : mg "done" = some (.ref fDO))
    (GRD : FnOk P w K mg base (L2.CX P w) 2 fRD dRD ["line"] (spRead Pt eD)) (FRD : Fun K "read" "read" sRead fRD dRD) (bRD : Binds K dRD ["line"] []) (gRD : mg "read" = some (.ref fRD)) :
    FnOk P w K mg base CX0 8 f fd ["pile", "line"] (spAnswer C B Pt) := by
  refine F.ok scAnswer (fun vs H Q E h => ?_) (fun cdv A outer s H vs Q E hr h => ?_)
  · obtain ⟨p, g, P, R, z, rfl, _⟩ := h
    rfl
  · obtain ⟨p, g, P0, R, z, rfl, A0, G0, hz, hmade, T0, k⟩ := h
    have nd := scAnswer.nd
    have hr7 : Room 7 _ := hr
    have hr2 : Room 2 _ := hr.mono (by decide)
    refine ⟨_, pss_cons (ps_try_mix (tb := fun W => tAsg (tCall (spDone K C B eH eS eF eB eL) [] (EWx W) (tCons (tVar 0) (tCons (tCall (spRead Pt eD) [] (EWx W) (tCons (tVar 1) tNil)) tNil))) (gName 2)) (Wout := fun _ _ _ _ => False) rfl rfl takes0
      (fun W pn xe tk _ => pss_one (ps_set (i := 2) nd rfl (Or.inl rfl) (pe_call (E := EWx W) GDO hr7 (by rfl) gDO FDO.kp bDO .nil (passes_callM tk (fun cls d σ H h => h σ)) (pa_cons (pv 0) (pa_cons (pe_call (E := EWx W) GRD hr2 (by rfl) gRD FRD.kp bRD .nil (passes_call tk (fun cls d σ H h => h σ)) (pa_cons (pv 1) pa_nil)) pa_nil)))))
      (.bare (ts := fun _ _ _ => tRet (tC (.str "no hand"))) ⟨rfl, by decide, .inl T.eH.g⟩ (fun a oe cls d pn _ _ => pss_one (ps_ret pe_str))
        (.bare (ts := fun _ _ _ => tRet (tC (.str "no size"))) ⟨rfl, by decide, .inl T.eS.g⟩ (fun a oe cls d pn _ _ => pss_one (ps_ret pe_str))
        (.bare (ts := fun _ _ _ => tRet (tC (.str "full"))) ⟨rfl, by decide, .inl T.eF.g⟩ (fun a oe cls d pn _ _ => pss_one (ps_ret pe_str))
        (.bare (ts := fun _ _ _ => tRet (tC (.str "no box"))) ⟨rfl, by decide, .inl T.eB.g⟩ (fun a oe cls d pn _ _ => pss_one (ps_ret pe_str))
        (.bare (ts := fun _ _ _ => tRet (tC (.str "no slot"))) ⟨rfl, by decide, .inl T.eL.g⟩ (fun a oe cls d pn _ _ => pss_one (ps_ret pe_str))
        (.bare (ts := fun _ _ _ => tRet (tC (.str "no deed"))) ⟨rfl, by decide, .inl TN.eD.g⟩ (fun a oe cls d pn _ _ => pss_one (ps_ret pe_str))
        .nil)))))))
      (pss_one (ps_ret (pe_op op_add_str pe_str (pe_orT (pe_join pe_str (pe_lc (own := [("number", 3)]) (g := gName 3) (tt := tYes) (te := tCB rStrE (tCons (tVar 3) tNil)) (by rfl) nd (pi_list (pv 2)) (blkOk_by (N := nAnswer) (sc := defScope sAnswer) (by decide +kernel)) (fun _ _ _ _ _ => pg_name (i := 3) nd rfl (Or.inl rfl)) (fun _ _ _ _ _ => pts_nil) (fun _ _ _ _ _ => pe_callTy call_strE (by rfl) TN.str (by decide +kernel) (pa_cons (pv 3) pa_nil)))) (pe_one pe_str))))), ?_⟩
    have T0' : GxR.TabG H Pt := TabG.of_same T0 A0.same
    refine ⟨_, rfl, _, rfl, z, rfl, by omega, T0', fun H1 P1 => ⟨fun u ns e t hn ht => ?_, fun e σ => ?_⟩⟩
    case refine_2.refine_2 =>
      obtain ⟨A1, PR⟩ := A0.past T0 P1
      have ea : ans P0 z = (P0, ("no deed" : Str)) := by unfold ans; rw [e]
      have kd := k g _ H1 PR (by rw [ea]; exact A1) (by rw [ea]; exact G0) (by rw [ea]; show P0.made ≤ _; omega) (by rw [ea]; show ("no deed" : Str).length ≤ _; decide +kernel)
      rw [ea] at kd
      exact ⟨false, TX.x (none) (some .hand), (fun q => nomatch q), fun _ => ⟨false, TX.x (none) (some .size), (fun q => nomatch q), fun _ => ⟨false, TX.x (none) (some .full), (fun q => nomatch q), fun _ => ⟨false, TX.x (none) (some .box), (fun q => nomatch q), fun _ => ⟨false, TX.x (none) (some .slot), (fun q => nomatch q), fun _ => ⟨true, TX.x (none) (none), fun _ a ha => kd, fun q => nomatch q⟩⟩⟩⟩⟩⟩
    obtain ⟨A1, PR⟩ := A0.past T0 P1
    obtain ⟨d, hd, hv⟩ := deedOf_vs e
    refine ⟨p, t, g, P0, _, d, rfl, A1, G0, SqT.of (by rw [ht, hv]), fun b eb σ => ?_, fun P' fr ef r g' H2 hr2' A2 => ?_⟩
    · have ea : ans P0 z = (P0, badW b) := by unfold ans; rw [e]; dsimp only; rw [hd]; dsimp only; rw [eb]
      have kbad := k g _ H1 PR (by rw [ea]; exact A1) (by rw [ea]; exact G0) (by rw [ea]; show P0.made ≤ _; omega) (by rw [ea]; exact badW_len b)
      rw [ea] at kbad
      cases b with
        | hand =>
          exact ⟨true, TX.x (some .hand) (some .hand), fun _ a ha => kbad, fun q => nomatch q⟩
        | size =>
          exact ⟨false, TX.x (some .size) (some .hand), (fun q => nomatch q), fun _ => ⟨true, TX.x (some .size) (some .size), fun _ a ha => kbad, fun q => nomatch q⟩⟩
        | full =>
          exact ⟨false, TX.x (some .full) (some .hand), (fun q => nomatch q), fun _ => ⟨false, TX.x (some .full) (some .size), (fun q => nomatch q), fun _ => ⟨true, TX.x (some .full) (some .full), fun _ a ha => kbad, fun q => nomatch q⟩⟩⟩
        | box =>
          exact ⟨false, TX.x (some .box) (some .hand), (fun q => nomatch q), fun _ => ⟨false, TX.x (some .box) (some .size), (fun q => nomatch q), fun _ => ⟨false, TX.x (some .box) (some .full), (fun q => nomatch q), fun _ => ⟨true, TX.x (some .box) (some .box), fun _ a ha => kbad, fun q => nomatch q⟩⟩⟩⟩
        | slot =>
          exact ⟨false, TX.x (some .slot) (some .hand), (fun q => nomatch q), fun _ => ⟨false, TX.x (some .slot) (some .size), (fun q => nomatch q), fun _ => ⟨false, TX.x (some .slot) (some .full), (fun q => nomatch q), fun _ => ⟨false, TX.x (some .slot) (some .box), (fun q => nomatch q), fun _ => ⟨true, TX.x (some .slot) (some .slot), fun _ a ha => kbad, fun q => nomatch q⟩⟩⟩⟩⟩
    · have ea : ans P0 z = (P', freesW fr) := by unfold ans; rw [e]; dsimp only; rw [hd]; dsimp only; rw [ef]
      obtain ⟨f1, f2, f3, f4⟩ := act_freed G0 ef
      have ff : ∀ n ∈ fr, 0 ≤ n ∧ n ≤ 1000000000 := fun n hn => by have := f2 n hn; omega
      obtain ⟨j1, j2, j3⟩ := freed_join f1 ff
      have kr : H2 r = some (.lst (fr.map V.int)) := A2.same _ _ upd_same
      refine ⟨⟨_, rfl⟩, _, rfl, r, rfl, ⟨_, SqL.of kr⟩, fun D hD => ?_⟩
      refine lc_it walk_list (fun j H' => Same H2 H' ∧ H' D = some (.lst (((fr.map fun n => (toString n : Str)).take j).map V.str))) ⟨samePut (fun _ _ e => e) hD _, upd_same⟩ (fun j H' _ ⟨S, _⟩ => SqL.of (S _ _ kr)) ?_ ?_
      · rintro j y H4 H5 hj ⟨S4, kd4⟩ ⟨rfl, hy⟩
        rw [List.getElem?_map] at hy
        cases en : fr[j]? with
        | none => rw [en] at hy; cases hy
        | some n =>
          rw [en] at hy
          have hy : y = V.int n := (Option.some.inj hy).symm
          subst hy
          have hn := ff n (List.mem_of_getElem? en)
          refine ⟨rfl, _, rfl, .inl ⟨n, rfl, log_nat9 hn.1 hn.2, ?_⟩⟩
          refine ⟨_, kd4, (by rw [List.length_map, List.length_take, List.length_map, sizeLine_eq]; omega), sameOff S4 hD _, ?_⟩
          rw [upd_same, takeS (i := j) (x := (toString n : Str)) (by rw [List.getElem?_map, en]; rfl), List.map_append]
          rfl
      rintro H4 ⟨S4, kD⟩
      rw [show (fr.map V.int).length = (fr.map fun n => (toString n : Str)).length from by rw [List.length_map, List.length_map], List.take_length] at kD
      refine ⟨_, D, _, rfl, rfl, .inl (SqL.of kD), j2, ?_⟩
      rw [txt_join]
      have A4 := A2.grow S4
      have PR2 : Past Pt R _ := PR.trans (Past.same PR.1 (same_upd (o := .lst (fr.map V.int)) hr2'))
      have e6 : ("frees " : Str).length = 6 := by decide +kernel
      have e4 : ("none" : Str).length = 4 := by decide +kernel
      have fl : (freesW fr).length ≤ 1000 := by
        unfold freesW
        rw [Str.length_append, e6]
        split
        · rw [e4]; omega
        · omega
      have kd := k g' _ H4 PR2 (by rw [ea]; exact A4) (by rw [ea]; exact G0.act ef) (by rw [ea]; exact f4) (by rw [ea]; exact fl)
      rw [ea] at kd
      refine ⟨_, ⟨by rw [sizeLine_eq]; omega, j3.symm⟩, ?_⟩
      by_cases c : fr = []
      · refine if_neg_of (decide_eq_false (fun q => q c)) ?_
        refine ⟨_, _, rfl, rfl, by rw [e6, e4, sizeLine_eq]; decide, ?_⟩
        unfold freesW at kd
        rw [if_pos c] at kd
        exact kd
      · refine if_pos_of (decide_eq_true c) ?_
        refine ⟨_, _, rfl, rfl, by rw [e6, sizeLine_eq]; omega, ?_⟩
        unfold freesW at kd
        rw [if_neg c] at kd
        exact kd
def spPlayed (K : PySem.W.Frag) (Pt : Addr) : Sp := fun vs H Q _ => ∃ (a : Addr) (zs : List Str), vs = [.ref a] ∧ SqL K H a (zs.map V.str) ∧ zs.length ≤ 100000 ∧ (∀ z ∈ zs, z.length ≤ 100000) ∧ GxR.TabG H Pt ∧
  ∀ (D : Addr) (H' : Hp), Past Pt H H' → H D = none → H' D = some (.lst ((answers pl0 zs).map V.str)) → Q (.ref D) H'
theorem ok_played {f fI fAN Pt : Addr} {fd dI dAN : FuncData} (F : Fun K "played" "played" sPlayed f fd) (T : Txt K mg C B eH eS eF eB eL) (MC : Mk K C fI) (GI : FnOk P w K mg base CX0 1 fI dI ["self"] (spInit C B)) (bI : Binds K dI ["self"] [])
    (GAN : FnOk P w K mg base CX0 8 fAN dAN ["pile", "line"] (spAnswer C B Pt)) (FAN : Fun K "answer" "answer" sAnswer fAN dAN) (bAN : Binds K dAN ["pile", "line"] []) (gAN : mg "answer" = some (.ref fAN)) :
    FnOk P w K mg base CX0 9 f fd ["lines"] (spPlayed K Pt) := by
  refine F.ok scPlayed (fun vs H Q E h => ?_) (fun cdv A outer s H vs Q E hr h => ?_)
  · obtain ⟨a, zs, rfl, _⟩ := h
    rfl
  · obtain ⟨a, zs, rfl, hS, hl, hz, hT, k⟩ := h
    have nd := scPlayed.nd
    have hr8 : Room 8 _ := hr
    have hr2 : Room 2 _ := hr.mono (by decide)
    refine ⟨_, (pss_cons (ps_set (i := 1) nd rfl (Or.inr rfl) (pe_make0 MC GI hr2 (by rfl) T.mgC bI .nil pass0))
      (pss_one (ps_ret (pe_lc (own := [("line", 2)]) (g := gName 2) (tt := tYes) (te := tCall (spAnswer C B Pt) [] E0 (tCons (tVar 1) (tCons (tVar 2) tNil))) (by rfl) nd (pi_list (pv 0)) (blkOk_by (N := nPlayed) (sc := defScope sPlayed) (by decide +kernel)) (fun _ _ _ _ _ => pg_name (i := 2) nd rfl (Or.inl rfl)) (fun _ _ _ _ _ => pts_nil) (fun _ _ _ _ _ => pe_call GAN hr8 (by rfl) gAN FAN.kp bAN .nil pass0 (pa_cons (pv 1) (pa_cons (pv 2) pa_nil))))))), ?_⟩
    intro x dx nx ndx nex
    refine ⟨H, x, dx, rfl, fun b o e => by rw [upd_ne (ne_of_none e nx), upd_ne (ne_of_none e ndx)]; exact e, nx, upd_same, fun g1 H1 A1 => ⟨rfl, ?_⟩⟩
    refine ⟨_, rfl, a, rfl, ⟨_, A1.same.seq hS⟩, fun D hD => ?_⟩
    have nD : H D = none := A1.same.free hD
    have nDP : D ≠ Pt := tab_ne hT nD
    refine lc_it walk_list (fun j H' => ∃ (g : Geo) (R' : Hp), Past Pt H R' ∧ R' D = some (.lst ((answers pl0 (zs.take j)).map V.str)) ∧ PileAt C B x g (plAt pl0 (zs.take j)) R' H' ∧ Good (plAt pl0 (zs.take j)) ∧ (plAt pl0 (zs.take j)).made ≤ (j : Int))
      ⟨g1, _, Past.same hT (samePut (fun _ _ e => e) nD _), upd_same, A1.new hD, good0, (by show (0 : Int) ≤ 0; decide)⟩ (fun j H' _ ⟨g, R', p1, _, A', _⟩ => A'.same.seq (p1.seq hT hS)) ?_ ?_
    · rintro j y H4 H5 hj ⟨g4, R4, p4, kD4, A4, G4, m4⟩ ⟨rfl, hy⟩
      rw [List.getElem?_map] at hy
      cases ez : zs[j]? with
      | none => rw [ez] at hy; cases hy
      | some z =>
        rw [ez] at hy
        have hy : y = V.str z := (Option.some.inj hy).symm
        subst hy
        have hjz : j < zs.length := (List.getElem?_eq_some_iff.mp ez).1
        refine ⟨rfl, _, rfl, _, rfl, x, g4, _, R4, z, rfl, A4, G4, hz z (List.mem_of_getElem? ez), by omega, p4.1, fun g5 R5 H6 q5 A5 G5 m5 _ => ?_⟩
        have kD5 := q5.2 _ _ nDP kD4
        rw [takeS ez]
        refine ⟨_, A5.same _ _ kD5, (by rw [List.length_map, answers_len, List.length_take, sizeLine_eq]; omega), g5, _, (p4.trans q5).set hT nD (.lst ((answers pl0 (zs.take j)).map V.str ++ [V.str (ans (plAt pl0 (zs.take j)) z).2])), ?_, ?_, ?_, ?_⟩
        · rw [upd_same, answers_snoc, List.map_append]
          rfl
        · rw [plAt_snoc]
          exact A5.set kD5
        · rw [plAt_snoc]
          exact G5
        · rw [plAt_snoc]
          omega
    rintro H4 ⟨g4, R4, p4, kD4, A4, G4, m4⟩
    rw [List.length_map, List.take_length] at kD4
    exact k D H4 (p4.trans (Past.same p4.1 A4.same)) nD (A4.same _ _ kD4)
end
end BP

/-! TwoP piles in one heap. Own work. -/
namespace BP
open PySem L2
/-- the address is one of the pile's own -/
def Mine (p : Addr) (g : Geo) (P : Pl) (b : Addr) : Prop := b = p ∨ b = g.lh ∨ b = g.db ∨ ∃ n c, get P.boxes n = some c ∧ (b = g.ba n ∨ b = g.sa n)
noncomputable def lackOf (p : Addr) (g : Geo) (P : Pl) (H : Hp) : Hp := fun b => @ite _ (Mine p g P b) (Classical.propDecidable _) none (H b)
theorem lack_mine {p : Addr} {g : Geo} {P : Pl} {H : Hp} {b : Addr} (h : Mine p g P b) : lackOf p g P H b = none := by unfold lackOf; rw [if_pos h]
theorem lack_not {p : Addr} {g : Geo} {P : Pl} {H : Hp} {b : Addr} (h : ¬ Mine p g P b) : lackOf p g P H b = H b := by unfold lackOf; rw [if_neg h]
section
variable {C B p q : Addr} {g g' : Geo} {P Q : Pl} {R R' Ra H H' : Hp}
theorem PileAt.mine_none (A : PileAt C B p g P R H) {b : Addr} (h : Mine p g P b) : R b = none := by
  rcases h with rfl | rfl | rfl | ⟨n, c, e, rfl | rfl⟩
  · exact A.rp
  · exact A.rh
  · exact A.rd
  · exact A.rb n c e
  · exact A.rs n c e
theorem PileAt.mine_some (A : PileAt C B p g P R H) {b : Addr} (h : Mine p g P b) : H b ≠ none := by
  rcases h with rfl | rfl | rfl | ⟨n, c, e, rfl | rfl⟩
  · rw [A.hp]; intro z; cases z
  · rw [A.hh]; intro z; cases z
  · rw [A.hd]; intro z; cases z
  · rw [A.hb n c e]; intro z; cases z
  · rw [A.hs n c e]; intro z; cases z
/-- the pile at p and the pile at q, and what else is known -/
def TwoP (C B p q : Addr) (P Q : Pl) (R H : Hp) : Prop := ∃ g g' Ra, PileAt C B p g P Ra H ∧ PileAt C B q g' Q R Ra
theorem TwoP.same (T : TwoP C B p q P Q R H) : Same R H := by
  obtain ⟨g, g', Ra, A, A'⟩ := T
  exact A'.same.trans A.same
theorem TwoP.swap (T : TwoP C B p q P Q R H) : TwoP C B q p Q P R H := by
  obtain ⟨g, g', Ra, A, A'⟩ := T
  have no : ∀ {b}, Ra b = none → ¬ Mine q g' Q b := fun h m => A'.mine_some m h
  have up : ∀ {b o}, Ra b = some o → H b = some o := fun h => A.same _ _ h
  have fr : ∀ {b}, Ra b = none → R b = none := fun h => A'.same.free h
  refine ⟨g', g, lackOf q g' Q H, ⟨fun b o e => ?_, lack_mine (.inl rfl), lack_mine (.inr (.inl rfl)), lack_mine (.inr (.inr (.inl rfl))), fun n c e => lack_mine (.inr (.inr (.inr ⟨n, c, e, .inl rfl⟩))), fun n c e => lack_mine (.inr (.inr (.inr ⟨n, c, e, .inr rfl⟩))),
      up A'.hp, up A'.hh, up A'.hd, fun n c e => up (A'.hb n c e), fun n c e => up (A'.hs n c e), A'.ib, A'.is, A'.hn⟩,
    ⟨fun b o e => ?_, fr A.rp, fr A.rh, fr A.rd, fun n c e => fr (A.rb n c e), fun n c e => fr (A.rs n c e), (lack_not (no A.rp)).trans A.hp, (lack_not (no A.rh)).trans A.hh, (lack_not (no A.rd)).trans A.hd, fun n c e => (lack_not (no (A.rb n c e))).trans (A.hb n c e), fun n c e => (lack_not (no (A.rs n c e))).trans (A.hs n c e), A.ib, A.is, A.hn⟩⟩
  · by_cases m : Mine q g' Q b
    · rw [lack_mine m] at e; cases e
    · rw [lack_not m] at e; exact e
  · rw [lack_not (fun m => by rw [A'.mine_none m] at e; cases e)]
    exact up (A'.same _ _ e)
/-- a call upon the first pile -/
theorem TwoP.open_ (T : TwoP C B p q P Q R H) : ∃ g Ra, PileAt C B p g P Ra H ∧ Same R Ra ∧ (∀ b, Ra b = none → R b = none) ∧ (∀ (g2 : Geo) (P2 : Pl) (H2 : Hp), PileAt C B p g2 P2 Ra H2 → TwoP C B p q P2 Q R H2) ∧
    (∀ (g2 : Geo) (P2 : Pl) (Ra2 H2 : Hp), Same Ra Ra2 → PileAt C B p g2 P2 Ra2 H2 → TwoP C B p q P2 Q (newK R Ra Ra2) H2) := by
  obtain ⟨g, g', Ra, A, A'⟩ := T
  exact ⟨g, Ra, A, A'.same, fun b h => A'.same.free h, fun g2 P2 H2 A2 => ⟨g2, g', Ra, A2, A'⟩, fun g2 P2 Ra2 H2 s A2 => ⟨g2, g', Ra2, A2, A'.fresh s⟩⟩
theorem TwoP.new (T : TwoP C B p q P Q R H) {a : Addr} {o : HO} (h : H a = none) : TwoP C B p q P Q (upd R a o) (upd H a o) := by
  obtain ⟨g, g', Ra, A, A'⟩ := T
  exact ⟨g, g', _, A.new h, A'.new (A.same.free h)⟩
theorem TwoP.less (T : TwoP C B p q P Q R H) (s : Same R' R) : TwoP C B p q P Q R' H := by
  obtain ⟨g, g', Ra, A, A'⟩ := T
  exact ⟨g, g', Ra, A, A'.less s⟩
theorem TwoP.grow (T : TwoP C B p q P Q R H) (s : Same H H') : TwoP C B p q P Q R H' := by
  obtain ⟨g, g', Ra, A, A'⟩ := T
  exact ⟨g, g', Ra, A.grow s, A'⟩
theorem TwoP.know (T : TwoP C B p q P Q R H) {r : Addr} {o : HO} (hr : H r = none) (s : Same H H') (e : H' r = some o) : TwoP C B p q P Q (upd R r o) H' := by
  obtain ⟨g, g', Ra, A, A'⟩ := T
  exact ⟨g, g', _, A.know hr s e, A'.new (A.same.free hr)⟩
end
/-- what a pile tells of its lists -/
def rowsOf (bs : List (Int × Bx)) (sus : List Int) : List (List (Option Int)) := (keys bs).map some :: sus.map some :: (keys bs).map fun n => (get bs n).elim [] Bx.slots
def HeldAt (R0 R : Hp) : List Addr → List (List (Option Int)) → Prop := Paired fun q row => ∃ f c, (R0 q = none ∧ R0 f = none ∧ R0 c = none) ∧ R q = some (.tup [.ref f, .ref c]) ∧ R f = some (.lst (lV row)) ∧ R c = some (.lst (lV row))
def RowsAt (R0 R : Hp) : List Addr → List (List (Option Int)) → Prop := Paired fun t row => R0 t = none ∧ R t = some (.lst (lV row))
theorem HeldAt.same {R0 R R' : Hp} (s : Same R R') {qs : List Addr} {rows : List (List (Option Int))} (h : HeldAt R0 R qs rows) : HeldAt R0 R' qs rows := paired_imp (fun _ _ ⟨f, c, h0, h1, h2, h3⟩ => ⟨f, c, h0, s _ _ h1, s _ _ h2, s _ _ h3⟩) h
theorem RowsAt.same {R0 R R' : Hp} (s : Same R R') {ts : List Addr} {rows : List (List (Option Int))} (h : RowsAt R0 R ts rows) : RowsAt R0 R' ts rows := paired_imp (fun _ _ h => ⟨h.1, s _ _ h.2⟩) h
theorem HeldAt.newK {R R0 R1 : Hp} {qs : List Addr} {rows : List (List (Option Int))} (h : HeldAt R0 R1 qs rows) (E0 : Hp) (h0 : ∀ b, R0 b = none → E0 b = none) : HeldAt E0 (newK R R0 R1) qs rows :=
  paired_imp (fun _ _ ⟨f, c, ⟨a1, a2, a3⟩, h1, h2, h3⟩ => ⟨f, c, ⟨h0 _ a1, h0 _ a2, h0 _ a3⟩, (newK_new a1).trans h1, (newK_new a2).trans h2, (newK_new a3).trans h3⟩) h
theorem RowsAt.newK {R R0 R1 : Hp} {ts : List Addr} {rows : List (List (Option Int))} (h : RowsAt R0 R1 ts rows) (E0 : Hp) (h0 : ∀ b, R0 b = none → E0 b = none) : RowsAt E0 (newK R R0 R1) ts rows :=
  paired_imp (fun _ _ h => ⟨h0 _ h.1, (newK_new h.1).trans h.2⟩) h
theorem rows_len {P : Pl} (W : Wf P []) : (rowsOf P.boxes (susp P)).length ≤ 62 := by
  unfold rowsOf
  rw [List.length_cons, List.length_cons, List.length_map]
  have := W.few
  rw [show (keys P.boxes).length = P.boxes.length from List.length_map _]
  omega
theorem row_le {P : Pl} (W : Wf P []) : ∀ row, row ∈ P.hands :: rowsOf P.boxes (susp P) → row.length ≤ 60 := fun row h => by
  have few := W.few
  have ek : (keys P.boxes).length = P.boxes.length := List.length_map _
  rcases List.mem_cons.mp h with rfl | h
  · rw [W.hl]; decide
  · unfold rowsOf at h
    rcases List.mem_cons.mp h with rfl | h
    · rw [List.length_map]; omega
    · rcases List.mem_cons.mp h with rfl | h
      · rw [List.length_map]
        have : (susp P).length ≤ (keys P.boxes).length := List.length_filter_le _ _
        omega
      · obtain ⟨n, hn, rfl⟩ := List.mem_map.mp h
        obtain ⟨b, hb⟩ := get_keys.mpr hn
        rw [hb]
        show b.slots.length ≤ 60
        have := W.sl n b hb
        omega
/-- their data -/
def dOf : Option Int → PyData
  | none => .none
  | some n => .int n
def dRow (l : List (Option Int)) : PyData := .list (l.map dOf)
theorem dp_all {K : PySem.W.Frag} {H : Hp} : ∀ l : List (Option Int), DpAll K H (lV l) (l.map dOf)
  | [] => .nil
  | none :: l => .cons .non (dp_all l)
  | some n :: l => .cons (.int n) (dp_all l)
theorem dp_row {K : PySem.W.Frag} {H : Hp} {a : Addr} {l : List (Option Int)} (h : H a = some (.lst (lV l))) : Dp K H (.ref a) (dRow l) := .lst (SqL.of h) (dp_all l)
theorem dp_rows {K : PySem.W.Frag} {R0 H : Hp} : ∀ {ts : List Addr} {rows : List (List (Option Int))}, RowsAt R0 H ts rows → DpAll K H (ts.map V.ref) (rows.map dRow)
  | _, _, .nil => .nil
  | _, _, .cons r t => .cons (dp_row r.2) (dp_rows t)
end BP
namespace BP
open PySem L2
theorem lay_row : ∀ l : List (Option Int), PyData.canLayAll0 (l.map dOf) = true
  | [] => rfl
  | none :: l => by
    have := lay_row l
    show (PyData.canLay0 .none && _) = true
    rw [this]; rfl
  | some n :: l => by
    have := lay_row l
    show (PyData.canLay0 (.int n) && _) = true
    rw [this]; rfl
theorem lay_rows : ∀ rows : List (List (Option Int)), PyData.canLayAll0 (rows.map dRow) = true
  | [] => rfl
  | l :: rows => by
    have := lay_rows rows
    show (PyData.canLayAll0 (l.map dOf) && _) = true
    rw [this, lay_row]; rfl
theorem dep_row : ∀ l : List (Option Int), PyData.depthAll (l.map dOf) = 0
  | [] => rfl
  | none :: l => by
    have := dep_row l
    show max 0 (PyData.depthAll (l.map dOf)) = 0
    rw [this]; rfl
  | some n :: l => by
    have := dep_row l
    show max 0 (PyData.depthAll (l.map dOf)) = 0
    rw [this]; rfl
theorem dep_rows : ∀ rows : List (List (Option Int)), PyData.depthAll (rows.map dRow) ≤ 1
  | [] => by decide
  | l :: rows => by
    have := dep_rows rows
    show max (PyData.depthAll (l.map dOf) + 1) _ ≤ 1
    rw [dep_row]
    exact Nat.max_le.mpr ⟨Nat.le_refl _, this⟩
theorem shaped_row (l : List (Option Int)) : SeqAt.shaped (dRow l) = true := by
  unfold SeqAt.shaped
  rw [show (dRow l).canLay0 = true from lay_row l, show (dRow l).depth = 1 from by show PyData.depthAll (l.map dOf) + 1 = 1; rw [dep_row]]
  rfl
theorem shaped_rows (rows : List (List (Option Int))) : SeqAt.shaped (.list (rows.map dRow)) = true := by
  have h : (PyData.list (rows.map dRow)).depth ≤ 2 := by
    have := dep_rows rows
    show PyData.depthAll _ + 1 ≤ 2
    omega
  unfold SeqAt.shaped
  rw [show (PyData.list (rows.map dRow)).canLay0 = true from lay_rows rows, decide_eq_true (by omega)]
  rfl
theorem eqv_row (l : List (Option Int)) : PyData.eqv (dRow l) (dRow l) = true := SeqAt.eqv_refl _ (lay_row l)
theorem eqv_rows (rows : List (List (Option Int))) : PyData.eqv (.list (rows.map dRow)) (.list (rows.map dRow)) = true := SeqAt.eqv_refl _ (lay_rows rows)
end BP

/-! o.m(e, ..) within a try whose clause reads the slots. Own work. -/
namespace BP
open PySem PySem.Spec L2
open PyProof.Rows hiding St
def tMethE (C : Addr) (m : Str) (sp : Sp) (E : St → XK) (ta : TE) (t : TA) : TE := fun σ H Q => ta σ H fun x H1 => ∃ a dx fs, x = .ref a ∧ H1 a = some (.ins C dx fs) ∧ fs.lookup m = none ∧ t σ H1 fun vs H2 => sp (x :: vs) H2 Q (E σ)
section
variable {X : Cx} {CX : CXT} {k : Nat} {f C : Addr} {fd : FuncData} {ps : List Str} {sp : Sp} {E : St → XK} {x m : Str} {p pos apos : Pos} {e o : Expr} {es : List Expr} {ta : TE} {t : TA}
theorem pe_methE {pl : Sem Bool} (he : PE X o ta) (c : Cls X.K C) (hm : Meth X.K C m f) (F : FnOk X.prog X.w X.K X.mg X.base CX k f fd ps sp) (hr : Room k X.A) (hb : Binds X.K fd ps []) (hx : ∀ σ, PassesAt CX X σ (E σ)) (ha : PA X (e :: es) t)
    (hst : starEach (e :: es) X.env = (false, eval e X.env) :: starEach es X.env := by rfl) (hpl : (backTo pos (starEach es X.env)).any (·.1) = false := by rfl)
    (ht : eval (.Call (.Attribute o m apos) (e :: es) [] pos) X.env = (do
      let ov ← eval o X.env
      standAt apos.atName
      let (f, first) ← holding [ov] (getMethod ov m pl)
      callWith pos f first (backTo pos (starEach (e :: es) X.env)) (backToKw pos (keywordEach [] X.env))) := by rfl) :
    PE X (.Call (.Attribute o m apos) (e :: es) [] pos) (tMethE C m sp E ta t) := by
  refine ⟨fun pins s σ H Q I h => ?_⟩
  refine PySem.W.methodCall_KW (pl := pl) (thn (he.run pins s σ H _ I h) fun u s1 ⟨x, H1, I1, rx, a, dx, fs, ex, ea, l, q⟩ => ?_) ht
  subst ex
  obtain rfl : u = Value.ref a := rx
  refine getmeth_ok I1 ea c hm l ?_
  refine PySem.W.callWith_K (first := [.ref a]) (h₀ := X.base) I.ok.mod.kin hm.kp (thn (ha.run pos pins s1 σ H1 _ I1 q) fun us s2 ⟨vs, H2, I2, r, q2⟩ => ⟨I2.kIn, ?_⟩) hst hpl
  exact run_fnS (us := .ref a :: us) (vs := .ref a :: vs) F hr hb (hx σ) I2 (.cons rfl r) q2
end
end BP

/-! Boxes made until there are sixty. Own work; core Lean alone. -/
namespace BP
def Even (P : Pl) : Prop := ∃ x, P.hands.getD 1 none = some x ∧ P.hands.getD 2 none = some x
def f1 (P : Pl) : Pl := (mk P 2 1).1
def f2 (P : Pl) : Pl := (ptSlot (f1 P) P.made 0 ((f1 P).hands.getD 1 none)).1
def f3 (P : Pl) : Pl := (ptHand (f2 P) 1 ((f2 P).hands.getD 2 none)).1
theorem len_of_keys {as bs : List (Int × Bx)} (h : keys as = keys bs) : as.length = bs.length := by
  have e1 : as.length = (keys as).length := (List.length_map _).symm
  have e2 : bs.length = (keys bs).length := (List.length_map _).symm
  rw [e1, e2, h]
theorem stay_len {S : Pl} {o : Option Int} (W : Wf S [o]) (ho : ∀ n, o = some n → 0 < cnt S.hands n + scnt S.boxes n) : (run S.boxes [o]).1.length = S.boxes.length := by
  obtain ⟨_, h | ⟨n, h⟩⟩ := stay W ho
  · rw [h]
  · rw [h]
    exact len_of_keys (keys_chg ..)
theorem f1_hands (P : Pl) : (f1 P).hands = P.hands.set 2 (some P.made) := rfl
theorem f2_hands (P : Pl) : (f2 P).hands = (f1 P).hands := rfl
theorem f3_hands (P : Pl) : (f3 P).hands = (f2 P).hands.set 1 ((f2 P).hands.getD 2 none) := rfl
theorem made_f (P : Pl) : (f1 P).made = P.made + 1 ∧ (f2 P).made = P.made + 1 ∧ (f3 P).made = P.made + 1 := ⟨rfl, rfl, rfl⟩
theorem fill_ok {P : Pl} (G : Good P) (hf : P.boxes.length < 60) : Good (f1 P) ∧ (∃ b, get (f1 P).boxes P.made = some b ∧ b.slots = [none]) ∧ (f1 P).hands.getD 2 none = some P.made ∧ Good (f2 P) ∧ Good (f3 P) ∧ Even (f3 P) ∧
    (Even P → (f3 P).boxes.length = P.boxes.length + 1) := by
  have hl := G.wf.hl
  have G1 : Good (f1 P) := G.make (by decide) (by decide) hf
  have h2 : (f1 P).hands.getD 2 none = some P.made := by rw [f1_hands]; exact getD_set_on _ (by omega)
  obtain ⟨b, hb⟩ := G1.wf.hand h2
  have bs : b.slots = [none] := by
    rcases mk_slots G.wf hb with ⟨_, h⟩ | ⟨c, hc, _⟩
    · exact h
    · have := G.wf.lo _ (get_keys.mp ⟨c, hc⟩)
      omega
  have ok1 : ∀ n, (f1 P).hands.getD 1 none = some n → ∃ b, get (f1 P).boxes n = some b := fun n e => G1.wf.hand e
  have G2 : Good (f2 P) := G1.slot hb (by rw [bs]; decide) ok1
  have G3 : Good (f3 P) := G2.hold (i := 1) (j := 2) (by decide)
  have h2' : (f2 P).hands.getD 2 none = some P.made := h2
  refine ⟨G1, ⟨b, hb, bs⟩, h2, G2, G3, ⟨P.made, ?_, ?_⟩, ?_⟩
  · rw [f3_hands, h2']
    exact getD_set_on _ (by rw [G2.wf.hl]; decide)
  · rw [f3_hands, getD_set_off _ (by decide)]
    exact h2'
  · rintro ⟨x, x1, x2⟩
    have mem1 : ∀ {l : List (Option Int)} {i : Nat} {x : Int}, l.getD i none = some x → some x ∈ l := fun {l i x} e => by
      rw [List.getD_eq_getElem?_getD] at e
      cases q : l[i]? with
      | none => rw [q] at e; cases e
      | some o =>
        rw [q] at e
        have e : o = some x := e
        rw [← e]
        exact List.mem_of_getElem? q
    -- the new box
    have l1 : (f1 P).boxes.length = P.boxes.length + 1 := by
      have W := (G.wf.born (size := 1) (by decide) hf).hand (i := 2) (by decide)
      have := stay_len W fun n e => by
        have e : P.hands.getD 2 none = some n := e
        rw [x2] at e
        cases e
        refine Nat.lt_of_lt_of_le (cnt_pos.mpr ?_) (Nat.le_add_right _ _)
        show some x ∈ P.hands.set 2 (some P.made)
        exact mem1 (i := 1) (by rw [getD_set_off _ (by decide)]; exact x1)
      refine Eq.trans this ?_
      show (bumped (born P 1).boxes (some P.made)).length = _
      rw [len_bumped]
      show (P.boxes ++ [_]).length = _
      rw [List.length_append]
      rfl
    have l2 : (f2 P).boxes.length = (f1 P).boxes.length := by
      show (run (chg (bumped (f1 P).boxes ((f1 P).hands.getD 1 none)) P.made (setSlot 0 ((f1 P).hands.getD 1 none))) [slotOf (f1 P).boxes P.made 0]).1.length = _
      rw [show slotOf (f1 P).boxes P.made 0 = none from by unfold slotOf; rw [hb]; dsimp only; rw [bs]; rfl, run_none]
      exact (len_of_keys (keys_chg ..)).trans len_bumped
    have l3 : (f3 P).boxes.length = (f2 P).boxes.length := by
      have Pr : Pre (f2 P) ((f2 P).hands.getD 2 none) := G2.wf.pre fun n e => G2.wf.hand e
      have W := Pr.hand (i := 1) (by decide)
      have := stay_len W fun n e => by
        have e : (f1 P).hands.getD 1 none = some n := e
        have e' := e
        rw [f1_hands, getD_set_off _ (by decide), x1] at e'
        cases e'
        obtain ⟨b2, hb2⟩ := G2.wf.hand h2'
        obtain ⟨c, hc, sl⟩ := ptSlot_slots hb2
        rw [if_pos rfl, e] at sl
        have ec : c = b := Option.some.inj (hc.symm.trans hb)
        rw [ec, bs] at sl
        have : 0 < cnt b2.slots x := cnt_pos.mpr (by rw [sl]; exact List.mem_cons_self)
        have := scnt_le x hb2
        show 0 < cnt _ x + scnt (bumped (f2 P).boxes _) x
        rw [scnt_bumped]
        omega
      exact this.trans len_bumped
    rw [l3, l2, l1]
end BP

/-! One hundred and eighty-one lines, as they are answered. Own work. -/
namespace BP
open PySem L2
def actC (P : Pl) : Deed → Res
  | .make h z => if ¬ OkH h then .bad .hand else if ¬ (0 ≤ z ∧ z ≤ 6) then .bad .size else if 60 ≤ P.boxes.length then .bad .full else .fine (mk P h.toNat z.toNat).1 (mk P h.toNat z.toNat).2
  | .hold h o => if ¬ OkH h then .bad .hand else if ¬ OkH o then .bad .hand else .fine (ptHand P h.toNat (P.hands.getD o.toNat none)).1 (ptHand P h.toNat (P.hands.getD o.toNat none)).2
  | .put h s o => if ¬ OkH h then .bad .hand else if ¬ OkH o then .bad .hand else atSlot P h s fun n _ => .fine (ptSlot P n s.toNat (P.hands.getD o.toNat none)).1 (ptSlot P n s.toNat (P.hands.getD o.toNat none)).2
  | _ => .bad .hand
inductive Plain : Deed → Prop
  | make (h z : Int) : Plain (.make h z)
  | hold (h o : Int) : Plain (.hold h o)
  | put (h s o : Int) : Plain (.put h s o)
theorem act_c (P : Pl) {d : Deed} (h : Plain d) : act P d = actC P d := by cases h <;> rfl
def ansC (P : Pl) (d : Deed) : Pl × Str := match actC P d with
  | .bad e => (P, badW e)
  | .fine P' f => (P', freesW f)
def answersC (P : Pl) : List Deed → List Str
  | [] => []
  | d :: ds => (ansC P d).2 :: answersC (ansC P d).1 ds
def Says (z : Str) (d : Deed) : Prop := Plain d ∧ ∃ u ns, readP (Txt.split z " ") = some (u, ns) ∧ deedOf u ns = some d
theorem ans_c (P : Pl) {z : Str} {d : Deed} (h : Says z d) : ans P z = ansC P d := by
  obtain ⟨hp, u, ns, h1, h2⟩ := h
  unfold ans ansC
  rw [h1]
  dsimp only
  rw [h2]
  dsimp only
  rw [act_c P hp]
  first | done | (cases actC P d <;> rfl)
theorem answers_c : ∀ (zs : List Str) (ds : List Deed) (P : Pl), Paired Says zs ds → answers P zs = answersC P ds
  | _, _, P, .nil => rfl
  | _ :: _, _ :: _, P, .cons (a := z) (b := d) h t => by
    show (ans P z).2 :: answers (ans P z).1 _ = (ansC P d).2 :: answersC (ansC P d).1 _
    rw [ans_c P h, answers_c _ _ _ t]
def three : List Str := ["make 2 1", "put 2 0 1", "hold 1 2"]
def threeD : List Deed := [.make 2 1, .put 2 0 1, .hold 1 2]
def lines181 : List Str := (List.replicate 60 three).flatten ++ [("make 3 0" : Str)]
def deeds181 : List Deed := (List.replicate 60 threeD).flatten ++ [.make 3 0]
theorem r1 : readP (Txt.split ("make 2 1" : Str) " ") = some (("make" : Str), [2, 1]) := by decide +kernel
theorem r2 : readP (Txt.split ("put 2 0 1" : Str) " ") = some (("put" : Str), [2, 0, 1]) := by decide +kernel
theorem r3 : readP (Txt.split ("hold 1 2" : Str) " ") = some (("hold" : Str), [1, 2]) := by decide +kernel
theorem r4 : readP (Txt.split ("make 3 0" : Str) " ") = some (("make" : Str), [3, 0]) := by decide +kernel
theorem d1 : deedOf "make" [2, 1] = some (.make 2 1) := if_pos rfl
theorem d4 : deedOf "make" [3, 0] = some (.make 3 0) := if_pos rfl
theorem d3 : deedOf "hold" [1, 2] = some (.hold 1 2) := by
  unfold deedOf
  rw [if_neg (by decide +kernel), if_pos rfl]
  rfl
theorem d2 : deedOf "put" [2, 0, 1] = some (.put 2 0 1) := by
  unfold deedOf
  rw [if_neg (by decide +kernel), if_neg (by decide +kernel), if_neg (by decide +kernel), if_pos rfl]
  rfl
theorem said : Paired Says lines181 deeds181 := by
  have t3 : Paired Says three threeD := .cons ⟨.make _ _, _, _, r1, d1⟩ (.cons ⟨.put _ _ _, _, _, r2, d2⟩ (.cons ⟨.hold _ _, _, _, r3, d3⟩ .nil))
  have tn : ∀ n, Paired Says (List.replicate n three).flatten (List.replicate n threeD).flatten := fun n => by
    induction n with
    | zero => exact .nil
    | succ n ih =>
      rw [List.replicate_succ, List.replicate_succ, List.flatten_cons, List.flatten_cons]
      exact paired_app t3 ih
  exact paired_app (tn 60) (.cons ⟨.make _ _, _, _, r4, d4⟩ .nil)
theorem told181 : (answersC pl0 deeds181)[180]? = some ("full" : Str) ∧ (answersC pl0 deeds181)[177]? = some ("frees none" : Str) := by decide +kernel
end BP

/-! Within an except suite: sorted of a dict's whole numbers; a def that sorts. Own work. -/
namespace BP
open PySem PySem.Spec PySem.Calls HotX
open PyProof.Rows hiding St
section
variable {prog : Program} {w : World} {κ : Type} [DecidableEq κ] {knd : KeyKind prog w κ} {A : Around} {E : Value → Shared → Prop} {s : Shared}
theorem dict_end_hot {it d x1 : Addr} {i ep : Nat} {kvs : List (κ × Value)} {Q : Option Value → Shared → Prop} (hot : HotAt A x1 s.heap) (nx : x1 ≠ it) (hit : s.heap.IsKeyIter it d i kvs.length ep)
    (hm : s.heap.DictAt knd d kvs ep) (hx : kvs[i]? = none)
    (hQ : ∀ h', Heap.ExtBut it s.heap h' → Q none { s with heap := h' }) : wpAny (model prog w) A (pyNext (.ref it)) Q E s := by
  obtain ⟨o, ho, hc, hd⟩ := id hit
  obtain ⟨od, es, hod, hcd, hdd, hk, hp, hn⟩ := id hm
  obtain ⟨hh, o1, vs1, h1, d1, c1⟩ := hot
  unfold pyNext
  refine wpAny_bind (wpAny_attempt (wpAny_callSpecial?_slot (name := Str.ofString "__next__") hit.typeIs F.slot_dict_keyiterator_next
    (wpAny_call_entry F.slot_dict_keyiterator_next hit.typeIs F.entry_dict_keyiterator_next ?_ (F.args_dict_keyiterator_next_1 _))))
  refine wpAny_bind (wpAny_pure ?_)
  refine wpAny_bind ?_
  refine wpAny_bind ?_
  first | refine wpAny_bind (wpAny_typeNameOfWhole_keyiter hit.typeIs (wpAny_pure ?_)) | refine wpAny_bind (wpAny_typeNameOf_keyiter hit.typeIs (wpAny_pure ?_))
  refine wpAny_bind (wpAny_fieldsOf ho hd ?_)
  have hown : Builtin.Dict_items.ownsTuple "dict_keyiterator" = false := by decide
  simp only [hown, Bool.false_eq_true, if_false]
  show wpAny _ _ (if (Value.ref d == Value.none) = true then _ else _) _ _ s
  rw [if_neg (show ¬ ((Value.ref d == Value.none) = true) from Bool.false_ne_true)]
  refine wpAny_bind (wpAny_pure ?_)
  refine wpAny_bind (wpAny_dictEntries hod hdd ?_)
  have hsz : es.size = kvs.length := by rw [← hp.length]; simp
  rw [if_neg (by rw [hsz]; simp)]
  refine wpAny_bind (wpAny_pure ?_)
  refine wpAny_bind (wpAny_dictEpoch hod hdd ?_)
  rw [if_neg (by simp)]
  refine wpAny_pure ?_
  have hge : es.size ≤ i := by rw [hsz]; simpa using hx
  simp only [show ¬ ((i : Int) < 0) from by omega, if_false, Int.toNat_natCast, Array.getElem?_eq_none hge]
  refine wpAny_bind ?_
  first | refine wpAny_bind (wpAny_typeNameOfWhole_keyiter hit.typeIs (wpAny_pure ?_)) | refine wpAny_bind (wpAny_typeNameOf_keyiter hit.typeIs (wpAny_pure ?_))
  show wpAny _ _ (setField (.ref it) 0 .none >>= _) _ _ s
  refine wpAny_bind (wpAny_setField ho hd (by simp) ?_)
  show wpAny _ _ (newExc (.type "StopIteration") [] >>= _) _ _ _
  refine wpAny_bind ?_
  simp only [newExc, newTuple]
  refine wpAny_bind (wpAny_newObj_type ?_ (by size_fits))
  refine wpAny_bind (m := firstArgMember _ _) (wpAny_of_eq (a := Value.none) (by first | rfl | (simp only [firstArgMember]; rfl)) ?_)
  refine wpAny_newObj_type ?_ (by size_fits)
  have up : ∀ b o', b ≠ it → s.heap.get? b = some o' → (s.heap.update it (Obj.mapFields (·.setIfInBounds 0 Value.none))).get? b = some o' := fun b o' nb e => by
    rw [Heap.get?_update_other _ _ nb.symm]
    exact e
  have h1' := up x1 o1 nx h1
  refine raiseNew_hot ⟨hh, o1, vs1, Heap.get?_push_of_some _ (Heap.get?_push_of_some _ h1'), d1, c1⟩ (Nat.ne_of_lt (Heap.lt_size (Heap.get?_push_of_some _ h1'))) (Heap.get?_push_size _ rfl) rfl (by first | (simp; done) | (simp; omega) | (simp only [Array.size_append]; simp; omega)) ?_
  refine wpAny_bind (wpAny_isInstance (T := "StopIteration") (b := true) ⟨_, Heap.get?_update_self _ (Heap.get?_push_size _ rfl) rfl, rfl⟩ isSubtype_stop ?_)
  refine wpAny_pure (hQ _ fun b o' nb e => ?_)
  rw [Heap.get?_update_other _ _ (Nat.ne_of_gt (Heap.lt_size (Heap.get?_push_of_some _ (up b o' nb e))))]
  exact Heap.get?_push_of_some _ (Heap.get?_push_of_some _ (up b o' nb e))
theorem keys_walk_hot (x1 I d : Addr) (hne : d ≠ I) (hnx : x1 ≠ I) (kvs : List (κ × Value)) (ep : Nat) :
    Walks prog w A I [I, d, x1] [I] kvs.length (fun i v => ∃ k x, kvs[i]? = some (k, x) ∧ knd.is k v = true) (fun i h => h.IsKeyIter I d i kvs.length ep ∧ h.DictAt knd d kvs ep ∧ HotAt A x1 h) where
  sub := fun b hb => by simp at hb; simp [hb]
  frame := fun _ _ _ st hk => ⟨st.1.at fun o e => hk I (by simp) o e, st.2.1.at' fun o e => hk d (by simp) o e, hot_keep st.2.2 fun o e => hk x1 (by simp) o e⟩
  item := fun i s Q E hi st hQ => by
    obtain ⟨⟨k, x⟩, hx⟩ : ∃ p, kvs[i]? = some p := ⟨kvs[i], by simp [hi]⟩
    refine wpAny_pyNext_dict_item st.1 st.2.1 hx fun key h' hkey hit' hs' => ?_
    exact hQ key h' s.toks ⟨k, x, hx, hkey⟩ ⟨hit', st.2.1.extBut hs'.extBut hne, hot_keep st.2.2 fun o e => hs'.extBut x1 o hnx e⟩ fun b o hb e => hs'.extBut b o (fun h => hb (by simp [h])) e
  done := fun s Q E st hQ => dict_end_hot st.2.2 hnx st.1 st.2.1 (by simp) fun h' he' => hQ h' s.toks fun b o hb e => he' b o (fun h => hb (by simp [h])) e
  self := fun _ _ _ _ st hQ => wpAny_pyIter_keyiter st.1 hQ
theorem extend_hot {R : Result → Shared → Prop} {d x1 S : Addr} {kvs : List (κ × Value)} {ep : Nat} (lo : (d == sysModules) = false) (hot : HotAt A x1 s.heap) (hm : s.heap.DictAt knd d kvs ep) (hSd : S ≠ d) (hSx : S ≠ x1) (res : Value) (c₀ : Nat)
    (hS : s.heap.get? S = some { cls := .type "list", data := .seq #[] c₀ })
    (hR : ∀ h' tk acc' c', (∀ b o, b ≠ S → s.heap.get? b = some o → h'.get? b = some o) → h'.get? S = some { cls := .type "list", dict := none, data := .seq acc' c', slots := #[] } →
      ItemsOf (fun i v => ∃ k x, kvs[i]? = some (k, x) ∧ knd.is k v = true) acc' kvs.length → R (.ok (.ret res)) { s with heap := h', toks := tk }) (hn : kvs.length ≤ sizeLine) :
    wpAny (model prog w) A.in1 (Builtin.List.listExtendWith (.ref S) (.ref d) res)
      (fun fin s' => match fin with | .done f => R (.ok f) s' | .again c' => c'.quiet = true ∧ codeAny (model prog w) A c' R s') (fun e s' => R (.error e) s') s := by
  have xlt : x1 < s.heap.objs.size := by obtain ⟨_, o, _, ho, _⟩ := hot; exact Heap.lt_size ho
  have hSI : S ≠ s.heap.objs.size := Nat.ne_of_lt (Heap.lt_size hS)
  have hSf : S ∉ [s.heap.objs.size, d, x1] := by simp only [List.mem_cons, List.not_mem_nil, or_false, not_or]; exact ⟨hSI, hSd, hSx⟩
  have W : Walks prog w A.in1 s.heap.objs.size [s.heap.objs.size, d, x1] [s.heap.objs.size] kvs.length _ _ := keys_walk_hot (A := A.in1) (knd := knd) x1 s.heap.objs.size d (Nat.ne_of_lt hm.lt_size) (Nat.ne_of_lt xlt) kvs ep
  have key : ∀ (h : Heap) (c₁ tk : Nat), h.IsKeyIter s.heap.objs.size d 0 kvs.length ep ∧ h.DictAt knd d kvs ep ∧ HotAt A.in1 x1 h → (∀ b o, b ≠ S → s.heap.get? b = some o → h.get? b = some o) →
      h.get? S = some { cls := .type "list", data := .seq #[] c₁ } → codeAny (model prog w) A (.builtin "list.extend.loop" ⟨[.ref S, .ref s.heap.objs.size, res], []⟩) R { s with heap := h, toks := tk } := by
    intro h c₁ tk hst hk hS₁
    refine codeAny_extend_loopS W.toS hn S hSf res kvs.length 0 _ #[] c₁ rfl (Nat.zero_le _) hst hS₁ (ItemsOf.nil _) fun s' acc' c' hm hS' hacc => ?_
    rw [Moved.eq_with hm]
    refine hR s'.heap s'.toks acc' c' (fun b o hb e => hm.heap b o (fun hmem => ?_) (hk b o hb e)) hS' hacc
    rcases List.mem_cons.mp hmem with e' | hmem
    · exact hb e'
    · exact absurd (Heap.lt_size e) (by rw [List.mem_singleton.mp hmem]; exact Nat.lt_irrefl _)
  unfold Builtin.List.listExtendWith
  refine wpAny_bind (wpAny_typeOf (T := "dict") hm.dictOf.typeIs ?_)
  have h1 : Builtin.List.listSameRef (.ref S) (.ref d) = false := by simp [Builtin.List.listSameRef, hSd]
  simp only [h1, show (Value.type "dict" == Value.type "list") = false from by decide, show (Value.type "dict" == Value.type "tuple") = false from by decide, Bool.or_false, Bool.false_eq_true, if_false]
  refine wpAny_bind (wpAny_pyIter_dict lo hm ?_)
  have st : (s.heap.push { cls := .type "dict_keyiterator", data := .fields #[.ref d, .int (0 : Nat) 0, .int kvs.length 0, .int ep 0] }).IsKeyIter s.heap.objs.size d 0 kvs.length ep := ⟨_, Heap.get?_push_size _ rfl, rfl, rfl⟩
  have dp := hm.push { cls := .type "dict_keyiterator", data := .fields #[.ref d, .int (0 : Nat) 0, .int kvs.length 0, .int ep 0] }
  have hp := hot_keep hot fun o e => Heap.get?_push_of_some { cls := .type "dict_keyiterator", data := .fields #[.ref d, .int (0 : Nat) 0, .int kvs.length 0, .int ep 0] } e
  have hS₁ := Heap.get?_push_of_some { cls := .type "dict_keyiterator", data := .fields #[.ref d, .int (0 : Nat) 0, .int kvs.length 0, .int ep 0] } hS
  refine wpAny_bind (wpAny_holding (PySem.W.kdl_hint_dict dp.dictOf.typeIs ?_))
  refine wpAny_ite_split (fun _ => ?_) (fun _ => wpAny_pure ⟨plainId_quiet PySem.F.plain_extend_loop _, key _ c₀ _ ⟨st, dp, hp⟩ (fun b o _ e => Heap.get?_push_of_some _ e) hS₁⟩)
  refine wpAny_bind (wpAny_rule ?_)
  refine wpAny_bind ?_
  show wpAny _ _ (updateSeq S (·.push .none) >>= fun _ => updateSeq S (·.pop)) _ _ _
  refine wpAny_bind (wpAny_updateSeq hS₁ rfl ?_)
  have hS₂ := Heap.get?_update_self (Obj.mapSeq (·.push Value.none)) hS₁ rfl
  refine wpAny_updateSeq (hz := by seq_fits) hS₂ rfl ?_
  have hS₃ := Heap.get?_update_self (Obj.mapSeq (·.pop)) hS₂ rfl
  refine wpAny_pure ⟨plainId_quiet PySem.F.plain_extend_loop _, key _ _ _ ?_ (fun b o hb e => ?_) hS₃⟩
  · refine W.frame 0 _ _ ⟨st, dp, hp⟩ fun b hb o e => ?_
    have hbS : b ≠ S := fun h => hSf (h ▸ hb)
    exact (Heap.get?_update_other _ _ (Ne.symm hbS)).trans ((Heap.get?_update_other _ _ (Ne.symm hbS)).trans e)
  · exact (Heap.get?_update_other _ _ (Ne.symm hb)).trans ((Heap.get?_update_other _ _ (Ne.symm hb)).trans (Heap.get?_push_of_some _ e))
theorem collect_hot {R : List Value → Shared → Prop} {d x1 : Addr} {kvs : List (κ × Value)} {ep : Nat} (lo : (d == sysModules) = false) (hot : HotAt A x1 s.heap) (hm : s.heap.DictAt knd d kvs ep) (hn : kvs.length ≤ sizeLine)
    (h : ∀ (h' : Heap) (tk : Nat) (acc : Array Value), (∀ b o, s.heap.get? b = some o → h'.get? b = some o) → ItemsOf (fun i v => ∃ k x, kvs[i]? = some (k, x) ∧ knd.is k v = true) acc kvs.length → R acc.toList { s with heap := h', toks := tk }) :
    wpAny (model prog w) A (collect (.ref d)) R E s := by
  have dlt := hm.lt_size
  have xlt : x1 < s.heap.objs.size := by obtain ⟨_, o, _, ho, _⟩ := hot; exact Heap.lt_size ho
  unfold collect
  refine wpAny_bind (wpAny_runValue (codeAny_builtin entry_proto_collect' ?_))
  rw [Around.under_plainId PySem.F.plain_proto_collect _]
  show wpAny _ A.in1 (newList [] >>= fun l => again (.builtin "list.__iadd__" ⟨[l, .ref d], []⟩)) _ _ s
  refine wpAny_bind (wpAny_newObj_type ?_)
  refine wpAny_pure ⟨plainId_quiet PySem.F.plain_list_iadd _, codeAny_builtin entry_list_iadd' ?_⟩
  rw [Around.under_plainId PySem.F.plain_list_iadd _]
  have hS₁ : (s.heap.push { cls := .type "list", data := .seq ([] : List Value).toArray }).get? s.heap.objs.size = some { cls := .type "list", data := .seq #[] } := Heap.get?_push_size _ rfl
  show wpAny _ A.in1 (Builtin.List.listExtendWith (.ref s.heap.objs.size) (.ref d) (.ref s.heap.objs.size)) _ _ _
  have key := extend_hot (A := A) (s := { s with heap := s.heap.push { cls := .type "list", data := .seq ([] : List Value).toArray } })
    (R := fun (q : Result) (s' : Shared) => ∃ (h' : Heap) (tk : Nat) (acc' : Array Value) (c' : Nat), q = .ok (.ret (.ref s.heap.objs.size)) ∧ s' = { s with heap := h', toks := tk } ∧
      (∀ b o, s.heap.get? b = some o → h'.get? b = some o) ∧ h'.get? s.heap.objs.size = some { cls := .type "list", dict := none, data := .seq acc' c', slots := #[] } ∧ ItemsOf (fun i v => ∃ k x, kvs[i]? = some (k, x) ∧ knd.is k v = true) acc' kvs.length)
    lo (hot_keep hot fun o e => Heap.get?_push_of_some _ e) (hm.push _) (Nat.ne_of_gt dlt) (Nat.ne_of_gt xlt) (.ref s.heap.objs.size) 0 hS₁
    (fun h' tk acc' c' hk hS' hacc => ⟨h', tk, acc', c', rfl, rfl, fun b o e => hk b o (Nat.ne_of_lt (Heap.lt_size e)) (Heap.get?_push_of_some _ e), hS', hacc⟩) hn
  refine wpAny_mono key (fun fin s' x => ?_) fun e s' x => ?_
  · cases fin with
    | done f =>
      obtain ⟨h', tk, acc', c', e, rfl, hk, hS', hacc⟩ := x
      cases e
      show wpAny _ A (load s.heap.objs.size >>= _) _ _ _
      exact wpAny_bind (wpAny_load hS' (wpAny_pure (h h' tk acc' hk hacc)))
    | again c₁ =>
      refine ⟨x.1, codeAny_mono x.2 fun q s₂ y => ?_⟩
      obtain ⟨h', tk, acc', c', rfl, rfl, hk, hS', hacc⟩ := y
      show wpAny _ A (load s.heap.objs.size >>= _) _ _ _
      exact wpAny_bind (wpAny_load hS' (wpAny_pure (h h' tk acc' hk hacc)))
  · obtain ⟨_, _, _, _, e', _⟩ := x
    cases e'
end
open L2 L2H in
/-- sorted(d), an exception in hand -/
theorem call_sortedH {X : Cx} (hb : HotB X) : CallR X (.builtin "sorted") (fun xs H Q => ∃ (a : Addr) (kvs : List (Key × V)) (ks : List Int), xs = [.ref a] ∧ Rd H a (.dK kvs) ∧ kvs.map (·.1) = ks.map Sum.inl ∧ ks.length < 64 ∧
    ∀ (ys : List Int) (p : Addr), ys.Perm ks → ys.Pairwise (· ≤ ·) → H p = none → Q (.ref p) (upd H p (.lst (ys.map V.int)))) := by
  intro pins s σ H xs us Q I r q
  obtain ⟨a, kvs, ks, rfl, hd, hks, h64, q⟩ := q
  obtain ⟨u, rfl, rx⟩ := vals1 r
  cases rx
  obtain ⟨x1, hot, _⟩ := hb pins σ H s I
  obtain ⟨z, lo, vs, rel, dd⟩ := dk_rd I.hok hd
  obtain ⟨ep, hat⟩ := dd.dictAt
  have hkeys : vs.map (·.1) = ks.map Sum.inl := rel.keys.symm.trans hks
  have hl : vs.length = ks.length := by
    have e := congrArg List.length hkeys
    rw [List.length_map, List.length_map] at e
    exact e
  have h16 : vs.length ≤ sizeLine := by rw [hl, sizeLine_eq]; omega
  refine Calls.call_function_entry PyProof.Rows.kind_sorted PyProof.Rows.plain_sorted PyProof.Rows.entry_sorted (PyProof.Rows.args_sorted1 _) ?_
  unfold Builtin.«sorted»
  refine wpAny_bind (m := checkCount "sorted" 1 1 _) (wpAny_pure ?_)
  refine wpAny_bind (collect_hot (A := X.A.in1) (knd := mixKind X.prog X.w) (kvs := vs) (ep := ep) lo hot hat h16 fun h' tk acc hk hacc => ?_)
  have hal : acc.toList.length = ks.length := by rw [Array.length_toList, hacc.1, hl]
  have hS : IntsAre acc.toList ks := ints_each hal fun j v e => by
    obtain ⟨k, x, e1, e2⟩ := hacc.2 j v (by rw [← Array.getElem?_toList]; exact e)
    have e3 : (vs.map (·.1))[j]? = some k := by rw [List.getElem?_map, e1]; rfl
    rw [hkeys, List.getElem?_map] at e3
    cases e4 : ks[j]? with
    | none => rw [e4] at e3; cases e3
    | some y =>
      rw [e4] at e3
      have e5 : Sum.inl y = k := Option.some.inj e3
      subst e5
      rcases keyIs_shape (show keyIs (Sum.inl y) v = true from e2) with ⟨i, t, ek, ev⟩ | ⟨z, t, ek, ev⟩
      · cases ek
        exact ⟨y, t, rfl, ev⟩
      · cases ek
  have I1 : Inv X pins σ H { s with heap := h', toks := tk } := I.kept hk
  refine wpAny_bind (wpAny_newList ?_ (by rw [hal, sizeLine_eq]; omega))
  have hoL : (h'.push (seqObj "list" acc.toList.toArray 0)).get? h'.objs.size = some (seqObj "list" acc.toList.toArray 0) := Heap.get?_push_size _ rfl
  show wpAny _ _ _ _ _ { s with heap := h'.push (seqObj "list" acc.toList.toArray 0), toks := tk }
  refine wpAny_bind (wpAny_holding (wpAny_call_entry PyProof.Rows.slot_list_sort ⟨_, hoL, rfl⟩ PyProof.Rows.entry_list_sort
    (PyProof.Rows.list_sort_tree (s := { s with heap := h'.push (seqObj "list" acc.toList.toArray 0), toks := tk }) hoL hS (by rw [hal]; exact h64) fun out ys g1 g2 g3 => ⟨_, rfl, ?_⟩) (PyProof.Rows.args_list_sort _)))
  obtain ⟨e', he'⟩ := PyProof.Rows.sortedHeap_at (vs := acc.toList) (out := out) hoL
  have hlen : (ys.map V.int).length ≤ sizeLine := by
    rw [List.length_map, g2.length_eq]
    exact Nat.le_trans (Nat.le_of_lt h64) (by decide)
  refine wpAny_pure ⟨_, rfl, .ref h'.objs.size, upd H h'.objs.size (.lst (ys.map V.int)), I1.laid (t' := tk) (fun b u e => ?_) (Nat.le_refl _)
    (show ObjOk X.prog X.w _ _ _ (.lst (ys.map V.int)) from ⟨hlen, out.toList, e', vals_of_ints g1, by rw [Array.toArray_toList]; exact he'⟩), rfl, q ys _ g2 g3 (I1.hok.fresh (Nat.le_refl _))⟩
  have hb : b < h'.objs.size := Heap.lt_size e
  rw [PyProof.Rows.sortedHeap_old (Nat.ne_of_lt hb) (by rw [size_push']; exact Nat.lt_succ_of_lt hb)]
  exact Heap.get?_push_of_some _ e
open L2 L2H in
theorem okH {P : Program} {w : World} {K : PySem.W.Frag} {mg : Str → Option Value} {base : Heap} {CX : CXT} {x qual : Str} {st : Stmt} {f : Addr} {fd : FuncData} {N ps : List Str} {k : Nat} {sp : Sp} (F : L2.Fun K x qual st f fd) (S : FnScope N ps (defScope st)) (len : ∀ vs H Q E, sp vs H Q E → vs.length = ps.length)
    (hbody : ∀ (cdv : Value) (A : Around) (outer : List Env) (s : Shared) (H : Hp) (vs : List V) (Q : VK) (E : XK) (p : Addr × Obj), HotC (cxH CX P w K mg base N qual (defScope st) f cdv A outer s H E p) → RoomH k (A.deeper (envOfC qual (defScope st) s.heap.objs.size f cdv)) → sp vs H Q E →
      ∃ t, PSs (cxH CX P w K mg base N qual (defScope st) f cdv A outer s H E p) (defBody st) t ∧ t { nx := fun _ H' => Q .non H', rt := Q } (start N vs) H) : FnH P w K mg base CX (k + 1) f fd ps sp := by
  obtain ⟨oc, od, kV, doc, pm, an, cdv, ct, osl, rfl, lk, hcd⟩ := F.ex
  exact fn_ofH lk hcd S len fun A outer s H vs Q E p hot hr hsp => hbody cdv A outer s H vs Q E p ⟨p, ⟨hot.1, hot.2⟩, List.mem_singleton.mpr rfl⟩ hr hsp
open L2 L2H in
theorem pe_methH0 {X : Cx} {CX : CXT} {k : Nat} {f C : Addr} {fd : FuncData} {ps : List Str} {sp : Sp} {E : L2.St → XK} {m : Str} {pos apos : Pos} {o : Expr} {ta : TE} {pl : Sem Bool} (he : PE X o ta) (c : Cls X.K C) (hm : Meth X.K C m f) (F : FnH X.prog X.w X.K X.mg X.base CX k f fd ps sp) (hr : RoomH k X.A) (hc : HotC X) (hb : Binds X.K fd ps []) (hx : ∀ σ, PassesAt CX X σ (E σ))
    (ht : eval (.Call (.Attribute o m apos) [] [] pos) X.env = (do
      let ov ← eval o X.env
      standAt apos.atName
      let (f, first) ← holding [ov] (getMethod ov m pl)
      callWith pos f first (backTo pos (starEach [] X.env)) (backToKw pos (keywordEach [] X.env))) := by rfl) :
    PE X (.Call (.Attribute o m apos) [] [] pos) (tMethH C m sp E ta tNil) := by
  refine ⟨fun pins s σ H Q I h => ?_⟩
  refine PySem.W.methodCall_KW (pl := pl) (thn (he.run pins s σ H _ I h) fun u s1 ⟨x, H1, I1, rx, a, dx, fs, ex, ea, l, q⟩ => ?_) ht
  subst ex
  obtain rfl : u = Value.ref a := rx
  refine getmeth_ok I1 ea c hm l ?_
  exact PySem.W.callWith_K0 (first := [.ref a]) I1.kIn hm.kp (run_fnH (us := [.ref a]) (vs := [.ref a]) F hr hc hb (hx σ) I1 (.cons rfl .nil) q)
open L2 in
theorem passAt0 {X : Cx} : ∀ σ : L2.St, PassesAt CX0 X σ (fun _ _ _ => False) := fun σ _ _ _ _ _ _ c => c.elim
end BP

/-! The end of a law whose program has one def with a generator expression. Own work. -/
namespace BP
open PySem PySem.Spec PyProof.Rows L2
/-- the law's promise, with the table of that def's code object -/
def spLawT (K : PySem.W.Frag) (Pt : Addr) : Sp := fun vs H Q _ => ∃ (a : Addr) (ns : List Int), vs = [.ref a] ∧ SqL K H a (ns.map V.int) ∧ ns.length ≤ 63 ∧ (∀ z ∈ ns, Builtin.Int.intBits z ≤ 1048576) ∧ H Pt = some (.tbl #[]) ∧ ∀ H', Q (.bl true) H'
theorem walkT {l : PySem.W.OpenLaw} {q : Program} {loose : List Str} {XP : (Str → Option Value) → Heap → Prop} {YP : World → Heap → Prop} {d : DefRec} {K : Params → PySem.W.Frag} {k : Nat} (hn : l.most = some 63) (hdf : d.params.defaults = []) (hr : Room k callerA)
    (hY : ∀ (w : World) (h : Heap), YP w h → (K w.params).In h) (hrec : ((recsOf q).find? fun e => e.name == ("read_number" : Str)).isSome = true)
    (F : ∀ (w : World) (mg : Str → Option Value) (fa : Addr) (h : Heap), (K w.params).In h → h.Ns mainGlobals mg → mg d.name = some (.ref fa) →
      ∃ (fd : FuncData) (c Pt : Addr), PySem.W.tabIn (K w.params) "read_number" = some (c, Pt) ∧ (K w.params).lookup Pt = none ∧ (∀ (s : Shared) (u : Value), BindsTo s fd ⟨[u], []⟩ [("_law_script", u)]) ∧
        ∀ base : Heap, (K w.params).In base → base.Ns mainGlobals mg → GxR.TabB base mg c Pt → FnOk l.prog w (K w.params) mg base CX0 k fa fd ["_law_script"] (spLawT (K w.params) Pt)) :
    PySem.W.WalkO q loose XP YP l.row.toRowW d [] (fun f vs => PySem.call f vs) := by
  refine Att.attach_callB hn hdf fun w s₀ s₁ mg mb fa o pm cd doc a vs ns G Y ho hd hcd hmg hobj hints hlen hbits hg => ?_
  have KX := hY w _ Y
  obtain ⟨dr, hdr⟩ := Option.isSome_iff_exists.mp hrec
  obtain ⟨fd, c, Pt, htab, nPt, hb, hF⟩ := F w mg fa _ KX G.T.g hmg
  obtain ⟨hC, hP⟩ := PySem.W.tab_of G.T KX hdr htab
  have one : ∀ {Z : Addr × Addr → Prop}, Z (c, Pt) → ∀ p ∈ [(c, Pt)], Z p := fun h p hp => by rw [List.mem_singleton.mp hp]; exact h
  exact LamX.law_callTs (cs := [(c, Pt)]) KX G.T.g G.T.b G.T.builtins G.T.nolimit hg (one hP) (one nPt) (one hC) G.T.bmain hobj hints (Nat.le_trans hlen (by decide)) hr
    (fun base X N TB => hF base X N (by obtain ⟨x, y, z⟩ := TB _ List.mem_cons_self; exact ⟨x, y, z⟩)) hb (fun H hH hS => ⟨a, ns, rfl, hS, hlen, hbits, hH _ List.mem_cons_self, fun _ => rfl⟩) fun H e s' z => z
/-- the words as the top has written them -/
def WordsAt (P : Params) (l : List DictEntry) : Prop := ∃ t1 t2 t3 t4 t5 t6 t7 u1 u2 u3 u4 u5 u6 u7 : Tok, l = [⟨PyData.keyHash P "make", .str "make" t1, .int 2 u1⟩, ⟨PyData.keyHash P "hold", .str "hold" t2, .int 2 u2⟩, ⟨PyData.keyHash P "drop", .str "drop" t3, .int 1 u3⟩,
  ⟨PyData.keyHash P "put", .str "put" t4, .int 3 u4⟩, ⟨PyData.keyHash P "empty", .str "empty" t5, .int 2 u5⟩, ⟨PyData.keyHash P "take", .str "take" t6, .int 3 u6⟩, ⟨PyData.keyHash P "tidy", .str "tidy" t7, .int 0 u7⟩]
theorem tab_in {K : PySem.W.Frag} {x : Str} {f c Pt : Addr} {oc vc : Value} {od odc : Option Addr} {fd : FuncData} {sl slc : Array (Option Value)} {vs : Array Value} (h1 : PySem.W.nsIn K mainGlobals x = some (some (.ref f))) (h2 : K.lookup f = some ⟨oc, od, .func fd, sl⟩)
    (h3 : fd.code = .ref c) (h4 : K.lookup c = some ⟨vc, odc, .fields vs, slc⟩) (h5 : vs[11]? = some (.ref Pt)) : PySem.W.tabIn K x = some (c, Pt) := by
  unfold PySem.W.tabIn
  rw [h1]
  dsimp only
  rw [h2]
  dsimp only
  rw [h3]
  dsimp only
  rw [h4]
  dsimp only
  rw [h5]
end BP

namespace BP
open PySem L2
abbrev sWhole : Stmt := top 37
abbrev sNums : Stmt := top 39
abbrev sCellAt : Stmt := top 38
abbrev sDeedBy : Stmt := top 40
abbrev sDone : Stmt := top 41
abbrev sRing : Stmt := top 42
abbrev sStar : Stmt := top 43
abbrev sBegun : Stmt := top 44
abbrev sSeen : Stmt := top 45
abbrev sWordOf : Stmt := top 46
abbrev sHandWrong : Stmt := top 47
abbrev sSlotDue : Stmt := top 48
abbrev sLedDue : Stmt := top 49
abbrev sDue : Stmt := top 50
abbrev sFilled : Stmt := top 51
abbrev sFullTold : Stmt := top 52
abbrev sFullBy : Stmt := top 53
abbrev sNumberBy : Stmt := top 54
abbrev sAsked : Stmt := top 55
abbrev sGood : Stmt := top 56
abbrev sLaw : Stmt := top 57
/-- the names of the built-ins that the law's helpers call -/
structure TxtL (mg : Str → Option Value) : Prop where
  isi : mg "isinstance" = none
  int : mg "int" = none
  bool : mg "bool" = none
  list : mg "list" = none
  len : mg "len" = none
  range : mg "range" = none
  min : mg "min" = none
  sorted : mg "sorted" = none
  set : mg "set" = none
  max : mg "max" = none
  tuple : mg "tuple" = none
  str : mg "str" = none
  all : mg "all" = none
  enumerate : mg "enumerate" = none
def spWhole : Sp := fun vs H Q _ => ∃ n : Int, vs = [.int n] ∧ Q (.bl true) H
def spLaw (K : PySem.W.Frag) : Sp := fun vs H Q _ => ∃ (a : Addr) (ns : List Int), vs = [.ref a] ∧ SqL K H a (ns.map V.int) ∧ ns.length ≤ 63 ∧ ∀ H', Q (.bl true) H'
def spNums : Sp := fun vs H Q _ => ∃ (a b : Addr) (l : List (Option Int)), vs = [.ref a, .ref b] ∧ H a = some (.lst (lV l)) ∧ H b = some (.lst (lV l)) ∧ l.length ≤ 1000 ∧ Q (.bl true) H
section
variable {P : Program} {w : World} {K : PySem.W.Frag} {mg : Str → Option Value} {base : Heap} {C B eH eS eF eB eL : Addr}
theorem scWhole : FnScope ["_law_found"] ["_law_found"] (defScope sWhole) := ⟨rfl, rfl, rfl, by decide +kernel, rfl, by decide +kernel, by decide +kernel⟩
theorem ok_whole {f : Addr} {fd : FuncData} (F : Fun K "_law_whole" "_law_whole" sWhole f fd) (T : TxtL mg) : FnOk P w K mg base CX0 1 f fd ["_law_found"] spWhole := by
  refine F.ok scWhole (fun vs H Q E h => ?_) (fun cdv A outer s H vs Q E hr h => ?_)
  · obtain ⟨n, rfl, _⟩ := h
    rfl
  · obtain ⟨n, rfl, k⟩ := h
    refine ⟨_, pss_one (ps_ret (pe_and (pe_callB call_isi (by rfl) T.isi PyProof.Rows.boot_isinstance (pa_cons (pv 0) (pa_cons (pe_bltn (v := .ty "int") (by rfl) T.int PyProof.Rows.boot_int rfl) pa_nil)))
      (pe_one (pe_not (pe_callB call_isi (by rfl) T.isi PyProof.Rows.boot_isinstance (pa_cons (pv 0) (pa_cons (pe_bltn (v := .ty "bool") (by rfl) T.bool (by decide +kernel) rfl) pa_nil))))))), ?_⟩
    refine ⟨_, rfl, _, _, _, _, true, rfl, .ty "int", .base (.int n), kit_ty (by decide +kernel), _, rfl, ?_⟩
    refine iteT ⟨_, rfl, _, _, _, _, false, rfl, .ty "bool", .base (.int n), kit_ty (by decide +kernel), _, rfl, ?_⟩
    exact k
theorem ixN_int {n : Nat} {h : Int} (h0 : 0 ≤ h) (h1 : h < n) : ixN n h = some h.toNat := by
  unfold ixN
  rw [if_pos h0, if_pos h1]
theorem lV_int (l : List Int) : l.map V.int = lV (l.map some) := by
  unfold lV
  rw [List.map_map]
  rfl
theorem inV_ints (n : Int) : ∀ l : List Int, inV (V.int n) (l.map V.int) = decide (n ∈ l)
  | [] => rfl
  | m :: l => by
    have ih := inV_ints n l
    unfold inV at ih ⊢
    rw [List.map_cons, List.any_cons, ih]
    show ((m == n) || decide (n ∈ l)) = decide (n ∈ m :: l)
    by_cases q : m = n
    · subst q; simp
    · have : ¬ n = m := fun z => q z.symm
      simp [q, this]
theorem flat_ints : ∀ l : List Int, (l.map V.int).all flatV = true
  | [] => rfl
  | m :: l => by rw [List.map_cons, List.all_cons, flat_ints l]; rfl
theorem lV_at {l : List (Option Int)} {i : Nat} {y : V} (hi : (lV l)[i]? = some y) : ∃ o, l[i]? = some o ∧ y = oV o := by
  unfold lV at hi
  rw [List.getElem?_map] at hi
  cases e : l[i]? with
  | none => rw [e] at hi; cases hi
  | some o =>
    rw [e] at hi
    exact ⟨o, rfl, (Option.some.inj hi).symm⟩
theorem ints_at {l : List Int} {i : Nat} {y : V} (hi : (l.map V.int)[i]? = some y) : ∃ n, l[i]? = some n ∧ y = V.int n := by
  rw [List.getElem?_map] at hi
  cases e : l[i]? with
  | none => rw [e] at hi; cases hi
  | some o =>
    rw [e] at hi
    exact ⟨o, rfl, (Option.some.inj hi).symm⟩
/-- the addresses and facts of the program's defs -/
structure Defs (K : PySem.W.Frag) (mg : Str → Option Value) (C B : Addr) (fI fM fO fR fU fE fQ fH fT fG fA fS fX fY fP fL fB fK fCS fCA fPA fRE fTR fTY fDO fBW fWT fLE fCV fCL fRD fRN fAN fPY fD fZ5 fZ4 fZ1 fZ2 fZ3 fS1 fS2 fS3 fS4 fS5 fS6 fS7 fS8 fS9 fSA fSB fSC : Addr) (dI dM dO dR dU dE dQ dH dT dG dA dS dX dY dP dL dB dK dCS dCA dPA dRE dTR dTY dDO dBW dWT dLE dCV dCL dRD dRN dAN dPY dD dZ5 dZ4 dZ1 dZ2 dZ3 dS1 dS2 dS3 dS4 dS5 dS6 dS7 dS8 dS9 dSA dSB dSC : FuncData) : Prop where
  FI : Fun K "__init__" "Pile.__init__" sInit fI dI
  bI : Binds K dI ["self"] []
  MC : Mk K C fI
  FM : Fun K "make" "Pile.make" sMake fM dM
  bM : Binds K dM ["self", "hand", "size"] []
  mM : Meth K C "make" fM
  FO : Fun K "hold" "Pile.hold" sHold fO dO
  bO : Binds K dO ["self", "hand", "other"] []
  mO : Meth K C "hold" fO
  FR : Fun K "drop" "Pile.drop" sDrop fR dR
  bR : Binds K dR ["self", "hand"] []
  mR : Meth K C "drop" fR
  FU : Fun K "put" "Pile.put" sPut fU dU
  bU : Binds K dU ["self", "hand", "slot", "other"] []
  mU : Meth K C "put" fU
  FE : Fun K "empty" "Pile.empty" sEmpty fE dE
  bE : Binds K dE ["self", "hand", "slot"] []
  mE : Meth K C "empty" fE
  FQ : Fun K "take" "Pile.take" sTake fQ dQ
  bQ : Binds K dQ ["self", "hand", "other", "slot"] []
  mQ : Meth K C "take" fQ
  FH : Fun K "holds" "Pile.holds" sHolds fH dH
  bH : Binds K dH ["self", "hand"] []
  mH : Meth K C "holds" fH
  FT : Fun K "points" "Pile.points" sPoints fT dT
  bT : Binds K dT ["self", "number"] []
  mT : Meth K C "points" fT
  FG : Fun K "weighs" "Pile.weighs" sWeighs fG dG
  bG : Binds K dG ["self", "number"] []
  mG : Meth K C "weighs" fG
  FA : Fun K "alive" "Pile.alive" sAlive fA dA
  bA : Binds K dA ["self"] []
  mA : Meth K C "alive" fA
  FS : Fun K "suspects" "Pile.suspects" sSuspects fS dS
  bS : Binds K dS ["self"] []
  mS : Meth K C "suspects" fS
  FX : Fun K "_box" "Pile._box" sBox fX dX
  bX : Binds K dX ["self", "number"] []
  mX : Meth K C "_box" fX
  FY : Fun K "_slots_with" "Pile._slots_with" sSlotsWith fY dY
  bY : Binds K dY ["self", "hand", "slot"] []
  mY : Meth K C "_slots_with" fY
  FP : Fun K "_point" "Pile._point" sPoint fP dP
  bP : Binds K dP ["self", "pointers", "at", "number"] []
  mP : Meth K C "_point" fP
  FL : Fun K "_let_go" "Pile._let_go" sLetGo fL dL
  bL : Binds K dL ["self", "pointer"] []
  mL : Meth K C "_let_go" fL
  FB : Fun K "__init__" "Box.__init__" sBoxInit fB dB
  bB : Binds K dB ["self", "size"] []
  MB : Mk K B fB
  FK : Fun K "check_hand" "check_hand" sCheck fK dK
  bK : Binds K dK ["hand"] []
  gK : mg "check_hand" = some (.ref fK)
  FCS : Fun K "check_slot" "check_slot" sCheckSlot fCS dCS
  bCS : Binds K dCS ["slots", "slot"] []
  gCS : mg "check_slot" = some (.ref fCS)
  FCA : Fun K "clear_away" "Pile.clear_away" sClear fCA dCA
  bCA : Binds K dCA ["self", "numbers"] []
  mCA : Meth K C "clear_away" fCA
  FPA : Fun K "pointed_at" "pointed_at" sPointedAt fPA dPA
  bPA : Binds K dPA ["pile", "number"] []
  gPA : mg "pointed_at" = some (.ref fPA)
  FRE : Fun K "reached" "reached" sReached fRE dRE
  bRE : Binds K dRE ["pile", "numbers"] []
  gRE : mg "reached" = some (.ref fRE)
  FTR : Fun K "trials" "trials" sTrials fTR dTR
  bTR : Binds K dTR ["pile"] []
  gTR : mg "trials" = some (.ref fTR)
  FTY : Fun K "tidy" "tidy" sTidy fTY dTY
  bTY : Binds K dTY ["pile"] []
  gTY : mg "tidy" = some (.ref fTY)
  FDO : Fun K "done" "done" sDoneP fDO dDO
  bDO : Binds K dDO ["pile", "deed"] []
  gDO : mg "done" = some (.ref fDO)
  FBW : Fun K "best_ways" "best_ways" sBestWays fBW dBW
  bBW : Binds K dBW ["pile"] []
  gBW : mg "best_ways" = some (.ref fBW)
  FWT : Fun K "way_to" "way_to" sWayTo fWT dWT
  bWT : Binds K dWT ["pile", "number"] []
  gWT : mg "way_to" = some (.ref fWT)
  FLE : Fun K "led" "led" sLed fLE dLE
  bLE : Binds K dLE ["pile", "way"] []
  gLE : mg "led" = some (.ref fLE)
  FCV : Fun K "check_alive" "check_alive" sCheckAlive fCV dCV
  bCV : Binds K dCV ["pile", "number"] []
  gCV : mg "check_alive" = some (.ref fCV)
  FCL : Fun K "check_leads" "check_leads" sCheckLeads fCL dCL
  bCL : Binds K dCL ["number"] []
  gCL : mg "check_leads" = some (.ref fCL)
  FRD : Fun K "read" "read" sRead fRD dRD
  bRD : Binds K dRD ["line"] []
  gRD : mg "read" = some (.ref fRD)
  FRN : Fun K "read_number" "read_number" sReadNumber fRN dRN
  bRN : Binds K dRN ["part"] []
  gRN : mg "read_number" = some (.ref fRN)
  FAN : Fun K "answer" "answer" sAnswer fAN dAN
  bAN : Binds K dAN ["pile", "line"] []
  gAN : mg "answer" = some (.ref fAN)
  FPY : Fun K "played" "played" sPlayed fPY dPY
  bPY : Binds K dPY ["lines"] []
  gPY : mg "played" = some (.ref fPY)
  FD : Fun K "_law_cell_at" "_law_cell_at" sCellAt fD dD
  bD : Binds K dD ["_law_script", "_law_k"] []
  gD : mg "_law_cell_at" = some (.ref fD)
  FZ5 : Fun K "_law_deed_by" "_law_deed_by" sDeedBy fZ5 dZ5
  bZ5 : Binds K dZ5 ["_law_one", "_law_two", "_law_few"] []
  gZ5 : mg "_law_deed_by" = some (.ref fZ5)
  FZ4 : Fun K "_law_done" "_law_done" sDone fZ4 dZ4
  bZ4 : Binds K dZ4 ["_law_pile", "_law_deed"] []
  gZ4 : mg "_law_done" = some (.ref fZ4)
  FZ1 : Fun K "_law_ring" "_law_ring" sRing fZ1 dZ1
  bZ1 : Binds K dZ1 ["_law_pile", "_law_many", "_law_closed"] []
  gZ1 : mg "_law_ring" = some (.ref fZ1)
  FZ2 : Fun K "_law_star" "_law_star" sStar fZ2 dZ2
  bZ2 : Binds K dZ2 ["_law_pile", "_law_many", "_law_closed"] []
  gZ2 : mg "_law_star" = some (.ref fZ2)
  FZ3 : Fun K "_law_begun" "_law_begun" sBegun fZ3 dZ3
  bZ3 : Binds K dZ3 ["_law_pile", "_law_script"] []
  gZ3 : mg "_law_begun" = some (.ref fZ3)
  FS1 : Fun K "_law_seen" "_law_seen" sSeen fS1 dS1
  bS1 : Binds K dS1 ["_law_pile"] []
  gS1 : mg "_law_seen" = some (.ref fS1)
  FS2 : Fun K "_law_word_of" "_law_word_of" sWordOf fS2 dS2
  bS2 : Binds K dS2 ["_law_pile", "_law_deed"] []
  gS2 : mg "_law_word_of" = some (.ref fS2)
  FS3 : Fun K "_law_hand_wrong" "_law_hand_wrong" sHandWrong fS3 dS3
  bS3 : Binds K dS3 ["_law_hand"] []
  gS3 : mg "_law_hand_wrong" = some (.ref fS3)
  FS4 : Fun K "_law_slot_due" "_law_slot_due" sSlotDue fS4 dS4
  bS4 : Binds K dS4 ["_law_pile", "_law_hand", "_law_slot"] []
  gS4 : mg "_law_slot_due" = some (.ref fS4)
  FS5 : Fun K "_law_led_due" "_law_led_due" sLedDue fS5 dS5
  bS5 : Binds K dS5 ["_law_pile", "_law_deed"] []
  gS5 : mg "_law_led_due" = some (.ref fS5)
  FS6 : Fun K "_law_due" "_law_due" sDue fS6 dS6
  bS6 : Binds K dS6 ["_law_pile", "_law_deed"] []
  gS6 : mg "_law_due" = some (.ref fS6)
  FS7 : Fun K "_law_filled" "_law_filled" sFilled fS7 dS7
  bS7 : Binds K dS7 ["_law_pile"] []
  gS7 : mg "_law_filled" = some (.ref fS7)
  FS8 : Fun K "_law_full_told" "_law_full_told" sFullTold fS8 dS8
  bS8 : Binds K dS8 [] []
  gS8 : mg "_law_full_told" = some (.ref fS8)
  FS9 : Fun K "_law_full_by" "_law_full_by" sFullBy fS9 dS9
  bS9 : Binds K dS9 ["_law_pile"] []
  gS9 : mg "_law_full_by" = some (.ref fS9)
  FSA : Fun K "_law_number_by" "_law_number_by" sNumberBy fSA dSA
  bSA : Binds K dSA ["_law_cell"] []
  gSA : mg "_law_number_by" = some (.ref fSA)
  FSB : Fun K "_law_asked" "_law_asked" sAsked fSB dSB
  bSB : Binds K dSB ["_law_pile", "_law_cells"] []
  gSB : mg "_law_asked" = some (.ref fSB)
  FSC : Fun K "_law_good" "_law_good" sGood fSC dSC
  bSC : Binds K dSC ["_law_pile", "_law_cells"] []
  gSC : mg "_law_good" = some (.ref fSC)
abbrev nCellAt : List Str := ["_law_script", "_law_k"]
abbrev nDeedBy : List Str := ["_law_one", "_law_two", "_law_few", "_law_words", "_law_word", "_law_hand", "_law_other", "_law_size", "_law_slot"]
abbrev nRing : List Str := ["_law_pile", "_law_many", "_law_closed", "_law_k"]
abbrev nStar : List Str := ["_law_pile", "_law_many", "_law_closed", "_law_k", "_law_slot"]
abbrev nBegun : List Str := ["_law_pile", "_law_script", "_law_first"]
abbrev nSeen : List Str := ["_law_pile", "_law_seen_here", "_law_number", "_law_hand"]
abbrev nHandWrong : List Str := ["_law_hand"]
abbrev nSlotDue : List Str := ["_law_pile", "_law_hand", "_law_slot", "_law_held"]
abbrev nLedDue : List Str := ["_law_pile", "_law_deed", "_law_number", "_law_slot", "_law_room"]
abbrev nDue : List Str := ["_law_pile", "_law_deed", "_law_alive", "_law_number"]
abbrev nFilled : List Str := ["_law_pile"]
abbrev nFullTold : List Str := ["_law_lines", "_law_k", "_law_told"]
abbrev nNumberBy : List Str := ["_law_cell"]
abbrev nAsked : List Str := ["_law_pile", "_law_cells", "_law_words", "_law_many", "_law_pick", "_law_numbers_here", "_law_alive", "_law_way", "_law_one", "_law_k", "_law_number"]
abbrev nGood : List Str := ["_law_pile", "_law_cells", "_law_deed", "_law_due_here", "_law_seen_here"]
abbrev nLaw : List Str := ["_law_script", "_law_pile", "_law_few", "_law_k", "_law_turn"]
abbrev nWordOf : List Str := ["_law_pile", "_law_deed", "e", "_law_some", "_law_word", "_law_fits"]
abbrev nFullBy : List Str := ["_law_pile"]
/-! ### the law's small helpers -/
def spCellAt (K : PySem.W.Frag) : Sp := fun vs H Q _ => ∃ (a : Addr) (ns : List Int) (k : Nat), vs = [.ref a, .int k] ∧ SqL K H a (ns.map V.int) ∧ Q (.int (ns.getD k 0)) H
theorem scCellAt : FnScope nCellAt ["_law_script", "_law_k"] (defScope sCellAt) := ⟨rfl, rfl, rfl, by decide +kernel, rfl, by decide +kernel, by decide +kernel⟩
theorem ok_cellat {f : Addr} {fd : FuncData} (F : Fun K "_law_cell_at" "_law_cell_at" sCellAt f fd) (TL : TxtL mg) : FnOk P w K mg base CX0 1 f fd ["_law_script", "_law_k"] (spCellAt K) := by
  refine F.ok scCellAt (fun vs H Q E h => ?_) (fun cdv A outer s H vs Q E hr h => ?_)
  · obtain ⟨a, ns, n, rfl, _⟩ := h
    rfl
  · obtain ⟨a, ns, n, rfl, hS, k⟩ := h
    have nd := scCellAt.nd
    refine ⟨_, (pss_cons (ps_if (pt_cmpR op_lt (pv 1) (pe_callB call_len_seq (by rfl) TL.len PySem.boot_len (pa_cons (pv 0) pa_nil)) (nomark _)) (pss_one (ps_ret (pe_ix ix_list (pv 0) (pv 1) (fun _ _ => rfl)))) pss_nil)
      (pss_one (ps_ret pe_int))), ?_⟩
    refine ⟨_, rfl, _, rfl, a, _, rfl, .inl hS, _, _, rfl, rfl, _, rfl, ?_⟩
    rw [List.length_map]
    by_cases c : n < ns.length
    · refine if_pos_of (decide_eq_true (by omega)) ?_
      have e : ns.getD n 0 = ns[n] := by rw [List.getD_eq_getElem?_getD, List.getElem?_eq_getElem c]; rfl
      rw [e] at k
      exact ⟨_, rfl, _, rfl, a, _, _, _, rfl, rfl, hS, at_of (j := n) rfl (by rw [List.getElem?_map, List.getElem?_eq_getElem c]; rfl), k⟩
    · refine if_neg_of (decide_eq_false (by omega)) ?_
      have e : ns.getD n 0 = 0 := by rw [List.getD_eq_getElem?_getD, List.getElem?_eq_none (by omega)]; rfl
      rw [e] at k
      exact k
/-! ### how it begins: deeds upon a pile in order -/
theorem Good.has {P : Pl} (G : Good P) {h n s : Nat} (hs : Has P h n) (hn : s < n) {x : Option Int} (hx : ∀ n, x = some n → ∃ b, get P.boxes n = some b) : ∃ k b, P.hands.getD h none = some k ∧ get P.boxes k = some b ∧ s < b.slots.length ∧ Good (ptSlot P k s x).1 := by
  obtain ⟨k, b, h1, h2, h3⟩ := hs
  exact ⟨k, b, h1, h2, by omega, G.slot h2 (by omega) hx⟩
def sgMake (C B : Addr) : Sp := fun vs H Q _ => ∃ (p : Addr) (g : Geo) (P : Pl) (R : Hp) (h s : Int), vs = [.ref p, .int h, .int s] ∧ PileAt C B p g P R H ∧ Good P ∧ (0 ≤ h ∧ h < 8) ∧ (0 ≤ s ∧ s ≤ 6) ∧ P.made < 60 ∧
  ∀ (r : Addr) (g2 : Geo) (P2 : Pl) (H2 : Hp), PileAt C B p g2 P2 R H2 → Good P2 → (∀ h' n, h' ≠ h.toNat → Has P h' n → Has P2 h' n) → Has P2 h.toNat s.toNat → P2.made = P.made + 1 → Q (.ref r) H2
def sgHold (C B : Addr) : Sp := fun vs H Q _ => ∃ (p : Addr) (g : Geo) (P : Pl) (R : Hp) (h o : Int), vs = [.ref p, .int h, .int o] ∧ PileAt C B p g P R H ∧ Good P ∧ (0 ≤ h ∧ h < 8) ∧ (0 ≤ o ∧ o < 8) ∧
  ∀ (r : Addr) (g2 : Geo) (P2 : Pl) (H2 : Hp), PileAt C B p g2 P2 R H2 → Good P2 → (∀ h' n, h' ≠ h.toNat → Has P h' n → Has P2 h' n) → P2.made = P.made → Q (.ref r) H2
def sgDrop (C B : Addr) : Sp := fun vs H Q _ => ∃ (p : Addr) (g : Geo) (P : Pl) (R : Hp) (h : Int), vs = [.ref p, .int h] ∧ PileAt C B p g P R H ∧ Good P ∧ (0 ≤ h ∧ h < 8) ∧
  ∀ (r : Addr) (g2 : Geo) (P2 : Pl) (H2 : Hp), PileAt C B p g2 P2 R H2 → Good P2 → (∀ h' n, h' ≠ h.toNat → Has P h' n → Has P2 h' n) → P2.made = P.made → Q (.ref r) H2
def sgPut (C B : Addr) : Sp := fun vs H Q _ => ∃ (p : Addr) (g : Geo) (P : Pl) (R : Hp) (h s o : Int) (n : Nat), vs = [.ref p, .int h, .int s, .int o] ∧ PileAt C B p g P R H ∧ Good P ∧ (0 ≤ h ∧ h < 8) ∧ (0 ≤ o ∧ o < 8) ∧ Has P h.toNat n ∧ (0 ≤ s ∧ s < (n : Int)) ∧
  ∀ (r : Addr) (g2 : Geo) (P2 : Pl) (H2 : Hp), PileAt C B p g2 P2 R H2 → Good P2 → (∀ h' n, Has P h' n → Has P2 h' n) → P2.made = P.made → Q (.ref r) H2
theorem sg_put (vs : List V) (H : Hp) (Q : VK) (E : XK) (q : sgPut C B vs H Q E) : spPut C B eH eB eL vs H Q E := by
  obtain ⟨p, g, P', R, h, s, o, n, rfl, A, G, hb, ob, hs, sb, kk⟩ := q
  obtain ⟨k, b, h1, h2, h3, G2⟩ := G.has (s := s.toNat) hs (by omega) (x := P'.hands.getD o.toNat none) (fun n e => G.wf.hand e)
  refine ⟨p, P', R, h, s, o, rfl, ⟨⟨g, A⟩, G.wf⟩, fun z => absurd hb z, fun _ z => absurd ob z, fun _ _ z => absurd (h1.symm.trans z) (by intro q; cases q), fun _ _ n' b' e1 e2 z => ?_, fun _ _ n' b' e1 e2 z r H' hr ⟨⟨g', A'⟩, W'⟩ => ?_⟩
  · have : n' = k := Option.some.inj (e1.symm.trans h1)
    subst this
    have : b' = b := Option.some.inj (e2.symm.trans h2)
    subst this
    exact absurd ⟨sb.1, by omega⟩ z
  · have : n' = k := Option.some.inj (e1.symm.trans h1)
    subst this
    exact kk r g' _ H' (A'.less (same_upd hr)) G2 (fun h n q => q.slot G2) rfl
theorem sg_hold (vs : List V) (H : Hp) (Q : VK) (E : XK) (q : sgHold C B vs H Q E) : spHold C B eH vs H Q E := by
  obtain ⟨p, g, P', R, h, o, rfl, A, G, hb, ob, kk⟩ := q
  have G2 := G.hold (i := h.toNat) (j := o.toNat) (by omega)
  exact ⟨p, P', R, h, o, rfl, ⟨⟨g, A⟩, G.wf⟩, fun z => absurd hb z, fun _ z => absurd ob z, fun _ _ r H' hr ⟨⟨g', A'⟩, W'⟩ => kk r g' _ H' (A'.less (same_upd hr)) G2 (fun h' n c q => q.hand c G2) rfl⟩
theorem sg_drop (vs : List V) (H : Hp) (Q : VK) (E : XK) (q : sgDrop C B vs H Q E) : spDrop C B eH vs H Q E := by
  obtain ⟨p, g, P', R, h, rfl, A, G, hb, kk⟩ := q
  have G2 := G.drop (i := h.toNat) (by omega)
  exact ⟨p, P', R, h, rfl, ⟨⟨g, A⟩, G.wf⟩, fun z => absurd hb z, fun _ r H' hr ⟨⟨g', A'⟩, W'⟩ => kk r g' _ H' (A'.less (same_upd hr)) G2 (fun h' n c q => q.hand c G2) rfl⟩
theorem sg_make (vs : List V) (H : Hp) (Q : VK) (E : XK) (q : sgMake C B vs H Q E) : spMake C B eH eS eF vs H Q E := by
  obtain ⟨p, g, P', R, h, s, rfl, A, G, hb, sb, m, kk⟩ := q
  have few := G.few
  have G2 := G.make (i := h.toNat) (size := s.toNat) (by omega) (by omega) (by omega)
  exact ⟨p, P', R, h, s, rfl, ⟨⟨g, A⟩, G.wf⟩, fun z => absurd hb z, fun _ z => absurd sb z, fun _ _ z => absurd z (by omega), fun _ _ _ r H' hr ⟨⟨g', A'⟩, W'⟩ => kk r g' _ H' (A'.less (same_upd hr)) G2 (fun h' n c q => q.mk G.wf c G2) (has_mk G.wf (by omega) G2) rfl⟩
def spRing (C B : Addr) : Sp := fun vs H Q _ => ∃ (p : Addr) (g : Geo) (R : Hp) (many : Int) (cl : Bool), vs = [.ref p, .int many, .bl cl] ∧ PileAt C B p g pl0 R H ∧ 0 ≤ many ∧ many ≤ 40 ∧ ∀ (g' : Geo) (P' : Pl) (H' : Hp), PileAt C B p g' P' R H' → Good P' → P'.made ≤ 45 → Q .non H'
theorem scRing : FnScope nRing ["_law_pile", "_law_many", "_law_closed"] (defScope sRing) := ⟨rfl, rfl, rfl, by decide +kernel, rfl, by decide +kernel, by decide +kernel⟩
theorem ok_ring {f fI fM fO fR fU fE fQ fH fT fG fA fS fX fY fP fL fB fK fCS fCA fPA fRE fTR fTY fDO fBW fWT fLE fCV fCL fRD fRN fAN fPY fD fZ5 fZ4 fZ1 fZ2 fZ3 fS1 fS2 fS3 fS4 fS5 fS6 fS7 fS8 fS9 fSA fSB fSC : Addr} {fd dI dM dO dR dU dE dQ dH dT dG dA dS dX dY dP dL dB dK dCS dCA dPA dRE dTR dTY dDO dBW dWT dLE dCV dCL dRD dRN dAN dPY dD dZ5 dZ4 dZ1 dZ2 dZ3 dS1 dS2 dS3 dS4 dS5 dS6 dS7 dS8 dS9 dSA dSB dSC : FuncData} (F : Fun K "_law_ring" "_law_ring" sRing f fd) (T : Txt K mg C B eH eS eF eB eL) (TL : TxtL mg) (D : Defs K mg C B fI fM fO fR fU fE fQ fH fT fG fA fS fX fY fP fL fB fK fCS fCA fPA fRE fTR fTY fDO fBW fWT fLE fCV fCL fRD fRN fAN fPY fD fZ5 fZ4 fZ1 fZ2 fZ3 fS1 fS2 fS3 fS4 fS5 fS6 fS7 fS8 fS9 fSA fSB fSC dI dM dO dR dU dE dQ dH dT dG dA dS dX dY dP dL dB dK dCS dCA dPA dRE dTR dTY dDO dBW dWT dLE dCV dCL dRD dRN dAN dPY dD dZ5 dZ4 dZ1 dZ2 dZ3 dS1 dS2 dS3 dS4 dS5 dS6 dS7 dS8 dS9 dSA dSB dSC) : FnOk P w K mg base CX0 4 f fd ["_law_pile", "_law_many", "_law_closed"] (spRing C B) := by
  have GM : FnOk P w K mg base (L2N.CX P w) 3 fM dM ["self", "hand", "size"] (sgMake C B) := FnOk.imp (ok_make D.FM T D.FL D.bL D.mL D.FP D.bP D.mP D.MB D.FB D.bB D.FK D.bK D.gK) (fun vs H Q E q => sg_make vs H Q E q)
  have GO : FnOk P w K mg base (L2N.CX P w) 3 fO dO ["self", "hand", "other"] (sgHold C B) := FnOk.imp (ok_hold D.FO T D.FL D.bL D.mL D.FP D.bP D.mP D.FK D.bK D.gK) (fun vs H Q E q => sg_hold vs H Q E q)
  have GR : FnOk P w K mg base (L2N.CX P w) 3 fR dR ["self", "hand"] (sgDrop C B) := FnOk.imp (ok_drop D.FR T D.FL D.bL D.mL D.FP D.bP D.mP D.FK D.bK D.gK) (fun vs H Q E q => sg_drop vs H Q E q)
  have GU : FnOk P w K mg base (L2N.CX P w) 3 fU dU ["self", "hand", "slot", "other"] (sgPut C B) := FnOk.imp (ok_put D.FU T D.FL D.bL D.mL D.FP D.bP D.mP D.FK D.bK D.gK D.FY D.bY D.mY D.FCS D.bCS D.gCS) (fun vs H Q E q => sg_put vs H Q E q)
  refine F.ok scRing (fun vs H Q E h => ?_) (fun cdv A outer s H vs Q E hr h => ?_)
  · obtain ⟨p, g, R, many, cl, rfl, _⟩ := h
    rfl
  · obtain ⟨p, g, R, many, cl, rfl, A0, m0, m40, k⟩ := h
    have nd := scRing.nd
    have hr3 : Room 3 _ := hr
    refine ⟨_, (pss_cons (ps_expr (pe_meth (pv 0) T.clC D.mM GM hr3 D.bM .nil passLN (pa_cons pe_int (pa_cons pe_int pa_nil))))
      (pss_cons (ps_expr (pe_meth (pv 0) T.clC D.mO GO hr3 D.bO .nil passLN (pa_cons pe_int (pa_cons pe_int pa_nil))))
      (pss_cons (ps_expr (pe_meth (pv 0) T.clC D.mO GO hr3 D.bO .nil passLN (pa_cons pe_int (pa_cons pe_int pa_nil))))
      (pss_cons (ps_for PassesOwn.never rfl (pi_range1 (by rfl) TL.range (pa_cons (pv 1) pa_nil)) (pg_name (i := 3) nd rfl (Or.inl rfl))
      (pss_cons (ps_expr (pe_meth (pv 0) T.clC D.mM GM hr3 D.bM .nil passLN (pa_cons pe_int (pa_cons (pe_op op_add pe_int (pe_op op_mod (pv 3) pe_int)) pa_nil))))
      (pss_cons (ps_expr (pe_meth (pv 0) T.clC D.mU GU hr3 D.bU .nil passLN (pa_cons pe_int (pa_cons (pe_op op_mod (pv 3) pe_int) (pa_cons pe_int pa_nil)))))
      (pss_cons (ps_mid (ps_if (pt_cmpR op_gt (pe_op op_mod (pv 3) pe_int) pe_int (nomark _)) (pss_one (ps_expr (pe_meth (pv 0) T.clC D.mU GU hr3 D.bU .nil passLN (pa_cons pe_int (pa_cons pe_int (pa_cons pe_int pa_nil)))))) pss_nil))
      (pss_cons (ps_mid (ps_if (pt_cmpR op_eq (pe_op op_mod (pv 3) pe_int) pe_int (nomark _)) (pss_one (ps_expr (pe_meth (pv 0) T.clC D.mO GO hr3 D.bO .nil passLN (pa_cons pe_int (pa_cons pe_int pa_nil))))) pss_nil))
      (pss_one (ps_expr (pe_meth (pv 0) T.clC D.mO GO hr3 D.bO .nil passLN (pa_cons pe_int (pa_cons pe_int pa_nil))))))))))
      (pss_cons (ps_expr (pe_meth (pv 0) T.clC D.mR GR hr3 D.bR .nil passLN (pa_cons pe_int pa_nil)))
      (pss_one (ps_mid (ps_if (pt_val (pv 2)) (pss_cons (ps_expr (pe_meth (pv 0) T.clC D.mU GU hr3 D.bU .nil passLN (pa_cons pe_int (pa_cons pe_int (pa_cons pe_int pa_nil)))))
      (pss_cons (ps_expr (pe_meth (pv 0) T.clC D.mR GR hr3 D.bR .nil passLN (pa_cons pe_int pa_nil)))
      (pss_one (ps_expr (pe_meth (pv 0) T.clC D.mR GR hr3 D.bR .nil passLN (pa_cons pe_int pa_nil)))))) pss_nil)))))))), ?_⟩
    refine ⟨_, rfl, p, g.dx, _, rfl, A0.hp, pf_no _ _ _ (by decide +kernel) (by decide +kernel) (by decide +kernel), p, g, pl0, R, 0, 1, rfl, A0, good0, ⟨by decide, by decide⟩, ⟨by decide, by decide⟩, by decide, fun r1 g1 P1 H1 A1 G1 _ s1 e1 => ?_⟩
    refine ⟨_, rfl, p, g1.dx, _, rfl, A1.hp, pf_no _ _ _ (by decide +kernel) (by decide +kernel) (by decide +kernel), p, g1, P1, R, 1, 0, rfl, A1, G1, ⟨by decide, by decide⟩, ⟨by decide, by decide⟩, fun r2 g2 P2 H2 A2 G2 k2 e2 => ?_⟩
    have s2 := k2 0 1 (by decide) s1
    refine ⟨_, rfl, p, g2.dx, _, rfl, A2.hp, pf_no _ _ _ (by decide +kernel) (by decide +kernel) (by decide +kernel), p, g2, P2, R, 3, 0, rfl, A2, G2, ⟨by decide, by decide⟩, ⟨by decide, by decide⟩, fun r3 g3 P3 H3 A3 G3 k3 e3 => ?_⟩
    have s3 := k3 0 1 (by decide) s2
    have e3' : P3.made = 1 := by rw [e3, e2, e1]; rfl
    clear k3 k2 s2 s1 e3 e2 e1 A2 A1 G2 G1
    refine ⟨_, rfl, many, rfl, by omega, by omega, ?_⟩
    refine for_range (lo := 0) (n := many.toNat) (fun i σ H' => ∃ (g : Geo) (P' : Pl) (v3 : Option V), σ = [some (.ref p), some (.int many), some (.bl cl), v3] ∧ PileAt C B p g P' R H' ∧ Good P' ∧ Has P' 0 1 ∧ P'.made = 1 + (i : Int))
      ⟨g3, P3, none, rfl, A3, G3, s3, by rw [e3']; rfl⟩ ?_ ?_
    · clear A3 G3 s3 e3'
      rintro i σ H3 hi ⟨g3, P3, v3, rfl, A3, G3, s3, e3⟩
      have hi' : i < 40 := by have : i < many.toNat := hi; omega
      have c0 : 0 ≤ (0 + (i : Int)) % 6 := Int.emod_nonneg _ (by decide)
      have c6 : (0 + (i : Int)) % 6 < 6 := Int.emod_lt_of_pos _ (by decide)
      refine ⟨_, rfl, p, g3.dx, _, rfl, A3.hp, pf_no _ _ _ (by decide +kernel) (by decide +kernel) (by decide +kernel), _, rfl, _, _, rfl, rfl, (by show (0 : Int) < 6; decide), _, _, rfl, rfl, p, g3, P3, R, 2, 1 + (0 + (i : Int)) % 6, rfl, A3, G3, ⟨by decide, by decide⟩, ⟨by omega, by omega⟩, by omega, fun r4 g4 P4 H4 A4 G4 k4 s4 e4 => ?_⟩
      have t4 := k4 0 1 (by decide) s3
      replace s4 : Has P4 2 (1 + (0 + (i : Int)) % 6).toNat := s4
      refine ⟨_, rfl, p, g4.dx, _, rfl, A4.hp, pf_no _ _ _ (by decide +kernel) (by decide +kernel) (by decide +kernel), _, rfl, _, _, rfl, rfl, (by show (0 : Int) < 6; decide), p, g4, P4, R, 2, (0 + (i : Int)) % 6, 1, _, rfl, A4, G4, ⟨by decide, by decide⟩, ⟨by decide, by decide⟩, s4, ⟨by omega, by omega⟩, fun r5 g5 P5 H5 A5 G5 k5 e5 => ?_⟩
      have t5 := k5 0 1 t4
      have s5 := k5 _ _ s4
      have e5' : P5.made = 1 + ((i + 1 : Nat) : Int) := by rw [e5, e4, e3]; omega
      clear k5 k4 e5 e4 e3 A4 A3 G4 G3 t4 s4 s3
      refine ⟨fun σ' H' => ∃ (g : Geo) (P' : Pl), σ' = [some (.ref p), some (.int many), some (.bl cl), some (.int (0 + (i : Int)))] ∧ PileAt C B p g P' R H' ∧ Good P' ∧ Has P' 0 1 ∧ P'.made = 1 + ((i + 1 : Nat) : Int), ?_, ?_⟩
      · refine ⟨_, rfl, _, _, rfl, rfl, (by show (0 : Int) < 6; decide), _, _, rfl, rfl, _, rfl, ?_⟩
        by_cases c : 0 < (0 + (i : Int)) % 6
        · refine if_pos_of (decide_eq_true c) ?_
          refine ⟨_, rfl, p, g5.dx, _, rfl, A5.hp, pf_no _ _ _ (by decide +kernel) (by decide +kernel) (by decide +kernel), p, g5, P5, R, 2, 0, 3, _, rfl, A5, G5, ⟨by decide, by decide⟩, ⟨by decide, by decide⟩, s5, ⟨by decide, by omega⟩, fun r6 g6 P6 H6 A6 G6 k6 e6 => ?_⟩
          exact ⟨g6, P6, rfl, A6, G6, k6 0 1 t5, by rw [e6, e5']⟩
        · refine if_neg_of (decide_eq_false c) ?_
          exact ⟨g5, P5, rfl, A5, G5, t5, e5'⟩
      clear A5 G5 t5 e5' s5
      rintro σ' H6 ⟨g6, P6, rfl, A6, G6, t6, e6⟩
      refine ⟨fun σ' H' => ∃ (g : Geo) (P' : Pl), σ' = [some (.ref p), some (.int many), some (.bl cl), some (.int (0 + (i : Int)))] ∧ PileAt C B p g P' R H' ∧ Good P' ∧ Has P' 0 1 ∧ P'.made = 1 + ((i + 1 : Nat) : Int), ?_, ?_⟩
      · refine ⟨_, rfl, _, _, rfl, rfl, (by show (0 : Int) < 5; decide), rfl, _, rfl, ?_⟩
        by_cases c : V.int ((0 + (i : Int)) % 5) = V.int 3
        · refine if_pos_of (decide_eq_true c) ?_
          refine ⟨_, rfl, p, g6.dx, _, rfl, A6.hp, pf_no _ _ _ (by decide +kernel) (by decide +kernel) (by decide +kernel), p, g6, P6, R, 3, 1, rfl, A6, G6, ⟨by decide, by decide⟩, ⟨by decide, by decide⟩, fun r7 g7 P7 H7 A7 G7 k7 e7 => ?_⟩
          exact ⟨g7, P7, rfl, A7, G7, k7 0 1 (by decide) t6, by rw [e7, e6]⟩
        · refine if_neg_of (decide_eq_false c) ?_
          exact ⟨g6, P6, rfl, A6, G6, t6, e6⟩
      clear A6 G6 t6 e6
      rintro σ' H6 ⟨g6, P6, rfl, A6, G6, t6, e6⟩
      refine ⟨_, rfl, p, g6.dx, _, rfl, A6.hp, pf_no _ _ _ (by decide +kernel) (by decide +kernel) (by decide +kernel), p, g6, P6, R, 1, 2, rfl, A6, G6, ⟨by decide, by decide⟩, ⟨by decide, by decide⟩, fun r7 g7 P7 H7 A7 G7 k7 e7 => ?_⟩
      exact ⟨g7, P7, _, rfl, A7, G7, k7 0 1 (by decide) t6, by rw [e7, e6]⟩
    · clear A3 G3 s3 e3'
      rintro σ H3 ⟨g3, P3, v3, rfl, A3, G3, s3, e3⟩
      refine ⟨_, rfl, p, g3.dx, _, rfl, A3.hp, pf_no _ _ _ (by decide +kernel) (by decide +kernel) (by decide +kernel), p, g3, P3, R, 2, rfl, A3, G3, ⟨by decide, by decide⟩, fun r4 g4 P4 H4 A4 G4 k4 e4 => ?_⟩
      have s4 := k4 0 1 (by decide) s3
      refine ⟨fun σ' H' => ∃ (g : Geo) (P' : Pl), PileAt C B p g P' R H' ∧ Good P' ∧ P'.made ≤ 45, ?_, fun σ' H' ⟨g', P', A', G', m'⟩ => k g' P' H' A' G' m'⟩
      refine ⟨_, rfl, cl, rfl, ?_⟩
      cases cl with
      | false =>
        refine iteF ?_
        exact ⟨g4, P4, A4, G4, by omega⟩
      | true =>
        refine iteT ?_
        refine ⟨_, rfl, p, g4.dx, _, rfl, A4.hp, pf_no _ _ _ (by decide +kernel) (by decide +kernel) (by decide +kernel), p, g4, P4, R, 0, 0, 1, 1, rfl, A4, G4, ⟨by decide, by decide⟩, ⟨by decide, by decide⟩, s4, ⟨by decide, by decide⟩, fun r5 g5 P5 H5 A5 G5 k5 e5 => ?_⟩
        refine ⟨_, rfl, p, g5.dx, _, rfl, A5.hp, pf_no _ _ _ (by decide +kernel) (by decide +kernel) (by decide +kernel), p, g5, P5, R, 1, rfl, A5, G5, ⟨by decide, by decide⟩, fun r6 g6 P6 H6 A6 G6 k6 e6 => ?_⟩
        refine ⟨_, rfl, p, g6.dx, _, rfl, A6.hp, pf_no _ _ _ (by decide +kernel) (by decide +kernel) (by decide +kernel), p, g6, P6, R, 3, rfl, A6, G6, ⟨by decide, by decide⟩, fun r7 g7 P7 H7 A7 G7 k7 e7 => ?_⟩
        exact ⟨g7, P7, A7, G7, by omega⟩
theorem scStar : FnScope nStar ["_law_pile", "_law_many", "_law_closed"] (defScope sStar) := ⟨rfl, rfl, rfl, by decide +kernel, rfl, by decide +kernel, by decide +kernel⟩
theorem ok_star {f fI fM fO fR fU fE fQ fH fT fG fA fS fX fY fP fL fB fK fCS fCA fPA fRE fTR fTY fDO fBW fWT fLE fCV fCL fRD fRN fAN fPY fD fZ5 fZ4 fZ1 fZ2 fZ3 fS1 fS2 fS3 fS4 fS5 fS6 fS7 fS8 fS9 fSA fSB fSC : Addr} {fd dI dM dO dR dU dE dQ dH dT dG dA dS dX dY dP dL dB dK dCS dCA dPA dRE dTR dTY dDO dBW dWT dLE dCV dCL dRD dRN dAN dPY dD dZ5 dZ4 dZ1 dZ2 dZ3 dS1 dS2 dS3 dS4 dS5 dS6 dS7 dS8 dS9 dSA dSB dSC : FuncData} (F : Fun K "_law_star" "_law_star" sStar f fd) (T : Txt K mg C B eH eS eF eB eL) (TL : TxtL mg) (D : Defs K mg C B fI fM fO fR fU fE fQ fH fT fG fA fS fX fY fP fL fB fK fCS fCA fPA fRE fTR fTY fDO fBW fWT fLE fCV fCL fRD fRN fAN fPY fD fZ5 fZ4 fZ1 fZ2 fZ3 fS1 fS2 fS3 fS4 fS5 fS6 fS7 fS8 fS9 fSA fSB fSC dI dM dO dR dU dE dQ dH dT dG dA dS dX dY dP dL dB dK dCS dCA dPA dRE dTR dTY dDO dBW dWT dLE dCV dCL dRD dRN dAN dPY dD dZ5 dZ4 dZ1 dZ2 dZ3 dS1 dS2 dS3 dS4 dS5 dS6 dS7 dS8 dS9 dSA dSB dSC) : FnOk P w K mg base CX0 4 f fd ["_law_pile", "_law_many", "_law_closed"] (spRing C B) := by
  have GM : FnOk P w K mg base (L2N.CX P w) 3 fM dM ["self", "hand", "size"] (sgMake C B) := FnOk.imp (ok_make D.FM T D.FL D.bL D.mL D.FP D.bP D.mP D.MB D.FB D.bB D.FK D.bK D.gK) (fun vs H Q E q => sg_make vs H Q E q)
  have GO : FnOk P w K mg base (L2N.CX P w) 3 fO dO ["self", "hand", "other"] (sgHold C B) := FnOk.imp (ok_hold D.FO T D.FL D.bL D.mL D.FP D.bP D.mP D.FK D.bK D.gK) (fun vs H Q E q => sg_hold vs H Q E q)
  have GR : FnOk P w K mg base (L2N.CX P w) 3 fR dR ["self", "hand"] (sgDrop C B) := FnOk.imp (ok_drop D.FR T D.FL D.bL D.mL D.FP D.bP D.mP D.FK D.bK D.gK) (fun vs H Q E q => sg_drop vs H Q E q)
  have GU : FnOk P w K mg base (L2N.CX P w) 3 fU dU ["self", "hand", "slot", "other"] (sgPut C B) := FnOk.imp (ok_put D.FU T D.FL D.bL D.mL D.FP D.bP D.mP D.FK D.bK D.gK D.FY D.bY D.mY D.FCS D.bCS D.gCS) (fun vs H Q E q => sg_put vs H Q E q)
  refine F.ok scStar (fun vs H Q E h => ?_) (fun cdv A outer s H vs Q E hr h => ?_)
  · obtain ⟨p, g, R, many, cl, rfl, _⟩ := h
    rfl
  · obtain ⟨p, g, R, many, cl, rfl, A0, m0, m40, k⟩ := h
    have nd := scStar.nd
    have hr3 : Room 3 _ := hr
    refine ⟨_, (pss_cons (ps_expr (pe_meth (pv 0) T.clC D.mM GM hr3 D.bM .nil passLN (pa_cons pe_int (pa_cons pe_int pa_nil))))
      (pss_cons (ps_expr (pe_meth (pv 0) T.clC D.mM GM hr3 D.bM .nil passLN (pa_cons pe_int (pa_cons pe_int pa_nil))))
      (pss_cons (ps_expr (pe_meth (pv 0) T.clC D.mO GO hr3 D.bO .nil passLN (pa_cons pe_int (pa_cons pe_int pa_nil))))
      (pss_cons (ps_for PassesOwn.never rfl (pi_range1 (by rfl) TL.range (pa_cons (pv 1) pa_nil)) (pg_name (i := 3) nd rfl (Or.inl rfl))
      (pss_cons (ps_expr (pe_meth (pv 0) T.clC D.mM GM hr3 D.bM .nil passLN (pa_cons pe_int (pa_cons pe_int pa_nil))))
      (pss_cons (ps_for PassesOwn.never rfl (pi_range1 (by rfl) TL.range (pa_cons pe_int pa_nil)) (pg_name (i := 4) nd rfl (Or.inl rfl))
      (pss_one (ps_expr (pe_meth (pv 0) T.clC D.mU GU hr3 D.bU .nil passLN (pa_cons pe_int (pa_cons (pv 4) (pa_cons pe_int pa_nil)))))))
      (pss_cons (ps_expr (pe_meth (pv 0) T.clC D.mU GU hr3 D.bU .nil passLN (pa_cons pe_int (pa_cons pe_int (pa_cons pe_int pa_nil)))))
      (pss_one (ps_expr (pe_meth (pv 0) T.clC D.mO GO hr3 D.bO .nil passLN (pa_cons pe_int (pa_cons pe_int pa_nil)))))))))
      (pss_cons (ps_expr (pe_meth (pv 0) T.clC D.mR GR hr3 D.bR .nil passLN (pa_cons pe_int pa_nil)))
      (pss_one (ps_mid (ps_if (pt_val (pv 2)) (pss_cons (ps_expr (pe_meth (pv 0) T.clC D.mU GU hr3 D.bU .nil passLN (pa_cons pe_int (pa_cons pe_int (pa_cons pe_int pa_nil)))))
      (pss_cons (ps_expr (pe_meth (pv 0) T.clC D.mR GR hr3 D.bR .nil passLN (pa_cons pe_int pa_nil)))
      (pss_one (ps_expr (pe_meth (pv 0) T.clC D.mR GR hr3 D.bR .nil passLN (pa_cons pe_int pa_nil)))))) pss_nil)))))))), ?_⟩
    refine ⟨_, rfl, p, g.dx, _, rfl, A0.hp, pf_no _ _ _ (by decide +kernel) (by decide +kernel) (by decide +kernel), p, g, pl0, R, 3, 0, rfl, A0, good0, ⟨by decide, by decide⟩, ⟨by decide, by decide⟩, by decide, fun r1 g1 P1 H1 A1 G1 _ _ e1 => ?_⟩
    have e1' : P1.made = 1 := by rw [e1]; rfl
    refine ⟨_, rfl, p, g1.dx, _, rfl, A1.hp, pf_no _ _ _ (by decide +kernel) (by decide +kernel) (by decide +kernel), p, g1, P1, R, 0, 6, rfl, A1, G1, ⟨by decide, by decide⟩, ⟨by decide, by decide⟩, by rw [e1']; decide, fun r2 g2 P2 H2 A2 G2 _ s2 e2 => ?_⟩
    replace s2 : Has P2 0 6 := s2
    refine ⟨_, rfl, p, g2.dx, _, rfl, A2.hp, pf_no _ _ _ (by decide +kernel) (by decide +kernel) (by decide +kernel), p, g2, P2, R, 1, 0, rfl, A2, G2, ⟨by decide, by decide⟩, ⟨by decide, by decide⟩, fun r3 g3 P3 H3 A3 G3 k3 e3 => ?_⟩
    have s3 := k3 0 6 (by decide) s2
    have e3' : P3.made = 2 := by rw [e3, e2, e1']; rfl
    clear k3 s2 e3 e2 e1 e1' A2 A1 G2 G1
    refine ⟨_, rfl, many, rfl, by omega, by omega, ?_⟩
    refine for_range (lo := 0) (n := many.toNat) (fun i σ H' => ∃ (g : Geo) (P' : Pl) (v3 v4 : Option V), σ = [some (.ref p), some (.int many), some (.bl cl), v3, v4] ∧ PileAt C B p g P' R H' ∧ Good P' ∧ Has P' 0 6 ∧ P'.made = 2 + (i : Int))
      ⟨g3, P3, none, none, rfl, A3, G3, s3, by rw [e3']; rfl⟩ ?_ ?_
    · clear A3 G3 s3 e3'
      rintro i σ H3 hi ⟨g3, P3, v3, v4, rfl, A3, G3, s3, e3⟩
      have hi' : i < 40 := by have : i < many.toNat := hi; omega
      refine ⟨_, rfl, p, g3.dx, _, rfl, A3.hp, pf_no _ _ _ (by decide +kernel) (by decide +kernel) (by decide +kernel), p, g3, P3, R, 2, 6, rfl, A3, G3, ⟨by decide, by decide⟩, ⟨by decide, by decide⟩, by omega, fun r4 g4 P4 H4 A4 G4 k4 s4 e4 => ?_⟩
      have t4 := k4 0 6 (by decide) s3
      replace s4 : Has P4 2 6 := s4
      have e4' : P4.made = 2 + ((i + 1 : Nat) : Int) := by rw [e4, e3]; omega
      clear k4 e4 e3 A3 G3 s3
      refine ⟨5, rfl, by decide, by decide, for_range (lo := 0) (n := (5 : Int).toNat) (fun j σ H' => ∃ (g : Geo) (P' : Pl) (v4 : Option V), σ = [some (.ref p), some (.int many), some (.bl cl), some (.int (0 + (i : Int))), v4] ∧ PileAt C B p g P' R H' ∧ Good P' ∧ Has P' 0 6 ∧ Has P' 2 6 ∧ P'.made = 2 + ((i + 1 : Nat) : Int))
        ⟨g4, P4, v4, rfl, A4, G4, t4, s4, e4'⟩ ?_ ?_⟩
      · clear A4 G4 t4 s4 e4'
        rintro j σ H4 hj ⟨g4, P4, v4, rfl, A4, G4, t4, s4, e4⟩
        have hj' : j < 5 := hj
        refine ⟨_, rfl, p, g4.dx, _, rfl, A4.hp, pf_no _ _ _ (by decide +kernel) (by decide +kernel) (by decide +kernel), _, rfl, p, g4, P4, R, 2, 0 + (j : Int), 3, 6, rfl, A4, G4, ⟨by decide, by decide⟩, ⟨by decide, by decide⟩, s4, ⟨by omega, by omega⟩, fun r5 g5 P5 H5 A5 G5 k5 e5 => ?_⟩
        exact ⟨g5, P5, _, rfl, A5, G5, k5 0 6 t4, k5 2 6 s4, by rw [e5, e4]⟩
      · clear A4 G4 t4 s4 e4'
        rintro σ H4 ⟨g4, P4, v4, rfl, A4, G4, t4, s4, e4⟩
        refine ⟨_, rfl, p, g4.dx, _, rfl, A4.hp, pf_no _ _ _ (by decide +kernel) (by decide +kernel) (by decide +kernel), p, g4, P4, R, 2, 5, 1, 6, rfl, A4, G4, ⟨by decide, by decide⟩, ⟨by decide, by decide⟩, s4, ⟨by decide, by decide⟩, fun r5 g5 P5 H5 A5 G5 k5 e5 => ?_⟩
        refine ⟨_, rfl, p, g5.dx, _, rfl, A5.hp, pf_no _ _ _ (by decide +kernel) (by decide +kernel) (by decide +kernel), p, g5, P5, R, 1, 2, rfl, A5, G5, ⟨by decide, by decide⟩, ⟨by decide, by decide⟩, fun r6 g6 P6 H6 A6 G6 k6 e6 => ?_⟩
        exact ⟨g6, P6, _, _, rfl, A6, G6, k6 0 6 (by decide) (k5 0 6 t4), by rw [e6, e5, e4]⟩
    · clear A3 G3 s3 e3'
      rintro σ H3 ⟨g3, P3, v3, v4, rfl, A3, G3, s3, e3⟩
      refine ⟨_, rfl, p, g3.dx, _, rfl, A3.hp, pf_no _ _ _ (by decide +kernel) (by decide +kernel) (by decide +kernel), p, g3, P3, R, 2, rfl, A3, G3, ⟨by decide, by decide⟩, fun r4 g4 P4 H4 A4 G4 k4 e4 => ?_⟩
      have s4 := k4 0 6 (by decide) s3
      refine ⟨fun σ' H' => ∃ (g : Geo) (P' : Pl), PileAt C B p g P' R H' ∧ Good P' ∧ P'.made ≤ 45, ?_, fun σ' H' ⟨g', P', A', G', m'⟩ => k g' P' H' A' G' m'⟩
      refine ⟨_, rfl, cl, rfl, ?_⟩
      cases cl with
      | false =>
        refine iteF ?_
        exact ⟨g4, P4, A4, G4, by omega⟩
      | true =>
        refine iteT ?_
        refine ⟨_, rfl, p, g4.dx, _, rfl, A4.hp, pf_no _ _ _ (by decide +kernel) (by decide +kernel) (by decide +kernel), p, g4, P4, R, 0, 5, 1, 6, rfl, A4, G4, ⟨by decide, by decide⟩, ⟨by decide, by decide⟩, s4, ⟨by decide, by decide⟩, fun r5 g5 P5 H5 A5 G5 k5 e5 => ?_⟩
        refine ⟨_, rfl, p, g5.dx, _, rfl, A5.hp, pf_no _ _ _ (by decide +kernel) (by decide +kernel) (by decide +kernel), p, g5, P5, R, 0, rfl, A5, G5, ⟨by decide, by decide⟩, fun r6 g6 P6 H6 A6 G6 k6 e6 => ?_⟩
        refine ⟨_, rfl, p, g6.dx, _, rfl, A6.hp, pf_no _ _ _ (by decide +kernel) (by decide +kernel) (by decide +kernel), p, g6, P6, R, 1, rfl, A6, G6, ⟨by decide, by decide⟩, fun r7 g7 P7 H7 A7 G7 k7 e7 => ?_⟩
        exact ⟨g7, P7, A7, G7, by omega⟩
def spBegun (C B : Addr) (K : PySem.W.Frag) : Sp := fun vs H Q _ => ∃ (p a : Addr) (g : Geo) (R : Hp) (ns : List Int), vs = [.ref p, .ref a] ∧ PileAt C B p g pl0 R H ∧ SqL K H a (ns.map V.int) ∧ ∀ (g' : Geo) (P' : Pl) (H' : Hp) (few : Int), PileAt C B p g' P' R H' → Good P' → P'.made ≤ 45 → (few = 3 ∨ few = 9 ∨ few = 4) → Q (.int few) H'
theorem scBegun : FnScope nBegun ["_law_pile", "_law_script"] (defScope sBegun) := ⟨rfl, rfl, rfl, by decide +kernel, rfl, by decide +kernel, by decide +kernel⟩
theorem ok_begun {f fI fM fO fR fU fE fQ fH fT fG fA fS fX fY fP fL fB fK fCS fCA fPA fRE fTR fTY fDO fBW fWT fLE fCV fCL fRD fRN fAN fPY fD fZ5 fZ4 fZ1 fZ2 fZ3 fS1 fS2 fS3 fS4 fS5 fS6 fS7 fS8 fS9 fSA fSB fSC : Addr} {fd dI dM dO dR dU dE dQ dH dT dG dA dS dX dY dP dL dB dK dCS dCA dPA dRE dTR dTY dDO dBW dWT dLE dCV dCL dRD dRN dAN dPY dD dZ5 dZ4 dZ1 dZ2 dZ3 dS1 dS2 dS3 dS4 dS5 dS6 dS7 dS8 dS9 dSA dSB dSC : FuncData} (F : Fun K "_law_begun" "_law_begun" sBegun f fd) (T : Txt K mg C B eH eS eF eB eL) (TL : TxtL mg) (D : Defs K mg C B fI fM fO fR fU fE fQ fH fT fG fA fS fX fY fP fL fB fK fCS fCA fPA fRE fTR fTY fDO fBW fWT fLE fCV fCL fRD fRN fAN fPY fD fZ5 fZ4 fZ1 fZ2 fZ3 fS1 fS2 fS3 fS4 fS5 fS6 fS7 fS8 fS9 fSA fSB fSC dI dM dO dR dU dE dQ dH dT dG dA dS dX dY dP dL dB dK dCS dCA dPA dRE dTR dTY dDO dBW dWT dLE dCV dCL dRD dRN dAN dPY dD dZ5 dZ4 dZ1 dZ2 dZ3 dS1 dS2 dS3 dS4 dS5 dS6 dS7 dS8 dS9 dSA dSB dSC) : FnOk P w K mg base CX0 5 f fd ["_law_pile", "_law_script"] (spBegun C B K) := by
  have GD : FnOk P w K mg base CX0 1 fD dD ["_law_script", "_law_k"] (spCellAt K) := ok_cellat D.FD TL
  have GZ1 : FnOk P w K mg base CX0 4 fZ1 dZ1 ["_law_pile", "_law_many", "_law_closed"] (spRing C B) := ok_ring D.FZ1 T TL D
  have GZ2 : FnOk P w K mg base CX0 4 fZ2 dZ2 ["_law_pile", "_law_many", "_law_closed"] (spRing C B) := ok_star D.FZ2 T TL D
  refine F.ok scBegun (fun vs H Q E h => ?_) (fun cdv A outer s H vs Q E hr h => ?_)
  · obtain ⟨p, a, g, R, ns, rfl, _⟩ := h
    rfl
  · obtain ⟨p, a, g, R, ns, rfl, A0, hS, k⟩ := h
    have nd := scBegun.nd
    have hr1 : Room 1 _ := hr.mono (by decide)
    have hr4 : Room 4 _ := hr
    refine ⟨_, (pss_cons (ps_set (i := 2) nd rfl (Or.inl rfl) (pe_call GD hr1 (by rfl) D.gD D.FD.kp D.bD .nil pass0 (pa_cons (pv 1) (pa_cons pe_int pa_nil))))
      (pss_cons (ps_mid (ps_if (pt_cmpR op_eq (pe_op op_mod (pv 2) pe_int) pe_int (nomark _)) (pss_one (ps_expr (pe_call GZ1 hr4 (by rfl) D.gZ1 D.FZ1.kp D.bZ1 .nil pass0 (pa_cons (pv 0) (pa_cons (pe_op op_mod (pe_op op_fdiv (pv 2) pe_int) pe_int) (pa_cons (pe_cmpR op_eq (pe_op op_mod (pe_op op_fdiv (pv 2) pe_int) pe_int) pe_int (nomark _)) pa_nil)))))) pss_nil))
      (pss_cons (ps_mid (ps_if (pt_cmpR op_eq (pe_op op_mod (pv 2) pe_int) pe_int (nomark _)) (pss_one (ps_expr (pe_call GZ2 hr4 (by rfl) D.gZ2 D.FZ2.kp D.bZ2 .nil pass0 (pa_cons (pv 0) (pa_cons (pe_op op_mod (pe_op op_fdiv (pv 2) pe_int) pe_int) (pa_cons (pe_cmpR op_eq (pe_op op_mod (pe_op op_fdiv (pv 2) pe_int) pe_int) pe_int (nomark _)) pa_nil)))))) pss_nil))
      (pss_one (ps_ret (pe_ix ix_list (pe_lst (pa_cons pe_int (pa_cons pe_int (pa_cons pe_int pa_nil)))) (pe_op op_mod (pe_op op_fdiv (pv 2) pe_int) pe_int) (fun _ _ => rfl))))))), ?_⟩
    refine ⟨_, rfl, a, ns, 0, rfl, hS, ?_⟩
    generalize ns.getD 0 0 = c
    have d0 : 0 ≤ c / 3 % 30 := Int.emod_nonneg _ (by decide)
    have d1 : c / 3 % 30 < 30 := Int.emod_lt_of_pos _ (by decide)
    have f0 : 0 ≤ c / 3 % 25 := Int.emod_nonneg _ (by decide)
    have f1 : c / 3 % 25 < 25 := Int.emod_lt_of_pos _ (by decide)
    refine ⟨fun σ' H' => ∃ (g : Geo) (P' : Pl), σ' = [some (.ref p), some (.ref a), some (.int c)] ∧ PileAt C B p g P' R H' ∧ Good P' ∧ P'.made ≤ 45 ∧ (c % 3 ≠ 2 → P' = pl0), ?_, ?_⟩
    · refine ⟨_, rfl, _, _, rfl, rfl, (by show (0 : Int) < 3; decide), rfl, _, rfl, ?_⟩
      by_cases q : V.int (c % 3) = V.int 2
      · refine if_pos_of (decide_eq_true q) ?_
        refine ⟨_, rfl, _, rfl, _, _, rfl, rfl, ⟨by decide, by decide⟩, _, _, rfl, rfl, (by show (0 : Int) < 30; decide), _, rfl, _, _, rfl, rfl, ⟨by decide, by decide⟩, _, _, rfl, rfl, (by show (0 : Int) < 2; decide), rfl, p, g, R, c / 3 % 30, _, rfl, A0, d0, by omega, fun g1 P1 H1 A1 G1 m1 => ?_⟩
        exact ⟨g1, P1, rfl, A1, G1, m1, fun z => absurd (by injection q) z⟩
      · refine if_neg_of (decide_eq_false q) ?_
        exact ⟨g, pl0, rfl, A0, good0, by decide, fun _ => rfl⟩
    rintro σ' H1 ⟨g1, P1, rfl, A1, G1, m1, z1⟩
    refine ⟨fun σ' H' => ∃ (g : Geo) (P' : Pl), σ' = [some (.ref p), some (.ref a), some (.int c)] ∧ PileAt C B p g P' R H' ∧ Good P' ∧ P'.made ≤ 45, ?_, ?_⟩
    · refine ⟨_, rfl, _, _, rfl, rfl, (by show (0 : Int) < 3; decide), rfl, _, rfl, ?_⟩
      by_cases q : V.int (c % 3) = V.int 1
      · refine if_pos_of (decide_eq_true q) ?_
        have q' : c % 3 = 1 := by injection q
        have := z1 (by omega)
        subst this
        refine ⟨_, rfl, _, rfl, _, _, rfl, rfl, ⟨by decide, by decide⟩, _, _, rfl, rfl, (by show (0 : Int) < 25; decide), _, rfl, _, _, rfl, rfl, ⟨by decide, by decide⟩, _, _, rfl, rfl, (by show (0 : Int) < 2; decide), rfl, p, g1, R, c / 3 % 25, _, rfl, A1, f0, by omega, fun g2 P2 H2 A2 G2 m2 => ?_⟩
        exact ⟨g2, P2, rfl, A2, G2, m2⟩
      · refine if_neg_of (decide_eq_false q) ?_
        exact ⟨g1, P1, rfl, A1, G1, m1⟩
    clear A1 G1 z1
    rintro σ' H2 ⟨g2, P2, rfl, A2, G2, m2⟩
    have e0 : 0 ≤ c / 300 % 3 := Int.emod_nonneg _ (by decide)
    have e3 : c / 300 % 3 < 3 := Int.emod_lt_of_pos _ (by decide)
    refine ⟨(by show 3 ≤ sizeLine; decide), fun L hL => ?_⟩
    have A3 := A2.new (o := .lst [.int 3, .int 9, .int 4]) hL
    have rL := A2.same.free hL
    replace A3 := A3.less (same_upd rL)
    have hl : ∃ few : Int, ([V.int 3, V.int 9, V.int 4] : List V)[(c / 300 % 3).toNat]? = some (.int few) ∧ (few = 3 ∨ few = 9 ∨ few = 4) := by
      generalize c / 300 % 3 = z at e0 e3
      have : z = 0 ∨ z = 1 ∨ z = 2 := by omega
      rcases this with rfl | rfl | rfl
      · exact ⟨3, rfl, .inl rfl⟩
      · exact ⟨9, rfl, .inr (.inl rfl)⟩
      · exact ⟨4, rfl, .inr (.inr rfl)⟩
    obtain ⟨few, hf, hfew⟩ := hl
    refine ⟨_, rfl, _, _, rfl, rfl, ⟨by decide, by decide⟩, _, _, rfl, rfl, (by show (0 : Int) < 3; decide), L, _, _, _, rfl, rfl, SqL.of upd_same, at_of (j := (c / 300 % 3).toNat) (by omega) hf, ?_⟩
    exact k g2 P2 _ few A3 G2 m2 hfew
/-! ### a drawn deed -/
def spDeedBy : Sp := fun vs H Q _ => ∃ (a b few : Int), vs = [.int a, .int b, .int few] ∧ 0 < few ∧ few ≤ 9 ∧ ∀ (t : Addr) (H' : Hp) (d : Deed), H t = none → Same H H' → H' t = some (.tup d.vs) → d.InZ few 8 → Q (.ref t) H'
theorem scDeedBy : FnScope nDeedBy ["_law_one", "_law_two", "_law_few"] (defScope sDeedBy) := ⟨rfl, rfl, rfl, by decide +kernel, rfl, by decide +kernel, by decide +kernel⟩
theorem ok_deedby {f : Addr} {fd : FuncData} (F : Fun K "_law_deed_by" "_law_deed_by" sDeedBy f fd) : FnOk P w K mg base CX0 1 f fd ["_law_one", "_law_two", "_law_few"] spDeedBy := by
  refine F.ok scDeedBy (fun vs H Q E h => ?_) (fun cdv A outer s H vs Q E hr h => ?_)
  · obtain ⟨a, b, few, rfl, _⟩ := h
    rfl
  · obtain ⟨a, b, few, rfl, few0, few9, k⟩ := h
    have nd := scDeedBy.nd
    refine ⟨_, (pss_cons (ps_set (i := 3) nd rfl (Or.inl rfl) (pe_lst (pa_cons pe_str (pa_cons pe_str (pa_cons pe_str (pa_cons pe_str (pa_cons pe_str (pa_cons pe_str (pa_cons pe_str (pa_cons pe_str (pa_cons pe_str (pa_cons pe_str (pa_cons pe_str pa_nil)))))))))))))
      (pss_cons (ps_set (i := 4) nd rfl (Or.inl rfl) (pe_ix ix_list (pv 3) (pe_op op_mod (pv 0) pe_int) (fun _ _ => rfl)))
      (pss_cons (ps_set (i := 5) nd rfl (Or.inl rfl) (pe_op op_modN (pe_op op_fdiv (pv 0) pe_int) (pv 2)))
      (pss_cons (ps_set (i := 6) nd rfl (Or.inl rfl) (pe_op op_modN (pv 1) (pv 2)))
      (pss_cons (ps_set (i := 7) nd rfl (Or.inl rfl) (pe_op op_mod (pe_op op_fdivN (pv 1) (pv 2)) pe_int))
      (pss_cons (ps_set (i := 8) nd rfl (Or.inl rfl) (pe_op op_modN (pv 7) (pe_ix ix_list (pe_lst (pa_cons pe_int (pa_cons pe_int pa_nil))) (pe_op op_mod (pe_op op_fdivN (pe_op op_fdiv (pv 0) pe_int) (pv 2)) pe_int) (fun _ _ => rfl))))
      (pss_cons (ps_if (pt_cmpR op_eq (pv 4) pe_str (nomark _)) (pss_one (ps_ret (pe_tup (pa_cons (pv 4) (pa_cons (pv 5) (pa_cons (pv 7) pa_nil)))))) pss_nil)
      (pss_cons (ps_if (pt_cmpR op_eq (pv 4) pe_str (nomark _)) (pss_one (ps_ret (pe_tup (pa_cons (pv 4) (pa_cons (pv 5) (pa_cons (pv 6) pa_nil)))))) pss_nil)
      (pss_cons (ps_if (pt_cmpR op_eq (pv 4) pe_str (nomark _)) (pss_one (ps_ret (pe_tup (pa_cons (pv 4) (pa_cons (pv 5) pa_nil))))) pss_nil)
      (pss_cons (ps_if (pt_cmpR op_eq (pv 4) pe_str (nomark _)) (pss_one (ps_ret (pe_tup (pa_cons (pv 4) (pa_cons (pv 5) (pa_cons (pv 8) pa_nil)))))) pss_nil)
      (pss_cons (ps_if (pt_cmpR op_eq (pv 4) pe_str (nomark _)) (pss_one (ps_ret (pe_tup (pa_cons (pv 4) (pa_cons (pv 5) (pa_cons (pv 8) (pa_cons (pv 6) pa_nil))))))) pss_nil)
      (pss_cons (ps_if (pt_cmpR op_eq (pv 4) pe_str (nomark _)) (pss_one (ps_ret (pe_tup (pa_cons (pv 4) (pa_cons (pv 5) (pa_cons (pv 6) (pa_cons (pv 8) pa_nil))))))) pss_nil)
      (pss_one (ps_ret (pe_tup (pa_cons (pv 4) pa_nil)))))))))))))))), ?_⟩
    refine ⟨(by show 11 ≤ sizeLine; decide), fun L hL => ?_⟩
    have w0 : 0 ≤ a % 11 := Int.emod_nonneg _ (by decide)
    have w11 : a % 11 < 11 := Int.emod_lt_of_pos _ (by decide)
    obtain ⟨wd, hw, hws⟩ : ∃ wd : Str, ([V.str "make", V.str "put", V.str "take", V.str "hold", V.str "drop", V.str "put", V.str "make", V.str "empty", V.str "take", V.str "tidy", V.str "put"] : List V)[(a % 11).toNat]? = some (.str wd) ∧
        (wd = "make" ∨ wd = "put" ∨ wd = "take" ∨ wd = "hold" ∨ wd = "drop" ∨ wd = "empty" ∨ wd = "tidy") := by
      generalize a % 11 = z at w0 w11
      have : z = 0 ∨ z = 1 ∨ z = 2 ∨ z = 3 ∨ z = 4 ∨ z = 5 ∨ z = 6 ∨ z = 7 ∨ z = 8 ∨ z = 9 ∨ z = 10 := by omega
      rcases this with rfl | rfl | rfl | rfl | rfl | rfl | rfl | rfl | rfl | rfl | rfl
      · exact ⟨_, rfl, .inl rfl⟩
      · exact ⟨_, rfl, .inr (.inl rfl)⟩
      · exact ⟨_, rfl, .inr (.inr (.inl rfl))⟩
      · exact ⟨_, rfl, .inr (.inr (.inr (.inl rfl)))⟩
      · exact ⟨_, rfl, .inr (.inr (.inr (.inr (.inl rfl))))⟩
      · exact ⟨_, rfl, .inr (.inl rfl)⟩
      · exact ⟨_, rfl, .inl rfl⟩
      · exact ⟨_, rfl, .inr (.inr (.inr (.inr (.inr (.inl rfl)))))⟩
      · exact ⟨_, rfl, .inr (.inr (.inl rfl))⟩
      · exact ⟨_, rfl, .inr (.inr (.inr (.inr (.inr (.inr rfl)))))⟩
      · exact ⟨_, rfl, .inr (.inl rfl)⟩
    refine ⟨_, rfl, _, rfl, _, _, rfl, rfl, (by show (0 : Int) < 11; decide), L, _, _, _, rfl, rfl, SqL.of upd_same, at_of (j := (a % 11).toNat) (by omega) hw, ?_⟩
    have h0 : 0 ≤ (a / 11).fmod few := Int.fmod_nonneg_of_pos _ few0
    have h1 : (a / 11).fmod few < few := Int.fmod_lt_of_pos _ few0
    have o0 : 0 ≤ b.fmod few := Int.fmod_nonneg_of_pos _ few0
    have o1 : b.fmod few < few := Int.fmod_lt_of_pos _ few0
    have z0 : 0 ≤ b.fdiv few % 8 := Int.emod_nonneg _ (by decide)
    have z8 : b.fdiv few % 8 < 8 := Int.emod_lt_of_pos _ (by decide)
    refine ⟨_, rfl, _, _, rfl, rfl, ⟨by decide, by decide⟩, _, rfl, _, _, rfl, rfl, (by omega), ?_⟩
    refine ⟨_, rfl, _, rfl, _, _, rfl, rfl, (by omega), ?_⟩
    refine ⟨_, rfl, _, rfl, _, _, rfl, rfl, ⟨by omega, by omega⟩, _, _, rfl, rfl, (by show (0 : Int) < 8; decide), ?_⟩
    refine ⟨_, rfl, (by show 2 ≤ sizeLine; decide), fun L2 hL2 => ?_⟩
    generalize hh : (a / 11).fmod few = h at h0 h1
    have m0 : 0 ≤ (a / 11).fdiv few % 2 := Int.emod_nonneg _ (by decide)
    have m2 : (a / 11).fdiv few % 2 < 2 := Int.emod_lt_of_pos _ (by decide)
    obtain ⟨m, hm, m1⟩ : ∃ m : Int, ([V.int 3, V.int 8] : List V)[((a / 11).fdiv few % 2).toNat]? = some (.int m) ∧ (0 < m ∧ m ≤ 8) := by
      generalize (a / 11).fdiv few % 2 = z at m0 m2
      have : z = 0 ∨ z = 1 := by omega
      rcases this with rfl | rfl
      · exact ⟨3, rfl, by decide, by decide⟩
      · exact ⟨8, rfl, by decide, by decide⟩
    refine ⟨_, rfl, _, _, rfl, rfl, ⟨by decide, by decide⟩, _, rfl, _, _, rfl, rfl, ⟨by omega, by omega⟩, _, _, rfl, rfl, (by show (0 : Int) < 2; decide), L2, _, _, _, rfl, rfl, SqL.of upd_same, at_of (j := ((a / 11).fdiv few % 2).toNat) (by omega) hm, _, _, rfl, rfl, (by omega), ?_⟩
    have s0 : 0 ≤ (b.fdiv few % 8).fmod m := Int.fmod_nonneg_of_pos _ m1.1
    have s1 : (b.fdiv few % 8).fmod m < m := Int.fmod_lt_of_pos _ m1.1
    have seq : ∀ {z z' : Str}, z = z' → decide (V.str z = V.str z') = true := fun e => decide_eq_true (by rw [e])
    have sne : ∀ {z z' : Str}, z ≠ z' → decide (V.str z = V.str z') = false := fun e => decide_eq_false (by intro q; injection q with q; exact e q)
    subst hh
    have hs2 := (same_upd (o := .lst [V.str "make", V.str "put", V.str "take", V.str "hold", V.str "drop", V.str "put", V.str "make", V.str "empty", V.str "take", V.str "tidy", V.str "put"]) hL).trans (same_upd (o := .lst [V.int 3, V.int 8]) hL2)
    refine ⟨_, rfl, rfl, _, rfl, ?_⟩
    rcases hws with rfl | rest
    · refine if_pos_of (seq rfl) ?_
      refine ⟨_, rfl, _, rfl, _, rfl, (by show 3 ≤ sizeLine; decide), fun t ht => ?_⟩
      exact k t _ (.make ((a / 11).fmod few) (b.fdiv few % 8)) (hs2.free ht) (hs2.trans (same_upd ht)) upd_same ⟨⟨h0, h1⟩, z0, z8⟩
    refine if_neg_of (sne (by rcases rest with rfl | rfl | rfl | rfl | rfl | rfl <;> decide +kernel)) ?_
    refine ⟨_, rfl, rfl, _, rfl, ?_⟩
    have rest' : wd = "hold" ∨ wd = "drop" ∨ wd = "empty" ∨ wd = "put" ∨ wd = "take" ∨ wd = "tidy" := by
      rcases rest with e | e | e | e | e | e
      · exact .inr (.inr (.inr (.inl e)))
      · exact .inr (.inr (.inr (.inr (.inl e))))
      · exact .inl e
      · exact .inr (.inl e)
      · exact .inr (.inr (.inl e))
      · exact .inr (.inr (.inr (.inr (.inr e))))
    clear rest
    rcases rest' with rfl | rest
    · refine if_pos_of (seq rfl) ?_
      refine ⟨_, rfl, _, rfl, _, rfl, (by show 3 ≤ sizeLine; decide), fun t ht => ?_⟩
      exact k t _ (.hold ((a / 11).fmod few) (b.fmod few)) (hs2.free ht) (hs2.trans (same_upd ht)) upd_same ⟨⟨h0, h1⟩, o0, o1⟩
    refine if_neg_of (sne (by rcases rest with rfl | rfl | rfl | rfl | rfl <;> decide +kernel)) ?_
    refine ⟨_, rfl, rfl, _, rfl, ?_⟩
    rcases rest with rfl | rest
    · refine if_pos_of (seq rfl) ?_
      refine ⟨_, rfl, _, rfl, (by show 2 ≤ sizeLine; decide), fun t ht => ?_⟩
      exact k t _ (.drop ((a / 11).fmod few)) (hs2.free ht) (hs2.trans (same_upd ht)) upd_same ⟨h0, h1⟩
    refine if_neg_of (sne (by rcases rest with rfl | rfl | rfl | rfl <;> decide +kernel)) ?_
    refine ⟨_, rfl, rfl, _, rfl, ?_⟩
    rcases rest with rfl | rest
    · refine if_pos_of (seq rfl) ?_
      refine ⟨_, rfl, _, rfl, _, rfl, (by show 3 ≤ sizeLine; decide), fun t ht => ?_⟩
      exact k t _ (.empty ((a / 11).fmod few) ((b.fdiv few % 8).fmod m)) (hs2.free ht) (hs2.trans (same_upd ht)) upd_same ⟨⟨h0, h1⟩, s0, by omega⟩
    refine if_neg_of (sne (by rcases rest with rfl | rfl | rfl <;> decide +kernel)) ?_
    refine ⟨_, rfl, rfl, _, rfl, ?_⟩
    rcases rest with rfl | rest
    · refine if_pos_of (seq rfl) ?_
      refine ⟨_, rfl, _, rfl, _, rfl, _, rfl, (by show 4 ≤ sizeLine; decide), fun t ht => ?_⟩
      exact k t _ (.put ((a / 11).fmod few) ((b.fdiv few % 8).fmod m) (b.fmod few)) (hs2.free ht) (hs2.trans (same_upd ht)) upd_same ⟨⟨h0, h1⟩, ⟨s0, by omega⟩, o0, o1⟩
    refine if_neg_of (sne (by rcases rest with rfl | rfl <;> decide +kernel)) ?_
    refine ⟨_, rfl, rfl, _, rfl, ?_⟩
    rcases rest with rfl | rfl
    · refine if_pos_of (seq rfl) ?_
      refine ⟨_, rfl, _, rfl, _, rfl, _, rfl, (by show 4 ≤ sizeLine; decide), fun t ht => ?_⟩
      exact k t _ (.take ((a / 11).fmod few) (b.fmod few) ((b.fdiv few % 8).fmod m)) (hs2.free ht) (hs2.trans (same_upd ht)) upd_same ⟨⟨h0, h1⟩, ⟨o0, o1⟩, s0, by omega⟩
    refine if_neg_of (sne (by decide +kernel)) ?_
    refine ⟨_, rfl, (by show 1 ≤ sizeLine; decide), fun t ht => ?_⟩
    exact k t _ .tidy (hs2.free ht) (hs2.trans (same_upd ht)) upd_same trivial
/-! ### a deed done, or refused -/
structure TxtP (K : PySem.W.Frag) (mg : Str → Option Value) (eP eH eS eF eB eL : Addr) : Prop where
  g : mg "PileError" = some (.ref eP)
  x : ∀ e : Bad, PySem.W.exmOne K (.ref (clsOf eH eS eF eB eL e)) (.ref eP) = some true
theorem exm_sub {S : Addr} {cls : Value} (b : PySem.W.subIn K (.ref S) (.type "BaseException") = some true) (t : PySem.W.typeIn K (.ref S) = some (.type "type")) (i : PySem.W.isClsIn K S = true) {z : Bool} (s : PySem.W.subIn K cls (.ref S) = some z) : PySem.W.exmOne K cls (.ref S) = some z := by
  have h1 : (PySem.W.subIn K (.ref S) (.type "BaseException") == some true) = true := by rw [b] <;> rfl
  have h2 : ((PySem.W.clsIn K S).isSome && PySem.W.typeIn K (.ref S) == some (.type "type")) = true := by rw [show (PySem.W.clsIn K S).isSome = true from i, t] <;> rfl
  unfold PySem.W.exmOne
  rw [if_pos h1]
  exact (if_pos h2).trans s
/-- what is wished of an error within a try, whatever the slots -/
abbrev EW (W : WX) : XK := fun cls d H => ∀ σ, W cls d σ H
def spDoneL (K : PySem.W.Frag) (C B : Addr) : Sp := fun vs H Q _ => ∃ (p t : Addr) (g : Geo) (P : Pl) (R : Hp) (d : Deed), vs = [.ref p, .ref t] ∧ PileAt C B p g P R H ∧ Good P ∧ SqT K H t d.vs ∧ (∀ e, act P d = .bad e → Q .non H) ∧
  (∀ P' f, act P d = .fine P' f → ∀ (r : Addr) (g' : Geo) (H' : Hp), R r = none → PileAt C B p g' P' (upd R r (.lst (f.map V.int))) H' → Q (.ref r) H')
theorem scDone : FnScope ["_law_pile", "_law_deed"] ["_law_pile", "_law_deed"] (defScope sDone) := ⟨rfl, rfl, rfl, by decide +kernel, rfl, by decide +kernel, by decide +kernel⟩
theorem ok_done {f eP fI fM fO fR fU fE fQ fH fT fG fA fS fX fY fP fL fB fK fCS fCA fPA fRE fTR fTY fDO fBW fWT fLE fCV fCL fRD fRN fAN fPY fD fZ5 fZ4 fZ1 fZ2 fZ3 fS1 fS2 fS3 fS4 fS5 fS6 fS7 fS8 fS9 fSA fSB fSC : Addr} {fd dI dM dO dR dU dE dQ dH dT dG dA dS dX dY dP dL dB dK dCS dCA dPA dRE dTR dTY dDO dBW dWT dLE dCV dCL dRD dRN dAN dPY dD dZ5 dZ4 dZ1 dZ2 dZ3 dS1 dS2 dS3 dS4 dS5 dS6 dS7 dS8 dS9 dSA dSB dSC : FuncData} (F : Fun K "_law_done" "_law_done" sDone f fd) (T : Txt K mg C B eH eS eF eB eL) (TP : TxtP K mg eP eH eS eF eB eL) (D : Defs K mg C B fI fM fO fR fU fE fQ fH fT fG fA fS fX fY fP fL fB fK fCS fCA fPA fRE fTR fTY fDO fBW fWT fLE fCV fCL fRD fRN fAN fPY fD fZ5 fZ4 fZ1 fZ2 fZ3 fS1 fS2 fS3 fS4 fS5 fS6 fS7 fS8 fS9 fSA fSB fSC dI dM dO dR dU dE dQ dH dT dG dA dS dX dY dP dL dB dK dCS dCA dPA dRE dTR dTY dDO dBW dWT dLE dCV dCL dRD dRN dAN dPY dD dZ5 dZ4 dZ1 dZ2 dZ3 dS1 dS2 dS3 dS4 dS5 dS6 dS7 dS8 dS9 dSA dSB dSC) : FnOk P w K mg base CX0 8 f fd ["_law_pile", "_law_deed"] (spDoneL K C B) := by
  have GM : FnOk P w K mg base (L2N.CX P w) 3 fM dM ["self", "hand", "size"] (spMake C B eH eS eF) := ok_make D.FM T D.FL D.bL D.mL D.FP D.bP D.mP D.MB D.FB D.bB D.FK D.bK D.gK
  have GO : FnOk P w K mg base (L2N.CX P w) 3 fO dO ["self", "hand", "other"] (spHold C B eH) := ok_hold D.FO T D.FL D.bL D.mL D.FP D.bP D.mP D.FK D.bK D.gK
  have GR : FnOk P w K mg base (L2N.CX P w) 3 fR dR ["self", "hand"] (spDrop C B eH) := ok_drop D.FR T D.FL D.bL D.mL D.FP D.bP D.mP D.FK D.bK D.gK
  have GU : FnOk P w K mg base (L2N.CX P w) 3 fU dU ["self", "hand", "slot", "other"] (spPut C B eH eB eL) := ok_put D.FU T D.FL D.bL D.mL D.FP D.bP D.mP D.FK D.bK D.gK D.FY D.bY D.mY D.FCS D.bCS D.gCS
  have GE : FnOk P w K mg base (L2N.CX P w) 3 fE dE ["self", "hand", "slot"] (spEmpty C B eH eB eL) := ok_empty D.FE T D.FL D.bL D.mL D.FP D.bP D.mP D.FK D.bK D.gK D.FY D.bY D.mY D.FCS D.bCS D.gCS
  have GQ : FnOk P w K mg base (L2N.CX P w) 3 fQ dQ ["self", "hand", "other", "slot"] (spTake C B eH eB eL) := ok_take D.FQ T D.FL D.bL D.mL D.FP D.bP D.mP D.FK D.bK D.gK D.FY D.bY D.mY D.FCS D.bCS D.gCS
  have GT : FnOk P w K mg base (L2N.CX P w) 2 fT dT ["self", "number"] (spPoints C B eB) := ok_points D.FT T D.FX D.bX D.mX
  have GG : FnOk P w K mg base (L2N.CX P w) 2 fG dG ["self", "number"] (spWeighs C B eB) := ok_weighs D.FG T D.FX D.bX D.mX
  have GS : FnOk P w K mg base CX0 1 fS dS ["self"] (spSuspects C B) := ok_suspects D.FS T
  have GCA : FnOk P w K mg base CX0 1 fCA dCA ["self", "numbers"] (spClear C B) := ok_clear D.FCA T
  have GPA : FnOk P w K mg base (L2N.CX P w) 3 fPA dPA ["pile", "number"] (spPointedAt C B eB) := ok_pointedat D.FPA T GT D.bT D.mT
  have GRE : FnOk P w K mg base (L2N.CX P w) 4 fRE dRE ["pile", "numbers"] (spReached K C B eB) := ok_reached D.FRE T GPA D.FPA D.bPA D.gPA
  have GTR : FnOk P w K mg base CX0 5 fTR dTR ["pile"] (spTrials C B) := ok_trials D.FTR T GPA D.FPA D.bPA D.gPA GRE D.FRE D.bRE D.gRE GS D.bS D.mS GG D.bG D.mG
  have GTY : FnOk P w K mg base CX0 6 fTY dTY ["pile"] (spTidy C B) := ok_tidy D.FTY T GTR D.FTR D.bTR D.gTR GRE D.FRE D.bRE D.gRE GCA D.bCA D.mCA
  have GDO : FnOk P w K mg base (L2N.CX P w) 7 fDO dDO ["pile", "deed"] (spDone K C B eH eS eF eB eL) := ok_donep D.FDO T GM D.bM D.mM GO D.bO D.mO GR D.bR D.mR GU D.bU D.mU GE D.bE D.mE GQ D.bQ D.mQ GTY D.FTY D.bTY D.gTY
  refine F.ok scDone (fun vs H Q E h => ?_) (fun cdv A outer s H vs Q E hr h => ?_)
  · obtain ⟨p, t, g, P, R, d, rfl, _⟩ := h
    rfl
  · obtain ⟨p, t, g, P0, R, d, rfl, A0, G, ht, kN, k⟩ := h
    have hr7 : Room 7 _ := hr
    refine ⟨_, pss_one (ps_try_only (c := .ref eP) (tb := fun W => tRet (tCall (spDone K C B eH eS eF eB eL) [] (EW W) (tCons (tVar 0) (tCons (tVar 1) tNil)))) (ts := fun _ _ _ => tRet (tC .non)) (Wout := fun _ _ _ _ => False) rfl rfl ⟨rfl, by decide, .inl TP.g⟩ takes0
      (fun W pn xe tk _ => pss_one (ps_ret (pe_call (E := EW W) GDO hr7 (by rfl) D.gDO D.FDO.kp D.bDO .nil (passes_callM tk (fun cls d σ H h => h σ)) (pa_cons (pv 0) (pa_cons (pv 1) pa_nil)))))
      (fun a oe cls d pn _ _ => pss_one (ps_ret pe_non))), ?_⟩
    exact ⟨_, rfl, _, rfl, p, t, g, P0, R, d, rfl, A0, G, ht, fun e he σ => ⟨true, TP.x e, fun _ a ha => kN e he, fun q => nomatch q⟩, fun P' f hf r g' H' hr A' => k P' f hf r g' H' hr A'⟩
/-- a deed upon a pile in order leaves it in order, and behind a tidy there is no suspect -/
def sgDone (K : PySem.W.Frag) (C B : Addr) : Sp := fun vs H Q _ => ∃ (p t : Addr) (g : Geo) (P : Pl) (R : Hp) (d : Deed), vs = [.ref p, .ref t] ∧ PileAt C B p g P R H ∧ Good P ∧ SqT K H t d.vs ∧
  ∀ (v : V) (g' : Geo) (P' : Pl) (H' : Hp), PileAt C B p g' P' R H' → Good P' → (d = .tidy → susp P' = []) → Q v H'
theorem sg_done (vs : List V) (H : Hp) (Q : VK) (E : XK) (q : sgDone K C B vs H Q E) : spDoneL K C B vs H Q E := by
  obtain ⟨p, t, g, P', R, d, rfl, A, G, ht, kk⟩ := q
  refine ⟨p, t, g, P', R, d, rfl, A, G, ht, fun e he => kk _ g P' H A G fun z => ?_, fun P2 f hf r g' H' hr A' => kk _ g' P2 H' (A'.less (same_upd hr)) (G.act hf) fun z => ?_⟩
  · subst z
    cases he
  · subst z
    injection hf with e1 _
    rw [← e1]
    exact susp_tidied G
/-! ### what is asked, and what is due -/
inductive Ask where
  | deed (d : Deed) | points (n : Int) | weighs (n : Int) | way (n : Int) | reached (l : List Int) | led (h : Int) (ws : List Int) | holds (h : Int)
def Ask.vs : Ask → List V
  | .deed d => d.vs
  | .points n => [.str "points", .int n]
  | .weighs n => [.str "weighs", .int n]
  | .way n => [.str "way", .int n]
  | .reached l => .str "reached" :: l.map V.int
  | .led h ws => .str "led" :: (h :: ws).map V.int
  | .holds h => [.str "holds", .int h]
def Ask.Ok : Ask → Prop
  | .deed d => d ≠ .tidy
  | .reached l => l.length ≤ 10
  | .led _ ws => ws.length ≤ 10
  | _ => True
def badS : Bad → Str
  | .hand => "hand" | .size => "size" | .full => "full" | .box => "box" | .slot => "slot"
def resS : Res → Str
  | .fine _ _ => Str.empty
  | .bad e => badS e
def ledS : Int ⊕ Bool → Str
  | .inl _ => Str.empty
  | .inr true => "box"
  | .inr false => "slot"
def aliveS (P : Pl) (l : List Int) : Str := if ∀ n ∈ l, (get P.boxes n).isSome = true then Str.empty else "box"
open Classical in
noncomputable def dueOf (P : Pl) : Ask → Str
  | .deed d => resS (act P d)
  | .points n => aliveS P [n]
  | .weighs n => aliveS P [n]
  | .way n => aliveS P [n]
  | .reached l => aliveS P l
  | .led h ws => if OkH h then ledS (ledGo P.boxes (P.hands.getD h.toNat none) ws) else "hand"
  | .holds h => if OkH h then Str.empty else "hand"
def slotS (P : Pl) (h s : Int) : Str := resS (atSlot P h s fun _ _ => .fine P [])
theorem resS_at {P : Pl} {h s : Int} {k : Int → Bx → Res} (hk : ∀ n b, resS (k n b) = Str.empty) : resS (atSlot P h s k) = slotS P h s := by
  unfold slotS atSlot
  cases P.hands.getD h.toNat none with
  | none => rfl
  | some n =>
    dsimp only
    cases get P.boxes n with
    | none => rfl
    | some b =>
      dsimp only
      split
      · exact hk n b
      · rfl
theorem e_empty : ("" : Str) = Str.empty := by decide +kernel
def spHandWrong : Sp := fun vs H Q _ => ∃ h : Int, vs = [.int h] ∧ Q (.bl (!decide (OkH h))) H
theorem scHandWrong : FnScope nHandWrong ["_law_hand"] (defScope sHandWrong) := ⟨rfl, rfl, rfl, by decide +kernel, rfl, by decide +kernel, by decide +kernel⟩
theorem ok_handwrong {f : Addr} {fd : FuncData} (F : Fun K "_law_hand_wrong" "_law_hand_wrong" sHandWrong f fd) : FnOk P w K mg base CX0 1 f fd ["_law_hand"] spHandWrong := by
  refine F.ok scHandWrong (fun vs H Q E h => ?_) (fun cdv A outer s H vs Q E hr h => ?_)
  · obtain ⟨h, rfl, _⟩ := h
    rfl
  · obtain ⟨h, rfl, k⟩ := h
    refine ⟨_, (pss_one (ps_ret (pe_or (pe_cmpR op_lt (pv 0) pe_int (nomark _)) (pe_one (pe_cmpR op_gt (pv 0) pe_int (nomark _)))))), ?_⟩
    refine ⟨_, rfl, _, _, rfl, rfl, _, rfl, ?_⟩
    by_cases c : h < 0
    · refine if_pos_of (decide_eq_true c) ?_
      rw [decide_eq_false (by unfold OkH; omega)] at k
      exact k
    · refine if_neg_of (decide_eq_false c) ?_
      refine ⟨_, rfl, _, _, rfl, rfl, ?_⟩
      by_cases c2 : OkH h
      · rw [decide_eq_true c2] at k
        unfold OkH at c2
        refine (congrArg (fun b => Q (.bl b) H) (decide_eq_false ?_)).mpr k
        omega
      · rw [decide_eq_false c2] at k
        unfold OkH at c2
        refine (congrArg (fun b => Q (.bl b) H) (decide_eq_true ?_)).mpr k
        omega
def spSlotDue (C B : Addr) : Sp := fun vs H Q _ => ∃ (p : Addr) (g : Geo) (P : Pl) (R : Hp) (h s : Int), vs = [.ref p, .int h, .int s] ∧ PileAt C B p g P R H ∧ Wf P [] ∧ OkH h ∧ ∀ H', PileAt C B p g P R H' → Q (.str (slotS P h s)) H'
theorem scSlotDue : FnScope nSlotDue ["_law_pile", "_law_hand", "_law_slot"] (defScope sSlotDue) := ⟨rfl, rfl, rfl, by decide +kernel, rfl, by decide +kernel, by decide +kernel⟩
theorem ok_slotdue {f fI fM fO fR fU fE fQ fH fT fG fA fS fX fY fP fL fB fK fCS fCA fPA fRE fTR fTY fDO fBW fWT fLE fCV fCL fRD fRN fAN fPY fD fZ5 fZ4 fZ1 fZ2 fZ3 fS1 fS2 fS3 fS4 fS5 fS6 fS7 fS8 fS9 fSA fSB fSC : Addr} {fd dI dM dO dR dU dE dQ dH dT dG dA dS dX dY dP dL dB dK dCS dCA dPA dRE dTR dTY dDO dBW dWT dLE dCV dCL dRD dRN dAN dPY dD dZ5 dZ4 dZ1 dZ2 dZ3 dS1 dS2 dS3 dS4 dS5 dS6 dS7 dS8 dS9 dSA dSB dSC : FuncData} (F : Fun K "_law_slot_due" "_law_slot_due" sSlotDue f fd) (T : Txt K mg C B eH eS eF eB eL) (TL : TxtL mg) (D : Defs K mg C B fI fM fO fR fU fE fQ fH fT fG fA fS fX fY fP fL fB fK fCS fCA fPA fRE fTR fTY fDO fBW fWT fLE fCV fCL fRD fRN fAN fPY fD fZ5 fZ4 fZ1 fZ2 fZ3 fS1 fS2 fS3 fS4 fS5 fS6 fS7 fS8 fS9 fSA fSB fSC dI dM dO dR dU dE dQ dH dT dG dA dS dX dY dP dL dB dK dCS dCA dPA dRE dTR dTY dDO dBW dWT dLE dCV dCL dRD dRN dAN dPY dD dZ5 dZ4 dZ1 dZ2 dZ3 dS1 dS2 dS3 dS4 dS5 dS6 dS7 dS8 dS9 dSA dSB dSC) : FnOk P w K mg base CX0 4 f fd ["_law_pile", "_law_hand", "_law_slot"] (spSlotDue C B) := by
  have GH : FnOk P w K mg base (L2N.CX P w) 2 fH dH ["self", "hand"] (spHolds C B eH) := ok_holds D.FH T D.FK D.bK D.gK
  have GT : FnOk P w K mg base (L2N.CX P w) 2 fT dT ["self", "number"] (spPoints C B eB) := ok_points D.FT T D.FX D.bX D.mX
  refine F.ok scSlotDue (fun vs H Q E h => ?_) (fun cdv A outer s H vs Q E hr h => ?_)
  · obtain ⟨p, g, P, R, h, s, rfl, _⟩ := h
    rfl
  · obtain ⟨p, g, P0, R, h, s, rfl, A0, W, oh, k⟩ := h
    have nd := scSlotDue.nd
    have hr2 : Room 2 _ := hr.mono (by decide)
    refine ⟨_, (pss_cons (ps_set (i := 3) nd rfl (Or.inl rfl) (pe_meth (pv 0) T.clC D.mH GH hr2 D.bH .nil passLN (pa_cons (pv 1) pa_nil)))
      (pss_cons (ps_if (pt_cmp (pc_isN (pv 3))) (pss_one (ps_ret pe_str)) pss_nil)
      (pss_cons (ps_if (PW.pt (pw_or (pt_cmpR op_lt (pv 2) pe_int (nomark _)) (pw_or1 (pt_cmpR op_ge (pv 2) (pe_callB call_len_seq (by rfl) TL.len PySem.boot_len (pa_cons (pe_meth (pv 0) T.clC D.mT GT hr2 D.bT .nil passLN (pa_cons (pv 3) pa_nil)) pa_nil)) (nomark _))))) (pss_one (ps_ret pe_str)) pss_nil)
      (pss_one (ps_ret pe_str))))), ?_⟩
    refine ⟨_, rfl, p, g.dx, _, rfl, A0.hp, pf_no _ _ _ (by decide +kernel) (by decide +kernel) (by decide +kernel), _, rfl, p, g, P0, R, h, rfl, A0, W.hl, fun z => absurd oh z, fun _ => ?_⟩
    cases ho : P0.hands.getD h.toNat none with
    | none =>
      refine ⟨_, rfl, _, rfl, if_pos_of (decide_eq_true rfl) ?_⟩
      have e : slotS P0 h s = "box" := by unfold slotS; rw [atSlot_none ho]; rfl
      rw [e] at k
      exact k _ A0
    | some n =>
      obtain ⟨b, hb⟩ := W.hand ho
      refine ⟨_, rfl, _, rfl, if_neg_of (decide_eq_false (by intro z; cases z)) ?_⟩
      refine ⟨_, rfl, _, _, rfl, rfl, _, rfl, ?_⟩
      by_cases c : s < 0
      · refine if_pos_of (decide_eq_true c) ?_
        have e : slotS P0 h s = "slot" := by unfold slotS; rw [atSlot_no ho hb (by omega)]; rfl
        rw [e] at k
        exact iteT (k _ A0)
      refine if_neg_of (decide_eq_false c) ?_
      refine ⟨_, rfl, _, rfl, p, g.dx, _, rfl, A0.hp, pf_no _ _ _ (by decide +kernel) (by decide +kernel) (by decide +kernel), _, rfl, p, g, P0, R, n, rfl, A0, fun b' hb' => W.sl n b' hb', fun z => (by rw [hb] at z; cases z), fun b' hb' r hr' => ?_⟩
      have : b' = b := by rw [hb] at hb'; injection hb' with hb'; exact hb'.symm
      subst this
      have A1 := (A0.new (o := .lst (lV b'.slots)) hr').less (same_upd (A0.same.free hr'))
      refine ⟨r, _, rfl, .inl (SqL.of upd_same), _, _, rfl, rfl, _, rfl, ?_⟩
      rw [lV_len]
      by_cases c2 : s < (b'.slots.length : Int)
      · have e : slotS P0 h s = Str.empty := by unfold slotS; rw [atSlot_yes ho hb ⟨by omega, c2⟩]; rfl
        rw [e, ← e_empty] at k
        refine if_neg_of (decide_eq_false (by omega)) ?_
        exact k _ A1
      · have e : slotS P0 h s = "slot" := by unfold slotS; rw [atSlot_no ho hb (by omega)]; rfl
        rw [e] at k
        refine if_pos_of (decide_eq_true (by omega)) ?_
        exact k _ A1
def spLedDue (K : PySem.W.Frag) (C B : Addr) : Sp := fun vs H Q _ => ∃ (p t : Addr) (g : Geo) (P : Pl) (R : Hp) (h : Int) (ws : List Int), vs = [.ref p, .ref t] ∧ PileAt C B p g P R H ∧ Wf P [] ∧ OkH h ∧ SqT K H t (V.str "led" :: (h :: ws).map V.int) ∧
  ∀ H', PileAt C B p g P R H' → Q (.str (ledS (ledGo P.boxes (P.hands.getD h.toNat none) ws))) H'
theorem scLedDue : FnScope nLedDue ["_law_pile", "_law_deed"] (defScope sLedDue) := ⟨rfl, rfl, rfl, by decide +kernel, rfl, by decide +kernel, by decide +kernel⟩
theorem cut2 (x y : V) (xs : List V) : cutV (x :: y :: xs) (some 2) none = xs := by
  unfold cutV
  rw [HT.sIx_none, show HT.sIx (x :: y :: xs).length 0 (some 2) = 2 from by
    rw [show (some (2 : Int)) = some ((2 : Nat) : Int) from rfl, HT.sIx_nat, List.length_cons, List.length_cons]
    omega]
  rw [List.drop_succ_cons, List.drop_succ_cons, List.drop_zero, List.take_of_length_le (by rw [List.length_cons, List.length_cons]; omega)]
theorem ok_leddue {f fI fM fO fR fU fE fQ fH fT fG fA fS fX fY fP fL fB fK fCS fCA fPA fRE fTR fTY fDO fBW fWT fLE fCV fCL fRD fRN fAN fPY fD fZ5 fZ4 fZ1 fZ2 fZ3 fS1 fS2 fS3 fS4 fS5 fS6 fS7 fS8 fS9 fSA fSB fSC : Addr} {fd dI dM dO dR dU dE dQ dH dT dG dA dS dX dY dP dL dB dK dCS dCA dPA dRE dTR dTY dDO dBW dWT dLE dCV dCL dRD dRN dAN dPY dD dZ5 dZ4 dZ1 dZ2 dZ3 dS1 dS2 dS3 dS4 dS5 dS6 dS7 dS8 dS9 dSA dSB dSC : FuncData} (F : Fun K "_law_led_due" "_law_led_due" sLedDue f fd) (T : Txt K mg C B eH eS eF eB eL) (TL : TxtL mg) (D : Defs K mg C B fI fM fO fR fU fE fQ fH fT fG fA fS fX fY fP fL fB fK fCS fCA fPA fRE fTR fTY fDO fBW fWT fLE fCV fCL fRD fRN fAN fPY fD fZ5 fZ4 fZ1 fZ2 fZ3 fS1 fS2 fS3 fS4 fS5 fS6 fS7 fS8 fS9 fSA fSB fSC dI dM dO dR dU dE dQ dH dT dG dA dS dX dY dP dL dB dK dCS dCA dPA dRE dTR dTY dDO dBW dWT dLE dCV dCL dRD dRN dAN dPY dD dZ5 dZ4 dZ1 dZ2 dZ3 dS1 dS2 dS3 dS4 dS5 dS6 dS7 dS8 dS9 dSA dSB dSC) : FnOk P w K mg base CX0 4 f fd ["_law_pile", "_law_deed"] (spLedDue K C B) := by
  have GH : FnOk P w K mg base (L2N.CX P w) 2 fH dH ["self", "hand"] (spHolds C B eH) := ok_holds D.FH T D.FK D.bK D.gK
  have GT : FnOk P w K mg base (L2N.CX P w) 2 fT dT ["self", "number"] (spPoints C B eB) := ok_points D.FT T D.FX D.bX D.mX
  refine F.ok scLedDue (fun vs H Q E h => ?_) (fun cdv A outer s H vs Q E hr h => ?_)
  · obtain ⟨p, t, g, P, R, h, ws, rfl, _⟩ := h
    rfl
  · obtain ⟨p, t, g, P0, R, h, ws, rfl, A0, W, oh, hT, k⟩ := h
    have nd := scLedDue.nd
    have hr2 : Room 2 _ := hr.mono (by decide)
    refine ⟨_, (pss_cons (ps_set (i := 2) nd rfl (Or.inl rfl) (pe_meth (pv 0) T.clC D.mH GH hr2 D.bH .nil passLN (pa_cons (pe_ix ix_tup (pv 1) pe_int (fun _ _ => rfl)) pa_nil)))
      (pss_cons (ps_for PassesOwn.never rfl (pi_tup (pe_slice sl_tup (pv 1) (po_some pe_int) po_none)) (pg_name (i := 3) nd rfl (Or.inl rfl))
      (pss_cons (ps_if (pt_cmp (pc_isN (pv 2))) (pss_one (ps_ret pe_str)) pss_nil)
      (pss_cons (ps_set (i := 4) nd rfl (Or.inl rfl) (pe_meth (pv 0) T.clC D.mT GT hr2 D.bT .nil passLN (pa_cons (pv 2) pa_nil)))
      (pss_cons (ps_if (PW.pt (pw_or (pt_cmpR op_lt (pv 3) pe_int (nomark _)) (pw_or1 (pt_cmpR op_ge (pv 3) (pe_callB call_len_seq (by rfl) TL.len PySem.boot_len (pa_cons (pv 4) pa_nil)) (nomark _))))) (pss_one (ps_ret pe_str)) pss_nil)
      (pss_one (ps_set (i := 2) nd rfl (Or.inl rfl) (pe_ix ix_list (pv 4) (pv 3) (fun _ _ => rfl))))))))
      (pss_one (ps_ret (pe_ix ix_list (pe_lst (pa_cons pe_str (pa_cons pe_str pa_nil))) (pe_callTy call_int1 (by rfl) TL.int (by decide +kernel) (pa_cons (pe_cmp (pc_isN (pv 2)) rfl) pa_nil)) (fun _ _ => rfl)))))), ?_⟩
    refine ⟨_, rfl, p, g.dx, _, rfl, A0.hp, pf_no _ _ _ (by decide +kernel) (by decide +kernel) (by decide +kernel), _, rfl, t, _, _, _, rfl, rfl, hT, at_of (j := 1) rfl rfl, p, g, P0, R, h, rfl, A0, W.hl, fun z => absurd oh z, fun _ => ?_⟩
    have alv : ∀ n, P0.hands.getD h.toNat none = some n → ∃ b, get P0.boxes n = some b := fun n e => W.hand e
    generalize P0.hands.getD h.toNat none = o0 at alv k ⊢
    have cond : ¬ (HT.sIx (V.str "led" :: (h :: ws).map V.int).length 0 (some 2) = 0 ∧ HT.sIx (V.str "led" :: (h :: ws).map V.int).length (V.str "led" :: (h :: ws).map V.int).length none = (V.str "led" :: (h :: ws).map V.int).length) := by
      intro z
      have z := z.1
      rw [show (some (2 : Int)) = some ((2 : Nat) : Int) from rfl, HT.sIx_nat, List.map_cons, List.length_cons, List.length_cons] at z
      omega
    refine ⟨_, rfl, _, rfl, t, _, rfl, hT, cond, fun p2 hp2 => ?_⟩
    rw [show cutV (V.str "led" :: (h :: ws).map V.int) (some 2) none = ws.map V.int from cut2 _ _ _]
    have A1 := A0.new (o := .tup (ws.map V.int)) hp2
    have rp2 := A0.same.free hp2
    refine ⟨p2, rfl, ⟨_, SqT.of upd_same⟩, for_it walk_tup (fun i σ H' => ∃ (o : Option Int) (v3 v4 : Option V), σ = [some (.ref p), some (.ref t), some (oV o), v3, v4] ∧ PileAt C B p g P0 (upd R p2 (.tup (ws.map V.int))) H' ∧ (∀ n, o = some n → ∃ b, get P0.boxes n = some b) ∧ ledGo P0.boxes o (ws.drop i) = ledGo P0.boxes o0 ws)
      ⟨o0, none, none, rfl, A1, alv, rfl⟩ (fun i σ H' _ ⟨_, _, _, _, A', _⟩ => SqT.of (A'.same _ _ upd_same)) ?_ ?_⟩
    · rintro i x σ H2 H3 hi ⟨o, v3, v4, rfl, A2, al, e⟩ ⟨rfl, hx⟩
      rw [List.getElem?_map] at hx
      cases ez : ws[i]? with
      | none => rw [ez] at hx; cases hx
      | some z =>
        rw [ez] at hx
        have hx : x = V.int z := (Option.some.inj hx).symm
        subst hx
        have ed : ws.drop i = z :: ws.drop (i + 1) := by
          rw [List.drop_eq_getElem_cons (List.getElem?_eq_some_iff.mp ez).1, (List.getElem?_eq_some_iff.mp ez).2]
        rw [ed] at e
        cases o with
        | none =>
          refine ⟨_, rfl, _, rfl, if_pos_of (decide_eq_true rfl) ?_⟩
          have e1 : ledGo P0.boxes none (z :: ws.drop (i + 1)) = .inr true := by unfold ledGo; rfl
          rw [← e, e1] at k
          exact k _ (A2.less (same_upd rp2))
        | some n =>
          obtain ⟨b, hb⟩ := al n rfl
          have e1 : ledGo P0.boxes (some n) (z :: ws.drop (i + 1)) = if 0 ≤ z ∧ z < (b.slots.length : Int) then ledGo P0.boxes (b.slots.getD z.toNat none) (ws.drop (i + 1)) else .inr false := by
            show (if 0 ≤ z ∧ z < ((slo P0.boxes n).length : Int) then ledGo P0.boxes ((slo P0.boxes n).getD z.toNat none) (ws.drop (i + 1)) else .inr false) = _
            rw [show slo P0.boxes n = b.slots from by unfold slo; rw [hb]]
          refine ⟨_, rfl, _, rfl, if_neg_of (decide_eq_false (by intro q; cases q)) ?_⟩
          refine ⟨_, rfl, p, g.dx, _, rfl, A2.hp, pf_no _ _ _ (by decide +kernel) (by decide +kernel) (by decide +kernel), _, rfl, p, g, P0, _, n, rfl, A2, fun b' hb' => W.sl n b' hb', fun q => (by rw [hb] at q; cases q), fun b' hb' r hr' => ?_⟩
          have : b' = b := by rw [hb] at hb'; injection hb' with hb'; exact hb'.symm
          subst this
          have A3 := (A2.new (o := .lst (lV b'.slots)) hr').less (same_upd (A2.same.free hr'))
          refine ⟨_, rfl, _, _, rfl, rfl, _, rfl, ?_⟩
          by_cases c : z < 0
          · refine if_pos_of (decide_eq_true c) (iteT ?_)
            rw [← e, e1, if_neg (by omega)] at k
            exact k _ (A3.less (same_upd rp2))
          refine if_neg_of (decide_eq_false c) ?_
          refine ⟨_, rfl, _, rfl, r, _, rfl, .inl (SqL.of upd_same), _, _, rfl, rfl, _, rfl, ?_⟩
          rw [lV_len]
          by_cases c2 : z < (b'.slots.length : Int)
          · refine if_neg_of (decide_eq_false (by omega)) ?_
            rw [e1, if_pos ⟨by omega, c2⟩] at e
            refine ⟨_, rfl, _, rfl, r, _, _, _, rfl, rfl, SqL.of upd_same, at_of (j := z.toNat) (Int.toNat_of_nonneg (by omega)).symm (lV_get (by omega)), ?_⟩
            refine ⟨_, _, _, rfl, A3, fun m em => W.slot hb em, e⟩
          · refine if_pos_of (decide_eq_true (by omega)) ?_
            rw [← e, e1, if_neg (by omega)] at k
            exact k _ (A3.less (same_upd rp2))
    · rintro σ H2 ⟨o, v3, v4, rfl, A2, al, e⟩
      rw [List.length_map, List.drop_length] at e
      refine ⟨(by show 2 ≤ sizeLine; decide), fun l hl => ?_⟩
      have A3 := (A2.new (o := .lst [V.str "", V.str "box"]) hl).less ((same_upd rp2).trans (same_upd (A2.same.free hl)))
      cases o with
      | none =>
        have e1 : ledGo P0.boxes none [] = .inr true := by unfold ledGo; rfl
        rw [← e, e1] at k
        refine ⟨_, rfl, .inr ⟨_, rfl, l, _, _, V.str "box", rfl, rfl, SqL.of upd_same, at_of (j := 1) (by show (if decide (V.non = V.non) = true then (1 : Int) else 0) = 1; rw [decide_eq_true rfl]; rfl) rfl, ?_⟩⟩
        exact k _ A3
      | some n =>
        have e1 : ledGo P0.boxes (some n) [] = .inl n := by unfold ledGo; rfl
        rw [← e, e1] at k
        refine ⟨_, rfl, .inr ⟨_, rfl, l, _, _, V.str "", rfl, rfl, SqL.of upd_same, at_of (j := 0) (by show (if decide (V.int n = V.non) = true then (1 : Int) else 0) = 0; rw [decide_eq_false (by intro q; cases q)]; rfl) rfl, ?_⟩⟩
        rw [e_empty]
        exact k _ A3
def spDue (K : PySem.W.Frag) (C B : Addr) : Sp := fun vs H Q _ => ∃ (p t : Addr) (g : Geo) (P : Pl) (R : Hp) (a : Ask), vs = [.ref p, .ref t] ∧ PileAt C B p g P R H ∧ Wf P [] ∧ R t = some (.tup a.vs) ∧ a.Ok ∧ ∀ H', PileAt C B p g P R H' → Q (.str (dueOf P a)) H'
theorem scDue : FnScope nDue ["_law_pile", "_law_deed"] (defScope sDue) := ⟨rfl, rfl, rfl, by decide +kernel, rfl, by decide +kernel, by decide +kernel⟩
theorem cut1 (x : V) (xs : List V) : cutV (x :: xs) (some 1) none = xs := by
  unfold cutV
  rw [HT.sIx_none, show HT.sIx (x :: xs).length 0 (some 1) = 1 from by
    rw [show (some (1 : Int)) = some ((1 : Nat) : Int) from rfl, HT.sIx_nat, List.length_cons]
    omega]
  rw [List.drop_succ_cons, List.drop_zero, List.take_of_length_le (by rw [List.length_cons]; omega)]
theorem not_whole (x : V) (xs : List V) : ¬ (HT.sIx (x :: xs).length 0 (some 1) = 0 ∧ HT.sIx (x :: xs).length (x :: xs).length none = (x :: xs).length) := by
  intro z
  have z := z.1
  rw [show (some (1 : Int)) = some ((1 : Nat) : Int) from rfl, HT.sIx_nat, List.length_cons] at z
  omega
theorem ask_split (a : Ask) (ok : a.Ok) (P : Pl) : (∃ w l, a.vs = V.str w :: l.map V.int ∧ inV (V.str w) [V.str "points", V.str "weighs", V.str "way", V.str "reached"] = true ∧ dueOf P a = aliveS P l ∧ l.length ≤ 10) ∨
    ((∃ d, a = .deed d) ∨ (∃ h ws, a = .led h ws) ∨ ∃ h, a = .holds h) ∧ (∃ w h l, a.vs = V.str w :: V.int h :: l ∧ inV (V.str w) [V.str "points", V.str "weighs", V.str "way", V.str "reached"] = false ∧ (¬ OkH h → dueOf P a = "hand")) := by
  cases a with
  | points n => exact .inl ⟨_, [n], rfl, by decide +kernel, rfl, (by show 1 ≤ 10; decide)⟩
  | weighs n => exact .inl ⟨_, [n], rfl, by decide +kernel, rfl, (by show 1 ≤ 10; decide)⟩
  | way n => exact .inl ⟨_, [n], rfl, by decide +kernel, rfl, (by show 1 ≤ 10; decide)⟩
  | reached l => exact .inl ⟨_, l, rfl, by decide +kernel, rfl, ok⟩
  | led h ws => exact .inr ⟨.inr (.inl ⟨h, ws, rfl⟩), _, h, _, rfl, by decide +kernel, fun q => by show (if OkH h then _ else _) = _; rw [if_neg q]⟩
  | holds h => exact .inr ⟨.inr (.inr ⟨h, rfl⟩), _, h, _, rfl, by decide +kernel, fun q => by show (if OkH h then _ else _) = _; rw [if_neg q]⟩
  | deed d =>
    refine .inr ⟨.inl ⟨d, rfl⟩, ?_⟩
    cases d with
    | tidy => exact absurd rfl ok
    | make h z => exact ⟨_, h, _, rfl, by decide +kernel, fun q => by show resS (act P (.make h z)) = _; unfold act; dsimp only; rw [if_pos q]; rfl⟩
    | hold h z => exact ⟨_, h, _, rfl, by decide +kernel, fun q => by show resS (act P (.hold h z)) = _; unfold act; dsimp only; rw [if_pos q]; rfl⟩
    | drop h => exact ⟨_, h, _, rfl, by decide +kernel, fun q => by show resS (act P (.drop h)) = _; unfold act; dsimp only; rw [if_pos q]; rfl⟩
    | put h z o => exact ⟨_, h, _, rfl, by decide +kernel, fun q => by show resS (act P (.put h z o)) = _; unfold act; dsimp only; rw [if_pos q]; rfl⟩
    | empty h z => exact ⟨_, h, _, rfl, by decide +kernel, fun q => by show resS (act P (.empty h z)) = _; unfold act; dsimp only; rw [if_pos q]; rfl⟩
    | take h z o => exact ⟨_, h, _, rfl, by decide +kernel, fun q => by show resS (act P (.take h z o)) = _; unfold act; dsimp only; rw [if_pos q]; rfl⟩
theorem due_put {P : Pl} {h s o : Int} (c1 : OkH h) (c2 : OkH o) : resS (act P (.put h s o)) = slotS P h s := by
  unfold act; dsimp only; rw [if_neg (fun z => z c1), if_neg (fun z => z c2)]; exact resS_at fun _ _ => rfl
theorem due_empty {P : Pl} {h s : Int} (c1 : OkH h) : resS (act P (.empty h s)) = slotS P h s := by
  unfold act; dsimp only; rw [if_neg (fun z => z c1)]; exact resS_at fun _ _ => rfl
theorem due_take {P : Pl} {h s o : Int} (c1 : OkH h) (c2 : OkH o) : resS (act P (.take h o s)) = slotS P o s := by
  unfold act; dsimp only; rw [if_neg (fun z => z c1), if_neg (fun z => z c2)]; exact resS_at fun _ _ => rfl
theorem due_other (P : Pl) {h o : Int} (c1 : OkH h) (c2 : ¬ OkH o) : resS (act P (.hold h o)) = "hand" ∧ (∀ s, resS (act P (.put h s o)) = "hand") ∧ ∀ s, resS (act P (.take h o s)) = "hand" := by
  refine ⟨?_, fun s => ?_, fun s => ?_⟩ <;> (unfold act; dsimp only; rw [if_neg (fun z => z c1), if_pos c2]; rfl)
theorem dead_filter (P : Pl) (l : List Int) : (l.filter fun n => decide (n ∉ keys P.boxes)) = [] ↔ ∀ n ∈ l, (get P.boxes n).isSome = true := by
  rw [List.filter_eq_nil_iff]
  refine forall_congr' fun n => forall_congr' fun _ => ?_
  rw [decide_eq_true_iff, Classical.not_not, ← get_keys]
  exact Option.isSome_iff_exists.symm
theorem filter_snoc (p : Int → Bool) {l : List Int} {i : Nat} {n : Int} (h : l[i]? = some n) : (l.take (i + 1)).filter p = (l.take i).filter p ++ (if p n = true then [n] else []) := by
  rw [takeS h, List.filter_append]
  congr 1
  rw [List.filter_cons]
  split <;> rfl

theorem ok_due {f fI fM fO fR fU fE fQ fH fT fG fA fS fX fY fP fL fB fK fCS fCA fPA fRE fTR fTY fDO fBW fWT fLE fCV fCL fRD fRN fAN fPY fD fZ5 fZ4 fZ1 fZ2 fZ3 fS1 fS2 fS3 fS4 fS5 fS6 fS7 fS8 fS9 fSA fSB fSC : Addr} {fd dI dM dO dR dU dE dQ dH dT dG dA dS dX dY dP dL dB dK dCS dCA dPA dRE dTR dTY dDO dBW dWT dLE dCV dCL dRD dRN dAN dPY dD dZ5 dZ4 dZ1 dZ2 dZ3 dS1 dS2 dS3 dS4 dS5 dS6 dS7 dS8 dS9 dSA dSB dSC : FuncData} (F : Fun K "_law_due" "_law_due" sDue f fd) (T : Txt K mg C B eH eS eF eB eL) (TL : TxtL mg) (D : Defs K mg C B fI fM fO fR fU fE fQ fH fT fG fA fS fX fY fP fL fB fK fCS fCA fPA fRE fTR fTY fDO fBW fWT fLE fCV fCL fRD fRN fAN fPY fD fZ5 fZ4 fZ1 fZ2 fZ3 fS1 fS2 fS3 fS4 fS5 fS6 fS7 fS8 fS9 fSA fSB fSC dI dM dO dR dU dE dQ dH dT dG dA dS dX dY dP dL dB dK dCS dCA dPA dRE dTR dTY dDO dBW dWT dLE dCV dCL dRD dRN dAN dPY dD dZ5 dZ4 dZ1 dZ2 dZ3 dS1 dS2 dS3 dS4 dS5 dS6 dS7 dS8 dS9 dSA dSB dSC) : FnOk P w K mg base CX0 5 f fd ["_law_pile", "_law_deed"] (spDue K C B) := by
  have GA : FnOk P w K mg base CX0 1 fA dA ["self"] (spAlive C B) := ok_alive D.FA T
  have GS3 : FnOk P w K mg base CX0 1 fS3 dS3 ["_law_hand"] spHandWrong := ok_handwrong D.FS3
  have GS4 : FnOk P w K mg base CX0 4 fS4 dS4 ["_law_pile", "_law_hand", "_law_slot"] (spSlotDue C B) := ok_slotdue D.FS4 T TL D
  have GS5 : FnOk P w K mg base CX0 4 fS5 dS5 ["_law_pile", "_law_deed"] (spLedDue K C B) := ok_leddue D.FS5 T TL D
  refine F.ok scDue (fun vs H Q E h => ?_) (fun cdv A outer s H vs Q E hr h => ?_)
  · obtain ⟨p, t, g, P, R, a, rfl, _⟩ := h
    rfl
  · obtain ⟨p, t, g, P0, R, a, rfl, A0, W, hT, ok, k⟩ := h
    have nd := scDue.nd
    have hr1 : Room 1 _ := hr.mono (by decide)
    have hr4 : Room 4 _ := hr
    have hT0 := A0.same _ _ hT
    refine ⟨_, (pss_cons (ps_if (pt_cmpR op_in_seq (pe_ix ix_tup (pv 1) pe_int (fun _ _ => rfl)) (pe_lst (pa_cons pe_str (pa_cons pe_str (pa_cons pe_str (pa_cons pe_str pa_nil))))) (by rfl)) (pss_cons (ps_set (i := 2) nd rfl (Or.inr rfl) (pe_meth0 (pv 0) T.clC D.mA GA hr1 D.bA .nil pass0))
      (pss_one (ps_ret (pe_ix ix_list (pe_lst (pa_cons pe_str (pa_cons pe_str pa_nil))) (pe_callTy call_int1 (by rfl) TL.int (by decide +kernel) (pa_cons (pe_cmpR (op_eqD hr.units) (pe_lc (own := [("_law_number", 3)]) (g := gName 3) (tt := tTest (tOp (rIn K true) (tVar 3) (tVar 2))) (te := tVar 3) (by rfl) nd (pi_tup (pe_slice sl_tup (pv 1) (po_some pe_int) po_none)) (blkOk_by (N := nDue) (sc := defScope sDue) (by decide +kernel)) (fun _ _ _ _ _ => pg_name (i := 3) nd rfl (Or.inl rfl)) (fun _ _ _ _ _ => pts_one (pt_cmpR op_notIn_seq (pv 3) (pv 2) (by rfl))) (fun _ _ _ _ _ => pv 3)) (pe_lst pa_nil) (nomark _)) pa_nil)) (fun _ _ => rfl))))) pss_nil)
      (pss_cons (ps_if (pt_val (pe_call GS3 hr1 (by rfl) D.gS3 D.FS3.kp D.bS3 .nil pass0 (pa_cons (pe_ix ix_tup (pv 1) pe_int (fun _ _ => rfl)) pa_nil))) (pss_one (ps_ret pe_str)) pss_nil)
      (pss_cons (ps_if (PW.pt (pw_or (PW.pt (pw_and (pt_cmpR op_eq (pe_ix ix_tup (pv 1) pe_int (fun _ _ => rfl)) pe_str (nomark _)) (pw_and1 (pt_val (pe_call GS3 hr1 (by rfl) D.gS3 D.FS3.kp D.bS3 .nil pass0 (pa_cons (pe_ix ix_tup (pv 1) pe_int (fun _ _ => rfl)) pa_nil)))))) (pw_or1 (PW.pt (pw_and (pt_cmpR op_eq (pe_ix ix_tup (pv 1) pe_int (fun _ _ => rfl)) pe_str (nomark _)) (pw_and1 (pt_val (pe_call GS3 hr1 (by rfl) D.gS3 D.FS3.kp D.bS3 .nil pass0 (pa_cons (pe_ix ix_tup (pv 1) pe_int (fun _ _ => rfl)) pa_nil))))))))) (pss_one (ps_ret pe_str)) pss_nil)
      (pss_cons (ps_if (PW.pt (pw_and (pt_cmpR op_eq (pe_ix ix_tup (pv 1) pe_int (fun _ _ => rfl)) pe_str (nomark _)) (pw_and1 (pt_val (pe_call GS3 hr1 (by rfl) D.gS3 D.FS3.kp D.bS3 .nil pass0 (pa_cons (pe_ix ix_tup (pv 1) pe_int (fun _ _ => rfl)) pa_nil)))))) (pss_one (ps_ret pe_str)) pss_nil)
      (pss_cons (ps_if (pt_cmpR op_eq (pe_ix ix_tup (pv 1) pe_int (fun _ _ => rfl)) pe_str (nomark _)) (pss_cons (ps_if (PW.pt (pw_or (pt_cmpR op_lt (pe_ix ix_tup (pv 1) pe_int (fun _ _ => rfl)) pe_int (nomark _)) (pw_or1 (pt_cmpR op_gt (pe_ix ix_tup (pv 1) pe_int (fun _ _ => rfl)) pe_int (nomark _))))) (pss_one (ps_ret pe_str)) pss_nil)
      (pss_one (ps_ret (pe_ix ix_list (pe_lst (pa_cons pe_str (pa_cons pe_str pa_nil))) (pe_callTy call_int1 (by rfl) TL.int (by decide +kernel) (pa_cons (pe_cmpR op_gt (pe_callB call_len_seq (by rfl) TL.len PySem.boot_len (pa_cons (pe_meth0 (pv 0) T.clC D.mA GA hr1 D.bA .nil pass0) pa_nil)) pe_int (nomark _)) pa_nil)) (fun _ _ => rfl))))) pss_nil)
      (pss_cons (ps_if (pt_cmpR op_eq (pe_ix ix_tup (pv 1) pe_int (fun _ _ => rfl)) pe_str (nomark _)) (pss_one (ps_ret (pe_call GS4 hr4 (by rfl) D.gS4 D.FS4.kp D.bS4 .nil pass0 (pa_cons (pv 0) (pa_cons (pe_ix ix_tup (pv 1) pe_int (fun _ _ => rfl)) (pa_cons (pe_ix ix_tup (pv 1) pe_int (fun _ _ => rfl)) pa_nil)))))) pss_nil)
      (pss_cons (ps_if (pt_cmpR op_eq (pe_ix ix_tup (pv 1) pe_int (fun _ _ => rfl)) pe_str (nomark _)) (pss_one (ps_ret (pe_call GS5 hr4 (by rfl) D.gS5 D.FS5.kp D.bS5 .nil pass0 (pa_cons (pv 0) (pa_cons (pv 1) pa_nil))))) pss_nil)
      (pss_cons (ps_if (pt_cmpR op_in_seq (pe_ix ix_tup (pv 1) pe_int (fun _ _ => rfl)) (pe_lst (pa_cons pe_str (pa_cons pe_str pa_nil))) (by rfl)) (pss_one (ps_ret (pe_call GS4 hr4 (by rfl) D.gS4 D.FS4.kp D.bS4 .nil pass0 (pa_cons (pv 0) (pa_cons (pe_ix ix_tup (pv 1) pe_int (fun _ _ => rfl)) (pa_cons (pe_ix ix_tup (pv 1) pe_int (fun _ _ => rfl)) pa_nil)))))) pss_nil)
      (pss_one (ps_ret pe_str)))))))))), ?_⟩
    rcases ask_split a ok P0 with ⟨w, l, hv, hin, hd, hl⟩ | ⟨hk, w, h, rest, hv, hin, hw⟩
    · rw [hv] at hT hT0
      rw [hd] at k
      refine ⟨_, rfl, t, _, _, _, rfl, rfl, SqT.of hT0, at_of (j := 0) rfl rfl, (by show 4 ≤ sizeLine; decide), fun l4 hl4 => ?_⟩
      have A1 := (A0.new (o := .lst [V.str "points", V.str "weighs", V.str "way", V.str "reached"]) hl4).less (same_upd (A0.same.free hl4))
      refine ⟨l4, _, rfl, .inl (SqL.of upd_same), rfl, rfl, _, rfl, if_pos_of hin ?_⟩
      refine ⟨_, rfl, p, g.dx, _, rfl, A1.hp, pf_no _ _ _ (by decide +kernel) (by decide +kernel) (by decide +kernel), p, g, P0, R, rfl, A1, W, fun u1 hu1 => ?_⟩
      have A2 := A1.new (o := .lst ((keys P0.boxes).map V.int)) hu1
      have r1 := A1.same.free hu1
      refine ⟨(by show 2 ≤ sizeLine; decide), fun l2 hl2 => ?_⟩
      have A3 := A2.new (o := .lst [V.str "box", V.str ""]) hl2
      have r2 := A2.same.free hl2
      have s12 := (same_upd (o := .lst ((keys P0.boxes).map V.int)) r1).trans (same_upd (o := .lst [V.str "box", V.str ""]) r2)
      have ku2 : (upd (upd R u1 (.lst ((keys P0.boxes).map V.int))) l2 (.lst [V.str "box", V.str ""])) u1 = some (.lst ((keys P0.boxes).map V.int)) := same_upd (o := .lst [V.str "box", V.str ""]) r2 _ _ upd_same
      have kl2 : (upd (upd R u1 (.lst ((keys P0.boxes).map V.int))) l2 (.lst [V.str "box", V.str ""])) l2 = some (.lst [V.str "box", V.str ""]) := upd_same
      generalize upd (upd R u1 (.lst ((keys P0.boxes).map V.int))) l2 (.lst [V.str "box", V.str ""]) = R3 at A3 s12 ku2 kl2
      refine ⟨_, rfl, _, rfl, t, _, rfl, SqT.of (A3.same _ _ (s12 _ _ hT)), not_whole _ _, fun p2 hp2 => ?_⟩
      rw [cut1]
      have A4 := A3.new (o := .tup (l.map V.int)) hp2
      have r3 := A3.same.free hp2
      have s3 := same_upd (o := .tup (l.map V.int)) r3
      have kp4 : (upd R3 p2 (.tup (l.map V.int))) p2 = some (.tup (l.map V.int)) := upd_same
      generalize upd R3 p2 (.tup (l.map V.int)) = R4 at A4 s3 kp4
      refine ⟨p2, rfl, ⟨_, SqT.of (A4.same _ _ kp4)⟩, fun D hD => ?_⟩
      have r4 := A4.same.free hD
      refine lc_it walk_tup (fun j H' => PileAt C B p g P0 (upd R4 D (.lst (((l.take j).filter fun n => decide (n ∉ keys P0.boxes)).map V.int))) H') (A4.new hD) (fun j H' _ A' => SqT.of (A'.same _ _ (same_upd r4 _ _ kp4))) ?_ ?_
      · rintro j y H5 H6 hj A5 ⟨rfl, hy⟩
        rw [List.getElem?_map] at hy
        cases en : l[j]? with
        | none => rw [en] at hy; cases hy
        | some n =>
          rw [en] at hy
          have hy : y = V.int n := (Option.some.inj hy).symm
          subst hy
          refine ⟨rfl, _, rfl, _, rfl, u1, _, rfl, .inl (SqL.of (A5.same _ _ (same_upd r4 _ _ (s3 _ _ ku2)))), rfl, flat_ints _, _, rfl, ?_⟩
          rw [if_pos rfl, inV_ints]
          have fs := filter_snoc (fun n => decide (n ∉ keys P0.boxes)) en
          by_cases c : n ∈ keys P0.boxes
          · refine if_neg_of (by rw [decide_eq_true c]; rfl) ?_
            rw [if_neg (by simpa using c), List.append_nil] at fs
            rw [fs]
            exact A5
          · refine if_pos_of (by rw [decide_eq_false c]; rfl) ?_
            rw [if_pos (by simpa using c)] at fs
            refine ⟨_, rfl, _, A5.same _ _ upd_same, ?_, ?_⟩
            · rw [List.length_map]
              refine Nat.lt_of_le_of_lt (List.length_filter_le _ _) ?_
              rw [List.length_take, sizeLine_eq]
              omega
            · rw [fs, List.map_append]
              have := A5.set (o := .lst (((l.take j).filter fun n => decide (n ∉ keys P0.boxes)).map V.int ++ [V.int n])) (h := upd_same)
              rw [upd_upd] at this
              exact this
      rintro H5 A5
      rw [List.length_map, List.take_length] at A5
      refine ⟨(by show 0 ≤ sizeLine; decide), fun e6 he6 => ?_⟩
      have A6 := A5.new (o := .lst ([] : List V)) he6
      have r5 := A5.same.free he6
      have kD6 := A6.same _ _ (same_upd r5 _ _ upd_same)
      have ke6 : upd H5 e6 (.lst ([] : List V)) e6 = some (.lst (lV [])) := upd_same
      have kl6 := A6.same _ _ (same_upd r5 _ _ (same_upd r4 _ _ (s3 _ _ kl2)))
      have A7 := A6.less ((s12.trans s3).trans ((same_upd r4).trans (same_upd r5)))
      rw [lV_int] at kD6
      refine ⟨_, _, dp_row kD6, dp_row ke6, shaped_row _, shaped_row _, ?_⟩
      refine .inr ⟨_, rfl, l2, _, _, if (l.filter fun n => decide (n ∉ keys P0.boxes)) = [] then V.str "" else V.str "box", rfl, rfl, SqL.of kl6, ?_, ?_⟩
      · by_cases c : (l.filter fun n => decide (n ∉ keys P0.boxes)) = []
        · rw [c, if_pos rfl]
          exact at_of (j := 1) rfl rfl
        · rw [if_neg c]
          cases e : (l.filter fun n => decide (n ∉ keys P0.boxes)) with
          | nil => exact absurd e c
          | cons x xs => exact at_of (j := 0) rfl rfl
      · have k7 := k _ A7
        unfold aliveS at k7
        by_cases c : (l.filter fun n => decide (n ∉ keys P0.boxes)) = []
        · rw [if_pos ((dead_filter P0 l).mp c)] at k7
          rw [if_pos c, e_empty]
          exact k7
        · rw [if_neg (fun z => c ((dead_filter P0 l).mpr z))] at k7
          rw [if_neg c]
          exact k7
    have hTw := hT0
    rw [hv] at hTw
    refine ⟨_, rfl, t, _, _, _, rfl, rfl, SqT.of hTw, at_of (j := 0) rfl rfl, (by show 4 ≤ sizeLine; decide), fun l4 hl4 => ?_⟩
    have A1 := (A0.new (o := .lst [V.str "points", V.str "weighs", V.str "way", V.str "reached"]) hl4).less (same_upd (A0.same.free hl4))
    refine ⟨l4, _, rfl, .inl (SqL.of upd_same), rfl, rfl, _, rfl, if_neg_of hin ?_⟩
    generalize upd H l4 (.lst [V.str "points", V.str "weighs", V.str "way", V.str "reached"]) = H1 at A1 ⊢
    have hT1 := A1.same _ _ hT
    rw [hv] at hT1
    refine ⟨_, rfl, t, _, _, _, rfl, rfl, SqT.of hT1, at_of (j := 1) rfl rfl, h, rfl, _, rfl, ?_⟩
    by_cases oh : OkH h
    case neg =>
      refine if_pos_of (by rw [decide_eq_false oh]; rfl) ?_
      rw [hw oh] at k
      exact k _ A1
    refine if_neg_of (by rw [decide_eq_true oh]; rfl) ?_
    clear hT1 hin hw hTw hT0
    have hT1 := A1.same _ _ hT
    have same : ∀ {w' : Str} {h' : Int} {l' : List V}, a.vs = V.str w' :: V.int h' :: l' → h' = h := fun e => by
      rw [hv] at e
      injection e with _ e
      injection e with e _
      injection e with e
      exact e.symm
    rcases hk with ⟨d, rfl⟩ | ⟨h', ws, rfl⟩ | ⟨h', rfl⟩

    · cases d with
      | tidy => exact absurd rfl ok
      | make h' z =>
        have eh : h' = h := same rfl
        subst eh
        refine ⟨_, rfl, t, _, _, _, rfl, rfl, SqT.of hT1, at_of (j := 0) rfl rfl, rfl, _, rfl, if_neg_of (by decide +kernel) (if_neg_of rfl ?_)⟩
        refine ⟨_, rfl, t, _, _, _, rfl, rfl, SqT.of hT1, at_of (j := 0) rfl rfl, rfl, _, rfl, if_neg_of (by decide +kernel) (iteF ?_)⟩
        refine ⟨_, rfl, t, _, _, _, rfl, rfl, SqT.of hT1, at_of (j := 0) rfl rfl, rfl, _, rfl, if_neg_of (by decide +kernel) (iteF ?_)⟩
        refine ⟨_, rfl, t, _, _, _, rfl, rfl, SqT.of hT1, at_of (j := 0) rfl rfl, rfl, _, rfl, if_pos_of (by decide +kernel) ?_⟩
        have ka := fun (e : Str) (he : resS (act P0 (.make h' z)) = e) => (show resS (act P0 (.make h' z)) = e → ∀ H', PileAt C B p g P0 R H' → Q (.str e) H' from fun he => by rw [← he]; exact k) he
        unfold act at ka; dsimp only at ka; rw [if_neg (fun q => q oh)] at ka
        refine ⟨_, rfl, t, _, _, _, rfl, rfl, SqT.of hT1, at_of (j := 2) rfl rfl, _, _, rfl, rfl, _, rfl, ?_⟩
        by_cases c2 : z < 0
        · refine if_pos_of (decide_eq_true c2) (iteT ?_)
          rw [if_pos (by omega)] at ka
          exact ka _ rfl _ A1
        refine if_neg_of (decide_eq_false c2) ?_
        refine ⟨_, rfl, t, _, _, _, rfl, rfl, SqT.of hT1, at_of (j := 2) rfl rfl, _, _, rfl, rfl, _, rfl, ?_⟩
        by_cases c3 : 6 < z
        · refine if_pos_of (decide_eq_true c3) ?_
          rw [if_pos (by omega)] at ka
          exact ka _ rfl _ A1
        refine if_neg_of (decide_eq_false c3) ?_
        rw [if_neg (by omega)] at ka
        refine ⟨(by show 2 ≤ sizeLine; decide), fun l5 hl5 => ?_⟩
        have A2 := A1.new (o := .lst [V.str "", V.str "full"]) hl5
        refine ⟨_, rfl, p, g.dx, _, rfl, A2.hp, pf_no _ _ _ (by decide +kernel) (by decide +kernel) (by decide +kernel), p, g, P0, _, rfl, A2, W, fun u hu => ?_⟩
        have A3 := A2.new (o := .lst ((keys P0.boxes).map V.int)) hu
        have kl5 := A3.same _ _ (same_upd (A2.same.free hu) _ _ upd_same)
        have A4 := A3.less ((same_upd (A1.same.free hl5)).trans (same_upd (A2.same.free hu)))
        refine ⟨u, _, rfl, .inl (SqL.of upd_same), _, _, rfl, rfl, .inr ⟨_, rfl, ?_⟩⟩
        rw [List.length_map, len_keys]
        by_cases c4 : 60 ≤ P0.boxes.length
        · rw [if_pos c4] at ka
          exact ⟨l5, _, _, V.str "full", rfl, rfl, SqL.of kl5, at_of (j := 1) (by rw [if_pos (decide_eq_true (by omega))]; rfl) rfl, ka _ rfl _ A4⟩
        · rw [if_neg c4] at ka
          refine ⟨l5, _, _, V.str "", rfl, rfl, SqL.of kl5, at_of (j := 0) (by rw [if_neg (by rw [decide_eq_false (by omega)]; decide)]; rfl) rfl, ?_⟩
          rw [e_empty]
          exact ka _ rfl _ A4
      | hold h' o =>
        have eh : h' = h := same rfl
        subst eh
        refine ⟨_, rfl, t, _, _, _, rfl, rfl, SqT.of hT1, at_of (j := 0) rfl rfl, rfl, _, rfl, if_pos_of (by decide +kernel) ?_⟩
        refine ⟨_, rfl, t, _, _, _, rfl, rfl, SqT.of hT1, at_of (j := 2) rfl rfl, o, rfl, _, rfl, ?_⟩
        by_cases c2 : OkH o
        case neg =>
          refine if_pos_of (by rw [decide_eq_false c2]; rfl) (iteT ?_)
          have e := (due_other P0 oh c2).1
          rw [show dueOf P0 (.deed (.hold h' o)) = _ from e] at k
          exact k _ A1
        refine if_neg_of (by rw [decide_eq_true c2]; rfl) ?_
        refine ⟨_, rfl, t, _, _, _, rfl, rfl, SqT.of hT1, at_of (j := 0) rfl rfl, rfl, _, rfl, if_neg_of (by decide +kernel) (iteF ?_)⟩
        refine ⟨_, rfl, t, _, _, _, rfl, rfl, SqT.of hT1, at_of (j := 0) rfl rfl, rfl, _, rfl, if_neg_of (by decide +kernel) (iteF ?_)⟩
        refine ⟨_, rfl, t, _, _, _, rfl, rfl, SqT.of hT1, at_of (j := 0) rfl rfl, rfl, _, rfl, if_neg_of (by decide +kernel) ?_⟩
        refine ⟨_, rfl, t, _, _, _, rfl, rfl, SqT.of hT1, at_of (j := 0) rfl rfl, rfl, _, rfl, if_neg_of (by decide +kernel) ?_⟩
        refine ⟨_, rfl, t, _, _, _, rfl, rfl, SqT.of hT1, at_of (j := 0) rfl rfl, rfl, _, rfl, if_neg_of (by decide +kernel) ?_⟩
        refine ⟨_, rfl, t, _, _, _, rfl, rfl, SqT.of hT1, at_of (j := 0) rfl rfl, (by show 2 ≤ sizeLine; decide), fun l5 hl5 => ?_⟩
        have A2 := (A1.new (o := .lst [V.str "put", V.str "empty"]) hl5).less (same_upd (A1.same.free hl5))
        refine ⟨l5, _, rfl, .inl (SqL.of upd_same), rfl, rfl, _, rfl, if_neg_of (by decide +kernel) ?_⟩
        have e : resS (act P0 (.hold h' o)) = Str.empty := by unfold act; dsimp only; rw [if_neg (fun q => q oh), if_neg (fun q => q c2)]; rfl
        rw [show dueOf P0 (.deed (.hold h' o)) = _ from e] at k
        rw [e_empty]
        exact k _ A2
      | drop h' =>
        have eh : h' = h := same rfl
        subst eh
        refine ⟨_, rfl, t, _, _, _, rfl, rfl, SqT.of hT1, at_of (j := 0) rfl rfl, rfl, _, rfl, if_neg_of (by decide +kernel) (if_neg_of rfl ?_)⟩
        refine ⟨_, rfl, t, _, _, _, rfl, rfl, SqT.of hT1, at_of (j := 0) rfl rfl, rfl, _, rfl, if_neg_of (by decide +kernel) (iteF ?_)⟩
        refine ⟨_, rfl, t, _, _, _, rfl, rfl, SqT.of hT1, at_of (j := 0) rfl rfl, rfl, _, rfl, if_neg_of (by decide +kernel) (iteF ?_)⟩
        refine ⟨_, rfl, t, _, _, _, rfl, rfl, SqT.of hT1, at_of (j := 0) rfl rfl, rfl, _, rfl, if_neg_of (by decide +kernel) ?_⟩
        refine ⟨_, rfl, t, _, _, _, rfl, rfl, SqT.of hT1, at_of (j := 0) rfl rfl, rfl, _, rfl, if_neg_of (by decide +kernel) ?_⟩
        refine ⟨_, rfl, t, _, _, _, rfl, rfl, SqT.of hT1, at_of (j := 0) rfl rfl, rfl, _, rfl, if_neg_of (by decide +kernel) ?_⟩
        refine ⟨_, rfl, t, _, _, _, rfl, rfl, SqT.of hT1, at_of (j := 0) rfl rfl, (by show 2 ≤ sizeLine; decide), fun l5 hl5 => ?_⟩
        have A2 := (A1.new (o := .lst [V.str "put", V.str "empty"]) hl5).less (same_upd (A1.same.free hl5))
        refine ⟨l5, _, rfl, .inl (SqL.of upd_same), rfl, rfl, _, rfl, if_neg_of (by decide +kernel) ?_⟩
        have e : resS (act P0 (.drop h')) = Str.empty := by unfold act; dsimp only; rw [if_neg (fun q => q oh)]; rfl
        rw [show dueOf P0 (.deed (.drop h')) = _ from e] at k
        rw [e_empty]
        exact k _ A2
      | put h' z o =>
        have eh : h' = h := same rfl
        subst eh
        refine ⟨_, rfl, t, _, _, _, rfl, rfl, SqT.of hT1, at_of (j := 0) rfl rfl, rfl, _, rfl, if_neg_of (by decide +kernel) (if_neg_of rfl ?_)⟩
        refine ⟨_, rfl, t, _, _, _, rfl, rfl, SqT.of hT1, at_of (j := 0) rfl rfl, rfl, _, rfl, if_pos_of (by decide +kernel) ?_⟩
        refine ⟨_, rfl, t, _, _, _, rfl, rfl, SqT.of hT1, at_of (j := 3) rfl rfl, o, rfl, _, rfl, ?_⟩
        by_cases c2 : OkH o
        case neg =>
          refine if_pos_of (by rw [decide_eq_false c2]; rfl) ?_
          have e := (due_other P0 oh c2).2.1 z
          rw [show dueOf P0 (.deed (.put h' z o)) = _ from e] at k
          exact k _ A1
        refine if_neg_of (by rw [decide_eq_true c2]; rfl) ?_
        refine ⟨_, rfl, t, _, _, _, rfl, rfl, SqT.of hT1, at_of (j := 0) rfl rfl, rfl, _, rfl, if_neg_of (by decide +kernel) (iteF ?_)⟩
        refine ⟨_, rfl, t, _, _, _, rfl, rfl, SqT.of hT1, at_of (j := 0) rfl rfl, rfl, _, rfl, if_neg_of (by decide +kernel) ?_⟩
        refine ⟨_, rfl, t, _, _, _, rfl, rfl, SqT.of hT1, at_of (j := 0) rfl rfl, rfl, _, rfl, if_neg_of (by decide +kernel) ?_⟩
        refine ⟨_, rfl, t, _, _, _, rfl, rfl, SqT.of hT1, at_of (j := 0) rfl rfl, rfl, _, rfl, if_neg_of (by decide +kernel) ?_⟩
        refine ⟨_, rfl, t, _, _, _, rfl, rfl, SqT.of hT1, at_of (j := 0) rfl rfl, (by show 2 ≤ sizeLine; decide), fun l5 hl5 => ?_⟩
        have A2 := (A1.new (o := .lst [V.str "put", V.str "empty"]) hl5).less (same_upd (A1.same.free hl5))
        refine ⟨l5, _, rfl, .inl (SqL.of upd_same), rfl, rfl, _, rfl, if_pos_of (by decide +kernel) ?_⟩
        have hT2 := A2.same _ _ hT
        rw [show dueOf P0 (.deed (.put h' z o)) = _ from due_put oh c2] at k
        exact ⟨_, rfl, _, rfl, t, _, _, _, rfl, rfl, SqT.of hT2, at_of (j := 1) rfl rfl, _, rfl, t, _, _, _, rfl, rfl, SqT.of hT2, at_of (j := 2) rfl rfl, p, g, P0, R, h', z, rfl, A2, W, oh, k⟩
      | empty h' z =>
        have eh : h' = h := same rfl
        subst eh
        refine ⟨_, rfl, t, _, _, _, rfl, rfl, SqT.of hT1, at_of (j := 0) rfl rfl, rfl, _, rfl, if_neg_of (by decide +kernel) (if_neg_of rfl ?_)⟩
        refine ⟨_, rfl, t, _, _, _, rfl, rfl, SqT.of hT1, at_of (j := 0) rfl rfl, rfl, _, rfl, if_neg_of (by decide +kernel) (iteF ?_)⟩
        refine ⟨_, rfl, t, _, _, _, rfl, rfl, SqT.of hT1, at_of (j := 0) rfl rfl, rfl, _, rfl, if_neg_of (by decide +kernel) (iteF ?_)⟩
        refine ⟨_, rfl, t, _, _, _, rfl, rfl, SqT.of hT1, at_of (j := 0) rfl rfl, rfl, _, rfl, if_neg_of (by decide +kernel) ?_⟩
        refine ⟨_, rfl, t, _, _, _, rfl, rfl, SqT.of hT1, at_of (j := 0) rfl rfl, rfl, _, rfl, if_neg_of (by decide +kernel) ?_⟩
        refine ⟨_, rfl, t, _, _, _, rfl, rfl, SqT.of hT1, at_of (j := 0) rfl rfl, rfl, _, rfl, if_neg_of (by decide +kernel) ?_⟩
        refine ⟨_, rfl, t, _, _, _, rfl, rfl, SqT.of hT1, at_of (j := 0) rfl rfl, (by show 2 ≤ sizeLine; decide), fun l5 hl5 => ?_⟩
        have A2 := (A1.new (o := .lst [V.str "put", V.str "empty"]) hl5).less (same_upd (A1.same.free hl5))
        refine ⟨l5, _, rfl, .inl (SqL.of upd_same), rfl, rfl, _, rfl, if_pos_of (by decide +kernel) ?_⟩
        have hT2 := A2.same _ _ hT
        rw [show dueOf P0 (.deed (.empty h' z)) = _ from due_empty oh] at k
        exact ⟨_, rfl, _, rfl, t, _, _, _, rfl, rfl, SqT.of hT2, at_of (j := 1) rfl rfl, _, rfl, t, _, _, _, rfl, rfl, SqT.of hT2, at_of (j := 2) rfl rfl, p, g, P0, R, h', z, rfl, A2, W, oh, k⟩
      | take h' o z =>
        have eh : h' = h := same rfl
        subst eh
        refine ⟨_, rfl, t, _, _, _, rfl, rfl, SqT.of hT1, at_of (j := 0) rfl rfl, rfl, _, rfl, if_neg_of (by decide +kernel) (if_neg_of rfl ?_)⟩
        refine ⟨_, rfl, t, _, _, _, rfl, rfl, SqT.of hT1, at_of (j := 0) rfl rfl, rfl, _, rfl, if_neg_of (by decide +kernel) (iteF ?_)⟩
        refine ⟨_, rfl, t, _, _, _, rfl, rfl, SqT.of hT1, at_of (j := 0) rfl rfl, rfl, _, rfl, if_pos_of (by decide +kernel) ?_⟩
        refine ⟨_, rfl, t, _, _, _, rfl, rfl, SqT.of hT1, at_of (j := 2) rfl rfl, o, rfl, _, rfl, ?_⟩
        by_cases c2 : OkH o
        case neg =>
          refine if_pos_of (by rw [decide_eq_false c2]; rfl) ?_
          have e := (due_other P0 oh c2).2.2 z
          rw [show dueOf P0 (.deed (.take h' o z)) = _ from e] at k
          exact k _ A1
        refine if_neg_of (by rw [decide_eq_true c2]; rfl) ?_
        refine ⟨_, rfl, t, _, _, _, rfl, rfl, SqT.of hT1, at_of (j := 0) rfl rfl, rfl, _, rfl, if_neg_of (by decide +kernel) ?_⟩
        refine ⟨_, rfl, t, _, _, _, rfl, rfl, SqT.of hT1, at_of (j := 0) rfl rfl, rfl, _, rfl, if_pos_of (by decide +kernel) ?_⟩
        rw [show dueOf P0 (.deed (.take h' o z)) = _ from due_take oh c2] at k
        exact ⟨_, rfl, _, rfl, t, _, _, _, rfl, rfl, SqT.of hT1, at_of (j := 2) rfl rfl, _, rfl, t, _, _, _, rfl, rfl, SqT.of hT1, at_of (j := 3) rfl rfl, p, g, P0, R, o, z, rfl, A1, W, c2, k⟩
    · have eh : h' = h := same rfl
      subst eh
      refine ⟨_, rfl, t, _, _, _, rfl, rfl, SqT.of hT1, at_of (j := 0) rfl rfl, rfl, _, rfl, if_neg_of (by decide +kernel) (if_neg_of rfl ?_)⟩
      refine ⟨_, rfl, t, _, _, _, rfl, rfl, SqT.of hT1, at_of (j := 0) rfl rfl, rfl, _, rfl, if_neg_of (by decide +kernel) (iteF ?_)⟩
      refine ⟨_, rfl, t, _, _, _, rfl, rfl, SqT.of hT1, at_of (j := 0) rfl rfl, rfl, _, rfl, if_neg_of (by decide +kernel) (iteF ?_)⟩
      refine ⟨_, rfl, t, _, _, _, rfl, rfl, SqT.of hT1, at_of (j := 0) rfl rfl, rfl, _, rfl, if_neg_of (by decide +kernel) ?_⟩
      refine ⟨_, rfl, t, _, _, _, rfl, rfl, SqT.of hT1, at_of (j := 0) rfl rfl, rfl, _, rfl, if_neg_of (by decide +kernel) ?_⟩
      refine ⟨_, rfl, t, _, _, _, rfl, rfl, SqT.of hT1, at_of (j := 0) rfl rfl, rfl, _, rfl, if_pos_of (by decide +kernel) ?_⟩
      rw [show dueOf P0 (.led h' ws) = ledS (ledGo P0.boxes (P0.hands.getD h'.toNat none) ws) from if_pos oh] at k
      exact ⟨_, rfl, _, rfl, p, t, g, P0, R, h', ws, rfl, A1, W, oh, SqT.of hT1, k⟩

    · have eh : h' = h := same rfl
      subst eh
      refine ⟨_, rfl, t, _, _, _, rfl, rfl, SqT.of hT1, at_of (j := 0) rfl rfl, rfl, _, rfl, if_neg_of (by decide +kernel) (if_neg_of rfl ?_)⟩
      refine ⟨_, rfl, t, _, _, _, rfl, rfl, SqT.of hT1, at_of (j := 0) rfl rfl, rfl, _, rfl, if_neg_of (by decide +kernel) (iteF ?_)⟩
      refine ⟨_, rfl, t, _, _, _, rfl, rfl, SqT.of hT1, at_of (j := 0) rfl rfl, rfl, _, rfl, if_neg_of (by decide +kernel) (iteF ?_)⟩
      refine ⟨_, rfl, t, _, _, _, rfl, rfl, SqT.of hT1, at_of (j := 0) rfl rfl, rfl, _, rfl, if_neg_of (by decide +kernel) ?_⟩
      refine ⟨_, rfl, t, _, _, _, rfl, rfl, SqT.of hT1, at_of (j := 0) rfl rfl, rfl, _, rfl, if_neg_of (by decide +kernel) ?_⟩
      refine ⟨_, rfl, t, _, _, _, rfl, rfl, SqT.of hT1, at_of (j := 0) rfl rfl, rfl, _, rfl, if_neg_of (by decide +kernel) ?_⟩
      refine ⟨_, rfl, t, _, _, _, rfl, rfl, SqT.of hT1, at_of (j := 0) rfl rfl, (by show 2 ≤ sizeLine; decide), fun l5 hl5 => ?_⟩
      have A2 := (A1.new (o := .lst [V.str "put", V.str "empty"]) hl5).less (same_upd (A1.same.free hl5))
      refine ⟨l5, _, rfl, .inl (SqL.of upd_same), rfl, rfl, _, rfl, if_neg_of (by decide +kernel) ?_⟩
      rw [show dueOf P0 (.holds h') = Str.empty from if_pos oh] at k
      rw [e_empty]
      exact k _ A2
abbrev wLst (K : PySem.W.Frag) : List V → Hp → VK → Prop := fun xs H Q => ∃ p ys, xs = [.ref p] ∧ (SqL K H p ys ∨ SqT K H p ys) ∧ ∀ l, H l = none → Q (.ref l) (upd H l (.lst ys))
structure TxtI (K : PySem.W.Frag) (mg : Str → Option Value) (eH eS eF eB eL eD : Addr) : Prop where
  ve : mg "ValueError" = none
  C : ∀ b : Bad, ExcC K (clsOf eH eS eF eB eL b)
  kit : ∀ (b : Bad) (c : Option Bad), PySem.W.kitOne K (.ref (clsOf eH eS eF eB eL b)) (.ref (cls6 eH eS eF eB eL eD c)) = some (decide (some b = c))
  kitV : ∀ b : Bad, PySem.W.kitOne K (.ref (clsOf eH eS eF eB eL b)) (.type "ValueError") = some true
def spWordOf (K : PySem.W.Frag) (C B : Addr) : Sp := fun vs H Q _ => ∃ (p t : Addr) (g : Geo) (P : Pl) (R : Hp) (a : Ask), vs = [.ref p, .ref t] ∧ PileAt C B p g P R H ∧ Good P ∧ R t = some (.tup a.vs) ∧ a.Ok ∧
  ∀ (g' : Geo) (P' : Pl) (R' H' : Hp), Same R R' → PileAt C B p g' P' R' H' → Good P' → (dueOf P a ≠ Str.empty → P' = P ∧ g' = g) → Q (.str (dueOf P a)) H'
theorem scWordOf : FnScope nWordOf ["_law_pile", "_law_deed"] (defScope sWordOf) := ⟨rfl, rfl, rfl, by decide +kernel, rfl, by decide +kernel, by decide +kernel⟩
def TupsSB (H : Hp) : List Addr → List (Str × Bool) → Prop := Paired fun q e => H q = some (.tup [V.str e.1, V.bl e.2])
theorem TupsSB.same {H H' : Hp} (s : Same H H') {qs : List Addr} {l : List (Str × Bool)} (h : TupsSB H qs l) : TupsSB H' qs l := paired_imp (fun _ _ h => s _ _ h) h
def fitsL (b : Bad) : List (Str × Bool) := [("hand", decide (some b = some Bad.hand)), ("size", decide (some b = some Bad.size)), ("full", decide (some b = some Bad.full)), ("box", decide (some b = some Bad.box)), ("slot", decide (some b = some Bad.slot)), ("deed", decide (some b = none)), ("other", !true)]
theorem fits_one : ∀ b : Bad, ((fitsL b).filter fun e => e.2).map (fun e => e.1) = [badS b] := by
  intro b
  cases b <;> rfl
theorem badS_len : ∀ b : Bad, (badS b).length ≤ 10 := by intro b; cases b <;> decide +kernel
theorem badS_ne : ∀ b : Bad, badS b ≠ Str.empty := by intro b; cases b <;> decide +kernel
def tbWord (K : PySem.W.Frag) (C B eH eS eF eB eL : Addr) (W : WX) : TS := (tIfS (tTest (tOp rEq (tOp (rIxT K) (tVar 1) (tC (.int 0))) (tC (.str "points")))) (tDrop (tMethE C "points" (spPoints C B eB) (WE W) (tVar 0) (tCons (tOp (rIxT K) (tVar 1) (tC (.int 1))) tNil))) (tIfS (tTest (tOp rEq (tOp (rIxT K) (tVar 1) (tC (.int 0))) (tC (.str "weighs")))) (tDrop (tMethE C "weighs" (spWeighs C B eB) (WE W) (tVar 0) (tCons (tOp (rIxT K) (tVar 1) (tC (.int 1))) tNil))) (tIfS (tTest (tOp rEq (tOp (rIxT K) (tVar 1) (tC (.int 0))) (tC (.str "way")))) (tDrop (tCallS (spWayTo C B eB) (WE W) (tCons (tVar 0) (tCons (tOp (rIxT K) (tVar 1) (tC (.int 1))) tNil)))) (tIfS (tTest (tOp rEq (tOp (rIxT K) (tVar 1) (tC (.int 0))) (tC (.str "reached")))) (tDrop (tCallS (spReached K C B eB) (WE W) (tCons (tVar 0) (tCons (tCB (wLst K) (tCons (tSl (rSlT K) (tVar 1) (tPart (tC (.int 1))) tNoPart) tNil)) tNil)))) (tIfS (tTest (tOp rEq (tOp (rIxT K) (tVar 1) (tC (.int 0))) (tC (.str "led")))) (tDrop (tCallS (spLed K C B eH eB eL) (WE W) (tCons (tVar 0) (tCons (tCB (wLst K) (tCons (tSl (rSlT K) (tVar 1) (tPart (tC (.int 1))) tNoPart) tNil)) tNil)))) (tIfS (tTest (tOp rEq (tOp (rIxT K) (tVar 1) (tC (.int 0))) (tC (.str "holds")))) (tDrop (tMethE C "holds" (spHolds C B eH) (WE W) (tVar 0) (tCons (tOp (rIxT K) (tVar 1) (tC (.int 1))) tNil))) (tDrop (tCallS (spDone K C B eH eS eF eB eL) (WE W) (tCons (tVar 0) (tCons (tVar 1) tNil))))))))))
def tsWord (K : PySem.W.Frag) (eH eS eF eB eL eD : Addr) (a : Addr) (cls : Value) (d : Option Addr) : TS := (tSeq (tAsg (tLst (tCons (tTup (tCons (tC (.str "hand")) (tCons (tCB (rIsE1 K a cls d) (tCons (tVar 2) (tCons (tC (.ref eH)) tNil))) tNil))) (tCons (tTup (tCons (tC (.str "size")) (tCons (tCB (rIsE1 K a cls d) (tCons (tVar 2) (tCons (tC (.ref eS)) tNil))) tNil))) (tCons (tTup (tCons (tC (.str "full")) (tCons (tCB (rIsE1 K a cls d) (tCons (tVar 2) (tCons (tC (.ref eF)) tNil))) tNil))) tNil)))) (gName 3)) (tSeq (tAsg (tOp rCat (tVar 3) (tLst (tCons (tTup (tCons (tC (.str "box")) (tCons (tCB (rIsE1 K a cls d) (tCons (tVar 2) (tCons (tC (.ref eB)) tNil))) tNil))) (tCons (tTup (tCons (tC (.str "slot")) (tCons (tCB (rIsE1 K a cls d) (tCons (tVar 2) (tCons (tC (.ref eL)) tNil))) tNil))) tNil)))) (gName 3)) (tSeq (tAsg (tOp rCat (tVar 3) (tLst (tCons (tTup (tCons (tC (.str "deed")) (tCons (tCB (rIsE1 K a cls d) (tCons (tVar 2) (tCons (tC (.ref eD)) tNil))) tNil))) (tCons (tTup (tCons (tC (.str "other")) (tCons (tNotV (tCB (rIsE1 K a cls d) (tCons (tVar 2) (tCons (tC (.ty "ValueError")) tNil)))) tNil))) tNil)))) (gName 3)) (tRet (tM1 (fun x xs H_1 Q => ∃ a p ys, x = V.str a ∧ xs = [V.ref p] ∧ (SqL K H_1 p (List.map V.str ys) ∨ SqT K H_1 p (List.map V.str ys)) ∧ (List.map (fun x => x.length) ys).sum + ys.length * a.length ≤ 16777216 ∧ Q (V.str (Txt.join a ys)) H_1) (tC (.str "")) (tLc (iList K (tVar 3)) (gTup K 2 (gCons (gName 4) (gCons (gName 5) gNil))) (tB (tVar 5)) (tVar 4) [4, 5]))))))
theorem filter_snocE {l : List (Str × Bool)} {i : Nat} {e : Str × Bool} (h : l[i]? = some e) : ((l.take (i + 1)).filter fun e => e.2) = ((l.take i).filter fun e => e.2) ++ (if e.2 = true then [e] else []) := by
  rw [takeS h, List.filter_append]
  congr 1
  rw [List.filter_cons]
  split <;> rfl

theorem word_suite {eD : Addr} (TI : TxtI K mg eH eS eF eB eL eD) (b : Bad) {p t ax : Addr} {H0 : Hp} {D0 : Ends} (k : ∀ H', Same H0 H' → D0.rt (.str (badS b)) H') :
    tsWord K eH eS eF eB eL eD ax (.ref (clsOf eH eS eF eB eL b)) none D0 [some (.ref p), some (.ref t), some (.ref ax), none, none, none] H0 := by
  unfold tsWord
  have s2 : 2 ≤ sizeLine := by decide
  have S0 : Same H0 H0 := fun _ _ e => e
  refine ⟨_, rfl, _, _, _, _, rfl, rfl, TI.C b, rfl, .own _, TI.kit b (some .hand), s2, fun q0 hq0 => ?_⟩
  have S1 : Same H0 (upd H0 q0 (.tup [V.str "hand", V.bl (decide (some b = some Bad.hand))])) := S0.trans (same_upd hq0)
  have T1 : Same H0 (upd H0 q0 (.tup [V.str "hand", V.bl (decide (some b = some Bad.hand))])) := same_upd hq0
  have kq0 : upd H0 q0 (.tup [V.str "hand", V.bl (decide (some b = some Bad.hand))]) q0 = some (.tup [V.str "hand", V.bl (decide (some b = some Bad.hand))]) := upd_same
  generalize upd H0 q0 (.tup [V.str "hand", V.bl (decide (some b = some Bad.hand))]) = H1 at S1 T1 kq0 ⊢
  refine ⟨_, rfl, _, _, _, _, rfl, rfl, TI.C b, rfl, .own _, TI.kit b (some .size), s2, fun q1 hq1 => ?_⟩
  have S2 : Same H0 (upd H1 q1 (.tup [V.str "size", V.bl (decide (some b = some Bad.size))])) := S1.trans (same_upd hq1)
  have T2 : Same H1 (upd H1 q1 (.tup [V.str "size", V.bl (decide (some b = some Bad.size))])) := same_upd hq1
  have kq1 : upd H1 q1 (.tup [V.str "size", V.bl (decide (some b = some Bad.size))]) q1 = some (.tup [V.str "size", V.bl (decide (some b = some Bad.size))]) := upd_same
  generalize upd H1 q1 (.tup [V.str "size", V.bl (decide (some b = some Bad.size))]) = H2 at S2 T2 kq1 ⊢
  have kq0 := T2 _ _ kq0
  refine ⟨_, rfl, _, _, _, _, rfl, rfl, TI.C b, rfl, .own _, TI.kit b (some .full), s2, fun q2 hq2 => ?_⟩
  have S3 : Same H0 (upd H2 q2 (.tup [V.str "full", V.bl (decide (some b = some Bad.full))])) := S2.trans (same_upd hq2)
  have T3 : Same H2 (upd H2 q2 (.tup [V.str "full", V.bl (decide (some b = some Bad.full))])) := same_upd hq2
  have kq2 : upd H2 q2 (.tup [V.str "full", V.bl (decide (some b = some Bad.full))]) q2 = some (.tup [V.str "full", V.bl (decide (some b = some Bad.full))]) := upd_same
  generalize upd H2 q2 (.tup [V.str "full", V.bl (decide (some b = some Bad.full))]) = H3 at S3 T3 kq2 ⊢
  have kq0 := T3 _ _ kq0
  have kq1 := T3 _ _ kq1
  refine ⟨(by show 3 ≤ sizeLine; decide), fun la hla => ?_⟩
  have S4 : Same H0 (upd H3 la (.lst [V.ref q0, V.ref q1, V.ref q2])) := S3.trans (same_upd hla)
  have T4 : Same H3 (upd H3 la (.lst [V.ref q0, V.ref q1, V.ref q2])) := same_upd hla
  have kla : upd H3 la (.lst [V.ref q0, V.ref q1, V.ref q2]) la = some (.lst [V.ref q0, V.ref q1, V.ref q2]) := upd_same
  generalize upd H3 la (.lst [V.ref q0, V.ref q1, V.ref q2]) = H4 at S4 T4 kla ⊢
  have kq0 := T4 _ _ kq0
  have kq1 := T4 _ _ kq1
  have kq2 := T4 _ _ kq2
  refine ⟨_, rfl, ?_⟩
  refine ⟨_, rfl, _, _, _, _, rfl, rfl, TI.C b, rfl, .own _, TI.kit b (some .box), s2, fun q3 hq3 => ?_⟩
  have S5 : Same H0 (upd H4 q3 (.tup [V.str "box", V.bl (decide (some b = some Bad.box))])) := S4.trans (same_upd hq3)
  have T5 : Same H4 (upd H4 q3 (.tup [V.str "box", V.bl (decide (some b = some Bad.box))])) := same_upd hq3
  have kq3 : upd H4 q3 (.tup [V.str "box", V.bl (decide (some b = some Bad.box))]) q3 = some (.tup [V.str "box", V.bl (decide (some b = some Bad.box))]) := upd_same
  generalize upd H4 q3 (.tup [V.str "box", V.bl (decide (some b = some Bad.box))]) = H5 at S5 T5 kq3 ⊢
  have kq0 := T5 _ _ kq0
  have kq1 := T5 _ _ kq1
  have kq2 := T5 _ _ kq2
  have kla := T5 _ _ kla
  refine ⟨_, rfl, _, _, _, _, rfl, rfl, TI.C b, rfl, .own _, TI.kit b (some .slot), s2, fun q4 hq4 => ?_⟩
  have S6 : Same H0 (upd H5 q4 (.tup [V.str "slot", V.bl (decide (some b = some Bad.slot))])) := S5.trans (same_upd hq4)
  have T6 : Same H5 (upd H5 q4 (.tup [V.str "slot", V.bl (decide (some b = some Bad.slot))])) := same_upd hq4
  have kq4 : upd H5 q4 (.tup [V.str "slot", V.bl (decide (some b = some Bad.slot))]) q4 = some (.tup [V.str "slot", V.bl (decide (some b = some Bad.slot))]) := upd_same
  generalize upd H5 q4 (.tup [V.str "slot", V.bl (decide (some b = some Bad.slot))]) = H6 at S6 T6 kq4 ⊢
  have kq0 := T6 _ _ kq0
  have kq1 := T6 _ _ kq1
  have kq2 := T6 _ _ kq2
  have kla := T6 _ _ kla
  have kq3 := T6 _ _ kq3
  refine ⟨(by show 2 ≤ sizeLine; decide), fun lb hlb => ?_⟩
  have S7 : Same H0 (upd H6 lb (.lst [V.ref q3, V.ref q4])) := S6.trans (same_upd hlb)
  have T7 : Same H6 (upd H6 lb (.lst [V.ref q3, V.ref q4])) := same_upd hlb
  have klb : upd H6 lb (.lst [V.ref q3, V.ref q4]) lb = some (.lst [V.ref q3, V.ref q4]) := upd_same
  generalize upd H6 lb (.lst [V.ref q3, V.ref q4]) = H7 at S7 T7 klb ⊢
  have kq0 := T7 _ _ kq0
  have kq1 := T7 _ _ kq1
  have kq2 := T7 _ _ kq2
  have kla := T7 _ _ kla
  have kq3 := T7 _ _ kq3
  have kq4 := T7 _ _ kq4
  refine ⟨la, lb, _, _, rfl, rfl, kla, klb, (by show 3 + 2 ≤ sizeLine; decide), fun lc hlc => ?_⟩
  have S8 : Same H0 (upd H7 lc (.lst ([V.ref q0, V.ref q1, V.ref q2] ++ [V.ref q3, V.ref q4]))) := S7.trans (same_upd hlc)
  have T8 : Same H7 (upd H7 lc (.lst ([V.ref q0, V.ref q1, V.ref q2] ++ [V.ref q3, V.ref q4]))) := same_upd hlc
  have klc : upd H7 lc (.lst ([V.ref q0, V.ref q1, V.ref q2] ++ [V.ref q3, V.ref q4])) lc = some (.lst [V.ref q0, V.ref q1, V.ref q2, V.ref q3, V.ref q4]) := upd_same
  generalize upd H7 lc (.lst ([V.ref q0, V.ref q1, V.ref q2] ++ [V.ref q3, V.ref q4])) = H8 at S8 T8 klc ⊢
  have kq0 := T8 _ _ kq0
  have kq1 := T8 _ _ kq1
  have kq2 := T8 _ _ kq2
  have kla := T8 _ _ kla
  have kq3 := T8 _ _ kq3
  have kq4 := T8 _ _ kq4
  have klb := T8 _ _ klb
  refine ⟨_, rfl, ?_⟩
  refine ⟨_, rfl, _, _, _, _, rfl, rfl, TI.C b, rfl, .own _, TI.kit b (none), s2, fun q5 hq5 => ?_⟩
  have S9 : Same H0 (upd H8 q5 (.tup [V.str "deed", V.bl (decide (some b = none))])) := S8.trans (same_upd hq5)
  have T9 : Same H8 (upd H8 q5 (.tup [V.str "deed", V.bl (decide (some b = none))])) := same_upd hq5
  have kq5 : upd H8 q5 (.tup [V.str "deed", V.bl (decide (some b = none))]) q5 = some (.tup [V.str "deed", V.bl (decide (some b = none))]) := upd_same
  generalize upd H8 q5 (.tup [V.str "deed", V.bl (decide (some b = none))]) = H9 at S9 T9 kq5 ⊢
  have kq0 := T9 _ _ kq0
  have kq1 := T9 _ _ kq1
  have kq2 := T9 _ _ kq2
  have kla := T9 _ _ kla
  have kq3 := T9 _ _ kq3
  have kq4 := T9 _ _ kq4
  have klb := T9 _ _ klb
  have klc := T9 _ _ klc
  refine ⟨_, rfl, _, _, _, _, rfl, rfl, TI.C b, rfl, .ty _, TI.kitV b, _, rfl, s2, fun q6 hq6 => ?_⟩
  have S10 : Same H0 (upd H9 q6 (.tup [V.str "other", V.bl (!true)])) := S9.trans (same_upd hq6)
  have T10 : Same H9 (upd H9 q6 (.tup [V.str "other", V.bl (!true)])) := same_upd hq6
  have kq6 : upd H9 q6 (.tup [V.str "other", V.bl (!true)]) q6 = some (.tup [V.str "other", V.bl (!true)]) := upd_same
  generalize upd H9 q6 (.tup [V.str "other", V.bl (!true)]) = H10 at S10 T10 kq6 ⊢
  have kq0 := T10 _ _ kq0
  have kq1 := T10 _ _ kq1
  have kq2 := T10 _ _ kq2
  have kla := T10 _ _ kla
  have kq3 := T10 _ _ kq3
  have kq4 := T10 _ _ kq4
  have klb := T10 _ _ klb
  have klc := T10 _ _ klc
  have kq5 := T10 _ _ kq5
  refine ⟨(by show 2 ≤ sizeLine; decide), fun ld hld => ?_⟩
  have S11 : Same H0 (upd H10 ld (.lst [V.ref q5, V.ref q6])) := S10.trans (same_upd hld)
  have T11 : Same H10 (upd H10 ld (.lst [V.ref q5, V.ref q6])) := same_upd hld
  have kld : upd H10 ld (.lst [V.ref q5, V.ref q6]) ld = some (.lst [V.ref q5, V.ref q6]) := upd_same
  generalize upd H10 ld (.lst [V.ref q5, V.ref q6]) = H11 at S11 T11 kld ⊢
  have kq0 := T11 _ _ kq0
  have kq1 := T11 _ _ kq1
  have kq2 := T11 _ _ kq2
  have kla := T11 _ _ kla
  have kq3 := T11 _ _ kq3
  have kq4 := T11 _ _ kq4
  have klb := T11 _ _ klb
  have klc := T11 _ _ klc
  have kq5 := T11 _ _ kq5
  have kq6 := T11 _ _ kq6
  refine ⟨lc, ld, _, _, rfl, rfl, klc, kld, (by show 5 + 2 ≤ sizeLine; decide), fun le hle => ?_⟩
  have S12 : Same H0 (upd H11 le (.lst ([V.ref q0, V.ref q1, V.ref q2, V.ref q3, V.ref q4] ++ [V.ref q5, V.ref q6]))) := S11.trans (same_upd hle)
  have T12 : Same H11 (upd H11 le (.lst ([V.ref q0, V.ref q1, V.ref q2, V.ref q3, V.ref q4] ++ [V.ref q5, V.ref q6]))) := same_upd hle
  have kle : upd H11 le (.lst ([V.ref q0, V.ref q1, V.ref q2, V.ref q3, V.ref q4] ++ [V.ref q5, V.ref q6])) le = some (.lst [V.ref q0, V.ref q1, V.ref q2, V.ref q3, V.ref q4, V.ref q5, V.ref q6]) := upd_same
  generalize upd H11 le (.lst ([V.ref q0, V.ref q1, V.ref q2, V.ref q3, V.ref q4] ++ [V.ref q5, V.ref q6])) = H12 at S12 T12 kle ⊢
  have kq0 := T12 _ _ kq0
  have kq1 := T12 _ _ kq1
  have kq2 := T12 _ _ kq2
  have kla := T12 _ _ kla
  have kq3 := T12 _ _ kq3
  have kq4 := T12 _ _ kq4
  have klb := T12 _ _ klb
  have klc := T12 _ _ klc
  have kq5 := T12 _ _ kq5
  have kq6 := T12 _ _ kq6
  have kld := T12 _ _ kld
  have TS : TupsSB H12 [q0, q1, q2, q3, q4, q5, q6] (fitsL b) := .cons kq0 (.cons kq1 (.cons kq2 (.cons kq3 (.cons kq4 (.cons kq5 (.cons kq6 .nil))))))
  have kle : H12 le = some (.lst ([q0, q1, q2, q3, q4, q5, q6].map V.ref)) := kle
  have ln : [q0, q1, q2, q3, q4, q5, q6].length = (fitsL b).length := rfl
  generalize [q0, q1, q2, q3, q4, q5, q6] = qs at TS kle ln
  refine ⟨⟨_, rfl⟩, _, rfl, le, rfl, ⟨_, SqL.of kle⟩, fun D hD => ?_⟩
  refine lc_it walk_list (fun j H' => Same H12 H' ∧ H' D = some (.lst ((((fitsL b).take j).filter fun e => e.2).map fun e => V.str e.1))) ⟨samePut (fun _ _ e => e) hD _, upd_same⟩ (fun j H' _ ⟨S, _⟩ => SqL.of (S _ _ kle)) ?_ ?_
  · rintro j y H8 H9 hj ⟨S8, kd8⟩ ⟨rfl, hy⟩
    obtain ⟨q, hq1, rfl⟩ := refs_at hy
    obtain ⟨e, he, hqe⟩ := paired_at TS j q hq1
    have hqe8 := S8 _ _ hqe
    refine ⟨q, _, rfl, SqT.of hqe8, rfl, _, _, rfl, _, _, rfl, rfl, rfl, _, rfl, e.2, rfl, ?_⟩
    have fs := filter_snocE he
    by_cases c : e.2 = true
    · rw [if_pos c] at fs
      refine if_pos_of c ⟨_, rfl, _, kd8, ?_, sameOff S8 hD _, ?_⟩
      · rw [List.length_map]
        refine Nat.lt_of_le_of_lt (List.length_filter_le _ _) ?_
        rw [List.length_take, sizeLine_eq]
        have : (fitsL b).length = 7 := rfl
        omega
      · rw [upd_same, fs, List.map_append]
        rfl
    · rw [if_neg c, List.append_nil] at fs
      refine if_neg_of (by simpa using c) ⟨S8, ?_⟩
      rw [fs]
      exact kd8
  rintro H8 ⟨S8, kD⟩
  rw [List.length_map, ln, List.take_length] at kD
  have e1 : (((fitsL b).filter fun e => e.2).map fun e => V.str e.1) = [badS b].map V.str := by rw [← fits_one b, List.map_map]; rfl
  rw [e1] at kD
  refine ⟨_, D, _, rfl, rfl, .inl (SqL.of kD), ?_, ?_⟩
  · have := badS_len b
    show ((badS b).length + 0) + 1 * ("" : Str).length ≤ _
    have e0 : ("" : Str).length = 0 := by decide +kernel
    omega
  · rw [txt_join]
    exact k _ (S12.trans S8)
theorem alive_no {P : Pl} {n : Int} (h : get P.boxes n = none) : aliveS P [n] = badS .box := by
  unfold aliveS
  rw [if_neg (fun z => by have := z n List.mem_cons_self; rw [h] at this; cases this)]
  rfl
theorem alive_yes {P : Pl} {n : Int} {b : Bx} (h : get P.boxes n = some b) : aliveS P [n] = Str.empty := by
  unfold aliveS
  rw [if_pos (fun m hm => by rw [List.mem_singleton.mp hm, h]; rfl)]
theorem ok_wordof {f eP eD dW' fI fM fO fR fU fE fQ fH fT fG fA fS fX fY fP fL fB fK fCS fCA fPA fRE fTR fTY fDO fBW fWT fLE fCV fCL fRD fRN fAN fPY fD fZ5 fZ4 fZ1 fZ2 fZ3 fS1 fS2 fS3 fS4 fS5 fS6 fS7 fS8 fS9 fSA fSB fSC : Addr} {fd dI dM dO dR dU dE dQ dH dT dG dA dS dX dY dP dL dB dK dCS dCA dPA dRE dTR dTY dDO dBW dWT dLE dCV dCL dRD dRN dAN dPY dD dZ5 dZ4 dZ1 dZ2 dZ3 dS1 dS2 dS3 dS4 dS5 dS6 dS7 dS8 dS9 dSA dSB dSC : FuncData} (F : Fun K "_law_word_of" "_law_word_of" sWordOf f fd) (T : Txt K mg C B eH eS eF eB eL) (TL : TxtL mg) (TN : TxtN K w mg eD dW') (TW : TxtW mg) (TP : TxtP K mg eP eH eS eF eB eL) (TI : TxtI K mg eH eS eF eB eL eD) (D : Defs K mg C B fI fM fO fR fU fE fQ fH fT fG fA fS fX fY fP fL fB fK fCS fCA fPA fRE fTR fTY fDO fBW fWT fLE fCV fCL fRD fRN fAN fPY fD fZ5 fZ4 fZ1 fZ2 fZ3 fS1 fS2 fS3 fS4 fS5 fS6 fS7 fS8 fS9 fSA fSB fSC dI dM dO dR dU dE dQ dH dT dG dA dS dX dY dP dL dB dK dCS dCA dPA dRE dTR dTY dDO dBW dWT dLE dCV dCL dRD dRN dAN dPY dD dZ5 dZ4 dZ1 dZ2 dZ3 dS1 dS2 dS3 dS4 dS5 dS6 dS7 dS8 dS9 dSA dSB dSC) : FnOk P w K mg base CX0 8 f fd ["_law_pile", "_law_deed"] (spWordOf K C B) := by
  have GM : FnOk P w K mg base (L2N.CX P w) 3 fM dM ["self", "hand", "size"] (spMake C B eH eS eF) := ok_make D.FM T D.FL D.bL D.mL D.FP D.bP D.mP D.MB D.FB D.bB D.FK D.bK D.gK
  have GO : FnOk P w K mg base (L2N.CX P w) 3 fO dO ["self", "hand", "other"] (spHold C B eH) := ok_hold D.FO T D.FL D.bL D.mL D.FP D.bP D.mP D.FK D.bK D.gK
  have GR : FnOk P w K mg base (L2N.CX P w) 3 fR dR ["self", "hand"] (spDrop C B eH) := ok_drop D.FR T D.FL D.bL D.mL D.FP D.bP D.mP D.FK D.bK D.gK
  have GU : FnOk P w K mg base (L2N.CX P w) 3 fU dU ["self", "hand", "slot", "other"] (spPut C B eH eB eL) := ok_put D.FU T D.FL D.bL D.mL D.FP D.bP D.mP D.FK D.bK D.gK D.FY D.bY D.mY D.FCS D.bCS D.gCS
  have GE : FnOk P w K mg base (L2N.CX P w) 3 fE dE ["self", "hand", "slot"] (spEmpty C B eH eB eL) := ok_empty D.FE T D.FL D.bL D.mL D.FP D.bP D.mP D.FK D.bK D.gK D.FY D.bY D.mY D.FCS D.bCS D.gCS
  have GQ : FnOk P w K mg base (L2N.CX P w) 3 fQ dQ ["self", "hand", "other", "slot"] (spTake C B eH eB eL) := ok_take D.FQ T D.FL D.bL D.mL D.FP D.bP D.mP D.FK D.bK D.gK D.FY D.bY D.mY D.FCS D.bCS D.gCS
  have GT : FnOk P w K mg base (L2N.CX P w) 2 fT dT ["self", "number"] (spPoints C B eB) := ok_points D.FT T D.FX D.bX D.mX
  have GG : FnOk P w K mg base (L2N.CX P w) 2 fG dG ["self", "number"] (spWeighs C B eB) := ok_weighs D.FG T D.FX D.bX D.mX
  have GS : FnOk P w K mg base CX0 1 fS dS ["self"] (spSuspects C B) := ok_suspects D.FS T
  have GCA : FnOk P w K mg base CX0 1 fCA dCA ["self", "numbers"] (spClear C B) := ok_clear D.FCA T
  have GPA : FnOk P w K mg base (L2N.CX P w) 3 fPA dPA ["pile", "number"] (spPointedAt C B eB) := ok_pointedat D.FPA T GT D.bT D.mT
  have GRE : FnOk P w K mg base (L2N.CX P w) 4 fRE dRE ["pile", "numbers"] (spReached K C B eB) := ok_reached D.FRE T GPA D.FPA D.bPA D.gPA
  have GTR : FnOk P w K mg base CX0 5 fTR dTR ["pile"] (spTrials C B) := ok_trials D.FTR T GPA D.FPA D.bPA D.gPA GRE D.FRE D.bRE D.gRE GS D.bS D.mS GG D.bG D.mG
  have GTY : FnOk P w K mg base CX0 6 fTY dTY ["pile"] (spTidy C B) := ok_tidy D.FTY T GTR D.FTR D.bTR D.gTR GRE D.FRE D.bRE D.gRE GCA D.bCA D.mCA
  have GDO : FnOk P w K mg base (L2N.CX P w) 7 fDO dDO ["pile", "deed"] (spDone K C B eH eS eF eB eL) := ok_donep D.FDO T GM D.bM D.mM GO D.bO D.mO GR D.bR D.mR GU D.bU D.mU GE D.bE D.mE GQ D.bQ D.mQ GTY D.FTY D.bTY D.gTY
  have GH : FnOk P w K mg base (L2N.CX P w) 2 fH dH ["self", "hand"] (spHolds C B eH) := ok_holds D.FH T D.FK D.bK D.gK
  have GBW : FnOk P w K mg base CX0 3 fBW dBW ["pile"] (spBestWays C B) := ok_bestways D.FBW T TW GH D.bH D.mH GT D.bT D.mT
  have GCV : FnOk P w K mg base (L2N.CX P w) 3 fCV dCV ["pile", "number"] (spCheckAlive C B eB) := ok_checkalive D.FCV T GG D.bG D.mG
  have GCL : FnOk P w K mg base (L2N.CX P w) 1 fCL dCL ["number"] (spCheckLeads eB) := ok_checkleads D.FCL T
  have GWT : FnOk P w K mg base (L2N.CX P w) 4 fWT dWT ["pile", "number"] (spWayTo C B eB) := ok_wayto D.FWT T GCV D.FCV D.bCV D.gCV GBW D.FBW D.bBW D.gBW
  have GCS : FnOk P w K mg base (L2N.CX P w) 1 fCS dCS ["slots", "slot"] (spCheckSlot eL) := ok_checkslot D.FCS T
  have GLE : FnOk P w K mg base (L2N.CX P w) 3 fLE dLE ["pile", "way"] (spLed K C B eH eB eL) := ok_led D.FLE T GH D.bH D.mH GT D.bT D.mT GCL D.FCL D.bCL D.gCL GCS D.FCS D.bCS D.gCS
  refine F.ok scWordOf (fun vs H Q E h => ?_) (fun cdv A outer s H vs Q E hr h => ?_)
  · obtain ⟨p, t, g, P, R, a, rfl, _⟩ := h
    rfl
  · obtain ⟨p, t, g, P0, R, a, rfl, A0, G0, hT, ok, k⟩ := h
    have nd := scWordOf.nd
    have hr2 : Room 2 _ := hr.mono (by decide)
    have hr3 : Room 3 _ := hr.mono (by decide)
    have hr4 : Room 4 _ := hr.mono (by decide)
    have hr7 : Room 7 _ := hr
    have W0 := G0.wf
    have hT0 := A0.same _ _ hT
    have body : ∀ (W : WX) (D1 : Ends), (∀ (b : Bad) (H' R' : Hp), Same R R' → PileAt C B p g P0 R' H' → dueOf P0 a = badS b → W (.ref (clsOf eH eS eF eB eL b)) none (L2.start nWordOf [V.ref p, V.ref t]) H') →
        (∀ (g' : Geo) (P' : Pl) (R' H' : Hp), Same R R' → PileAt C B p g' P' R' H' → Good P' → dueOf P0 a = Str.empty → D1.nx (L2.start nWordOf [V.ref p, V.ref t]) H') → tbWord K C B eH eS eF eB eL W D1 (L2.start nWordOf [V.ref p, V.ref t]) H := by
      intro W D1 hb hf
      unfold tbWord
      cases a with
      | points n =>
        refine ⟨_, rfl, t, _, _, _, rfl, rfl, SqT.of hT0, at_of (j := 0) rfl rfl, rfl, _, rfl, if_pos_of (by decide +kernel) ?_⟩
        exact ⟨_, rfl, p, g.dx, _, rfl, A0.hp, pf_no _ _ _ (by decide +kernel) (by decide +kernel) (by decide +kernel), _, rfl, t, _, _, _, rfl, rfl, SqT.of hT0, at_of (j := 1) rfl rfl, p, g, P0, R, n, rfl, A0, fun b hb => W0.sl n b hb, (fun z => hb .box H R (fun _ _ e => e) A0 (alive_no z)), fun b hb r hr => hf g P0 _ _ (same_upd (A0.same.free hr)) (A0.new hr) G0 (alive_yes hb)⟩
      | weighs n =>
        refine ⟨_, rfl, t, _, _, _, rfl, rfl, SqT.of hT0, at_of (j := 0) rfl rfl, rfl, _, rfl, if_neg_of (by decide +kernel) ?_⟩
        refine ⟨_, rfl, t, _, _, _, rfl, rfl, SqT.of hT0, at_of (j := 0) rfl rfl, rfl, _, rfl, if_pos_of (by decide +kernel) ?_⟩
        exact ⟨_, rfl, p, g.dx, _, rfl, A0.hp, pf_no _ _ _ (by decide +kernel) (by decide +kernel) (by decide +kernel), _, rfl, t, _, _, _, rfl, rfl, SqT.of hT0, at_of (j := 1) rfl rfl, p, g, P0, R, n, rfl, A0, (fun z => hb .box H R (fun _ _ e => e) A0 (alive_no z)), fun b hb => hf g P0 R _ (fun _ _ e => e) A0 G0 (alive_yes hb)⟩
      | way n =>
        refine ⟨_, rfl, t, _, _, _, rfl, rfl, SqT.of hT0, at_of (j := 0) rfl rfl, rfl, _, rfl, if_neg_of (by decide +kernel) ?_⟩
        refine ⟨_, rfl, t, _, _, _, rfl, rfl, SqT.of hT0, at_of (j := 0) rfl rfl, rfl, _, rfl, if_neg_of (by decide +kernel) ?_⟩
        refine ⟨_, rfl, t, _, _, _, rfl, rfl, SqT.of hT0, at_of (j := 0) rfl rfl, rfl, _, rfl, if_pos_of (by decide +kernel) ?_⟩
        exact ⟨_, rfl, _, rfl, t, _, _, _, rfl, rfl, SqT.of hT0, at_of (j := 1) rfl rfl, p, g, P0, R, n, rfl, A0, W0, (fun z => hb .box H R (fun _ _ e => e) A0 (alive_no z)), fun ⟨b, hb⟩ f R1 H1 s1 A1 _ _ => ⟨fun _ => hf g P0 R1 _ s1 A1 G0 (alive_yes hb), fun w r _ _ _ _ => hf g P0 R1 _ s1 A1 G0 (alive_yes hb)⟩⟩
      | reached l =>
        refine ⟨_, rfl, t, _, _, _, rfl, rfl, SqT.of hT0, at_of (j := 0) rfl rfl, rfl, _, rfl, if_neg_of (by decide +kernel) ?_⟩
        refine ⟨_, rfl, t, _, _, _, rfl, rfl, SqT.of hT0, at_of (j := 0) rfl rfl, rfl, _, rfl, if_neg_of (by decide +kernel) ?_⟩
        refine ⟨_, rfl, t, _, _, _, rfl, rfl, SqT.of hT0, at_of (j := 0) rfl rfl, rfl, _, rfl, if_neg_of (by decide +kernel) ?_⟩
        refine ⟨_, rfl, t, _, _, _, rfl, rfl, SqT.of hT0, at_of (j := 0) rfl rfl, rfl, _, rfl, if_pos_of (by decide +kernel) ?_⟩
        refine ⟨_, rfl, _, rfl, _, rfl, t, _, rfl, SqT.of hT0, not_whole _ _, fun p2 hp2 => ?_⟩
        rw [show cutV (Ask.reached l).vs (some 1) none = l.map V.int from cut1 _ _]
        have A1 := A0.new (o := .tup (l.map V.int)) hp2
        have r1 := A0.same.free hp2
        refine ⟨p2, _, rfl, .inr (SqT.of upd_same), fun l2 hl2 => ?_⟩
        have A2 := A1.new (o := .lst (l.map V.int)) hl2
        have r2 := A1.same.free hl2
        have s2 := (same_upd (o := .tup (l.map V.int)) r1).trans (same_upd (o := .lst (l.map V.int)) r2)
        refine ⟨p, l2, g, P0, _, l, rfl, A2, W0, SqL.of upd_same, Nat.le_trans ok (by decide), fun ⟨s, hs, hn⟩ H1 A3 => ?_, fun hall r ys H1 nr _ _ A3 => ?_⟩
        · refine hb .box H1 _ s2 A3 ?_
          show aliveS P0 l = _
          unfold aliveS
          rw [if_neg (fun z => by have := z s hs; rw [hn] at this; cases this)]
          rfl
        · refine hf g P0 _ H1 (s2.trans (same_upd nr)) A3 G0 ?_
          show aliveS P0 l = _
          unfold aliveS
          rw [if_pos (fun n hn => Option.isSome_iff_exists.mpr (hall n hn))]
      | led h ws =>
        refine ⟨_, rfl, t, _, _, _, rfl, rfl, SqT.of hT0, at_of (j := 0) rfl rfl, rfl, _, rfl, if_neg_of (by decide +kernel) ?_⟩
        refine ⟨_, rfl, t, _, _, _, rfl, rfl, SqT.of hT0, at_of (j := 0) rfl rfl, rfl, _, rfl, if_neg_of (by decide +kernel) ?_⟩
        refine ⟨_, rfl, t, _, _, _, rfl, rfl, SqT.of hT0, at_of (j := 0) rfl rfl, rfl, _, rfl, if_neg_of (by decide +kernel) ?_⟩
        refine ⟨_, rfl, t, _, _, _, rfl, rfl, SqT.of hT0, at_of (j := 0) rfl rfl, rfl, _, rfl, if_neg_of (by decide +kernel) ?_⟩
        refine ⟨_, rfl, t, _, _, _, rfl, rfl, SqT.of hT0, at_of (j := 0) rfl rfl, rfl, _, rfl, if_pos_of (by decide +kernel) ?_⟩
        refine ⟨_, rfl, _, rfl, _, rfl, t, _, rfl, SqT.of hT0, not_whole _ _, fun p2 hp2 => ?_⟩
        rw [show cutV (Ask.led h ws).vs (some 1) none = (h :: ws).map V.int from cut1 _ _]
        have A1 := A0.new (o := .tup ((h :: ws).map V.int)) hp2
        have r1 := A0.same.free hp2
        refine ⟨p2, _, rfl, .inr (SqT.of upd_same), fun l2 hl2 => ?_⟩
        have A2 := A1.new (o := .lst ((h :: ws).map V.int)) hl2
        have r2 := A1.same.free hl2
        have s2 := (same_upd (o := .tup ((h :: ws).map V.int)) r1).trans (same_upd (o := .lst ((h :: ws).map V.int)) r2)
        refine ⟨p, l2, g, P0, _, h, ws, rfl, A2, W0, SqL.of upd_same, fun oh => hb .hand _ _ s2 A2 (if_neg oh), fun oh H1 A3 => ?_⟩
        have e0 : dueOf P0 (.led h ws) = ledS (ledGo P0.boxes (P0.hands.getD h.toNat none) ws) := if_pos oh
        exact ⟨fun n e => hf g P0 _ H1 s2 A3 G0 (by rw [e0, e]; rfl), fun e => hb .box H1 _ s2 A3 (by rw [e0, e]; rfl), fun e => hb .slot H1 _ s2 A3 (by rw [e0, e]; rfl)⟩
      | holds h =>
        refine ⟨_, rfl, t, _, _, _, rfl, rfl, SqT.of hT0, at_of (j := 0) rfl rfl, rfl, _, rfl, if_neg_of (by decide +kernel) ?_⟩
        refine ⟨_, rfl, t, _, _, _, rfl, rfl, SqT.of hT0, at_of (j := 0) rfl rfl, rfl, _, rfl, if_neg_of (by decide +kernel) ?_⟩
        refine ⟨_, rfl, t, _, _, _, rfl, rfl, SqT.of hT0, at_of (j := 0) rfl rfl, rfl, _, rfl, if_neg_of (by decide +kernel) ?_⟩
        refine ⟨_, rfl, t, _, _, _, rfl, rfl, SqT.of hT0, at_of (j := 0) rfl rfl, rfl, _, rfl, if_neg_of (by decide +kernel) ?_⟩
        refine ⟨_, rfl, t, _, _, _, rfl, rfl, SqT.of hT0, at_of (j := 0) rfl rfl, rfl, _, rfl, if_neg_of (by decide +kernel) ?_⟩
        refine ⟨_, rfl, t, _, _, _, rfl, rfl, SqT.of hT0, at_of (j := 0) rfl rfl, rfl, _, rfl, if_pos_of (by decide +kernel) ?_⟩
        exact ⟨_, rfl, p, g.dx, _, rfl, A0.hp, pf_no _ _ _ (by decide +kernel) (by decide +kernel) (by decide +kernel), _, rfl, t, _, _, _, rfl, rfl, SqT.of hT0, at_of (j := 1) rfl rfl, p, g, P0, R, h, rfl, A0, W0.hl, fun oh => hb .hand H R (fun _ _ e => e) A0 (if_neg oh), fun oh => hf g P0 R H (fun _ _ e => e) A0 G0 (if_pos oh)⟩
      | deed d =>
        have fin : tDrop (tCallS (spDone K C B eH eS eF eB eL) (WE W) (tCons (tVar 0) (tCons (tVar 1) tNil))) D1 (L2.start nWordOf [V.ref p, V.ref t]) H :=
          ⟨_, rfl, _, rfl, p, t, g, P0, R, d, rfl, A0, G0, SqT.of hT0, fun e he => hb e H R (fun _ _ e => e) A0 (by show resS (act P0 d) = _; rw [he]; rfl), fun P' f ef r g' H1 nr A1 => hf g' P' _ H1 (same_upd nr) A1 (G0.act ef) (by show resS (act P0 d) = _; rw [ef]; rfl)⟩
        cases d with
        | tidy => exact absurd rfl ok
        | make h z =>
          refine ⟨_, rfl, t, _, _, _, rfl, rfl, SqT.of hT0, at_of (j := 0) rfl rfl, rfl, _, rfl, if_neg_of (by decide +kernel) ?_⟩
          refine ⟨_, rfl, t, _, _, _, rfl, rfl, SqT.of hT0, at_of (j := 0) rfl rfl, rfl, _, rfl, if_neg_of (by decide +kernel) ?_⟩
          refine ⟨_, rfl, t, _, _, _, rfl, rfl, SqT.of hT0, at_of (j := 0) rfl rfl, rfl, _, rfl, if_neg_of (by decide +kernel) ?_⟩
          refine ⟨_, rfl, t, _, _, _, rfl, rfl, SqT.of hT0, at_of (j := 0) rfl rfl, rfl, _, rfl, if_neg_of (by decide +kernel) ?_⟩
          refine ⟨_, rfl, t, _, _, _, rfl, rfl, SqT.of hT0, at_of (j := 0) rfl rfl, rfl, _, rfl, if_neg_of (by decide +kernel) ?_⟩
          refine ⟨_, rfl, t, _, _, _, rfl, rfl, SqT.of hT0, at_of (j := 0) rfl rfl, rfl, _, rfl, if_neg_of (by decide +kernel) ?_⟩
          exact fin
        | hold h o =>
          refine ⟨_, rfl, t, _, _, _, rfl, rfl, SqT.of hT0, at_of (j := 0) rfl rfl, rfl, _, rfl, if_neg_of (by decide +kernel) ?_⟩
          refine ⟨_, rfl, t, _, _, _, rfl, rfl, SqT.of hT0, at_of (j := 0) rfl rfl, rfl, _, rfl, if_neg_of (by decide +kernel) ?_⟩
          refine ⟨_, rfl, t, _, _, _, rfl, rfl, SqT.of hT0, at_of (j := 0) rfl rfl, rfl, _, rfl, if_neg_of (by decide +kernel) ?_⟩
          refine ⟨_, rfl, t, _, _, _, rfl, rfl, SqT.of hT0, at_of (j := 0) rfl rfl, rfl, _, rfl, if_neg_of (by decide +kernel) ?_⟩
          refine ⟨_, rfl, t, _, _, _, rfl, rfl, SqT.of hT0, at_of (j := 0) rfl rfl, rfl, _, rfl, if_neg_of (by decide +kernel) ?_⟩
          refine ⟨_, rfl, t, _, _, _, rfl, rfl, SqT.of hT0, at_of (j := 0) rfl rfl, rfl, _, rfl, if_neg_of (by decide +kernel) ?_⟩
          exact fin
        | drop h =>
          refine ⟨_, rfl, t, _, _, _, rfl, rfl, SqT.of hT0, at_of (j := 0) rfl rfl, rfl, _, rfl, if_neg_of (by decide +kernel) ?_⟩
          refine ⟨_, rfl, t, _, _, _, rfl, rfl, SqT.of hT0, at_of (j := 0) rfl rfl, rfl, _, rfl, if_neg_of (by decide +kernel) ?_⟩
          refine ⟨_, rfl, t, _, _, _, rfl, rfl, SqT.of hT0, at_of (j := 0) rfl rfl, rfl, _, rfl, if_neg_of (by decide +kernel) ?_⟩
          refine ⟨_, rfl, t, _, _, _, rfl, rfl, SqT.of hT0, at_of (j := 0) rfl rfl, rfl, _, rfl, if_neg_of (by decide +kernel) ?_⟩
          refine ⟨_, rfl, t, _, _, _, rfl, rfl, SqT.of hT0, at_of (j := 0) rfl rfl, rfl, _, rfl, if_neg_of (by decide +kernel) ?_⟩
          refine ⟨_, rfl, t, _, _, _, rfl, rfl, SqT.of hT0, at_of (j := 0) rfl rfl, rfl, _, rfl, if_neg_of (by decide +kernel) ?_⟩
          exact fin
        | put h s o =>
          refine ⟨_, rfl, t, _, _, _, rfl, rfl, SqT.of hT0, at_of (j := 0) rfl rfl, rfl, _, rfl, if_neg_of (by decide +kernel) ?_⟩
          refine ⟨_, rfl, t, _, _, _, rfl, rfl, SqT.of hT0, at_of (j := 0) rfl rfl, rfl, _, rfl, if_neg_of (by decide +kernel) ?_⟩
          refine ⟨_, rfl, t, _, _, _, rfl, rfl, SqT.of hT0, at_of (j := 0) rfl rfl, rfl, _, rfl, if_neg_of (by decide +kernel) ?_⟩
          refine ⟨_, rfl, t, _, _, _, rfl, rfl, SqT.of hT0, at_of (j := 0) rfl rfl, rfl, _, rfl, if_neg_of (by decide +kernel) ?_⟩
          refine ⟨_, rfl, t, _, _, _, rfl, rfl, SqT.of hT0, at_of (j := 0) rfl rfl, rfl, _, rfl, if_neg_of (by decide +kernel) ?_⟩
          refine ⟨_, rfl, t, _, _, _, rfl, rfl, SqT.of hT0, at_of (j := 0) rfl rfl, rfl, _, rfl, if_neg_of (by decide +kernel) ?_⟩
          exact fin
        | empty h s =>
          refine ⟨_, rfl, t, _, _, _, rfl, rfl, SqT.of hT0, at_of (j := 0) rfl rfl, rfl, _, rfl, if_neg_of (by decide +kernel) ?_⟩
          refine ⟨_, rfl, t, _, _, _, rfl, rfl, SqT.of hT0, at_of (j := 0) rfl rfl, rfl, _, rfl, if_neg_of (by decide +kernel) ?_⟩
          refine ⟨_, rfl, t, _, _, _, rfl, rfl, SqT.of hT0, at_of (j := 0) rfl rfl, rfl, _, rfl, if_neg_of (by decide +kernel) ?_⟩
          refine ⟨_, rfl, t, _, _, _, rfl, rfl, SqT.of hT0, at_of (j := 0) rfl rfl, rfl, _, rfl, if_neg_of (by decide +kernel) ?_⟩
          refine ⟨_, rfl, t, _, _, _, rfl, rfl, SqT.of hT0, at_of (j := 0) rfl rfl, rfl, _, rfl, if_neg_of (by decide +kernel) ?_⟩
          refine ⟨_, rfl, t, _, _, _, rfl, rfl, SqT.of hT0, at_of (j := 0) rfl rfl, rfl, _, rfl, if_neg_of (by decide +kernel) ?_⟩
          exact fin
        | take h o s =>
          refine ⟨_, rfl, t, _, _, _, rfl, rfl, SqT.of hT0, at_of (j := 0) rfl rfl, rfl, _, rfl, if_neg_of (by decide +kernel) ?_⟩
          refine ⟨_, rfl, t, _, _, _, rfl, rfl, SqT.of hT0, at_of (j := 0) rfl rfl, rfl, _, rfl, if_neg_of (by decide +kernel) ?_⟩
          refine ⟨_, rfl, t, _, _, _, rfl, rfl, SqT.of hT0, at_of (j := 0) rfl rfl, rfl, _, rfl, if_neg_of (by decide +kernel) ?_⟩
          refine ⟨_, rfl, t, _, _, _, rfl, rfl, SqT.of hT0, at_of (j := 0) rfl rfl, rfl, _, rfl, if_neg_of (by decide +kernel) ?_⟩
          refine ⟨_, rfl, t, _, _, _, rfl, rfl, SqT.of hT0, at_of (j := 0) rfl rfl, rfl, _, rfl, if_neg_of (by decide +kernel) ?_⟩
          refine ⟨_, rfl, t, _, _, _, rfl, rfl, SqT.of hT0, at_of (j := 0) rfl rfl, rfl, _, rfl, if_neg_of (by decide +kernel) ?_⟩
          exact fin
    refine ⟨_, pss_cons (L2N.ps_try_as (i := 2) (tb := fun W => tbWord K C B eH eS eF eB eL W) (Wout := fun _ _ _ _ => False) (ts := fun a cls d => tsWord K eH eS eF eB eL eD a cls d) rfl rfl nd rfl rfl ⟨rfl, by decide, .inl TP.g⟩ takes0N
      (fun W pn xe tk _ => pss_one (ps_if (pt_cmpR op_eq (pe_ix ix_tup (pv 1) pe_int (fun _ _ => rfl)) pe_str (nomark _)) (pss_one (ps_expr (pe_methE (pv 0) T.clC D.mT GT hr2 D.bT (fun σ => L2N.passAt tk σ) (pa_cons (pe_ix ix_tup (pv 1) pe_int (fun _ _ => rfl)) pa_nil)))) (pss_one (ps_if (pt_cmpR op_eq (pe_ix ix_tup (pv 1) pe_int (fun _ _ => rfl)) pe_str (nomark _)) (pss_one (ps_expr (pe_methE (pv 0) T.clC D.mG GG hr2 D.bG (fun σ => L2N.passAt tk σ) (pa_cons (pe_ix ix_tup (pv 1) pe_int (fun _ _ => rfl)) pa_nil)))) (pss_one (ps_if (pt_cmpR op_eq (pe_ix ix_tup (pv 1) pe_int (fun _ _ => rfl)) pe_str (nomark _)) (pss_one (ps_expr (pe_callS GWT hr4 (by rfl) D.gWT D.FWT.kp D.bWT (fun σ => L2N.passAt tk σ) (pa_cons (pv 0) (pa_cons (pe_ix ix_tup (pv 1) pe_int (fun _ _ => rfl)) pa_nil))))) (pss_one (ps_if (pt_cmpR op_eq (pe_ix ix_tup (pv 1) pe_int (fun _ _ => rfl)) pe_str (nomark _)) (pss_one (ps_expr (pe_callS GRE hr4 (by rfl) D.gRE D.FRE.kp D.bRE (fun σ => L2N.passAt tk σ) (pa_cons (pv 0) (pa_cons (pe_callTy call_list_of (by rfl) TL.list (by decide +kernel) (pa_cons (pe_slice sl_tup (pv 1) (po_some pe_int) po_none) pa_nil)) pa_nil))))) (pss_one (ps_if (pt_cmpR op_eq (pe_ix ix_tup (pv 1) pe_int (fun _ _ => rfl)) pe_str (nomark _)) (pss_one (ps_expr (pe_callS GLE hr3 (by rfl) D.gLE D.FLE.kp D.bLE (fun σ => L2N.passAt tk σ) (pa_cons (pv 0) (pa_cons (pe_callTy call_list_of (by rfl) TL.list (by decide +kernel) (pa_cons (pe_slice sl_tup (pv 1) (po_some pe_int) po_none) pa_nil)) pa_nil))))) (pss_one (ps_if (pt_cmpR op_eq (pe_ix ix_tup (pv 1) pe_int (fun _ _ => rfl)) pe_str (nomark _)) (pss_one (ps_expr (pe_methE (pv 0) T.clC D.mH GH hr2 D.bH (fun σ => L2N.passAt tk σ) (pa_cons (pe_ix ix_tup (pv 1) pe_int (fun _ _ => rfl)) pa_nil)))) (pss_one (ps_expr (pe_callS GDO hr7 (by rfl) D.gDO D.FDO.kp D.bDO (fun σ => L2N.passAt tk σ) (pa_cons (pv 0) (pa_cons (pv 1) pa_nil)))))))))))))))))
      (fun a oe cls d pn hz hf => with_hot (fun hot =>
        (pss_cons (ps_set (i := 3) nd rfl (Or.inl rfl) (pe_lst (pa_cons (pe_tup (pa_cons pe_str (pa_cons (pe_callB (call_isE1 hz.zc hf) (by rfl) TL.isi PyProof.Rows.boot_isinstance (pa_cons (pv 2) (pa_cons (pe_glob (v := .ref eH) rfl T.eH.g rfl) pa_nil))) pa_nil))) (pa_cons (pe_tup (pa_cons pe_str (pa_cons (pe_callB (call_isE1 hz.zc hf) (by rfl) TL.isi PyProof.Rows.boot_isinstance (pa_cons (pv 2) (pa_cons (pe_glob (v := .ref eS) rfl T.eS.g rfl) pa_nil))) pa_nil))) (pa_cons (pe_tup (pa_cons pe_str (pa_cons (pe_callB (call_isE1 hz.zc hf) (by rfl) TL.isi PyProof.Rows.boot_isinstance (pa_cons (pv 2) (pa_cons (pe_glob (v := .ref eF) rfl T.eF.g rfl) pa_nil))) pa_nil))) pa_nil)))))
        (pss_cons (ps_set (i := 3) nd rfl (Or.inl rfl) (pe_op op_cat (pv 3) (pe_lst (pa_cons (pe_tup (pa_cons pe_str (pa_cons (pe_callB (call_isE1 hz.zc hf) (by rfl) TL.isi PyProof.Rows.boot_isinstance (pa_cons (pv 2) (pa_cons (pe_glob (v := .ref eB) rfl T.eB.g rfl) pa_nil))) pa_nil))) (pa_cons (pe_tup (pa_cons pe_str (pa_cons (pe_callB (call_isE1 hz.zc hf) (by rfl) TL.isi PyProof.Rows.boot_isinstance (pa_cons (pv 2) (pa_cons (pe_glob (v := .ref eL) rfl T.eL.g rfl) pa_nil))) pa_nil))) pa_nil)))))
        (pss_cons (ps_set (i := 3) nd rfl (Or.inl rfl) (pe_op op_cat (pv 3) (pe_lst (pa_cons (pe_tup (pa_cons pe_str (pa_cons (pe_callB (call_isE1 hz.zc hf) (by rfl) TL.isi PyProof.Rows.boot_isinstance (pa_cons (pv 2) (pa_cons (pe_glob (v := .ref eD) rfl TN.eD.g rfl) pa_nil))) pa_nil))) (pa_cons (pe_tup (pa_cons pe_str (pa_cons (pe_not (pe_callB (call_isE1 hz.zc hf) (by rfl) TL.isi PyProof.Rows.boot_isinstance (pa_cons (pv 2) (pa_cons (pe_bltn (v := .ty "ValueError") (by rfl) TI.ve (by decide +kernel) rfl) pa_nil)))) pa_nil))) pa_nil)))))
        (pss_one (ps_ret (pe_join pe_str (pe_lcH (own := [("_law_word", 4), ("_law_fits", 5)]) (g := gTup K 2 (gCons (gName 4) (gCons (gName 5) gNil))) (tt := tB (tVar 5)) (te := tVar 4) hot nd (piB_list (pv 3)) (blkOk_by (N := nWordOf) (sc := defScope sWordOf) (by decide +kernel)) (fun _ _ _ _ _ hb => pg_tupH hb (pgs_cons (pg_name (i := 4) nd rfl (Or.inl rfl)) (pgs_cons (pg_name (i := 5) nd rfl (Or.inl rfl)) pgs_nil))) (fun _ _ _ _ _ => pts_one (pt_val (pv 5))) (fun _ _ _ _ _ => pv 4))))))))) (hotC_of hz hf))) (pss_one (ps_ret pe_str)), ?_⟩
    refine body _ _ (fun b H1 R1 s1 A1 e => ⟨true, TP.x b, fun _ ax hax => ?_, fun q => nomatch q⟩) fun g1 P1 R1 H1 s1 A1 G1 e => ?_
    · refine word_suite TI b fun H2 s2 => ?_
      have := k g P0 R1 H2 s1 (A1.grow s2) G0 fun _ => ⟨rfl, rfl⟩
      rw [e] at this
      exact this
    · have := k g1 P1 R1 H1 s1 A1 G1 fun z => absurd e z
      rw [e, ← e_empty] at this
      exact this

/-! ### what is seen -/
def noR : Hp := fun _ => none
def seen1 (e : Int × Bx) : List (List (Option Int)) := [e.2.slots, [some e.2.wt]]
def seenL (P : Pl) : List (List (Option Int)) := [P.hands, (keys P.boxes).map some, (susp P).map some] ++ P.boxes.flatMap seen1
def spSeen (C B : Addr) : Sp := fun vs H Q _ => ∃ (p : Addr) (g : Geo) (P : Pl) (R : Hp), vs = [.ref p] ∧ PileAt C B p g P R H ∧ Wf P [] ∧
  ∀ (r : Addr) (rs : List Addr) (R' H' : Hp), Same R R' → PileAt C B p g P R' H' → R' r = some (.lst (rs.map V.ref)) → RowsAt noR R' rs (seenL P) → Q (.ref r) H'
theorem scSeen : FnScope nSeen ["_law_pile"] (defScope sSeen) := ⟨rfl, rfl, rfl, by decide +kernel, rfl, by decide +kernel, by decide +kernel⟩
theorem upd_past {H : Hp} {a b : Addr} {o u : HO} (h : a ≠ b) : upd (upd H a o) b u = upd (upd H b u) a o := by
  funext c
  by_cases ha : c = a
  · subst ha
    rw [upd_ne h, upd_same, upd_same]
  · by_cases hb : c = b
    · subst hb
      rw [upd_same, upd_ne ha, upd_same]
    · rw [upd_ne hb, upd_ne ha, upd_ne ha, upd_ne hb]
theorem upd_over {H : Hp} {a b : Addr} {o u v : HO} (h : a ≠ b) : upd (upd (upd H a o) b u) a v = upd (upd H b u) a v := by
  rw [upd_past h, upd_upd]
theorem flat_snoc {l : List (Int × Bx)} {i : Nat} {e : Int × Bx} (h : l[i]? = some e) : (l.take (i + 1)).flatMap seen1 = (l.take i).flatMap seen1 ++ seen1 e := by
  rw [takeS h, List.flatMap_append]
  rw [show [e].flatMap seen1 = seen1 e from by simp [List.flatMap]]
theorem rows_app {R : Hp} {rs qs : List Addr} {l m : List (List (Option Int))} (h : RowsAt noR R rs l) (k : RowsAt noR R qs m) : RowsAt noR R (rs ++ qs) (l ++ m) := paired_app h k
theorem ok_seen {f fI fM fO fR fU fE fQ fH fT fG fA fS fX fY fP fL fB fK fCS fCA fPA fRE fTR fTY fDO fBW fWT fLE fCV fCL fRD fRN fAN fPY fD fZ5 fZ4 fZ1 fZ2 fZ3 fS1 fS2 fS3 fS4 fS5 fS6 fS7 fS8 fS9 fSA fSB fSC : Addr} {fd dI dM dO dR dU dE dQ dH dT dG dA dS dX dY dP dL dB dK dCS dCA dPA dRE dTR dTY dDO dBW dWT dLE dCV dCL dRD dRN dAN dPY dD dZ5 dZ4 dZ1 dZ2 dZ3 dS1 dS2 dS3 dS4 dS5 dS6 dS7 dS8 dS9 dSA dSB dSC : FuncData} (F : Fun K "_law_seen" "_law_seen" sSeen f fd) (T : Txt K mg C B eH eS eF eB eL) (TL : TxtL mg) (D : Defs K mg C B fI fM fO fR fU fE fQ fH fT fG fA fS fX fY fP fL fB fK fCS fCA fPA fRE fTR fTY fDO fBW fWT fLE fCV fCL fRD fRN fAN fPY fD fZ5 fZ4 fZ1 fZ2 fZ3 fS1 fS2 fS3 fS4 fS5 fS6 fS7 fS8 fS9 fSA fSB fSC dI dM dO dR dU dE dQ dH dT dG dA dS dX dY dP dL dB dK dCS dCA dPA dRE dTR dTY dDO dBW dWT dLE dCV dCL dRD dRN dAN dPY dD dZ5 dZ4 dZ1 dZ2 dZ3 dS1 dS2 dS3 dS4 dS5 dS6 dS7 dS8 dS9 dSA dSB dSC) : FnOk P w K mg base CX0 4 f fd ["_law_pile"] (spSeen C B) := by
  have GH : FnOk P w K mg base (L2N.CX P w) 2 fH dH ["self", "hand"] (spHolds C B eH) := ok_holds D.FH T D.FK D.bK D.gK
  have GA : FnOk P w K mg base CX0 1 fA dA ["self"] (spAlive C B) := ok_alive D.FA T
  have GT : FnOk P w K mg base (L2N.CX P w) 2 fT dT ["self", "number"] (spPoints C B eB) := ok_points D.FT T D.FX D.bX D.mX
  have GG : FnOk P w K mg base (L2N.CX P w) 2 fG dG ["self", "number"] (spWeighs C B eB) := ok_weighs D.FG T D.FX D.bX D.mX
  have GS : FnOk P w K mg base CX0 1 fS dS ["self"] (spSuspects C B) := ok_suspects D.FS T
  refine F.ok scSeen (fun vs H Q E h => ?_) (fun cdv A outer s H vs Q E hr h => ?_)
  · obtain ⟨p, g, P, R, rfl, _⟩ := h
    rfl
  · obtain ⟨p, g, P0, R, rfl, A0, W, k⟩ := h
    have nd := scSeen.nd
    have hr1 : Room 1 _ := hr.mono (by decide)
    have hr2 : Room 2 _ := hr.mono (by decide)
    refine ⟨_, (pss_cons (ps_set (i := 1) nd rfl (Or.inl rfl) (pe_lst (pa_cons (pe_lc (own := [("_law_hand", 3)]) (g := gName 3) (tt := tYes) (te := tMeth C "holds" (spHolds C B eH) [] E0 (tVar 0) (tCons (tVar 3) tNil)) (by rfl) nd (pi_range1 (by rfl) TL.range (pa_cons pe_int pa_nil)) (blkOk_by (N := nSeen) (sc := defScope sSeen) (by decide +kernel)) (fun _ _ _ _ _ => pg_name (i := 3) nd rfl (Or.inl rfl)) (fun _ _ _ _ _ => pts_nil) (fun _ _ _ _ _ => pe_meth (pv 0) T.clC D.mH GH hr2 D.bH .nil passLN (pa_cons (pv 3) pa_nil))) (pa_cons (pe_meth0 (pv 0) T.clC D.mA GA hr1 D.bA .nil pass0) (pa_cons (pe_meth0 (pv 0) T.clC D.mS GS hr1 D.bS .nil pass0) pa_nil)))))
      (pss_cons (ps_for PassesOwn.never rfl (pi_list (pe_meth0 (pv 0) T.clC D.mA GA hr1 D.bA .nil pass0)) (pg_name (i := 2) nd rfl (Or.inl rfl))
      (pss_cons (ps_expr (pe_bm PySem.F.plainAttrs_list PySem.F.slot_list_append PySem.F.type_list_append mt_append (pv 1) (pa_cons (pe_meth (pv 0) T.clC D.mT GT hr2 D.bT .nil passLN (pa_cons (pv 2) pa_nil)) pa_nil)))
      (pss_one (ps_expr (pe_bm PySem.F.plainAttrs_list PySem.F.slot_list_append PySem.F.type_list_append mt_append (pv 1) (pa_cons (pe_lst (pa_cons (pe_meth (pv 0) T.clC D.mG GG hr2 D.bG .nil passLN (pa_cons (pv 2) pa_nil)) pa_nil)) pa_nil))))))
      (pss_one (ps_ret (pv 1))))), ?_⟩
    refine ⟨_, rfl, by decide, by decide, fun D hD => ?_⟩
    have rD := A0.same.free hD
    refine lc_it walk_range (fun j H' => PileAt C B p g P0 (upd R D (.lst (lV (P0.hands.take j)))) H') (A0.new hD) (fun _ _ _ _ => trivial) ?_ ?_
    · rintro j y H4 H5 hj A1 ⟨rfl, hy⟩
      subst hy
      have hj8 : j < 8 := hj
      have hl8 := W.hl
      refine ⟨rfl, _, rfl, p, g.dx, _, rfl, A1.hp, pf_no _ _ _ (by decide +kernel) (by decide +kernel) (by decide +kernel), _, rfl, p, g, P0, _, 0 + (j : Int), rfl, A1, W.hl, fun z => absurd (by omega) z, fun _ => ?_⟩
      refine ⟨_, A1.same _ _ upd_same, (by rw [lV_len, List.length_take, sizeLine_eq]; omega), ?_⟩
      have e : (0 + (j : Int)).toNat = j := by omega
      rw [e]
      have hg := getD_some (l := P0.hands) (i := j) (by omega)
      have := A1.set (o := .lst (lV (P0.hands.take j) ++ [oV (P0.hands.getD j none)])) (h := upd_same)
      rw [upd_upd] at this
      rw [takeS hg, show lV (P0.hands.take j ++ [P0.hands.getD j none]) = lV (P0.hands.take j) ++ [oV (P0.hands.getD j none)] from by unfold lV; rw [List.map_append]; rfl]
      exact this
    rintro H1 A1
    rw [show (8 : Int).toNat = P0.hands.length from W.hl.symm, List.take_length] at A1
    refine ⟨_, rfl, p, g.dx, _, rfl, A1.hp, pf_no _ _ _ (by decide +kernel) (by decide +kernel) (by decide +kernel), p, g, P0, _, rfl, A1, W, fun u1 hu1 => ?_⟩
    have A2 := A1.new (o := .lst ((keys P0.boxes).map V.int)) hu1
    have r1 := A1.same.free hu1
    refine ⟨_, rfl, p, g.dx, _, rfl, A2.hp, pf_no _ _ _ (by decide +kernel) (by decide +kernel) (by decide +kernel), p, g, P0, _, rfl, A2, W, fun u2 H3 hu2 A3 => ?_⟩
    have s3 := ((same_upd (o := .lst (lV P0.hands)) rD).trans (same_upd (o := .lst ((keys P0.boxes).map V.int)) r1)).trans (same_upd (o := .lst ((susp P0).map V.int)) hu2)
    have k1 : (upd (upd (upd R D (.lst (lV P0.hands))) u1 (.lst ((keys P0.boxes).map V.int))) u2 (.lst ((susp P0).map V.int))) D = some (.lst (lV P0.hands)) := same_upd (o := .lst ((susp P0).map V.int)) hu2 _ _ (same_upd (o := .lst ((keys P0.boxes).map V.int)) r1 _ _ upd_same)
    have k2 : (upd (upd (upd R D (.lst (lV P0.hands))) u1 (.lst ((keys P0.boxes).map V.int))) u2 (.lst ((susp P0).map V.int))) u1 = some (.lst (lV ((keys P0.boxes).map some))) := by rw [← lV_int]; exact same_upd (o := .lst ((susp P0).map V.int)) hu2 _ _ upd_same
    have k3 : (upd (upd (upd R D (.lst (lV P0.hands))) u1 (.lst ((keys P0.boxes).map V.int))) u2 (.lst ((susp P0).map V.int))) u2 = some (.lst (lV ((susp P0).map some))) := by rw [← lV_int]; exact upd_same
    generalize upd (upd (upd R D (.lst (lV P0.hands))) u1 (.lst ((keys P0.boxes).map V.int))) u2 (.lst ((susp P0).map V.int)) = R3 at A3 s3 k1 k2 k3
    refine ⟨(by show 3 ≤ sizeLine; decide), fun l hl => ?_⟩
    have A4 := A3.new (o := .lst [V.ref D, V.ref u1, V.ref u2]) hl
    have rl := A3.same.free hl
    refine ⟨_, rfl, p, g.dx, _, rfl, A4.hp, pf_no _ _ _ (by decide +kernel) (by decide +kernel) (by decide +kernel), p, g, P0, _, rfl, A4, W, fun u3 hu3 => ?_⟩
    have A5 := A4.new (o := .lst ((keys P0.boxes).map V.int)) hu3
    have nl3 : l ≠ u3 := ne_of_none (A4.same _ _ upd_same) hu3
    rw [upd_past nl3] at A5
    have r3 : R3 u3 = none := by
      have := A4.same.free hu3
      rw [upd_ne nl3.symm] at this
      exact this
    have s5 := s3.trans (same_upd (o := .lst ((keys P0.boxes).map V.int)) r3)
    have kk5 : (upd R3 u3 (.lst ((keys P0.boxes).map V.int))) u3 = some (.lst ((keys P0.boxes).map V.int)) := upd_same
    have rl5 : (upd R3 u3 (.lst ((keys P0.boxes).map V.int))) l = none := by rw [upd_ne nl3]; exact rl
    have rows3 : RowsAt noR (upd R3 u3 (.lst ((keys P0.boxes).map V.int))) [D, u1, u2] [P0.hands, (keys P0.boxes).map some, (susp P0).map some] :=
      .cons ⟨rfl, same_upd r3 _ _ k1⟩ (.cons ⟨rfl, same_upd r3 _ _ k2⟩ (.cons ⟨rfl, same_upd r3 _ _ k3⟩ .nil))
    generalize upd R3 u3 (.lst ((keys P0.boxes).map V.int)) = R5 at A5 s5 kk5 rl5 rows3
    refine ⟨u3, rfl, ⟨_, SqL.of upd_same⟩, for_it walk_list (fun i σ H' => ∃ (rs : List Addr) (R' : Hp) (v2 : Option V), σ = [some (.ref p), some (.ref l), v2, none] ∧ Same R5 R' ∧ R' l = none ∧ PileAt C B p g P0 (upd R' l (.lst (rs.map V.ref))) H' ∧ RowsAt noR R' rs ([P0.hands, (keys P0.boxes).map some, (susp P0).map some] ++ (P0.boxes.take i).flatMap seen1) ∧ rs.length = 3 + 2 * i)
      ⟨[D, u1, u2], R5, none, rfl, fun _ _ e => e, rl5, A5, by rw [List.take_zero]; exact rows3, rfl⟩ (fun i σ H' _ ⟨rs, R', v2, _, s', rl', A', _⟩ => SqL.of (A'.same _ _ (same_upd rl' _ _ (s' _ _ kk5)))) ?_ ?_⟩
    · rintro i x σ H6 H7 hi ⟨rs, R', v2, rfl, s', rl', A6, rows, hrs⟩ ⟨rfl, hx⟩
      rw [List.getElem?_map] at hx
      cases ek : (keys P0.boxes)[i]? with
      | none => rw [ek] at hx; cases hx
      | some n =>
        rw [ek] at hx
        have hx : x = V.int n := (Option.some.inj hx).symm
        subst hx
        have few := W.few
        have hi60 : i < P0.boxes.length := by
          have := (List.getElem?_eq_some_iff.mp ek).1
          rw [len_keys] at this
          exact this
        obtain ⟨e, he⟩ : ∃ e, P0.boxes[i]? = some e := ⟨_, List.getElem?_eq_getElem hi60⟩
        have hn : n = e.1 := by
          unfold keys at ek
          rw [List.getElem?_map, he] at ek
          exact (Option.some.inj ek).symm
        have hb := mem_get W.nd (List.mem_of_getElem? he)
        rw [← hn] at hb
        refine ⟨_, rfl, .inl ⟨rfl, _, SqL.of (A6.same _ _ upd_same)⟩, _, rfl, p, g.dx, _, rfl, A6.hp, pf_no _ _ _ (by decide +kernel) (by decide +kernel) (by decide +kernel), _, rfl, p, g, P0, _, n, rfl, A6, fun b' hb' => W.sl n b' hb', fun z => (by rw [hb] at z; cases z), fun b' hb' q hq => ?_⟩
        have eb : b' = e.2 := by rw [hb] at hb'; injection hb' with hb'; exact hb'.symm
        subst eb
        have nlq : l ≠ q := ne_of_none (A6.same _ _ upd_same) hq
        have A7 := A6.new (o := .lst (lV e.2.slots)) hq
        have rq := A6.same.free hq
        rw [upd_ne nlq.symm] at rq
        have kl7 : (upd (upd R' l (.lst (rs.map V.ref))) q (.lst (lV e.2.slots))) l = some (.lst (rs.map V.ref)) := by rw [upd_ne nlq]; exact upd_same
        refine ⟨l, _, _, rfl, rfl, A7.same _ _ kl7, (by rw [List.length_map, hrs, sizeLine_eq]; omega), ?_⟩
        have A8 := A7.set (o := .lst (rs.map V.ref ++ [V.ref q])) kl7
        rw [upd_over nlq] at A8
        refine ⟨_, rfl, .inl ⟨rfl, _, SqL.of (A8.same _ _ upd_same)⟩, _, rfl, p, g.dx, _, rfl, A8.hp, pf_no _ _ _ (by decide +kernel) (by decide +kernel) (by decide +kernel), _, rfl, p, g, P0, _, n, rfl, A8, fun z => (by rw [hb] at z; cases z), fun b' hb' => ⟨(by show 1 ≤ sizeLine; decide), fun q2 hq2 => ?_⟩⟩
        have eb : b' = e.2 := by rw [hb] at hb'; injection hb' with hb'; exact hb'.symm
        subst eb
        have nlq2 : l ≠ q2 := ne_of_none (A8.same _ _ upd_same) hq2
        have A9 := A8.new (o := .lst [V.int e.2.wt]) hq2
        have rq2 := A8.same.free hq2
        rw [upd_ne nlq2.symm] at rq2
        have kl9 : (upd (upd (upd R' q (.lst (lV e.2.slots))) l (.lst (rs.map V.ref ++ [V.ref q]))) q2 (.lst [V.int e.2.wt])) l = some (.lst (rs.map V.ref ++ [V.ref q])) := by rw [upd_ne nlq2]; exact upd_same
        refine ⟨l, _, _, rfl, rfl, A9.same _ _ kl9, (by rw [List.length_append, List.length_map, hrs, List.length_singleton, sizeLine_eq]; omega), ?_⟩
        have A10 := A9.set (o := .lst (rs.map V.ref ++ [V.ref q] ++ [V.ref q2])) kl9
        rw [upd_over nlq2] at A10
        have s7 := (same_upd (o := .lst (lV e.2.slots)) rq).trans (same_upd (o := .lst [V.int e.2.wt]) rq2)
        refine ⟨rs ++ [q, q2], _, _, rfl, s'.trans s7, by rw [upd_ne nlq2, upd_ne nlq]; exact rl', ?_, ?_, by rw [List.length_append, hrs]; show 3 + 2 * i + 2 = _; omega⟩
        · rw [List.map_append, show ([q, q2].map V.ref) = [V.ref q] ++ [V.ref q2] from rfl, ← List.append_assoc]
          exact A10
        · rw [flat_snoc he, ← List.append_assoc]
          refine rows_app (rows.same s7) (.cons ⟨rfl, same_upd rq2 _ _ upd_same⟩ (.cons ⟨rfl, upd_same⟩ .nil))
    · rintro σ H6 ⟨rs, R', v2, rfl, s', rl', A6, rows, hrs⟩
      rw [List.length_map, len_keys, List.take_length] at rows
      exact ⟨_, rfl, k l rs _ H6 ((s5.trans s').trans (same_upd rl')) A6 upd_same (rows.same (same_upd rl'))⟩
/-! ### numbers and what is asked -/
theorem ite_both {c : Prop} [Decidable c] {p q : Prop} (h1 : p) (h2 : q) : if c then p else q := by split <;> assumption
def spNumberBy : Sp := fun vs H Q _ => ∃ c : Int, vs = [.int c] ∧ ∀ (n : Int) (H' : Hp), Same H H' → Q (.int n) H'
theorem scNumberBy : FnScope nNumberBy ["_law_cell"] (defScope sNumberBy) := ⟨rfl, rfl, rfl, by decide +kernel, rfl, by decide +kernel, by decide +kernel⟩
theorem ok_numberby {f : Addr} {fd : FuncData} (F : Fun K "_law_number_by" "_law_number_by" sNumberBy f fd) : FnOk P w K mg base CX0 1 f fd ["_law_cell"] spNumberBy := by
  refine F.ok scNumberBy (fun vs H Q E h => ?_) (fun cdv A outer s H vs Q E hr h => ?_)
  · obtain ⟨c, rfl, _⟩ := h
    rfl
  · obtain ⟨c, rfl, k⟩ := h
    refine ⟨_, (pss_cons (ps_if (pt_cmpR op_eq (pe_op op_mod (pv 0) pe_int) pe_int (nomark _)) (pss_one (ps_ret (pe_ix ix_list (pe_lst (pa_cons (pe_op op_sub pe_int (pe_op op_pow pe_int pe_int)) (pa_cons (pe_op op_pow pe_int pe_int) pa_nil))) (pe_op op_mod (pe_op op_fdiv (pv 0) pe_int) pe_int) (fun _ _ => rfl)))) pss_nil)
      (pss_one (ps_ret (pe_op op_sub (pe_op op_mod (pe_op op_fdiv (pv 0) pe_int) pe_int) pe_int)))), ?_⟩
    refine ⟨_, rfl, _, _, rfl, rfl, (by show (0 : Int) < 9; decide), rfl, _, rfl, ite_both ?_ ?_⟩
    · have m0 : 0 ≤ c / 9 % 2 := Int.emod_nonneg _ (by decide)
      have m1 : c / 9 % 2 < 2 := Int.emod_lt_of_pos _ (by decide)
      refine ⟨_, _, rfl, rfl, ⟨by decide, by decide, by decide⟩, _, _, rfl, rfl, _, _, rfl, rfl, ⟨by decide, by decide, by decide⟩, (by show 2 ≤ sizeLine; decide), fun l hl => ?_⟩
      refine ⟨_, rfl, _, _, rfl, rfl, ⟨by decide, by decide⟩, _, _, rfl, rfl, (by show (0 : Int) < 2; decide), ?_⟩
      have : c / 9 % 2 = 0 ∨ c / 9 % 2 = 1 := by omega
      rcases this with e | e
      · exact ⟨l, _, _, _, rfl, rfl, SqL.of upd_same, at_of (j := 0) e rfl, k _ _ (same_upd hl)⟩
      · exact ⟨l, _, _, _, rfl, rfl, SqL.of upd_same, at_of (j := 1) e rfl, k _ _ (same_upd hl)⟩
    · exact ⟨_, rfl, _, _, rfl, rfl, ⟨by decide, by decide⟩, _, _, rfl, rfl, (by show (0 : Int) < 12; decide), _, _, rfl, rfl, k _ _ fun _ _ e => e⟩
theorem with_rest {c : TT} {t u : TS} {D : Ends} {σ : St} {H : Hp} (f : u D σ H → tSeq (tIfS c t tNext) u D σ H) (r : u D σ H) : tSeq (tIfS c t tNext) u D σ H := f r
def ws15 : List Str := ["make", "hold", "drop", "put", "empty", "take", "points", "weighs", "way", "reached", "led", "holds", "make", "led", "led"]
def ms15 : List Nat := [2, 2, 1, 3, 2, 3, 1, 1, 1, 1, 3, 1, 2, 3, 3]
theorem cut_to (xs : List V) (m : Nat) : cutV xs none (some (m : Int)) = xs.take m := by
  unfold cutV
  rw [HT.sIx_none, HT.sIx_nat, List.drop_zero, Nat.sub_zero]
  by_cases c : m ≤ xs.length
  · rw [Nat.min_eq_left c]
  · rw [Nat.min_eq_right (by omega), List.take_of_length_le (Nat.le_refl _), List.take_of_length_le (by omega)]
theorem cut_tail (x : V) (xs : List V) : cutV (x :: xs) (some 1) none = xs := cut1 x xs
/-- the last step: the word and as many numbers as it takes -/
theorem ask_last {j : Nat} {w : Str} {m : Nat} {ns : List Int} (hw : ws15[j]? = some w) (hm : ms15[j]? = some m) (hl : ns.length = 3 ∨ (ns.length = 1 ∧ 5 < j ∧ j < 10)) (nled : w ≠ "led") : ∃ a : Ask, a.vs = V.str w :: (ns.take m).map V.int ∧ a.Ok := by
  have big : ¬ (5 < j ∧ j < 10) → ∃ a b c, ns = [a, b, c] := fun h => by
    match ns, hl with
    | [a, b, c], _ => exact ⟨a, b, c, rfl⟩
    | [a], .inr ⟨_, z⟩ => exact absurd z h
  have one : ∃ a l, ns = a :: l := by
    cases ns with
    | nil => rcases hl with z | ⟨z, _⟩ <;> cases z
    | cons a l => exact ⟨a, l, rfl⟩
  obtain ⟨x, l, hx⟩ := one
  match j, hw, hm with
  | 0, hw, hm => obtain ⟨a, b, c, rfl⟩ := big (by omega); cases hw; cases hm; exact ⟨.deed (.make a b), rfl, by intro z; cases z⟩
  | 1, hw, hm => obtain ⟨a, b, c, rfl⟩ := big (by omega); cases hw; cases hm; exact ⟨.deed (.hold a b), rfl, by intro z; cases z⟩
  | 2, hw, hm => obtain ⟨a, b, c, rfl⟩ := big (by omega); cases hw; cases hm; exact ⟨.deed (.drop a), rfl, by intro z; cases z⟩
  | 3, hw, hm => obtain ⟨a, b, c, rfl⟩ := big (by omega); cases hw; cases hm; exact ⟨.deed (.put a b c), rfl, by intro z; cases z⟩
  | 4, hw, hm => obtain ⟨a, b, c, rfl⟩ := big (by omega); cases hw; cases hm; exact ⟨.deed (.empty a b), rfl, by intro z; cases z⟩
  | 5, hw, hm => obtain ⟨a, b, c, rfl⟩ := big (by omega); cases hw; cases hm; exact ⟨.deed (.take a b c), rfl, by intro z; cases z⟩
  | 6, hw, hm => cases hw; cases hm; exact ⟨.points x, by rw [hx]; rfl, trivial⟩
  | 7, hw, hm => cases hw; cases hm; exact ⟨.weighs x, by rw [hx]; rfl, trivial⟩
  | 8, hw, hm => cases hw; cases hm; exact ⟨.way x, by rw [hx]; rfl, trivial⟩
  | 9, hw, hm => cases hw; cases hm; exact ⟨.reached [x], by rw [hx]; rfl, (by show 1 ≤ 10; decide)⟩
  | 10, hw, hm => cases hw; exact absurd rfl nled
  | 11, hw, hm => cases hw; cases hm; exact ⟨.holds x, by rw [hx]; rfl, trivial⟩
  | 12, hw, hm => obtain ⟨a, b, c, rfl⟩ := big (by omega); cases hw; cases hm; exact ⟨.deed (.make a b), rfl, by intro z; cases z⟩
  | 13, hw, hm => cases hw; exact absurd rfl nled
  | 14, hw, hm => cases hw; exact absurd rfl nled
theorem ask_big {j : Nat} {w : Str} {ns : List Int} (hw : ws15[j]? = some w) (hl : ns.length = 3 ∨ (ns.length = 1 ∧ 5 < j ∧ j < 10)) (h : w = "make" ∨ w = "led") : ∃ a b c, ns = [a, b, c] := by
  have nj : ¬ (5 < j ∧ j < 10) := by
    rintro ⟨h1, h2⟩
    have : j = 6 ∨ j = 7 ∨ j = 8 ∨ j = 9 := by omega
    rcases this with rfl | rfl | rfl | rfl <;> (cases hw; rcases h with h | h <;> exact absurd h (by decide +kernel))
  match ns, hl with
  | [a, b, c], _ => exact ⟨a, b, c, rfl⟩
  | [a], .inr ⟨_, z⟩ => exact absurd z nj
def spAsked (C B : Addr) : Sp := fun vs H Q _ => ∃ (p cl : Addr) (g : Geo) (P : Pl) (R : Hp) (cs : List Int), vs = [.ref p, .ref cl] ∧ PileAt C B p g P R H ∧ Wf P [] ∧ R cl = some (.lst (cs.map V.int)) ∧ cs.length = 6 ∧
  ∀ (t : Addr) (R' H' : Hp) (a : Ask), Same R R' → PileAt C B p g P R' H' → R' t = some (.tup a.vs) → a.Ok → Q (.ref t) H'
theorem scAsked : FnScope nAsked ["_law_pile", "_law_cells"] (defScope sAsked) := ⟨rfl, rfl, rfl, by decide +kernel, rfl, by decide +kernel, by decide +kernel⟩
theorem ok_asked {f fI fM fO fR fU fE fQ fH fT fG fA fS fX fY fP fL fB fK fCS fCA fPA fRE fTR fTY fDO fBW fWT fLE fCV fCL fRD fRN fAN fPY fD fZ5 fZ4 fZ1 fZ2 fZ3 fS1 fS2 fS3 fS4 fS5 fS6 fS7 fS8 fS9 fSA fSB fSC : Addr} {fd dI dM dO dR dU dE dQ dH dT dG dA dS dX dY dP dL dB dK dCS dCA dPA dRE dTR dTY dDO dBW dWT dLE dCV dCL dRD dRN dAN dPY dD dZ5 dZ4 dZ1 dZ2 dZ3 dS1 dS2 dS3 dS4 dS5 dS6 dS7 dS8 dS9 dSA dSB dSC : FuncData} (F : Fun K "_law_asked" "_law_asked" sAsked f fd) (T : Txt K mg C B eH eS eF eB eL) (TL : TxtL mg) (D : Defs K mg C B fI fM fO fR fU fE fQ fH fT fG fA fS fX fY fP fL fB fK fCS fCA fPA fRE fTR fTY fDO fBW fWT fLE fCV fCL fRD fRN fAN fPY fD fZ5 fZ4 fZ1 fZ2 fZ3 fS1 fS2 fS3 fS4 fS5 fS6 fS7 fS8 fS9 fSA fSB fSC dI dM dO dR dU dE dQ dH dT dG dA dS dX dY dP dL dB dK dCS dCA dPA dRE dTR dTY dDO dBW dWT dLE dCV dCL dRD dRN dAN dPY dD dZ5 dZ4 dZ1 dZ2 dZ3 dS1 dS2 dS3 dS4 dS5 dS6 dS7 dS8 dS9 dSA dSB dSC) : FnOk P w K mg base CX0 4 f fd ["_law_pile", "_law_cells"] (spAsked C B) := by
  have GA : FnOk P w K mg base CX0 1 fA dA ["self"] (spAlive C B) := ok_alive D.FA T
  have GSA : FnOk P w K mg base CX0 1 fSA dSA ["_law_cell"] spNumberBy := ok_numberby D.FSA
  refine F.ok scAsked (fun vs H Q E h => ?_) (fun cdv A outer s H vs Q E hr h => ?_)
  · obtain ⟨p, cl, g, P, R, cs, rfl, _⟩ := h
    rfl
  · obtain ⟨p, cl, g, P0, R, cs, rfl, A0, W, kcl, hcs, k⟩ := h
    have nd := scAsked.nd
    have hr1 : Room 1 _ := hr.mono (by decide)
    have cell : ∀ (j : Nat) (h : j < 6), ∃ c : Int, (cs.map V.int)[j]? = some (V.int c) := fun j h => ⟨cs[j]'(by omega), by rw [List.getElem?_map, List.getElem?_eq_getElem (by omega)]; rfl⟩
    obtain ⟨c0, hc0⟩ := cell 0 (by decide)
    obtain ⟨c1, hc1⟩ := cell 1 (by decide)
    obtain ⟨c2, hc2⟩ := cell 2 (by decide)
    obtain ⟨c4, hc4⟩ := cell 4 (by decide)
    obtain ⟨c5, hc5⟩ := cell 5 (by decide)
    refine ⟨_, (pss_cons (ps_set (i := 2) nd rfl (Or.inl rfl) (pe_lst (pa_cons pe_str (pa_cons pe_str (pa_cons pe_str (pa_cons pe_str (pa_cons pe_str (pa_cons pe_str (pa_cons pe_str (pa_cons pe_str (pa_cons pe_str (pa_cons pe_str (pa_cons pe_str (pa_cons pe_str pa_nil))))))))))))))
      (pss_cons (ps_set (i := 2) nd rfl (Or.inl rfl) (pe_op op_cat (pv 2) (pe_lst (pa_cons pe_str (pa_cons pe_str (pa_cons pe_str pa_nil))))))
      (pss_cons (ps_set (i := 3) nd rfl (Or.inl rfl) (pe_lst (pa_cons pe_int (pa_cons pe_int (pa_cons pe_int (pa_cons pe_int (pa_cons pe_int (pa_cons pe_int (pa_cons pe_int (pa_cons pe_int (pa_cons pe_int (pa_cons pe_int (pa_cons pe_int (pa_cons pe_int (pa_cons pe_int (pa_cons pe_int (pa_cons pe_int pa_nil)))))))))))))))))
      (pss_cons (ps_set (i := 4) nd rfl (Or.inl rfl) (pe_op op_mod (pe_ix ix_list (pv 1) pe_int (fun _ _ => rfl)) pe_int))
      (pss_cons (ps_setLc (i := 5) (own := [("_law_k", 9)]) (g := gName 9) (tt := tYes) (te := tCall spNumberBy [] E0 (tCons (tOp (rIxL K) (tVar 1) (tOp (rI0 fun i j => .int (i + j)) (tC (.int 1)) (tVar 9))) tNil)) (by rfl) nd rfl rfl (sw_true rfl rfl rfl (by decide +kernel)) (pi_range1 (by rfl) TL.range (pa_cons pe_int pa_nil)) (blkOk_by (N := nAsked) (sc := defScope sAsked) (by decide +kernel)) (fun _ _ _ _ _ => pg_name (i := 9) nd rfl (Or.inl rfl)) (fun _ _ _ _ _ => pts_nil) (fun _ _ _ _ _ => pe_call GSA hr1 (by rfl) D.gSA D.FSA.kp D.bSA .nil pass0 (pa_cons (pe_ix ix_list (pv 1) (pe_op op_add pe_int (pv 9)) (fun _ _ => rfl)) pa_nil)))
      (pss_cons (ps_mid (ps_if (pt_cmpR op_gt (pe_op op_mod (pe_op op_fdiv (pe_ix ix_list (pv 1) pe_int (fun _ _ => rfl)) pe_int) pe_int) pe_int (nomark _)) (pss_one (ps_asg (pe_op op_mod (pe_ix ix_list (pv 1) pe_int (fun _ _ => rfl)) pe_int) (pg_sub (pv 5) pe_int set_list))) pss_nil))
      (pss_cons (ps_mid (ps_if (PW.pt (pw_and (pt_cmpR op_gt (pv 4) pe_int (nomark _)) (pw_and (pt_cmpR op_lt (pv 4) pe_int (nomark _)) (pw_and1 (pt_cmpR op_gt (pe_op op_mod (pe_op op_fdiv (pe_ix ix_list (pv 1) pe_int (fun _ _ => rfl)) pe_int) pe_int) pe_int (nomark _)))))) (pss_one (ps_set (i := 5) nd rfl (Or.inl rfl) (pe_lst (pa_cons (pe_op op_mod (pe_ix ix_list (pv 1) pe_int (fun _ _ => rfl)) pe_int) pa_nil)))) pss_nil))
      (pss_cons (ps_set (i := 6) nd rfl (Or.inl rfl) (pe_meth0 (pv 0) T.clC D.mA GA hr1 D.bA .nil pass0))
      (pss_cons (ps_set (i := 7) nd rfl (Or.inl rfl) (pe_op op_mod (pe_ix ix_list (pv 1) pe_int (fun _ _ => rfl)) pe_int))
      (pss_cons (ps_if (PW.pt (pw_and (pt_cmpR op_eq (pe_ix ix_list (pv 2) (pv 4) (fun _ _ => rfl)) pe_str (nomark _)) (pw_and (pt_cmpR op_gt (pv 7) pe_int (nomark _)) (pw_and1 (pt_truth (pv 6) (by intro _; rfl)))))) (pss_cons (ps_set (i := 8) nd rfl (Or.inl rfl) (pe_ix ix_list (pv 6) (pe_op op_modN (pe_ix ix_list (pv 1) pe_int (fun _ _ => rfl)) (pe_callB call_len_seq (by rfl) TL.len PySem.boot_len (pa_cons (pv 6) pa_nil))) (fun _ _ => rfl)))
      (pss_one (ps_ret (pe_callTy call_tuple_of (by rfl) TL.tuple (by decide +kernel) (pa_cons (pe_op op_cat (pe_lst (pa_cons pe_str pa_nil)) (pe_ix ix_list (pe_lst (pa_cons (pe_lst (pa_cons (pe_ix ix_list (pv 5) pe_int (fun _ _ => rfl)) (pa_cons (pv 8) pa_nil))) (pa_cons (pe_lst (pa_cons (pv 8) (pa_cons (pe_ix ix_list (pv 5) pe_int (fun _ _ => rfl)) pa_nil))) pa_nil))) (pe_op op_sub (pv 7) pe_int) (fun _ _ => rfl))) pa_nil))))) pss_nil)
      (pss_cons (ps_mid (ps_if (PW.pt (pw_and (pt_cmpR op_eq (pe_ix ix_list (pv 2) (pv 4) (fun _ _ => rfl)) pe_str (nomark _)) (pw_and1 (pt_cmpR op_gt (pv 7) pe_int (nomark _))))) (pss_one (ps_asg (pe_op op_sub (pe_op op_mod (pe_ix ix_list (pv 1) pe_int (fun _ _ => rfl)) pe_int) pe_int) (pg_sub (pv 5) pe_int set_list))) pss_nil))
      (pss_cons (ps_if (pt_cmpR op_eq (pe_ix ix_list (pv 2) (pv 4) (fun _ _ => rfl)) pe_str (nomark _)) (pss_cons (ps_set (i := 5) nd rfl (Or.inl rfl) (pe_op op_cat (pv 5) (pe_lc (own := [("_law_k", 9)]) (g := gName 9) (tt := tYes) (te := tCall spNumberBy [] E0 (tCons (tOp (rI0 fun i j => .int (i + j)) (tOp (rIxL K) (tVar 1) (tC (.int 2))) (tOp (rI CMul fun i j => .int (i * j)) (tOp (rI CMul fun i j => .int (i * j)) (tC (.int 10)) (tVar 9)) (tOp (rIxL K) (tVar 1) (tC (.int 5))))) tNil)) (by rfl) nd (pi_range1 (by rfl) TL.range (pa_cons pe_int pa_nil)) (blkOk_by (N := nAsked) (sc := defScope sAsked) (by decide +kernel)) (fun _ _ _ _ _ => pg_name (i := 9) nd rfl (Or.inl rfl)) (fun _ _ _ _ _ => pts_nil) (fun _ _ _ _ _ => pe_call GSA hr1 (by rfl) D.gSA D.FSA.kp D.bSA .nil pass0 (pa_cons (pe_op op_add (pe_ix ix_list (pv 1) pe_int (fun _ _ => rfl)) (pe_op op_mul (pe_op op_mul pe_int (pv 9)) (pe_ix ix_list (pv 1) pe_int (fun _ _ => rfl)))) pa_nil)))))
      (pss_cons (ps_mid (ps_if (pt_cmpR op_gt (pv 7) pe_int (nomark _)) (pss_one (ps_set (i := 5) nd rfl (Or.inl rfl) (pe_op op_cat (pe_lst (pa_cons (pe_ix ix_list (pv 5) pe_int (fun _ _ => rfl)) pa_nil)) (pe_lc (own := [("_law_number", 10)]) (g := gName 10) (tt := tYes)  (by rfl) nd (pi_list (pe_slice sl_list (pv 5) (po_some pe_int) po_none)) (blkOk_by (N := nAsked) (sc := defScope sAsked) (by decide +kernel)) (fun _ _ _ _ _ => pg_name (i := 10) nd rfl (Or.inl rfl)) (fun _ _ _ _ _ => pts_nil) (fun _ _ _ _ _ => pe_op op_mod (pv 10) pe_int))))) pss_nil))
      (pss_one (ps_ret (pe_callTy call_tuple_of (by rfl) TL.tuple (by decide +kernel) (pa_cons (pe_op op_cat (pe_lst (pa_cons pe_str pa_nil)) (pe_slice sl_list (pv 5) po_none (po_some (pe_op op_add pe_int (pe_op op_mod (pe_ix ix_list (pv 1) pe_int (fun _ _ => rfl)) pe_int))))) pa_nil)))))) pss_nil)
      (pss_one (ps_ret (pe_callTy call_tuple_of (by rfl) TL.tuple (by decide +kernel) (pa_cons (pe_op op_cat (pe_lst (pa_cons (pe_ix ix_list (pv 2) (pv 4) (fun _ _ => rfl)) pa_nil)) (pe_slice sl_list (pv 5) po_none (po_some (pe_ix ix_list (pv 3) (pv 4) (fun _ _ => rfl))))) pa_nil)))))))))))))))), ?_⟩
    have kcl0 := A0.same _ _ kcl
    -- the words
    refine ⟨(by show 12 ≤ sizeLine; decide), fun w1 hw1 => ?_⟩
    have A1 := A0.new (o := .lst [V.str "make", V.str "hold", V.str "drop", V.str "put", V.str "empty", V.str "take", V.str "points", V.str "weighs", V.str "way", V.str "reached", V.str "led", V.str "holds"]) hw1
    have s1 : Same R (upd R w1 (.lst [V.str "make", V.str "hold", V.str "drop", V.str "put", V.str "empty", V.str "take", V.str "points", V.str "weighs", V.str "way", V.str "reached", V.str "led", V.str "holds"])) := same_upd (A0.same.free hw1)
    have kw1 : upd R w1 (.lst [V.str "make", V.str "hold", V.str "drop", V.str "put", V.str "empty", V.str "take", V.str "points", V.str "weighs", V.str "way", V.str "reached", V.str "led", V.str "holds"]) w1 = some (.lst [V.str "make", V.str "hold", V.str "drop", V.str "put", V.str "empty", V.str "take", V.str "points", V.str "weighs", V.str "way", V.str "reached", V.str "led", V.str "holds"]) := upd_same
    generalize upd R w1 (.lst [V.str "make", V.str "hold", V.str "drop", V.str "put", V.str "empty", V.str "take", V.str "points", V.str "weighs", V.str "way", V.str "reached", V.str "led", V.str "holds"]) = R1 at A1 s1 kw1
    refine ⟨_, rfl, (by show 3 ≤ sizeLine; decide), fun w2 hw2 => ?_⟩
    have A2 := A1.new (o := .lst [V.str "make", V.str "led", V.str "led"]) hw2
    have s2 : Same R1 (upd R1 w2 (.lst [V.str "make", V.str "led", V.str "led"])) := same_upd (A1.same.free hw2)
    have kw2 : upd R1 w2 (.lst [V.str "make", V.str "led", V.str "led"]) w2 = some (.lst [V.str "make", V.str "led", V.str "led"]) := upd_same
    generalize upd R1 w2 (.lst [V.str "make", V.str "led", V.str "led"]) = R2 at A2 s2 kw2
    refine ⟨w1, w2, _, _, rfl, rfl, A2.same _ _ (s2 _ _ kw1), A2.same _ _ kw2, (by show 12 + 3 ≤ sizeLine; decide), fun wl hwl => ?_⟩
    have A3 := A2.new (o := .lst (ws15.map V.str)) hwl
    have s3 : Same R2 (upd R2 wl (.lst (ws15.map V.str))) := same_upd (A2.same.free hwl)
    have kwl : upd R2 wl (.lst (ws15.map V.str)) wl = some (.lst (ws15.map V.str)) := upd_same
    generalize upd R2 wl (.lst (ws15.map V.str)) = R3 at A3 s3 kwl
    refine ⟨(by show 15 ≤ sizeLine; decide), fun ml hml => ?_⟩
    have A4 := A3.new (o := .lst (ms15.map fun m : Nat => V.int (m : Nat))) hml
    have s4 : Same R3 (upd R3 ml (.lst (ms15.map fun m : Nat => V.int (m : Nat)))) := same_upd (A3.same.free hml)
    have kml : upd R3 ml (.lst (ms15.map fun m : Nat => V.int (m : Nat))) ml = some (.lst (ms15.map fun m : Nat => V.int (m : Nat))) := upd_same
    have kwl4 := s4 _ _ kwl
    generalize upd R3 ml (.lst (ms15.map fun m : Nat => V.int (m : Nat))) = R4 at A4 s4 kml kwl4
    have sR4 := ((s1.trans s2).trans s3).trans s4
    clear s1 s2 s3 s4 kw1 kw2 kwl A1 A2 A3
    refine ⟨_, rfl, cl, _, _, _, rfl, rfl, SqL.of (A4.same _ _ (sR4 _ _ kcl)), at_of (j := 0) rfl hc0, _, _, rfl, rfl, (by show (0 : Int) < 15; decide), ?_⟩
    have p0 : 0 ≤ c0 % 15 := Int.emod_nonneg _ (by decide)
    have p1 : c0 % 15 < 15 := Int.emod_lt_of_pos _ (by decide)
    obtain ⟨j, hj⟩ : ∃ j : Nat, c0 % 15 = (j : Int) := ⟨(c0 % 15).toNat, by omega⟩
    have j15 : j < 15 := by omega
    obtain ⟨wd, hwd⟩ : ∃ wd, ws15[j]? = some wd := ⟨_, List.getElem?_eq_getElem (by show j < 15; exact j15)⟩
    obtain ⟨mj, hmj⟩ : ∃ mj, ms15[j]? = some mj := ⟨_, List.getElem?_eq_getElem (by show j < 15; exact j15)⟩
    -- three numbers
    refine ⟨_, rfl, by decide, by decide, fun nl hnl => ?_⟩
    have rnl4 := A4.same.free hnl
    have rnl : R nl = none := sR4.free rnl4
    have nmw : nl ≠ wl := (ne_of_none kwl4 rnl4).symm
    have nmm : nl ≠ ml := (ne_of_none kml rnl4).symm
    refine lc_it walk_range (fun i H' => ∃ ns : List Int, ns.length = i ∧ PileAt C B p g P0 (upd R4 nl (.lst (ns.map V.int))) H') ⟨[], rfl, A4.new hnl⟩ (fun _ _ _ _ => trivial) ?_ ?_
    · rintro i y H5 H6 hi ⟨ns, hns, A5⟩ ⟨rfl, hy⟩
      subst hy
      have hi3 : i < 3 := hi
      obtain ⟨ci, hci⟩ := cell (1 + i) (by omega)
      refine ⟨rfl, _, rfl, _, rfl, _, _, rfl, rfl, cl, _, _, _, rfl, rfl, SqL.of (A5.same _ _ (same_upd rnl4 _ _ (sR4 _ _ kcl))), at_of (j := 1 + i) (by omega) hci, ci, rfl, fun n H7 s7 => ?_⟩
      refine ⟨_, s7 _ _ (A5.same _ _ upd_same), (by rw [List.length_map, hns, sizeLine_eq]; omega), ns ++ [n], by rw [List.length_append, hns]; rfl, ?_⟩
      rw [List.map_append]
      have := (A5.grow s7).set (o := .lst (ns.map V.int ++ [V.int n])) (h := upd_same)
      rw [upd_upd] at this
      exact this
    rintro H5 ⟨ns, hns, A5⟩
    have hns : ns.length = 3 := hns
    -- the first number
    refine ⟨fun σ' H' => ∃ ns : List Int, ns.length = 3 ∧ σ' = [some (.ref p), some (.ref cl), some (.ref wl), some (.ref ml), some (.int (c0 % 15)), some (.ref nl), none, none, none, none, none] ∧ PileAt C B p g P0 (upd R4 nl (.lst (ns.map V.int))) H', ?_, ?_⟩
    · have kc5 := A5.same _ _ (same_upd rnl4 _ _ (sR4 _ _ kcl))
      refine ⟨_, rfl, cl, _, _, _, rfl, rfl, SqL.of kc5, at_of (j := 0) rfl hc0, _, _, rfl, rfl, ⟨by decide, by decide⟩, _, _, rfl, rfl, (by show (0 : Int) < 4; decide), _, _, rfl, rfl, _, rfl, ite_both ?_ ?_⟩
      · refine ⟨_, rfl, cl, _, _, _, rfl, rfl, SqL.of kc5, at_of (j := 1) rfl hc1, _, _, rfl, rfl, (by show (0 : Int) < 3; decide), _, rfl, nl, _, 0, 0, rfl, rfl, A5.same _ _ upd_same, ?_, ns.set 0 (c1 % 3), by rw [List.length_set]; exact hns, rfl, ?_⟩
        · rw [List.length_map, hns]; rfl
        · have := A5.set (o := .lst ((ns.map V.int).set 0 (V.int (c1 % 3)))) (h := upd_same)
          rw [upd_upd] at this
          rw [List.map_set]
          exact this
      · exact ⟨ns, hns, rfl, A5⟩
    clear A5
    rintro σ' H5 ⟨ns, hns, rfl, A5⟩
    -- a number to 69
    refine ⟨fun σ' H' => ∃ (nl : Addr) (R5 : Hp) (ns : List Int), (ns.length = 3 ∨ (ns.length = 1 ∧ 5 < j ∧ j < 10)) ∧ Same R4 R5 ∧ R5 nl = none ∧ σ' = [some (.ref p), some (.ref cl), some (.ref wl), some (.ref ml), some (.int (c0 % 15)), some (.ref nl), none, none, none, none, none] ∧ PileAt C B p g P0 (upd R5 nl (.lst (ns.map V.int))) H', ?_, ?_⟩
    · have kc5 := A5.same _ _ (same_upd rnl4 _ _ (sR4 _ _ kcl))
      have no : ∃ (nl' : Addr) (R5 : Hp) (ns : List Int), (ns.length = 3 ∨ (ns.length = 1 ∧ 5 < j ∧ j < 10)) ∧ Same R4 R5 ∧ R5 nl' = none ∧ [some (.ref p), some (.ref cl), some (.ref wl), some (.ref ml), some (.int (c0 % 15)), some (.ref nl), none, none, none, none, none] = [some (V.ref p), some (.ref cl), some (.ref wl), some (.ref ml), some (.int (c0 % 15)), some (.ref nl'), none, none, none, none, none] ∧ PileAt C B p g P0 (upd R5 nl' (.lst (ns.map V.int))) H5 := ⟨nl, R4, ns, .inl hns, fun _ _ e => e, rnl4, rfl, A5⟩
      refine ⟨_, rfl, _, _, rfl, rfl, _, rfl, ?_⟩
      by_cases q1 : 5 < c0 % 15
      case neg => exact if_neg_of (decide_eq_false q1) (iteF no)
      refine if_pos_of (decide_eq_true q1) ⟨_, rfl, _, _, rfl, rfl, _, rfl, ?_⟩
      by_cases q2 : c0 % 15 < 10
      case neg => exact if_neg_of (decide_eq_false q2) (iteF no)
      refine if_pos_of (decide_eq_true q2) ⟨_, rfl, cl, _, _, _, rfl, rfl, SqL.of kc5, at_of (j := 0) rfl hc0, _, _, rfl, rfl, ⟨by decide, by decide⟩, _, _, rfl, rfl, (by show (0 : Int) < 4; decide), _, _, rfl, rfl, _, rfl, ite_both ?_ no⟩
      refine ⟨_, rfl, cl, _, _, _, rfl, rfl, SqL.of kc5, at_of (j := 1) rfl hc1, _, _, rfl, rfl, (by show (0 : Int) < 70; decide), (by show 1 ≤ sizeLine; decide), fun n2 hn2 => ?_⟩
      exact ⟨n2, _, [c1 % 70], .inr ⟨rfl, by omega, by omega⟩, same_upd rnl4, A5.same.free hn2, rfl, A5.new hn2⟩
    clear A5
    rintro σ' H5 ⟨nl, R5, ns, hns, s5, rnl, rfl, A5⟩
    have sR5 := sR4.trans s5
    have kwl5 := s5 _ _ kwl4
    have kml5 := s5 _ _ kml
    have kcl5 := sR5 _ _ kcl
    clear s5 sR4 kwl4 kml A4
    -- who is alive
    refine ⟨_, rfl, p, g.dx, _, rfl, A5.hp, pf_no _ _ _ (by decide +kernel) (by decide +kernel) (by decide +kernel), p, g, P0, _, rfl, A5, W, fun u hu => ?_⟩
    have A6 := A5.new (o := .lst ((keys P0.boxes).map V.int)) hu
    have nlu : nl ≠ u := ne_of_none (A5.same _ _ upd_same) hu
    have ru : R5 u = none := by
      have := A5.same.free hu
      rw [upd_ne nlu.symm] at this
      exact this
    rw [upd_past nlu] at A6
    have s6 : Same R5 (upd R5 u (.lst ((keys P0.boxes).map V.int))) := same_upd ru
    have ku6 : upd R5 u (.lst ((keys P0.boxes).map V.int)) u = some (.lst ((keys P0.boxes).map V.int)) := upd_same
    have rnl6 : upd R5 u (.lst ((keys P0.boxes).map V.int)) nl = none := by rw [upd_ne nlu]; exact rnl
    generalize upd R5 u (.lst ((keys P0.boxes).map V.int)) = R6 at A6 s6 ku6 rnl6
    have sR6 := sR5.trans s6
    have kwl6 := s6 _ _ kwl5
    have kml6 := s6 _ _ kml5
    have kcl6 := s6 _ _ kcl5
    clear s6 sR5 kwl5 kml5 kcl5 A5 rnl ru
    have low : Same R6 (upd R6 nl (.lst (ns.map V.int))) := same_upd rnl6
    have hcl6 := A6.same _ _ (low _ _ kcl6)
    have hwl6 := A6.same _ _ (low _ _ kwl6)
    have hml6 := A6.same _ _ (low _ _ kml6)
    have hu6 := A6.same _ _ (low _ _ ku6)
    have hnl6 := A6.same _ _ upd_same
    have wix : (ws15.map V.str)[j]? = some (V.str wd) := by rw [List.getElem?_map, hwd]; rfl
    refine ⟨_, rfl, cl, _, _, _, rfl, rfl, SqL.of hcl6, at_of (j := 4) rfl hc4, _, _, rfl, rfl, (by show (0 : Int) < 3; decide), ?_⟩
    have y0 : 0 ≤ c4 % 3 := Int.emod_nonneg _ (by decide)
    have y1 : c4 % 3 < 3 := Int.emod_lt_of_pos _ (by decide)
    -- the word that was drawn
    have n0 : ∃ x l, ns = x :: l := by
      cases ns with
      | nil => rcases hns with z | ⟨z, _⟩ <;> cases z
      | cons x l => exact ⟨x, l, rfl⟩
    obtain ⟨n0, nr, hn0⟩ := n0
    have nix : (ns.map V.int)[0]? = some (V.int n0) := by rw [hn0]; rfl
    dsimp only [gName]
    refine with_rest (fun rest => ?_) ?_
    · refine ⟨_, rfl, _, rfl, wl, _, _, _, rfl, rfl, SqL.of hwl6, at_of (j := j) hj wix, rfl, _, rfl, ?_⟩
      by_cases q1 : wd = "reached"
      case neg => exact if_neg_of (decide_eq_false (by intro z; injection z with z; exact q1 z)) (iteF rest)
      refine if_pos_of (decide_eq_true (by rw [q1])) ⟨_, rfl, _, _, rfl, rfl, _, rfl, ?_⟩
      by_cases q2 : 0 < c4 % 3
      case neg => exact if_neg_of (decide_eq_false q2) (iteF rest)
      refine if_pos_of (decide_eq_true q2) ⟨_, rfl, _, .inl ⟨_, SqL.of hu6, rfl⟩, ?_⟩
      by_cases hk : keys P0.boxes = []
      · exact if_neg_of (by rw [hk]; rfl) rest
      · obtain ⟨kx, kr, hk2⟩ : ∃ kx kr, keys P0.boxes = kx :: kr := by
          cases e : keys P0.boxes with
          | nil => exact absurd e hk
          | cons x l => exact ⟨x, l, rfl⟩
        refine if_pos_of (by rw [hk2]; rfl) ?_
        have kl : 0 < (((keys P0.boxes).map V.int).length : Int) := by rw [List.length_map, hk2, List.length_cons]; omega
        have f0 := Int.fmod_nonneg_of_pos c5 kl
        have f1 := Int.fmod_lt_of_pos c5 kl
        obtain ⟨fj, hfj⟩ : ∃ fj : Nat, c5.fmod (((keys P0.boxes).map V.int).length : Int) = (fj : Int) := ⟨(c5.fmod (((keys P0.boxes).map V.int).length : Int)).toNat, by omega⟩
        obtain ⟨on, hon⟩ : ∃ on, (keys P0.boxes)[fj]? = some on := ⟨_, List.getElem?_eq_getElem (by rw [List.length_map] at f1 hfj; omega)⟩
        refine ⟨_, rfl, _, rfl, cl, _, _, _, rfl, rfl, SqL.of hcl6, at_of (j := 5) rfl hc5, _, rfl, u, _, rfl, .inl (SqL.of hu6), _, _, rfl, rfl, by omega, u, _, _, V.int on, rfl, rfl, SqL.of hu6, at_of (j := fj) hfj (by rw [List.getElem?_map, hon]; rfl), ?_⟩
        have kn : upd R6 nl (.lst (ns.map V.int)) nl = some (.lst (ns.map V.int)) := upd_same
        refine ⟨(by show 1 ≤ sizeLine; decide), fun l1 hl1 => ?_⟩
        have B1 := A6.new (o := (.lst [V.str "reached"])) hl1
        have t1 : Same (upd R6 nl (.lst (ns.map V.int))) (upd (upd R6 nl (.lst (ns.map V.int))) l1 (.lst [V.str "reached"])) := same_upd (A6.same.free hl1)
        have k1 : upd (upd R6 nl (.lst (ns.map V.int))) l1 (.lst [V.str "reached"]) l1 = some (.lst [V.str "reached"]) := upd_same
        have z1 := (sR6.trans low).trans t1
        generalize upd (upd R6 nl (.lst (ns.map V.int))) l1 (.lst [V.str "reached"]) = S1 at B1 t1 k1 z1
        have kn := t1 _ _ kn
        refine ⟨_, rfl, nl, _, _, _, rfl, rfl, SqL.of (B1.same _ _ kn), at_of (j := 0) rfl nix, _, rfl, (by show 2 ≤ sizeLine; decide), fun l2 hl2 => ?_⟩
        have B2 := B1.new (o := (.lst [V.int n0, V.int on])) hl2
        have t2 : Same S1 (upd S1 l2 (.lst [V.int n0, V.int on])) := same_upd (B1.same.free hl2)
        have k2 : upd S1 l2 (.lst [V.int n0, V.int on]) l2 = some (.lst [V.int n0, V.int on]) := upd_same
        have z2 := (z1).trans t2
        generalize upd S1 l2 (.lst [V.int n0, V.int on]) = S2 at B2 t2 k2 z2
        have kn := t2 _ _ kn
        have k1 := t2 _ _ k1
        refine ⟨_, rfl, _, rfl, nl, _, _, _, rfl, rfl, SqL.of (B2.same _ _ kn), at_of (j := 0) rfl nix, (by show 2 ≤ sizeLine; decide), fun l3 hl3 => ?_⟩
        have B3 := B2.new (o := (.lst [V.int on, V.int n0])) hl3
        have t3 : Same S2 (upd S2 l3 (.lst [V.int on, V.int n0])) := same_upd (B2.same.free hl3)
        have k3 : upd S2 l3 (.lst [V.int on, V.int n0]) l3 = some (.lst [V.int on, V.int n0]) := upd_same
        have z3 := (z2).trans t3
        generalize upd S2 l3 (.lst [V.int on, V.int n0]) = S3 at B3 t3 k3 z3
        have kn := t3 _ _ kn
        have k1 := t3 _ _ k1
        have k2 := t3 _ _ k2
        refine ⟨(by show 2 ≤ sizeLine; decide), fun l4 hl4 => ?_⟩
        have B4 := B3.new (o := (.lst [V.ref l2, V.ref l3])) hl4
        have t4 : Same S3 (upd S3 l4 (.lst [V.ref l2, V.ref l3])) := same_upd (B3.same.free hl4)
        have k4 : upd S3 l4 (.lst [V.ref l2, V.ref l3]) l4 = some (.lst [V.ref l2, V.ref l3]) := upd_same
        have z4 := (z3).trans t4
        generalize upd S3 l4 (.lst [V.ref l2, V.ref l3]) = S4 at B4 t4 k4 z4
        have kn := t4 _ _ kn
        have k1 := t4 _ _ k1
        have k2 := t4 _ _ k2
        have k3 := t4 _ _ k3
        refine ⟨_, rfl, _, _, rfl, rfl, ?_⟩
        by_cases q3 : c4 % 3 = 1
        · skip
          refine ⟨l4, _, _, V.ref l2, rfl, rfl, SqL.of (B4.same _ _ k4), at_of (j := 0) (by omega) rfl, l1, l2, _, _, rfl, rfl, B4.same _ _ k1, B4.same _ _ k2, (by show 1 + 2 ≤ sizeLine; decide), fun l5 hl5 => ?_⟩
          have B5 := B4.new (o := .lst ([V.str "reached"] ++ [V.int n0, V.int on])) hl5
          refine ⟨l5, _, rfl, .inl ⟨SqL.of upd_same, fun t ht => ?_⟩⟩
          have B6 := B5.new (o := .tup ([V.str "reached"] ++ [V.int n0, V.int on])) ht
          exact k t _ _ (.reached [n0, on]) (z4.trans ((same_upd (B4.same.free hl5)).trans (same_upd (B5.same.free ht)))) B6 upd_same (by show 2 ≤ 10; decide)
        · skip
          refine ⟨l4, _, _, V.ref l3, rfl, rfl, SqL.of (B4.same _ _ k4), at_of (j := 1) (by omega) rfl, l1, l3, _, _, rfl, rfl, B4.same _ _ k1, B4.same _ _ k3, (by show 1 + 2 ≤ sizeLine; decide), fun l5 hl5 => ?_⟩
          have B5 := B4.new (o := .lst ([V.str "reached"] ++ [V.int on, V.int n0])) hl5
          refine ⟨l5, _, rfl, .inl ⟨SqL.of upd_same, fun t ht => ?_⟩⟩
          have B6 := B5.new (o := .tup ([V.str "reached"] ++ [V.int on, V.int n0])) ht
          exact k t _ _ (.reached [on, n0]) (z4.trans ((same_upd (B4.same.free hl5)).trans (same_upd (B5.same.free ht)))) B6 upd_same (by show 2 ≤ 10; decide)
    -- a made one's size
    refine ⟨fun σ' H' => ∃ ns' : List Int, ns'.length = ns.length ∧ σ' = [some (.ref p), some (.ref cl), some (.ref wl), some (.ref ml), some (.int (c0 % 15)), some (.ref nl), some (.ref u), some (.int (c4 % 3)), none, none, none] ∧ PileAt C B p g P0 (upd R6 nl (.lst (ns'.map V.int))) H', ?_, ?_⟩
    · have no : ∃ ns' : List Int, ns'.length = ns.length ∧ [some (.ref p), some (.ref cl), some (.ref wl), some (.ref ml), some (.int (c0 % 15)), some (.ref nl), some (.ref u), some (.int (c4 % 3)), none, none, none] = [some (V.ref p), some (.ref cl), some (.ref wl), some (.ref ml), some (.int (c0 % 15)), some (.ref nl), some (.ref u), some (.int (c4 % 3)), none, none, none] ∧ PileAt C B p g P0 (upd R6 nl (.lst (ns'.map V.int))) _ := ⟨ns, rfl, rfl, A6⟩
      refine ⟨_, rfl, _, rfl, wl, _, _, _, rfl, rfl, SqL.of hwl6, at_of (j := j) hj wix, rfl, _, rfl, ?_⟩
      by_cases q1 : wd = "make"
      case neg => exact if_neg_of (decide_eq_false (by intro z; injection z with z; exact q1 z)) (iteF no)
      refine if_pos_of (decide_eq_true (by rw [q1])) ⟨_, rfl, _, _, rfl, rfl, _, rfl, ite_both ?_ no⟩
      obtain ⟨na, nb, nc, hn3⟩ := ask_big hwd hns (.inl q1)
      refine ⟨_, rfl, cl, _, _, _, rfl, rfl, SqL.of hcl6, at_of (j := 2) rfl hc2, _, _, rfl, rfl, (by show (0 : Int) < 9; decide), _, _, rfl, rfl, _, rfl, nl, _, 1, 1, rfl, rfl, hnl6, (by rw [hn3]; rfl), ns.set 1 (c2 % 9 - 1), by rw [List.length_set], rfl, ?_⟩
      have := A6.set (o := .lst ((ns.map V.int).set 1 (V.int (c2 % 9 - 1)))) (h := upd_same)
      rw [upd_upd] at this
      rw [List.map_set]
      exact this
    rintro σ' H7 ⟨ns2, hl2, rfl, A7⟩
    have hns2 : ns2.length = 3 ∨ (ns2.length = 1 ∧ 5 < j ∧ j < 10) := by rw [hl2]; exact hns
    have low7 : Same R6 (upd R6 nl (.lst (ns2.map V.int))) := same_upd rnl6
    have hcl7 := A7.same _ _ (low7 _ _ kcl6)
    have hwl7 := A7.same _ _ (low7 _ _ kwl6)
    have hml7 := A7.same _ _ (low7 _ _ kml6)
    have hnl7 := A7.same _ _ upd_same
    have z7 := sR6.trans low7
    have kn7 : upd R6 nl (.lst (ns2.map V.int)) nl = some (.lst (ns2.map V.int)) := upd_same
    clear A6 hu6 hnl6 hcl6 hwl6 hml6 low
    refine ⟨_, rfl, _, rfl, wl, _, _, _, rfl, rfl, SqL.of hwl7, at_of (j := j) hj wix, rfl, _, rfl, ?_⟩
    by_cases q1 : wd = "led"
    · refine if_pos_of (decide_eq_true (by rw [q1])) ?_
      obtain ⟨na, nb, nc, hn3⟩ := ask_big hwd hns2 (.inr q1)
      have hl3 : ns2.length = 3 := by rw [hn3]; rfl
      refine ⟨_, rfl, _, rfl, by decide, by decide, fun e4 he4 => ?_⟩
      have re4 := A7.same.free he4
      have t8 : ∀ o, Same (upd R6 nl (.lst (ns2.map V.int))) (upd (upd R6 nl (.lst (ns2.map V.int))) e4 o) := fun o => same_upd re4
      refine lc_it walk_range (fun i H' => ∃ ms : List Int, ms.length = i ∧ PileAt C B p g P0 (upd (upd R6 nl (.lst (ns2.map V.int))) e4 (.lst (ms.map V.int))) H') ⟨[], rfl, A7.new he4⟩ (fun _ _ _ _ => trivial) ?_ ?_
      · rintro i y H8 H9 hi ⟨ms, hms, A8⟩ ⟨rfl, hy⟩
        subst hy
        have hi4 : i < 4 := hi
        have hcl8 := A8.same _ _ (t8 _ _ _ (low7 _ _ kcl6))
        refine ⟨rfl, _, rfl, cl, _, _, _, rfl, rfl, SqL.of hcl8, at_of (j := 2) rfl hc2, _, rfl, _, _, rfl, rfl, .inl ⟨by decide, by decide⟩, _, rfl, cl, _, _, _, rfl, rfl, SqL.of hcl8, at_of (j := 5) rfl hc5, _, _, rfl, rfl, .inl ⟨by omega, by omega⟩, _, _, rfl, rfl, _, rfl, fun n H10 s10 => ?_⟩
        refine ⟨_, s10 _ _ (A8.same _ _ upd_same), (by rw [List.length_map, hms, sizeLine_eq]; omega), ms ++ [n], by rw [List.length_append, hms]; rfl, ?_⟩
        rw [List.map_append]
        have := (A8.grow s10).set (o := .lst (ms.map V.int ++ [V.int n])) (h := upd_same)
        rw [upd_upd] at this
        exact this
      rintro H8 ⟨ms, hms, A8⟩
      have hms : ms.length = 4 := hms
      refine ⟨nl, e4, _, _, rfl, rfl, A8.same _ _ (t8 _ _ _ kn7), A8.same _ _ upd_same, (by rw [List.length_map, List.length_map, hl3, hms, sizeLine_eq]; omega), fun q hq => ?_⟩
      have A9 := A8.new (o := .lst (ns2.map V.int ++ ms.map V.int)) hq
      have z9 := z7.trans ((t8 (.lst (ms.map V.int))).trans (same_upd (o := .lst (ns2.map V.int ++ ms.map V.int)) (A8.same.free hq)))
      have kq9 : upd (upd (upd R6 nl (.lst (ns2.map V.int))) e4 (.lst (ms.map V.int))) q (.lst (ns2.map V.int ++ ms.map V.int)) q = some (.lst ((ns2 ++ ms).map V.int)) := by rw [List.map_append]; exact upd_same
      have hq7 : (ns2 ++ ms).length = 7 := by rw [List.length_append, hl3, hms]
      generalize upd (upd (upd R6 nl (.lst (ns2.map V.int))) e4 (.lst (ms.map V.int))) q (.lst (ns2.map V.int ++ ms.map V.int)) = R9 at A9 z9 kq9
      generalize ns2 ++ ms = qs at kq9 hq7
      refine ⟨fun σ' H' => ∃ (q : Addr) (qs : List Int) (R8 : Hp), qs.length = 7 ∧ σ' = [some (.ref p), some (.ref cl), some (.ref wl), some (.ref ml), some (.int (c0 % 15)), some (.ref q), some (.ref u), some (.int (c4 % 3)), none, none, none] ∧ Same R R8 ∧ PileAt C B p g P0 R8 H' ∧ R8 q = some (.lst (qs.map V.int)), ?_, ?_⟩
      · have no : ∃ (q' : Addr) (qs : List Int) (R8 : Hp), qs.length = 7 ∧ [some (V.ref p), some (.ref cl), some (.ref wl), some (.ref ml), some (.int (c0 % 15)), some (.ref q), some (.ref u), some (.int (c4 % 3)), none, none, none] = [some (V.ref p), some (.ref cl), some (.ref wl), some (.ref ml), some (.int (c0 % 15)), some (.ref q'), some (.ref u), some (.int (c4 % 3)), none, none, none] ∧ Same R R8 ∧ PileAt C B p g P0 R8 _ ∧ R8 q' = some (.lst (qs.map V.int)) := ⟨q, qs, R9, hq7, rfl, z9, A9, kq9⟩
        refine ⟨_, rfl, _, _, rfl, rfl, _, rfl, ite_both ?_ no⟩
        obtain ⟨qh, qr, hqr⟩ : ∃ x l, qs = x :: l := by
          cases qs with
          | nil => cases hq7
          | cons x l => exact ⟨x, l, rfl⟩
        have hr6 : qr.length = 6 := by rw [hqr, List.length_cons] at hq7; omega
        refine ⟨_, rfl, q, _, _, _, rfl, rfl, SqL.of (A9.same _ _ kq9), at_of (j := 0) rfl (v := V.int qh) (by rw [hqr]; rfl), (by show 1 ≤ sizeLine; decide), fun l1 hl1 => ?_⟩
        have A10 := A9.new (o := .lst [V.int qh]) hl1
        have t10 := same_upd (o := .lst [V.int qh]) (A9.same.free hl1)
        refine ⟨_, rfl, _, rfl, q, _, rfl, SqL.of (A10.same _ _ (t10 _ _ kq9)), fun l2 hl2 => ?_⟩
        rw [hqr, show cutV ((qh :: qr).map V.int) (some 1) none = qr.map V.int from cut1 _ _]
        have A11 := A10.new (o := .lst (qr.map V.int)) hl2
        have t11 := same_upd (o := .lst (qr.map V.int)) (A10.same.free hl2)
        refine ⟨l2, rfl, ⟨_, SqL.of (A11.same _ _ upd_same)⟩, fun l3 hl3 => ?_⟩
        have r11 := A11.same.free hl3
        refine lc_it walk_list (fun i H' => PileAt C B p g P0 (upd (upd (upd R9 l1 (.lst [V.int qh])) l2 (.lst (qr.map V.int))) l3 (.lst (((qr.take i).map fun n => n % 3).map V.int))) H') (A11.new hl3) (fun i H' _ A' => SqL.of (A'.same _ _ (same_upd r11 _ _ upd_same))) ?_ ?_
        · rintro i y H12 H13 hi A12 ⟨rfl, hy⟩
          rw [List.getElem?_map] at hy
          cases en : qr[i]? with
          | none => rw [en] at hy; cases hy
          | some n =>
            rw [en] at hy
            have hy : y = V.int n := (Option.some.inj hy).symm
            subst hy
            refine ⟨rfl, _, rfl, _, _, rfl, rfl, (by show (0 : Int) < 3; decide), _, A12.same _ _ upd_same, (by rw [List.length_map, List.length_map, List.length_take, sizeLine_eq]; omega), ?_⟩
            have := A12.set (o := .lst (((qr.take i).map fun n => n % 3).map V.int ++ [V.int (n % 3)])) (h := upd_same)
            rw [upd_upd] at this
            rw [takeS en, List.map_append, List.map_append]
            exact this
        rintro H12 A12
        rw [List.length_map, List.take_length] at A12
        refine ⟨l1, l3, _, _, rfl, rfl, A12.same _ _ (same_upd r11 _ _ (t11 _ _ upd_same)), A12.same _ _ upd_same, (by rw [List.length_map, List.length_map, List.length_singleton, hr6, sizeLine_eq]; omega), fun l4 hl4 => ?_⟩
        have A13 := A12.new (o := .lst ([V.int qh] ++ (qr.map fun n => n % 3).map V.int)) hl4
        refine ⟨l4, qh :: qr.map fun n => n % 3, _, by rw [List.length_cons, List.length_map, hr6], rfl, z9.trans (t10.trans (t11.trans ((same_upd r11).trans (same_upd (A12.same.free hl4))))), A13, upd_same⟩
      clear A9 z9 kq9 A8
      rintro σ' H9 ⟨q, qs, R8, hq7, rfl, z8, A8, kq8⟩
      have m0 : 0 ≤ c5 % 7 := Int.emod_nonneg _ (by decide)
      have m1 : c5 % 7 < 7 := Int.emod_lt_of_pos _ (by decide)
      obtain ⟨qh, qr, hqr⟩ : ∃ x l, qs = x :: l := by
        cases qs with
        | nil => cases hq7
        | cons x l => exact ⟨x, l, rfl⟩
      refine ⟨(by show 1 ≤ sizeLine; decide), fun l1 hl1 => ?_⟩
      have A9 := A8.new (o := .lst [V.str "led"]) hl1
      have t9 := same_upd (o := .lst [V.str "led"]) (A8.same.free hl1)
      refine ⟨_, rfl, _, rfl, cl, _, _, _, rfl, rfl, SqL.of (A9.same _ _ (t9 _ _ (z8 _ _ kcl))), at_of (j := 5) rfl hc5, _, _, rfl, rfl, (by show (0 : Int) < 7; decide), _, _, rfl, rfl, _, rfl, q, _, rfl, SqL.of (A9.same _ _ (t9 _ _ kq8)), fun s hs => ?_⟩
      obtain ⟨mm, hmm⟩ : ∃ mm : Nat, 1 + c5 % 7 = ((mm + 1 : Nat) : Int) := ⟨(c5 % 7).toNat, by omega⟩
      rw [hmm, cut_to, hqr, List.map_cons, List.take_succ_cons, ← List.map_take]
      have A10 := A9.new (o := .lst (V.int qh :: (qr.take mm).map V.int)) hs
      have t10 := same_upd (o := .lst (V.int qh :: (qr.take mm).map V.int)) (A9.same.free hs)
      refine ⟨l1, s, _, _, rfl, rfl, A10.same _ _ (t10 _ _ upd_same), A10.same _ _ upd_same, (by rw [List.length_singleton, List.length_cons, List.length_map, List.length_take, sizeLine_eq]; omega), fun l5 hl5 => ?_⟩
      have A11 := A10.new (o := .lst ([V.str "led"] ++ V.int qh :: (qr.take mm).map V.int)) hl5
      refine ⟨l5, _, rfl, .inl ⟨SqL.of upd_same, fun t ht => ?_⟩⟩
      have A12 := A11.new (o := .tup ([V.str "led"] ++ V.int qh :: (qr.take mm).map V.int)) ht
      refine k t _ _ (.led qh (qr.take mm)) (z8.trans (t9.trans (t10.trans ((same_upd (A10.same.free hl5)).trans (same_upd (A11.same.free ht)))))) A12 upd_same ?_
      show (qr.take mm).length ≤ 10
      rw [List.length_take]
      omega
    · refine if_neg_of (decide_eq_false (by intro z; injection z with z; exact q1 z)) ?_
      obtain ⟨a, ha, oka⟩ := ask_last hwd hmj hns2 q1
      refine ⟨_, rfl, _, rfl, wl, _, _, _, rfl, rfl, SqL.of hwl7, at_of (j := j) hj wix, (by show 1 ≤ sizeLine; decide), fun l1 hl1 => ?_⟩
      have A8 := A7.new (o := .lst [V.str wd]) hl1
      have t8 := same_upd (o := .lst [V.str wd]) (A7.same.free hl1)
      refine ⟨_, rfl, _, rfl, _, rfl, ml, _, _, V.int (mj : Nat), rfl, rfl, SqL.of (A8.same _ _ (t8 _ _ (low7 _ _ kml6))), at_of (j := j) hj (by rw [List.getElem?_map, hmj]; rfl), _, rfl, nl, _, rfl, SqL.of (A8.same _ _ (t8 _ _ kn7)), fun s hs => ?_⟩
      rw [cut_to, ← List.map_take]
      have A9 := A8.new (o := .lst ((ns2.take mj).map V.int)) hs
      have t9 := same_upd (o := .lst ((ns2.take mj).map V.int)) (A8.same.free hs)
      refine ⟨l1, s, _, _, rfl, rfl, A9.same _ _ (t9 _ _ upd_same), A9.same _ _ upd_same, ?_, fun l5 hl5 => ?_⟩
      · rw [List.length_singleton, List.length_map, List.length_take, sizeLine_eq]
        rcases hns2 with z | ⟨z, _⟩ <;> omega
      have A10 := A9.new (o := .lst ([V.str wd] ++ (ns2.take mj).map V.int)) hl5
      refine ⟨l5, _, rfl, .inl ⟨SqL.of upd_same, fun t ht => ?_⟩⟩
      have A11 := A10.new (o := .tup ([V.str wd] ++ (ns2.take mj).map V.int)) ht
      exact k t _ _ a (z7.trans (t8.trans (t9.trans ((same_upd (A9.same.free hl5)).trans (same_upd (A10.same.free ht)))))) A11 (by rw [upd_same, ha]; rfl) oka
/-! ### one question -/
def spGood (C B : Addr) : Sp := fun vs H Q _ => ∃ (p cl : Addr) (g : Geo) (P : Pl) (R : Hp) (cs : List Int), vs = [.ref p, .ref cl] ∧ PileAt C B p g P R H ∧ Good P ∧ R cl = some (.lst (cs.map V.int)) ∧ cs.length = 6 ∧
  ∀ (g' : Geo) (P' : Pl) (R' H' : Hp), Same R R' → PileAt C B p g' P' R' H' → Good P' → Q (.bl true) H'
theorem scGood : FnScope nGood ["_law_pile", "_law_cells"] (defScope sGood) := ⟨rfl, rfl, rfl, by decide +kernel, rfl, by decide +kernel, by decide +kernel⟩
theorem ok_good {f eP eD dW' fI fM fO fR fU fE fQ fH fT fG fA fS fX fY fP fL fB fK fCS fCA fPA fRE fTR fTY fDO fBW fWT fLE fCV fCL fRD fRN fAN fPY fD fZ5 fZ4 fZ1 fZ2 fZ3 fS1 fS2 fS3 fS4 fS5 fS6 fS7 fS8 fS9 fSA fSB fSC : Addr} {fd dI dM dO dR dU dE dQ dH dT dG dA dS dX dY dP dL dB dK dCS dCA dPA dRE dTR dTY dDO dBW dWT dLE dCV dCL dRD dRN dAN dPY dD dZ5 dZ4 dZ1 dZ2 dZ3 dS1 dS2 dS3 dS4 dS5 dS6 dS7 dS8 dS9 dSA dSB dSC : FuncData} (F : Fun K "_law_good" "_law_good" sGood f fd) (T : Txt K mg C B eH eS eF eB eL) (TL : TxtL mg) (TN : TxtN K w mg eD dW') (TW : TxtW mg) (TP : TxtP K mg eP eH eS eF eB eL) (TI : TxtI K mg eH eS eF eB eL eD) (D : Defs K mg C B fI fM fO fR fU fE fQ fH fT fG fA fS fX fY fP fL fB fK fCS fCA fPA fRE fTR fTY fDO fBW fWT fLE fCV fCL fRD fRN fAN fPY fD fZ5 fZ4 fZ1 fZ2 fZ3 fS1 fS2 fS3 fS4 fS5 fS6 fS7 fS8 fS9 fSA fSB fSC dI dM dO dR dU dE dQ dH dT dG dA dS dX dY dP dL dB dK dCS dCA dPA dRE dTR dTY dDO dBW dWT dLE dCV dCL dRD dRN dAN dPY dD dZ5 dZ4 dZ1 dZ2 dZ3 dS1 dS2 dS3 dS4 dS5 dS6 dS7 dS8 dS9 dSA dSB dSC) : FnOk P w K mg base CX0 9 f fd ["_law_pile", "_law_cells"] (spGood C B) := by
  have GSB : FnOk P w K mg base CX0 4 fSB dSB ["_law_pile", "_law_cells"] (spAsked C B) := ok_asked D.FSB T TL D
  have GS6 : FnOk P w K mg base CX0 5 fS6 dS6 ["_law_pile", "_law_deed"] (spDue K C B) := ok_due D.FS6 T TL D
  have GS1 : FnOk P w K mg base CX0 4 fS1 dS1 ["_law_pile"] (spSeen C B) := ok_seen D.FS1 T TL D
  have GS2 : FnOk P w K mg base CX0 8 fS2 dS2 ["_law_pile", "_law_deed"] (spWordOf K C B) := ok_wordof D.FS2 T TL TN TW TP TI D
  refine F.ok scGood (fun vs H Q E h => ?_) (fun cdv A outer s H vs Q E hr h => ?_)
  · obtain ⟨p, cl, g, P, R, cs, rfl, _⟩ := h
    rfl
  · obtain ⟨p, cl, g, P0, R, cs, rfl, A0, G0, kcl, hcs, k⟩ := h
    have nd := scGood.nd
    have hr4 : Room 4 _ := hr.mono (by decide)
    have hr5 : Room 5 _ := hr.mono (by decide)
    have hr8 : Room 8 _ := hr
    have W := G0.wf
    refine ⟨_, (pss_cons (ps_set (i := 2) nd rfl (Or.inl rfl) (pe_call GSB hr4 (by rfl) D.gSB D.FSB.kp D.bSB .nil pass0 (pa_cons (pv 0) (pa_cons (pv 1) pa_nil))))
      (pss_cons (ps_set (i := 3) nd rfl (Or.inl rfl) (pe_call GS6 hr5 (by rfl) D.gS6 D.FS6.kp D.bS6 .nil pass0 (pa_cons (pv 0) (pa_cons (pv 2) pa_nil))))
      (pss_cons (ps_set (i := 4) nd rfl (Or.inl rfl) (pe_call GS1 hr4 (by rfl) D.gS1 D.FS1.kp D.bS1 .nil pass0 (pa_cons (pv 0) pa_nil)))
      (pss_cons (ps_if (pt_cmpR op_ne (pe_call GS2 hr8 (by rfl) D.gS2 D.FS2.kp D.bS2 .nil pass0 (pa_cons (pv 0) (pa_cons (pv 2) pa_nil))) (pv 3) (nomark _)) (pss_one (ps_ret pe_bl)) pss_nil)
      (pss_one (ps_ret (pe_or (pe_cmpR op_eq (pv 3) pe_str (nomark _)) (pe_one (pe_cmpR (op_eqD hr.units) (pe_call GS1 hr4 (by rfl) D.gS1 D.FS1.kp D.bS1 .nil pass0 (pa_cons (pv 0) pa_nil)) (pv 4) (nomark _)))))))))), ?_⟩
    refine ⟨_, rfl, _, rfl, p, cl, g, P0, R, cs, rfl, A0, W, kcl, hcs, fun t R1 H1 a s1 A1 ht ok => ?_⟩
    refine ⟨_, rfl, _, rfl, p, t, g, P0, R1, a, rfl, A1, W, ht, ok, fun H2 A2 => ?_⟩
    refine ⟨_, rfl, p, g, P0, R1, rfl, A2, W, fun r rs R3 H3 s3 A3 kr rows => ?_⟩
    refine ⟨_, rfl, _, rfl, p, t, g, P0, R3, a, rfl, A3, G0, s3 _ _ ht, ok, fun g4 P4 R4 H4 s4 A4 G4 same => ?_⟩
    refine ⟨_, rfl, rfl, _, rfl, if_neg_of (by show (!decide (V.str (dueOf P0 a) = V.str (dueOf P0 a))) = false; rw [decide_eq_true rfl]; rfl) ?_⟩
    refine ⟨_, rfl, rfl, _, rfl, ?_⟩
    by_cases c : dueOf P0 a = ""
    · refine if_pos_of (decide_eq_true (by rw [c])) ?_
      exact k g4 P4 R4 H4 ((s1.trans s3).trans s4) A4 G4
    · refine if_neg_of (decide_eq_false (by intro z; injection z with z; exact c z)) ?_
      obtain ⟨eP, eg⟩ := same (fun z => c (by rw [z, e_empty]))
      subst eP eg
      refine ⟨_, rfl, p, g4, P4, R4, rfl, A4, G4.wf, fun r2 rs2 R5 H5 s5 A5 kr2 rows2 => ?_⟩
      refine ⟨_, rfl, .list ((seenL P4).map dRow), .list ((seenL P4).map dRow), .lst (SqL.of (A5.same _ _ kr2)) (dp_rows (rows2.same A5.same)), .lst (SqL.of (A5.same _ _ (s5 _ _ (s4 _ _ kr)))) (dp_rows (rows.same (s4.trans (s5.trans A5.same)))), shaped_rows _, shaped_rows _, ?_⟩
      rw [eqv_rows]
      exact k g4 P4 R5 H5 (((s1.trans s3).trans s4).trans s5) A5 G4
/-! ### sixty boxes -/
def spFilled (C B : Addr) : Sp := fun vs H Q _ => ∃ (p : Addr) (g : Geo) (P : Pl) (R : Hp), vs = [.ref p] ∧ PileAt C B p g P R H ∧ Good P ∧ P.made ≤ 55 ∧ ∀ (g' : Geo) (P' : Pl) (H' : Hp), PileAt C B p g' P' R H' → Good P' → P'.boxes.length = 60 → Q .non H'
theorem scFilled : FnScope nFilled ["_law_pile"] (defScope sFilled) := ⟨rfl, rfl, rfl, by decide +kernel, rfl, by decide +kernel, by decide +kernel⟩
theorem ok_filled {f fI fM fO fR fU fE fQ fH fT fG fA fS fX fY fP fL fB fK fCS fCA fPA fRE fTR fTY fDO fBW fWT fLE fCV fCL fRD fRN fAN fPY fD fZ5 fZ4 fZ1 fZ2 fZ3 fS1 fS2 fS3 fS4 fS5 fS6 fS7 fS8 fS9 fSA fSB fSC : Addr} {fd dI dM dO dR dU dE dQ dH dT dG dA dS dX dY dP dL dB dK dCS dCA dPA dRE dTR dTY dDO dBW dWT dLE dCV dCL dRD dRN dAN dPY dD dZ5 dZ4 dZ1 dZ2 dZ3 dS1 dS2 dS3 dS4 dS5 dS6 dS7 dS8 dS9 dSA dSB dSC : FuncData} (F : Fun K "_law_filled" "_law_filled" sFilled f fd) (T : Txt K mg C B eH eS eF eB eL) (TL : TxtL mg) (D : Defs K mg C B fI fM fO fR fU fE fQ fH fT fG fA fS fX fY fP fL fB fK fCS fCA fPA fRE fTR fTY fDO fBW fWT fLE fCV fCL fRD fRN fAN fPY fD fZ5 fZ4 fZ1 fZ2 fZ3 fS1 fS2 fS3 fS4 fS5 fS6 fS7 fS8 fS9 fSA fSB fSC dI dM dO dR dU dE dQ dH dT dG dA dS dX dY dP dL dB dK dCS dCA dPA dRE dTR dTY dDO dBW dWT dLE dCV dCL dRD dRN dAN dPY dD dZ5 dZ4 dZ1 dZ2 dZ3 dS1 dS2 dS3 dS4 dS5 dS6 dS7 dS8 dS9 dSA dSB dSC) : FnOk P w K mg base CX0 4 f fd ["_law_pile"] (spFilled C B) := by
  have GM : FnOk P w K mg base (L2N.CX P w) 3 fM dM ["self", "hand", "size"] (spMake C B eH eS eF) := ok_make D.FM T D.FL D.bL D.mL D.FP D.bP D.mP D.MB D.FB D.bB D.FK D.bK D.gK
  have GO : FnOk P w K mg base (L2N.CX P w) 3 fO dO ["self", "hand", "other"] (spHold C B eH) := ok_hold D.FO T D.FL D.bL D.mL D.FP D.bP D.mP D.FK D.bK D.gK
  have GR : FnOk P w K mg base (L2N.CX P w) 3 fR dR ["self", "hand"] (spDrop C B eH) := ok_drop D.FR T D.FL D.bL D.mL D.FP D.bP D.mP D.FK D.bK D.gK
  have GU : FnOk P w K mg base (L2N.CX P w) 3 fU dU ["self", "hand", "slot", "other"] (spPut C B eH eB eL) := ok_put D.FU T D.FL D.bL D.mL D.FP D.bP D.mP D.FK D.bK D.gK D.FY D.bY D.mY D.FCS D.bCS D.gCS
  have GE : FnOk P w K mg base (L2N.CX P w) 3 fE dE ["self", "hand", "slot"] (spEmpty C B eH eB eL) := ok_empty D.FE T D.FL D.bL D.mL D.FP D.bP D.mP D.FK D.bK D.gK D.FY D.bY D.mY D.FCS D.bCS D.gCS
  have GQ : FnOk P w K mg base (L2N.CX P w) 3 fQ dQ ["self", "hand", "other", "slot"] (spTake C B eH eB eL) := ok_take D.FQ T D.FL D.bL D.mL D.FP D.bP D.mP D.FK D.bK D.gK D.FY D.bY D.mY D.FCS D.bCS D.gCS
  have GT : FnOk P w K mg base (L2N.CX P w) 2 fT dT ["self", "number"] (spPoints C B eB) := ok_points D.FT T D.FX D.bX D.mX
  have GG : FnOk P w K mg base (L2N.CX P w) 2 fG dG ["self", "number"] (spWeighs C B eB) := ok_weighs D.FG T D.FX D.bX D.mX
  have GS : FnOk P w K mg base CX0 1 fS dS ["self"] (spSuspects C B) := ok_suspects D.FS T
  have GCA : FnOk P w K mg base CX0 1 fCA dCA ["self", "numbers"] (spClear C B) := ok_clear D.FCA T
  have GPA : FnOk P w K mg base (L2N.CX P w) 3 fPA dPA ["pile", "number"] (spPointedAt C B eB) := ok_pointedat D.FPA T GT D.bT D.mT
  have GRE : FnOk P w K mg base (L2N.CX P w) 4 fRE dRE ["pile", "numbers"] (spReached K C B eB) := ok_reached D.FRE T GPA D.FPA D.bPA D.gPA
  have GTR : FnOk P w K mg base CX0 5 fTR dTR ["pile"] (spTrials C B) := ok_trials D.FTR T GPA D.FPA D.bPA D.gPA GRE D.FRE D.bRE D.gRE GS D.bS D.mS GG D.bG D.mG
  have GTY : FnOk P w K mg base CX0 6 fTY dTY ["pile"] (spTidy C B) := ok_tidy D.FTY T GTR D.FTR D.bTR D.gTR GRE D.FRE D.bRE D.gRE GCA D.bCA D.mCA
  have GDO : FnOk P w K mg base (L2N.CX P w) 7 fDO dDO ["pile", "deed"] (spDone K C B eH eS eF eB eL) := ok_donep D.FDO T GM D.bM D.mM GO D.bO D.mO GR D.bR D.mR GU D.bU D.mU GE D.bE D.mE GQ D.bQ D.mQ GTY D.FTY D.bTY D.gTY
  have GA : FnOk P w K mg base CX0 1 fA dA ["self"] (spAlive C B) := ok_alive D.FA T
  refine F.ok scFilled (fun vs H Q E h => ?_) (fun cdv A outer s H vs Q E hr h => ?_)
  · obtain ⟨p, g, P, R, rfl, _⟩ := h
    rfl
  · obtain ⟨p, g, P0, R, rfl, A0, G0, hm, k⟩ := h
    have nd := scFilled.nd
    have hr1 : Room 1 _ := hr.mono (by decide)
    have hr3 : Room 3 _ := hr
    have few := G0.few
    refine ⟨_, (pss_cons (ps_expr (pe_meth (pv 0) T.clC D.mM GM hr3 D.bM .nil passLN (pa_cons pe_int (pa_cons pe_int pa_nil))))
      (pss_one (ps_while PassesOwn.never (pt_cmpR op_lt (pe_callB call_len_seq (by rfl) TL.len PySem.boot_len (pa_cons (pe_meth0 (pv 0) T.clC D.mA GA hr1 D.bA .nil pass0) pa_nil)) pe_int (nomark _)) (pss_cons (ps_expr (pe_meth (pv 0) T.clC D.mM GM hr3 D.bM .nil passLN (pa_cons pe_int (pa_cons pe_int pa_nil))))
      (pss_cons (ps_expr (pe_meth (pv 0) T.clC D.mU GU hr3 D.bU .nil passLN (pa_cons pe_int (pa_cons pe_int (pa_cons pe_int pa_nil)))))
      (pss_one (ps_expr (pe_meth (pv 0) T.clC D.mO GO hr3 D.bO .nil passLN (pa_cons pe_int (pa_cons pe_int pa_nil)))))))))), ?_⟩
    refine ⟨_, rfl, p, g.dx, _, rfl, A0.hp, pf_no _ _ _ (by decide +kernel) (by decide +kernel) (by decide +kernel), p, P0, R, 1, 1, rfl, ⟨⟨g, A0⟩, G0.wf⟩, fun z => absurd (by decide) z, fun _ z => absurd (by decide) z, fun _ _ z => absurd z (by omega), fun _ _ _ r H1 hr1' ⟨⟨g1, A1⟩, _⟩ => ?_⟩
    have A1' := A1.less (same_upd hr1')
    have G1 := G0.make (i := 1) (size := 1) (by decide) (by decide) (by omega)
    refine ⟨fun m σ H' => σ = [some (.ref p)] ∧ ∃ (g : Geo) (P' : Pl), PileAt C B p g P' R H' ∧ Good P' ∧ ((Even P' ∧ P'.boxes.length + m = 60) ∨ m = 61), ⟨61, rfl, g1, _, A1', G1, .inr rfl⟩, ?_⟩
    rintro m σ H2 ⟨rfl, g2, P2, A2, G2, hm⟩
    have few := G2.wf.few
    refine ⟨_, rfl, p, g2.dx, _, rfl, A2.hp, pf_no _ _ _ (by decide +kernel) (by decide +kernel) (by decide +kernel), p, g2, P2, R, rfl, A2, G2.wf, fun u hu => ?_⟩
    have A3 := (A2.new (o := .lst ((keys P2.boxes).map V.int)) hu).less (same_upd (A2.same.free hu))
    refine ⟨u, _, rfl, .inl (SqL.of upd_same), _, _, rfl, rfl, _, rfl, ?_⟩
    rw [List.length_map, len_keys]
    by_cases c : P2.boxes.length < 60
    case neg => exact if_neg_of (decide_eq_false (by omega)) (k g2 P2 _ A3 G2 (by omega))
    obtain ⟨F1, ⟨b1, hb1, sb1⟩, h2, F2, F3, ev, ln⟩ := fill_ok G2 c
    refine if_pos_of (decide_eq_true (by omega)) ⟨fun σ' H' => σ' = [some (.ref p)] ∧ ∃ g : Geo, PileAt C B p g (f3 P2) R H', ?_, ?_⟩
    · rintro σ' H' ⟨rfl, g', A'⟩
      have few3 := F3.wf.few
      refine ⟨60 - (f3 P2).boxes.length, ?_, rfl, g', _, A', F3, .inl ⟨ev, by omega⟩⟩
      rcases hm with ⟨e, z⟩ | z
      · have := ln e
        omega
      · omega
    refine ⟨_, rfl, p, g2.dx, _, rfl, A3.hp, pf_no _ _ _ (by decide +kernel) (by decide +kernel) (by decide +kernel), p, P2, R, 2, 1, rfl, ⟨⟨g2, A3⟩, G2.wf⟩, fun z => absurd (by decide) z, fun _ z => absurd (by decide) z, fun _ _ z => absurd z (by omega), fun _ _ _ r4 H4 hr4 ⟨⟨g4, A4⟩, _⟩ => ?_⟩
    have A4' : PileAt C B p g4 (f1 P2) R H4 := A4.less (same_upd hr4)
    refine ⟨_, rfl, p, g4.dx, _, rfl, A4'.hp, pf_no _ _ _ (by decide +kernel) (by decide +kernel) (by decide +kernel), p, f1 P2, R, 2, 0, 1, rfl, ⟨⟨g4, A4'⟩, F1.wf⟩, fun z => absurd (by decide) z, fun _ z => absurd (by decide) z, fun _ _ z => ?_, fun _ _ n b e1 e2 z => ?_, fun _ _ n b e1 e2 _ r5 H5 hr5 ⟨⟨g5, A5⟩, _⟩ => ?_⟩
    · rw [show (f1 P2).hands.getD (2 : Int).toNat none = some P2.made from h2] at z
      cases z
    · have en : n = P2.made := Option.some.inj (e1.symm.trans h2)
      subst en
      have eb : b = b1 := Option.some.inj (e2.symm.trans hb1)
      rw [eb, sb1] at z
      exact absurd (by decide) z
    have en : n = P2.made := Option.some.inj (e1.symm.trans h2)
    subst en
    have A5' : PileAt C B p g5 (f2 P2) R H5 := A5.less (same_upd hr5)
    refine ⟨_, rfl, p, g5.dx, _, rfl, A5'.hp, pf_no _ _ _ (by decide +kernel) (by decide +kernel) (by decide +kernel), p, f2 P2, R, 1, 2, rfl, ⟨⟨g5, A5'⟩, F2.wf⟩, fun z => absurd (by decide) z, fun _ z => absurd (by decide) z, fun _ _ r6 H6 hr6 ⟨⟨g6, A6⟩, _⟩ => ?_⟩
    exact ⟨rfl, g6, A6.less (same_upd hr6)⟩
/-! ### lines told until it is full -/
def spFullTold (Pt : Addr) : Sp := fun vs H Q _ => vs = [] ∧ GxR.TabG H Pt ∧ ∀ H', Past Pt H H' → Q (.bl true) H'
theorem scFullTold : FnScope nFullTold [] (defScope sFullTold) := ⟨rfl, rfl, rfl, by decide +kernel, rfl, by decide +kernel, by decide +kernel⟩
theorem lines_len : ∀ z ∈ lines181, z.length ≤ 100000 := by
  have : lines181.all (fun z => decide (z.length ≤ 100000)) = true := by decide +kernel
  intro z hz
  exact of_decide_eq_true (List.all_eq_true.mp this z hz)
theorem three_len (i : Nat) : (List.replicate i three).flatten.length = 3 * i := by
  induction i with
  | zero => rfl
  | succ i ih =>
    rw [List.replicate_succ, List.flatten_cons, List.length_append, ih]
    show 3 + 3 * i = _
    omega
theorem three_snoc (i : Nat) : (List.replicate (i + 1) three).flatten = (List.replicate i three).flatten ++ three := by
  rw [show List.replicate (i + 1) three = List.replicate i three ++ [three] from List.replicate_succ']
  rw [List.flatten_append]
  simp
theorem ok_fulltold {f eD dW' cR Pt fI fM fO fR fU fE fQ fH fT fG fA fS fX fY fP fL fB fK fCS fCA fPA fRE fTR fTY fDO fBW fWT fLE fCV fCL fRD fRN fAN fPY fD fZ5 fZ4 fZ1 fZ2 fZ3 fS1 fS2 fS3 fS4 fS5 fS6 fS7 fS8 fS9 fSA fSB fSC : Addr} {fd dI dM dO dR dU dE dQ dH dT dG dA dS dX dY dP dL dB dK dCS dCA dPA dRE dTR dTY dDO dBW dWT dLE dCV dCL dRD dRN dAN dPY dD dZ5 dZ4 dZ1 dZ2 dZ3 dS1 dS2 dS3 dS4 dS5 dS6 dS7 dS8 dS9 dSA dSB dSC : FuncData} (F : Fun K "_law_full_told" "_law_full_told" sFullTold f fd) (T : Txt K mg C B eH eS eF eB eL) (TL : TxtL mg) (TN : TxtN K w mg eD dW') (TX : TxtX K eH eS eF eB eL eD) (TB : GxR.TabB base mg cR Pt) (hcR : dRN.code = .ref cR) (D : Defs K mg C B fI fM fO fR fU fE fQ fH fT fG fA fS fX fY fP fL fB fK fCS fCA fPA fRE fTR fTY fDO fBW fWT fLE fCV fCL fRD fRN fAN fPY fD fZ5 fZ4 fZ1 fZ2 fZ3 fS1 fS2 fS3 fS4 fS5 fS6 fS7 fS8 fS9 fSA fSB fSC dI dM dO dR dU dE dQ dH dT dG dA dS dX dY dP dL dB dK dCS dCA dPA dRE dTR dTY dDO dBW dWT dLE dCV dCL dRD dRN dAN dPY dD dZ5 dZ4 dZ1 dZ2 dZ3 dS1 dS2 dS3 dS4 dS5 dS6 dS7 dS8 dS9 dSA dSB dSC) : FnOk P w K mg base CX0 10 f fd [] (spFullTold Pt) := by
  have GM : FnOk P w K mg base (L2N.CX P w) 3 fM dM ["self", "hand", "size"] (spMake C B eH eS eF) := ok_make D.FM T D.FL D.bL D.mL D.FP D.bP D.mP D.MB D.FB D.bB D.FK D.bK D.gK
  have GO : FnOk P w K mg base (L2N.CX P w) 3 fO dO ["self", "hand", "other"] (spHold C B eH) := ok_hold D.FO T D.FL D.bL D.mL D.FP D.bP D.mP D.FK D.bK D.gK
  have GR : FnOk P w K mg base (L2N.CX P w) 3 fR dR ["self", "hand"] (spDrop C B eH) := ok_drop D.FR T D.FL D.bL D.mL D.FP D.bP D.mP D.FK D.bK D.gK
  have GU : FnOk P w K mg base (L2N.CX P w) 3 fU dU ["self", "hand", "slot", "other"] (spPut C B eH eB eL) := ok_put D.FU T D.FL D.bL D.mL D.FP D.bP D.mP D.FK D.bK D.gK D.FY D.bY D.mY D.FCS D.bCS D.gCS
  have GE : FnOk P w K mg base (L2N.CX P w) 3 fE dE ["self", "hand", "slot"] (spEmpty C B eH eB eL) := ok_empty D.FE T D.FL D.bL D.mL D.FP D.bP D.mP D.FK D.bK D.gK D.FY D.bY D.mY D.FCS D.bCS D.gCS
  have GQ : FnOk P w K mg base (L2N.CX P w) 3 fQ dQ ["self", "hand", "other", "slot"] (spTake C B eH eB eL) := ok_take D.FQ T D.FL D.bL D.mL D.FP D.bP D.mP D.FK D.bK D.gK D.FY D.bY D.mY D.FCS D.bCS D.gCS
  have GT : FnOk P w K mg base (L2N.CX P w) 2 fT dT ["self", "number"] (spPoints C B eB) := ok_points D.FT T D.FX D.bX D.mX
  have GG : FnOk P w K mg base (L2N.CX P w) 2 fG dG ["self", "number"] (spWeighs C B eB) := ok_weighs D.FG T D.FX D.bX D.mX
  have GS : FnOk P w K mg base CX0 1 fS dS ["self"] (spSuspects C B) := ok_suspects D.FS T
  have GCA : FnOk P w K mg base CX0 1 fCA dCA ["self", "numbers"] (spClear C B) := ok_clear D.FCA T
  have GPA : FnOk P w K mg base (L2N.CX P w) 3 fPA dPA ["pile", "number"] (spPointedAt C B eB) := ok_pointedat D.FPA T GT D.bT D.mT
  have GRE : FnOk P w K mg base (L2N.CX P w) 4 fRE dRE ["pile", "numbers"] (spReached K C B eB) := ok_reached D.FRE T GPA D.FPA D.bPA D.gPA
  have GTR : FnOk P w K mg base CX0 5 fTR dTR ["pile"] (spTrials C B) := ok_trials D.FTR T GPA D.FPA D.bPA D.gPA GRE D.FRE D.bRE D.gRE GS D.bS D.mS GG D.bG D.mG
  have GTY : FnOk P w K mg base CX0 6 fTY dTY ["pile"] (spTidy C B) := ok_tidy D.FTY T GTR D.FTR D.bTR D.gTR GRE D.FRE D.bRE D.gRE GCA D.bCA D.mCA
  have GDO : FnOk P w K mg base (L2N.CX P w) 7 fDO dDO ["pile", "deed"] (spDone K C B eH eS eF eB eL) := ok_donep D.FDO T GM D.bM D.mM GO D.bO D.mO GR D.bR D.mR GU D.bU D.mU GE D.bE D.mE GQ D.bQ D.mQ GTY D.FTY D.bTY D.gTY
  have GI : FnOk P w K mg base CX0 1 fI dI ["self"] (spInit C B) := ok_init D.FI T
  have GRN : FnOk P w K mg base (L2.CX P w) 1 fRN dRN ["part"] (spReadNumber Pt eD) := ok_readnumber D.FRN hcR TN TB
  have GRD : FnOk P w K mg base (L2.CX P w) 2 fRD dRD ["line"] (spRead Pt eD) := ok_read D.FRD TN GRN D.FRN D.bRN D.gRN
  have GAN : FnOk P w K mg base CX0 8 fAN dAN ["pile", "line"] (spAnswer C B Pt) := ok_answer D.FAN T TN TX GDO D.FDO D.bDO D.gDO GRD D.FRD D.bRD D.gRD
  have GPY : FnOk P w K mg base CX0 9 fPY dPY ["lines"] (spPlayed K Pt) := ok_played D.FPY T D.MC GI D.bI GAN D.FAN D.bAN D.gAN
  refine F.ok scFullTold (fun vs H Q E h => ?_) (fun cdv A outer s H vs Q E hr h => ?_)
  · obtain ⟨rfl, _⟩ := h
    rfl
  · obtain ⟨rfl, hT, k⟩ := h
    have nd := scFullTold.nd
    have hr9 : Room 9 _ := hr
    refine ⟨_, (pss_cons (ps_set (i := 0) nd rfl (Or.inl rfl) (pe_lst pa_nil))
      (pss_cons (ps_for PassesOwn.never rfl (pi_range1 (by rfl) TL.range (pa_cons pe_int pa_nil)) (pg_name (i := 1) nd rfl (Or.inl rfl))
      (pss_one (ps_set (i := 0) nd rfl (Or.inl rfl) (pe_op op_cat (pv 0) (pe_lst (pa_cons pe_str (pa_cons pe_str (pa_cons pe_str pa_nil))))))))
      (pss_cons (ps_set (i := 2) nd rfl (Or.inl rfl) (pe_call GPY hr9 (by rfl) D.gPY D.FPY.kp D.bPY .nil pass0 (pa_cons (pe_op op_cat (pv 0) (pe_lst (pa_cons pe_str pa_nil))) pa_nil)))
      (pss_one (ps_ret (pe_and (pe_callB call_isi (by rfl) TL.isi PyProof.Rows.boot_isinstance (pa_cons (pv 2) (pa_cons (pe_bltn (v := .ty "list") (by rfl) TL.list (by decide +kernel) rfl) pa_nil))) (pe_and (pe_cmpR op_eq (pe_callB call_len_seq (by rfl) TL.len PySem.boot_len (pa_cons (pv 2) pa_nil)) pe_int (nomark _)) (pe_and (pe_cmpR op_eq (pe_ix ix_list (pv 2) pe_int (fun _ _ => rfl)) pe_str (nomark _)) (pe_one (pe_cmpR op_eq (pe_ix ix_list (pv 2) pe_int (fun _ _ => rfl)) pe_str (nomark _))))))))))), ?_⟩
    refine ⟨(by show 0 ≤ sizeLine; decide), fun l0 hl0 => ?_⟩
    refine ⟨_, rfl, by decide, by decide, ?_⟩
    refine for_it walk_range (fun i σ H' => ∃ (l : Addr) (v1 : Option V), σ = [some (.ref l), v1, none] ∧ Same H H' ∧ H' l = some (.lst (((List.replicate i three).flatten).map V.str))) ⟨l0, none, rfl, same_upd hl0, upd_same⟩ (fun _ _ _ _ _ => trivial) ?_ ?_
    · rintro i x σ H1 H2 hi ⟨l, v1, rfl, s1, kl⟩ ⟨rfl, hx⟩
      subst hx
      have hi60 : i < 60 := hi
      refine ⟨_, rfl, (by show 3 ≤ sizeLine; decide), fun b hb => ?_⟩
      have t2 := same_upd (o := .lst [V.str "make 2 1", V.str "put 2 0 1", V.str "hold 1 2"]) hb
      refine ⟨l, b, _, _, rfl, rfl, t2 _ _ kl, upd_same, (by rw [List.length_map, three_len, sizeLine_eq]; show 3 * i + 3 ≤ _; omega), fun q hq => ?_⟩
      refine ⟨q, _, rfl, (s1.trans t2).trans (same_upd hq), ?_⟩
      rw [upd_same, three_snoc, List.map_append]
      rfl
    · rintro σ H1 ⟨l, v1, rfl, s1, kl⟩
      have kl : H1 l = some (.lst (((List.replicate 60 three).flatten).map V.str)) := kl
      refine ⟨_, rfl, (by show 1 ≤ sizeLine; decide), fun b hb => ?_⟩
      have t2 := same_upd (o := .lst [V.str "make 3 0"]) hb
      refine ⟨l, b, _, _, rfl, rfl, t2 _ _ kl, upd_same, (by rw [List.length_map, three_len, sizeLine_eq]; show 3 * 60 + 1 ≤ _; omega), fun q hq => ?_⟩
      have t3 := same_upd (o := .lst (((List.replicate 60 three).flatten).map V.str ++ [V.str "make 3 0"])) hq
      have s3 := (s1.trans t2).trans t3
      refine ⟨q, lines181, rfl, ?_, ?_, lines_len, TabG.of_same hT s3, fun D H4 p4 nD kD => ?_⟩
      · refine SqL.of ?_
        rw [upd_same]
        unfold lines181
        rw [List.map_append]
        rfl
      · unfold lines181
        rw [List.length_append, three_len]
        decide
      have p04 : Past Pt H H4 := (Past.same hT s3).trans p4
      have l181 : ((answers pl0 lines181).map V.str).length = 181 := by
        rw [List.length_map, answers_len]
        unfold lines181
        rw [List.length_append, three_len]
        rfl
      have ea : answers pl0 lines181 = answersC pl0 deeds181 := answers_c _ _ _ said
      obtain ⟨e180, e177⟩ := told181
      rw [← ea] at e180 e177
      refine ⟨_, rfl, _, _, _, _, true, rfl, .ty "list", .base (.lst kD), kit_ty (by decide +kernel), _, rfl, ?_⟩
      refine iteT ?_
      refine ⟨_, rfl, D, _, rfl, .inl (SqL.of kD), rfl, _, rfl, if_pos_of (by rw [l181]; rfl) ?_⟩
      refine ⟨_, rfl, D, _, _, _, rfl, rfl, SqL.of kD, at_of (j := 180) rfl (v := V.str "full") (by rw [List.getElem?_map, e180]; rfl), rfl, _, rfl, if_pos_of (decide_eq_true rfl) ?_⟩
      refine ⟨_, rfl, D, _, _, _, rfl, rfl, SqL.of kD, at_of (j := 177) rfl (v := V.str "frees none") (by rw [List.getElem?_map, e177]; rfl), rfl, ?_⟩
      rw [decide_eq_true rfl]
      exact k H4 p04
/-! ### full, while an exception is in hand -/
open L2H in
theorem ok_aliveH {f : Addr} {fd : FuncData} (F : Fun K "alive" "Pile.alive" sAlive f fd) (T : Txt K mg C B eH eS eF eB eL) : FnH P w K mg base CX0 1 f fd ["self"] (spAlive C B) := by
  refine okH F scAlive (fun vs H Q E h => ?_) (fun cdv A outer s H vs Q E pp hot hr h => ?_)
  · obtain ⟨p, g, P, R, rfl, _⟩ := h
    rfl
  · obtain ⟨p, g, P0, R, rfl, A0, W0, k⟩ := h
    refine ⟨_, pss_one (ps_ret (pe_callB (call_sortedH (hotB_of hot rfl)) (by rfl) T.sorted (by decide +kernel) (pa_cons (pe_fld (pv 0) rfl) pa_nil))), ?_⟩
    refine ⟨_, rfl, p, C, g.dx, _, _, rfl, A0.hp, T.clC, T.nB, pf_boxes _ _ _, g.db, _, keys P0.boxes, rfl, .inl A0.hd, dV_keys _ _, ?_, fun ys r hp hs hr => ?_⟩
    · have := W0.few
      have e : (keys P0.boxes).length = P0.boxes.length := List.length_map _
      omega
    · rw [sorted_same hp hs W0.ks]
      exact k r hr
def spFullBy (C B : Addr) : Sp := fun vs H Q _ => ∃ (p : Addr) (g : Geo) (P : Pl) (R : Hp), vs = [.ref p] ∧ PileAt C B p g P R H ∧ Good P ∧ P.boxes.length = 60 ∧ ∀ H', PileAt C B p g P R H' → Q (.bl true) H'
theorem scFullBy : FnScope nFullBy ["_law_pile"] (defScope sFullBy) := ⟨rfl, rfl, rfl, by decide +kernel, rfl, by decide +kernel, by decide +kernel⟩
open L2H in
theorem ok_fullby {f fI fM fO fR fU fE fQ fH fT fG fA fS fX fY fP fL fB fK fCS fCA fPA fRE fTR fTY fDO fBW fWT fLE fCV fCL fRD fRN fAN fPY fD fZ5 fZ4 fZ1 fZ2 fZ3 fS1 fS2 fS3 fS4 fS5 fS6 fS7 fS8 fS9 fSA fSB fSC : Addr} {fd dI dM dO dR dU dE dQ dH dT dG dA dS dX dY dP dL dB dK dCS dCA dPA dRE dTR dTY dDO dBW dWT dLE dCV dCL dRD dRN dAN dPY dD dZ5 dZ4 dZ1 dZ2 dZ3 dS1 dS2 dS3 dS4 dS5 dS6 dS7 dS8 dS9 dSA dSB dSC : FuncData} (F : Fun K "_law_full_by" "_law_full_by" sFullBy f fd) (T : Txt K mg C B eH eS eF eB eL) (TL : TxtL mg) (xF : PySem.W.exmOne K (.ref eF) (.ref eF) = some true) (D : Defs K mg C B fI fM fO fR fU fE fQ fH fT fG fA fS fX fY fP fL fB fK fCS fCA fPA fRE fTR fTY fDO fBW fWT fLE fCV fCL fRD fRN fAN fPY fD fZ5 fZ4 fZ1 fZ2 fZ3 fS1 fS2 fS3 fS4 fS5 fS6 fS7 fS8 fS9 fSA fSB fSC dI dM dO dR dU dE dQ dH dT dG dA dS dX dY dP dL dB dK dCS dCA dPA dRE dTR dTY dDO dBW dWT dLE dCV dCL dRD dRN dAN dPY dD dZ5 dZ4 dZ1 dZ2 dZ3 dS1 dS2 dS3 dS4 dS5 dS6 dS7 dS8 dS9 dSA dSB dSC) : FnOk P w K mg base CX0 4 f fd ["_law_pile"] (spFullBy C B) := by
  have GM : FnOk P w K mg base (L2N.CX P w) 3 fM dM ["self", "hand", "size"] (spMake C B eH eS eF) := ok_make D.FM T D.FL D.bL D.mL D.FP D.bP D.mP D.MB D.FB D.bB D.FK D.bK D.gK
  have GO : FnOk P w K mg base (L2N.CX P w) 3 fO dO ["self", "hand", "other"] (spHold C B eH) := ok_hold D.FO T D.FL D.bL D.mL D.FP D.bP D.mP D.FK D.bK D.gK
  have GR : FnOk P w K mg base (L2N.CX P w) 3 fR dR ["self", "hand"] (spDrop C B eH) := ok_drop D.FR T D.FL D.bL D.mL D.FP D.bP D.mP D.FK D.bK D.gK
  have GU : FnOk P w K mg base (L2N.CX P w) 3 fU dU ["self", "hand", "slot", "other"] (spPut C B eH eB eL) := ok_put D.FU T D.FL D.bL D.mL D.FP D.bP D.mP D.FK D.bK D.gK D.FY D.bY D.mY D.FCS D.bCS D.gCS
  have GE : FnOk P w K mg base (L2N.CX P w) 3 fE dE ["self", "hand", "slot"] (spEmpty C B eH eB eL) := ok_empty D.FE T D.FL D.bL D.mL D.FP D.bP D.mP D.FK D.bK D.gK D.FY D.bY D.mY D.FCS D.bCS D.gCS
  have GQ : FnOk P w K mg base (L2N.CX P w) 3 fQ dQ ["self", "hand", "other", "slot"] (spTake C B eH eB eL) := ok_take D.FQ T D.FL D.bL D.mL D.FP D.bP D.mP D.FK D.bK D.gK D.FY D.bY D.mY D.FCS D.bCS D.gCS
  have GT : FnOk P w K mg base (L2N.CX P w) 2 fT dT ["self", "number"] (spPoints C B eB) := ok_points D.FT T D.FX D.bX D.mX
  have GG : FnOk P w K mg base (L2N.CX P w) 2 fG dG ["self", "number"] (spWeighs C B eB) := ok_weighs D.FG T D.FX D.bX D.mX
  have GS : FnOk P w K mg base CX0 1 fS dS ["self"] (spSuspects C B) := ok_suspects D.FS T
  have GCA : FnOk P w K mg base CX0 1 fCA dCA ["self", "numbers"] (spClear C B) := ok_clear D.FCA T
  have GPA : FnOk P w K mg base (L2N.CX P w) 3 fPA dPA ["pile", "number"] (spPointedAt C B eB) := ok_pointedat D.FPA T GT D.bT D.mT
  have GRE : FnOk P w K mg base (L2N.CX P w) 4 fRE dRE ["pile", "numbers"] (spReached K C B eB) := ok_reached D.FRE T GPA D.FPA D.bPA D.gPA
  have GTR : FnOk P w K mg base CX0 5 fTR dTR ["pile"] (spTrials C B) := ok_trials D.FTR T GPA D.FPA D.bPA D.gPA GRE D.FRE D.bRE D.gRE GS D.bS D.mS GG D.bG D.mG
  have GTY : FnOk P w K mg base CX0 6 fTY dTY ["pile"] (spTidy C B) := ok_tidy D.FTY T GTR D.FTR D.bTR D.gTR GRE D.FRE D.bRE D.gRE GCA D.bCA D.mCA
  have GDO : FnOk P w K mg base (L2N.CX P w) 7 fDO dDO ["pile", "deed"] (spDone K C B eH eS eF eB eL) := ok_donep D.FDO T GM D.bM D.mM GO D.bO D.mO GR D.bR D.mR GU D.bU D.mU GE D.bE D.mE GQ D.bQ D.mQ GTY D.FTY D.bTY D.gTY
  have GAH : FnH P w K mg base CX0 1 fA dA ["self"] (spAlive C B) := ok_aliveH D.FA T
  refine F.ok scFullBy (fun vs H Q E h => ?_) (fun cdv A outer s H vs Q E hr h => ?_)
  · obtain ⟨p, g, P, R, rfl, _⟩ := h
    rfl
  · obtain ⟨p, g, P0, R, rfl, A0, G0, h60, k⟩ := h
    have nd := scFullBy.nd
    have hr3 : Room 3 _ := hr
    have hrH := roomH_of (hr.mono (show 1 ≤ 3 by decide))
    refine ⟨_, pss_cons (L2N.ps_try_many (l := [(.ref eF, fun a cls d => tRet (tOp rEq (tCB (fun xs H Q => ∃ p ys, xs = [V.ref p] ∧ (SqL K H p ys ∨ SqT K H p ys) ∧ Q (.int ys.length) H) (tCons (tMethH C "alive" (spAlive C B) (fun _ _ _ _ => False) (tVar 0) tNil) tNil)) (tC (.int 60))))])
      (tb := fun W => tDrop (tMethE C "make" (spMake C B eH eS eF) (WE W) (tVar 0) (tCons (tC (.int 3)) (tCons (tC (.int 0)) tNil)))) (Wout := fun _ _ _ _ => False) rfl rfl takes0N
      (fun W pn xe tk _ => pss_one (ps_expr (pe_methE (pv 0) T.clC D.mM GM hr3 D.bM (fun σ => L2N.passAt tk σ) (pa_cons pe_int (pa_cons pe_int pa_nil)))))
      (.cons ⟨rfl, by decide, .inl T.eF.g⟩ (fun a oe cls d pn hz hf => with_hot (fun hot => pss_one (ps_ret (pe_cmpR op_eq (pe_callB call_len_seq (by rfl) TL.len PySem.boot_len (pa_cons (pe_methH0 (pv 0) T.clC D.mA GAH ⟨hrH.dp, hrH.un⟩ hot D.bA passAt0) pa_nil)) pe_int (nomark _)))) (hotC_of hz hf)) .nil)) (pss_one (ps_ret pe_bl)), ?_⟩
    refine ⟨_, rfl, p, g.dx, _, rfl, A0.hp, pf_no _ _ _ (by decide +kernel) (by decide +kernel) (by decide +kernel), p, P0, R, 3, 0, rfl, ⟨⟨g, A0⟩, G0.wf⟩, fun z => absurd (by decide) z, fun _ z => absurd (by decide) z, fun _ _ _ => ⟨true, xF, fun _ ax hax => ?_, fun q => nomatch q⟩, fun _ _ z => absurd z (by omega)⟩
    refine ⟨_, rfl, p, g.dx, _, rfl, A0.hp, pf_no _ _ _ (by decide +kernel) (by decide +kernel) (by decide +kernel), p, g, P0, R, rfl, A0, G0.wf, fun u hu => ?_⟩
    refine ⟨u, _, rfl, .inl (SqL.of upd_same), rfl, ?_⟩
    rw [List.length_map, len_keys, h60]
    exact k _ ((A0.new (o := .lst ((keys P0.boxes).map V.int)) hu).less (same_upd (A0.same.free hu)))
/-! ### the law -/
def sgDone6 (K : PySem.W.Frag) (C B : Addr) : Sp := fun vs H Q _ => ∃ (p t : Addr) (g : Geo) (P : Pl) (R : Hp) (d : Deed), vs = [.ref p, .ref t] ∧ PileAt C B p g P R H ∧ Good P ∧ SqT K H t d.vs ∧
  ∀ (v : V) (g' : Geo) (P' : Pl) (H' : Hp), PileAt C B p g' P' R H' → Good P' → P'.made ≤ P.made + 1 → Q v H'
theorem sg_done6 (vs : List V) (H : Hp) (Q : VK) (E : XK) (q : sgDone6 K C B vs H Q E) : spDoneL K C B vs H Q E := by
  obtain ⟨p, t, g, P', R, d, rfl, A, G, ht, kk⟩ := q
  refine ⟨p, t, g, P', R, d, rfl, A, G, ht, fun e he => kk _ g P' H A G (by omega), fun P2 f hf r g' H' hr A' => kk _ g' P2 H' (A'.less (same_upd hr)) (G.act hf) (act_freed G hf).2.2.2⟩
theorem scLaw : FnScope nLaw ["_law_script"] (defScope sLaw) := ⟨rfl, rfl, rfl, by decide +kernel, rfl, by decide +kernel, by decide +kernel⟩
theorem ok_law {f eP eD dW' cR Pt fI fM fO fR fU fE fQ fH fT fG fA fS fX fY fP fL fB fK fCS fCA fPA fRE fTR fTY fDO fBW fWT fLE fCV fCL fRD fRN fAN fPY fD fZ5 fZ4 fZ1 fZ2 fZ3 fS1 fS2 fS3 fS4 fS5 fS6 fS7 fS8 fS9 fSA fSB fSC : Addr} {fd dI dM dO dR dU dE dQ dH dT dG dA dS dX dY dP dL dB dK dCS dCA dPA dRE dTR dTY dDO dBW dWT dLE dCV dCL dRD dRN dAN dPY dD dZ5 dZ4 dZ1 dZ2 dZ3 dS1 dS2 dS3 dS4 dS5 dS6 dS7 dS8 dS9 dSA dSB dSC : FuncData} (F : Fun K "law" "law" sLaw f fd) (T : Txt K mg C B eH eS eF eB eL) (TL : TxtL mg) (TN : TxtN K w mg eD dW') (TW : TxtW mg) (TP : TxtP K mg eP eH eS eF eB eL) (TI : TxtI K mg eH eS eF eB eL eD) (TX : TxtX K eH eS eF eB eL eD) (TB : GxR.TabB base mg cR Pt) (hcR : dRN.code = .ref cR) (D : Defs K mg C B fI fM fO fR fU fE fQ fH fT fG fA fS fX fY fP fL fB fK fCS fCA fPA fRE fTR fTY fDO fBW fWT fLE fCV fCL fRD fRN fAN fPY fD fZ5 fZ4 fZ1 fZ2 fZ3 fS1 fS2 fS3 fS4 fS5 fS6 fS7 fS8 fS9 fSA fSB fSC dI dM dO dR dU dE dQ dH dT dG dA dS dX dY dP dL dB dK dCS dCA dPA dRE dTR dTY dDO dBW dWT dLE dCV dCL dRD dRN dAN dPY dD dZ5 dZ4 dZ1 dZ2 dZ3 dS1 dS2 dS3 dS4 dS5 dS6 dS7 dS8 dS9 dSA dSB dSC) : FnOk P w K mg base CX0 11 f fd ["_law_script"] (spLawT K Pt) := by
  have GI : FnOk P w K mg base CX0 1 fI dI ["self"] (spInit C B) := ok_init D.FI T
  have GD : FnOk P w K mg base CX0 1 fD dD ["_law_script", "_law_k"] (spCellAt K) := ok_cellat D.FD TL
  have GZ4 : FnOk P w K mg base CX0 8 fZ4 dZ4 ["_law_pile", "_law_deed"] (sgDone6 K C B) := FnOk.imp (ok_done D.FZ4 T TP D) (fun vs H Q E q => sg_done6 vs H Q E q)
  have GZ3 : FnOk P w K mg base CX0 5 fZ3 dZ3 ["_law_pile", "_law_script"] (spBegun C B K) := ok_begun D.FZ3 T TL D
  have GZ5 : FnOk P w K mg base CX0 1 fZ5 dZ5 ["_law_one", "_law_two", "_law_few"] spDeedBy := ok_deedby D.FZ5
  have GS7 : FnOk P w K mg base CX0 4 fS7 dS7 ["_law_pile"] (spFilled C B) := ok_filled D.FS7 T TL D
  have GS8 : FnOk P w K mg base CX0 10 fS8 dS8 [] (spFullTold Pt) := ok_fulltold D.FS8 T TL TN TX TB hcR D
  have GS9 : FnOk P w K mg base CX0 4 fS9 dS9 ["_law_pile"] (spFullBy C B) := ok_fullby D.FS9 T TL (TX.x (some .full) (some .full)) D
  have GSC : FnOk P w K mg base CX0 9 fSC dSC ["_law_pile", "_law_cells"] (spGood C B) := ok_good D.FSC T TL TN TW TP TI D
  refine F.ok scLaw (fun vs H Q E h => ?_) (fun cdv A outer s H vs Q E hr h => ?_)
  · obtain ⟨a, ns, rfl, _⟩ := h
    rfl
  · obtain ⟨a, ns, rfl, hS, hlen, hbits, hP, k⟩ := h
    have nd := scLaw.nd
    have hr1 : Room 1 _ := hr.mono (by decide)
    have hr2 : Room 2 _ := hr.mono (by decide)
    have hr4 : Room 4 _ := hr.mono (by decide)
    have hr5 : Room 5 _ := hr.mono (by decide)
    have hr8 : Room 8 _ := hr.mono (by decide)
    have hr9 : Room 9 _ := hr.mono (by decide)
    have hr10 : Room 10 _ := hr
    have T0 : GxR.TabG H Pt := ⟨_, hP, trivial⟩
    refine ⟨_, (pss_cons (ps_set (i := 1) nd rfl (Or.inl rfl) (pe_make0 D.MC GI hr2 (by rfl) T.mgC D.bI .nil pass0))
      (pss_cons (ps_set (i := 2) nd rfl (Or.inl rfl) (pe_call GZ3 hr5 (by rfl) D.gZ3 D.FZ3.kp D.bZ3 .nil pass0 (pa_cons (pv 1) (pa_cons (pv 0) pa_nil))))
      (pss_cons (ps_for PassesOwn.never rfl (pi_range3 (by rfl) TL.range (pa_cons pe_int (pa_cons pe_int (pa_cons pe_int pa_nil)))) (pg_name (i := 3) nd rfl (Or.inl rfl))
      (pss_one (ps_expr (pe_call GZ4 hr8 (by rfl) D.gZ4 D.FZ4.kp D.bZ4 .nil pass0 (pa_cons (pv 1) (pa_cons (pe_call GZ5 hr1 (by rfl) D.gZ5 D.FZ5.kp D.bZ5 .nil pass0 (pa_cons (pe_call GD hr1 (by rfl) D.gD D.FD.kp D.bD .nil pass0 (pa_cons (pv 0) (pa_cons (pv 3) pa_nil))) (pa_cons (pe_call GD hr1 (by rfl) D.gD D.FD.kp D.bD .nil pass0 (pa_cons (pv 0) (pa_cons (pe_op op_add (pv 3) pe_int) pa_nil))) (pa_cons (pv 2) pa_nil)))) pa_nil))))))
      (pss_cons (ps_mid (ps_if (pt_cmpR op_eq (pe_op op_mod (pe_call GD hr1 (by rfl) D.gD D.FD.kp D.bD .nil pass0 (pa_cons (pv 0) (pa_cons pe_int pa_nil))) pe_int) pe_int (nomark _)) (pss_cons (ps_expr (pe_call GS7 hr4 (by rfl) D.gS7 D.FS7.kp D.bS7 .nil pass0 (pa_cons (pv 1) pa_nil)))
      (pss_one (ps_if (PW.pt (pw_or (pt_not (pt_val (pe_call0 GS8 hr10 (by rfl) D.gS8 D.FS8.kp D.bS8 .nil pass0))) (pw_or1 (pt_not (pt_val (pe_call GS9 hr4 (by rfl) D.gS9 D.FS9.kp D.bS9 .nil pass0 (pa_cons (pv 1) pa_nil))))))) (pss_one (ps_ret pe_bl)) pss_nil))) pss_nil))
      (pss_cons (ps_for PassesOwn.never rfl (pi_range1 (by rfl) TL.range (pa_cons (pe_op op_add pe_int (pe_callB (call_min2 rfl) (by rfl) TL.min PyProof.Rows.boot_min (pa_cons pe_int (pa_cons (pe_op op_fdiv (pe_callB (call_max2 rfl) (by rfl) TL.max (by decide +kernel) (pa_cons pe_int (pa_cons (pe_op op_sub (pe_callB call_len_seq (by rfl) TL.len PySem.boot_len (pa_cons (pv 0) pa_nil)) pe_int) pa_nil))) pe_int) pa_nil)))) pa_nil)) (pg_name (i := 4) nd rfl (Or.inr rfl))
      (pss_one (ps_if (pt_not (pt_val (pe_call GSC hr9 (by rfl) D.gSC D.FSC.kp D.bSC .nil pass0 (pa_cons (pv 1) (pa_cons (pe_lc (own := [("_law_k", 3)]) (g := gName 3) (tt := tYes) (te := tCall (spCellAt K) [] E0 (tCons (tVar 0) (tCons (tOp (rI0 fun i j => .int (i + j)) (tOp (rI0 fun i j => .int (i + j)) (tC (.int 14)) (tOp (rI CMul fun i j => .int (i * j)) (tC (.int 6)) (tVar 4))) (tVar 3)) tNil))) (by rfl) nd (pi_range1 (by rfl) TL.range (pa_cons pe_int pa_nil)) (blkOk_by (N := nLaw) (sc := defScope sLaw) (by decide +kernel)) (fun _ _ _ _ _ => pg_name (i := 3) nd rfl (Or.inl rfl)) (fun _ _ _ _ _ => pts_nil) (fun _ _ _ _ _ => pe_call GD hr1 (by rfl) D.gD D.FD.kp D.bD .nil pass0 (pa_cons (pv 0) (pa_cons (pe_op op_add (pe_op op_add pe_int (pe_op op_mul pe_int (pv 4))) (pv 3)) pa_nil)))) pa_nil))))) (pss_one (ps_ret pe_bl)) pss_nil)))
      (pss_one (ps_ret pe_bl))))))), ?_⟩
    intro x dx nx ndx nex
    refine ⟨H, x, dx, rfl, fun b o e => by rw [upd_ne (ne_of_none e nx), upd_ne (ne_of_none e ndx)]; exact e, nx, upd_same, fun g1 H1 A1 => ⟨rfl, ?_⟩⟩
    refine ⟨_, rfl, _, rfl, x, a, g1, H, ns, rfl, A1, A1.same.seq hS, fun g2 P2 H2 few A2 G2 m2 hfew => ?_⟩
    refine ⟨2, 14, 2, 6, rfl, ⟨by decide, by decide, by decide, by decide⟩, ?_⟩
    refine for_rangeC (lo := 2) (c := 2) (n := 6) (fun i σ H' => ∃ (g : Geo) (P' : Pl) (v3 : Option V), σ = [some (.ref a), some (.ref x), some (.int few), v3, none] ∧ PileAt C B x g P' H H' ∧ Good P' ∧ P'.made ≤ 45 + (i : Int))
      ⟨g2, P2, none, rfl, A2, G2, by omega⟩ ?_ ?_
    · rintro i σ H3 hi ⟨g3, P3, v3, rfl, A3, G3, m3⟩
      have hS3 := A3.same.seq hS
      refine ⟨_, rfl, _, rfl, _, rfl, a, ns, 2 + i * 2, ?_, hS3, _, rfl, _, rfl, _, _, rfl, rfl, a, ns, 2 + i * 2 + 1, ?_, hS3, _, rfl, _, _, few, rfl, by omega, by omega, fun t H5 d ht s5 hd hdi => ?_⟩
      · show [V.ref a, V.int (2 + (i : Int) * 2)] = [V.ref a, V.int ((2 + i * 2 : Nat) : Int)]
        rw [show (2 + (i : Int) * 2 : Int) = ((2 + i * 2 : Nat) : Int) from by omega]
      · show [V.ref a, V.int (2 + (i : Int) * 2 + 1)] = [V.ref a, V.int ((2 + i * 2 + 1 : Nat) : Int)]
        rw [show (2 + (i : Int) * 2 + 1 : Int) = ((2 + i * 2 + 1 : Nat) : Int) from by omega]
      refine ⟨x, t, g3, P3, _, d, rfl, A3.grow s5, G3, SqT.of hd, fun v g4 P4 H6 A6 G4 m4 => ?_⟩
      exact ⟨g4, P4, _, rfl, A6, G4, by omega⟩
    rintro σ H3 ⟨g3, P3, v3, rfl, A3, G3, m3⟩
    have hS3 := A3.same.seq hS
    refine ⟨fun σ' H' => ∃ (g : Geo) (P' : Pl) (R' : Hp), σ' = [some (.ref a), some (.ref x), some (.int few), v3, none] ∧ Past Pt H R' ∧ PileAt C B x g P' R' H' ∧ Good P', ?_, ?_⟩
    · refine ⟨_, rfl, a, ns, 1, rfl, hS3, _, _, rfl, rfl, (by show (0 : Int) < 3; decide), rfl, _, rfl, ite_both ?_ ⟨g3, P3, H, rfl, Past.refl T0, A3, G3⟩⟩
      refine ⟨_, rfl, x, g3, P3, H, rfl, A3, G3, by omega, fun g4 P4 H4 A4 G4 h60 => ?_⟩
      refine ⟨rfl, TabG.of_same T0 A4.same, fun H5 p5 => ⟨_, rfl, iteF ?_⟩⟩
      obtain ⟨A5, q5⟩ := A4.past T0 p5
      refine ⟨_, rfl, x, g4, P4, _, rfl, A5, G4, h60, fun H6 A6 => ⟨_, rfl, iteF ?_⟩⟩
      exact ⟨g4, P4, _, rfl, q5, A6, G4⟩
    rintro σ' H4 ⟨g4, P4, R4, rfl, q4, A4, G4⟩
    have hS4 := A4.same.seq (q4.seq T0 hS)
    refine ⟨_, rfl, a, _, rfl, .inl hS4, _, _, rfl, rfl, _, _, rfl, _, _, rfl, rfl, ⟨(by show (0 : Int) < 6; decide), by decide⟩, _, _, rfl, _, _, rfl, rfl, _, rfl, ?_, ?_, ?_⟩
    · rw [List.length_map]
      by_cases c : ((ns.length : Int) - 14) > 0
      · rw [if_pos c]
        split <;> omega
      · rw [if_neg c]
        split <;> omega
    · rw [List.length_map]
      by_cases c : ((ns.length : Int) - 14) > 0
      · rw [if_pos c]
        split <;> omega
      · rw [if_neg c]
        split <;> omega
    refine for_it walk_range (fun i σ H' => ∃ (g : Geo) (P' : Pl) (R' : Hp) (v3 v4 : Option V), σ = [some (.ref a), some (.ref x), some (.int few), v3, v4] ∧ Past Pt H R' ∧ PileAt C B x g P' R' H' ∧ Good P')
      ⟨g4, P4, R4, v3, none, rfl, q4, A4, G4⟩ (fun _ _ _ _ _ => trivial) ?_ ?_
    · rintro i y σ H5 H6 hi ⟨g5, P5, R5, v3, v4, rfl, q5, A5, G5⟩ ⟨rfl, hy⟩
      subst hy
      refine ⟨_, rfl, _, rfl, by decide, by decide, fun D hD => ?_⟩
      have rD := A5.same.free hD
      refine lc_it walk_range (fun j H' => ∃ cs : List Int, cs.length = j ∧ PileAt C B x g5 P5 (upd R5 D (.lst (cs.map V.int))) H') ⟨[], rfl, A5.new hD⟩ (fun _ _ _ _ => trivial) ?_ ?_
      · rintro j y H7 H8 hj ⟨cs, hcs, A7⟩ ⟨rfl, hy⟩
        subst hy
        have hj6 : j < 6 := hj
        have hS7 := A7.same.seq ((same_upd rD).seq (q5.seq T0 hS))
        refine ⟨rfl, _, rfl, _, rfl, _, _, rfl, rfl, .inl ⟨by decide, by decide⟩, _, _, rfl, rfl, _, rfl, _, _, rfl, rfl, a, ns, 14 + 6 * i + j, ?_, hS7, _, A7.same _ _ upd_same, (by rw [List.length_map, hcs, sizeLine_eq]; omega), cs ++ [ns.getD (14 + 6 * i + j) 0], by rw [List.length_append, hcs]; rfl, ?_⟩
        · show [V.ref a, V.int (14 + 6 * (0 + (i : Int)) + (0 + (j : Int)))] = [V.ref a, V.int ((14 + 6 * i + j : Nat) : Int)]
          rw [show (14 + 6 * (0 + (i : Int)) + (0 + (j : Int)) : Int) = ((14 + 6 * i + j : Nat) : Int) from by omega]
        · rw [List.map_append]
          have := A7.set (o := .lst (cs.map V.int ++ [V.int (ns.getD (14 + 6 * i + j) 0)])) (h := upd_same)
          rw [upd_upd] at this
          exact this
      rintro H7 ⟨cs, hcs, A7⟩
      have hcs : cs.length = 6 := hcs
      have q7 := q5.trans (Past.same q5.1 (same_upd (o := .lst (cs.map V.int)) rD))
      refine ⟨x, D, g5, P5, _, cs, rfl, A7, G5, upd_same, hcs, fun g8 P8 R8 H8 s8 A8 G8 => ⟨_, rfl, iteF ?_⟩⟩
      exact ⟨g8, P8, R8, _, _, rfl, q7.trans (Past.same q7.1 s8), A8, G8⟩
    · rintro σ H5 ⟨g5, P5, R5, v3, v4, rfl, q5, A5, G5⟩
      exact k _

end
end BP

namespace BP
open PySem L2
theorem kit_sub {K : PySem.W.Frag} {S : Addr} {a : Addr} {z : Bool} (t : PySem.W.typeIn K (.ref S) = some (.type "type")) (i : PySem.W.isClsIn K S = true) (s : PySem.W.subIn K (.ref a) (.ref S) = some z) (h : a = S → z = true) : PySem.W.kitOne K (.ref a) (.ref S) = some z := by
  have h2 : ((PySem.W.clsIn K S).isSome && PySem.W.typeIn K (.ref S) == some (.type "type")) = true := by rw [show (PySem.W.clsIn K S).isSome = true from i, t] <;> rfl
  unfold PySem.W.kitOne
  by_cases e : a = S
  · rw [h e, if_pos (by rw [e]; simp)]
  · rw [if_neg (by simp [e])]
    exact (if_pos h2).trans s
theorem keys_words {P : Params} {l : List DictEntry} (h : WordsAt P l) : PySem.W.KeysLit P l := by
  obtain ⟨t1, t2, t3, t4, t5, t6, t7, u1, u2, u3, u4, u5, u6, u7, rfl⟩ := h
  exact ⟨⟨_, _, rfl, rfl⟩, ⟨_, _, rfl, rfl⟩, ⟨_, _, rfl, rfl⟩, ⟨_, _, rfl, rfl⟩, ⟨_, _, rfl, rfl⟩, ⟨_, _, rfl, rfl⟩, ⟨_, _, rfl, rfl⟩, trivial⟩
theorem look_words {K : PySem.W.Frag} {P : Params} {d : Addr} {es : Array DictEntry} {n : Nat} (l : K.lookup d = some ⟨.type "dict", none, .dict es n, #[]⟩) (h : WordsAt P es.toList) (z : Str) :
    ∃ r, PySem.W.nsIn K d z = some r ∧ RelV ((manyOf z).elim V.non fun n => V.int n) (r.getD .none) := by
  unfold PySem.W.nsIn
  rw [l]
  dsimp only
  obtain ⟨t1, t2, t3, t4, t5, t6, t7, u1, u2, u3, u4, u5, u6, u7, e⟩ := h
  rw [e]
  have f : ∀ (x : Str) (t : Tok), (z = x → (Value.str x t).isStr z = true) ∧ (z ≠ x → ¬ (Value.str x t).isStr z = true) := fun x t => by
    have e : (Value.str x t).isStr z = (x == z) := rfl
    rw [e, beq_iff_eq]
    exact ⟨fun h => h.symm, fun h q => h q.symm⟩
  unfold manyOf
  by_cases h1 : z = "make"
  · refine ⟨some (.int 2 u1), ?_, ?_⟩
    · rw [List.find?_cons_of_pos (p := fun e : DictEntry => e.key.isStr z) ((f _ _).1 h1)]
    · rw [if_pos h1]; exact ⟨u1, rfl⟩
  rw [List.find?_cons_of_neg (p := fun e : DictEntry => e.key.isStr z) ((f _ _).2 h1), if_neg h1]
  by_cases h2 : z = "hold"
  · refine ⟨some (.int 2 u2), ?_, ?_⟩
    · rw [List.find?_cons_of_pos (p := fun e : DictEntry => e.key.isStr z) ((f _ _).1 h2)]
    · rw [if_pos h2]; exact ⟨u2, rfl⟩
  rw [List.find?_cons_of_neg (p := fun e : DictEntry => e.key.isStr z) ((f _ _).2 h2), if_neg h2]
  by_cases h3 : z = "drop"
  · refine ⟨some (.int 1 u3), ?_, ?_⟩
    · rw [List.find?_cons_of_pos (p := fun e : DictEntry => e.key.isStr z) ((f _ _).1 h3)]
    · rw [if_pos h3]; exact ⟨u3, rfl⟩
  rw [List.find?_cons_of_neg (p := fun e : DictEntry => e.key.isStr z) ((f _ _).2 h3), if_neg h3]
  by_cases h4 : z = "put"
  · refine ⟨some (.int 3 u4), ?_, ?_⟩
    · rw [List.find?_cons_of_pos (p := fun e : DictEntry => e.key.isStr z) ((f _ _).1 h4)]
    · rw [if_pos h4]; exact ⟨u4, rfl⟩
  rw [List.find?_cons_of_neg (p := fun e : DictEntry => e.key.isStr z) ((f _ _).2 h4), if_neg h4]
  by_cases h5 : z = "empty"
  · refine ⟨some (.int 2 u5), ?_, ?_⟩
    · rw [List.find?_cons_of_pos (p := fun e : DictEntry => e.key.isStr z) ((f _ _).1 h5)]
    · rw [if_pos h5]; exact ⟨u5, rfl⟩
  rw [List.find?_cons_of_neg (p := fun e : DictEntry => e.key.isStr z) ((f _ _).2 h5), if_neg h5]
  by_cases h6 : z = "take"
  · refine ⟨some (.int 3 u6), ?_, ?_⟩
    · rw [List.find?_cons_of_pos (p := fun e : DictEntry => e.key.isStr z) ((f _ _).1 h6)]
    · rw [if_pos h6]; exact ⟨u6, rfl⟩
  rw [List.find?_cons_of_neg (p := fun e : DictEntry => e.key.isStr z) ((f _ _).2 h6), if_neg h6]
  by_cases h7 : z = "tidy"
  · refine ⟨some (.int 0 u7), ?_, ?_⟩
    · rw [List.find?_cons_of_pos (p := fun e : DictEntry => e.key.isStr z) ((f _ _).1 h7)]
    · rw [if_pos h7]; exact ⟨u7, rfl⟩
  rw [List.find?_cons_of_neg (p := fun e : DictEntry => e.key.isStr z) ((f _ _).2 h7), if_neg h7]
  exact ⟨none, rfl, rfl⟩
/-! ### what the top has written, the head -/
theorem all_mk {l : PySem.W.OpenLaw} {w : World} {K : PySem.W.Frag} {h : Heap} {mg : Str → Option Value} {fa xRN Pt dW0 B C eH eS eF eB eL eD eP fI fM fO fR fU fE fQ fH fT fG fA fS fX fY fP fL fB fK fCS fCA fPA fRE fTR fTY fDO fBW fWT fLE fCV fCL fRD fRN fAN fPY fD fZ5 fZ4 fZ1 fZ2 fZ3 fS1 fS2 fS3 fS4 fS5 fS6 fS7 fS8 fS9 fSA fSB fSC fZ : Addr} (X : K.In h) (G : h.Ns mainGlobals mg) (hfa : mg "law" = some (.ref fa))
    {slc : Array (Option Value)} {vc : Value} {odc : Option Addr} {vsc : Array Value} {tF tM : Tok} {esW : Array DictEntry} {nW : Nat}
    {odI anI odM anM odO anO odR anR odU anU odE anE odQ anQ odH anH odT anT odG anG odA anA odS anS odX anX odY anY odP anP odL anL odB anB odK anK odCS anCS odCA anCA odPA anPA odRE anRE odTR anTR odTY anTY odDO anDO odBW anBW odWT anWT odLE anLE odCV anCV odCL anCL odRD anRD odRN anRN odAN anAN odPY anPY odD anD odZ5 anZ5 odZ4 anZ4 odZ1 anZ1 odZ2 anZ2 odZ3 anZ3 odS1 anS1 odS2 anS2 odS3 anS3 odS4 anS4 odS5 anS5 odS6 anS6 odS7 anS7 odS8 anS8 odS9 anS9 odSA anSA odSB anSB odSC anSC odZ anZ : Option Addr} {slI slM slO slR slU slE slQ slH slT slG slA slS slX slY slP slL slB slK slCS slCA slPA slRE slTR slTY slDO slBW slWT slLE slCV slCL slRD slRN slAN slPY slD slZ5 slZ4 slZ1 slZ2 slZ3 slS1 slS2 slS3 slS4 slS5 slS6 slS7 slS8 slS9 slSA slSB slSC slZ : Array (Option Value)} {ocI kVI dcI pmI cdI ctI ocM kVM dcM pmM cdM ctM ocO kVO dcO pmO cdO ctO ocR kVR dcR pmR cdR ctR ocU kVU dcU pmU cdU ctU ocE kVE dcE pmE cdE ctE ocQ kVQ dcQ pmQ cdQ ctQ ocH kVH dcH pmH cdH ctH ocT kVT dcT pmT cdT ctT ocG kVG dcG pmG cdG ctG ocA kVA dcA pmA cdA ctA ocS kVS dcS pmS cdS ctS ocX kVX dcX pmX cdX ctX ocY kVY dcY pmY cdY ctY ocP kVP dcP pmP cdP ctP ocL kVL dcL pmL cdL ctL ocB kVB dcB pmB cdB ctB ocK kVK dcK pmK cdK ctK ocCS kVCS dcCS pmCS cdCS ctCS ocCA kVCA dcCA pmCA cdCA ctCA ocPA kVPA dcPA pmPA cdPA ctPA ocRE kVRE dcRE pmRE cdRE ctRE ocTR kVTR dcTR pmTR cdTR ctTR ocTY kVTY dcTY pmTY cdTY ctTY ocDO kVDO dcDO pmDO cdDO ctDO ocBW kVBW dcBW pmBW cdBW ctBW ocWT kVWT dcWT pmWT cdWT ctWT ocLE kVLE dcLE pmLE cdLE ctLE ocCV kVCV dcCV pmCV cdCV ctCV ocCL kVCL dcCL pmCL cdCL ctCL ocRD kVRD dcRD pmRD cdRD ctRD ocRN kVRN dcRN pmRN ctRN ocAN kVAN dcAN pmAN cdAN ctAN ocPY kVPY dcPY pmPY cdPY ctPY ocD kVD dcD pmD cdD ctD ocZ5 kVZ5 dcZ5 pmZ5 cdZ5 ctZ5 ocZ4 kVZ4 dcZ4 pmZ4 cdZ4 ctZ4 ocZ1 kVZ1 dcZ1 pmZ1 cdZ1 ctZ1 ocZ2 kVZ2 dcZ2 pmZ2 cdZ2 ctZ2 ocZ3 kVZ3 dcZ3 pmZ3 cdZ3 ctZ3 ocS1 kVS1 dcS1 pmS1 cdS1 ctS1 ocS2 kVS2 dcS2 pmS2 cdS2 ctS2 ocS3 kVS3 dcS3 pmS3 cdS3 ctS3 ocS4 kVS4 dcS4 pmS4 cdS4 ctS4 ocS5 kVS5 dcS5 pmS5 cdS5 ctS5 ocS6 kVS6 dcS6 pmS6 cdS6 ctS6 ocS7 kVS7 dcS7 pmS7 cdS7 ctS7 ocS8 kVS8 dcS8 pmS8 cdS8 ctS8 ocS9 kVS9 dcS9 pmS9 cdS9 ctS9 ocSA kVSA dcSA pmSA cdSA ctSA ocSB kVSB dcSB pmSB cdSB ctSB ocSC kVSC dcSC pmSC cdSC ctSC ocZ kVZ dcZ pmZ cdZ ctZ : Value} {tHANDS tMOST_SLOTS tMOST_ALIVE : Tok}
    (acB : PySem.W.nsIn K mainGlobals "Box" = some (some (.ref B)))
    (acC : PySem.W.nsIn K mainGlobals "Pile" = some (some (.ref C)))
    (aeH : PySem.W.nsIn K mainGlobals "NoHand" = some (some (.ref eH)))
    (aeS : PySem.W.nsIn K mainGlobals "NoSize" = some (some (.ref eS)))
    (aeF : PySem.W.nsIn K mainGlobals "Full" = some (some (.ref eF)))
    (aeB : PySem.W.nsIn K mainGlobals "NoBox" = some (some (.ref eB)))
    (aeL : PySem.W.nsIn K mainGlobals "NoSlot" = some (some (.ref eL)))
    (aeD : PySem.W.nsIn K mainGlobals "NoDeed" = some (some (.ref eD)))
    (aeP : PySem.W.nsIn K mainGlobals "PileError" = some (some (.ref eP)))
    (aI : PySem.W.findIn K (.ref C) "__init__" = some (some (.ref fI)))
    (iI : PySem.W.isFn K (.ref fI) = true)
    (lI : K.lookup fI = some ⟨ocI, odI, .func (PySem.W.fnOf "__init__" "Pile.__init__" (defArgs sInit) (defBody sInit) (defScope sInit) .none kVI dcI pmI anI cdI ctI), slI⟩)
    (cI : PySem.W.codeIn K cdI "Pile.__init__" = true)
    (kI : PySem.W.keepIn K (.ref fI) = true)
    (aM : PySem.W.findIn K (.ref C) "make" = some (some (.ref fM)))
    (iM : PySem.W.isFn K (.ref fM) = true)
    (lM : K.lookup fM = some ⟨ocM, odM, .func (PySem.W.fnOf "make" "Pile.make" (defArgs sMake) (defBody sMake) (defScope sMake) .none kVM dcM pmM anM cdM ctM), slM⟩)
    (cM : PySem.W.codeIn K cdM "Pile.make" = true)
    (kM : PySem.W.keepIn K (.ref fM) = true)
    (aO : PySem.W.findIn K (.ref C) "hold" = some (some (.ref fO)))
    (iO : PySem.W.isFn K (.ref fO) = true)
    (lO : K.lookup fO = some ⟨ocO, odO, .func (PySem.W.fnOf "hold" "Pile.hold" (defArgs sHold) (defBody sHold) (defScope sHold) .none kVO dcO pmO anO cdO ctO), slO⟩)
    (cO : PySem.W.codeIn K cdO "Pile.hold" = true)
    (kO : PySem.W.keepIn K (.ref fO) = true)
    (aR : PySem.W.findIn K (.ref C) "drop" = some (some (.ref fR)))
    (iR : PySem.W.isFn K (.ref fR) = true)
    (lR : K.lookup fR = some ⟨ocR, odR, .func (PySem.W.fnOf "drop" "Pile.drop" (defArgs sDrop) (defBody sDrop) (defScope sDrop) .none kVR dcR pmR anR cdR ctR), slR⟩)
    (cR : PySem.W.codeIn K cdR "Pile.drop" = true)
    (kR : PySem.W.keepIn K (.ref fR) = true)
    (aU : PySem.W.findIn K (.ref C) "put" = some (some (.ref fU)))
    (iU : PySem.W.isFn K (.ref fU) = true)
    (lU : K.lookup fU = some ⟨ocU, odU, .func (PySem.W.fnOf "put" "Pile.put" (defArgs sPut) (defBody sPut) (defScope sPut) .none kVU dcU pmU anU cdU ctU), slU⟩)
    (cU : PySem.W.codeIn K cdU "Pile.put" = true)
    (kU : PySem.W.keepIn K (.ref fU) = true)
    (aE : PySem.W.findIn K (.ref C) "empty" = some (some (.ref fE)))
    (iE : PySem.W.isFn K (.ref fE) = true)
    (lE : K.lookup fE = some ⟨ocE, odE, .func (PySem.W.fnOf "empty" "Pile.empty" (defArgs sEmpty) (defBody sEmpty) (defScope sEmpty) .none kVE dcE pmE anE cdE ctE), slE⟩)
    (cE : PySem.W.codeIn K cdE "Pile.empty" = true)
    (kE : PySem.W.keepIn K (.ref fE) = true)
    (aQ : PySem.W.findIn K (.ref C) "take" = some (some (.ref fQ)))
    (iQ : PySem.W.isFn K (.ref fQ) = true)
    (lQ : K.lookup fQ = some ⟨ocQ, odQ, .func (PySem.W.fnOf "take" "Pile.take" (defArgs sTake) (defBody sTake) (defScope sTake) .none kVQ dcQ pmQ anQ cdQ ctQ), slQ⟩)
    (cQ : PySem.W.codeIn K cdQ "Pile.take" = true)
    (kQ : PySem.W.keepIn K (.ref fQ) = true)
    (aH : PySem.W.findIn K (.ref C) "holds" = some (some (.ref fH)))
    (iH : PySem.W.isFn K (.ref fH) = true)
    (lH : K.lookup fH = some ⟨ocH, odH, .func (PySem.W.fnOf "holds" "Pile.holds" (defArgs sHolds) (defBody sHolds) (defScope sHolds) .none kVH dcH pmH anH cdH ctH), slH⟩)
    (cH : PySem.W.codeIn K cdH "Pile.holds" = true)
    (kH : PySem.W.keepIn K (.ref fH) = true)
    (aT : PySem.W.findIn K (.ref C) "points" = some (some (.ref fT)))
    (iT : PySem.W.isFn K (.ref fT) = true)
    (lT : K.lookup fT = some ⟨ocT, odT, .func (PySem.W.fnOf "points" "Pile.points" (defArgs sPoints) (defBody sPoints) (defScope sPoints) .none kVT dcT pmT anT cdT ctT), slT⟩)
    (cT : PySem.W.codeIn K cdT "Pile.points" = true)
    (kT : PySem.W.keepIn K (.ref fT) = true)
    (aG : PySem.W.findIn K (.ref C) "weighs" = some (some (.ref fG)))
    (iG : PySem.W.isFn K (.ref fG) = true)
    (lG : K.lookup fG = some ⟨ocG, odG, .func (PySem.W.fnOf "weighs" "Pile.weighs" (defArgs sWeighs) (defBody sWeighs) (defScope sWeighs) .none kVG dcG pmG anG cdG ctG), slG⟩)
    (cG : PySem.W.codeIn K cdG "Pile.weighs" = true)
    (kG : PySem.W.keepIn K (.ref fG) = true)
    (aA : PySem.W.findIn K (.ref C) "alive" = some (some (.ref fA)))
    (iA : PySem.W.isFn K (.ref fA) = true)
    (lA : K.lookup fA = some ⟨ocA, odA, .func (PySem.W.fnOf "alive" "Pile.alive" (defArgs sAlive) (defBody sAlive) (defScope sAlive) .none kVA dcA pmA anA cdA ctA), slA⟩)
    (cA : PySem.W.codeIn K cdA "Pile.alive" = true)
    (kA : PySem.W.keepIn K (.ref fA) = true)
    (aS : PySem.W.findIn K (.ref C) "suspects" = some (some (.ref fS)))
    (iS : PySem.W.isFn K (.ref fS) = true)
    (lS : K.lookup fS = some ⟨ocS, odS, .func (PySem.W.fnOf "suspects" "Pile.suspects" (defArgs sSuspects) (defBody sSuspects) (defScope sSuspects) .none kVS dcS pmS anS cdS ctS), slS⟩)
    (cS : PySem.W.codeIn K cdS "Pile.suspects" = true)
    (kS : PySem.W.keepIn K (.ref fS) = true)
    (aX : PySem.W.findIn K (.ref C) "_box" = some (some (.ref fX)))
    (iX : PySem.W.isFn K (.ref fX) = true)
    (lX : K.lookup fX = some ⟨ocX, odX, .func (PySem.W.fnOf "_box" "Pile._box" (defArgs sBox) (defBody sBox) (defScope sBox) .none kVX dcX pmX anX cdX ctX), slX⟩)
    (cX : PySem.W.codeIn K cdX "Pile._box" = true)
    (kX : PySem.W.keepIn K (.ref fX) = true)
    (aY : PySem.W.findIn K (.ref C) "_slots_with" = some (some (.ref fY)))
    (iY : PySem.W.isFn K (.ref fY) = true)
    (lY : K.lookup fY = some ⟨ocY, odY, .func (PySem.W.fnOf "_slots_with" "Pile._slots_with" (defArgs sSlotsWith) (defBody sSlotsWith) (defScope sSlotsWith) .none kVY dcY pmY anY cdY ctY), slY⟩)
    (cY : PySem.W.codeIn K cdY "Pile._slots_with" = true)
    (kY : PySem.W.keepIn K (.ref fY) = true)
    (aP : PySem.W.findIn K (.ref C) "_point" = some (some (.ref fP)))
    (iP : PySem.W.isFn K (.ref fP) = true)
    (lP : K.lookup fP = some ⟨ocP, odP, .func (PySem.W.fnOf "_point" "Pile._point" (defArgs sPoint) (defBody sPoint) (defScope sPoint) .none kVP dcP pmP anP cdP ctP), slP⟩)
    (cP : PySem.W.codeIn K cdP "Pile._point" = true)
    (kP : PySem.W.keepIn K (.ref fP) = true)
    (aL : PySem.W.findIn K (.ref C) "_let_go" = some (some (.ref fL)))
    (iL : PySem.W.isFn K (.ref fL) = true)
    (lL : K.lookup fL = some ⟨ocL, odL, .func (PySem.W.fnOf "_let_go" "Pile._let_go" (defArgs sLetGo) (defBody sLetGo) (defScope sLetGo) .none kVL dcL pmL anL cdL ctL), slL⟩)
    (cL : PySem.W.codeIn K cdL "Pile._let_go" = true)
    (kL : PySem.W.keepIn K (.ref fL) = true)
    (aB : PySem.W.findIn K (.ref B) "__init__" = some (some (.ref fB)))
    (iB : PySem.W.isFn K (.ref fB) = true)
    (lB : K.lookup fB = some ⟨ocB, odB, .func (PySem.W.fnOf "__init__" "Box.__init__" (defArgs sBoxInit) (defBody sBoxInit) (defScope sBoxInit) .none kVB dcB pmB anB cdB ctB), slB⟩)
    (cB : PySem.W.codeIn K cdB "Box.__init__" = true)
    (kB : PySem.W.keepIn K (.ref fB) = true)
    (aK : PySem.W.nsIn K mainGlobals "check_hand" = some (some (.ref fK)))
    (lK : K.lookup fK = some ⟨ocK, odK, .func (PySem.W.fnOf "check_hand" "check_hand" (defArgs sCheck) (defBody sCheck) (defScope sCheck) .none kVK dcK pmK anK cdK ctK), slK⟩)
    (cK : PySem.W.codeIn K cdK "check_hand" = true)
    (kK : PySem.W.keepIn K (.ref fK) = true)
    (aCS : PySem.W.nsIn K mainGlobals "check_slot" = some (some (.ref fCS)))
    (lCS : K.lookup fCS = some ⟨ocCS, odCS, .func (PySem.W.fnOf "check_slot" "check_slot" (defArgs sCheckSlot) (defBody sCheckSlot) (defScope sCheckSlot) .none kVCS dcCS pmCS anCS cdCS ctCS), slCS⟩)
    (cCS : PySem.W.codeIn K cdCS "check_slot" = true)
    (kCS : PySem.W.keepIn K (.ref fCS) = true)
    (aCA : PySem.W.findIn K (.ref C) "clear_away" = some (some (.ref fCA)))
    (iCA : PySem.W.isFn K (.ref fCA) = true)
    (lCA : K.lookup fCA = some ⟨ocCA, odCA, .func (PySem.W.fnOf "clear_away" "Pile.clear_away" (defArgs sClear) (defBody sClear) (defScope sClear) .none kVCA dcCA pmCA anCA cdCA ctCA), slCA⟩)
    (cCA : PySem.W.codeIn K cdCA "Pile.clear_away" = true)
    (kCA : PySem.W.keepIn K (.ref fCA) = true)
    (aPA : PySem.W.nsIn K mainGlobals "pointed_at" = some (some (.ref fPA)))
    (lPA : K.lookup fPA = some ⟨ocPA, odPA, .func (PySem.W.fnOf "pointed_at" "pointed_at" (defArgs sPointedAt) (defBody sPointedAt) (defScope sPointedAt) .none kVPA dcPA pmPA anPA cdPA ctPA), slPA⟩)
    (cPA : PySem.W.codeIn K cdPA "pointed_at" = true)
    (kPA : PySem.W.keepIn K (.ref fPA) = true)
    (aRE : PySem.W.nsIn K mainGlobals "reached" = some (some (.ref fRE)))
    (lRE : K.lookup fRE = some ⟨ocRE, odRE, .func (PySem.W.fnOf "reached" "reached" (defArgs sReached) (defBody sReached) (defScope sReached) .none kVRE dcRE pmRE anRE cdRE ctRE), slRE⟩)
    (cRE : PySem.W.codeIn K cdRE "reached" = true)
    (kRE : PySem.W.keepIn K (.ref fRE) = true)
    (aTR : PySem.W.nsIn K mainGlobals "trials" = some (some (.ref fTR)))
    (lTR : K.lookup fTR = some ⟨ocTR, odTR, .func (PySem.W.fnOf "trials" "trials" (defArgs sTrials) (defBody sTrials) (defScope sTrials) .none kVTR dcTR pmTR anTR cdTR ctTR), slTR⟩)
    (cTR : PySem.W.codeIn K cdTR "trials" = true)
    (kTR : PySem.W.keepIn K (.ref fTR) = true)
    (aTY : PySem.W.nsIn K mainGlobals "tidy" = some (some (.ref fTY)))
    (lTY : K.lookup fTY = some ⟨ocTY, odTY, .func (PySem.W.fnOf "tidy" "tidy" (defArgs sTidy) (defBody sTidy) (defScope sTidy) .none kVTY dcTY pmTY anTY cdTY ctTY), slTY⟩)
    (cTY : PySem.W.codeIn K cdTY "tidy" = true)
    (kTY : PySem.W.keepIn K (.ref fTY) = true)
    (aDO : PySem.W.nsIn K mainGlobals "done" = some (some (.ref fDO)))
    (lDO : K.lookup fDO = some ⟨ocDO, odDO, .func (PySem.W.fnOf "done" "done" (defArgs sDoneP) (defBody sDoneP) (defScope sDoneP) .none kVDO dcDO pmDO anDO cdDO ctDO), slDO⟩)
    (cDO : PySem.W.codeIn K cdDO "done" = true)
    (kDO : PySem.W.keepIn K (.ref fDO) = true)
    (aBW : PySem.W.nsIn K mainGlobals "best_ways" = some (some (.ref fBW)))
    (lBW : K.lookup fBW = some ⟨ocBW, odBW, .func (PySem.W.fnOf "best_ways" "best_ways" (defArgs sBestWays) (defBody sBestWays) (defScope sBestWays) .none kVBW dcBW pmBW anBW cdBW ctBW), slBW⟩)
    (cBW : PySem.W.codeIn K cdBW "best_ways" = true)
    (kBW : PySem.W.keepIn K (.ref fBW) = true)
    (aWT : PySem.W.nsIn K mainGlobals "way_to" = some (some (.ref fWT)))
    (lWT : K.lookup fWT = some ⟨ocWT, odWT, .func (PySem.W.fnOf "way_to" "way_to" (defArgs sWayTo) (defBody sWayTo) (defScope sWayTo) .none kVWT dcWT pmWT anWT cdWT ctWT), slWT⟩)
    (cWT : PySem.W.codeIn K cdWT "way_to" = true)
    (kWT : PySem.W.keepIn K (.ref fWT) = true)
    (aLE : PySem.W.nsIn K mainGlobals "led" = some (some (.ref fLE)))
    (lLE : K.lookup fLE = some ⟨ocLE, odLE, .func (PySem.W.fnOf "led" "led" (defArgs sLed) (defBody sLed) (defScope sLed) .none kVLE dcLE pmLE anLE cdLE ctLE), slLE⟩)
    (cLE : PySem.W.codeIn K cdLE "led" = true)
    (kLE : PySem.W.keepIn K (.ref fLE) = true)
    (aCV : PySem.W.nsIn K mainGlobals "check_alive" = some (some (.ref fCV)))
    (lCV : K.lookup fCV = some ⟨ocCV, odCV, .func (PySem.W.fnOf "check_alive" "check_alive" (defArgs sCheckAlive) (defBody sCheckAlive) (defScope sCheckAlive) .none kVCV dcCV pmCV anCV cdCV ctCV), slCV⟩)
    (cCV : PySem.W.codeIn K cdCV "check_alive" = true)
    (kCV : PySem.W.keepIn K (.ref fCV) = true)
    (aCL : PySem.W.nsIn K mainGlobals "check_leads" = some (some (.ref fCL)))
    (lCL : K.lookup fCL = some ⟨ocCL, odCL, .func (PySem.W.fnOf "check_leads" "check_leads" (defArgs sCheckLeads) (defBody sCheckLeads) (defScope sCheckLeads) .none kVCL dcCL pmCL anCL cdCL ctCL), slCL⟩)
    (cCL : PySem.W.codeIn K cdCL "check_leads" = true)
    (kCL : PySem.W.keepIn K (.ref fCL) = true)
    (aRD : PySem.W.nsIn K mainGlobals "read" = some (some (.ref fRD)))
    (lRD : K.lookup fRD = some ⟨ocRD, odRD, .func (PySem.W.fnOf "read" "read" (defArgs sRead) (defBody sRead) (defScope sRead) .none kVRD dcRD pmRD anRD cdRD ctRD), slRD⟩)
    (cRD : PySem.W.codeIn K cdRD "read" = true)
    (kRD : PySem.W.keepIn K (.ref fRD) = true)
    (aRN : PySem.W.nsIn K mainGlobals "read_number" = some (some (.ref fRN)))
    (lRN : K.lookup fRN = some ⟨ocRN, odRN, .func (PySem.W.fnOf "read_number" "read_number" (defArgs sReadNumber) (defBody sReadNumber) (defScope sReadNumber) .none kVRN dcRN pmRN anRN (.ref xRN) ctRN), slRN⟩)
    (cRN : PySem.W.codeIn K (.ref xRN) "read_number" = true)
    (kRN : PySem.W.keepIn K (.ref fRN) = true)
    (aAN : PySem.W.nsIn K mainGlobals "answer" = some (some (.ref fAN)))
    (lAN : K.lookup fAN = some ⟨ocAN, odAN, .func (PySem.W.fnOf "answer" "answer" (defArgs sAnswer) (defBody sAnswer) (defScope sAnswer) .none kVAN dcAN pmAN anAN cdAN ctAN), slAN⟩)
    (cAN : PySem.W.codeIn K cdAN "answer" = true)
    (kAN : PySem.W.keepIn K (.ref fAN) = true)
    (aPY : PySem.W.nsIn K mainGlobals "played" = some (some (.ref fPY)))
    (lPY : K.lookup fPY = some ⟨ocPY, odPY, .func (PySem.W.fnOf "played" "played" (defArgs sPlayed) (defBody sPlayed) (defScope sPlayed) .none kVPY dcPY pmPY anPY cdPY ctPY), slPY⟩)
    (cPY : PySem.W.codeIn K cdPY "played" = true)
    (kPY : PySem.W.keepIn K (.ref fPY) = true)
    (aD : PySem.W.nsIn K mainGlobals "_law_cell_at" = some (some (.ref fD)))
    (lD : K.lookup fD = some ⟨ocD, odD, .func (PySem.W.fnOf "_law_cell_at" "_law_cell_at" (defArgs sCellAt) (defBody sCellAt) (defScope sCellAt) .none kVD dcD pmD anD cdD ctD), slD⟩)
    (cD : PySem.W.codeIn K cdD "_law_cell_at" = true)
    (kD : PySem.W.keepIn K (.ref fD) = true)
    (aZ5 : PySem.W.nsIn K mainGlobals "_law_deed_by" = some (some (.ref fZ5)))
    (lZ5 : K.lookup fZ5 = some ⟨ocZ5, odZ5, .func (PySem.W.fnOf "_law_deed_by" "_law_deed_by" (defArgs sDeedBy) (defBody sDeedBy) (defScope sDeedBy) .none kVZ5 dcZ5 pmZ5 anZ5 cdZ5 ctZ5), slZ5⟩)
    (cZ5 : PySem.W.codeIn K cdZ5 "_law_deed_by" = true)
    (kZ5 : PySem.W.keepIn K (.ref fZ5) = true)
    (aZ4 : PySem.W.nsIn K mainGlobals "_law_done" = some (some (.ref fZ4)))
    (lZ4 : K.lookup fZ4 = some ⟨ocZ4, odZ4, .func (PySem.W.fnOf "_law_done" "_law_done" (defArgs sDone) (defBody sDone) (defScope sDone) .none kVZ4 dcZ4 pmZ4 anZ4 cdZ4 ctZ4), slZ4⟩)
    (cZ4 : PySem.W.codeIn K cdZ4 "_law_done" = true)
    (kZ4 : PySem.W.keepIn K (.ref fZ4) = true)
    (aZ1 : PySem.W.nsIn K mainGlobals "_law_ring" = some (some (.ref fZ1)))
    (lZ1 : K.lookup fZ1 = some ⟨ocZ1, odZ1, .func (PySem.W.fnOf "_law_ring" "_law_ring" (defArgs sRing) (defBody sRing) (defScope sRing) .none kVZ1 dcZ1 pmZ1 anZ1 cdZ1 ctZ1), slZ1⟩)
    (cZ1 : PySem.W.codeIn K cdZ1 "_law_ring" = true)
    (kZ1 : PySem.W.keepIn K (.ref fZ1) = true)
    (aZ2 : PySem.W.nsIn K mainGlobals "_law_star" = some (some (.ref fZ2)))
    (lZ2 : K.lookup fZ2 = some ⟨ocZ2, odZ2, .func (PySem.W.fnOf "_law_star" "_law_star" (defArgs sStar) (defBody sStar) (defScope sStar) .none kVZ2 dcZ2 pmZ2 anZ2 cdZ2 ctZ2), slZ2⟩)
    (cZ2 : PySem.W.codeIn K cdZ2 "_law_star" = true)
    (kZ2 : PySem.W.keepIn K (.ref fZ2) = true)
    (aZ3 : PySem.W.nsIn K mainGlobals "_law_begun" = some (some (.ref fZ3)))
    (lZ3 : K.lookup fZ3 = some ⟨ocZ3, odZ3, .func (PySem.W.fnOf "_law_begun" "_law_begun" (defArgs sBegun) (defBody sBegun) (defScope sBegun) .none kVZ3 dcZ3 pmZ3 anZ3 cdZ3 ctZ3), slZ3⟩)
    (cZ3 : PySem.W.codeIn K cdZ3 "_law_begun" = true)
    (kZ3 : PySem.W.keepIn K (.ref fZ3) = true)
    (aS1 : PySem.W.nsIn K mainGlobals "_law_seen" = some (some (.ref fS1)))
    (lS1 : K.lookup fS1 = some ⟨ocS1, odS1, .func (PySem.W.fnOf "_law_seen" "_law_seen" (defArgs sSeen) (defBody sSeen) (defScope sSeen) .none kVS1 dcS1 pmS1 anS1 cdS1 ctS1), slS1⟩)
    (cS1 : PySem.W.codeIn K cdS1 "_law_seen" = true)
    (kS1 : PySem.W.keepIn K (.ref fS1) = true)
    (aS2 : PySem.W.nsIn K mainGlobals "_law_word_of" = some (some (.ref fS2)))
    (lS2 : K.lookup fS2 = some ⟨ocS2, odS2, .func (PySem.W.fnOf "_law_word_of" "_law_word_of" (defArgs sWordOf) (defBody sWordOf) (defScope sWordOf) .none kVS2 dcS2 pmS2 anS2 cdS2 ctS2), slS2⟩)
    (cS2 : PySem.W.codeIn K cdS2 "_law_word_of" = true)
    (kS2 : PySem.W.keepIn K (.ref fS2) = true)
    (aS3 : PySem.W.nsIn K mainGlobals "_law_hand_wrong" = some (some (.ref fS3)))
    (lS3 : K.lookup fS3 = some ⟨ocS3, odS3, .func (PySem.W.fnOf "_law_hand_wrong" "_law_hand_wrong" (defArgs sHandWrong) (defBody sHandWrong) (defScope sHandWrong) .none kVS3 dcS3 pmS3 anS3 cdS3 ctS3), slS3⟩)
    (cS3 : PySem.W.codeIn K cdS3 "_law_hand_wrong" = true)
    (kS3 : PySem.W.keepIn K (.ref fS3) = true)
    (aS4 : PySem.W.nsIn K mainGlobals "_law_slot_due" = some (some (.ref fS4)))
    (lS4 : K.lookup fS4 = some ⟨ocS4, odS4, .func (PySem.W.fnOf "_law_slot_due" "_law_slot_due" (defArgs sSlotDue) (defBody sSlotDue) (defScope sSlotDue) .none kVS4 dcS4 pmS4 anS4 cdS4 ctS4), slS4⟩)
    (cS4 : PySem.W.codeIn K cdS4 "_law_slot_due" = true)
    (kS4 : PySem.W.keepIn K (.ref fS4) = true)
    (aS5 : PySem.W.nsIn K mainGlobals "_law_led_due" = some (some (.ref fS5)))
    (lS5 : K.lookup fS5 = some ⟨ocS5, odS5, .func (PySem.W.fnOf "_law_led_due" "_law_led_due" (defArgs sLedDue) (defBody sLedDue) (defScope sLedDue) .none kVS5 dcS5 pmS5 anS5 cdS5 ctS5), slS5⟩)
    (cS5 : PySem.W.codeIn K cdS5 "_law_led_due" = true)
    (kS5 : PySem.W.keepIn K (.ref fS5) = true)
    (aS6 : PySem.W.nsIn K mainGlobals "_law_due" = some (some (.ref fS6)))
    (lS6 : K.lookup fS6 = some ⟨ocS6, odS6, .func (PySem.W.fnOf "_law_due" "_law_due" (defArgs sDue) (defBody sDue) (defScope sDue) .none kVS6 dcS6 pmS6 anS6 cdS6 ctS6), slS6⟩)
    (cS6 : PySem.W.codeIn K cdS6 "_law_due" = true)
    (kS6 : PySem.W.keepIn K (.ref fS6) = true)
    (aS7 : PySem.W.nsIn K mainGlobals "_law_filled" = some (some (.ref fS7)))
    (lS7 : K.lookup fS7 = some ⟨ocS7, odS7, .func (PySem.W.fnOf "_law_filled" "_law_filled" (defArgs sFilled) (defBody sFilled) (defScope sFilled) .none kVS7 dcS7 pmS7 anS7 cdS7 ctS7), slS7⟩)
    (cS7 : PySem.W.codeIn K cdS7 "_law_filled" = true)
    (kS7 : PySem.W.keepIn K (.ref fS7) = true)
    (aS8 : PySem.W.nsIn K mainGlobals "_law_full_told" = some (some (.ref fS8)))
    (lS8 : K.lookup fS8 = some ⟨ocS8, odS8, .func (PySem.W.fnOf "_law_full_told" "_law_full_told" (defArgs sFullTold) (defBody sFullTold) (defScope sFullTold) .none kVS8 dcS8 pmS8 anS8 cdS8 ctS8), slS8⟩)
    (cS8 : PySem.W.codeIn K cdS8 "_law_full_told" = true)
    (kS8 : PySem.W.keepIn K (.ref fS8) = true)
    (aS9 : PySem.W.nsIn K mainGlobals "_law_full_by" = some (some (.ref fS9)))
    (lS9 : K.lookup fS9 = some ⟨ocS9, odS9, .func (PySem.W.fnOf "_law_full_by" "_law_full_by" (defArgs sFullBy) (defBody sFullBy) (defScope sFullBy) .none kVS9 dcS9 pmS9 anS9 cdS9 ctS9), slS9⟩)
    (cS9 : PySem.W.codeIn K cdS9 "_law_full_by" = true)
    (kS9 : PySem.W.keepIn K (.ref fS9) = true)
    (aSA : PySem.W.nsIn K mainGlobals "_law_number_by" = some (some (.ref fSA)))
    (lSA : K.lookup fSA = some ⟨ocSA, odSA, .func (PySem.W.fnOf "_law_number_by" "_law_number_by" (defArgs sNumberBy) (defBody sNumberBy) (defScope sNumberBy) .none kVSA dcSA pmSA anSA cdSA ctSA), slSA⟩)
    (cSA : PySem.W.codeIn K cdSA "_law_number_by" = true)
    (kSA : PySem.W.keepIn K (.ref fSA) = true)
    (aSB : PySem.W.nsIn K mainGlobals "_law_asked" = some (some (.ref fSB)))
    (lSB : K.lookup fSB = some ⟨ocSB, odSB, .func (PySem.W.fnOf "_law_asked" "_law_asked" (defArgs sAsked) (defBody sAsked) (defScope sAsked) .none kVSB dcSB pmSB anSB cdSB ctSB), slSB⟩)
    (cSB : PySem.W.codeIn K cdSB "_law_asked" = true)
    (kSB : PySem.W.keepIn K (.ref fSB) = true)
    (aSC : PySem.W.nsIn K mainGlobals "_law_good" = some (some (.ref fSC)))
    (lSC : K.lookup fSC = some ⟨ocSC, odSC, .func (PySem.W.fnOf "_law_good" "_law_good" (defArgs sGood) (defBody sGood) (defScope sGood) .none kVSC dcSC pmSC anSC cdSC ctSC), slSC⟩)
    (cSC : PySem.W.codeIn K cdSC "_law_good" = true)
    (kSC : PySem.W.keepIn K (.ref fSC) = true)
    (aZ : PySem.W.nsIn K mainGlobals "law" = some (some (.ref fZ)))
    (lZ : K.lookup fZ = some ⟨ocZ, odZ, .func (PySem.W.fnOf "law" "law" (defArgs sLaw) (defBody sLaw) (defScope sLaw) .none kVZ dcZ pmZ anZ cdZ ctZ), slZ⟩)
    (cZ : PySem.W.codeIn K cdZ "law" = true)
    (kZ : PySem.W.keepIn K (.ref fZ) = true)
    (pgB : PySem.W.plainGet K B Str.empty = true)
    (hdB : PySem.W.hasDictIn K B = true)
    (poB : PySem.W.plainOver K B = true)
    (saB : PySem.W.findIn K (.ref B) "__setattr__" = some (some (.builtin "object.__setattr__")))
    (mkB : PySem.W.makesIn K B = true)
    (kcB : PySem.W.keepIn K (.ref B) = true)
    (nBslots : PySem.W.findIn K (.ref B) "slots" = some none)
    (nBweight : PySem.W.findIn K (.ref B) "weight" = some none)
    (nBsuspect : PySem.W.findIn K (.ref B) "suspect" = some none)
    (pgC : PySem.W.plainGet K C Str.empty = true)
    (hdC : PySem.W.hasDictIn K C = true)
    (poC : PySem.W.plainOver K C = true)
    (saC : PySem.W.findIn K (.ref C) "__setattr__" = some (some (.builtin "object.__setattr__")))
    (mkC : PySem.W.makesIn K C = true)
    (kcC : PySem.W.keepIn K (.ref C) = true)
    (nChands : PySem.W.findIn K (.ref C) "_hands" = some none)
    (nCboxes : PySem.W.findIn K (.ref C) "_boxes" = some none)
    (nCmade : PySem.W.findIn K (.ref C) "_made" = some none)
    (xeH : PySem.W.excIn K eH [.type "ValueError", .type "Exception", .type "BaseException", .type "object"] "ValueError.__new__" = true)
    (keeH : PySem.W.keepIn K (.ref eH) = true)
    (beH : PySem.W.subIn K (.ref eH) (.type "BaseException") = some true)
    (tyeH : PySem.W.typeIn K (.ref eH) = some (.type "type"))
    (xeS : PySem.W.excIn K eS [.type "ValueError", .type "Exception", .type "BaseException", .type "object"] "ValueError.__new__" = true)
    (keeS : PySem.W.keepIn K (.ref eS) = true)
    (beS : PySem.W.subIn K (.ref eS) (.type "BaseException") = some true)
    (tyeS : PySem.W.typeIn K (.ref eS) = some (.type "type"))
    (xeF : PySem.W.excIn K eF [.type "ValueError", .type "Exception", .type "BaseException", .type "object"] "ValueError.__new__" = true)
    (keeF : PySem.W.keepIn K (.ref eF) = true)
    (beF : PySem.W.subIn K (.ref eF) (.type "BaseException") = some true)
    (tyeF : PySem.W.typeIn K (.ref eF) = some (.type "type"))
    (xeB : PySem.W.excIn K eB [.type "ValueError", .type "Exception", .type "BaseException", .type "object"] "ValueError.__new__" = true)
    (keeB : PySem.W.keepIn K (.ref eB) = true)
    (beB : PySem.W.subIn K (.ref eB) (.type "BaseException") = some true)
    (tyeB : PySem.W.typeIn K (.ref eB) = some (.type "type"))
    (xeL : PySem.W.excIn K eL [.type "ValueError", .type "Exception", .type "BaseException", .type "object"] "ValueError.__new__" = true)
    (keeL : PySem.W.keepIn K (.ref eL) = true)
    (beL : PySem.W.subIn K (.ref eL) (.type "BaseException") = some true)
    (tyeL : PySem.W.typeIn K (.ref eL) = some (.type "type"))
    (xeD : PySem.W.excIn K eD [.type "ValueError", .type "Exception", .type "BaseException", .type "object"] "ValueError.__new__" = true)
    (keeD : PySem.W.keepIn K (.ref eD) = true)
    (beD : PySem.W.subIn K (.ref eD) (.type "BaseException") = some true)
    (tyeD : PySem.W.typeIn K (.ref eD) = some (.type "type"))
    (xeP : PySem.W.excIn K eP [.type "ValueError", .type "Exception", .type "BaseException", .type "object"] "ValueError.__new__" = true)
    (keeP : PySem.W.keepIn K (.ref eP) = true)
    (beP : PySem.W.subIn K (.ref eP) (.type "BaseException") = some true)
    (tyeP : PySem.W.typeIn K (.ref eP) = some (.type "type"))
    (iseB : PySem.W.isClsIn K eB = true)
    (iseD : PySem.W.isClsIn K eD = true)
    (iseF : PySem.W.isClsIn K eF = true)
    (iseH : PySem.W.isClsIn K eH = true)
    (iseL : PySem.W.isClsIn K eL = true)
    (iseP : PySem.W.isClsIn K eP = true)
    (iseS : PySem.W.isClsIn K eS = true)
    (sueHeP : PySem.W.subIn K (.ref eH) (.ref eP) = some true)
    (sueSeP : PySem.W.subIn K (.ref eS) (.ref eP) = some true)
    (sueFeP : PySem.W.subIn K (.ref eF) (.ref eP) = some true)
    (sueBeP : PySem.W.subIn K (.ref eB) (.ref eP) = some true)
    (sueLeP : PySem.W.subIn K (.ref eL) (.ref eP) = some true)
    (sueHeH : PySem.W.subIn K (.ref eH) (.ref eH) = some true)
    (sueHeS : PySem.W.subIn K (.ref eH) (.ref eS) = some false)
    (sueHeF : PySem.W.subIn K (.ref eH) (.ref eF) = some false)
    (sueHeB : PySem.W.subIn K (.ref eH) (.ref eB) = some false)
    (sueHeL : PySem.W.subIn K (.ref eH) (.ref eL) = some false)
    (sueHeD : PySem.W.subIn K (.ref eH) (.ref eD) = some false)
    (sueSeH : PySem.W.subIn K (.ref eS) (.ref eH) = some false)
    (sueSeS : PySem.W.subIn K (.ref eS) (.ref eS) = some true)
    (sueSeF : PySem.W.subIn K (.ref eS) (.ref eF) = some false)
    (sueSeB : PySem.W.subIn K (.ref eS) (.ref eB) = some false)
    (sueSeL : PySem.W.subIn K (.ref eS) (.ref eL) = some false)
    (sueSeD : PySem.W.subIn K (.ref eS) (.ref eD) = some false)
    (sueFeH : PySem.W.subIn K (.ref eF) (.ref eH) = some false)
    (sueFeS : PySem.W.subIn K (.ref eF) (.ref eS) = some false)
    (sueFeF : PySem.W.subIn K (.ref eF) (.ref eF) = some true)
    (sueFeB : PySem.W.subIn K (.ref eF) (.ref eB) = some false)
    (sueFeL : PySem.W.subIn K (.ref eF) (.ref eL) = some false)
    (sueFeD : PySem.W.subIn K (.ref eF) (.ref eD) = some false)
    (sueBeH : PySem.W.subIn K (.ref eB) (.ref eH) = some false)
    (sueBeS : PySem.W.subIn K (.ref eB) (.ref eS) = some false)
    (sueBeF : PySem.W.subIn K (.ref eB) (.ref eF) = some false)
    (sueBeB : PySem.W.subIn K (.ref eB) (.ref eB) = some true)
    (sueBeL : PySem.W.subIn K (.ref eB) (.ref eL) = some false)
    (sueBeD : PySem.W.subIn K (.ref eB) (.ref eD) = some false)
    (sueLeH : PySem.W.subIn K (.ref eL) (.ref eH) = some false)
    (sueLeS : PySem.W.subIn K (.ref eL) (.ref eS) = some false)
    (sueLeF : PySem.W.subIn K (.ref eL) (.ref eF) = some false)
    (sueLeB : PySem.W.subIn K (.ref eL) (.ref eB) = some false)
    (sueLeL : PySem.W.subIn K (.ref eL) (.ref eL) = some true)
    (sueLeD : PySem.W.subIn K (.ref eL) (.ref eD) = some false)
    (sueDeH : PySem.W.subIn K (.ref eD) (.ref eH) = some false)
    (sueDeS : PySem.W.subIn K (.ref eD) (.ref eS) = some false)
    (sueDeF : PySem.W.subIn K (.ref eD) (.ref eF) = some false)
    (sueDeB : PySem.W.subIn K (.ref eD) (.ref eB) = some false)
    (sueDeL : PySem.W.subIn K (.ref eD) (.ref eL) = some false)
    (sueDeD : PySem.W.subIn K (.ref eD) (.ref eD) = some true)
    (cnHANDS : PySem.W.nsIn K mainGlobals "HANDS" = some (some (.int 8 tHANDS)))
    (cnMOST_SLOTS : PySem.W.nsIn K mainGlobals "MOST_SLOTS" = some (some (.int 6 tMOST_SLOTS)))
    (cnMOST_ALIVE : PySem.W.nsIn K mainGlobals "MOST_ALIVE" = some (some (.int 60 tMOST_ALIVE)))
    (zisinstance : PySem.W.nsIn K mainGlobals "isinstance" = some none)
    (zint : PySem.W.nsIn K mainGlobals "int" = some none)
    (zbool : PySem.W.nsIn K mainGlobals "bool" = some none)
    (zlist : PySem.W.nsIn K mainGlobals "list" = some none)
    (zlen : PySem.W.nsIn K mainGlobals "len" = some none)
    (zrange : PySem.W.nsIn K mainGlobals "range" = some none)
    (zmin : PySem.W.nsIn K mainGlobals "min" = some none)
    (zsorted : PySem.W.nsIn K mainGlobals "sorted" = some none)
    (zset : PySem.W.nsIn K mainGlobals "set" = some none)
    (zenumerate : PySem.W.nsIn K mainGlobals "enumerate" = some none)
    (zall : PySem.W.nsIn K mainGlobals "all" = some none)
    (zstr : PySem.W.nsIn K mainGlobals "str" = some none)
    (ztuple : PySem.W.nsIn K mainGlobals "tuple" = some none)
    (zmax : PySem.W.nsIn K mainGlobals "max" = some none)
    (zValueError : PySem.W.nsIn K mainGlobals "ValueError" = some none)
    (hgeH : PySem.W.findIn K (.ref eH) "__getattribute__" = some (some (.builtin "BaseException.__getattribute__")))
    (hkeH : PySem.W.findIn K (.ref eH) "__getattr__" = some none)
    (hdeH : PySem.W.hasDictIn K eH = true)
    (haeH : PySem.W.findIn K (.ref eH) "__class__" = some (some (.builtin "object.__class__")))
    (hmeH : PySem.W.mroIn K eH (.type "object") = some true)
    (kveH : PySem.W.kitOne K (.ref eH) (.type "ValueError") = some true)
    (hgeS : PySem.W.findIn K (.ref eS) "__getattribute__" = some (some (.builtin "BaseException.__getattribute__")))
    (hkeS : PySem.W.findIn K (.ref eS) "__getattr__" = some none)
    (hdeS : PySem.W.hasDictIn K eS = true)
    (haeS : PySem.W.findIn K (.ref eS) "__class__" = some (some (.builtin "object.__class__")))
    (hmeS : PySem.W.mroIn K eS (.type "object") = some true)
    (kveS : PySem.W.kitOne K (.ref eS) (.type "ValueError") = some true)
    (hgeF : PySem.W.findIn K (.ref eF) "__getattribute__" = some (some (.builtin "BaseException.__getattribute__")))
    (hkeF : PySem.W.findIn K (.ref eF) "__getattr__" = some none)
    (hdeF : PySem.W.hasDictIn K eF = true)
    (haeF : PySem.W.findIn K (.ref eF) "__class__" = some (some (.builtin "object.__class__")))
    (hmeF : PySem.W.mroIn K eF (.type "object") = some true)
    (kveF : PySem.W.kitOne K (.ref eF) (.type "ValueError") = some true)
    (hgeB : PySem.W.findIn K (.ref eB) "__getattribute__" = some (some (.builtin "BaseException.__getattribute__")))
    (hkeB : PySem.W.findIn K (.ref eB) "__getattr__" = some none)
    (hdeB : PySem.W.hasDictIn K eB = true)
    (haeB : PySem.W.findIn K (.ref eB) "__class__" = some (some (.builtin "object.__class__")))
    (hmeB : PySem.W.mroIn K eB (.type "object") = some true)
    (kveB : PySem.W.kitOne K (.ref eB) (.type "ValueError") = some true)
    (hgeL : PySem.W.findIn K (.ref eL) "__getattribute__" = some (some (.builtin "BaseException.__getattribute__")))
    (hkeL : PySem.W.findIn K (.ref eL) "__getattr__" = some none)
    (hdeL : PySem.W.hasDictIn K eL = true)
    (haeL : PySem.W.findIn K (.ref eL) "__class__" = some (some (.builtin "object.__class__")))
    (hmeL : PySem.W.mroIn K eL (.type "object") = some true)
    (kveL : PySem.W.kitOne K (.ref eL) (.type "ValueError") = some true)
    (hn : PySem.W.specialIn K (.builtin "object.__class__") "__get__" = some (some (.builtin "getset_descriptor.__get__")))
    (ht : PySem.W.takesIn K (.builtin "object.__class__") = some true)
    (vcl : K.lookup xRN = some ⟨vc, odc, .fields vsc, slc⟩)
    (vPt : vsc[11]? = some (.ref Pt))
    (vNo : K.lookup Pt = none)
    (cnF : PySem.W.nsIn K mainGlobals "FIGURES" = some (some (.str "0123456789" tF)))
    (cnM : PySem.W.nsIn K mainGlobals "MOST_FIGURES" = some (some (.int 60 tM)))
    (aWD : PySem.W.nsIn K mainGlobals "WORDS" = some (some (.ref dW0)))
    (lWD : K.lookup dW0 = some ⟨.type "dict", none, .dict esW nW, #[]⟩)
    (wW : WordsAt w.params esW.toList)
    (loW : (dW0 == sysModules) = false)
    : ∃ (fd : FuncData) (c Pt : Addr), PySem.W.tabIn K "read_number" = some (c, Pt) ∧ K.lookup Pt = none ∧ (∀ (s : Shared) (u : Value), BindsTo s fd ⟨[u], []⟩ [("_law_script", u)]) ∧
        ∀ base : Heap, K.In base → base.Ns mainGlobals mg → GxR.TabB base mg c Pt → FnOk l.prog w K mg base CX0 11 fa fd ["_law_script"] (spLawT K Pt) := by
  have e := hfa.symm.trans (PySem.W.mg_of X G aZ)
  cases e
  have FI := fun_mk (st := sInit) lI cI kI
  have bI := FI.binds (ps := ["self"]) fun _ _ _ _ _ _ us hl => match us, hl with | [_], _ => rfl
  have FM := fun_mk (st := sMake) lM cM kM
  have bM := FM.binds (ps := ["self", "hand", "size"]) fun _ _ _ _ _ _ us hl => match us, hl with | [_, _, _], _ => rfl
  have FO := fun_mk (st := sHold) lO cO kO
  have bO := FO.binds (ps := ["self", "hand", "other"]) fun _ _ _ _ _ _ us hl => match us, hl with | [_, _, _], _ => rfl
  have FR := fun_mk (st := sDrop) lR cR kR
  have bR := FR.binds (ps := ["self", "hand"]) fun _ _ _ _ _ _ us hl => match us, hl with | [_, _], _ => rfl
  have FU := fun_mk (st := sPut) lU cU kU
  have bU := FU.binds (ps := ["self", "hand", "slot", "other"]) fun _ _ _ _ _ _ us hl => match us, hl with | [_, _, _, _], _ => rfl
  have FE := fun_mk (st := sEmpty) lE cE kE
  have bE := FE.binds (ps := ["self", "hand", "slot"]) fun _ _ _ _ _ _ us hl => match us, hl with | [_, _, _], _ => rfl
  have FQ := fun_mk (st := sTake) lQ cQ kQ
  have bQ := FQ.binds (ps := ["self", "hand", "other", "slot"]) fun _ _ _ _ _ _ us hl => match us, hl with | [_, _, _, _], _ => rfl
  have FH := fun_mk (st := sHolds) lH cH kH
  have bH := FH.binds (ps := ["self", "hand"]) fun _ _ _ _ _ _ us hl => match us, hl with | [_, _], _ => rfl
  have FT := fun_mk (st := sPoints) lT cT kT
  have bT := FT.binds (ps := ["self", "number"]) fun _ _ _ _ _ _ us hl => match us, hl with | [_, _], _ => rfl
  have FG := fun_mk (st := sWeighs) lG cG kG
  have bG := FG.binds (ps := ["self", "number"]) fun _ _ _ _ _ _ us hl => match us, hl with | [_, _], _ => rfl
  have FA := fun_mk (st := sAlive) lA cA kA
  have bA := FA.binds (ps := ["self"]) fun _ _ _ _ _ _ us hl => match us, hl with | [_], _ => rfl
  have FS := fun_mk (st := sSuspects) lS cS kS
  have bS := FS.binds (ps := ["self"]) fun _ _ _ _ _ _ us hl => match us, hl with | [_], _ => rfl
  have FX := fun_mk (st := sBox) lX cX kX
  have bX := FX.binds (ps := ["self", "number"]) fun _ _ _ _ _ _ us hl => match us, hl with | [_, _], _ => rfl
  have FY := fun_mk (st := sSlotsWith) lY cY kY
  have bY := FY.binds (ps := ["self", "hand", "slot"]) fun _ _ _ _ _ _ us hl => match us, hl with | [_, _, _], _ => rfl
  have FP := fun_mk (st := sPoint) lP cP kP
  have bP := FP.binds (ps := ["self", "pointers", "at", "number"]) fun _ _ _ _ _ _ us hl => match us, hl with | [_, _, _, _], _ => rfl
  have FL := fun_mk (st := sLetGo) lL cL kL
  have bL := FL.binds (ps := ["self", "pointer"]) fun _ _ _ _ _ _ us hl => match us, hl with | [_, _], _ => rfl
  have FB := fun_mk (st := sBoxInit) lB cB kB
  have bB := FB.binds (ps := ["self", "size"]) fun _ _ _ _ _ _ us hl => match us, hl with | [_, _], _ => rfl
  have FK := fun_mk (st := sCheck) lK cK kK
  have bK := FK.binds (ps := ["hand"]) fun _ _ _ _ _ _ us hl => match us, hl with | [_], _ => rfl
  have FCS := fun_mk (st := sCheckSlot) lCS cCS kCS
  have bCS := FCS.binds (ps := ["slots", "slot"]) fun _ _ _ _ _ _ us hl => match us, hl with | [_, _], _ => rfl
  have FCA := fun_mk (st := sClear) lCA cCA kCA
  have bCA := FCA.binds (ps := ["self", "numbers"]) fun _ _ _ _ _ _ us hl => match us, hl with | [_, _], _ => rfl
  have FPA := fun_mk (st := sPointedAt) lPA cPA kPA
  have bPA := FPA.binds (ps := ["pile", "number"]) fun _ _ _ _ _ _ us hl => match us, hl with | [_, _], _ => rfl
  have FRE := fun_mk (st := sReached) lRE cRE kRE
  have bRE := FRE.binds (ps := ["pile", "numbers"]) fun _ _ _ _ _ _ us hl => match us, hl with | [_, _], _ => rfl
  have FTR := fun_mk (st := sTrials) lTR cTR kTR
  have bTR := FTR.binds (ps := ["pile"]) fun _ _ _ _ _ _ us hl => match us, hl with | [_], _ => rfl
  have FTY := fun_mk (st := sTidy) lTY cTY kTY
  have bTY := FTY.binds (ps := ["pile"]) fun _ _ _ _ _ _ us hl => match us, hl with | [_], _ => rfl
  have FDO := fun_mk (st := sDoneP) lDO cDO kDO
  have bDO := FDO.binds (ps := ["pile", "deed"]) fun _ _ _ _ _ _ us hl => match us, hl with | [_, _], _ => rfl
  have FBW := fun_mk (st := sBestWays) lBW cBW kBW
  have bBW := FBW.binds (ps := ["pile"]) fun _ _ _ _ _ _ us hl => match us, hl with | [_], _ => rfl
  have FWT := fun_mk (st := sWayTo) lWT cWT kWT
  have bWT := FWT.binds (ps := ["pile", "number"]) fun _ _ _ _ _ _ us hl => match us, hl with | [_, _], _ => rfl
  have FLE := fun_mk (st := sLed) lLE cLE kLE
  have bLE := FLE.binds (ps := ["pile", "way"]) fun _ _ _ _ _ _ us hl => match us, hl with | [_, _], _ => rfl
  have FCV := fun_mk (st := sCheckAlive) lCV cCV kCV
  have bCV := FCV.binds (ps := ["pile", "number"]) fun _ _ _ _ _ _ us hl => match us, hl with | [_, _], _ => rfl
  have FCL := fun_mk (st := sCheckLeads) lCL cCL kCL
  have bCL := FCL.binds (ps := ["number"]) fun _ _ _ _ _ _ us hl => match us, hl with | [_], _ => rfl
  have FRD := fun_mk (st := sRead) lRD cRD kRD
  have bRD := FRD.binds (ps := ["line"]) fun _ _ _ _ _ _ us hl => match us, hl with | [_], _ => rfl
  have FRN := fun_mk (st := sReadNumber) lRN cRN kRN
  have bRN := FRN.binds (ps := ["part"]) fun _ _ _ _ _ _ us hl => match us, hl with | [_], _ => rfl
  have FAN := fun_mk (st := sAnswer) lAN cAN kAN
  have bAN := FAN.binds (ps := ["pile", "line"]) fun _ _ _ _ _ _ us hl => match us, hl with | [_, _], _ => rfl
  have FPY := fun_mk (st := sPlayed) lPY cPY kPY
  have bPY := FPY.binds (ps := ["lines"]) fun _ _ _ _ _ _ us hl => match us, hl with | [_], _ => rfl
  have FD := fun_mk (st := sCellAt) lD cD kD
  have bD := FD.binds (ps := ["_law_script", "_law_k"]) fun _ _ _ _ _ _ us hl => match us, hl with | [_, _], _ => rfl
  have FZ5 := fun_mk (st := sDeedBy) lZ5 cZ5 kZ5
  have bZ5 := FZ5.binds (ps := ["_law_one", "_law_two", "_law_few"]) fun _ _ _ _ _ _ us hl => match us, hl with | [_, _, _], _ => rfl
  have FZ4 := fun_mk (st := sDone) lZ4 cZ4 kZ4
  have bZ4 := FZ4.binds (ps := ["_law_pile", "_law_deed"]) fun _ _ _ _ _ _ us hl => match us, hl with | [_, _], _ => rfl
  have FZ1 := fun_mk (st := sRing) lZ1 cZ1 kZ1
  have bZ1 := FZ1.binds (ps := ["_law_pile", "_law_many", "_law_closed"]) fun _ _ _ _ _ _ us hl => match us, hl with | [_, _, _], _ => rfl
  have FZ2 := fun_mk (st := sStar) lZ2 cZ2 kZ2
  have bZ2 := FZ2.binds (ps := ["_law_pile", "_law_many", "_law_closed"]) fun _ _ _ _ _ _ us hl => match us, hl with | [_, _, _], _ => rfl
  have FZ3 := fun_mk (st := sBegun) lZ3 cZ3 kZ3
  have bZ3 := FZ3.binds (ps := ["_law_pile", "_law_script"]) fun _ _ _ _ _ _ us hl => match us, hl with | [_, _], _ => rfl
  have FS1 := fun_mk (st := sSeen) lS1 cS1 kS1
  have bS1 := FS1.binds (ps := ["_law_pile"]) fun _ _ _ _ _ _ us hl => match us, hl with | [_], _ => rfl
  have FS2 := fun_mk (st := sWordOf) lS2 cS2 kS2
  have bS2 := FS2.binds (ps := ["_law_pile", "_law_deed"]) fun _ _ _ _ _ _ us hl => match us, hl with | [_, _], _ => rfl
  have FS3 := fun_mk (st := sHandWrong) lS3 cS3 kS3
  have bS3 := FS3.binds (ps := ["_law_hand"]) fun _ _ _ _ _ _ us hl => match us, hl with | [_], _ => rfl
  have FS4 := fun_mk (st := sSlotDue) lS4 cS4 kS4
  have bS4 := FS4.binds (ps := ["_law_pile", "_law_hand", "_law_slot"]) fun _ _ _ _ _ _ us hl => match us, hl with | [_, _, _], _ => rfl
  have FS5 := fun_mk (st := sLedDue) lS5 cS5 kS5
  have bS5 := FS5.binds (ps := ["_law_pile", "_law_deed"]) fun _ _ _ _ _ _ us hl => match us, hl with | [_, _], _ => rfl
  have FS6 := fun_mk (st := sDue) lS6 cS6 kS6
  have bS6 := FS6.binds (ps := ["_law_pile", "_law_deed"]) fun _ _ _ _ _ _ us hl => match us, hl with | [_, _], _ => rfl
  have FS7 := fun_mk (st := sFilled) lS7 cS7 kS7
  have bS7 := FS7.binds (ps := ["_law_pile"]) fun _ _ _ _ _ _ us hl => match us, hl with | [_], _ => rfl
  have FS8 := fun_mk (st := sFullTold) lS8 cS8 kS8
  have bS8 := FS8.binds (ps := []) fun _ _ _ _ _ _ us hl => match us, hl with | [], _ => rfl
  have FS9 := fun_mk (st := sFullBy) lS9 cS9 kS9
  have bS9 := FS9.binds (ps := ["_law_pile"]) fun _ _ _ _ _ _ us hl => match us, hl with | [_], _ => rfl
  have FSA := fun_mk (st := sNumberBy) lSA cSA kSA
  have bSA := FSA.binds (ps := ["_law_cell"]) fun _ _ _ _ _ _ us hl => match us, hl with | [_], _ => rfl
  have FSB := fun_mk (st := sAsked) lSB cSB kSB
  have bSB := FSB.binds (ps := ["_law_pile", "_law_cells"]) fun _ _ _ _ _ _ us hl => match us, hl with | [_, _], _ => rfl
  have FSC := fun_mk (st := sGood) lSC cSC kSC
  have bSC := FSC.binds (ps := ["_law_pile", "_law_cells"]) fun _ _ _ _ _ _ us hl => match us, hl with | [_, _], _ => rfl
  have FZ := fun_mk (st := sLaw) lZ cZ kZ
  have T : Txt K mg C B eH eS eF eB eL := ⟨⟨pgC, hdC, poC, saC⟩, nChands, nCboxes, nCmade, ⟨pgB, hdB, poB, saB⟩, nBslots, nBweight, nBsuspect, PySem.W.mg_of X G acC, PySem.W.mg_of X G acB, PySem.W.mg_none_of X G zlen, PySem.W.mg_none_of X G zlist, PySem.W.mg_none_of X G zsorted,
    ⟨_, PySem.W.mg_of X G cnHANDS⟩, ⟨_, PySem.W.mg_of X G cnMOST_SLOTS⟩, ⟨_, PySem.W.mg_of X G cnMOST_ALIVE⟩, ⟨PySem.W.mg_of X G aeH, xeH, keeH, beH, tyeH⟩, ⟨PySem.W.mg_of X G aeS, xeS, keeS, beS, tyeS⟩, ⟨PySem.W.mg_of X G aeF, xeF, keeF, beF, tyeF⟩, ⟨PySem.W.mg_of X G aeB, xeB, keeB, beB, tyeB⟩, ⟨PySem.W.mg_of X G aeL, xeL, keeL, beL, tyeL⟩⟩
  have TL : TxtL mg := ⟨PySem.W.mg_none_of X G zisinstance, PySem.W.mg_none_of X G zint, PySem.W.mg_none_of X G zbool, PySem.W.mg_none_of X G zlist, PySem.W.mg_none_of X G zlen, PySem.W.mg_none_of X G zrange, PySem.W.mg_none_of X G zmin, PySem.W.mg_none_of X G zsorted, PySem.W.mg_none_of X G zset, PySem.W.mg_none_of X G zmax, PySem.W.mg_none_of X G ztuple, PySem.W.mg_none_of X G zstr, PySem.W.mg_none_of X G zall, PySem.W.mg_none_of X G zenumerate⟩
  have D : Defs K mg C B fI fM fO fR fU fE fQ fH fT fG fA fS fX fY fP fL fB fK fCS fCA fPA fRE fTR fTY fDO fBW fWT fLE fCV fCL fRD fRN fAN fPY fD fZ5 fZ4 fZ1 fZ2 fZ3 fS1 fS2 fS3 fS4 fS5 fS6 fS7 fS8 fS9 fSA fSB fSC _ _ _ _ _ _ _ _ _ _ _ _ _ _ _ _ _ _ _ _ _ _ _ _ _ _ _ _ _ _ _ _ _ _ _ _ _ _ _ _ _ _ _ _ _ _ _ _ _ _ _ _ := ⟨FI, bI, ⟨mkC, aI, iI, kcC⟩, FM, bM, ⟨aM, iM, kM⟩, FO, bO, ⟨aO, iO, kO⟩, FR, bR, ⟨aR, iR, kR⟩, FU, bU, ⟨aU, iU, kU⟩, FE, bE, ⟨aE, iE, kE⟩, FQ, bQ, ⟨aQ, iQ, kQ⟩, FH, bH, ⟨aH, iH, kH⟩, FT, bT, ⟨aT, iT, kT⟩, FG, bG, ⟨aG, iG, kG⟩, FA, bA, ⟨aA, iA, kA⟩, FS, bS, ⟨aS, iS, kS⟩, FX, bX, ⟨aX, iX, kX⟩, FY, bY, ⟨aY, iY, kY⟩, FP, bP, ⟨aP, iP, kP⟩, FL, bL, ⟨aL, iL, kL⟩, FB, bB, ⟨mkB, aB, iB, kcB⟩, FK, bK, PySem.W.mg_of X G aK, FCS, bCS, PySem.W.mg_of X G aCS, FCA, bCA, ⟨aCA, iCA, kCA⟩, FPA, bPA, PySem.W.mg_of X G aPA, FRE, bRE, PySem.W.mg_of X G aRE, FTR, bTR, PySem.W.mg_of X G aTR, FTY, bTY, PySem.W.mg_of X G aTY, FDO, bDO, PySem.W.mg_of X G aDO, FBW, bBW, PySem.W.mg_of X G aBW, FWT, bWT, PySem.W.mg_of X G aWT, FLE, bLE, PySem.W.mg_of X G aLE, FCV, bCV, PySem.W.mg_of X G aCV, FCL, bCL, PySem.W.mg_of X G aCL, FRD, bRD, PySem.W.mg_of X G aRD, FRN, bRN, PySem.W.mg_of X G aRN, FAN, bAN, PySem.W.mg_of X G aAN, FPY, bPY, PySem.W.mg_of X G aPY, FD, bD, PySem.W.mg_of X G aD, FZ5, bZ5, PySem.W.mg_of X G aZ5, FZ4, bZ4, PySem.W.mg_of X G aZ4, FZ1, bZ1, PySem.W.mg_of X G aZ1, FZ2, bZ2, PySem.W.mg_of X G aZ2, FZ3, bZ3, PySem.W.mg_of X G aZ3, FS1, bS1, PySem.W.mg_of X G aS1, FS2, bS2, PySem.W.mg_of X G aS2, FS3, bS3, PySem.W.mg_of X G aS3, FS4, bS4, PySem.W.mg_of X G aS4, FS5, bS5, PySem.W.mg_of X G aS5, FS6, bS6, PySem.W.mg_of X G aS6, FS7, bS7, PySem.W.mg_of X G aS7, FS8, bS8, PySem.W.mg_of X G aS8, FS9, bS9, PySem.W.mg_of X G aS9, FSA, bSA, PySem.W.mg_of X G aSA, FSB, bSB, PySem.W.mg_of X G aSB, FSC, bSC, PySem.W.mg_of X G aSC⟩
  have TP : TxtP K mg eP eH eS eF eB eL := ⟨PySem.W.mg_of X G aeP, fun e => by cases e; exact exm_sub beP tyeP iseP sueHeP; exact exm_sub beP tyeP iseP sueSeP; exact exm_sub beP tyeP iseP sueFeP; exact exm_sub beP tyeP iseP sueBeP; exact exm_sub beP tyeP iseP sueLeP⟩
  have TW : TxtW mg := ⟨PySem.W.mg_none_of X G zenumerate, PySem.W.mg_none_of X G zrange⟩
  have TN : TxtN K w mg eD dW0 := ⟨⟨PySem.W.mg_of X G aeD, xeD, keeD, beD, tyeD⟩, PySem.W.mg_none_of X G zlen, PySem.W.mg_none_of X G zall, PySem.W.mg_none_of X G zint, PySem.W.mg_none_of X G ztuple, PySem.W.mg_none_of X G zstr, ⟨_, PySem.W.mg_of X G cnF⟩, ⟨_, PySem.W.mg_of X G cnM⟩, PySem.W.mg_of X G aWD, ⟨_, _, lWD, keys_words wW, loW⟩, look_words lWD wW⟩
  have sx : ∀ a b : Option Bad, PySem.W.subIn K (.ref (cls6 eH eS eF eB eL eD a)) (.ref (cls6 eH eS eF eB eL eD b)) = some (decide (a = b)) := by
    intro a b
    rcases a with _ | a
    · rcases b with _ | b
      · exact sueDeD
      · cases b
        · exact sueDeH
        · exact sueDeS
        · exact sueDeF
        · exact sueDeB
        · exact sueDeL
    · cases a
      · rcases b with _ | b
        · exact sueHeD
        · cases b
          · exact sueHeH
          · exact sueHeS
          · exact sueHeF
          · exact sueHeB
          · exact sueHeL
      · rcases b with _ | b
        · exact sueSeD
        · cases b
          · exact sueSeH
          · exact sueSeS
          · exact sueSeF
          · exact sueSeB
          · exact sueSeL
      · rcases b with _ | b
        · exact sueFeD
        · cases b
          · exact sueFeH
          · exact sueFeS
          · exact sueFeF
          · exact sueFeB
          · exact sueFeL
      · rcases b with _ | b
        · exact sueBeD
        · cases b
          · exact sueBeH
          · exact sueBeS
          · exact sueBeF
          · exact sueBeB
          · exact sueBeL
      · rcases b with _ | b
        · exact sueLeD
        · cases b
          · exact sueLeH
          · exact sueLeS
          · exact sueLeF
          · exact sueLeB
          · exact sueLeL
  have cb : ∀ b : Option Bad, PySem.W.subIn K (.ref (cls6 eH eS eF eB eL eD b)) (.type "BaseException") = some true ∧ PySem.W.typeIn K (.ref (cls6 eH eS eF eB eL eD b)) = some (.type "type") ∧ PySem.W.isClsIn K (cls6 eH eS eF eB eL eD b) = true := by
    intro b
    rcases b with _ | b
    · exact ⟨beD, tyeD, iseD⟩
    · cases b
      · exact ⟨beH, tyeH, iseH⟩
      · exact ⟨beS, tyeS, iseS⟩
      · exact ⟨beF, tyeF, iseF⟩
      · exact ⟨beB, tyeB, iseB⟩
      · exact ⟨beL, tyeL, iseL⟩
  have TX : TxtX K eH eS eF eB eL eD := ⟨fun a b => exm_sub (cb b).1 (cb b).2.1 (cb b).2.2 (sx a b)⟩
  have TI : TxtI K mg eH eS eF eB eL eD := ⟨PySem.W.mg_none_of X G zValueError, fun b => by cases b; exact ⟨hgeH, hkeH, beH, hdeH, haeH, hn, ht, hmeH⟩; exact ⟨hgeS, hkeS, beS, hdeS, haeS, hn, ht, hmeS⟩; exact ⟨hgeF, hkeF, beF, hdeF, haeF, hn, ht, hmeF⟩; exact ⟨hgeB, hkeB, beB, hdeB, haeB, hn, ht, hmeB⟩; exact ⟨hgeL, hkeL, beL, hdeL, haeL, hn, ht, hmeL⟩, fun b c => kit_sub (cb c).2.1 (cb c).2.2 (sx (some b) c) (fun e => by
    have h1 := sx (some b) c
    have h2 := sx c c
    rw [show clsOf eH eS eF eB eL b = cls6 eH eS eF eB eL eD (some b) from rfl] at e
    rw [e, h2] at h1
    injection h1 with h1
    rw [decide_eq_true rfl] at h1
    exact h1.symm), fun b => by cases b; exact kveH; exact kveS; exact kveF; exact kveB; exact kveL⟩

  exact ⟨PySem.W.fnOf "law" "law" (defArgs sLaw) (defBody sLaw) (defScope sLaw) .none kVZ dcZ pmZ anZ cdZ ctZ, xRN, Pt, tab_in aRN lRN rfl vcl vPt, vNo, fun s v => .of_eq rfl, fun base _ _ TB => ok_law FZ T TL TN TW TP TI TX TB rfl D⟩
end BP
open PySem PySem.W PyProof.Rows
set_option maxRecDepth 100000 in
set_option maxHeartbeats 0 in
theorem PySem.Challenge.cw_boxpile_k06_refused_and_unchanged_holds : PySem.Challenge.rw_boxpile_k06_refused_and_unchanged.Holds := by
  w_on; o_law; k_head; (case hw => w_witness2)
  k_fill
  refine BP.walkT (l := PySem.Challenge.rw_boxpile_k06_refused_and_unchanged) (k := 11) rfl rfl ⟨rfl, by decide, by decide⟩ (fun w h Y => PySem.W.kIn_of Y) (by decide +kernel) ?F
  case F =>
    intro w mg fa h KX G hmg
    refine' BP.all_mk KX G hmg ?acB ?acC ?aeH ?aeS ?aeF ?aeB ?aeL ?aeD ?aeP ?aI ?iI ?lI ?cI ?kI ?aM ?iM ?lM ?cM ?kM ?aO ?iO ?lO ?cO ?kO ?aR ?iR ?lR ?cR ?kR ?aU ?iU ?lU ?cU ?kU ?aE ?iE ?lE ?cE ?kE ?aQ ?iQ ?lQ ?cQ ?kQ ?aH ?iH ?lH ?cH ?kH ?aT ?iT ?lT ?cT ?kT ?aG ?iG ?lG ?cG ?kG ?aA ?iA ?lA ?cA ?kA ?aS ?iS ?lS ?cS ?kS ?aX ?iX ?lX ?cX ?kX ?aY ?iY ?lY ?cY ?kY ?aP ?iP ?lP ?cP ?kP ?aL ?iL ?lL ?cL ?kL ?aB ?iB ?lB ?cB ?kB ?aK ?lK ?cK ?kK ?aCS ?lCS ?cCS ?kCS ?aCA ?iCA ?lCA ?cCA ?kCA ?aPA ?lPA ?cPA ?kPA ?aRE ?lRE ?cRE ?kRE ?aTR ?lTR ?cTR ?kTR ?aTY ?lTY ?cTY ?kTY ?aDO ?lDO ?cDO ?kDO ?aBW ?lBW ?cBW ?kBW ?aWT ?lWT ?cWT ?kWT ?aLE ?lLE ?cLE ?kLE ?aCV ?lCV ?cCV ?kCV ?aCL ?lCL ?cCL ?kCL ?aRD ?lRD ?cRD ?kRD ?aRN ?lRN ?cRN ?kRN ?aAN ?lAN ?cAN ?kAN ?aPY ?lPY ?cPY ?kPY ?aD ?lD ?cD ?kD ?aZ5 ?lZ5 ?cZ5 ?kZ5 ?aZ4 ?lZ4 ?cZ4 ?kZ4 ?aZ1 ?lZ1 ?cZ1 ?kZ1 ?aZ2 ?lZ2 ?cZ2 ?kZ2 ?aZ3 ?lZ3 ?cZ3 ?kZ3 ?aS1 ?lS1 ?cS1 ?kS1 ?aS2 ?lS2 ?cS2 ?kS2 ?aS3 ?lS3 ?cS3 ?kS3 ?aS4 ?lS4 ?cS4 ?kS4 ?aS5 ?lS5 ?cS5 ?kS5 ?aS6 ?lS6 ?cS6 ?kS6 ?aS7 ?lS7 ?cS7 ?kS7 ?aS8 ?lS8 ?cS8 ?kS8 ?aS9 ?lS9 ?cS9 ?kS9 ?aSA ?lSA ?cSA ?kSA ?aSB ?lSB ?cSB ?kSB ?aSC ?lSC ?cSC ?kSC ?aZ ?lZ ?cZ ?kZ ?pgB ?hdB ?poB ?saB ?mkB ?kcB ?nBslots ?nBweight ?nBsuspect ?pgC ?hdC ?poC ?saC ?mkC ?kcC ?nChands ?nCboxes ?nCmade ?xeH ?keeH ?beH ?tyeH ?xeS ?keeS ?beS ?tyeS ?xeF ?keeF ?beF ?tyeF ?xeB ?keeB ?beB ?tyeB ?xeL ?keeL ?beL ?tyeL ?xeD ?keeD ?beD ?tyeD ?xeP ?keeP ?beP ?tyeP ?iseB ?iseD ?iseF ?iseH ?iseL ?iseP ?iseS ?sueHeP ?sueSeP ?sueFeP ?sueBeP ?sueLeP ?sueHeH ?sueHeS ?sueHeF ?sueHeB ?sueHeL ?sueHeD ?sueSeH ?sueSeS ?sueSeF ?sueSeB ?sueSeL ?sueSeD ?sueFeH ?sueFeS ?sueFeF ?sueFeB ?sueFeL ?sueFeD ?sueBeH ?sueBeS ?sueBeF ?sueBeB ?sueBeL ?sueBeD ?sueLeH ?sueLeS ?sueLeF ?sueLeB ?sueLeL ?sueLeD ?sueDeH ?sueDeS ?sueDeF ?sueDeB ?sueDeL ?sueDeD ?cnHANDS ?cnMOST_SLOTS ?cnMOST_ALIVE ?zisinstance ?zint ?zbool ?zlist ?zlen ?zrange ?zmin ?zsorted ?zset ?zenumerate ?zall ?zstr ?ztuple ?zmax ?zValueError ?hgeH ?hkeH ?hdeH ?haeH ?hmeH ?kveH ?hgeS ?hkeS ?hdeS ?haeS ?hmeS ?kveS ?hgeF ?hkeF ?hdeF ?haeF ?hmeF ?kveF ?hgeB ?hkeB ?hdeB ?haeB ?hmeB ?kveB ?hgeL ?hkeL ?hdeL ?haeL ?hmeL ?kveL ?hn ?ht ?vcl ?vPt ?vNo ?cnF ?cnM ?aWD ?lWD ?wW ?loW
    (case acB => k_is)
    (case acC => k_is)
    (case aeH => k_is)
    (case aeS => k_is)
    (case aeF => k_is)
    (case aeB => k_is)
    (case aeL => k_is)
    (case aeD => k_is)
    (case aeP => k_is)
    (case aI => k_is)
    (case iI => k_is)
    (case lI => k_is)
    (case cI => k_is)
    (case kI => k_is)
    (case aM => k_is)
    (case iM => k_is)
    (case lM => k_is)
    (case cM => k_is)
    (case kM => k_is)
    (case aO => k_is)
    (case iO => k_is)
    (case lO => k_is)
    (case cO => k_is)
    (case kO => k_is)
    (case aR => k_is)
    (case iR => k_is)
    (case lR => k_is)
    (case cR => k_is)
    (case kR => k_is)
    (case aU => k_is)
    (case iU => k_is)
    (case lU => k_is)
    (case cU => k_is)
    (case kU => k_is)
    (case aE => k_is)
    (case iE => k_is)
    (case lE => k_is)
    (case cE => k_is)
    (case kE => k_is)
    (case aQ => k_is)
    (case iQ => k_is)
    (case lQ => k_is)
    (case cQ => k_is)
    (case kQ => k_is)
    (case aH => k_is)
    (case iH => k_is)
    (case lH => k_is)
    (case cH => k_is)
    (case kH => k_is)
    (case aT => k_is)
    (case iT => k_is)
    (case lT => k_is)
    (case cT => k_is)
    (case kT => k_is)
    (case aG => k_is)
    (case iG => k_is)
    (case lG => k_is)
    (case cG => k_is)
    (case kG => k_is)
    (case aA => k_is)
    (case iA => k_is)
    (case lA => k_is)
    (case cA => k_is)
    (case kA => k_is)
    (case aS => k_is)
    (case iS => k_is)
    (case lS => k_is)
    (case cS => k_is)
    (case kS => k_is)
    (case aX => k_is)
    (case iX => k_is)
    (case lX => k_is)
    (case cX => k_is)
    (case kX => k_is)
    (case aY => k_is)
    (case iY => k_is)
    (case lY => k_is)
    (case cY => k_is)
    (case kY => k_is)
    (case aP => k_is)
    (case iP => k_is)
    (case lP => k_is)
    (case cP => k_is)
    (case kP => k_is)
    (case aL => k_is)
    (case iL => k_is)
    (case lL => k_is)
    (case cL => k_is)
    (case kL => k_is)
    (case aB => k_is)
    (case iB => k_is)
    (case lB => k_is)
    (case cB => k_is)
    (case kB => k_is)
    (case aK => k_is)
    (case lK => k_is)
    (case cK => k_is)
    (case kK => k_is)
    (case aCS => k_is)
    (case lCS => k_is)
    (case cCS => k_is)
    (case kCS => k_is)
    (case aCA => k_is)
    (case iCA => k_is)
    (case lCA => k_is)
    (case cCA => k_is)
    (case kCA => k_is)
    (case aPA => k_is)
    (case lPA => k_is)
    (case cPA => k_is)
    (case kPA => k_is)
    (case aRE => k_is)
    (case lRE => k_is)
    (case cRE => k_is)
    (case kRE => k_is)
    (case aTR => k_is)
    (case lTR => k_is)
    (case cTR => k_is)
    (case kTR => k_is)
    (case aTY => k_is)
    (case lTY => k_is)
    (case cTY => k_is)
    (case kTY => k_is)
    (case aDO => k_is)
    (case lDO => k_is)
    (case cDO => k_is)
    (case kDO => k_is)
    (case aBW => k_is)
    (case lBW => k_is)
    (case cBW => k_is)
    (case kBW => k_is)
    (case aWT => k_is)
    (case lWT => k_is)
    (case cWT => k_is)
    (case kWT => k_is)
    (case aLE => k_is)
    (case lLE => k_is)
    (case cLE => k_is)
    (case kLE => k_is)
    (case aCV => k_is)
    (case lCV => k_is)
    (case cCV => k_is)
    (case kCV => k_is)
    (case aCL => k_is)
    (case lCL => k_is)
    (case cCL => k_is)
    (case kCL => k_is)
    (case aRD => k_is)
    (case lRD => k_is)
    (case cRD => k_is)
    (case kRD => k_is)
    (case aRN => k_is)
    (case lRN => k_is)
    (case cRN => k_is)
    (case kRN => k_is)
    (case aAN => k_is)
    (case lAN => k_is)
    (case cAN => k_is)
    (case kAN => k_is)
    (case aPY => k_is)
    (case lPY => k_is)
    (case cPY => k_is)
    (case kPY => k_is)
    (case aD => k_is)
    (case lD => k_is)
    (case cD => k_is)
    (case kD => k_is)
    (case aZ5 => k_is)
    (case lZ5 => k_is)
    (case cZ5 => k_is)
    (case kZ5 => k_is)
    (case aZ4 => k_is)
    (case lZ4 => k_is)
    (case cZ4 => k_is)
    (case kZ4 => k_is)
    (case aZ1 => k_is)
    (case lZ1 => k_is)
    (case cZ1 => k_is)
    (case kZ1 => k_is)
    (case aZ2 => k_is)
    (case lZ2 => k_is)
    (case cZ2 => k_is)
    (case kZ2 => k_is)
    (case aZ3 => k_is)
    (case lZ3 => k_is)
    (case cZ3 => k_is)
    (case kZ3 => k_is)
    (case aS1 => k_is)
    (case lS1 => k_is)
    (case cS1 => k_is)
    (case kS1 => k_is)
    (case aS2 => k_is)
    (case lS2 => k_is)
    (case cS2 => k_is)
    (case kS2 => k_is)
    (case aS3 => k_is)
    (case lS3 => k_is)
    (case cS3 => k_is)
    (case kS3 => k_is)
    (case aS4 => k_is)
    (case lS4 => k_is)
    (case cS4 => k_is)
    (case kS4 => k_is)
    (case aS5 => k_is)
    (case lS5 => k_is)
    (case cS5 => k_is)
    (case kS5 => k_is)
    (case aS6 => k_is)
    (case lS6 => k_is)
    (case cS6 => k_is)
    (case kS6 => k_is)
    (case aS7 => k_is)
    (case lS7 => k_is)
    (case cS7 => k_is)
    (case kS7 => k_is)
    (case aS8 => k_is)
    (case lS8 => k_is)
    (case cS8 => k_is)
    (case kS8 => k_is)
    (case aS9 => k_is)
    (case lS9 => k_is)
    (case cS9 => k_is)
    (case kS9 => k_is)
    (case aSA => k_is)
    (case lSA => k_is)
    (case cSA => k_is)
    (case kSA => k_is)
    (case aSB => k_is)
    (case lSB => k_is)
    (case cSB => k_is)
    (case kSB => k_is)
    (case aSC => k_is)
    (case lSC => k_is)
    (case cSC => k_is)
    (case kSC => k_is)
    (case aZ => k_is)
    (case lZ => k_is)
    (case cZ => k_is)
    (case kZ => k_is)
    (case pgB => k_is)
    (case hdB => k_is)
    (case poB => k_is)
    (case saB => k_is)
    (case mkB => k_is)
    (case kcB => k_is)
    (case nBslots => k_is)
    (case nBweight => k_is)
    (case nBsuspect => k_is)
    (case pgC => k_is)
    (case hdC => k_is)
    (case poC => k_is)
    (case saC => k_is)
    (case mkC => k_is)
    (case kcC => k_is)
    (case nChands => k_is)
    (case nCboxes => k_is)
    (case nCmade => k_is)
    (case xeH => first | k_is | k_exc)
    (case keeH => k_is)
    (case beH => k_is)
    (case tyeH => k_is)
    (case xeS => first | k_is | k_exc)
    (case keeS => k_is)
    (case beS => k_is)
    (case tyeS => k_is)
    (case xeF => first | k_is | k_exc)
    (case keeF => k_is)
    (case beF => k_is)
    (case tyeF => k_is)
    (case xeB => first | k_is | k_exc)
    (case keeB => k_is)
    (case beB => k_is)
    (case tyeB => k_is)
    (case xeL => first | k_is | k_exc)
    (case keeL => k_is)
    (case beL => k_is)
    (case tyeL => k_is)
    (case xeD => first | k_is | k_exc)
    (case keeD => k_is)
    (case beD => k_is)
    (case tyeD => k_is)
    (case xeP => first | k_is | k_exc)
    (case keeP => k_is)
    (case beP => k_is)
    (case tyeP => k_is)
    (case iseB => k_is)
    (case iseD => k_is)
    (case iseF => k_is)
    (case iseH => k_is)
    (case iseL => k_is)
    (case iseP => k_is)
    (case iseS => k_is)
    (case sueHeP => first | rfl | k_is)
    (case sueSeP => first | rfl | k_is)
    (case sueFeP => first | rfl | k_is)
    (case sueBeP => first | rfl | k_is)
    (case sueLeP => first | rfl | k_is)
    (case sueHeH => first | rfl | k_is)
    (case sueHeS => first | rfl | k_is)
    (case sueHeF => first | rfl | k_is)
    (case sueHeB => first | rfl | k_is)
    (case sueHeL => first | rfl | k_is)
    (case sueHeD => first | rfl | k_is)
    (case sueSeH => first | rfl | k_is)
    (case sueSeS => first | rfl | k_is)
    (case sueSeF => first | rfl | k_is)
    (case sueSeB => first | rfl | k_is)
    (case sueSeL => first | rfl | k_is)
    (case sueSeD => first | rfl | k_is)
    (case sueFeH => first | rfl | k_is)
    (case sueFeS => first | rfl | k_is)
    (case sueFeF => first | rfl | k_is)
    (case sueFeB => first | rfl | k_is)
    (case sueFeL => first | rfl | k_is)
    (case sueFeD => first | rfl | k_is)
    (case sueBeH => first | rfl | k_is)
    (case sueBeS => first | rfl | k_is)
    (case sueBeF => first | rfl | k_is)
    (case sueBeB => first | rfl | k_is)
    (case sueBeL => first | rfl | k_is)
    (case sueBeD => first | rfl | k_is)
    (case sueLeH => first | rfl | k_is)
    (case sueLeS => first | rfl | k_is)
    (case sueLeF => first | rfl | k_is)
    (case sueLeB => first | rfl | k_is)
    (case sueLeL => first | rfl | k_is)
    (case sueLeD => first | rfl | k_is)
    (case sueDeH => first | rfl | k_is)
    (case sueDeS => first | rfl | k_is)
    (case sueDeF => first | rfl | k_is)
    (case sueDeB => first | rfl | k_is)
    (case sueDeL => first | rfl | k_is)
    (case sueDeD => first | rfl | k_is)
    (case cnHANDS => k_is)
    (case cnMOST_SLOTS => k_is)
    (case cnMOST_ALIVE => k_is)
    (case zisinstance => k_is)
    (case zint => k_is)
    (case zbool => k_is)
    (case zlist => k_is)
    (case zlen => k_is)
    (case zrange => k_is)
    (case zmin => k_is)
    (case zsorted => k_is)
    (case zset => k_is)
    (case zenumerate => k_is)
    (case zall => k_is)
    (case zstr => k_is)
    (case ztuple => k_is)
    (case zmax => k_is)
    (case zValueError => k_is)
    (case hgeH => k_is)
    (case hkeH => k_is)
    (case hdeH => k_is)
    (case haeH => k_is)
    (case hmeH => first | rfl | k_is)
    (case kveH => first | rfl | k_is)
    (case hgeS => k_is)
    (case hkeS => k_is)
    (case hdeS => k_is)
    (case haeS => k_is)
    (case hmeS => first | rfl | k_is)
    (case kveS => first | rfl | k_is)
    (case hgeF => k_is)
    (case hkeF => k_is)
    (case hdeF => k_is)
    (case haeF => k_is)
    (case hmeF => first | rfl | k_is)
    (case kveF => first | rfl | k_is)
    (case hgeB => k_is)
    (case hkeB => k_is)
    (case hdeB => k_is)
    (case haeB => k_is)
    (case hmeB => first | rfl | k_is)
    (case kveB => first | rfl | k_is)
    (case hgeL => k_is)
    (case hkeL => k_is)
    (case hdeL => k_is)
    (case haeL => k_is)
    (case hmeL => first | rfl | k_is)
    (case kveL => first | rfl | k_is)
    (case hn => first | rfl | k_is)
    (case ht => first | rfl | k_is)
    (case vcl => k_is)
    (case vPt => first | rfl | k_is)
    (case vNo => first | rfl | k_is)
    (case cnF => k_is)
    (case cnM => k_is)
    (case aWD => k_is)
    (case lWD => k_is)
    (case wW => exact ⟨_, _, _, _, _, _, _, _, _, _, _, _, _, _, rfl⟩)
    (case loW => rfl)
