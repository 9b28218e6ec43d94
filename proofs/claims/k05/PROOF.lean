import PyProof.Rows.All
import Wide.All
import OpenK.AllK
import Wide.FinOn
import HandS.ForMost
import HandS.ForExc
import HandS.AnyAll
import HandS.More
import HandS.RaiseMore
import PyProof.RulesMatchSeq
import PyProof.Rows.MatchSeqLen
import PyProof.Rows.TupIter
import HandS.IsInst
import HandS.Walk
import HandS.Flow
import HandS.TryMany
import HandS.ExcIs
import HandS.Replace
import HandS.ReplaceLit
import HandS.ReplaceDef
import HandS.EndTab
import KE.KNest
import HandS.CallSlots
import HandS.JoinGen
import PySem.Challenge.RW_boxpile_k05_deeds_written
set_option Elab.async false
set_option linter.all false
set_option maxRecDepth 100000
set_option maxHeartbeats 4000000
/-! A list comprehension whose items may raise: what is raised leaves the comprehension. Own work. -/
namespace BP
open PySem PySem.Spec PyProof.Rows L2
theorem note_same {x : Value} {e1 e2 : Env} (h : e1.frame = e2.frame) : noteFrame x e1 = noteFrame x e2 := by
  unfold noteFrame PySem.frameOf
  rw [h]
/-- behind a comprehension's block: its list, or the error that is passed on in the frame fr -/
def PostF (M : Model) (A : Around) (E Q : Value → Shared → Prop) (l : Value) (C : Addr) (fr : Option Addr) : Result → Shared → Prop
  | .ok _, s => ∃ m, s.heap.Ns C m ∧ ∀ h', Heap.SameBut C s.heap h' → Q l { s with heap := h' }
  | .error x, s => ∃ m, s.heap.Ns C m ∧ ∀ h', Heap.SameBut C s.heap h' → ∀ ce : Env, ce.locals = C → ce.frame = fr →
      wpAny M A (PySem.passOn "comprehension.variables-let-go" x ce : Sem Value) (fun _ _ => False) E { s with heap := h' }
section
variable {M : Model} {A : Around} {E Q : Value → Shared → Prop} {s : Shared} {env : Env}
theorem comp_freeF {c : Expr} {sc : Scope} {ps : Pos} {mkAcc first : Sem Value} {g : Comprehension} {gs : List Comprehension} {cl : List (Str × Addr)}
    (hc : clausesOf c = g :: gs) (hfold : ∀ x, foldedSetIterable g.iter env x = pure x) (hclo : closureFor sc env = pure cl) (hk : sc.kind = .function) (hn : ∀ y ∈ sc.names, y.2 = .local → sc.names.lookup y.1 = some .local)
    (h : wpAny M A first (fun v t1 => wpAny M A (pyIter v) (fun w t2 => wpAny M A mkAcc (fun l t3 =>
      wpAny M A (newFunctionEnv sc env.globals cl [] env.qual none .none (some env))
        (fun ce t4 => codeAny M A (.compStart c 0 w l { ce with scope := relabel sc env }) (PostF M A E Q l ce.locals ce.frame) t4) E t3) E t2) E t1) E s) :
    wpAny M A (comprehension c sc env ps mkAcc false first none) Q E s := by
  have mono : ∀ {α : Type} {t : Sem α} {R R' : α → Shared → Prop} {u : Shared}, wpAny M A t R E u → (∀ a u, R a u → R' a u) → wpAny M A t R' E u := fun h k => wpAny_mono h k fun _ _ z => z
  unfold comprehension
  rw [hclo, hc]
  refine wpAny_bind (mono h fun v t1 h1 => ?_)
  refine wpAny_bind (wpAny_standAt (wpAny_bind (wpAny_of_eq (hfold v) (wpAny_bind (wpAny_holding (mono h1 fun w t2 h2 => ?_))))))
  refine wpAny_standIf (wpAny_bind (mono h2 fun l t3 h3 => ?_))
  refine wpAny_bind (wpAny_pure (wpAny_bind (mono h3 fun ce t4 h4 => ?_)))
  dsimp only
  have hv : ∀ x ∈ (sc.names.filter fun y => (y.2 == .local || y.2 == .cell) && y.1 != (".0" : Str)).reverse, x.2 = .local →
      Env.kindOf { ce with scope := relabel sc env } x.1 = some .local := fun x hx hl =>
    lookup_relabel_local (hn x (List.mem_filter.mp (List.mem_reverse.mp hx)).1 hl)
  refine wpAny_holding (wpAny_bind (wpAny_attempt (wpAny_holding (wpAny_run (codeAny_mono h4 fun r t5 hr => ?_)))))
  cases r with
  | ok f =>
    obtain ⟨m, hm, hr⟩ := hr
    refine wpAny_bind (wpAny_holding ?_)
    exact wpAny_comp_letGo (cenv := { ce with scope := relabel sc env }) hk _ t5 m hv hm fun h' m' _ sb => wpAny_pure (hr h' sb)
  | error x =>
    obtain ⟨m, hm, hr⟩ := hr
    refine wpAny_bind (wpAny_holding ?_)
    exact wpAny_comp_letGo (cenv := { ce with scope := relabel sc env }) hk _ t5 m hv hm fun h' m' _ sb => wpAny_mono (hr h' sb _ rfl rfl) (fun _ _ z => z.elim) fun _ _ z => z
end

/-! ### what a call within the block raises -/
theorem ns_kept {h h' : Heap} {C : Addr} {m : Str → Option Value} (hm : h.Ns C m) (k : ∀ o, h.get? C = some o → h'.get? C = some o) : h'.Ns C m := by
  obtain ⟨o, es, ep, h1, h2⟩ := hm
  exact ⟨o, es, ep, k o h1, h2⟩
theorem ns_slots {h h' : Heap} {C : Addr} {m : Str → Option Value} (hm : h.Ns C m) (k : h.UpToSlots h') : h'.Ns C m := by
  obtain ⟨o, es, ep, h1, h2, h3⟩ := hm
  obtain ⟨sl, h4⟩ := k C o h1 fun vs z => by rw [h2] at z; cases z
  exact ⟨_, es, ep, h4, h2, h3⟩
theorem ns_not {h : Heap} {C a : Addr} {m : Str → Option Value} (hm : h.Ns C m) {o : Obj} {vs : Array Value} (ha : h.get? a = some o) (hd : o.data = .fields vs) : a ≠ C := fun z => by
  obtain ⟨o', es, ep, h1, h2, _⟩ := hm
  rw [z] at ha
  have : o = o' := Option.some.inj (ha.symm.trans h1)
  rw [this, h2] at hd
  cases hd
theorem frames_hid {B h h' : Heap} {C : Addr} (k : ∀ b, b ≠ C → h'.get? b = h.get? b) : ∀ {l : List Env}, C ∉ frs l → h.FunFrames B l → h'.FunFrames (PySem.W.hideAll B [C]) l
  | [], _, _ => trivial
  | e :: l, hC, hf => by
    obtain ⟨h1, ⟨L, o, h2, h3, h4, h5⟩, h6⟩ := hf
    have hL : L ∈ frs (e :: l) := List.mem_filterMap.mpr ⟨e, List.mem_cons_self, h2⟩
    refine ⟨h1, ⟨L, o, h2, ?_, ?_, h5⟩, frames_hid k (fun z => hC ?_) h6⟩
    · cases q : (PySem.W.hideAll B [C]).get? L with
      | none => rfl
      | some u => have := PySem.W.of_hideAll _ q; rw [h3] at this; cases this
    · rw [k L (fun z => hC (z ▸ hL))]; exact h4
    · obtain ⟨x, hx, hy⟩ := List.mem_filterMap.mp z
      exact List.mem_filterMap.mpr ⟨x, List.mem_cons_of_mem _ hx, hy⟩
/-- a call within the block X' raised: what the call left, and where the block stood -/
def Air (X : Cx) (E : XK) (u : Value) (s' : Shared) : Prop := ∃ (pins : List (Addr × Obj)) (σ : L2.St) (H : Hp) (s : Shared), Inv X pins σ H s ∧ L2.CX X.prog X.w X.stack H s E u s'
theorem air_passes {X : Cx} {E : XK} {pn : List (Addr × Obj)} : Passes (L2.CX X.prog X.w) (X.tr pn (Air (X.tr pn fun _ _ => False) E)) E := fun pins σ H s u s' I c =>
  ⟨pins, σ, H, s, ⟨⟨I.ok.mod, I.ok.kind, I.ok.glob, I.ok.blt, I.ok.above, I.ok.inj, I.ok.has, I.ok.cab, I.ok.hd, I.ok.frames, I.ok.stk, I.ok.exf, I.ok.bs, I.ok.bsz, I.ok.noex, I.ok.exfs, I.ok.funs, I.ok.frf⟩, I.os, I.bare, I.base, I.loc, I.cell, I.free, I.freeC, I.pin, I.hok, I.len⟩, c⟩
section
variable {X : Cx}
/-- noted in the def's frame, the block's variables let go, passed on: it is in the def's air -/
theorem air_out {E : XK} {σ : L2.St} {H : Hp} {pins : List (Addr × Obj)} {s s' : Shared} {u : Value} {C : Addr} {m : Str → Option Value} {ce : Env} (hs : X.stack = X.env :: X.outer) (hf : X.env.frame = some X.env.locals) (tk : Takes X fun cls d _ H => E cls d H)
    (I : Inv X pins σ H s) (c : L2.CX X.prog X.w X.stack H s E u s') (hm : s.heap.Ns C m) (f : FpOk X pins H C) (hce : ce.frame = X.env.frame) :
    notedBy (model X.prog X.w) X.A ce (fun x t => PostF (model X.prog X.w) X.A X.xe (fun _ _ => False) .none C X.env.frame (.error x) t) u s' := by
  obtain ⟨f0, f1, f2, f3, f4, f5⟩ := f
  have nC : C ∉ frs X.stack := fun z => (List.mem_cons.mp (I.stkSub C z)).elim f1 f2
  have hm' : s'.heap.Ns C m := by
    obtain ⟨a, B, H', cls, d, rfl, fl, hok, ub, _⟩ := c
    exact ns_kept hm fun o e => fl.1 _ _ (ub.keep C o e f0 nC)
  have c2 : L2.CX X.prog X.w X.stack H s (fun cls d H' => E cls d H' ∧ H' C = none) u s' := by
    obtain ⟨a, B, H', cls, d, rfl, fl, hok, ub, na, os, ag, hE⟩ := c
    obtain ⟨o, _, _, ho, _⟩ := hm
    exact ⟨a, B, H', cls, d, rfl, fl, hok, ub, na, os, ag, hE, ub.free C o ho f0⟩
  obtain ⟨a, B, sI, pins', σ', H', cls, d, rfl, J, nb, up, sky, na, os, ag, hE, nHC⟩ := XE.of_call (W := fun cls d _ H' => E cls d H' ∧ H' C = none) I (fun _ _ _ h => h) c2
  have hfr : X.A.frames = some (X.env :: X.outer) := by rw [J.ok.frames, hs]
  have fin : ∀ h1 : Heap, HandSPX.HeldZ B X.stack a (Zc cls d) X.env.locals h1 → s'.heap.UpToSlots h1 → PostF (model X.prog X.w) X.A X.xe (fun _ _ => False) .none C X.env.frame (.error (.ref a)) { s' with heap := h1 } := by
    intro h1 hh up1
    have hm1 := ns_slots hm' up1
    refine ⟨m, hm1, fun h2 sb ce2 _ hfr2 => ?_⟩
    obtain ⟨st, hBa, hl, oe, vs, T, oT, ts, he, hz, hd, h3, hnT, hTe, hT, hdT, h4⟩ := hh
    have naC := ns_not hm1 he hd
    have nTC := ns_not hm1 hT hdT
    have hB : ∀ {b}, B.get? b = none → (PySem.W.hideAll B [C]).get? b = none := fun {b} e => by
      cases q : (PySem.W.hideAll B [C]).get? b with
      | none => rfl
      | some u => have := PySem.W.of_hideAll _ q; rw [e] at this; cases this
    have tr2 : HandSPX.TracedZ h2 (PySem.W.hideAll B [C]) a (Zc cls d) (rawInt X.env.locals) :=
      ⟨oe, vs, T, oT, ts, (sb.2 a naC).trans he, hz, hd, h3, hB hnT, hTe, (sb.2 T nTC).trans hT, hdT, h4⟩
    have st2 : (PySem.W.hideAll B [C]).StaysIn h2 := fun b o e => by
      have nb : b ≠ C := fun z => by rw [z, PySem.W.hideAll_none [C] List.mem_cons_self] at e; cases e
      exact (sb.2 b nb).trans (st b o (PySem.W.of_hideAll _ e))
    have hl2 : h2.FunFrames (PySem.W.hideAll B [C]) X.stack := frames_hid (fun b hb => sb.2 b hb) nC hl
    unfold PySem.passOn
    refine wpAny_bind (wpAny_field ((sb.2 a naC).trans he) hd h3 ?_)
    rw [if_neg (show ¬ ((Value.ref T == Value.none) = true) from by simp)]
    have fin2 : wpAny (model X.prog X.w) X.A (setFlight (.ref a) ce2.frame) (fun _ t => wpAny (model X.prog X.w) X.A (throw (.ref a) : Sem Value) (fun _ _ => False) X.xe t) X.xe { s' with heap := h2 } := by
      rw [hfr2, hf]
      refine HandSPX.setFlight_anyZ st2 hl2 tr2 fun h5 k1 k2 k3 k4 => wpAny_throw (tk _ _ ?_)
      have J2 : Inv X [] σ' H' sI := ⟨J.ok, J.os, J.bare, J.base, J.loc, J.cell, J.free, J.freeC, fun p hp => J.pin p (List.mem_append_left _ (by rw [List.append_nil] at hp; exact hp)), J.hok, J.len⟩
      have J3 : Inv X [] σ' H' { sI with heap := PySem.W.hideAll sI.heap [C], toks := sI.toks } :=
        J2.turned (it := C) (fun b o hb e => PySem.W.hideAll_get _ e (by simpa using hb)) nHC f1.symm.symm f3 f4 (fun p hp => f5 p (List.mem_append_left _ (by rw [List.append_nil] at hp; exact hp)))
      refine ⟨a, PySem.W.hideAll B [C], _, [], σ', H', cls, d, rfl, J3, fun b o e hb => ?_, fun b o e hn => ?_, .inr (.inr ⟨k1, hB hBa, k2, k3⟩), na, os, ag, hE⟩
      · have nbC : b ≠ C := fun z => by rw [z, PySem.W.hideAll_none [C] List.mem_cons_self] at e; cases e
        exact PySem.W.hideAll_get _ (nb b o (PySem.W.of_hideAll _ e) hb) (by simpa using nbC)
      · have nbC : b ≠ C := fun z => by rw [z, PySem.W.hideAll_none [C] List.mem_cons_self] at e; cases e
        obtain ⟨sl1, e1⟩ := up b o (PySem.W.of_hideAll _ e) hn
        obtain ⟨sl2, e2⟩ := up1 b _ e1 hn
        have e3 := (sb.2 b nbC).trans e2
        obtain ⟨sl4, e4⟩ := k4 b _ e3 hn
        exact ⟨sl4, e4⟩
    first
      | exact wpAny_bind (wpAny_pure (wpAny_bind fin2))
      | exact wpAny_bind fin2
  show wpAny (model X.prog X.w) X.A (noteFrame (.ref a) ce) _ _ s'
  rw [note_same hce]
  rw [hs] at sky fin
  rcases sky with ⟨hB, hn, hl, oe, vs, he, hz, hd, h1⟩ | fl | hh
  · exact HandSPX.look_newZ Zc.steady hfr hl hf he hB hn hd h1 hz fin
  · exact HandSPX.looks_onZ Zc.steady hfr hf fl fin
  · exact HandSPX.againZ hf hh.2.2.2 (fin s'.heap hh (Heap.UpToSlots.refl _))

/-- a comprehension as a value; what an item's call raises is wished for by E, as the def wishes it -/
theorem pe_lcX {E : XK} {elt tg iter : Expr} {ifs : List Expr} {sc : Scope} {own : List (Str × Nat)} {pos : Pos} {wi : TI} {g : TG} {tt : TT} {te : TE}
    (hst : X.stack = X.env :: X.outer) (hfr : X.env.frame = some X.env.locals) (tk : Takes X fun cls d _ H => E cls d H)
    (hc : X.calm = true) (hN : X.N.Nodup) (hi : PI X tg iter wi) (ok : BlkOk X.N X.env.scope sc own)
    (hg : ∀ (s : Shared) (H : Hp) (C : Addr) (cl : List (Str × Addr)) (fp : List Addr), PG (X.blk s H sc (compEnvC sc cl C X.env) fp) tg g)
    (ht : ∀ (s : Shared) (H : Hp) (C : Addr) (cl : List (Str × Addr)) (fp : List Addr), PTs (X.blk s H sc (compEnvC sc cl C X.env) fp) ifs tt)
    (he : ∀ (s : Shared) (H : Hp) (C : Addr) (cl : List (Str × Addr)) (fp : List Addr) (pn : List (Addr × Obj)) (xe : Value → Shared → Prop),
      Passes (L2.CX X.prog X.w) ((X.blk s H sc (compEnvC sc cl C X.env) fp).tr pn xe) E → PE ((X.blk s H sc (compEnvC sc cl C X.env) fp).tr pn xe) elt te)
    (hs : ∀ x, foldedSetIterable iter X.env x = pure x := by intro _; rfl) : PE X (.ListComp elt [⟨tg, iter, ifs, 0⟩] sc pos) (tLc wi g tt te (own.map (·.2))) := by
  refine ⟨fun pins s σ H Q I hw => ?_⟩
  rw [eval_ListComp]
  have cells : ∀ y ∈ sc.names, y.2 = .free → ∃ c, X.env.cells.lookup y.1 = some c := fun y hy e =>
    (ok.free y hy e).elim (fun k => I.ok.has _ (.inl k)) (fun k => I.ok.has _ (.inr k))
  refine comp_freeF rfl hs (closure_ok cells) ok.kind (fun y hy e => (ok.uniq y hy).trans (congrArg some e)) (thn (hi.run pins s σ H _ I hw) fun xv s1 hx => thn hx fun itv s2 h2 => ?_)
  obtain ⟨it, fp, tn, J, H2, rfl, I2, T, st2, f2, q⟩ := h2
  refine wpAny_newObj_type (newEnv_comp ?_) (by show 0 ≤ sizeLine; decide)
  obtain ⟨D, hD⟩ : ∃ D, s2.heap.objs.size = D := ⟨_, rfl⟩
  rw [hD]
  obtain ⟨W, ⟨m0, w0⟩, turn⟩ := q D (I2.hok.fresh (Nat.le_of_eq hD))
  -- the list is laid
  obtain ⟨s3, hs3⟩ : ∃ s3 : Shared, ({ s2 with heap := s2.heap.push { cls := .type "list", data := .seq ([] : List Value).toArray } } : Shared) = s3 := ⟨_, rfl⟩
  have h3 : s3.heap = s2.heap.push { cls := .type "list", data := .seq ([] : List Value).toArray } := by rw [← hs3]
  have I3 : Inv X pins σ (upd H2 D (.lst [])) s3 := by
    rw [← hs3]
    refine I2.laid (t' := s2.toks) (fun b o e => Heap.get?_push_of_some _ e) (Nat.le_of_eq hD) ⟨Nat.zero_le _, [], 0, .nil, ?_⟩
    rw [← hD]
    exact Heap.get?_push_size _ rfl
  have below : ∀ b ∈ fp, b < s2.heap.objs.size := fun b hb => (T.obj _ _ st2 b hb).elim fun o e => Heap.lt_size e.1
  have f3 : ∀ b ∈ fp, FpOk X pins (upd H2 D (.lst [])) b ∧ b < s3.heap.objs.size := fun b hb => by
    have lt := below b hb
    refine ⟨⟨?_, (f2 b hb).2⟩, ?_⟩
    · rw [upd_ne (by rw [← hD]; exact Nat.ne_of_lt lt)]
      exact (f2 b hb).1
    · rw [h3, Heap.size_push]
      exact Nat.lt_succ_of_lt lt
  have st3 : tn 0 s3.heap := T.keep _ _ _ st2 fun b _ o e => (by rw [h3]; exact Heap.get?_push_of_some _ e)
  have I4 := block_start I3 ok hN f3
  obtain ⟨cl, hcl⟩ : ∃ cl, cellsFrom (s3.heap.objs.size + 1) sc.names (cloFrom X.env.cells sc.names []) = cl := ⟨_, rfl⟩
  have go : ∀ ce : Env, compEnvC sc cl s3.heap.objs.size X.env = ce → codeAny (model X.prog X.w) X.A (.compStart (.ListComp elt [⟨tg, iter, ifs, 0⟩] sc pos) 0 (.ref it) (.ref D) ce)
      (PostF (model X.prog X.w) X.A X.xe (EP X pins σ Q) (.ref D) s3.heap.objs.size X.env.frame) { s3 with heap := pushCells (s3.heap.push { cls := .type "dict", data := .dict #[] }) sc.names } := by
    intro ce hce
    rw [hcl, hce] at I4
    have pg := hg s3 (upd H2 D (.lst [])) s3.heap.objs.size cl fp
    have pt := ht s3 (upd H2 D (.lst [])) s3.heap.objs.size cl fp
    have pe := he s3 (upd H2 D (.lst [])) s3.heap.objs.size cl fp
    rw [hce] at pg pt pe
    have cL : ce.locals = s3.heap.objs.size := by rw [← hce]; rfl
    have cF : ce.frame = X.env.frame := by rw [← hce]; rfl
    have nfp : ∀ b ∈ fp, (upd H2 D (.lst [])) b = none := fun b hb => (f3 b hb).1.1
    obtain ⟨H3, hH3⟩ : ∃ H3, upd H2 D (.lst []) = H3 := ⟨_, rfl⟩
    rw [hH3] at I3 I4 pg pt pe w0 nfp f3
    obtain ⟨s4, hs4⟩ : ∃ s4 : Shared, ({ s3 with heap := pushCells (s3.heap.push { cls := .type "dict", data := .dict #[] }) sc.names } : Shared) = s4 := ⟨_, rfl⟩
    rw [hs4] at I4 ⊢
    have st4 : tn 0 s4.heap := T.keep _ _ _ st3 fun b _ o e => (by rw [← hs4]; exact pushCells_keeps _ _ _ _ (Heap.get?_push_of_some _ e))
    -- what a state of the block is, seen from the def
    have outer : ∀ {p : List (Addr × Obj)} {σ' : L2.St} {H' : Hp} {s' : Shared}, Inv (X.blk s3 H3 sc ce fp) p σ' H' s' → Inv X pins σ H' s' ∧ (∃ m, s'.heap.Ns s3.heap.objs.size m) ∧ FpOk X pins H' s3.heap.objs.size := by
      intro p σ' H' s' I6
      have nC : H' s3.heap.objs.size = none := by rw [← cL]; exact I6.free
      obtain ⟨m, hn, _⟩ := I6.loc
      refine ⟨I3.call' (ch := fp) I6.os I6.base I6.hok I6.bare fun b hb => ?_, ⟨m, by rw [← cL]; exact hn⟩, I3.fpOk (Nat.le_refl _) nC⟩
      obtain ⟨z1, z2, z3, z4, z5, z6⟩ := (f3 b hb).1
      exact ⟨z4, z2, z5, z6⟩
    have stat : ∀ {σ' : L2.St} {H' : Hp} {s' : Shared}, Inv (X.blk s3 H3 sc ce fp) [] σ' H' s' → (∀ b ∈ fp, H' b = none) → ∀ b ∈ fp, FpOk (X.blk s3 H3 sc ce fp) [] H' b := fun I' hn b hb =>
      ⟨hn b hb, (I'.ok.exf b hb).1, I'.ok.exfs b hb, .inl hb, fun x c e => (I'.ok.exf b hb).2 x c e, fun p hp => nomatch (show p ∈ ([] : List (Addr × Obj)) from hp)⟩
    have loop : codeAny (model X.prog X.w) X.A (.compLoop (.ListComp elt [⟨tg, iter, ifs, 0⟩] sc pos) 0 (.ref it) (.ref D) ce) (PostF (model X.prog X.w) X.A X.xe (EP X pins σ Q) (.ref D) s3.heap.objs.size X.env.frame) s4 := by
      refine compLoop_any (fun n t => ∃ i H', Inv (X.blk s3 H3 sc ce fp) [] (wipe σ (own.map (·.2))) H' t ∧ tn i t.heap ∧ (∀ b ∈ fp, H' b = none) ∧ W i n H') ?_ m0 ⟨0, H3, I4, st4, nfp, w0⟩
      rintro n s5 ⟨i, H5, I5, st5, n5, w5⟩
      rcases turn i n H5 w5 with ⟨stop, fine⟩ | ⟨goes, Nx, hNx, step⟩
      · refine thnF (T.done (X.blk s3 H3 sc ce fp) rfl rfl rfl hc i [] s5 _ H5 (fun _ _ => False) I5 (stat I5 n5) st5 stop) ?_
        rintro r s6 ⟨rfl, I6⟩
        obtain ⟨I7, ⟨m, hn⟩, f0, f1, f2', f3', f4, f5⟩ := outer I6
        exact ⟨m, hn, fun h' sb => ⟨.ref D, H5, I7.turned (t' := s6.toks) (fun b o hb e => (sb.2 b hb).trans e) f0 f1 f3' f4 f5, rfl, fine⟩⟩
      · refine thnF (T.item (X.blk s3 H3 sc ce fp) rfl rfl rfl hc i [] s5 _ H5 (fun _ _ => False) I5 (stat I5 n5) st5 goes) ?_
        rintro r s6 ⟨u, rfl, h6⟩
        refine thnF h6 fun _ s7 ⟨x, H7, I7, r7, y7, st7, n7⟩ => ?_
        refine thnF (pg.run _ s7 _ H7 x u _ (I7.pinned (stat I7 n7) (T.obj _ _ st7)) r7 (step x H7 y7)) fun _ s8 ⟨σ8, H8, I8, hw8, q8⟩ => ?_
        refine thnF (pt.run _ s8 σ8 H8 _ I8 q8) fun b s9 ⟨H9, I9, q9⟩ => ?_
        have fin : ∀ {t : Shared} {H' : Hp}, Inv (X.blk s3 H3 sc ce fp) ([] ++ pinsAt fp s7.heap) σ8 H' t → Nx H' → ∃ m, m < n ∧ ∃ i H', Inv (X.blk s3 H3 sc ce fp) [] (wipe σ (own.map (·.2))) H' t ∧ tn i t.heap ∧ (∀ b ∈ fp, H' b = none) ∧ W i m H' := by
          intro t H' I' nx
          obtain ⟨m', lt, w'⟩ := hNx H' nx
          have pinned : ∀ b ∈ fp, ∀ o, s7.heap.get? b = some o → t.heap.get? b = some o ∧ H' b = none := fun b hb o e => by
            have z := I'.pin (b, o) (List.mem_append_right _ (List.mem_append_right _ (mem_pinsAt hb e)))
            exact ⟨z.1, z.2.1⟩
          refine ⟨m', lt, i + 1, H', (I'.unpinned (pins := [])).weak (by rw [← hw8, wipe_length]) (fun j v e => ?_), T.keep _ _ _ st7 fun b hb o e => (pinned b hb o e).1, fun b hb => ?_, w'⟩
          · rw [← hw8] at e
            exact (wipe_some e).1
          · obtain ⟨o, e, _⟩ := T.obj _ _ st7 b hb
            exact (pinned b hb o e).2
        cases b with
        | false => exact fin I9 q9
        | true =>
          show wpAny (model X.prog X.w) X.A (eval elt ce) _ _ s9
          have I10 := I9.toTry (Air ((X.blk s3 H3 sc ce fp).tr ((X.blk s3 H3 sc ce fp).pn ++ ([] ++ pinsAt fp s7.heap)) fun _ _ => False) E)
          refine wpAny_mono ((pe _ _ air_passes).run [] s9 σ8 H9 _ I10 q9) (fun z s10 hz => ?_) (fun e s10 hz => ?_)
          · obtain ⟨yv, H10, I11, r10, acc, hD10, hz10, nx⟩ := hz
            exact app_ok (X := X.blk s3 H3 sc ce fp) (I11.ofTry I9.ok) hD10 hz10 r10 fun s11 I12 => fin I12 nx
          · obtain ⟨p, σ', H', t, I6, c⟩ := hz
            have I6' : Inv (X.blk s3 H3 sc ce fp) [] σ' H' t := ⟨I9.ok, I6.os, I6.bare, I6.base, I6.loc, I6.cell, I6.free, I6.freeC, (fun q hq => nomatch (show q ∈ ([] : List (Addr × Obj)) from hq)), I6.hok, I6.len⟩
            obtain ⟨I7', ⟨m, hn⟩, f⟩ := outer I6'
            exact air_out hst hfr tk I7' c hn f cF
    exact codeAny_compStart_list loop (T.self X.A 0 _ _ _ st4 loop)
  subst hs3
  rw [hcl.symm] at go
  exact go _ rfl
end
end BP

/-! all(x in G for x in e): e a text, G a text of the module. Own work, over the library's walk of a generator. -/
namespace BP
open PySem PySem.Spec PyProof.Rows L2 GxR
/-- a test of the sign c in a generator's own frame, where the module's names are seen too -/
def EltG (X : Cx) (sc : Scope) (x : Str) (elt : Expr) (pb : Nat → Bool) : Prop :=
  ∀ (ce : Env) (B : Around) (F : Value → Shared → Prop) (c : Nat) (t : Tok) (u : Shared) (m : Str → Option Value), ce.scope = sc → ce.globals = mainGlobals → u.heap.Ns mainGlobals X.mg → u.heap.Ns ce.locals m → m x = some (.str ⟨#[c]⟩ t) →
    wpAny (model X.prog X.w) B (eval elt ce) (fun y u' => y = .bool (pb c) ∧ Keeps u u') F u
theorem elt_in {X : Cx} {sc : Scope} {x y : Str} {z : Str} {tz : Tok} {p1 p2 p3 : Pos} (hk : sc.kind = .function) (hl : sc.names.lookup x = some .local) (hy : sc.names.lookup y = some .globalImplicit) (hm : X.mg y = some (.str z tz))
    (hx : (x == ("__debug__" : Str)) = false := by decide) (hyd : (y == ("__debug__" : Str)) = false := by decide) :
    EltG X sc x (.Compare (.Name x p1) [.In] [.Name y p2] p3) fun c => decide (c ∈ z.cps.toList) := by
  intro ce B F c t u m hs hg hG hn hv
  refine wpAny_Compare1 ?_
  refine wpAny_Name (wpAny_loadName_local (by rw [hs]; exact hk) (by unfold Env.kindOf; rw [hs]; exact hl) hn hv ?_) hx
  refine Calls.Name_function_global (by rw [hs]; exact hk) (by unfold Env.kindOf; rw [hs]; exact hy) (Calls.loadGlobal_global (by rw [hg]; exact hG) hm ?_) hyd
  refine PyProof.Rows.in_str ?_
  exact ⟨congrArg Value.bool (PySem.StrLaws.found_one z c), keeps_refl _⟩
section
variable {X : Cx} {pins : List (Addr × Obj)} {σ : L2.St} {H : Hp} {s : Shared}
theorem gen_over {c P : Addr} {elt iter : Expr} {x : Str} {px gpos : Pos} {sc : Scope} {pb : Nat → Bool} {te : TE} {k : Nat} {Z : Value → Shared → Prop} {R : Str → Hp → Prop}
    (hr : Room k X.A) (TB : GxR.TabB X.base X.mg c P) (hcd : X.env.code = .ref c) (S : GenS X.env sc x) (hi : PE X iter te) (hel : EltG X sc x elt pb) (hs : ∀ v, genFold iter X.env v = pure v) (I : Inv X pins σ H s)
    (hw : te σ H fun v H1 => ∃ a : Str, v = .str a ∧ GxR.TabG H1 P ∧ R a H1) (hZ : ∀ a H1 g u, R a H1 → Ready X pins σ H1 P a pb g u → Z (.ref g) u) :
    wpAny (model X.prog X.w) X.A (eval (.GeneratorExp elt [⟨.Name x px, iter, [], 0⟩] sc gpos) X.env) Z X.xe s := by
  refine wpAny_GeneratorExp_walksQ hr.hd S.co (closure_ok S.free) S.cell S.dot S.loc S.kind (by have := hr.dp; omega) ?_ hs
  refine thn (hi.run pins s σ H _ I hw) fun xv t1 ⟨v, H1, I1, r1, a, ev, ⟨ps, hP, tri⟩, q1⟩ => ?_
  subst ev
  obtain ⟨tk0, rfl⟩ := _root_.id r1
  refine wpAny_pyIter_str fun o St W hst => ?_
  have atP : t1.heap.get? P = some { cls := .none, data := .fields ps } := I1.hok P _ hP
  have ltP : P < t1.heap.objs.size := Heap.lt_size atP
  have atP2 : (t1.heap.push o).get? P = some { cls := .none, data := .fields ps } := Heap.get?_push_of_some _ atP
  have hd : PySem.W.CodeHd (t1.heap.push o) c P := TB.code.keeps fun b u e => Heap.get?_push_of_some _ (I1.bk b u e)
  have nolim : (t1.heap.push o).NoLimit := I1.nolimit.push o
  have GM : t1.heap.Ns mainGlobals X.mg := I1.mod.glob.keeps I1.bk
  have on : ∀ (code : Value) (g3 : Heap) (tk : Nat) (ps' : Array Value), Heap.ExtBut P (t1.heap.push o) g3 → (t1.heap.push o).objs.size ≤ g3.objs.size → g3.get? P = some { cls := .none, data := .fields ps' } → (∃ more, ps' = ps ++ more) → TriplesOk ps'.toList →
      wpAny (model X.prog X.w) X.A (builtinsFor X.env.globals X.env.builtins) (fun bi u =>
        ∃ J fp wr n0 Pf S0 pz F, Value.ref t1.heap.objs.size = .ref J ∧ (∀ B : Around, B.handled = none → Walks X.prog X.w B J fp wr n0 Pf S0) ∧ S0 0 u.heap ∧ (∀ b ∈ fp, b < u.heap.objs.size) ∧ u.heap.NoLimit ∧ cStatics ∉ wr ∧
          (∀ hf : Heap, (∀ b o, u.heap.get? b = some o → hf.get? b = some o) →
            QuietGen X.prog X.w (genEnv sc (cloFrom X.env.cells sc.names []) u.heap.objs.size code bi X.env) x [] elt (List.range u.heap.objs.size) wr Pf pz F hf) ∧
          (∀ a g5 tk gs, gs.bare = true → u.heap.objs.size < a → g5.objs.size = a + 1 → (∀ b o, u.heap.get? b = some o → g5.get? b = some o) →
            WalksS X.prog X.w X.A.in4 a (a :: u.heap.objs.size :: List.range u.heap.objs.size) (u.heap.objs.size :: wr) (GenOnlyQ u.gens.size) (passing pz n0 0).length
              (fun j y => ∃ i, (passing pz n0 0)[j]? = some i ∧ F i y) (GenAt X.prog X.w X.A.in4 a u.gens.size u.heap.objs.size (List.range u.heap.objs.size) wr pz n0 F) →
            GenAt X.prog X.w X.A.in4 a u.gens.size u.heap.objs.size (List.range u.heap.objs.size) wr pz n0 F 0 { u with gens := u.gens.push gs, toks := tk, heap := g5 } →
            Z (.ref a) { u with gens := u.gens.push gs, toks := tk, heap := g5 })) X.xe { t1 with heap := g3, toks := tk } := by
    intro code g3 tk ps' hx hsz atP3 hmore tri3
    obtain ⟨bm, ob, e1, e2, e3, e4, e5, e6, e7, e8⟩ := TB.bm
    have nST : cStatics ≠ P := fun e => by
      obtain ⟨_, ⟨o', es, ep, ho, hd, _⟩, _⟩ := I1.nolimit
      rw [e, atP] at ho
      cases ho
      cases hd
    have ltS : cStatics < t1.heap.objs.size := let ⟨_, hns, _⟩ := I1.nolimit; hns.lt
    have size2 : (t1.heap.push o).objs.size = t1.heap.objs.size + 1 := Heap.size_push ..
    have kept : ∀ b u, b ≠ P → t1.heap.get? b = some u → g3.get? b = some u := fun b u hb e => hx b u hb (Heap.get?_push_of_some _ e)
    refine wpAny_builtinsFor (m := X.mg) (by rw [I1.ok.glob]; exact (GM.push o).extBut hx TB.gP) e1 e2 (kept _ _ e4 (I1.bk _ _ e5)) e6 e7 e8 ?_
    refine ⟨t1.heap.objs.size, [t1.heap.objs.size], [t1.heap.objs.size], a.cps.size, SignAt a, St, (fun _ => true), (fun i y => ∃ d, a.cps[i]? = some d ∧ y = .bool (pb d)), rfl, W, ?_, ?_, nolim.extBut hx nST, ?_, ?_, ?_⟩
    · refine (W X.A hr.hd).frame _ _ _ hst fun b hb u e => hx b u (fun z => ?_) e
      have : b = t1.heap.objs.size := List.mem_singleton.mp hb
      rw [z] at this
      exact Nat.ne_of_lt ltP this
    · intro b hb
      rw [List.mem_singleton.mp hb]
      show t1.heap.objs.size < g3.objs.size
      omega
    · exact fun z => Nat.ne_of_lt ltS (List.mem_singleton.mp z)
    · intro hf hhf
      refine ⟨fun B F i v u m hA hPv hn hm hk => ?_, fun B F i v u m hA hPv hp hn hm hk => ?_⟩
      · simp only [List.forIn_nil]
        exact wpAny_pure ⟨rfl, keeps_refl _⟩
      · obtain ⟨d, t, hdd, rfl⟩ := hPv
        have GM2 : u.heap.Ns mainGlobals X.mg := by
          obtain ⟨og, es, ep, h1, h2⟩ := GM
          have lt1 := Heap.lt_size h1
          have h3 := kept _ _ TB.gP h1
          refine ⟨og, es, ep, hk mainGlobals (List.mem_range.mpr (Heap.lt_size h3)) (fun z => ?_) og (hhf _ _ h3), h2⟩
          exact Nat.ne_of_lt lt1 (List.mem_singleton.mp z)
        exact wpAny_mono (hel _ B F d t u m rfl I1.ok.glob GM2 hn hm) (fun y s3 r => ⟨⟨d, hdd, r.1⟩, r.2⟩) fun _ _ e => e
    · intro g g5 tk5 gs hgb hag hsz5 hk5 W5 hat
      simp only [GxR.passing_true, List.length_range] at W5
      refine hZ a H1 g _ q1 ⟨_, _, _, _, _, W5.in4_1, hat, ?_, fun u' hm => ?_⟩
      · intro j y uj Qj Ej hy hQj
        obtain ⟨i, hij, d, hdd, rfl⟩ := hy
        obtain ⟨hj, ej⟩ := List.getElem?_eq_some_iff.mp hij
        rw [List.getElem_range] at ej
        subst ej
        have h9 : a.cps.toList[j]? = some d := by rw [Array.getElem?_toList]; exact hdd
        have hQ2 : Qj (trF pb a.cps.toList j) uj := hQj
        rw [trF_some h9] at hQ2
        exact wpAny_truthy_bool hQ2
      · obtain ⟨more, em⟩ := hmore
        have nwr : ∀ b u, t1.heap.get? b = some u → b ∉ g3.objs.size :: [t1.heap.objs.size] := fun b u e hb => by
          have hl := Heap.lt_size e
          rcases List.mem_cons.mp hb with z | z
          · rw [z] at hl
            have h10 : (g3.objs.size : Nat) < t1.heap.objs.size := hl
            omega
          · rw [List.mem_singleton.mp z] at hl
            exact Nat.lt_irrefl _ hl
        have J := inv_tab (more := more) (h' := u'.heap) (g' := u'.gens) (d' := u'.drawn) (t' := u'.toks) I1 hP (fun b u hb e => hm.heap b u (nwr b u e) (hk5 b u (kept b u hb e)))
          (by rw [← em]; exact hm.heap P _ (nwr P _ atP) (hk5 P _ atP3)) (AllBare.movedS (I1.bare.push hgb) hm)
        rw [sh_eta t1 u' hm.os] at J
        exact ⟨upd H1 P (.tbl (ps ++ more)), ⟨⟨ps ++ more, upd_same, by rw [← em]; exact tri3⟩, fun b hb => upd_ne hb⟩, J⟩
  refine ⟨nolim, ?_⟩
  cases hf : codeAmong gpos ps.toList with
  | some cv =>
    refine wpAny_genexprCode_hit hcd (hd.code atP2 tri) hf ?_
    exact on cv (t1.heap.push o) t1.toks ps (Heap.ExtBut.refl _ _) (Nat.le_refl _) atP2 ⟨#[], by simp⟩ tri
  | none =>
    refine wpAny_genexprCodeX hcd (hd.code atP2 tri) (hd.tab atP2) hf fun c' h' tk hx hge hlt hco' _ htab' _ => ?_
    obtain ⟨_, _, _, _, _, _, _, _, _, _, _, _, _, _, _, _, _, _, _, htr, _⟩ := hco'
    exact on _ h' tk _ hx (Nat.le_trans hge (Nat.le_of_lt hlt)) htab'.2 ⟨_, rfl⟩ htr
/-- all(.. for x in e) -/
theorem pe_allG {c P : Addr} {elt iter : Expr} {x : Str} {px p pos gpos : Pos} {sc : Scope} {pb : Nat → Bool} {te : TE} {k : Nat}
    (hr : Room k X.A) (hg : Gl X "all") (hm : X.mg "all" = none) (hb : bootBuiltins "all" = some (.builtin "all")) (TB : GxR.TabB X.base X.mg c P) (hcd : X.env.code = .ref c) (S : GenS X.env sc x) (hi : PE X iter te) (hel : EltG X sc x elt pb)
    (hs : ∀ v, genFold iter X.env v = pure v)
    (he : starEach [.GeneratorExp elt [⟨.Name x px, iter, [], 0⟩] sc gpos] X.env = (false, eval (.GeneratorExp elt [⟨.Name x px, iter, [], 0⟩] sc gpos) X.env) :: starEach [] X.env := by rfl) :
    PE X (.Call (.Name "all" p) [.GeneratorExp elt [⟨.Name x px, iter, [], 0⟩] sc gpos] [] pos) (tAllS P pb te) := by
  refine ⟨fun pins s σ H Q I h => ?_⟩
  refine wpAny_Call_Name_kw (ld_blt I hg hm hb ?_)
  refine PyProof.Rows.callWith_builtin1 ?_ he (by rfl)
  rw [he]
  show wpAny _ _ (spliced ((false, eval (.GeneratorExp elt [⟨.Name x px, iter, [], 0⟩] sc gpos) X.env) :: backTo pos (starEach [] X.env))) _ _ s
  refine Calls.spliced_cons (gen_over (R := fun a H1 => ∀ H2, Tabbed P H1 H2 → Q (.bl (a.cps.toList.all pb)) H2) hr TB hcd S hi hel hs I h fun a H1 g u hR hG => ?_)
  obtain ⟨fp, wr, G, F, St, W, hst, htr, hI⟩ := hG
  refine Calls.spliced_nil ?_
  refine call_all_walkS (W.self 0 _ _ _ hst ⟨g, fp, wr, G, _, F, St, _, rfl, W, hst, htr, fun u' hmv => ?_⟩)
  obtain ⟨H2, hT, J⟩ := hI u' hmv
  refine ⟨.bl _, H2, J, rfl, ?_⟩
  rw [all_signs a pb]
  exact hR H2 hT
end
end BP

/-! D.get(k) of a dict of the module with texts as keys. Own work. -/
namespace BP
open PySem PySem.Spec PyProof.Rows L2
def tKGet (K : PySem.W.Frag) (d : Addr) (td ty : TE) : TE := fun σ H Q => td σ H fun x H1 => x = .ref d ∧ ty σ H1 fun y H2 => ∃ (z : Str) (r : Option Value) (v : V), y = .str z ∧ PySem.W.nsIn K d z = some r ∧ RelV v (r.getD .none) ∧ Q v H2
theorem pe_kget {X : Cx} {d : Addr} {es : Array DictEntry} {n : Nat} {o e : Expr} {apos cpos : Pos} {td ty : TE} (D : KDict X.K X.w d es n) (ho : PE X o td) (he : PE X e ty) (m : M1 X o "get" apos e cpos) :
    PE X (.Call (.Attribute o "get" apos) [e] [] cpos) (tKGet X.K d td ty) := by
  refine ⟨fun pins s σ H Q I h => ?_⟩
  refine wpAny_Call_method m.base m.few m.line PySem.F.plainAttrs_dict PySem.F.slot_dict_get PySem.F.type_dict_get (thn (ho.run pins s σ H _ I h) fun u t1 ⟨x, H1, I1, rx, ex, q1⟩ => ?_)
  subst ex
  obtain rfl : u = Value.ref d := rx
  refine ⟨kd_type D I1, fun b eb => ?_, ?_⟩
  · cases eb
    exact ⟨_, I1.kIn _ _ D.at_, rfl⟩
  rw [m.trees]
  refine Calls.callWith_builtin rfl (Calls.evalArgs_plain (Calls.spliced_cons (thn (he.run pins t1 σ H1 _ I1 q1) fun iv t2 ⟨y, H2, I2, ry, z, r, v, ey, hr, rv, q2⟩ => Calls.spliced_nil ?_)))
  subst ey
  obtain ⟨t, rfl⟩ := ry
  refine call_meetsIn PySem.F.slot_dict_get (kd_type D I2) PySem.F.entry_dict_get (PySem.F.args_dict_get_2 _ _) (meets_dict_get (PySem.strKind X.prog X.w) d (PySem.strKind_is X.prog X.w z t) D.low) ⟨_, PySem.W.mapOf_K (prog := X.prog) I2.kIn D.at_ D.lit, ?_⟩
  rw [PySem.W.find_K D.at_ hr]
  exact ⟨v, H2, I2.tok _, rv, q2⟩
end BP

/-! Lines, their parts, and what is read of them. Own work. -/
namespace BP
open PySem L2
/-- cut at each blank -/
def cutL : List Nat → List (List Nat)
  | [] => [[]]
  | c :: cs => if c = 32 then [] :: cutL cs else match cutL cs with
    | [] => [[c]]
    | p :: ps => (c :: p) :: ps
/-- glued by blanks -/
def glue : List (List Nat) → List Nat
  | [] => []
  | [p] => p
  | p :: q :: ps => p ++ 32 :: glue (q :: ps)
theorem cutL_cons (c : Nat) (cs : List Nat) : cutL (c :: cs) = if c = 32 then [] :: cutL cs else match cutL cs with
    | [] => [[c]]
    | p :: ps => (c :: p) :: ps := rfl
theorem cutL_ne : ∀ l, cutL l ≠ []
  | [] => by intro h; cases h
  | c :: cs => by
    unfold cutL
    by_cases h : c = 32
    · rw [if_pos h]; intro h; cases h
    · rw [if_neg h]
      cases cutL cs <;> intro h <;> cases h
theorem cutL_free : ∀ p : List Nat, 32 ∉ p → cutL p = [p]
  | [], _ => rfl
  | c :: cs, h => by
    have h1 : c ≠ 32 := fun z => h (by rw [z]; exact List.mem_cons_self)
    unfold cutL
    rw [if_neg h1, cutL_free cs fun z => h (List.mem_cons_of_mem _ z)]
theorem cutL_app : ∀ (p l : List Nat), 32 ∉ p → cutL (p ++ 32 :: l) = p :: cutL l
  | [], l, _ => by
    show cutL (32 :: l) = _
    unfold cutL
    rw [if_pos rfl]
    cases l <;> rfl
  | c :: cs, l, h => by
    have h1 : c ≠ 32 := fun z => h (by rw [z]; exact List.mem_cons_self)
    show cutL (c :: (cs ++ 32 :: l)) = _
    rw [cutL_cons, if_neg h1, cutL_app cs l fun z => h (List.mem_cons_of_mem _ z)]
theorem cutL_glue : ∀ ps : List (List Nat), ps ≠ [] → (∀ p ∈ ps, 32 ∉ p) → cutL (glue ps) = ps
  | [], h, _ => absurd rfl h
  | [p], _, h => cutL_free p (h p List.mem_cons_self)
  | p :: q :: ps, _, h => by
    show cutL (p ++ 32 :: glue (q :: ps)) = _
    rw [cutL_app p _ (h p List.mem_cons_self), cutL_glue (q :: ps) (by simp) fun r hr => h r (List.mem_cons_of_mem _ hr)]
theorem sp1 : (" " : Str) = ⟨#[32]⟩ := by decide +kernel
theorem join_glue : ∀ ys : List Str, (Str.join ⟨#[32]⟩ ys).cps.toList = glue (ys.map fun y => y.cps.toList)
  | [] => rfl
  | [y] => rfl
  | y :: z :: ys => by
    have ih := join_glue (z :: ys)
    show (y ++ ⟨#[32]⟩ ++ Str.join ⟨#[32]⟩ (z :: ys)).cps.toList = _
    rw [Str.cps_append, Str.cps_append, Array.toList_append, Array.toList_append, ih]
    show y.cps.toList ++ [32] ++ _ = y.cps.toList ++ 32 :: glue _
    rw [List.append_assoc]
    rfl
theorem split_cut (x : Str) : (Txt.split x " ").map (fun y => y.cps.toList) = cutL x.cps.toList := by
  have h1 := StrLaws.join_split x ⟨#[32]⟩
  have h2 := join_glue (Txt.split x ⟨#[32]⟩)
  rw [h1] at h2
  rw [h2, sp1]
  refine (cutL_glue _ ?_ ?_).symm
  · intro z
    have z := List.map_eq_nil_iff.mp z
    have := PyProof.Rows.split_pos x ⟨#[32]⟩
    rw [z] at this
    exact absurd this (by decide)
  · intro p hp
    obtain ⟨y, hy, e⟩ := List.mem_map.mp hp
    rw [← e]
    exact StrLaws.split_free x 32 y hy
/-- a number as it may be written -/
def okN (p : List Nat) : Bool := decide (1 ≤ p.length ∧ p.length ≤ 60) && p.all (fun c => decide (48 ≤ c ∧ c ≤ 57)) && !(decide (p.head? = some 48) && decide (p ≠ [48]))
/-- the seven words and how many numbers stand behind them -/
def manyOf (z : Str) : Option Nat := if z = "make" then some 2 else if z = "hold" then some 2 else if z = "drop" then some 1 else if z = "put" then some 3 else if z = "empty" then some 2 else if z = "take" then some 3 else if z = "tidy" then some 0 else none
/-- what is read of a line's parts: the word, and the numbers -/
def readP : List Str → Option (Str × List Nat)
  | [] => none
  | w :: ps => if manyOf w = some ps.length ∧ ∀ p ∈ ps, okN p.cps.toList = true then some (w, ps.map fun p => NumText.digitsVal p.cps.toList) else none
end BP

/-! A heap that has grown, but for the table of a def's code objects. Own work. -/
namespace BP
open PySem PySem.Spec PyProof.Rows L2
/-- H' holds all that H does, but the table at Pt may have grown -/
def Past (Pt : Addr) (H H' : Hp) : Prop := GxR.TabG H' Pt ∧ ∀ b o, b ≠ Pt → H b = some o → H' b = some o
section
variable {Pt : Addr} {H H' H'' : Hp}
theorem tab_ne {a : Addr} (T : GxR.TabG H Pt) (h : H a = none) : a ≠ Pt := fun z => by
  obtain ⟨ps, e, _⟩ := T
  rw [z, e] at h
  cases h
theorem tab_upd {a : Addr} {o : HO} (T : GxR.TabG H Pt) (h : a ≠ Pt) : GxR.TabG (upd H a o) Pt := by
  obtain ⟨ps, e, t⟩ := T
  exact ⟨ps, by rw [upd_ne h.symm]; exact e, t⟩
theorem Past.refl (T : GxR.TabG H Pt) : Past Pt H H := ⟨T, fun _ _ _ e => e⟩
theorem Past.new (p : Past Pt H H') {a : Addr} (h : H' a = none) (o : HO) : Past Pt H (upd H' a o) :=
  ⟨tab_upd p.1 (tab_ne p.1 h), fun b u n e => by rw [upd_ne (ne_of_none (p.2 b u n e) h)]; exact p.2 b u n e⟩
theorem Past.gone (p : Past Pt H H') (T : GxR.TabG H Pt) {a : Addr} (h : H' a = none) : H a = none := by
  cases e : H a with
  | none => rfl
  | some o =>
    by_cases n : a = Pt
    · exact absurd n (tab_ne p.1 h)
    · rw [p.2 a o n e] at h; cases h
theorem Past.set (p : Past Pt H H') {a : Addr} (T : GxR.TabG H Pt) (h : H a = none) (o : HO) : Past Pt H (upd H' a o) :=
  ⟨tab_upd p.1 (tab_ne T h), fun b u n e => by rw [upd_ne (ne_of_none e h)]; exact p.2 b u n e⟩
theorem Past.tab (p : Past Pt H H') (t : GxR.Tabbed Pt H' H'') : Past Pt H H'' := ⟨t.1, fun b o n e => by rw [t.2 b n]; exact p.2 b o n e⟩
theorem Past.trans (p : Past Pt H H') (q : Past Pt H' H'') : Past Pt H H'' := ⟨q.1, fun b o n e => q.2 b o n (p.2 b o n e)⟩
theorem tabbed_refl (T : GxR.TabG H Pt) : GxR.Tabbed Pt H H := ⟨T, fun _ _ => rfl⟩
end
/-- a def that lets errors out, its code object known -/
theorem okXC {P : Program} {w : World} {K : PySem.W.Frag} {mg : Str → Option Value} {base : Heap} {x qual : Str} {st : Stmt} {f c : Addr} {fd : FuncData} {N ps : List Str} {k : Nat} {sp : Sp} (F : Fun K x qual st f fd) (S : FnScope N ps (defScope st)) (hc : fd.code = .ref c)
    (len : ∀ vs H Q E, sp vs H Q E → vs.length = ps.length)
    (hb : ∀ (A : Around) (outer : List Env) (s : Shared) (H : Hp) (vs : List V) (Q : VK) (E : XK), Room k (A.deeper (envOfC qual (defScope st) s.heap.objs.size f (.ref c))) → sp vs H Q E →
      ∃ t, PSs (cxOf (L2.CX P w) P w K mg base N qual (defScope st) f (.ref c) A outer s H E) (defBody st) t ∧ t { nx := fun _ H' => Q .non H', rt := Q } (start N vs) H) : FnOk P w K mg base (L2.CX P w) (k + 1) f fd ps sp := by
  obtain ⟨oc, od, kV, doc, pm, an, cdv, ct, osl, rfl, lk, hcd⟩ := F.ex
  have e : cdv = .ref c := hc
  subst e
  exact fn_of lk hcd S len hb
/-- str(x) of a whole number or of a text -/
def rStrE : List V → Hp → VK → Prop := fun xs H Q => (∃ i, xs = [.int i] ∧ i.natAbs.log2 < 1920 ∧ Q (.str (toString i)) H) ∨ ∃ a, xs = [.str a] ∧ Q (.str a) H
theorem call_strE {X : Cx} : CallR X (.type "str") rStrE := fun pins s σ H xs us Q I r h => h.elim (fun h => call_str_int pins s σ H xs us Q I r h) fun h => SkE.call_str_str pins s σ H xs us Q I r h
end BP

/-! The pile as plain data: hands, boxes by number, the row of what waits to be let go. Own work; core Lean alone. -/
namespace BP

structure Bx where
  slots : List (Option Int)
  wt : Int
  sus : Bool
structure Pl where
  hands : List (Option Int)
  boxes : List (Int × Bx)
  made : Int

/-! ### boxes by number -/
def get (bs : List (Int × Bx)) (n : Int) : Option Bx := (bs.find? fun e => decide (e.1 = n)).map (·.2)
def chg (bs : List (Int × Bx)) (n : Int) (f : Bx → Bx) : List (Int × Bx) := bs.map fun e => if e.1 = n then (e.1, f e.2) else e
def rm (bs : List (Int × Bx)) (n : Int) : List (Int × Bx) := bs.filter fun e => decide (e.1 ≠ n)
def keys (bs : List (Int × Bx)) : List Int := bs.map (·.1)

theorem get_nil (n : Int) : get [] n = none := rfl
theorem get_cons (e : Int × Bx) (bs : List (Int × Bx)) (n : Int) : get (e :: bs) n = if e.1 = n then some e.2 else get bs n := by
  unfold get
  rw [List.find?_cons]
  by_cases h : e.1 = n
  · simp [h]
  · simp [h]
theorem get_chg (n m : Int) (f : Bx → Bx) : ∀ bs, get (chg bs n f) m = (get bs m).map fun b => if m = n then f b else b
  | [] => rfl
  | e :: bs => by
    have ih := get_chg n m f bs
    have e1 : chg (e :: bs) n f = (if e.1 = n then (e.1, f e.2) else e) :: chg bs n f := rfl
    rw [e1, get_cons, get_cons, ih]
    by_cases h : e.1 = n
    · rw [if_pos h]
      by_cases h2 : e.1 = m
      · have : m = n := h2.symm.trans h
        simp [h2, this]
      · simp [h2]
    · rw [if_neg h]
      by_cases h2 : e.1 = m
      · have : ¬ m = n := fun q => h (h2.trans q)
        simp [h2, this]
      · simp [h2]
theorem get_rm (n m : Int) : ∀ bs, get (rm bs n) m = if m = n then none else get bs m
  | [] => by simp [rm, get]
  | e :: bs => by
    have ih := get_rm n m bs
    by_cases h : e.1 = n
    · have e1 : rm (e :: bs) n = rm bs n := by unfold rm; simp [List.filter_cons, h]
      rw [e1, ih, get_cons]
      by_cases h2 : m = n
      · simp [h2]
      · have : ¬ e.1 = m := fun q => h2 (q.symm.trans h)
        simp [h2, this]
    · have e1 : rm (e :: bs) n = e :: rm bs n := by unfold rm; simp [List.filter_cons, h]
      rw [e1, get_cons, get_cons, ih]
      by_cases h2 : e.1 = m
      · have : ¬ m = n := fun q => h (h2.trans q)
        simp [h2, this]
      · simp [h2]
theorem get_snoc (n m : Int) (b : Bx) : ∀ bs, get (bs ++ [(n, b)]) m = (match get bs m with | some x => some x | none => if n = m then some b else none)
  | [] => by simp [get_cons, get_nil]
  | e :: bs => by
    have ih := get_snoc n m b bs
    rw [List.cons_append, get_cons, get_cons, ih]
    by_cases h2 : e.1 = m
    · simp [h2]
    · simp [h2]
theorem keys_chg (n : Int) (f : Bx → Bx) : ∀ bs, keys (chg bs n f) = keys bs
  | [] => rfl
  | e :: bs => by
    have ih := keys_chg n f bs
    have e1 : keys (chg (e :: bs) n f) = (if e.1 = n then (e.1, f e.2) else e).1 :: keys (chg bs n f) := rfl
    rw [e1, ih]
    by_cases h : e.1 = n <;> simp [h, keys]
theorem keys_rm (n : Int) (bs : List (Int × Bx)) : keys (rm bs n) = (keys bs).filter fun k => decide (k ≠ n) := by
  unfold keys rm
  rw [List.filter_map]
  rfl
theorem len_chg (n : Int) (f : Bx → Bx) (bs : List (Int × Bx)) : (chg bs n f).length = bs.length := List.length_map _
theorem len_rm (n : Int) (bs : List (Int × Bx)) : (rm bs n).length ≤ bs.length := List.length_filter_le _ _
theorem get_keys {bs : List (Int × Bx)} {n : Int} : (∃ b, get bs n = some b) ↔ n ∈ keys bs := by
  induction bs with
  | nil => simp [get_nil, keys]
  | cons e bs ih =>
    rw [get_cons]
    by_cases h : e.1 = n
    · simp [h, keys]
    · have : n ≠ e.1 := fun q => h q.symm
      simp only [if_neg h, ih]
      simp [keys, this]
theorem get_none {bs : List (Int × Bx)} {n : Int} : get bs n = none ↔ n ∉ keys bs := by
  rw [← get_keys]
  cases get bs n <;> simp
theorem get_mem {bs : List (Int × Bx)} {n : Int} {b : Bx} (h : get bs n = some b) : (n, b) ∈ bs := by
  induction bs with
  | nil => simp [get_nil] at h
  | cons e bs ih =>
    rw [get_cons] at h
    by_cases h1 : e.1 = n
    · rw [if_pos h1] at h
      have : e = (n, b) := by
        cases e
        simp at h1 h
        simp [h1, h]
      simp [this]
    · rw [if_neg h1] at h
      exact List.mem_cons_of_mem _ (ih h)
theorem mem_get {bs : List (Int × Bx)} {n : Int} {b : Bx} (hn : (keys bs).Nodup) (h : (n, b) ∈ bs) : get bs n = some b := by
  induction bs with
  | nil => simp at h
  | cons e bs ih =>
    rw [get_cons]
    have hn' : e.1 ∉ keys bs ∧ (keys bs).Nodup := by simpa [keys] using hn
    rcases List.mem_cons.mp h with h | h
    · subst h
      simp
    · have : ¬ e.1 = n := fun q => hn'.1 (by rw [q]; exact List.mem_map.mpr ⟨_, h, rfl⟩)
      rw [if_neg this]
      exact ih hn'.2 h
theorem nodup_lt {l : List Int} (h : l.Pairwise (· < ·)) : l.Nodup := h.imp fun h => Int.ne_of_lt h

/-! ### pointers counted -/
def cnt (l : List (Option Int)) (n : Int) : Nat := l.count (some n)
def one (x : Option Int) (n : Int) : Nat := if x = some n then 1 else 0
def scnt (bs : List (Int × Bx)) (n : Int) : Nat := (bs.map fun e => cnt e.2.slots n).sum
theorem cnt_nil (n : Int) : cnt [] n = 0 := rfl
theorem cnt_cons (x : Option Int) (l : List (Option Int)) (n : Int) : cnt (x :: l) n = one x n + cnt l n := by
  unfold cnt one
  rw [List.count_cons]
  by_cases h : x = some n
  · simp [h]; omega
  · simp [h]
theorem cnt_append (a b : List (Option Int)) (n : Int) : cnt (a ++ b) n = cnt a n + cnt b n := List.count_append
theorem cnt_set : ∀ {l : List (Option Int)} {i : Nat} {o : Option Int} (x : Option Int) (n : Int), l[i]? = some o → cnt (l.set i x) n + one o n = cnt l n + one x n
  | [], i, o, x, n, h => by simp at h
  | y :: l, 0, o, x, n, h => by
    have : y = o := by simpa using h
    subst this
    rw [List.set_cons_zero, cnt_cons, cnt_cons]
    omega
  | y :: l, i + 1, o, x, n, h => by
    have ih := cnt_set x n (show l[i]? = some o by simpa using h)
    rw [List.set_cons_succ, cnt_cons, cnt_cons]
    omega
theorem cnt_pos {l : List (Option Int)} {n : Int} : 0 < cnt l n ↔ some n ∈ l := by
  unfold cnt
  exact List.count_pos_iff
theorem cnt_none : ∀ (k : Nat) (n : Int), cnt (List.replicate k none) n = 0
  | 0, n => rfl
  | k + 1, n => by
    rw [List.replicate_succ, cnt_cons, cnt_none k n]
    simp [one]
theorem scnt_nil (n : Int) : scnt [] n = 0 := rfl
theorem scnt_cons (e : Int × Bx) (bs : List (Int × Bx)) (n : Int) : scnt (e :: bs) n = cnt e.2.slots n + scnt bs n := by simp [scnt]
theorem scnt_append (a b : List (Int × Bx)) (n : Int) : scnt (a ++ b) n = scnt a n + scnt b n := by simp [scnt]
theorem scnt_chg_same {k : Int} {f : Bx → Bx} (hf : ∀ b, (f b).slots = b.slots) (n : Int) : ∀ bs, scnt (chg bs k f) n = scnt bs n
  | [] => rfl
  | e :: bs => by
    have ih := scnt_chg_same (k := k) hf n bs
    have e1 : chg (e :: bs) k f = (if e.1 = k then (e.1, f e.2) else e) :: chg bs k f := rfl
    rw [e1, scnt_cons, scnt_cons, ih]
    by_cases h : e.1 = k
    · simp [h, hf]
    · simp [h]
theorem chg_no {k : Int} {f : Bx → Bx} : ∀ {bs : List (Int × Bx)}, k ∉ keys bs → chg bs k f = bs
  | [], _ => rfl
  | e :: bs, h => by
    have h' : k ≠ e.1 ∧ k ∉ keys bs := by simpa [keys] using h
    have e1 : chg (e :: bs) k f = (if e.1 = k then (e.1, f e.2) else e) :: chg bs k f := rfl
    rw [e1, chg_no h'.2, if_neg (fun q => h'.1 q.symm)]
theorem rm_no {k : Int} : ∀ {bs : List (Int × Bx)}, k ∉ keys bs → rm bs k = bs
  | [], _ => rfl
  | e :: bs, h => by
    have h' : k ≠ e.1 ∧ k ∉ keys bs := by simpa [keys] using h
    have e1 : rm (e :: bs) k = e :: rm bs k := by
      unfold rm
      have : ¬ e.1 = k := fun q => h'.1 q.symm
      simp [List.filter_cons, this]
    rw [e1, rm_no h'.2]
theorem scnt_chg {k : Int} {f : Bx → Bx} {b : Bx} (n : Int) : ∀ {bs : List (Int × Bx)}, (keys bs).Nodup → get bs k = some b → scnt (chg bs k f) n + cnt b.slots n = scnt bs n + cnt (f b).slots n
  | [], _, h => by simp [get_nil] at h
  | e :: bs, hn, h => by
    have hn' : e.1 ∉ keys bs ∧ (keys bs).Nodup := by simpa [keys] using hn
    have e1 : chg (e :: bs) k f = (if e.1 = k then (e.1, f e.2) else e) :: chg bs k f := rfl
    rw [get_cons] at h
    rw [e1, scnt_cons, scnt_cons]
    by_cases h1 : e.1 = k
    · rw [if_pos h1] at h
      have : e.2 = b := Option.some.inj h
      rw [if_pos h1, chg_no (by rw [← h1]; exact hn'.1), this]
      show cnt (f b).slots n + _ + _ = _
      omega
    · rw [if_neg h1] at h
      have ih := scnt_chg (f := f) n hn'.2 h
      rw [if_neg h1]
      omega
theorem scnt_rm {k : Int} {b : Bx} (n : Int) : ∀ {bs : List (Int × Bx)}, (keys bs).Nodup → get bs k = some b → scnt (rm bs k) n + cnt b.slots n = scnt bs n
  | [], _, h => by simp [get_nil] at h
  | e :: bs, hn, h => by
    have hn' : e.1 ∉ keys bs ∧ (keys bs).Nodup := by simpa [keys] using hn
    rw [get_cons] at h
    rw [scnt_cons]
    by_cases h1 : e.1 = k
    · rw [if_pos h1] at h
      have : e.2 = b := Option.some.inj h
      have e1 : rm (e :: bs) k = rm bs k := by unfold rm; simp [List.filter_cons, h1]
      rw [e1, rm_no (by rw [← h1]; exact hn'.1), this]
      omega
    · rw [if_neg h1] at h
      have ih := scnt_rm n hn'.2 h
      have e1 : rm (e :: bs) k = e :: rm bs k := by unfold rm; simp [List.filter_cons, h1]
      rw [e1, scnt_cons]
      omega
theorem scnt_le {bs : List (Int × Bx)} {k : Int} {b : Bx} (n : Int) (h : get bs k = some b) : cnt b.slots n ≤ scnt bs n := by
  induction bs with
  | nil => simp [get_nil] at h
  | cons e bs ih =>
    rw [get_cons] at h
    rw [scnt_cons]
    by_cases h1 : e.1 = k
    · rw [if_pos h1] at h
      have : e.2 = b := Option.some.inj h
      rw [this]
      omega
    · rw [if_neg h1] at h
      have := ih h
      omega

/-! ### what a step of letting go does -/
def room (bs : List (Int × Bx)) : Nat := (bs.map fun e => e.2.slots.length).sum
theorem room_cons (e : Int × Bx) (bs : List (Int × Bx)) : room (e :: bs) = e.2.slots.length + room bs := by simp [room]
theorem room_chg {k : Int} {f : Bx → Bx} (hf : ∀ b, (f b).slots.length = b.slots.length) : ∀ bs, room (chg bs k f) = room bs
  | [] => rfl
  | e :: bs => by
    have ih := room_chg (k := k) hf bs
    have e1 : chg (e :: bs) k f = (if e.1 = k then (e.1, f e.2) else e) :: chg bs k f := rfl
    rw [e1, room_cons, room_cons, ih]
    by_cases h : e.1 = k
    · simp [h, hf]
    · simp [h]
theorem room_rm {k : Int} {b : Bx} : ∀ {bs : List (Int × Bx)}, (keys bs).Nodup → get bs k = some b → room (rm bs k) + b.slots.length = room bs
  | [], _, h => by simp [get_nil] at h
  | e :: bs, hn, h => by
    have hn' : e.1 ∉ keys bs ∧ (keys bs).Nodup := by simpa [keys] using hn
    rw [get_cons] at h
    rw [room_cons]
    by_cases h1 : e.1 = k
    · rw [if_pos h1] at h
      have : e.2 = b := Option.some.inj h
      have e1 : rm (e :: bs) k = rm bs k := by unfold rm; simp [List.filter_cons, h1]
      rw [e1, rm_no (by rw [← h1]; exact hn'.1), this]
      omega
    · rw [if_neg h1] at h
      have ih := room_rm hn'.2 h
      have e1 : rm (e :: bs) k = e :: rm bs k := by unfold rm; simp [List.filter_cons, h1]
      rw [e1, room_cons]
      omega
theorem room_le {bs : List (Int × Bx)} (h : ∀ n b, get bs n = some b → b.slots.length ≤ 6) (hn : (keys bs).Nodup) : room bs ≤ 6 * bs.length := by
  have h' : ∀ e ∈ bs, e.2.slots.length ≤ 6 := fun e he => h e.1 e.2 (mem_get hn he)
  clear h hn
  induction bs with
  | nil => simp [room]
  | cons e bs ih =>
    rw [room_cons, List.length_cons]
    have := ih fun e he => h' e (List.mem_cons_of_mem _ he)
    have := h' e List.mem_cons_self
    omega

def low (b : Bx) : Bx := { b with wt := b.wt - 1, sus := true }
def bump (b : Bx) : Bx := { b with wt := b.wt + 1 }
/-- the first of the row is let go: the boxes behind it, what waits behind it, what is freed by it -/
def fall (bs : List (Int × Bx)) (w : List (Option Int)) : Option Int → List (Int × Bx) × List (Option Int) × List Int
  | none => (bs, w, [])
  | some n => match get bs n with
    | none => (bs, w, [])
    | some b => if b.wt = 1 then (rm bs n, w ++ b.slots, [n]) else (chg bs n low, w, [])
def go : Nat → List (Int × Bx) → List (Option Int) → List (Int × Bx) × List Int
  | 0, bs, _ => (bs, [])
  | _ + 1, bs, [] => (bs, [])
  | m + 1, bs, x :: w => ((go m (fall bs w x).1 (fall bs w x).2.1).1, (fall bs w x).2.2 ++ (go m (fall bs w x).1 (fall bs w x).2.1).2)
/-- all of the row is let go -/
def run (bs : List (Int × Bx)) (w : List (Option Int)) : List (Int × Bx) × List Int := go (w.length + room bs) bs w

/-- weights are right, with the pointers of the row w counted too -/
structure Wf (P : Pl) (w : List (Option Int)) : Prop where
  hl : P.hands.length = 8
  ks : (keys P.boxes).Pairwise (· < ·)
  lo : ∀ n, n ∈ keys P.boxes → 0 ≤ n ∧ n < P.made
  few : P.boxes.length ≤ 60
  sl : ∀ n b, get P.boxes n = some b → b.slots.length ≤ 6
  wt : ∀ n b, get P.boxes n = some b → b.wt = ((cnt P.hands n + scnt P.boxes n + cnt w n : Nat) : Int) ∧ 1 ≤ b.wt
  cl : ∀ n, 0 < cnt P.hands n + scnt P.boxes n + cnt w n → ∃ b, get P.boxes n = some b
  m0 : 0 ≤ P.made
theorem Wf.nd {P : Pl} {w : List (Option Int)} (h : Wf P w) : (keys P.boxes).Nodup := nodup_lt h.ks

/-- one step keeps the weights right; the measure falls by one -/
theorem fall_ok {P : Pl} {x : Option Int} {w : List (Option Int)} (h : Wf P (x :: w)) :
    Wf { P with boxes := (fall P.boxes w x).1 } (fall P.boxes w x).2.1 ∧ (fall P.boxes w x).2.1.length + room (fall P.boxes w x).1 = w.length + room P.boxes := by
  cases x with
  | none =>
    have c0 : ∀ n, cnt (none :: w) n = cnt w n := fun n => by rw [cnt_cons]; simp [one]
    refine ⟨⟨h.hl, h.ks, h.lo, h.few, h.sl, fun n b e => ?_, fun n e => ?_, h.m0⟩, rfl⟩
    · have := h.wt n b e
      rw [c0] at this
      exact this
    · exact h.cl n (by rw [c0]; exact e)
  | some k =>
    have c0 : ∀ n, cnt (some k :: w) n = one (some k) n + cnt w n := fun n => cnt_cons _ _ _
    obtain ⟨b, hb⟩ := h.cl k (by rw [c0]; simp [one]; omega)
    obtain ⟨wb, w1⟩ := h.wt k b hb
    have nd := h.nd
    by_cases hw : b.wt = 1
    · have ef : fall P.boxes w (some k) = (rm P.boxes k, w ++ b.slots, [k]) := by
        show (match get P.boxes k with | none => _ | some b => _) = _
        rw [hb]
        show (if b.wt = 1 then _ else _) = _
        rw [if_pos hw]
      rw [ef]
      have o1 : one (some k) k = 1 := by simp [one]
      have z : cnt P.hands k + scnt P.boxes k + cnt w k = 0 := by
        rw [hw, c0, o1] at wb
        omega
      have sc : ∀ n, scnt (rm P.boxes k) n + cnt b.slots n = scnt P.boxes n := fun n => scnt_rm n nd hb
      refine ⟨⟨h.hl, ?_, fun n hn => ?_, Nat.le_trans (len_rm _ _) h.few, fun n c e => ?_, fun n c e => ?_, fun n e => ?_, h.m0⟩, ?_⟩
      · show (keys (rm P.boxes k)).Pairwise _
        rw [keys_rm]
        exact h.ks.filter _
      · have hn' : n ∈ keys (rm P.boxes k) := hn
        rw [keys_rm] at hn'
        exact h.lo n (List.mem_filter.mp hn').1
      · have e' : get (rm P.boxes k) n = some c := e
        rw [get_rm] at e'
        by_cases q : n = k
        · rw [if_pos q] at e'; cases e'
        · rw [if_neg q] at e'
          exact h.sl n c e'
      · have e' : get (rm P.boxes k) n = some c := e
        rw [get_rm] at e'
        by_cases q : n = k
        · rw [if_pos q] at e'; cases e'
        · rw [if_neg q] at e'
          obtain ⟨w2, w3⟩ := h.wt n c e'
          refine ⟨?_, w3⟩
          have := sc n
          show c.wt = ((cnt P.hands n + scnt (rm P.boxes k) n + cnt (w ++ b.slots) n : Nat) : Int)
          have o0 : one (some k) n = 0 := by
            unfold one
            rw [if_neg (fun q2 => q (Option.some.inj q2).symm)]
          rw [c0, o0] at w2
          rw [cnt_append, w2]
          omega
      · have e' : 0 < cnt P.hands n + scnt (rm P.boxes k) n + cnt (w ++ b.slots) n := e
        rw [cnt_append] at e'
        have := sc n
        show ∃ b, get (rm P.boxes k) n = some b
        rw [get_rm]
        by_cases q : n = k
        · subst q
          omega
        · rw [if_neg q]
          exact h.cl n (by rw [c0]; omega)
      · show (w ++ b.slots).length + room (rm P.boxes k) = _
        rw [List.length_append]
        have := room_rm nd hb
        omega
    · have ef : fall P.boxes w (some k) = (chg P.boxes k low, w, []) := by
        show (match get P.boxes k with | none => _ | some b => _) = _
        rw [hb]
        show (if b.wt = 1 then _ else _) = _
        rw [if_neg hw]
      rw [ef]
      have sc : ∀ n, scnt (chg P.boxes k low) n = scnt P.boxes n := fun n => scnt_chg_same (f := low) (fun _ => rfl) n _
      refine ⟨⟨h.hl, ?_, fun n hn => ?_, ?_, fun n c e => ?_, fun n c e => ?_, fun n e => ?_, h.m0⟩, ?_⟩
      · show (keys (chg P.boxes k low)).Pairwise _
        rw [keys_chg]
        exact h.ks
      · have hn' : n ∈ keys (chg P.boxes k low) := hn
        rw [keys_chg] at hn'
        exact h.lo n hn'
      · show (chg P.boxes k low).length ≤ 60
        rw [len_chg]
        exact h.few
      · have e' : get (chg P.boxes k low) n = some c := e
        rw [get_chg] at e'
        cases g : get P.boxes n with
        | none => rw [g] at e'; cases e'
        | some d =>
          rw [g] at e'
          have e2 : (if n = k then low d else d) = c := Option.some.inj e'
          subst e2
          have := h.sl n d g
          by_cases q : n = k
          · rw [if_pos q]; exact this
          · rw [if_neg q]; exact this
      · have e' : get (chg P.boxes k low) n = some c := e
        rw [get_chg] at e'
        cases g : get P.boxes n with
        | none => rw [g] at e'; cases e'
        | some d =>
          rw [g] at e'
          have e2 : (if n = k then low d else d) = c := Option.some.inj e'
          subst e2
          obtain ⟨w2, w3⟩ := h.wt n d g
          show (if n = k then low d else d).wt = ((cnt P.hands n + scnt (chg P.boxes k low) n + cnt w n : Nat) : Int) ∧ _
          rw [sc n]
          by_cases q : n = k
          · subst q
            rw [if_pos rfl]
            have : d = b := Option.some.inj (g.symm.trans hb)
            subst this
            show d.wt - 1 = _ ∧ 1 ≤ d.wt - 1
            have o1 : one (some n) n = 1 := by simp [one]
            rw [c0, o1] at w2
            refine ⟨by omega, by omega⟩
          · rw [if_neg q]
            have o0 : one (some k) n = 0 := by
              unfold one
              rw [if_neg (fun q2 => q (Option.some.inj q2).symm)]
            rw [c0, o0] at w2
            exact ⟨by omega, w3⟩
      · have e' : 0 < cnt P.hands n + scnt (chg P.boxes k low) n + cnt w n := e
        rw [sc] at e'
        obtain ⟨c, hc⟩ := h.cl n (by rw [c0]; omega)
        show ∃ b, get (chg P.boxes k low) n = some b
        rw [get_chg, hc]
        exact ⟨_, rfl⟩
      · show w.length + room (chg P.boxes k low) = _
        rw [room_chg (f := low) (fun _ => rfl)]
theorem go_ok : ∀ {m : Nat} {P : Pl} {w : List (Option Int)}, Wf P w → w.length + room P.boxes = m → Wf { P with boxes := (go m P.boxes w).1 } []
  | 0, P, w, h, e => by
    have : w = [] := List.eq_nil_of_length_eq_zero (by omega)
    subst this
    exact h
  | m + 1, P, [], h, e => h
  | m + 1, P, x :: w, h, e => by
    obtain ⟨h1, e1⟩ := fall_ok h
    have := go_ok (m := m) h1 (by rw [List.length_cons] at e; show _ + room (fall P.boxes w x).1 = m; omega)
    exact this
theorem run_ok {P : Pl} {w : List (Option Int)} (h : Wf P w) : Wf { P with boxes := (run P.boxes w).1 } [] := go_ok h rfl

/-! ### a pointer becomes another one -/
def bumped (bs : List (Int × Bx)) : Option Int → List (Int × Bx)
  | none => bs
  | some n => chg bs n bump
def setSlot (s : Nat) (x : Option Int) (b : Bx) : Bx := { b with slots := b.slots.set s x }
def slotOf (bs : List (Int × Bx)) (n : Int) (s : Nat) : Option Int := match get bs n with
  | none => none
  | some b => b.slots.getD s none
/-- a hand points at x -/
def ptHand (P : Pl) (h : Nat) (x : Option Int) : Pl × List Int :=
  ({ P with hands := P.hands.set h x, boxes := (run (bumped P.boxes x) [P.hands.getD h none]).1 }, (run (bumped P.boxes x) [P.hands.getD h none]).2)
/-- a slot of the box n points at x -/
def ptSlot (P : Pl) (n : Int) (s : Nat) (x : Option Int) : Pl × List Int :=
  ({ P with boxes := (run (chg (bumped P.boxes x) n (setSlot s x)) [slotOf P.boxes n s]).1 }, (run (chg (bumped P.boxes x) n (setSlot s x)) [slotOf P.boxes n s]).2)
/-- a new box stands there, at which nothing points -/
def born (P : Pl) (size : Nat) : Pl := { P with boxes := P.boxes ++ [(P.made, ⟨List.replicate size none, 0, false⟩)], made := P.made + 1 }
def mk (P : Pl) (h size : Nat) : Pl × List Int := ptHand (born P size) h (some P.made)

/-- weights are right, but that of x may be 0 yet -/
structure Pre (P : Pl) (x : Option Int) : Prop where
  hl : P.hands.length = 8
  ks : (keys P.boxes).Pairwise (· < ·)
  lo : ∀ n, n ∈ keys P.boxes → 0 ≤ n ∧ n < P.made
  few : P.boxes.length ≤ 60
  sl : ∀ n b, get P.boxes n = some b → b.slots.length ≤ 6
  wt : ∀ n b, get P.boxes n = some b → b.wt = ((cnt P.hands n + scnt P.boxes n : Nat) : Int) ∧ (1 ≤ b.wt ∨ x = some n)
  cl : ∀ n, 0 < cnt P.hands n + scnt P.boxes n → ∃ b, get P.boxes n = some b
  m0 : 0 ≤ P.made
  hx : ∀ n, x = some n → ∃ b, get P.boxes n = some b
theorem Wf.pre {P : Pl} {x : Option Int} (h : Wf P []) (hx : ∀ n, x = some n → ∃ b, get P.boxes n = some b) : Pre P x :=
  ⟨h.hl, h.ks, h.lo, h.few, h.sl, fun n b e => by
    obtain ⟨a, b⟩ := h.wt n b e
    exact ⟨a, .inl b⟩, fun n e => h.cl n e, h.m0, hx⟩
/-- what a hand holds is alive -/
theorem Wf.hand {P : Pl} {w : List (Option Int)} (h : Wf P w) {i : Nat} {n : Int} (e : P.hands.getD i none = some n) : ∃ b, get P.boxes n = some b := by
  refine h.cl n ?_
  have : some n ∈ P.hands := by
    rw [List.getD_eq_getElem?_getD] at e
    cases q : P.hands[i]? with
    | none => rw [q] at e; cases e
    | some y =>
      rw [q] at e
      have : y = some n := e
      rw [← this]
      exact List.mem_of_getElem? q
  have := cnt_pos.mpr this
  omega
theorem Wf.slot {P : Pl} {w : List (Option Int)} (h : Wf P w) {k : Int} {b : Bx} {i : Nat} {n : Int} (hb : get P.boxes k = some b) (e : b.slots.getD i none = some n) : ∃ b, get P.boxes n = some b := by
  refine h.cl n ?_
  have : some n ∈ b.slots := by
    rw [List.getD_eq_getElem?_getD] at e
    cases q : b.slots[i]? with
    | none => rw [q] at e; cases e
    | some y =>
      rw [q] at e
      have : y = some n := e
      rw [← this]
      exact List.mem_of_getElem? q
  have h1 := cnt_pos.mpr this
  have h2 := scnt_le n hb
  omega
theorem get_bumped {bs : List (Int × Bx)} {x : Option Int} {n : Int} : get (bumped bs x) n = (get bs n).map fun b => if x = some n then bump b else b := by
  cases x with
  | none =>
    show get bs n = _
    cases get bs n <;> simp
  | some k =>
    show get (chg bs k bump) n = _
    rw [get_chg]
    cases get bs n with
    | none => rfl
    | some b =>
      by_cases q : n = k
      · simp [q]
      · have : ¬ (some k = some n) := fun z => q (Option.some.inj z).symm
        simp [q, this]
theorem keys_bumped {bs : List (Int × Bx)} {x : Option Int} : keys (bumped bs x) = keys bs := by
  cases x with
  | none => rfl
  | some k => exact keys_chg _ _ _
theorem len_bumped {bs : List (Int × Bx)} {x : Option Int} : (bumped bs x).length = bs.length := by
  cases x with
  | none => rfl
  | some k => exact len_chg _ _ _
theorem scnt_bumped {bs : List (Int × Bx)} {x : Option Int} (n : Int) : scnt (bumped bs x) n = scnt bs n := by
  cases x with
  | none => rfl
  | some k => exact scnt_chg_same (f := bump) (fun _ => rfl) n _
theorem room_bumped {bs : List (Int × Bx)} {x : Option Int} : room (bumped bs x) = room bs := by
  cases x with
  | none => rfl
  | some k => exact room_chg (f := bump) (fun _ => rfl) _
theorem getD_some {l : List (Option Int)} {i : Nat} (h : i < l.length) : l[i]? = some (l.getD i none) := by
  rw [List.getD_eq_getElem?_getD, List.getElem?_eq_getElem h]
  rfl
/-- a hand is set: what it pointed at waits -/
theorem Pre.hand {P : Pl} {x : Option Int} (h : Pre P x) {i : Nat} (hi : i < 8) : Wf { P with hands := P.hands.set i x, boxes := bumped P.boxes x } [P.hands.getD i none] := by
  have hold := getD_some (l := P.hands) (i := i) (by rw [h.hl]; exact hi)
  have c1 : ∀ n, cnt (P.hands.set i x) n + one (P.hands.getD i none) n = cnt P.hands n + one x n := fun n => cnt_set x n hold
  have c2 : ∀ n, cnt [P.hands.getD i none] n = one (P.hands.getD i none) n := fun n => by rw [cnt_cons, cnt_nil]; rfl
  refine ⟨by show (P.hands.set i x).length = 8; rw [List.length_set]; exact h.hl, by show (keys (bumped P.boxes x)).Pairwise _; rw [keys_bumped]; exact h.ks, fun n hn => ?_, by show (bumped P.boxes x).length ≤ 60; rw [len_bumped]; exact h.few, fun n c e => ?_, fun n c e => ?_, fun n e => ?_, h.m0⟩
  · have hn' : n ∈ keys (bumped P.boxes x) := hn
    rw [keys_bumped] at hn'
    exact h.lo n hn'
  · have e' : get (bumped P.boxes x) n = some c := e
    rw [get_bumped] at e'
    cases g : get P.boxes n with
    | none => rw [g] at e'; cases e'
    | some d =>
      rw [g] at e'
      have e2 : (if x = some n then bump d else d) = c := Option.some.inj e'
      subst e2
      have := h.sl n d g
      by_cases q : x = some n
      · rw [if_pos q]; exact this
      · rw [if_neg q]; exact this
  · have e' : get (bumped P.boxes x) n = some c := e
    rw [get_bumped] at e'
    cases g : get P.boxes n with
    | none => rw [g] at e'; cases e'
    | some d =>
      rw [g] at e'
      have e2 : (if x = some n then bump d else d) = c := Option.some.inj e'
      subst e2
      obtain ⟨w2, w3⟩ := h.wt n d g
      show _ = ((cnt (P.hands.set i x) n + scnt (bumped P.boxes x) n + cnt [P.hands.getD i none] n : Nat) : Int) ∧ _
      rw [scnt_bumped, c2]
      have := c1 n
      by_cases q : x = some n
      · rw [if_pos q]
        have o1 : one x n = 1 := by simp [one, q]
        show d.wt + 1 = _ ∧ 1 ≤ d.wt + 1
        refine ⟨by omega, by omega⟩
      · rw [if_neg q]
        have o0 : one x n = 0 := by simp [one, q]
        refine ⟨by omega, w3.resolve_right q⟩
  · have e' : 0 < cnt (P.hands.set i x) n + scnt (bumped P.boxes x) n + cnt [P.hands.getD i none] n := e
    rw [scnt_bumped, c2] at e'
    have := c1 n
    show ∃ b, get (bumped P.boxes x) n = some b
    rw [get_bumped]
    have : ∃ b, get P.boxes n = some b := by
      by_cases q : x = some n
      · exact h.hx n q
      · have o0 : one x n = 0 := by simp [one, q]
        exact h.cl n (by omega)
    obtain ⟨b, hb⟩ := this
    rw [hb]
    exact ⟨_, rfl⟩
/-- a slot is set: what it pointed at waits -/
theorem Pre.slot {P : Pl} {x : Option Int} (h : Pre P x) {k : Int} {b : Bx} {i : Nat} (hb : get P.boxes k = some b) (hi : i < b.slots.length) :
    Wf { P with boxes := chg (bumped P.boxes x) k (setSlot i x) } [b.slots.getD i none] := by
  have hold := getD_some hi
  have nd : (keys P.boxes).Nodup := nodup_lt h.ks
  have c1 : ∀ n, cnt (b.slots.set i x) n + one (b.slots.getD i none) n = cnt b.slots n + one x n := fun n => cnt_set x n hold
  have c2 : ∀ n, cnt [b.slots.getD i none] n = one (b.slots.getD i none) n := fun n => by rw [cnt_cons, cnt_nil]; rfl
  have hb' : get (bumped P.boxes x) k = some (if x = some k then bump b else b) := by rw [get_bumped, hb]; rfl
  have hbs : (if x = some k then bump b else b).slots = b.slots := by
    by_cases q : x = some k
    · rw [if_pos q]; rfl
    · rw [if_neg q]
  have c3 : ∀ n, scnt (chg (bumped P.boxes x) k (setSlot i x)) n + cnt b.slots n = scnt P.boxes n + cnt (b.slots.set i x) n := fun n => by
    have := scnt_chg (f := setSlot i x) n (by rw [keys_bumped]; exact nd) hb'
    rw [scnt_bumped, hbs] at this
    have e : (setSlot i x (if x = some k then bump b else b)).slots = b.slots.set i x := by
      show (if x = some k then bump b else b).slots.set i x = _
      rw [hbs]
    rw [e] at this
    exact this
  have gg : ∀ n, get (chg (bumped P.boxes x) k (setSlot i x)) n = (get P.boxes n).map fun d => if n = k then setSlot i x (if x = some n then bump d else d) else (if x = some n then bump d else d) := fun n => by
    rw [get_chg, get_bumped]
    cases get P.boxes n <;> rfl
  have kk : keys (chg (bumped P.boxes x) k (setSlot i x)) = keys P.boxes := by rw [keys_chg, keys_bumped]
  refine ⟨h.hl, by show (keys (chg (bumped P.boxes x) k (setSlot i x))).Pairwise _; rw [kk]; exact h.ks, fun n hn => ?_, by show (chg (bumped P.boxes x) k (setSlot i x)).length ≤ 60; rw [len_chg, len_bumped]; exact h.few, fun n c e => ?_, fun n c e => ?_, fun n e => ?_, h.m0⟩
  · have hn' : n ∈ keys (chg (bumped P.boxes x) k (setSlot i x)) := hn
    rw [kk] at hn'
    exact h.lo n hn'
  · have e' : get (chg (bumped P.boxes x) k (setSlot i x)) n = some c := e
    rw [gg] at e'
    cases g : get P.boxes n with
    | none => rw [g] at e'; cases e'
    | some d =>
      rw [g] at e'
      have e2 : (if n = k then setSlot i x (if x = some n then bump d else d) else (if x = some n then bump d else d)) = c := Option.some.inj e'
      subst e2
      have := h.sl n d g
      have q : (if x = some n then bump d else d).slots = d.slots := by
        by_cases q : x = some n
        · rw [if_pos q]; rfl
        · rw [if_neg q]
      by_cases q2 : n = k
      · rw [if_pos q2]
        show ((if x = some n then bump d else d).slots.set i x).length ≤ 6
        rw [List.length_set, q]
        exact this
      · rw [if_neg q2, q]
        exact this
  · have e' : get (chg (bumped P.boxes x) k (setSlot i x)) n = some c := e
    rw [gg] at e'
    cases g : get P.boxes n with
    | none => rw [g] at e'; cases e'
    | some d =>
      rw [g] at e'
      have e2 : (if n = k then setSlot i x (if x = some n then bump d else d) else (if x = some n then bump d else d)) = c := Option.some.inj e'
      have wc : c.wt = (if x = some n then bump d else d).wt := by
        rw [← e2]
        by_cases q2 : n = k
        · rw [if_pos q2]; rfl
        · rw [if_neg q2]
      obtain ⟨w2, w3⟩ := h.wt n d g
      rw [wc]
      show _ = ((cnt P.hands n + scnt (chg (bumped P.boxes x) k (setSlot i x)) n + cnt [b.slots.getD i none] n : Nat) : Int) ∧ _
      rw [c2]
      have := c1 n
      have := c3 n
      by_cases q : x = some n
      · rw [if_pos q]
        have o1 : one x n = 1 := by simp [one, q]
        show d.wt + 1 = _ ∧ 1 ≤ d.wt + 1
        refine ⟨by omega, by omega⟩
      · rw [if_neg q]
        have o0 : one x n = 0 := by simp [one, q]
        refine ⟨by omega, w3.resolve_right q⟩
  · have e' : 0 < cnt P.hands n + scnt (chg (bumped P.boxes x) k (setSlot i x)) n + cnt [b.slots.getD i none] n := e
    rw [c2] at e'
    have := c1 n
    have := c3 n
    show ∃ b, get (chg (bumped P.boxes x) k (setSlot i x)) n = some b
    rw [gg]
    have : ∃ b, get P.boxes n = some b := by
      by_cases q : x = some n
      · exact h.hx n q
      · have o0 : one x n = 0 := by simp [one, q]
        exact h.cl n (by omega)
    obtain ⟨b, hb⟩ := this
    rw [hb]
    exact ⟨_, rfl⟩
theorem scnt_born (P : Pl) (size : Nat) (n : Int) : scnt (born P size).boxes n = scnt P.boxes n := by
  show scnt (P.boxes ++ _) n = _
  rw [scnt_append, scnt_cons, scnt_nil]
  show _ + (cnt (List.replicate size none) n + 0) = _
  rw [cnt_none]
  rfl
theorem get_born {P : Pl} {w : List (Option Int)} (h : Wf P w) (size : Nat) (n : Int) : get (born P size).boxes n = if n = P.made then some ⟨List.replicate size none, 0, false⟩ else get P.boxes n := by
  show get (P.boxes ++ _) n = _
  rw [get_snoc]
  by_cases q : n = P.made
  · have : get P.boxes n = none := get_none.mpr fun z => by have := (h.lo n z).2; omega
    rw [this]
    simp [q]
  · have : ¬ P.made = n := fun z => q z.symm
    rw [if_neg q]
    cases get P.boxes n <;> simp [this]
theorem Wf.born {P : Pl} (h : Wf P []) {size : Nat} (hs : size ≤ 6) (hf : P.boxes.length < 60) : Pre (born P size) (some P.made) := by
  have gm := get_born h size
  refine ⟨h.hl, ?_, fun n hn => ?_, ?_, fun n b e => ?_, fun n b e => ?_, fun n e => ?_, ?_, fun n e => ?_⟩
  · show (keys (P.boxes ++ _)).Pairwise _
    unfold keys
    rw [List.map_append, List.pairwise_append]
    refine ⟨h.ks, List.pairwise_singleton _ _, fun a ha b hb => ?_⟩
    have : b = P.made := by simpa using hb
    rw [this]
    exact (h.lo a ha).2
  · have hn' : n ∈ keys (P.boxes ++ [(P.made, _)]) := hn
    unfold keys at hn'
    rw [List.map_append, List.mem_append] at hn'
    have m0 := h.m0
    show 0 ≤ n ∧ n < P.made + 1
    rcases hn' with q | q
    · have := h.lo n q
      omega
    · have : n = P.made := by simpa using q
      omega
  · show (P.boxes ++ _).length ≤ 60
    rw [List.length_append]
    show P.boxes.length + 1 ≤ 60
    omega
  · rw [gm] at e
    by_cases q : n = P.made
    · rw [if_pos q] at e
      have := Option.some.inj e
      rw [← this]
      show (List.replicate size none).length ≤ 6
      rw [List.length_replicate]
      exact hs
    · rw [if_neg q] at e
      exact h.sl n b e
  · rw [gm] at e
    rw [scnt_born]
    show _ = ((cnt P.hands n + _ : Nat) : Int) ∧ _
    by_cases q : n = P.made
    · rw [if_pos q] at e
      have eb := Option.some.inj e
      refine ⟨?_, .inr (by rw [q])⟩
      rw [← eb]
      show (0 : Int) = _
      have : ¬ 0 < cnt P.hands n + scnt P.boxes n := fun z => by
        obtain ⟨c, hc⟩ := h.cl n z
        have := (h.lo n (get_keys.mp ⟨c, hc⟩)).2
        omega
      omega
    · rw [if_neg q] at e
      obtain ⟨a, c⟩ := h.wt n b e
      exact ⟨a, .inl c⟩
  · rw [scnt_born] at e
    have e' : 0 < cnt P.hands n + scnt P.boxes n := e
    obtain ⟨c, hc⟩ := h.cl n e'
    rw [gm]
    by_cases q : n = P.made
    · rw [if_pos q]; exact ⟨_, rfl⟩
    · rw [if_neg q]; exact ⟨c, hc⟩
  · have := h.m0
    show 0 ≤ P.made + 1
    omega
  · rw [gm, ← Option.some.inj e, if_pos rfl]
    exact ⟨_, rfl⟩
/-- the numbers of those that are suspects -/
def susp (P : Pl) : List Int := (keys P.boxes).filter fun n => match get P.boxes n with | none => false | some b => b.sus
theorem ptHand_ok {P : Pl} {x : Option Int} (h : Pre P x) {i : Nat} (hi : i < 8) : Wf (ptHand P i x).1 [] := run_ok (h.hand hi)
theorem ptSlot_ok {P : Pl} {x : Option Int} (h : Pre P x) {k : Int} {b : Bx} {i : Nat} (hb : get P.boxes k = some b) (hi : i < b.slots.length) : Wf (ptSlot P k i x).1 [] := by
  have e : slotOf P.boxes k i = b.slots.getD i none := by
    unfold slotOf
    rw [hb]
  have := run_ok (h.slot hb hi)
  rw [← e] at this
  exact this
theorem mk_ok {P : Pl} (h : Wf P []) {i size : Nat} (hi : i < 8) (hs : size ≤ 6) (hf : P.boxes.length < 60) : Wf (mk P i size).1 [] := ptHand_ok (h.born hs hf) hi
def pl0 : Pl := ⟨List.replicate 8 none, [], 0⟩
theorem wf0 : Wf pl0 [] := ⟨rfl, List.Pairwise.nil, fun n h => by simp [pl0, keys] at h, by decide, fun n b e => by simp [pl0, get_nil] at e, fun n b e => by simp [pl0, get_nil] at e, fun n e => by
  have h1 : cnt pl0.hands n = 0 := cnt_none 8 n
  have h2 : scnt pl0.boxes n = 0 := rfl
  rw [h1, h2, cnt_nil] at e
  omega, by decide⟩
end BP

/-! Piles whose slots are all empty. Own work; core Lean alone. -/
namespace BP
theorem go_nones : ∀ {m : Nat} {bs : List (Int × Bx)} {w : List (Option Int)}, (∀ x ∈ w, x = none) → go m bs w = (bs, [])
  | 0, bs, w, _ => rfl
  | m + 1, bs, [], _ => rfl
  | m + 1, bs, x :: w, h => by
    have e : x = none := h x List.mem_cons_self
    subst e
    show ((go m bs w).1, [] ++ (go m bs w).2) = (bs, [])
    rw [go_nones fun y hy => h y (List.mem_cons_of_mem _ hy)]
    rfl
theorem run_none (bs : List (Int × Bx)) : run bs [none] = (bs, []) := go_nones fun x hx => by simpa using hx
/-- a box without pointers of its own is let go -/
theorem run_some {bs : List (Int × Bx)} {n : Int} {b : Bx} (hb : get bs n = some b) (h0 : ∀ x ∈ b.slots, x = none) : run bs [some n] = if b.wt = 1 then (rm bs n, [n]) else (chg bs n low, []) := by
  show go (1 + room bs) bs [some n] = _
  rw [Nat.add_comm]
  show ((go (room bs) (fall bs [] (some n)).1 (fall bs [] (some n)).2.1).1, (fall bs [] (some n)).2.2 ++ (go (room bs) (fall bs [] (some n)).1 (fall bs [] (some n)).2.1).2) = _
  have ef : fall bs [] (some n) = if b.wt = 1 then (rm bs n, b.slots, [n]) else (chg bs n low, [], []) := by
    show (match get bs n with | none => _ | some b => _) = _
    rw [hb]
    rfl
  rw [ef]
  by_cases hw : b.wt = 1
  · rw [if_pos hw, if_pos hw, go_nones h0]
    rfl
  · rw [if_neg hw, if_neg hw, go_nones (fun x hx => by cases hx)]
    rfl
/-- all slots are empty -/
def Bare (P : Pl) : Prop := ∀ n b, get P.boxes n = some b → ∀ x ∈ b.slots, x = none
theorem cnt_nones {l : List (Option Int)} (h : ∀ x ∈ l, x = none) (n : Int) : cnt l n = 0 := by
  cases e : cnt l n with
  | zero => rfl
  | succ k =>
    have : 0 < cnt l n := by omega
    have := h _ (cnt_pos.mp this)
    cases this
theorem scnt_bare {bs : List (Int × Bx)} (hn : (keys bs).Nodup) (h : ∀ n b, get bs n = some b → ∀ x ∈ b.slots, x = none) (n : Int) : scnt bs n = 0 := by
  have h' : ∀ e ∈ bs, ∀ x ∈ e.2.slots, x = none := fun e he => h e.1 e.2 (mem_get hn he)
  clear h hn
  induction bs with
  | nil => rfl
  | cons e bs ih =>
    rw [scnt_cons, cnt_nones (h' e List.mem_cons_self), ih fun e he => h' e (List.mem_cons_of_mem _ he)]
theorem Bare.wt {P : Pl} (h : Bare P) (W : Wf P []) {n : Int} {b : Bx} (hb : get P.boxes n = some b) : b.wt = (cnt P.hands n : Int) ∧ 1 ≤ b.wt := by
  obtain ⟨a, c⟩ := W.wt n b hb
  rw [scnt_bare W.nd h n, cnt_nil] at a
  exact ⟨by omega, c⟩
theorem Bare.held {P : Pl} (h : Bare P) (W : Wf P []) (n : Int) : n ∈ keys P.boxes ↔ some n ∈ P.hands := by
  constructor
  · intro q
    obtain ⟨b, hb⟩ := get_keys.mpr q
    obtain ⟨a, c⟩ := h.wt W hb
    exact cnt_pos.mp (by omega)
  · intro q
    have := cnt_pos.mpr q
    exact get_keys.mp (W.cl n (by omega))
/-- what the hands hold, without the empty ones -/
def somes (hs : List (Option Int)) : List Int := hs.filterMap id
theorem mem_somes {hs : List (Option Int)} {n : Int} : n ∈ somes hs ↔ some n ∈ hs := by
  unfold somes
  rw [List.mem_filterMap]
  constructor
  · rintro ⟨x, hx, e⟩
    have : x = some n := e
    rw [← this]
    exact hx
  · intro h
    exact ⟨_, h, rfl⟩
theorem somes_len (hs : List (Option Int)) : (somes hs).length ≤ hs.length := List.length_filterMap_le _ _
theorem somes_cons (x : Option Int) (hs : List (Option Int)) : somes (x :: hs) = (match x with | none => somes hs | some n => n :: somes hs) := by
  cases x <;> rfl
theorem somes_append (a b : List (Option Int)) : somes (a ++ b) = somes a ++ somes b := List.filterMap_append
theorem count_somes (n : Int) : ∀ hs : List (Option Int), (somes hs).count n = cnt hs n
  | [] => rfl
  | x :: hs => by
    rw [somes_cons, cnt_cons, ← count_somes n hs]
    cases x with
    | none => simp [one]
    | some m =>
      show (m :: somes hs).count n = _
      rw [List.count_cons]
      by_cases q : m = n
      · simp [one, q]; omega
      · simp [one, q]
/-- as many alive as hands at most -/
theorem nodup_le {a : List Int} : ∀ {b : List Int}, a.Nodup → (∀ n ∈ a, n ∈ b) → a.length ≤ b.length := by
  induction a with
  | nil => intro b _ _; exact Nat.zero_le _
  | cons x a ih =>
    intro b hn h
    have hx := h x List.mem_cons_self
    have hn' := List.nodup_cons.mp hn
    have := ih (b := b.erase x) hn'.2 fun n q => (List.mem_erase_of_ne (fun z => hn'.1 (by rw [← z]; exact q))).mpr (h n (List.mem_cons_of_mem _ q))
    rw [List.length_erase_of_mem hx] at this
    have : 0 < b.length := List.length_pos_of_mem hx
    rw [List.length_cons]
    omega
theorem Bare.few {P : Pl} (h : Bare P) (W : Wf P []) : P.boxes.length ≤ 8 := by
  have e : (keys P.boxes).length = P.boxes.length := List.length_map _
  have h1 := nodup_le (b := somes P.hands) W.nd fun n q => mem_somes.mpr ((h.held W n).mp q)
  have h2 := somes_len P.hands
  rw [W.hl] at h2
  omega

/-! ### a box made -/
theorem Bare.born {P : Pl} (h : Bare P) (W : Wf P []) (size : Nat) : Bare (born P size) := fun n b e => by
  rw [get_born W size] at e
  by_cases q : n = P.made
  · rw [if_pos q] at e
    have := Option.some.inj e
    subst this
    intro x hx
    exact List.eq_of_mem_replicate hx
  · rw [if_neg q] at e
    exact h n b e
theorem slots_bumped {bs : List (Int × Bx)} {x : Option Int} (h : ∀ n b, get bs n = some b → ∀ y ∈ b.slots, y = none) : ∀ n b, get (bumped bs x) n = some b → ∀ y ∈ b.slots, y = none := fun n b e => by
  rw [get_bumped] at e
  cases g : get bs n with
  | none => rw [g] at e; cases e
  | some d =>
    rw [g] at e
    have e2 : (if x = some n then bump d else d) = b := Option.some.inj e
    subst e2
    have := h n d g
    by_cases q : x = some n
    · rw [if_pos q]; exact this
    · rw [if_neg q]; exact this
/-- a hand points at x: what becomes of the pile whose slots are empty -/
theorem ptHand_none {P : Pl} {h : Nat} {x : Option Int} (e : P.hands.getD h none = none) : ptHand P h x = ({ P with hands := P.hands.set h x, boxes := bumped P.boxes x }, []) := by
  unfold ptHand
  rw [e, run_none]
theorem ptHand_some {P : Pl} {h : Nat} {x : Option Int} {n : Int} {b : Bx} (B : Bare P) (e : P.hands.getD h none = some n) (hb : get P.boxes n = some b) :
    ptHand P h x = if (if x = some n then b.wt + 1 else b.wt) = 1 then ({ P with hands := P.hands.set h x, boxes := rm (bumped P.boxes x) n }, [n]) else ({ P with hands := P.hands.set h x, boxes := chg (bumped P.boxes x) n low }, []) := by
  have hb' : get (bumped P.boxes x) n = some (if x = some n then bump b else b) := by rw [get_bumped, hb]; rfl
  unfold ptHand
  rw [e, run_some hb' (slots_bumped B n _ hb')]
  have : (if x = some n then bump b else b).wt = (if x = some n then b.wt + 1 else b.wt) := by
    by_cases q : x = some n
    · rw [if_pos q, if_pos q]; rfl
    · rw [if_neg q, if_neg q]
  rw [this]
  by_cases q : (if x = some n then b.wt + 1 else b.wt) = 1
  · rw [if_pos q, if_pos q]
  · rw [if_neg q, if_neg q]
/-! ### each alive box is held once, none is a suspect -/
def lone : Option Int → List Int
  | none => []
  | some n => [n]
def One (P : Pl) : Prop := Bare P ∧ ∀ n b, get P.boxes n = some b → b.wt = 1 ∧ b.sus = false
theorem mk_one {P : Pl} (W : Wf P []) (O : One P) {h size : Nat} (hi : h < 8) (hs : size ≤ 6) :
    One (mk P h size).1 ∧ (mk P h size).1.hands = P.hands.set h (some P.made) ∧ (mk P h size).1.made = P.made + 1 ∧ (mk P h size).2 = lone (P.hands.getD h none) ∧
      get (mk P h size).1.boxes P.made = some ⟨List.replicate size none, 1, false⟩ := by
  have gb : ∀ n, get (bumped (born P size).boxes (some P.made)) n = if n = P.made then some ⟨List.replicate size none, 1, false⟩ else get P.boxes n := fun n => by
    rw [get_bumped, get_born W]
    by_cases q : n = P.made
    · rw [if_pos q, if_pos q, q]
      show some (if some P.made = some P.made then _ else _) = _
      rw [if_pos rfl]
      rfl
    · rw [if_neg q, if_neg q]
      cases get P.boxes n with
      | none => rfl
      | some b =>
        show some (if some P.made = some n then _ else _) = _
        rw [if_neg fun z => q (Option.some.inj z).symm]
  have one : ∀ n b, (if n = P.made then some (⟨List.replicate size none, 1, false⟩ : Bx) else get P.boxes n) = some b → (b.wt = 1 ∧ b.sus = false) ∧ ∀ x ∈ b.slots, x = none := fun n b e => by
    by_cases q : n = P.made
    · rw [if_pos q] at e
      have := Option.some.inj e
      subst this
      exact ⟨⟨rfl, rfl⟩, fun x hx => List.eq_of_mem_replicate hx⟩
    · rw [if_neg q] at e
      exact ⟨O.2 n b e, O.1 n b e⟩
  unfold mk
  cases e : P.hands.getD h none with
  | none =>
    rw [ptHand_none (P := born P size) e]
    refine ⟨⟨fun n b g => ?_, fun n b g => ?_⟩, rfl, rfl, rfl, ?_⟩
    · have g' := (gb n).symm.trans g
      exact (one n b g').2
    · have g' := (gb n).symm.trans g
      exact (one n b g').1
    · exact (gb P.made).trans (if_pos rfl)
  | some n =>
    obtain ⟨b, hb⟩ := W.hand e
    have nm : n ≠ P.made := fun z => by
      have := (W.lo n (get_keys.mp ⟨b, hb⟩)).2
      omega
    have hb' : get (born P size).boxes n = some b := by rw [get_born W, if_neg nm]; exact hb
    have nx : ¬ (some P.made = some n) := fun z => nm (Option.some.inj z).symm
    rw [ptHand_some (P := born P size) (Bare.born O.1 W size) e hb', if_neg nx, if_pos (O.2 n b hb).1]
    have gr : ∀ m, get (rm (bumped (born P size).boxes (some P.made)) n) m = if m = n then none else (if m = P.made then some ⟨List.replicate size none, 1, false⟩ else get P.boxes m) := fun m => by
      rw [get_rm, gb]
    refine ⟨⟨fun m c g => ?_, fun m c g => ?_⟩, rfl, rfl, rfl, ?_⟩
    · have g' := (gr m).symm.trans g
      by_cases q : m = n
      · rw [if_pos q] at g'; cases g'
      · rw [if_neg q] at g'
        exact (one m c g').2
    · have g' := (gr m).symm.trans g
      by_cases q : m = n
      · rw [if_pos q] at g'; cases g'
      · rw [if_neg q] at g'
        exact (one m c g').1
    · exact (gr P.made).trans (by rw [if_neg nm.symm, if_pos rfl])
theorem count_nodup {l : List Int} (h : l.Nodup) (n : Int) : l.count n = if n ∈ l then 1 else 0 := by
  by_cases q : n ∈ l
  · rw [if_pos q]
    have h1 := List.count_pos_iff.mpr q
    have h2 := List.nodup_iff_count.mp h n
    omega
  · rw [if_neg q]
    exact List.count_eq_zero.mpr q
/-- what is alive is what hands hold, each once -/
theorem One.perm {P : Pl} (W : Wf P []) (O : One P) : (somes P.hands).Perm (keys P.boxes) := by
  rw [List.perm_iff_count]
  intro n
  rw [count_somes, count_nodup W.nd]
  by_cases q : n ∈ keys P.boxes
  · rw [if_pos q]
    obtain ⟨b, hb⟩ := get_keys.mpr q
    have h1 := (O.1.wt W hb).1
    rw [(O.2 n b hb).1] at h1
    omega
  · rw [if_neg q]
    have := mt (O.1.held W n).mpr q
    cases e : cnt P.hands n with
    | zero => rfl
    | succ k => exact absurd (cnt_pos.mp (by omega)) this
theorem one0 : One pl0 := ⟨fun n b e => by simp [pl0, get_nil] at e, fun n b e => by simp [pl0, get_nil] at e⟩
end BP

/-! Two boxes that two hands hold for good. Own work; core Lean alone. -/
namespace BP
theorem run_stay {bs : List (Int × Bx)} {n : Int} {b : Bx} (hb : get bs n = some b) (hw : b.wt ≠ 1) : run bs [some n] = (chg bs n low, []) := by
  show go (1 + room bs) bs [some n] = _
  rw [Nat.add_comm]
  show ((go (room bs) (fall bs [] (some n)).1 (fall bs [] (some n)).2.1).1, (fall bs [] (some n)).2.2 ++ (go (room bs) (fall bs [] (some n)).1 (fall bs [] (some n)).2.1).2) = _
  have ef : fall bs [] (some n) = (chg bs n low, [], []) := by
    show (match get bs n with | none => _ | some b => _) = _
    rw [hb]
    show (if b.wt = 1 then _ else _) = _
    rw [if_neg hw]
  rw [ef, go_nones (fun x hx => by cases hx)]
  rfl
/-- the two boxes, by their slots -/
def Shape (bs : List (Int × Bx)) (s0 s1 : List (Option Int)) : Prop := ∃ b0 b1 : Bx, bs = [(0, b0), (1, b1)] ∧ b0.slots = s0 ∧ b1.slots = s1
theorem Shape.chg {bs : List (Int × Bx)} {s0 s1 : List (Option Int)} (h : Shape bs s0 s1) (n : Int) (f : Bx → Bx) (hf : ∀ b, (f b).slots = b.slots) : Shape (chg bs n f) s0 s1 := by
  obtain ⟨b0, b1, rfl, e0, e1⟩ := h
  refine ⟨if (0 : Int) = n then f b0 else b0, if (1 : Int) = n then f b1 else b1, ?_, ?_, ?_⟩
  · show [if (0 : Int) = n then (0, f b0) else (0, b0), if (1 : Int) = n then (1, f b1) else (1, b1)] = _
    by_cases q : (0 : Int) = n
    · by_cases q2 : (1 : Int) = n
      · omega
      · rw [if_pos q, if_pos q, if_neg q2, if_neg q2]
    · by_cases q2 : (1 : Int) = n
      · rw [if_neg q, if_neg q, if_pos q2, if_pos q2]
      · rw [if_neg q, if_neg q, if_neg q2, if_neg q2]
  · by_cases q : (0 : Int) = n
    · rw [if_pos q, hf]; exact e0
    · rw [if_neg q]; exact e0
  · by_cases q : (1 : Int) = n
    · rw [if_pos q, hf]; exact e1
    · rw [if_neg q]; exact e1
theorem Shape.bumped {bs : List (Int × Bx)} {s0 s1 : List (Option Int)} (h : Shape bs s0 s1) (x : Option Int) : Shape (bumped bs x) s0 s1 := by
  cases x with
  | none => exact h
  | some n => exact h.chg n bump fun _ => rfl
theorem Shape.low {bs : List (Int × Bx)} {s0 s1 : List (Option Int)} (h : Shape bs s0 s1) (n : Int) : Shape (BP.chg bs n BP.low) s0 s1 := h.chg n BP.low fun _ => rfl
theorem Shape.set {bs : List (Int × Bx)} {s0 s1 : List (Option Int)} (h : Shape bs s0 s1) (n : Int) (i : Nat) (x : Option Int) :
    Shape (BP.chg bs n (setSlot i x)) (if n = 0 then s0.set i x else s0) (if n = 1 then s1.set i x else s1) := by
  obtain ⟨b0, b1, rfl, rfl, rfl⟩ := h
  refine ⟨if (0 : Int) = n then setSlot i x b0 else b0, if (1 : Int) = n then setSlot i x b1 else b1, ?_, ?_, ?_⟩
  · show [if (0 : Int) = n then (0, setSlot i x b0) else (0, b0), if (1 : Int) = n then (1, setSlot i x b1) else (1, b1)] = _
    by_cases q : (0 : Int) = n
    · by_cases q2 : (1 : Int) = n
      · omega
      · rw [if_pos q, if_pos q, if_neg q2, if_neg q2]
    · by_cases q2 : (1 : Int) = n
      · rw [if_neg q, if_neg q, if_pos q2, if_pos q2]
      · rw [if_neg q, if_neg q, if_neg q2, if_neg q2]
  · by_cases q : (0 : Int) = n
    · rw [if_pos q, if_pos q.symm]; rfl
    · rw [if_neg q, if_neg fun z => q z.symm]
  · by_cases q : (1 : Int) = n
    · rw [if_pos q, if_pos q.symm]; rfl
    · rw [if_neg q, if_neg fun z => q z.symm]
theorem Shape.keys {bs : List (Int × Bx)} {s0 s1 : List (Option Int)} (h : Shape bs s0 s1) : keys bs = [0, 1] := by
  obtain ⟨b0, b1, rfl, _, _⟩ := h
  rfl
theorem Shape.get0 {bs : List (Int × Bx)} {s0 s1 : List (Option Int)} (h : Shape bs s0 s1) : ∃ b, get bs 0 = some b ∧ b.slots = s0 := by
  obtain ⟨b0, b1, rfl, e, _⟩ := h
  exact ⟨b0, rfl, e⟩
theorem Shape.get1 {bs : List (Int × Bx)} {s0 s1 : List (Option Int)} (h : Shape bs s0 s1) : ∃ b, get bs 1 = some b ∧ b.slots = s1 := by
  obtain ⟨b0, b1, rfl, _, e⟩ := h
  exact ⟨b1, rfl, e⟩
theorem Shape.scnt {bs : List (Int × Bx)} {s0 s1 : List (Option Int)} (h : Shape bs s0 s1) (n : Int) : scnt bs n = cnt s0 n + cnt s1 n := by
  obtain ⟨b0, b1, rfl, rfl, rfl⟩ := h
  rw [scnt_cons, scnt_cons, scnt_nil]
  rfl
/-- two boxes, held by hands 6 and 7 -/
structure Two (P : Pl) (s0 s1 : List (Option Int)) : Prop where
  wf : Wf P []
  sh : Shape P.boxes s0 s1
  h6 : P.hands.getD 6 none = some 0
  h7 : P.hands.getD 7 none = some 1
theorem Two.alive {P : Pl} {s0 s1 : List (Option Int)} (h : Two P s0 s1) {n : Int} {b : Bx} (hb : get P.boxes n = some b) : n = 0 ∨ n = 1 := by
  have := get_keys.mp ⟨b, hb⟩
  rw [h.sh.keys] at this
  simpa using this
theorem held67 {hs : List (Option Int)} (h6 : hs.getD 6 none = some 0) (h7 : hs.getD 7 none = some 1) {n : Int} (hn : n = 0 ∨ n = 1) : 1 ≤ cnt hs n := by
  have mem : ∀ i k, hs.getD i none = some k → some k ∈ hs := fun i k e => by
    rw [List.getD_eq_getElem?_getD] at e
    cases q : hs[i]? with
    | none => rw [q] at e; cases e
    | some y =>
      rw [q] at e
      have : y = some k := e
      rw [← this]
      exact List.mem_of_getElem? q
  rcases hn with rfl | rfl
  · exact cnt_pos.mpr (mem _ _ h6)
  · exact cnt_pos.mpr (mem _ _ h7)
/-- what is let go beside them is not freed -/
theorem two_run {P : Pl} {s0 s1 : List (Option Int)} {o : Option Int} (W : Wf P [o]) (sh : Shape P.boxes s0 s1) (h6 : P.hands.getD 6 none = some 0) (h7 : P.hands.getD 7 none = some 1) :
    Shape (run P.boxes [o]).1 s0 s1 ∧ (run P.boxes [o]).2 = [] := by
  cases o with
  | none =>
    rw [run_none]
    exact ⟨sh, rfl⟩
  | some n =>
    obtain ⟨b, hb⟩ := W.cl n (by rw [cnt_cons]; simp [one]; omega)
    have hn : n = 0 ∨ n = 1 := by
      have := get_keys.mp ⟨b, hb⟩
      rw [sh.keys] at this
      simpa using this
    have h1 := held67 h6 h7 hn
    have h2 := (W.wt n b hb).1
    rw [cnt_cons, cnt_nil] at h2
    have o1 : one (some n) n = 1 := by simp [one]
    rw [o1] at h2
    rw [run_stay hb (by omega)]
    exact ⟨sh.low n, rfl⟩
theorem getD_set_ne {l : List (Option Int)} {i j : Nat} {x : Option Int} (h : j ≠ i) : (l.set i x).getD j none = l.getD j none := by
  rw [List.getD_eq_getElem?_getD, List.getD_eq_getElem?_getD, List.getElem?_set_ne (fun q => h q.symm)]
theorem Two.hand {P : Pl} {s0 s1 : List (Option Int)} (h : Two P s0 s1) {i : Nat} (hi : i < 6) {x : Option Int} (hx : ∀ n, x = some n → ∃ b, get P.boxes n = some b) :
    Two (ptHand P i x).1 s0 s1 ∧ (ptHand P i x).2 = [] := by
  have pre := h.wf.pre hx
  have W := pre.hand (show i < 8 by omega)
  have e6 : (P.hands.set i x).getD 6 none = some 0 := by rw [getD_set_ne (by omega)]; exact h.h6
  have e7 : (P.hands.set i x).getD 7 none = some 1 := by rw [getD_set_ne (by omega)]; exact h.h7
  obtain ⟨a, b⟩ := two_run W (h.sh.bumped x) e6 e7
  exact ⟨⟨ptHand_ok pre (by omega), a, e6, e7⟩, b⟩
theorem Two.slot {P : Pl} {s0 s1 : List (Option Int)} (h : Two P s0 s1) {n : Int} {b : Bx} (hb : get P.boxes n = some b) {i : Nat} (hi : i < b.slots.length) {x : Option Int} (hx : ∀ n, x = some n → ∃ b, get P.boxes n = some b) :
    Two (ptSlot P n i x).1 (if n = 0 then s0.set i x else s0) (if n = 1 then s1.set i x else s1) ∧ (ptSlot P n i x).2 = [] := by
  have pre := h.wf.pre hx
  have W := pre.slot hb hi
  obtain ⟨a, c⟩ := two_run W ((h.sh.bumped x).set n i x) h.h6 h.h7
  have e : slotOf P.boxes n i = b.slots.getD i none := by
    unfold slotOf
    rw [hb]
  have W2 := ptSlot_ok pre hb hi
  unfold ptSlot at W2 ⊢
  rw [e] at W2 ⊢
  exact ⟨⟨W2, a, h.h6, h.h7⟩, c⟩
/-- the two are made -/
theorem two_made {a b : Nat} (ha : a ≤ 6) (hb : b ≤ 6) : Two (mk (mk pl0 6 a).1 7 b).1 (List.replicate a none) (List.replicate b none) ∧ (mk pl0 6 a).2 = [] ∧ (mk (mk pl0 6 a).1 7 b).2 = [] ∧
    (mk (mk pl0 6 a).1 7 b).1.hands = [none, none, none, none, none, none, some 0, some 1] := by
  have e1 : mk pl0 6 a = (⟨[none, none, none, none, none, none, some 0, none], [(0, ⟨List.replicate a none, 1, false⟩)], 1⟩, []) := by
    unfold mk
    rw [ptHand_none rfl]
    rfl
  have W1 := mk_ok wf0 (i := 6) (size := a) (by decide) ha (by decide)
  have e2 : mk (mk pl0 6 a).1 7 b = (⟨[none, none, none, none, none, none, some 0, some 1], [(0, ⟨List.replicate a none, 1, false⟩), (1, ⟨List.replicate b none, 1, false⟩)], 2⟩, []) := by
    rw [e1]
    unfold mk
    rw [ptHand_none rfl]
    rfl
  have W2 := mk_ok W1 (i := 7) (size := b) (by decide) hb (by rw [e1]; show 1 < 60; omega)
  refine ⟨⟨W2, ?_, ?_, ?_⟩, by rw [e1], by rw [e2], by rw [e2]⟩
  · rw [e2]; exact ⟨_, _, rfl, rfl, rfl⟩
  · rw [e2]; rfl
  · rw [e2]; rfl
end BP

/-! Hands that hold boxes without pointers: what a deed frees, who is a suspect. Own work; core Lean alone. -/
namespace BP
/-- what a hand lets go of is freed where no hand holds it any more -/
def gone (hs : List (Option Int)) : Option Int → List Int
  | none => []
  | some n => if cnt hs n = 0 then [n] else []
theorem gone_sub {hs : List (Option Int)} {o : Option Int} {n : Int} : n ∈ gone hs o ↔ o = some n ∧ cnt hs n = 0 := by
  cases o with
  | none => simp [gone]
  | some m =>
    show (n ∈ if cnt hs m = 0 then [m] else []) ↔ _
    by_cases c : cnt hs m = 0
    · rw [if_pos c, List.mem_singleton]
      constructor
      · intro e; subst e; exact ⟨rfl, c⟩
      · rintro ⟨e, _⟩; exact (Option.some.inj e).symm
    · rw [if_neg c]
      constructor
      · intro e; cases e
      · rintro ⟨e, z⟩
        have : m = n := Option.some.inj e
        subst this
        exact absurd z c
/-- weights of boxes without pointers, the new one's too -/
theorem Pre.bareWt {P : Pl} {x : Option Int} (h : Pre P x) (B : Bare P) {n : Int} {b : Bx} (hb : get P.boxes n = some b) : b.wt = (cnt P.hands n : Int) := by
  have := (h.wt n b hb).1
  rw [scnt_bare (nodup_lt h.ks) B n] at this
  omega
structure HeldStep (P : Pl) (h : Nat) (x : Option Int) : Prop where
  bare : Bare (ptHand P h x).1
  hands : (ptHand P h x).1.hands = P.hands.set h x
  made : (ptHand P h x).1.made = P.made
  freed : (ptHand P h x).2 = gone (P.hands.set h x) (P.hands.getD h none)
  sus : ∀ m, (∃ b, get (ptHand P h x).1.boxes m = some b ∧ b.sus = true) ↔ (m ∉ gone (P.hands.set h x) (P.hands.getD h none) ∧ ((∃ b, get P.boxes m = some b ∧ b.sus = true) ∨ (P.hands.getD h none = some m)))
theorem heldStep {P : Pl} {x : Option Int} (B : Bare P) (h : Pre P x) {i : Nat} (hi : i < 8) : HeldStep P i x := by
  have gbs : ∀ m, get (bumped P.boxes x) m = (get P.boxes m).map fun b => if x = some m then bump b else b := fun m => get_bumped
  have sb : ∀ m b, get (bumped P.boxes x) m = some b → ∃ d, get P.boxes m = some d ∧ b.sus = d.sus ∧ b.slots = d.slots := fun m b e => by
    rw [gbs] at e
    cases g : get P.boxes m with
    | none => rw [g] at e; cases e
    | some d =>
      rw [g] at e
      have e2 : (if x = some m then bump d else d) = b := Option.some.inj e
      subst e2
      refine ⟨d, rfl, ?_⟩
      by_cases q : x = some m
      · rw [if_pos q]; exact ⟨rfl, rfl⟩
      · rw [if_neg q]; exact ⟨rfl, rfl⟩
  have sb2 : ∀ m d, get P.boxes m = some d → ∃ b, get (bumped P.boxes x) m = some b ∧ b.sus = d.sus := fun m d e => by
    rw [gbs, e]
    refine ⟨_, rfl, ?_⟩
    show (if x = some m then bump d else d).sus = d.sus
    by_cases q : x = some m
    · rw [if_pos q]; rfl
    · rw [if_neg q]
  have hold := getD_some (l := P.hands) (i := i) (by rw [h.hl]; exact hi)
  cases e : P.hands.getD i none with
  | none =>
    have ep := ptHand_none (P := P) (x := x) e
    rw [e] at hold
    refine ⟨?_, by rw [ep], by rw [ep], by rw [ep, e]; rfl, fun m => ?_⟩
    · rw [ep]
      intro n b g
      obtain ⟨d, hd, _, es⟩ := sb n b g
      rw [es]
      exact B n d hd
    · rw [ep, e]
      constructor
      · rintro ⟨b, g, s⟩
        obtain ⟨d, hd, es, _⟩ := sb m b g
        exact ⟨fun z => (by cases z), .inl ⟨d, hd, by rw [← es]; exact s⟩⟩
      · rintro ⟨_, z | z⟩
        · obtain ⟨d, hd, s⟩ := z
          obtain ⟨b, g, es⟩ := sb2 m d hd
          exact ⟨b, g, by rw [es]; exact s⟩
        · cases z
  | some n =>
    rw [e] at hold
    obtain ⟨b, hb⟩ : ∃ b, get P.boxes n = some b := h.cl n (by
      have : 0 < cnt P.hands n := cnt_pos.mpr (List.mem_of_getElem? hold)
      omega)
    have ep := ptHand_some (x := x) B e hb
    have ew := h.bareWt B hb
    have ec := cnt_set x n hold
    have o1 : one (some n) n = 1 := by simp [one]
    rw [o1] at ec
    have key : ((if x = some n then b.wt + 1 else b.wt) = 1) ↔ cnt (P.hands.set i x) n = 0 := by
      by_cases q : x = some n
      · rw [if_pos q]
        have : one x n = 1 := by simp [one, q]
        rw [this] at ec
        omega
      · rw [if_neg q]
        have : one x n = 0 := by simp [one, q]
        rw [this] at ec
        omega
    by_cases c : cnt (P.hands.set i x) n = 0
    · rw [if_pos (key.mpr c)] at ep
      have eg : gone (P.hands.set i x) (some n) = [n] := if_pos c
      refine ⟨?_, by rw [ep], by rw [ep], by rw [ep, e, eg], fun m => ?_⟩
      · rw [ep]
        intro m d g
        have g' : get (rm (bumped P.boxes x) n) m = some d := g
        rw [get_rm] at g'
        by_cases q : m = n
        · rw [if_pos q] at g'; cases g'
        · rw [if_neg q] at g'
          obtain ⟨d2, hd, _, es⟩ := sb m d g'
          rw [es]
          exact B m d2 hd
      · rw [ep, e, eg]
        constructor
        · rintro ⟨d, g, s⟩
          have g' : get (rm (bumped P.boxes x) n) m = some d := g
          rw [get_rm] at g'
          by_cases q : m = n
          · rw [if_pos q] at g'; cases g'
          · rw [if_neg q] at g'
            obtain ⟨d2, hd, es, _⟩ := sb m d g'
            exact ⟨fun z => q (List.mem_singleton.mp z), .inl ⟨d2, hd, by rw [← es]; exact s⟩⟩
        · rintro ⟨nm, z⟩
          have q : m ≠ n := fun z => nm (List.mem_singleton.mpr z)
          rcases z with ⟨d, hd, s⟩ | z
          · obtain ⟨d2, g, es⟩ := sb2 m d hd
            refine ⟨d2, ?_, by rw [es]; exact s⟩
            show get (rm (bumped P.boxes x) n) m = some d2
            rw [get_rm, if_neg q]
            exact g
          · exact absurd (Option.some.inj z).symm q
    · rw [if_neg (mt key.mp c)] at ep
      have eg : gone (P.hands.set i x) (some n) = [] := if_neg c
      refine ⟨?_, by rw [ep], by rw [ep], by rw [ep, e, eg], fun m => ?_⟩
      · rw [ep]
        intro m d g
        have g' : get (chg (bumped P.boxes x) n low) m = some d := g
        rw [get_chg] at g'
        cases g2 : get (bumped P.boxes x) m with
        | none => rw [g2] at g'; cases g'
        | some d2 =>
          rw [g2] at g'
          have e2 : (if m = n then low d2 else d2) = d := Option.some.inj g'
          obtain ⟨d3, hd, _, es⟩ := sb m d2 g2
          have : d.slots = d3.slots := by
            rw [← e2, ← es]
            by_cases q : m = n
            · rw [if_pos q]; rfl
            · rw [if_neg q]
          rw [this]
          exact B m d3 hd
      · rw [ep, e, eg]
        constructor
        · rintro ⟨d, g, s⟩
          have g' : get (chg (bumped P.boxes x) n low) m = some d := g
          rw [get_chg] at g'
          cases g2 : get (bumped P.boxes x) m with
          | none => rw [g2] at g'; cases g'
          | some d2 =>
            rw [g2] at g'
            have e2 : (if m = n then low d2 else d2) = d := Option.some.inj g'
            obtain ⟨d3, hd, es, _⟩ := sb m d2 g2
            refine ⟨fun z => (by cases z), ?_⟩
            by_cases q : m = n
            · exact .inr (by rw [q])
            · rw [if_neg q] at e2
              subst e2
              exact .inl ⟨d3, hd, by rw [← es]; exact s⟩
        · rintro ⟨_, z⟩
          have : ∃ d, get P.boxes m = some d ∧ (m = n ∨ d.sus = true) := by
            rcases z with ⟨d, hd, s⟩ | z
            · exact ⟨d, hd, .inr s⟩
            · have : n = m := Option.some.inj z
              subst this
              exact ⟨b, hb, .inl rfl⟩
          obtain ⟨d, hd, s⟩ := this
          obtain ⟨d2, g, es⟩ := sb2 m d hd
          refine ⟨if m = n then low d2 else d2, ?_, ?_⟩
          · show get (chg (bumped P.boxes x) n low) m = _
            rw [get_chg, g]
            rfl
          · by_cases q : m = n
            · rw [if_pos q]; rfl
            · rw [if_neg q, es]
              exact s.resolve_left q
/-- D names just the suspects, each once -/
def Doubt (D : List Int) (P : Pl) : Prop := D.Nodup ∧ ∀ n, n ∈ D ↔ ∃ b, get P.boxes n = some b ∧ b.sus = true
theorem doubt0 : Doubt [] pl0 := ⟨List.nodup_nil, fun n => ⟨fun h => (by cases h), fun ⟨b, e, _⟩ => by simp [pl0, get_nil] at e⟩⟩
theorem Doubt.born {D : List Int} {P : Pl} (h : Doubt D P) (W : Wf P []) (size : Nat) : Doubt D (born P size) := ⟨h.1, fun n => by
  rw [h.2 n]
  constructor
  · rintro ⟨b, hb, s⟩
    refine ⟨b, ?_, s⟩
    have : n ≠ P.made := fun z => by
      have := (W.lo n (get_keys.mp ⟨b, hb⟩)).2
      omega
    rw [get_born W, if_neg this]
    exact hb
  · rintro ⟨b, hb, s⟩
    rw [get_born W] at hb
    by_cases q : n = P.made
    · rw [if_pos q] at hb
      have := Option.some.inj hb
      rw [← this] at s
      cases s
    · rw [if_neg q] at hb
      exact ⟨b, hb, s⟩⟩
/-- how the law goes on with them: the old one comes to them, what is freed goes -/
def doubted (D : List Int) (hs : List (Option Int)) (o : Option Int) : List Int :=
  match o with
  | none => D
  | some n => if cnt hs n = 0 then D else if n ∈ D then D else D ++ [n]
theorem doubted_nodup {D : List Int} {hs : List (Option Int)} {o : Option Int} (h : D.Nodup) : (doubted D hs o).Nodup := by
  unfold doubted
  cases o with
  | none => exact h
  | some n =>
    show (if cnt hs n = 0 then D else if n ∈ D then D else D ++ [n]).Nodup
    by_cases c : cnt hs n = 0
    · rw [if_pos c]; exact h
    · rw [if_neg c]
      by_cases q : n ∈ D
      · rw [if_pos q]; exact h
      · rw [if_neg q, List.nodup_append]
        refine ⟨h, by simp, fun a ha b hb => ?_⟩
        have : b = n := by simpa using hb
        subst this
        exact fun z => q (by rw [← z]; exact ha)
theorem mem_doubted {D : List Int} {hs : List (Option Int)} {o : Option Int} {m : Int} : m ∈ doubted D hs o ↔ m ∈ D ∨ (o = some m ∧ cnt hs m ≠ 0) := by
  unfold doubted
  cases o with
  | none => simp
  | some n =>
    show m ∈ (if cnt hs n = 0 then D else if n ∈ D then D else D ++ [n]) ↔ _
    by_cases c : cnt hs n = 0
    · rw [if_pos c]
      constructor
      · exact .inl
      · rintro (z | ⟨z, y⟩)
        · exact z
        · have : n = m := Option.some.inj z
          subst this
          exact absurd c y
    · rw [if_neg c]
      by_cases q : n ∈ D
      · rw [if_pos q]
        constructor
        · exact .inl
        · rintro (z | ⟨z, y⟩)
          · exact z
          · have : n = m := Option.some.inj z
            subst this
            exact q
      · rw [if_neg q, List.mem_append, List.mem_singleton]
        constructor
        · rintro (z | z)
          · exact .inl z
          · subst z; exact .inr ⟨rfl, c⟩
        · rintro (z | ⟨z, y⟩)
          · exact .inl z
          · exact .inr (Option.some.inj z).symm
theorem Doubt.step {D : List Int} {P : Pl} {i : Nat} {x : Option Int} (h : Doubt D P) (S : HeldStep P i x) :
    Doubt ((doubted D (P.hands.set i x) (P.hands.getD i none)).filter fun n => decide (n ∉ gone (P.hands.set i x) (P.hands.getD i none))) (ptHand P i x).1 := by
  refine ⟨(doubted_nodup h.1).filter _, fun m => ?_⟩
  rw [S.sus m, List.mem_filter, mem_doubted, h.2 m, decide_eq_true_iff]
  constructor
  · rintro ⟨a | ⟨a, b⟩, c⟩
    · exact ⟨c, .inl a⟩
    · exact ⟨c, .inr a⟩
  · rintro ⟨c, a | a⟩
    · exact ⟨.inl a, c⟩
    · refine ⟨.inr ⟨a, fun z => c (gone_sub.mpr ⟨a, z⟩)⟩, c⟩
theorem mem_susp {P : Pl} {n : Int} : n ∈ susp P ↔ ∃ b, get P.boxes n = some b ∧ b.sus = true := by
  unfold susp
  rw [List.mem_filter]
  constructor
  · rintro ⟨_, e⟩
    cases g : get P.boxes n with
    | none => rw [g] at e; cases e
    | some b =>
      rw [g] at e
      exact ⟨b, rfl, e⟩
  · rintro ⟨b, g, s⟩
    refine ⟨get_keys.mp ⟨b, g⟩, ?_⟩
    rw [g]
    exact s
theorem susp_sorted {P : Pl} {w : List (Option Int)} (W : Wf P w) : (susp P).Pairwise (· < ·) := W.ks.filter _
theorem perm_of_mem {a b : List Int} (ha : a.Nodup) (hb : b.Nodup) (h : ∀ n, n ∈ a ↔ n ∈ b) : a.Perm b := by
  rw [List.perm_iff_count]
  intro n
  rw [count_nodup ha, count_nodup hb]
  by_cases q : n ∈ a
  · rw [if_pos q, if_pos ((h n).mp q)]
  · rw [if_neg q, if_neg (mt (h n).mpr q)]
theorem Doubt.perm {D : List Int} {P : Pl} {w : List (Option Int)} (h : Doubt D P) (W : Wf P w) : D.Perm (susp P) :=
  perm_of_mem h.1 (nodup_lt (susp_sorted W)) fun n => by rw [h.2 n, mem_susp]
theorem sorted_mem_eq {a b : List Int} (ha : a.Pairwise (· < ·)) (hb : b.Pairwise (· < ·)) (h : ∀ n, n ∈ a ↔ n ∈ b) : a = b :=
  (perm_of_mem (nodup_lt ha) (nodup_lt hb) h).eq_of_pairwise (fun x y _ _ h1 h2 => Int.le_antisymm h1 h2) (ha.imp fun h => Int.le_of_lt h) (hb.imp fun h => Int.le_of_lt h)
end BP

/-! Boxes numbered from 1 on, in whose making nothing is freed. Own work; core Lean alone. -/
namespace BP
/-- nothing is freed where the pointer let go is not the last one -/
theorem stay {S : Pl} {o : Option Int} (W : Wf S [o]) (ho : ∀ n, o = some n → 0 < cnt S.hands n + scnt S.boxes n) :
    (run S.boxes [o]).2 = [] ∧ ((run S.boxes [o]).1 = S.boxes ∨ ∃ n, (run S.boxes [o]).1 = chg S.boxes n low) := by
  cases o with
  | none =>
    rw [run_none]
    exact ⟨rfl, .inl rfl⟩
  | some n =>
    obtain ⟨b, hb⟩ := W.cl n (by rw [cnt_cons]; simp [one]; omega)
    have h1 := ho n rfl
    have h2 := (W.wt n b hb).1
    rw [cnt_cons, cnt_nil] at h2
    have o1 : one (some n) n = 1 := by simp [one]
    rw [o1] at h2
    rw [run_stay hb (by omega)]
    exact ⟨rfl, .inr ⟨n, rfl⟩⟩
/-- the boxes 1, 2, .. with the slots of the rows behind the first one -/
structure Rows (P : Pl) (rs : List (List (Option Int))) : Prop where
  wf : Wf P []
  made : P.made = (rs.length : Int)
  pos : 1 ≤ rs.length
  ks : ∀ n : Int, n ∈ keys P.boxes ↔ (1 ≤ n ∧ n < (rs.length : Int))
  sl : ∀ n b, get P.boxes n = some b → rs[n.toNat]? = some b.slots
/-- what stays where pointers' counts alone change -/
def Alike (as bs : List (Int × Bx)) : Prop := keys as = keys bs ∧ (∀ n b, get as n = some b → ∃ c, get bs n = some c ∧ c.slots = b.slots) ∧ ∀ n, scnt as n = scnt bs n
theorem Alike.refl (bs : List (Int × Bx)) : Alike bs bs := ⟨rfl, fun n b e => ⟨b, e, rfl⟩, fun _ => rfl⟩
theorem Alike.trans {a b c : List (Int × Bx)} (h : Alike a b) (k : Alike b c) : Alike a c := ⟨h.1.trans k.1, fun n x e => by
  obtain ⟨y, h1, e1⟩ := h.2.1 n x e
  obtain ⟨z, h2, e2⟩ := k.2.1 n y h1
  exact ⟨z, h2, e2.trans e1⟩, fun n => (h.2.2 n).trans (k.2.2 n)⟩
theorem alike_chg (bs : List (Int × Bx)) (n : Int) (f : Bx → Bx) (hf : ∀ b, (f b).slots = b.slots) : Alike (chg bs n f) bs := by
  refine ⟨keys_chg _ _ _, fun m b e => ?_, fun m => scnt_chg_same hf m bs⟩
  rw [get_chg] at e
  cases g : get bs m with
  | none => rw [g] at e; cases e
  | some d =>
    rw [g] at e
    have e2 : (if m = n then f d else d) = b := Option.some.inj e
    refine ⟨d, rfl, ?_⟩
    rw [← e2]
    by_cases q : m = n
    · rw [if_pos q, hf]
    · rw [if_neg q]
theorem alike_bumped (bs : List (Int × Bx)) (x : Option Int) : Alike (bumped bs x) bs := by
  cases x with
  | none => exact Alike.refl bs
  | some n => exact alike_chg bs n bump fun _ => rfl
theorem Rows.alike {P P' : Pl} {rs : List (List (Option Int))} (h : Rows P rs) (W : Wf P' []) (m : P'.made = P.made) (a : Alike P'.boxes P.boxes) : Rows P' rs :=
  ⟨W, m.trans h.made, h.pos, fun n => by rw [a.1]; exact h.ks n, fun n b e => by
    obtain ⟨c, hc, es⟩ := a.2.1 n b e
    rw [← es]
    exact h.sl n c hc⟩
theorem Rows.hand {P : Pl} {rs : List (List (Option Int))} (h : Rows P rs) {i : Nat} (hi : i < 8) {x : Option Int} (hx : ∀ n, x = some n → ∃ b, get P.boxes n = some b)
    (ho : ∀ n, P.hands.getD i none = some n → 0 < cnt (P.hands.set i x) n + scnt P.boxes n) :
    Rows (ptHand P i x).1 rs ∧ (ptHand P i x).2 = [] ∧ (ptHand P i x).1.hands = P.hands.set i x ∧ ∀ n, scnt (ptHand P i x).1.boxes n = scnt P.boxes n := by
  have pre := h.wf.pre hx
  have W := pre.hand hi
  obtain ⟨f, g⟩ := stay W fun n e => by
    show 0 < cnt (P.hands.set i x) n + scnt (bumped P.boxes x) n
    rw [scnt_bumped]
    exact ho n e
  have al : Alike (ptHand P i x).1.boxes P.boxes := by
    have ab := alike_bumped P.boxes x
    rcases g with g | ⟨n, g⟩
    · show Alike (run (bumped P.boxes x) [P.hands.getD i none]).1 P.boxes
      rw [show (run (bumped P.boxes x) [P.hands.getD i none]).1 = bumped P.boxes x from g]
      exact ab
    · show Alike (run (bumped P.boxes x) [P.hands.getD i none]).1 P.boxes
      rw [show (run (bumped P.boxes x) [P.hands.getD i none]).1 = chg (bumped P.boxes x) n low from g]
      exact (alike_chg _ n low fun _ => rfl).trans ab
  exact ⟨h.alike (ptHand_ok pre hi) rfl al, f, rfl, al.2.2⟩
theorem Rows.len {P : Pl} {rs : List (List (Option Int))} (h : Rows P rs) : P.boxes.length + 1 ≤ rs.length := by
  have e : (keys P.boxes).length = P.boxes.length := List.length_map _
  have := nodup_le (a := keys P.boxes) (b := (List.range (rs.length - 1)).map fun i => ((i : Nat) : Int) + 1) h.wf.nd fun n hn => by
    obtain ⟨a, b⟩ := (h.ks n).mp hn
    rw [List.mem_map]
    exact ⟨(n - 1).toNat, List.mem_range.mpr (by omega), by omega⟩
  rw [List.length_map, List.length_range] at this
  have := h.pos
  omega
theorem Rows.make {P : Pl} {rs : List (List (Option Int))} (h : Rows P rs) {i size : Nat} (hi : i < 8) (hs : size ≤ 6) (hl : rs.length ≤ 60) (hn : P.hands.getD i none = none) :
    Rows (BP.mk P i size).1 (rs ++ [List.replicate size none]) ∧ (BP.mk P i size).2 = [] ∧ (BP.mk P i size).1.hands = P.hands.set i (some P.made) ∧ ∀ n, scnt (BP.mk P i size).1.boxes n = scnt P.boxes n := by
  have few := h.len
  have W := mk_ok h.wf hi hs (by omega)
  have gb := get_born h.wf size
  have e : BP.mk P i size = ({ born P size with hands := P.hands.set i (some P.made), boxes := bumped (born P size).boxes (some P.made) }, []) := by
    unfold BP.mk
    exact ptHand_none hn
  have ab := alike_bumped (born P size).boxes (some P.made)
  have kb : keys (born P size).boxes = keys P.boxes ++ [P.made] := by
    show keys (P.boxes ++ _) = _
    unfold keys
    rw [List.map_append]
    rfl
  have hmade := h.made
  have hpos := h.pos
  rw [e] at W ⊢
  refine ⟨⟨W, ?_, by rw [List.length_append]; omega, fun n => ?_, fun n b g => ?_⟩, rfl, rfl, fun n => (ab.2.2 n).trans (scnt_born P size n)⟩
  · show P.made + 1 = _
    rw [List.length_append, List.length_singleton, hmade]
    rfl
  · show n ∈ keys (bumped (born P size).boxes (some P.made)) ↔ _
    rw [ab.1, kb, List.mem_append, h.ks n, List.mem_singleton, List.length_append, List.length_singleton, hmade]
    omega
  · obtain ⟨c, hc, es⟩ := ab.2.1 n b g
    rw [← es]
    rw [gb] at hc
    by_cases q : n = P.made
    · rw [if_pos q] at hc
      have := Option.some.inj hc
      subst this
      have : n.toNat = rs.length := by omega
      rw [this, List.getElem?_append_right (Nat.le_refl _), Nat.sub_self]
      rfl
    · rw [if_neg q] at hc
      have h1 := h.sl n c hc
      have := (List.getElem?_eq_some_iff.mp h1).1
      rw [List.getElem?_append_left this]
      exact h1
theorem Rows.get {P : Pl} {rs : List (List (Option Int))} (h : Rows P rs) {n : Int} (h1 : 1 ≤ n) (h2 : n < (rs.length : Int)) : ∃ b, get P.boxes n = some b ∧ rs[n.toNat]? = some b.slots := by
  obtain ⟨b, hb⟩ := get_keys.mpr ((h.ks n).mpr ⟨h1, h2⟩)
  exact ⟨b, hb, h.sl n b hb⟩
/-- a slot that points in a row counts -/
theorem Rows.points {P : Pl} {rs : List (List (Option Int))} (h : Rows P rs) {k : Nat} {row : List (Option Int)} (hk : 1 ≤ k) (hr : rs[k]? = some row) {n : Int} (hn : some n ∈ row) : 0 < scnt P.boxes n := by
  have hl := (List.getElem?_eq_some_iff.mp hr).1
  obtain ⟨b, hb, e⟩ := h.get (n := (k : Int)) (by omega) (by omega)
  have : b.slots = row := by
    have e' : rs[k]? = some b.slots := e
    exact Option.some.inj (e'.symm.trans hr)
  have h1 := cnt_pos.mpr hn
  have h2 := scnt_le n hb
  rw [this] at h2
  omega
theorem Rows.slot {P : Pl} {rs : List (List (Option Int))} (h : Rows P rs) {k : Int} {b : Bx} (hb : BP.get P.boxes k = some b) {i : Nat} (hi : i < b.slots.length) (h0 : b.slots.getD i none = none) {x : Option Int}
    (hx : ∀ n, x = some n → ∃ b, BP.get P.boxes n = some b) :
    Rows (ptSlot P k i x).1 (rs.set k.toNat (b.slots.set i x)) ∧ (ptSlot P k i x).2 = [] ∧ (ptSlot P k i x).1.hands = P.hands := by
  have pre := h.wf.pre hx
  have W := ptSlot_ok pre hb hi
  have e : slotOf P.boxes k i = none := by
    unfold slotOf
    rw [hb]
    exact h0
  have ep : ptSlot P k i x = ({ P with boxes := chg (bumped P.boxes x) k (setSlot i x) }, []) := by
    unfold ptSlot
    rw [e, run_none]
  rw [ep] at W ⊢
  have ab := alike_bumped P.boxes x
  have kr := (h.ks k).mp (get_keys.mp ⟨b, hb⟩)
  refine ⟨⟨W, by rw [List.length_set]; exact h.made, by rw [List.length_set]; exact h.pos, fun n => ?_, fun n c g => ?_⟩, rfl, rfl⟩
  · show n ∈ keys (chg (bumped P.boxes x) k (setSlot i x)) ↔ _
    rw [keys_chg, ab.1, List.length_set]
    exact h.ks n
  · have g' : BP.get (chg (bumped P.boxes x) k (setSlot i x)) n = some c := g
    rw [get_chg] at g'
    cases q : BP.get (bumped P.boxes x) n with
    | none => rw [q] at g'; cases g'
    | some d =>
      rw [q] at g'
      have e2 : (if n = k then setSlot i x d else d) = c := Option.some.inj g'
      obtain ⟨d2, hd, es⟩ := ab.2.1 n d q
      have h1 := h.sl n d2 hd
      have kn := (h.ks n).mp (get_keys.mp ⟨d2, hd⟩)
      by_cases qn : n = k
      · subst qn
        rw [if_pos rfl] at e2
        have : d2 = b := Option.some.inj (hd.symm.trans hb)
        subst this
        rw [List.getElem?_set_self (by omega), ← e2]
        show _ = some (d.slots.set i x)
        rw [← es]
      · rw [if_neg qn] at e2
        subst e2
        rw [List.getElem?_set_ne (by omega), h1, es]
def hd4 (h0 h1 h2 h3 : Option Int) : List (Option Int) := [h0, h1, h2, h3, none, none, none, none]
/-- a box made and let go at once -/
theorem rows0 : Rows (ptHand (BP.mk pl0 0 0).1 0 none).1 [[]] ∧ (ptHand (BP.mk pl0 0 0).1 0 none).1.hands = hd4 none none none none := by
  have W := ptHand_ok ((mk_ok wf0 (i := 0) (size := 0) (by decide) (by decide) (by decide)).pre (x := none) fun n e => by cases e) (i := 0) (by decide)
  have e : (ptHand (BP.mk pl0 0 0).1 0 none).1 = ⟨hd4 none none none none, [], 1⟩ := by
    have e1 : BP.mk pl0 0 0 = (⟨hd4 (some 0) none none none, [(0, ⟨[], 1, false⟩)], 1⟩, []) := by
      unfold BP.mk
      rw [ptHand_none rfl]
      rfl
    rw [e1]
    rfl
  rw [e] at W ⊢
  exact ⟨⟨W, rfl, Nat.le_refl _, fun n => ⟨fun h => (by cases h), fun ⟨a, b⟩ => (by have : (([[]] : List (List (Option Int))).length : Int) = 1 := rfl; omega)⟩, fun n b g => by cases g⟩, rfl⟩
theorem mem_set_none {l : List (Option Int)} {i : Nat} {x : Option Int} {t : Int} (h : some t ∈ l) (hi : i < l.length) (h0 : l.getD i none = none) : some t ∈ l.set i x := by
  obtain ⟨j, hj, e⟩ := List.mem_iff_getElem.mp h
  have hji : j ≠ i := fun z => by
    subst z
    rw [List.getD_eq_getElem?_getD, List.getElem?_eq_getElem hj, e] at h0
    cases h0
  exact List.mem_of_getElem? (i := j) (by rw [List.getElem?_set_ne fun z => hji z.symm, List.getElem?_eq_getElem hj, e])
end BP

/-! What falls, step by step. Own work; core Lean alone. -/
namespace BP
theorem fall_gone {bs : List (Int × Bx)} (w : List (Option Int)) {n : Int} (h : get bs n = none) : fall bs w (some n) = (bs, w, []) := by
  show (match get bs n with | none => (bs, w, []) | some b => if b.wt = 1 then (rm bs n, w ++ b.slots, [n]) else (chg bs n low, w, [])) = _
  rw [h]
theorem fall_free {bs : List (Int × Bx)} (w : List (Option Int)) {n : Int} {b : Bx} (h : get bs n = some b) (c : b.wt = 1) : fall bs w (some n) = (rm bs n, w ++ b.slots, [n]) := by
  show (match get bs n with | none => (bs, w, []) | some b => if b.wt = 1 then (rm bs n, w ++ b.slots, [n]) else (chg bs n low, w, [])) = _
  rw [h]
  exact if_pos c
theorem fall_low {bs : List (Int × Bx)} (w : List (Option Int)) {n : Int} {b : Bx} (h : get bs n = some b) (c : b.wt ≠ 1) : fall bs w (some n) = (chg bs n low, w, []) := by
  show (match get bs n with | none => (bs, w, []) | some b => if b.wt = 1 then (rm bs n, w ++ b.slots, [n]) else (chg bs n low, w, [])) = _
  rw [h]
  exact if_neg c
theorem filter_all (l : List Int) : l = l.filter fun n => decide (n ∉ ([] : List Int)) := (List.filter_eq_self.mpr fun n _ => by simp).symm
theorem fall_keys (bs : List (Int × Bx)) (w : List (Option Int)) (x : Option Int) : keys (fall bs w x).1 = (keys bs).filter fun n => decide (n ∉ (fall bs w x).2.2) := by
  cases x with
  | none => exact filter_all _
  | some n =>
    cases e : get bs n with
    | none => rw [fall_gone w e]; exact filter_all _
    | some b =>
      by_cases c : b.wt = 1
      · rw [fall_free w e c, keys_rm]
        simp
      · rw [fall_low w e c]
        show keys (chg bs n low) = _
        rw [keys_chg]
        exact filter_all _
theorem go_keys : ∀ (m : Nat) (bs : List (Int × Bx)) (w : List (Option Int)), keys (go m bs w).1 = (keys bs).filter fun n => decide (n ∉ (go m bs w).2)
  | 0, bs, w => filter_all _
  | m + 1, bs, [] => filter_all _
  | m + 1, bs, x :: w => by
    show keys (go m (fall bs w x).1 (fall bs w x).2.1).1 = (keys bs).filter fun n => decide (n ∉ (fall bs w x).2.2 ++ (go m (fall bs w x).1 (fall bs w x).2.1).2)
    rw [go_keys m, fall_keys, List.filter_filter]
    congr 1
    funext n
    simp [Bool.and_comm]
theorem fall_slots {bs : List (Int × Bx)} {w : List (Option Int)} {x : Option Int} {n : Int} {b : Bx} (h : get (fall bs w x).1 n = some b) : ∃ c, get bs n = some c ∧ c.slots = b.slots := by
  cases x with
  | none => exact ⟨b, h, rfl⟩
  | some k =>
    cases e : get bs k with
    | none =>
      rw [fall_gone w e] at h
      exact ⟨b, h, rfl⟩
    | some d =>
      by_cases c : d.wt = 1
      · rw [fall_free w e c] at h
        have h2 : get (rm bs k) n = some b := h
        rw [get_rm] at h2
        by_cases q : n = k
        · rw [if_pos q] at h2; cases h2
        · rw [if_neg q] at h2
          exact ⟨b, h2, rfl⟩
      · rw [fall_low w e c] at h
        exact (alike_chg bs k low fun _ => rfl).2.1 n b h
theorem go_slots : ∀ {m : Nat} {bs : List (Int × Bx)} {w : List (Option Int)} {n : Int} {b : Bx}, get (go m bs w).1 n = some b → ∃ c, get bs n = some c ∧ c.slots = b.slots
  | 0, bs, w, n, b, h => ⟨b, h, rfl⟩
  | m + 1, bs, [], n, b, h => ⟨b, h, rfl⟩
  | m + 1, bs, x :: w, n, b, h => by
    obtain ⟨c, h1, e1⟩ := go_slots (m := m) h
    obtain ⟨d, h2, e2⟩ := fall_slots h1
    exact ⟨d, h2, e2.trans e1⟩
/-- W tells the weights of the boxes -/
def Told (bs : List (Int × Bx)) (W : List Int) : Prop := ∀ n b, get bs n = some b → 0 ≤ n ∧ W[n.toNat]? = some b.wt
theorem Told.step {bs : List (Int × Bx)} {W : List Int} (h : Told bs W) {w : List (Option Int)} {n : Int} {b : Bx} (hb : get bs n = some b) : Told (fall bs w (some n)).1 (W.set n.toNat (b.wt - 1)) := by
  obtain ⟨n0, hn⟩ := h n b hb
  have hl := (List.getElem?_eq_some_iff.mp hn).1
  intro m c e
  have ef : (fall bs w (some n)).1 = if b.wt = 1 then rm bs n else chg bs n low := by
    by_cases q : b.wt = 1
    · rw [fall_free w hb q, if_pos q]
    · rw [fall_low w hb q, if_neg q]
  rw [ef] at e
  by_cases q : b.wt = 1
  · rw [if_pos q, get_rm] at e
    by_cases qm : m = n
    · rw [if_pos qm] at e; cases e
    · rw [if_neg qm] at e
      obtain ⟨m0, hm⟩ := h m c e
      exact ⟨m0, by rw [List.getElem?_set_ne (by omega)]; exact hm⟩
  · rw [if_neg q, get_chg] at e
    cases g : get bs m with
    | none => rw [g] at e; cases e
    | some d =>
      rw [g] at e
      have e2 : (if m = n then low d else d) = c := Option.some.inj e
      obtain ⟨m0, hm⟩ := h m d g
      by_cases qm : m = n
      · subst qm
        have : d = b := Option.some.inj (g.symm.trans hb)
        subst this
        rw [if_pos rfl] at e2
        refine ⟨m0, ?_⟩
        rw [List.getElem?_set_self hl, ← e2]
        rfl
      · rw [if_neg qm] at e2
        subst e2
        exact ⟨m0, by rw [List.getElem?_set_ne (by omega)]; exact hm⟩
theorem rm_len {k : Int} {b : Bx} : ∀ {bs : List (Int × Bx)}, (keys bs).Nodup → get bs k = some b → (rm bs k).length + 1 = bs.length
  | [], _, h => by simp [get_nil] at h
  | e :: bs, hn, h => by
    have hn' : e.1 ∉ keys bs ∧ (keys bs).Nodup := by simpa [keys] using hn
    rw [get_cons] at h
    by_cases h1 : e.1 = k
    · have e1 : rm (e :: bs) k = rm bs k := by unfold rm; simp [List.filter_cons, h1]
      rw [e1, rm_no (by rw [← h1]; exact hn'.1)]
      rfl
    · rw [if_neg h1] at h
      have ih := rm_len hn'.2 h
      have e1 : rm (e :: bs) k = e :: rm bs k := by unfold rm; simp [List.filter_cons, h1]
      rw [e1, List.length_cons, List.length_cons]
      omega
/-- where the fall stands: what waits is w, what has fallen is row, the weights told are W -/
structure FS (S : Pl) (fin : List (Int × Bx) × List Int) (rs : List (List (Option Int))) (bs : List (Int × Bx)) (w : List (Option Int)) (row W : List Int) : Prop where
  wf : Wf { S with boxes := bs } w
  e2 : row ++ (go (w.length + room bs) bs w).2 = fin.2
  e1 : (go (w.length + room bs) bs w).1 = fin.1
  told : Told bs W
  sl : ∀ n b, get bs n = some b → rs[n.toNat]? = some b.slots
  few : row.length + bs.length ≤ 60
theorem FS.next {S : Pl} {fin : List (Int × Bx) × List Int} {rs : List (List (Option Int))} {bs : List (Int × Bx)} {x : Option Int} {w : List (Option Int)} {row W W' : List Int} (h : FS S fin rs bs (x :: w) row W)
    (ht : Told (fall bs w x).1 W') (hf : (row ++ (fall bs w x).2.2).length + (fall bs w x).1.length ≤ 60) : FS S fin rs (fall bs w x).1 (fall bs w x).2.1 (row ++ (fall bs w x).2.2) W' := by
  obtain ⟨h1, h2'⟩ := fall_ok h.wf
  have h2 : (fall bs w x).2.1.length + room (fall bs w x).1 = w.length + room bs := h2'
  have em : (x :: w).length + room bs = (w.length + room bs) + 1 := by rw [List.length_cons]; omega
  have e2 := h.e2
  have e1 := h.e1
  rw [em] at e2 e1
  refine ⟨h1, ?_, ?_, ht, fun n b e => ?_, hf⟩
  · rw [h2, List.append_assoc]
    exact e2
  · rw [h2]
    exact e1
  · obtain ⟨c, hc, es⟩ := fall_slots e
    rw [← es]
    exact h.sl n c hc
theorem FS.skip {S : Pl} {fin : List (Int × Bx) × List Int} {rs : List (List (Option Int))} {bs : List (Int × Bx)} {w : List (Option Int)} {row W : List Int} (h : FS S fin rs bs (none :: w) row W) : FS S fin rs bs w row W := by
  have := h.next (W' := W) h.told (by rw [show (fall bs w none).2.2 = [] from rfl, List.append_nil]; exact h.few)
  rw [show (fall bs w none).2.2 = [] from rfl, List.append_nil] at this
  exact this
theorem FS.box {S : Pl} {fin : List (Int × Bx) × List Int} {rs : List (List (Option Int))} {bs : List (Int × Bx)} {n : Int} {w : List (Option Int)} {row W : List Int} (h : FS S fin rs bs (some n :: w) row W) : ∃ b, get bs n = some b :=
  h.wf.cl n (by rw [cnt_cons]; simp [one]; omega)
theorem FS.low {S : Pl} {fin : List (Int × Bx) × List Int} {rs : List (List (Option Int))} {bs : List (Int × Bx)} {n : Int} {b : Bx} {w : List (Option Int)} {row W : List Int} (h : FS S fin rs bs (some n :: w) row W) (hb : get bs n = some b) (c : b.wt ≠ 1) :
    FS S fin rs (chg bs n BP.low) w row (W.set n.toNat (b.wt - 1)) := by
  have ef := fall_low w hb c
  have := h.next (h.told.step (w := w) hb) (by rw [ef, len_chg, List.append_nil]; exact h.few)
  rw [ef, List.append_nil] at this
  exact this
theorem FS.free {S : Pl} {fin : List (Int × Bx) × List Int} {rs : List (List (Option Int))} {bs : List (Int × Bx)} {n : Int} {b : Bx} {w : List (Option Int)} {row W : List Int} (h : FS S fin rs bs (some n :: w) row W) (hb : get bs n = some b) (c : b.wt = 1) :
    FS S fin rs (rm bs n) (w ++ b.slots) (row ++ [n]) (W.set n.toNat (b.wt - 1)) ∧ (rm bs n).length + 1 = bs.length := by
  have ef := fall_free w hb c
  have hl : (rm bs n).length + 1 = bs.length := rm_len h.wf.nd hb
  have hf := h.few
  have := h.next (h.told.step (w := w) hb) (by rw [ef, List.length_append]; show row.length + 1 + (rm bs n).length ≤ 60; omega)
  rw [ef] at this
  exact ⟨this, hl⟩
/-- all pointers at n in the rows -/
def tot (rs : List (List (Option Int))) (n : Int) : Nat := (rs.map fun r => cnt r n).sum
theorem tot_nil (n : Int) : tot [] n = 0 := rfl
theorem tot_cons (r : List (Option Int)) (rs : List (List (Option Int))) (n : Int) : tot (r :: rs) n = cnt r n + tot rs n := by simp [tot]
theorem tot_append (a b : List (List (Option Int))) (n : Int) : tot (a ++ b) n = tot a n + tot b n := by simp [tot]
/-- the pointers at 0, 1, .. in the rows -/
def Wt (rs : List (List (Option Int))) (k : Nat) : List Int := (List.range k).map fun (n : Nat) => ((tot rs (n : Int) : Nat) : Int)
theorem Wt_len (rs : List (List (Option Int))) (k : Nat) : (Wt rs k).length = k := by unfold Wt; rw [List.length_map, List.length_range]
theorem Wt_get {rs : List (List (Option Int))} {k : Nat} {n : Int} (h0 : 0 ≤ n) (h1 : n < (k : Int)) : (Wt rs k)[n.toNat]? = some ((tot rs n : Nat) : Int) := by
  unfold Wt
  rw [List.getElem?_map, List.getElem?_range (by omega)]
  show some ((tot rs ((n.toNat : Nat) : Int) : Nat) : Int) = _
  rw [Int.toNat_of_nonneg h0]
theorem Wt_zero (k : Nat) : Wt [] k = List.replicate k 0 := by
  unfold Wt
  show (List.range k).map (fun _ => (0 : Int)) = _
  rw [List.map_const', List.length_range]
theorem Wt_congr {a b : List (List (Option Int))} {k : Nat} (h : ∀ n, tot a n = tot b n) : Wt a k = Wt b k := by
  unfold Wt
  exact List.map_congr_left fun n _ => by rw [h]
theorem Wt_more {a b : List (List (Option Int))} {k : Nat} {n : Int} (h0 : 0 ≤ n) (h1 : n < (k : Int)) (h : ∀ m, tot b m = tot a m + one (some n) m) : (Wt a k).set n.toNat (((tot a n : Nat) : Int) + 1) = Wt b k := by
  refine List.ext_getElem? fun i => ?_
  by_cases c : i < k
  · have hb : (Wt b k)[i]? = some ((tot b (i : Int) : Nat) : Int) := Wt_get (n := (i : Int)) (by omega) (by omega)
    have ha : (Wt a k)[i]? = some ((tot a (i : Int) : Nat) : Int) := Wt_get (n := (i : Int)) (by omega) (by omega)
    rw [hb, h]
    by_cases q : i = n.toNat
    · subst q
      rw [List.getElem?_set_self (by rw [Wt_len]; exact c), Int.toNat_of_nonneg h0]
      have : one (some n) n = 1 := by simp [one]
      rw [this]
      rfl
    · rw [List.getElem?_set_ne (by omega), ha]
      have : one (some n) (i : Int) = 0 := by
        unfold one
        rw [if_neg (fun z => q (by have := Option.some.inj z; omega))]
      rw [this]
      rfl
  · rw [List.getElem?_eq_none (by rw [List.length_set, Wt_len]; omega), List.getElem?_eq_none (by rw [Wt_len]; omega)]
theorem scnt_tot (bs : List (Int × Bx)) (n : Int) : scnt bs n = tot (bs.map fun e => e.2.slots) n := by
  unfold scnt tot
  rw [List.map_map]
  rfl
theorem Rows.list {P : Pl} {rs : List (List (Option Int))} (h : Rows P rs) : keys P.boxes = (List.range (rs.length - 1)).map fun i => ((i : Nat) : Int) + 1 := by
  refine sorted_mem_eq h.wf.ks ?_ fun n => ?_
  · rw [List.pairwise_map]
    exact List.pairwise_lt_range.imp fun h => by omega
  · have := h.pos
    rw [h.ks n, List.mem_map]
    constructor
    · rintro ⟨a, b⟩
      exact ⟨(n - 1).toNat, List.mem_range.mpr (by omega), by omega⟩
    · rintro ⟨i, hi, e⟩
      have := List.mem_range.mp hi
      omega
theorem Rows.tail {P : Pl} {rs : List (List (Option Int))} (h : Rows P rs) : P.boxes.map (fun e => e.2.slots) = rs.tail := by
  have hk := h.list
  have hpos := h.pos
  have hlen : P.boxes.length = rs.length - 1 := by
    have := congrArg List.length hk
    rw [List.length_map, List.length_range] at this
    rw [← this]
    exact (List.length_map _).symm
  refine List.ext_getElem? fun i => ?_
  rw [List.getElem?_map, List.getElem?_tail]
  by_cases c : i < P.boxes.length
  · rw [List.getElem?_eq_getElem c]
    have ek : (P.boxes[i]).1 = (i : Int) + 1 := by
      have e1 : (keys P.boxes)[i]? = some (P.boxes[i]).1 := by
        unfold keys
        rw [List.getElem?_map, List.getElem?_eq_getElem c]
        rfl
      rw [hk, List.getElem?_map, List.getElem?_range (by omega)] at e1
      exact (Option.some.inj e1).symm
    have hb := mem_get h.wf.nd (show ((P.boxes[i]).1, (P.boxes[i]).2) ∈ P.boxes from List.getElem_mem c)
    have := h.sl _ _ hb
    rw [ek] at this
    have e2 : ((i : Int) + 1).toNat = i + 1 := by omega
    rw [e2] at this
    rw [this]
    rfl
  · rw [List.getElem?_eq_none (by omega), List.getElem?_eq_none (by omega)]
    rfl
theorem Rows.scnt {P : Pl} {rs : List (List (Option Int))} (h : Rows P rs) (n : Int) : scnt P.boxes n = tot rs.tail n := by
  rw [scnt_tot, h.tail]
end BP

/-! What leads where: hands, suspects, and what waits; the trial. Own work; core Lean alone. -/
namespace BP
def Edge (bs : List (Int × Bx)) (a b : Int) : Prop := ∃ x, get bs a = some x ∧ some b ∈ x.slots
inductive Path (bs : List (Int × Bx)) : Int → Int → Prop
  | refl (n : Int) : Path bs n n
  | step {a b c : Int} : Edge bs a b → Path bs b c → Path bs a c
theorem Path.trans {bs : List (Int × Bx)} {a b c : Int} (h : Path bs a b) (k : Path bs b c) : Path bs a c := by
  induction h with
  | refl n => exact k
  | step e _ ih => exact .step e (ih k)
theorem Path.one {bs : List (Int × Bx)} {a b : Int} (h : Edge bs a b) : Path bs a b := .step h (.refl b)
theorem Path.mono {bs bs' : List (Int × Bx)} (hm : ∀ a b, Edge bs a b → Edge bs' a b) {a b : Int} (h : Path bs a b) : Path bs' a b := by
  induction h with
  | refl n => exact .refl n
  | step e _ ih => exact .step (hm _ _ e) ih
/-- slots as they were: what leads where stays -/
theorem Edge.alike {bs bs' : List (Int × Bx)} (h : ∀ n b, get bs n = some b → ∃ c, get bs' n = some c ∧ c.slots = b.slots) {a b : Int} (e : Edge bs a b) : Edge bs' a b := by
  obtain ⟨x, hx, hb⟩ := e
  obtain ⟨c, hc, es⟩ := h a x hx
  exact ⟨c, hc, by rw [es]; exact hb⟩
/-- where it starts -/
def Src (P : Pl) (w : List (Option Int)) (m : Int) : Prop := some m ∈ P.hands ∨ (∃ b, get P.boxes m = some b ∧ b.sus = true) ∨ some m ∈ w
def Led (P : Pl) (w : List (Option Int)) : Prop := ∀ n b, get P.boxes n = some b → ∃ m, Src P w m ∧ Path P.boxes m n
theorem path_gone {bs : List (Int × Bx)} {n k : Int} (h : get bs n = none) (p : Path bs n k) : k = n := by
  cases p with
  | refl => rfl
  | step e _ =>
    obtain ⟨x, hx, _⟩ := e
    rw [h] at hx
    cases hx
/-- without the box n: what n led to is led to by its slots -/
theorem path_rm {bs : List (Int × Bx)} {n : Int} {b : Bx} (hb : get bs n = some b) {a k : Int} (p : Path bs a k) (hk : k ≠ n) : Path (rm bs n) a k ∨ ∃ o, some o ∈ b.slots ∧ Path (rm bs n) o k := by
  induction p with
  | refl m => exact .inl (.refl m)
  | @step a c k e _ ih =>
    rcases ih hk with j | j
    · obtain ⟨x, hx, hc⟩ := e
      by_cases q : a = n
      · subst q
        have : x = b := Option.some.inj (hx.symm.trans hb)
        subst this
        exact .inr ⟨c, hc, j⟩
      · exact .inl (.step ⟨x, by rw [get_rm, if_neg q]; exact hx, hc⟩ j)
    · exact .inr j
theorem fall_led {P : Pl} {x : Option Int} {w : List (Option Int)} (h : Led P (x :: w)) : Led { P with boxes := (fall P.boxes w x).1 } (fall P.boxes w x).2.1 := by
  have skip : ∀ n b, get P.boxes n = some b → (∀ k, x = some k → ¬ Path P.boxes k n) → ∃ m, Src P w m ∧ Path P.boxes m n := fun n b hb no => by
    obtain ⟨m, hm, p⟩ := h n b hb
    rcases hm with hm | hm | hm
    · exact ⟨m, .inl hm, p⟩
    · exact ⟨m, .inr (.inl hm), p⟩
    · rcases List.mem_cons.mp hm with hm | hm
      · exact absurd p (no m hm.symm)
      · exact ⟨m, .inr (.inr hm), p⟩
  cases x with
  | none => exact fun n b hb => skip n b hb fun k e => by cases e
  | some n =>
    cases e : get P.boxes n with
    | none =>
      rw [fall_gone w e]
      intro k b hb
      refine skip k b hb fun j ej p => ?_
      have : n = j := Option.some.inj ej
      subst this
      have := path_gone e p
      subst this
      have hb' : get P.boxes k = some b := hb
      rw [e] at hb'
      cases hb'
    | some b =>
      by_cases c : b.wt = 1
      · rw [fall_free w e c]
        intro k d hd
        have hd' : get (rm P.boxes n) k = some d := hd
        have hk : k ≠ n := fun q => by
          rw [get_rm, if_pos q] at hd'
          cases hd'
        rw [get_rm, if_neg hk] at hd'
        obtain ⟨m, hm, p⟩ := h k d hd'
        rcases path_rm e p hk with p | ⟨o, ho, p⟩
        · by_cases qm : m = n
          · subst qm
            have := path_gone (bs := rm P.boxes m) (by rw [get_rm, if_pos rfl]) p
            exact absurd this hk
          · rcases hm with hm | ⟨bm, hbm, hs⟩ | hm
            · exact ⟨m, .inl hm, p⟩
            · exact ⟨m, .inr (.inl ⟨bm, by show get (rm P.boxes n) m = _; rw [get_rm, if_neg qm]; exact hbm, hs⟩), p⟩
            · rcases List.mem_cons.mp hm with hm | hm
              · exact absurd (Option.some.inj hm) qm
              · exact ⟨m, .inr (.inr (List.mem_append_left _ hm)), p⟩
        · exact ⟨o, .inr (.inr (List.mem_append_right _ ho)), p⟩
      · rw [fall_low w e c]
        intro k d hd
        have hd' : get (chg P.boxes n low) k = some d := hd
        have al : ∀ m b, get P.boxes m = some b → ∃ c, get (chg P.boxes n low) m = some c ∧ c.slots = b.slots ∧ (b.sus = true → c.sus = true) ∧ (m = n → c.sus = true) := fun m b hb => by
          rw [get_chg, hb]
          refine ⟨_, rfl, ?_, ?_, ?_⟩
          · split <;> rfl
          · intro s; split
            · rfl
            · exact s
          · intro s; show (if m = n then low b else b).sus = true; rw [if_pos s]; rfl
        obtain ⟨d0, hd0⟩ : ∃ d0, get P.boxes k = some d0 := by
          rw [get_chg] at hd'
          cases q : get P.boxes k with
          | none => rw [q] at hd'; cases hd'
          | some d0 => exact ⟨d0, rfl⟩
        obtain ⟨m, hm, p⟩ := h k d0 hd0
        have p' : Path (chg P.boxes n low) m k := p.mono fun a b e => e.alike fun n b h => by
          obtain ⟨c, h1, h2, _⟩ := al n b h
          exact ⟨c, h1, h2⟩
        rcases hm with hm | ⟨bm, hbm, hs⟩ | hm
        · exact ⟨m, .inl hm, p'⟩
        · obtain ⟨c, h1, _, h3, _⟩ := al m bm hbm
          exact ⟨m, .inr (.inl ⟨c, h1, h3 hs⟩), p'⟩
        · rcases List.mem_cons.mp hm with hm | hm
          · have : m = n := Option.some.inj hm
            subst this
            obtain ⟨c, h1, _, _, h4⟩ := al m b e
            exact ⟨m, .inr (.inl ⟨c, h1, h4 rfl⟩), p'⟩
          · exact ⟨m, .inr (.inr hm), p'⟩
theorem go_led : ∀ {m : Nat} {P : Pl} {w : List (Option Int)}, Wf P w → Led P w → w.length + room P.boxes = m → Led { P with boxes := (go m P.boxes w).1 } []
  | 0, P, w, W, h, e => by
    have : w = [] := List.length_eq_zero_iff.mp (by omega)
    subst this
    exact h
  | m + 1, P, [], W, h, e => h
  | m + 1, P, x :: w, W, h, e => by
    obtain ⟨W1, e1⟩ := fall_ok W
    have h1 := fall_led h
    have := go_led (m := m) W1 h1 (by show (fall P.boxes w x).2.1.length + room (fall P.boxes w x).1 = m; rw [e1]; rw [List.length_cons] at e; omega)
    exact this
theorem run_led {P : Pl} {w : List (Option Int)} (W : Wf P w) (h : Led P w) : Led { P with boxes := (run P.boxes w).1 } [] := go_led W h rfl
theorem mem_set_or {l : List (Option Int)} {i : Nat} (x : Option Int) {m : Int} (h : some m ∈ l) : l.getD i none = some m ∨ some m ∈ l.set i x := by
  obtain ⟨j, hj, e⟩ := List.mem_iff_getElem.mp h
  by_cases c : i = j
  · subst c
    exact .inl (by rw [List.getD_eq_getElem?_getD, List.getElem?_eq_getElem hj, e]; rfl)
  · refine .inr (List.mem_iff_getElem.mpr ⟨j, by rw [List.length_set]; exact hj, ?_⟩)
    rw [List.getElem_set_ne c]
    exact e
theorem bumped_alike {bs : List (Int × Bx)} {x : Option Int} {n : Int} {b : Bx} (h : get bs n = some b) : ∃ c, get (bumped bs x) n = some c ∧ c.slots = b.slots ∧ c.sus = b.sus := by
  rw [get_bumped, h]
  refine ⟨_, rfl, ?_, ?_⟩ <;> split <;> rfl
theorem bumped_was {bs : List (Int × Bx)} {x : Option Int} {n : Int} {b : Bx} (h : get (bumped bs x) n = some b) : ∃ c, get bs n = some c := by
  rw [get_bumped] at h
  cases q : get bs n with
  | none => rw [q] at h; cases h
  | some c => exact ⟨c, rfl⟩
/-- a hand points anew -/
theorem ptHand_led {P : Pl} {x : Option Int} (pre : Pre P x) {i : Nat} (hi : i < 8) (h : ∀ n b, get P.boxes n = some b → x = some n ∨ ∃ m, Src P [] m ∧ Path P.boxes m n) : Led (ptHand P i x).1 [] := by
  refine run_led (P := { P with hands := P.hands.set i x, boxes := bumped P.boxes x }) (pre.hand hi) fun n b hb => ?_
  obtain ⟨c, hc⟩ := bumped_was hb
  have hmem : some n = x → some n ∈ P.hands.set i x := fun e => by
    rw [e]
    exact List.mem_of_getElem? (List.getElem?_set_self (by rw [pre.hl]; exact hi))
  rcases h n c hc with e | ⟨m, hm, p⟩
  · exact ⟨n, .inl (hmem e.symm), .refl n⟩
  · have p' : Path (bumped P.boxes x) m n := p.mono fun a b e => e.alike fun n b h => by
      obtain ⟨c, h1, h2, _⟩ := bumped_alike (x := x) h
      exact ⟨c, h1, h2⟩
    rcases hm with hm | ⟨bm, hbm, hs⟩ | hm
    · rcases mem_set_or (i := i) x hm with q | q
      · exact ⟨m, .inr (.inr (by rw [q]; exact List.mem_singleton.mpr rfl)), p'⟩
      · exact ⟨m, .inl q, p'⟩
    · obtain ⟨c, h1, _, h3⟩ := bumped_alike (x := x) hbm
      exact ⟨m, .inr (.inl ⟨c, h1, h3.trans hs⟩), p'⟩
    · cases hm
/-- a slot points anew -/
theorem ptSlot_led {P : Pl} {x : Option Int} (pre : Pre P x) {k : Int} {b : Bx} {i : Nat} (hb : get P.boxes k = some b) (hi : i < b.slots.length) (h : Led P []) : Led (ptSlot P k i x).1 [] := by
  have W := pre.slot hb hi
  refine run_led (P := { P with boxes := chg (bumped P.boxes x) k (setSlot i x) }) ?_ fun n d hd => ?_
  · have := W
    have e : slotOf P.boxes k i = b.slots.getD i none := by unfold slotOf; rw [hb]
    rw [e]
    exact this
  have e : slotOf P.boxes k i = b.slots.getD i none := by unfold slotOf; rw [hb]
  have hd' : get (chg (bumped P.boxes x) k (setSlot i x)) n = some d := hd
  obtain ⟨c, hc⟩ : ∃ c, get P.boxes n = some c := by
    rw [get_chg] at hd'
    cases q : get (bumped P.boxes x) n with
    | none => rw [q] at hd'; cases hd'
    | some c => exact bumped_was q
  have al : ∀ m b, get P.boxes m = some b → ∃ c, get (chg (bumped P.boxes x) k (setSlot i x)) m = some c ∧ c.sus = b.sus ∧ c.slots = if m = k then b.slots.set i x else b.slots := fun m b hb => by
    obtain ⟨c, h1, h2, h3⟩ := bumped_alike (x := x) hb
    rw [get_chg, h1]
    refine ⟨_, rfl, ?_, ?_⟩
    · split
      · exact h3
      · exact h3
    · by_cases q : m = k
      · show (if m = k then setSlot i x c else c).slots = _
        rw [if_pos q, if_pos q]
        show c.slots.set i x = _
        rw [h2]
      · show (if m = k then setSlot i x c else c).slots = _
        rw [if_neg q, if_neg q]
        exact h2
  have turn : ∀ a z, Path P.boxes a z → Path (chg (bumped P.boxes x) k (setSlot i x)) a z ∨ ∃ o, b.slots.getD i none = some o ∧ Path (chg (bumped P.boxes x) k (setSlot i x)) o z := fun a z p => by
    induction p with
    | refl m => exact .inl (.refl m)
    | @step a c z e _ ih =>
      rcases ih with ih | ih
      · obtain ⟨y, hy, hc⟩ := e
        obtain ⟨y', h1, _, h3⟩ := al a y hy
        by_cases q : a = k
        · subst q
          have : y = b := Option.some.inj (hy.symm.trans hb)
          subst this
          rcases mem_set_or (i := i) x hc with q | q
          · exact .inr ⟨c, q, ih⟩
          · exact .inl (.step ⟨y', h1, by rw [h3, if_pos rfl]; exact q⟩ ih)
        · exact .inl (.step ⟨y', h1, by rw [h3, if_neg q]; exact hc⟩ ih)
      · exact .inr ih
  obtain ⟨m, hm, p⟩ := h n c hc
  rcases turn m n p with p' | ⟨o, ho, p'⟩
  · rcases hm with hm | ⟨bm, hbm, hs⟩ | hm
    · exact ⟨m, .inl hm, p'⟩
    · obtain ⟨c, h1, h2, _⟩ := al m bm hbm
      exact ⟨m, .inr (.inl ⟨c, h1, h2.trans hs⟩), p'⟩
    · cases hm
  · exact ⟨o, .inr (.inr (by rw [e, ho]; exact List.mem_singleton.mpr rfl)), p'⟩
/-- a box made -/
theorem mk_led {P : Pl} (W : Wf P []) {i size : Nat} (hi : i < 8) (hs : size ≤ 6) (hf : P.boxes.length < 60) (h : Led P []) : Led (mk P i size).1 [] := by
  refine ptHand_led (W.born hs hf) hi fun n b hb => ?_
  rw [get_born W size n] at hb
  by_cases q : n = P.made
  · exact .inl (by rw [q])
  · rw [if_neg q] at hb
    obtain ⟨m, hm, p⟩ := h n b hb
    have hno : get P.boxes P.made = none := get_none.mpr fun z => by have := (W.lo _ z).2; omega
    have al : ∀ m b, get P.boxes m = some b → get (born P size).boxes m = some b := fun m b e => by
      rw [get_born W size m, if_neg (fun z => by rw [z, hno] at e; cases e)]
      exact e
    refine .inr ⟨m, ?_, p.mono fun a b e => e.alike fun n b h => ⟨b, al n b h, rfl⟩⟩
    rcases hm with hm | ⟨bm, hbm, hs⟩ | hm
    · exact .inl hm
    · exact .inr (.inl ⟨bm, al _ _ hbm, hs⟩)
    · cases hm
theorem led0 : Led pl0 [] := fun n b e => by simp [pl0, get_nil] at e
/-! ### the trial -/
/-- the boxes of the row F, and those beside it -/
def inn (bs : List (Int × Bx)) (F : List Int) : List (Int × Bx) := bs.filter fun e => decide (e.1 ∈ F)
def out (bs : List (Int × Bx)) (F : List Int) : List (Int × Bx) := bs.filter fun e => decide (e.1 ∉ F)
theorem scnt_split (bs : List (Int × Bx)) (F : List Int) (n : Int) : scnt bs n = scnt (inn bs F) n + scnt (out bs F) n := by
  induction bs with
  | nil => rfl
  | cons e bs ih =>
    unfold inn out at ih ⊢
    rw [scnt_cons, List.filter_cons, List.filter_cons]
    by_cases c : e.1 ∈ F
    · rw [if_pos (decide_eq_true c), if_neg (by simp [c]), scnt_cons]
      omega
    · rw [if_neg (by simp [c]), if_pos (decide_eq_true c), scnt_cons]
      omega
theorem scnt_pos {bs : List (Int × Bx)} {n : Int} (h : 0 < scnt bs n) : ∃ e ∈ bs, some n ∈ e.2.slots := by
  induction bs with
  | nil => simp [scnt_nil] at h
  | cons e bs ih =>
    rw [scnt_cons] at h
    by_cases c : 0 < cnt e.2.slots n
    · exact ⟨e, List.mem_cons_self, cnt_pos.mp c⟩
    · obtain ⟨e', h1, h2⟩ := ih (by omega)
      exact ⟨e', List.mem_cons_of_mem _ h1, h2⟩
theorem scnt_of {bs : List (Int × Bx)} {n : Int} {e : Int × Bx} (he : e ∈ bs) (h : some n ∈ e.2.slots) : 0 < scnt bs n := by
  induction bs with
  | nil => cases he
  | cons d bs ih =>
    rw [scnt_cons]
    rcases List.mem_cons.mp he with rfl | he
    · have := cnt_pos.mpr h
      omega
    · have := ih he
      omega
/-- what a hand leads to -/
def HL (P : Pl) (n : Int) : Prop := ∃ h, some h ∈ P.hands ∧ Path P.boxes h n
/-- what a suspect leads to -/
def SL (P : Pl) (n : Int) : Prop := ∃ s b, get P.boxes s = some b ∧ b.sus = true ∧ Path P.boxes s n
theorem Led.or {P : Pl} (h : Led P []) {n : Int} {b : Bx} (hb : get P.boxes n = some b) : HL P n ∨ SL P n := by
  obtain ⟨m, hm, p⟩ := h n b hb
  rcases hm with hm | ⟨c, hc, hs⟩ | hm
  · exact .inl ⟨m, hm, p⟩
  · exact .inr ⟨m, c, hc, hs, p⟩
  · cases hm
theorem Path.alive {P : Pl} {w : List (Option Int)} (W : Wf P w) {a n : Int} (p : Path P.boxes a n) (ha : ∃ b, get P.boxes a = some b) : ∃ b, get P.boxes n = some b := by
  induction p with
  | refl m => exact ha
  | step e _ ih =>
    obtain ⟨x, hx, hc⟩ := e
    refine ih (W.cl _ ?_)
    have h1 := cnt_pos.mpr hc
    exact Nat.lt_of_lt_of_le h1 (Nat.le_trans (scnt_le _ hx) (Nat.le_trans (Nat.le_add_left _ _) (Nat.le_add_right _ _)))
theorem HL.alive {P : Pl} {w : List (Option Int)} (W : Wf P w) {n : Int} (h : HL P n) : ∃ b, get P.boxes n = some b := by
  obtain ⟨m, hm, p⟩ := h
  refine p.alive W (W.cl m ?_)
  have := cnt_pos.mpr hm
  omega
theorem HL.next {P : Pl} {a n : Int} (h : HL P a) (e : Edge P.boxes a n) : HL P n := by
  obtain ⟨m, hm, p⟩ := h
  exact ⟨m, hm, p.trans (.one e)⟩
/-- boxes beside F stay, and weigh what is left -/
def tidied (P : Pl) (F : List Int) : Pl := { P with boxes := (out P.boxes F).map fun e => (e.1, { e.2 with wt := e.2.wt - ((scnt (inn P.boxes F) e.1 : Nat) : Int), sus := false }) }
theorem get_out (bs : List (Int × Bx)) (F : List Int) (n : Int) : get (out bs F) n = if n ∈ F then none else get bs n := by
  induction bs with
  | nil => unfold out; simp [get_nil]
  | cons e bs ih =>
    unfold out at ih ⊢
    rw [List.filter_cons]
    by_cases c : e.1 ∈ F
    · rw [if_neg (by simp [c]), ih, get_cons]
      by_cases q : n ∈ F
      · rw [if_pos q, if_pos q]
      · rw [if_neg q, if_neg q, if_neg (fun z => q (by rw [← z]; exact c))]
    · rw [if_pos (by simp [c]), get_cons, ih, get_cons]
      by_cases z : e.1 = n
      · rw [if_pos z, if_pos z, if_neg (by rw [← z]; exact c)]
      · rw [if_neg z, if_neg z]
theorem get_mapv (f : Int → Bx → Bx) (n : Int) : ∀ bs : List (Int × Bx), get (bs.map fun e => (e.1, f e.1 e.2)) n = (get bs n).map (f n)
  | [] => rfl
  | e :: bs => by
    have ih := get_mapv f n bs
    rw [List.map_cons, get_cons, get_cons, ih]
    by_cases z : e.1 = n
    · subst z
      rw [if_pos rfl, if_pos rfl]
      rfl
    · rw [if_neg z, if_neg z]
theorem get_tidied (P : Pl) (F : List Int) (n : Int) : get (tidied P F).boxes n = if n ∈ F then none else (get P.boxes n).map fun b => { b with wt := b.wt - ((scnt (inn P.boxes F) n : Nat) : Int), sus := false } := by
  have := get_mapv (fun k b => { b with wt := b.wt - ((scnt (inn P.boxes F) k : Nat) : Int), sus := false }) n (out P.boxes F)
  show get ((out P.boxes F).map fun e => (e.1, _)) n = _
  rw [this, get_out]
  by_cases q : n ∈ F
  · rw [if_pos q, if_pos q]; rfl
  · rw [if_neg q, if_neg q]
theorem keys_tidied (P : Pl) (F : List Int) : keys (tidied P F).boxes = (keys P.boxes).filter fun n => decide (n ∉ F) := by
  unfold keys tidied out
  rw [List.map_map, List.filter_map]
  rfl
theorem scnt_map (f : Int × Bx → Int × Bx) (hf : ∀ e, (f e).2.slots = e.2.slots) (n : Int) (bs : List (Int × Bx)) : scnt (bs.map f) n = scnt bs n := by
  unfold scnt
  rw [List.map_map]
  congr 1
  refine List.map_congr_left fun e _ => ?_
  show cnt (f e).2.slots n = _
  rw [hf]
theorem scnt_tidied (P : Pl) (F : List Int) (n : Int) : scnt (tidied P F).boxes n = scnt (out P.boxes F) n := scnt_map (fun e => (e.1, { e.2 with wt := e.2.wt - ((scnt (inn P.boxes F) e.1 : Nat) : Int), sus := false })) (fun _ => rfl) n _
/-- the row of all that no hand leads to -/
def Dead (P : Pl) (F : List Int) : Prop := ∀ n, n ∈ F ↔ (∃ b, get P.boxes n = some b) ∧ ¬ HL P n
theorem tidied_wf {P : Pl} {F : List Int} (W : Wf P []) (hF : Dead P F) : Wf (tidied P F) [] := by
  have hout : ∀ n, 0 < cnt P.hands n + scnt (out P.boxes F) n → HL P n := fun n e => by
    by_cases c : 0 < cnt P.hands n
    · exact ⟨n, cnt_pos.mp c, .refl n⟩
    · obtain ⟨d, hd, hs⟩ := scnt_pos (bs := out P.boxes F) (n := n) (by omega)
      unfold out at hd
      obtain ⟨h1, h2⟩ := List.mem_filter.mp hd
      have h2' : d.1 ∉ F := of_decide_eq_true h2
      have hb := mem_get W.nd (show (d.1, d.2) ∈ P.boxes from h1)
      have hl : HL P d.1 := Classical.byContradiction fun z => h2' ((hF d.1).mpr ⟨⟨_, hb⟩, z⟩)
      exact hl.next ⟨d.2, hb, hs⟩
  refine ⟨W.hl, by rw [keys_tidied]; exact W.ks.filter _, fun n hn => ?_, ?_, fun n b e => ?_, fun n b e => ?_, fun n e => ?_, W.m0⟩
  · rw [keys_tidied] at hn
    exact W.lo n (List.mem_filter.mp hn |>.1)
  · show ((out P.boxes F).map _).length ≤ 60
    rw [List.length_map]
    exact Nat.le_trans (List.length_filter_le _ _) W.few
  · rw [get_tidied] at e
    split at e
    · cases e
    · cases q : get P.boxes n with
      | none => rw [q] at e; cases e
      | some c =>
        rw [q] at e
        rw [← Option.some.inj e]
        exact W.sl n c q
  · rw [get_tidied] at e
    by_cases c : n ∈ F
    · rw [if_pos c] at e; cases e
    rw [if_neg c] at e
    cases q : get P.boxes n with
    | none => rw [q] at e; cases e
    | some d =>
      rw [q] at e
      have hw := (W.wt n d q).1
      have hh := (tidied P F).hands
      have sp := scnt_split P.boxes F n
      have e1 : b.wt = d.wt - ((scnt (inn P.boxes F) n : Nat) : Int) := by rw [← Option.some.inj e]
      have e2 : (tidied P F).hands = P.hands := rfl
      rw [scnt_tidied, e2, cnt_nil, e1, hw, cnt_nil]
      refine ⟨by omega, ?_⟩
      -- something that stays points at it
      have hl : HL P n := Classical.byContradiction fun z => c ((hF n).mpr ⟨⟨_, q⟩, z⟩)
      have : 0 < cnt P.hands n + scnt (out P.boxes F) n := by
        obtain ⟨m, hm, p⟩ := hl
        have key : ∀ a z, Path P.boxes a z → HL P a → 0 < cnt P.hands a + scnt (out P.boxes F) a → 0 < cnt P.hands z + scnt (out P.boxes F) z := fun a z p => by
          induction p with
          | refl m => exact fun _ h => h
          | @step a c z e _ ih =>
            intro hl _
            refine ih (hl.next e) ?_
            obtain ⟨x, hx, hc⟩ := e
            have : (a, x) ∈ out P.boxes F := by
              unfold out
              refine List.mem_filter.mpr ⟨get_mem hx, decide_eq_true fun z => ((hF a).mp z).2 hl⟩
            have := scnt_of this hc
            omega
        have h0 := cnt_pos.mpr hm
        exact key m n p ⟨m, hm, .refl m⟩ (by omega)
      omega
  · rw [scnt_tidied, cnt_nil] at e
    have e2 : (tidied P F).hands = P.hands := rfl
    rw [e2] at e
    have hl := hout n (by omega)
    obtain ⟨b, hb⟩ := hl.alive W
    rw [get_tidied, if_neg (fun z => ((hF n).mp z).2 hl), hb]
    exact ⟨_, rfl⟩
/-- behind it hands lead to all that is alive, and there is no suspect -/
theorem tidied_hl {P : Pl} {F : List Int} (W : Wf P []) (hF : Dead P F) {n : Int} {b : Bx} (hb : get (tidied P F).boxes n = some b) : HL (tidied P F) n ∧ b.sus = false := by
  rw [get_tidied] at hb
  by_cases c : n ∈ F
  · rw [if_pos c] at hb; cases hb
  rw [if_neg c] at hb
  cases q : get P.boxes n with
  | none => rw [q] at hb; cases hb
  | some d =>
    rw [q] at hb
    refine ⟨?_, by rw [← Option.some.inj hb]⟩
    obtain ⟨m, hm, p⟩ : HL P n := Classical.byContradiction fun z => c ((hF n).mpr ⟨⟨_, q⟩, z⟩)
    refine ⟨m, hm, ?_⟩
    have key : ∀ a z, Path P.boxes a z → HL P a → Path (tidied P F).boxes a z := fun a z p => by
      induction p with
      | refl m => exact fun _ => .refl m
      | @step a c z e _ ih =>
        intro hl
        refine .step ?_ (ih (hl.next e))
        obtain ⟨x, hx, hc⟩ := e
        exact ⟨{ x with wt := x.wt - ((scnt (inn P.boxes F) a : Nat) : Int), sus := false }, by rw [get_tidied, if_neg (fun z => ((hF a).mp z).2 hl), hx]; rfl, hc⟩
    exact key m n p ⟨m, hm, .refl m⟩
theorem tidied_led {P : Pl} {F : List Int} (W : Wf P []) (hF : Dead P F) : Led (tidied P F) [] := fun n b hb => by
  obtain ⟨⟨m, hm, p⟩, _⟩ := tidied_hl W hF hb
  exact ⟨m, .inl hm, p⟩
/-- what is looked at, of that what stays: the rest is just what no hand leads to -/
theorem trial_dead {P : Pl} {A K : List Int} (W : Wf P []) (L : Led P []) (hA : ∀ n, n ∈ A ↔ SL P n)
    (hK : ∀ n, n ∈ K ↔ ∃ m b, m ∈ A ∧ get P.boxes m = some b ∧ 0 < b.wt - ((scnt (inn P.boxes A) m : Nat) : Int) ∧ Path P.boxes m n) : Dead P (A.filter fun n => decide (n ∉ K)) := by
  have tr : ∀ m b, get P.boxes m = some b → b.wt - ((scnt (inn P.boxes A) m : Nat) : Int) = ((cnt P.hands m + scnt (out P.boxes A) m : Nat) : Int) := fun m b hb => by
    have h1 := (W.wt m b hb).1
    have h2 := scnt_split P.boxes A m
    rw [h1, cnt_nil]
    omega
  intro n
  rw [List.mem_filter]
  constructor
  · rintro ⟨ha, hk⟩
    have hk' : n ∉ K := of_decide_eq_true hk
    obtain ⟨s, bs, hs, hss, p⟩ := (hA n).mp ha
    refine ⟨p.alive W ⟨bs, hs⟩, fun ⟨h, hh, q⟩ => hk' ((hK n).mpr ?_)⟩
    have key : ∀ a z, Path P.boxes a z → z ∈ A → (a ∈ A) ∨ ∃ u v, u ∉ A ∧ Edge P.boxes u v ∧ v ∈ A ∧ Path P.boxes v z := fun a z p => by
      induction p with
      | refl m => exact fun h => .inl h
      | @step a c z e p ih =>
        intro hz
        rcases ih hz with j | j
        · by_cases ca : a ∈ A
          · exact .inl ca
          · exact .inr ⟨a, c, ca, e, j, p⟩
        · exact .inr j
    rcases key h n q ha with j | ⟨u, v, hu, ⟨x, hx, hc⟩, hv, pv⟩
    · obtain ⟨b, hb⟩ := W.cl h (by have := cnt_pos.mpr hh; omega)
      refine ⟨h, b, j, hb, ?_, q⟩
      rw [tr h b hb]
      have := cnt_pos.mpr hh
      omega
    · obtain ⟨b, hb⟩ := W.cl v (by have := cnt_pos.mpr hc; have := scnt_le v hx; omega)
      refine ⟨v, b, hv, hb, ?_, pv⟩
      rw [tr v b hb]
      have : (u, x) ∈ out P.boxes A := List.mem_filter.mpr ⟨get_mem hx, decide_eq_true hu⟩
      have := scnt_of this hc
      omega
  · rintro ⟨⟨b, hb⟩, hno⟩
    have ha : n ∈ A := (hA n).mpr ((L.or hb).resolve_left hno)
    refine ⟨ha, decide_eq_true fun hk => ?_⟩
    obtain ⟨m, bm, hm, hbm, ht, p⟩ := (hK n).mp hk
    rw [tr m bm hbm] at ht
    by_cases c : 0 < cnt P.hands m
    · exact hno ⟨m, cnt_pos.mp c, p⟩
    · obtain ⟨d, hd, hs⟩ := scnt_pos (bs := out P.boxes A) (n := m) (by omega)
      unfold out at hd
      obtain ⟨h1, h2⟩ := List.mem_filter.mp hd
      have h2' : d.1 ∉ A := of_decide_eq_true h2
      have hdb := mem_get W.nd (show (d.1, d.2) ∈ P.boxes from h1)
      rcases L.or hdb with ⟨h, hh, q⟩ | sl
      · exact hno ⟨h, hh, (q.trans (.one ⟨d.2, hdb, hs⟩)).trans p⟩
      · exact h2' ((hA d.1).mpr sl)
end BP

/-! Going on from a row by slots till nothing new comes. Own work; core Lean alone. -/
namespace BP
/-- what the row l leads to -/
def From (bs : List (Int × Bx)) (l : List (Option Int)) (n : Int) : Prop := ∃ s, some s ∈ l ∧ Path bs s n
/-- amid the walk: c is the row gone through, of whose boxes the first k have been gone through whole, and part of one more -/
structure Wk (bs : List (Int × Bx)) (l : List (Option Int)) (row : List Int) (k : Nat) (part : List (Option Int)) : Prop where
  nd : row.Nodup
  sound : ∀ n, n ∈ row → From bs l n
  done : ∀ j n b, j < k → row[j]? = some n → get bs n = some b → ∀ m, some m ∈ b.slots → m ∈ row
  part : ∀ m, some m ∈ part → m ∈ row
theorem Wk.add {bs : List (Int × Bx)} {l : List (Option Int)} {row : List Int} {k : Nat} {part : List (Option Int)} (h : Wk bs l row k part) (hk : k ≤ row.length) {n : Int} (hn : n ∉ row) (hf : From bs l n) : Wk bs l (row ++ [n]) k (part ++ [some n]) :=
  ⟨by
    rw [List.nodup_append]
    exact ⟨h.nd, by simp, fun a ha b hb => by rw [List.mem_singleton.mp hb]; exact fun e => hn (by rw [← e]; exact ha)⟩,
  fun m hm => by
    rcases List.mem_append.mp hm with hm | hm
    · exact h.sound m hm
    · rw [List.mem_singleton.mp hm]; exact hf,
  fun j m b hj e hb o ho => List.mem_append_left _ (h.done j m b hj (by rw [List.getElem?_append_left (by omega)] at e; exact e) hb o ho),
  fun m hm => by
    rcases List.mem_append.mp hm with hm | hm
    · exact List.mem_append_left _ (h.part m hm)
    · have : m = n := Option.some.inj (List.mem_singleton.mp hm)
      rw [this]
      exact List.mem_append_right _ (List.mem_singleton.mpr rfl)⟩
theorem Wk.skip {bs : List (Int × Bx)} {l : List (Option Int)} {row : List Int} {k : Nat} {part : List (Option Int)} (h : Wk bs l row k part) {x : Option Int} (hx : ∀ n, x = some n → n ∈ row) : Wk bs l row k (part ++ [x]) :=
  ⟨h.nd, h.sound, h.done, fun m hm => by
    rcases List.mem_append.mp hm with hm | hm
    · exact h.part m hm
    · exact hx m (List.mem_singleton.mp hm).symm⟩
/-- one box gone through -/
theorem Wk.turn {bs : List (Int × Bx)} {l : List (Option Int)} {row : List Int} {k : Nat} {n : Int} {b : Bx} (h : Wk bs l row k b.slots) (hn : row[k]? = some n) (hb : get bs n = some b) : Wk bs l row (k + 1) [] :=
  ⟨h.nd, h.sound, fun j m c hj e hc o ho => by
    by_cases q : j < k
    · exact h.done j m c q e hc o ho
    · have : j = k := by omega
      subst this
      have : n = m := Option.some.inj (hn.symm.trans e)
      subst this
      have : b = c := Option.some.inj (hb.symm.trans hc)
      subst this
      exact h.part o ho, fun m hm => (by cases hm)⟩
theorem Wk.next {bs : List (Int × Bx)} {l : List (Option Int)} {row : List Int} {k : Nat} {part : List (Option Int)} (h : Wk bs l row k part) {j : Nat} {n : Int} {b : Bx} (hn : row[j]? = some n) (hb : get bs n = some b) {m : Int} (hm : some m ∈ b.slots) : From bs l m := by
  obtain ⟨s, hs, p⟩ := h.sound n (List.mem_of_getElem? hn)
  exact ⟨s, hs, p.trans (.one ⟨b, hb, hm⟩)⟩
/-- at its end it has all -/
theorem Wk.all {P : Pl} {l : List (Option Int)} {row : List Int} {part : List (Option Int)} (h : Wk P.boxes l row row.length part) (hl : ∀ s, some s ∈ l → s ∈ row) (n : Int) : n ∈ row ↔ From P.boxes l n := by
  refine ⟨h.sound n, fun ⟨s, hs, p⟩ => ?_⟩
  have key : ∀ a z, Path P.boxes a z → a ∈ row → z ∈ row := fun a z p => by
    induction p with
    | refl m => exact fun q => q
    | @step a c z e _ ih =>
      intro ha
      obtain ⟨x, hx, hc⟩ := e
      obtain ⟨j, hj, ej⟩ := List.mem_iff_getElem.mp ha
      exact ih (h.done j a x hj (by rw [List.getElem?_eq_getElem hj, ej]) hx c hc)
  exact key s n p (hl s hs)
theorem From.alive {P : Pl} {w l : List (Option Int)} (W : Wf P w) (hl : ∀ s, some s ∈ l → ∃ b, get P.boxes s = some b) {n : Int} (h : From P.boxes l n) : ∃ b, get P.boxes n = some b := by
  obtain ⟨s, hs, p⟩ := h
  exact p.alive W (hl s hs)
/-- the row is never longer than the boxes are many -/
theorem Wk.len {P : Pl} {w l : List (Option Int)} {row : List Int} {k : Nat} {part : List (Option Int)} (W : Wf P w) (h : Wk P.boxes l row k part) (hl : ∀ s, some s ∈ l → ∃ b, get P.boxes s = some b) : row.length ≤ P.boxes.length := by
  have := nodup_le (a := row) (b := keys P.boxes) h.nd fun n hn => get_keys.mp ((h.sound n hn).alive W hl)
  rw [show (keys P.boxes).length = P.boxes.length from List.length_map _] at this
  exact this
theorem wk0 (bs : List (Int × Bx)) (l : List (Option Int)) : Wk bs l [] 0 [] := ⟨List.nodup_nil, fun n h => (by cases h), fun j n b h => absurd h (Nat.not_lt_zero j), fun m h => (by cases h)⟩
theorem Wk.clear {bs : List (Int × Bx)} {l : List (Option Int)} {row : List Int} {k : Nat} {part : List (Option Int)} (h : Wk bs l row k part) : Wk bs l row k [] := ⟨h.nd, h.sound, h.done, fun m h => (by cases h)⟩
end BP

/-! A pile in order: weights right, all led to; what stays of it behind a deed. Own work; core Lean alone. -/
namespace BP
structure Good (P : Pl) : Prop where
  wf : Wf P []
  led : Led P []
theorem good0 : Good pl0 := ⟨wf0, led0⟩
theorem Good.hand {P : Pl} (h : Good P) {i : Nat} (hi : i < 8) {x : Option Int} (hx : ∀ n, x = some n → ∃ b, get P.boxes n = some b) : Good (ptHand P i x).1 :=
  ⟨ptHand_ok (h.wf.pre hx) hi, ptHand_led (h.wf.pre hx) hi fun n b e => .inr (h.led n b e)⟩
theorem Good.hold {P : Pl} (h : Good P) {i j : Nat} (hi : i < 8) : Good (ptHand P i (P.hands.getD j none)).1 := h.hand hi fun n e => h.wf.hand e
theorem Good.drop {P : Pl} (h : Good P) {i : Nat} (hi : i < 8) : Good (ptHand P i none).1 := h.hand hi fun n e => by cases e
theorem Good.slot {P : Pl} (h : Good P) {k : Int} {b : Bx} {i : Nat} {x : Option Int} (hb : get P.boxes k = some b) (hi : i < b.slots.length) (hx : ∀ n, x = some n → ∃ b, get P.boxes n = some b) : Good (ptSlot P k i x).1 :=
  ⟨ptSlot_ok (h.wf.pre hx) hb hi, ptSlot_led (h.wf.pre hx) hb hi h.led⟩
theorem Good.make {P : Pl} (h : Good P) {i size : Nat} (hi : i < 8) (hs : size ≤ 6) (hf : P.boxes.length < 60) : Good (BP.mk P i size).1 := ⟨mk_ok h.wf hi hs hf, mk_led h.wf hi hs hf h.led⟩
theorem Good.tidied {P : Pl} (h : Good P) {F : List Int} (hF : Dead P F) : Good (tidied P F) := ⟨tidied_wf h.wf hF, tidied_led h.wf hF⟩
/-- boxes have as many slots as they had -/
theorem run_slots {bs : List (Int × Bx)} {w : List (Option Int)} {n : Int} {b : Bx} (h : get (run bs w).1 n = some b) : ∃ c, get bs n = some c ∧ c.slots = b.slots := go_slots h
theorem bumped_slots {bs : List (Int × Bx)} {x : Option Int} {n : Int} {b : Bx} (h : get (bumped bs x) n = some b) : ∃ c, get bs n = some c ∧ c.slots = b.slots := by
  obtain ⟨c, hc⟩ := bumped_was h
  obtain ⟨d, h1, h2, _⟩ := bumped_alike (x := x) hc
  have : d = b := Option.some.inj (h1.symm.trans h)
  subst this
  exact ⟨c, hc, h2.symm⟩
theorem ptHand_slots {P : Pl} {i : Nat} {x : Option Int} {n : Int} {b : Bx} (h : get (ptHand P i x).1.boxes n = some b) : ∃ c, get P.boxes n = some c ∧ c.slots = b.slots := by
  obtain ⟨c, h1, e1⟩ := run_slots (show get (run (bumped P.boxes x) [P.hands.getD i none]).1 n = some b from h)
  obtain ⟨d, h2, e2⟩ := bumped_slots h1
  exact ⟨d, h2, e2.trans e1⟩
theorem ptSlot_slots {P : Pl} {k : Int} {i : Nat} {x : Option Int} {n : Int} {b : Bx} (h : get (ptSlot P k i x).1.boxes n = some b) : ∃ c, get P.boxes n = some c ∧ b.slots = if n = k then c.slots.set i x else c.slots := by
  obtain ⟨c, h1, e1⟩ := run_slots (show get (run (chg (bumped P.boxes x) k (setSlot i x)) [slotOf P.boxes k i]).1 n = some b from h)
  rw [get_chg] at h1
  cases q : get (bumped P.boxes x) n with
  | none => rw [q] at h1; cases h1
  | some d =>
    rw [q] at h1
    obtain ⟨e, h2, e2⟩ := bumped_slots q
    have h1' : (if n = k then setSlot i x d else d) = c := Option.some.inj h1
    refine ⟨e, h2, ?_⟩
    rw [← e1, ← h1']
    by_cases z : n = k
    · rw [if_pos z, if_pos z, e2]; rfl
    · rw [if_neg z, if_neg z, e2]
theorem mk_slots {P : Pl} (W : Wf P []) {i size : Nat} {n : Int} {b : Bx} (h : get (BP.mk P i size).1.boxes n = some b) : (n = P.made ∧ b.slots = List.replicate size none) ∨ ∃ c, get P.boxes n = some c ∧ c.slots = b.slots := by
  obtain ⟨c, h1, e1⟩ := ptHand_slots (P := born P size) h
  rw [get_born W size n] at h1
  by_cases z : n = P.made
  · rw [if_pos z] at h1
    refine .inl ⟨z, ?_⟩
    rw [← e1, ← Option.some.inj h1]
  · rw [if_neg z] at h1
    exact .inr ⟨c, h1, e1⟩
/-- what a hand holds has so many slots -/
def Has (P : Pl) (h n : Nat) : Prop := ∃ x b, P.hands.getD h none = some x ∧ get P.boxes x = some b ∧ n ≤ b.slots.length
theorem getD_set_off {l : List (Option Int)} {i h : Nat} (x : Option Int) (c : h ≠ i) : (l.set i x).getD h none = l.getD h none := by
  rw [List.getD_eq_getElem?_getD, List.getD_eq_getElem?_getD, List.getElem?_set_ne (fun z => c z.symm)]
theorem getD_set_on {l : List (Option Int)} {i : Nat} (x : Option Int) (c : i < l.length) : (l.set i x).getD i none = x := by
  rw [List.getD_eq_getElem?_getD, List.getElem?_set_self c]
  rfl
theorem Has.hand {P : Pl} {h n i : Nat} {x : Option Int} (s : Has P h n) (c : h ≠ i) (G : Good (ptHand P i x).1) : Has (ptHand P i x).1 h n := by
  obtain ⟨y, b, h1, h2, h3⟩ := s
  have e : (ptHand P i x).1.hands.getD h none = some y := (getD_set_off x c).trans h1
  obtain ⟨d, hd⟩ := G.wf.hand e
  obtain ⟨c', h4, e4⟩ := ptHand_slots hd
  have : c' = b := Option.some.inj (h4.symm.trans h2)
  subst this
  exact ⟨y, d, e, hd, by rw [← e4]; exact h3⟩
theorem Has.slot {P : Pl} {h n i : Nat} {k : Int} {x : Option Int} (s : Has P h n) (G : Good (ptSlot P k i x).1) : Has (ptSlot P k i x).1 h n := by
  obtain ⟨y, b, h1, h2, h3⟩ := s
  have e : (ptSlot P k i x).1.hands.getD h none = some y := h1
  obtain ⟨d, hd⟩ := G.wf.hand e
  obtain ⟨c', h4, e4⟩ := ptSlot_slots hd
  have : c' = b := Option.some.inj (h4.symm.trans h2)
  subst this
  refine ⟨y, d, e, hd, ?_⟩
  rw [e4]
  split
  · rw [List.length_set]; exact h3
  · exact h3
theorem Has.mk {P : Pl} {h n i size : Nat} (W : Wf P []) (s : Has P h n) (c : h ≠ i) (G : Good (BP.mk P i size).1) : Has (BP.mk P i size).1 h n := by
  obtain ⟨y, b, h1, h2, h3⟩ := s
  have e : (BP.mk P i size).1.hands.getD h none = some y := (getD_set_off _ c).trans h1
  obtain ⟨d, hd⟩ := G.wf.hand e
  rcases mk_slots W hd with ⟨q, _⟩ | ⟨c', h4, e4⟩
  · have := (W.lo y (get_keys.mp ⟨b, h2⟩)).2
    omega
  · have : c' = b := Option.some.inj (h4.symm.trans h2)
    subst this
    exact ⟨y, d, e, hd, by rw [← e4]; exact h3⟩
theorem has_mk {P : Pl} {i size : Nat} (W : Wf P []) (hi : i < 8) (G : Good (BP.mk P i size).1) : Has (BP.mk P i size).1 i size := by
  have e : (BP.mk P i size).1.hands.getD i none = some P.made := getD_set_on _ (by rw [show (born P size).hands = P.hands from rfl, W.hl]; exact hi)
  obtain ⟨d, hd⟩ := G.wf.hand e
  rcases mk_slots W hd with ⟨_, q⟩ | ⟨c', h4, _⟩
  · exact ⟨_, d, e, hd, by rw [q, List.length_replicate]; exact Nat.le_refl _⟩
  · have := (W.lo _ (get_keys.mp ⟨c', h4⟩)).2
    omega
/-- there are no more boxes than were made -/
theorem Good.few {P : Pl} (h : Good P) : (P.boxes.length : Int) ≤ P.made := by
  have W := h.wf
  have := nodup_le (a := keys P.boxes) (b := (List.range P.made.toNat).map fun i => ((i : Nat) : Int)) W.nd fun n hn => by
    obtain ⟨a, b⟩ := W.lo n hn
    rw [List.mem_map]
    exact ⟨n.toNat, List.mem_range.mpr (by omega), by omega⟩
  rw [List.length_map, List.length_range, show (keys P.boxes).length = P.boxes.length from List.length_map _] at this
  have := W.m0
  omega
theorem made_hand (P : Pl) (i : Nat) (x : Option Int) : (ptHand P i x).1.made = P.made := rfl
theorem made_slot (P : Pl) (k : Int) (i : Nat) (x : Option Int) : (ptSlot P k i x).1.made = P.made := rfl
theorem made_mk (P : Pl) (i size : Nat) : (BP.mk P i size).1.made = P.made + 1 := rfl
end BP

/-! Going through what is reached from the end of a row; a tidy's three passes over the boxes. Own work; core Lean alone. -/
namespace BP
/-! ### the walk with a stack -/
structure Dw (bs : List (Int × Bx)) (l : List (Option Int)) (row w : List Int) : Prop where
  nd : row.Nodup
  al : ∀ n, n ∈ row → ∃ b, get bs n = some b
  sound : ∀ n, n ∈ row → From bs l n
  wsound : ∀ n, n ∈ w → From bs l n
  done : ∀ n b, n ∈ row → get bs n = some b → ∀ m, some m ∈ b.slots → m ∈ row ∨ m ∈ w
  start : ∀ s, some s ∈ l → s ∈ row ∨ s ∈ w
theorem mem_some {l : List Int} {s : Int} : some s ∈ l.map some ↔ s ∈ l := by simp
theorem dw0 (bs : List (Int × Bx)) (l : List Int) : Dw bs (l.map some) [] l :=
  ⟨List.nodup_nil, fun n h => (by cases h), fun n h => (by cases h), fun n h => ⟨n, mem_some.mpr h, .refl n⟩, fun n b h => (by cases h), fun s h => .inr (mem_some.mp h)⟩
theorem Dw.skip {bs : List (Int × Bx)} {l : List (Option Int)} {row w : List Int} {n : Int} (h : Dw bs l row (w ++ [n])) (hn : n ∈ row) : Dw bs l row w :=
  ⟨h.nd, h.al, h.sound, fun m hm => h.wsound m (List.mem_append_left _ hm), fun k b hk hb m hm => by
    rcases h.done k b hk hb m hm with q | q
    · exact .inl q
    · rcases List.mem_append.mp q with q | q
      · exact .inr q
      · rw [List.mem_singleton.mp q]; exact .inl hn,
  fun s hs => by
    rcases h.start s hs with q | q
    · exact .inl q
    · rcases List.mem_append.mp q with q | q
      · exact .inr q
      · rw [List.mem_singleton.mp q]; exact .inl hn⟩
theorem mem_fm {l : List (Option Int)} {m : Int} : m ∈ l.filterMap id ↔ some m ∈ l := by simp [List.mem_filterMap]
theorem Dw.add {bs : List (Int × Bx)} {l : List (Option Int)} {row w : List Int} {n : Int} {b : Bx} (h : Dw bs l row (w ++ [n])) (hn : n ∉ row) (hb : get bs n = some b) : Dw bs l (row ++ [n]) (w ++ b.slots.filterMap id) :=
  ⟨by
    rw [List.nodup_append]
    exact ⟨h.nd, by simp, fun a ha c hc => by rw [List.mem_singleton.mp hc]; exact fun e => hn (by rw [← e]; exact ha)⟩,
  fun m hm => by
    rcases List.mem_append.mp hm with hm | hm
    · exact h.al m hm
    · rw [List.mem_singleton.mp hm]; exact ⟨b, hb⟩,
  fun m hm => by
    rcases List.mem_append.mp hm with hm | hm
    · exact h.sound m hm
    · rw [List.mem_singleton.mp hm]; exact h.wsound n (List.mem_append_right _ (List.mem_singleton.mpr rfl)),
  fun m hm => by
    rcases List.mem_append.mp hm with hm | hm
    · exact h.wsound m (List.mem_append_left _ hm)
    · obtain ⟨s, hs, p⟩ := h.wsound n (List.mem_append_right _ (List.mem_singleton.mpr rfl))
      exact ⟨s, hs, p.trans (.one ⟨b, hb, mem_fm.mp hm⟩)⟩,
  fun k c hk hc m hm => by
    rcases List.mem_append.mp hk with hk | hk
    · rcases h.done k c hk hc m hm with q | q
      · exact .inl (List.mem_append_left _ q)
      · rcases List.mem_append.mp q with q | q
        · exact .inr (List.mem_append_left _ q)
        · exact .inl (List.mem_append_right _ q)
    · rw [List.mem_singleton.mp hk] at hc
      have : b = c := Option.some.inj (hb.symm.trans hc)
      subst this
      exact .inr (List.mem_append_right _ (mem_fm.mpr hm)),
  fun s hs => by
    rcases h.start s hs with q | q
    · exact .inl (List.mem_append_left _ q)
    · rcases List.mem_append.mp q with q | q
      · exact .inr (List.mem_append_left _ q)
      · exact .inl (List.mem_append_right _ q)⟩
theorem Dw.all {bs : List (Int × Bx)} {l : List (Option Int)} {row : List Int} (h : Dw bs l row []) (n : Int) : n ∈ row ↔ From bs l n := by
  refine ⟨h.sound n, fun ⟨s, hs, p⟩ => ?_⟩
  have key : ∀ a z, Path bs a z → a ∈ row → z ∈ row := fun a z p => by
    induction p with
    | refl m => exact fun q => q
    | @step a c z e _ ih =>
      intro ha
      obtain ⟨x, hx, hc⟩ := e
      exact ih ((h.done a x ha hx c hc).resolve_right fun q => by cases q)
  exact key s n p ((h.start s hs).resolve_right fun q => by cases q)
theorem Dw.len {bs : List (Int × Bx)} {l : List (Option Int)} {row w : List Int} (h : Dw bs l row w) : row.length ≤ bs.length := by
  have := nodup_le (a := row) (b := keys bs) h.nd fun n hn => get_keys.mp (h.al n hn)
  rw [show (keys bs).length = bs.length from List.length_map _] at this
  exact this
/-- a dead one that is met was handed in -/
theorem Dw.dead {P : Pl} {v : List (Option Int)} {l : List (Option Int)} {row w : List Int} (W : Wf P v) (h : Dw P.boxes l row w) {n : Int} (hn : n ∈ w) (hd : get P.boxes n = none) : ∃ s, some s ∈ l ∧ get P.boxes s = none := by
  obtain ⟨s, hs, p⟩ := h.wsound n hn
  refine ⟨s, hs, ?_⟩
  cases q : get P.boxes s with
  | none => rfl
  | some b =>
    obtain ⟨c, hc⟩ := p.alive W ⟨b, q⟩
    rw [hc] at hd
    cases hd
theorem last_of {w : List Int} {y : Int} (h : w[w.length - 1]? = some y) : w = w.dropLast ++ [y] := by
  have hne : w ≠ [] := fun e => by rw [e] at h; cases h
  have h2 := List.dropLast_concat_getLast hne
  have h3 : w.getLast hne = y := by
    rw [List.getLast_eq_getElem]
    exact (List.getElem?_eq_some_iff.mp h).2
  rw [h3] at h2
  exact h2.symm
/-! ### the passes of a tidy -/
def lowr (bs : List (Int × Bx)) (c : Int → Nat) : List (Int × Bx) := bs.map fun e => (e.1, { e.2 with wt := e.2.wt - (c e.1 : Int) })
theorem get_lowr (bs : List (Int × Bx)) (c : Int → Nat) (n : Int) : get (lowr bs c) n = (get bs n).map fun b => { b with wt := b.wt - (c n : Int) } := get_mapv (fun k b => { b with wt := b.wt - (c k : Int) }) n bs
theorem lowr_0 (bs : List (Int × Bx)) : lowr bs (fun _ => 0) = bs := by
  unfold lowr
  induction bs with
  | nil => rfl
  | cons e bs ih =>
    rw [List.map_cons, ih]
    obtain ⟨n, ⟨a, b, c⟩⟩ := e
    show (n, (⟨a, b - ((0 : Nat) : Int), c⟩ : Bx)) :: bs = _
    rw [show b - ((0 : Nat) : Int) = b from by omega]
def less (b : Bx) : Bx := { b with wt := b.wt - 1 }
theorem chg_lowr (m : Int) (c c' : Int → Nat) (hc : ∀ n, c' n = c n + one (some m) n) : ∀ bs, chg (lowr bs c) m less = lowr bs c'
  | [] => rfl
  | e :: bs => by
    have ih := chg_lowr m c c' hc bs
    show (if e.1 = m then (e.1, less { e.2 with wt := e.2.wt - (c e.1 : Int) }) else (e.1, { e.2 with wt := e.2.wt - (c e.1 : Int) })) :: chg (lowr bs c) m less = (e.1, { e.2 with wt := e.2.wt - (c' e.1 : Int) }) :: lowr bs c'
    rw [ih]
    congr 1
    have h := hc e.1
    by_cases q : e.1 = m
    · rw [if_pos q]
      have o : one (some m) e.1 = 1 := by simp [one, q]
      unfold less
      show (e.1, (⟨e.2.slots, e.2.wt - (c e.1 : Int) - 1, e.2.sus⟩ : Bx)) = (e.1, (⟨e.2.slots, e.2.wt - (c' e.1 : Int), e.2.sus⟩ : Bx))
      rw [show e.2.wt - (c e.1 : Int) - 1 = e.2.wt - (c' e.1 : Int) from by omega]
    · rw [if_neg q]
      have o : one (some m) e.1 = 0 := by
        unfold one
        rw [if_neg (fun z => q (Option.some.inj z).symm)]
      rw [show c' e.1 = c e.1 from by omega]
theorem keys_lowr (bs : List (Int × Bx)) (c : Int → Nat) : keys (lowr bs c) = keys bs := by
  unfold keys lowr
  rw [List.map_map]
  rfl
/-- boxes beside the row -/
theorem rm_out (bs : List (Int × Bx)) (F : List Int) (n : Int) : rm (out bs F) n = out bs (F ++ [n]) := by
  unfold rm out
  rw [List.filter_filter]
  congr 1
  funext e
  by_cases h1 : e.1 = n <;> by_cases h2 : e.1 ∈ F <;> simp [h1, h2]
theorem out_nil (bs : List (Int × Bx)) : out bs [] = bs := by
  unfold out
  simp
theorem out_lowr (bs : List (Int × Bx)) (c : Int → Nat) (F : List Int) : out (lowr bs c) F = lowr (out bs F) c := by
  unfold out lowr
  rw [List.filter_map]
  rfl
def calm (b : Bx) : Bx := { b with sus := false }
/-- the first of them are no suspects -/
def calmed (bs : List (Int × Bx)) (S : List Int) : List (Int × Bx) := bs.map fun e => if e.1 ∈ S then (e.1, calm e.2) else e
theorem calmed_nil (bs : List (Int × Bx)) : calmed bs [] = bs := by
  unfold calmed
  simp
theorem chg_calmed (m : Int) (S : List Int) : ∀ bs, chg (calmed bs S) m calm = calmed bs (S ++ [m])
  | [] => rfl
  | e :: bs => by
    have ih := chg_calmed m S bs
    have e1 : ∀ (e : Int × Bx) (bs : List (Int × Bx)) (f : Bx → Bx), chg (e :: bs) m f = (if e.1 = m then (e.1, f e.2) else e) :: chg bs m f := fun _ _ _ => rfl
    show chg ((if e.1 ∈ S then (e.1, calm e.2) else e) :: calmed bs S) m calm = (if e.1 ∈ S ++ [m] then (e.1, calm e.2) else e) :: calmed bs (S ++ [m])
    rw [e1, ih]
    congr 1
    by_cases h1 : e.1 = m <;> by_cases h2 : e.1 ∈ S <;> simp [h1, h2, calm]
    all_goals first | done | (subst h1; simp_all)
theorem get_calmed (S : List Int) (n : Int) : ∀ bs, get (calmed bs S) n = (get bs n).map fun b => if n ∈ S then calm b else b
  | [] => rfl
  | e :: bs => by
    have ih := get_calmed S n bs
    show get ((if e.1 ∈ S then (e.1, calm e.2) else e) :: calmed bs S) n = _
    rw [get_cons, get_cons, ih]
    by_cases h1 : e.1 = n
    · have h2 : (if e.1 ∈ S then (e.1, calm e.2) else e).1 = n := by split <;> exact h1
      rw [if_pos h2, if_pos h1]
      by_cases h3 : e.1 ∈ S
      · rw [if_pos h3]
        rw [h1] at h3
        simp [h3]
      · rw [if_neg h3]
        rw [h1] at h3
        simp [h3]
    · have h2 : ¬ (if e.1 ∈ S then (e.1, calm e.2) else e).1 = n := by split <;> exact h1
      rw [if_neg h2, if_neg h1]
theorem keys_calmed (S : List Int) (bs : List (Int × Bx)) : keys (calmed bs S) = keys bs := by
  unfold keys calmed
  rw [List.map_map]
  congr 1
  funext e
  show (if e.1 ∈ S then (e.1, calm e.2) else e).1 = e.1
  split <;> rfl
/-- all three passes -/
theorem passes {P : Pl} {F : List Int} {c : Int → Nat} (hc : ∀ n, c n = scnt (inn P.boxes F) n) : calmed (lowr (out P.boxes F) c) (keys (lowr (out P.boxes F) c)) = (tidied P F).boxes := by
  have key : ∀ (bs : List (Int × Bx)) (S : List Int), (∀ e ∈ bs, e.1 ∈ S) → calmed (lowr bs c) S = bs.map fun e => (e.1, { e.2 with wt := e.2.wt - ((scnt (inn P.boxes F) e.1 : Nat) : Int), sus := false }) := fun bs S hS => by
    unfold calmed lowr
    rw [List.map_map]
    refine List.map_congr_left fun e he => ?_
    show (if e.1 ∈ S then _ else _) = _
    rw [if_pos (hS e he)]
    unfold calm
    simp only [hc]
  refine key _ _ fun e he => ?_
  rw [keys_lowr]
  exact List.mem_map.mpr ⟨e, he, rfl⟩
theorem inn_nil (bs : List (Int × Bx)) (n : Int) : scnt (inn bs []) n = 0 := by
  have : inn bs [] = [] := by unfold inn; simp
  rw [this]
  rfl
/-- one more box gone through -/
theorem scnt_inn_snoc {m : Int} {b : Bx} {F : List Int} (n : Int) : ∀ {bs : List (Int × Bx)}, (keys bs).Nodup → get bs m = some b → m ∉ F → scnt (inn bs (F ++ [m])) n = scnt (inn bs F) n + cnt b.slots n
  | [], _, h, _ => by simp [get_nil] at h
  | e :: bs, hn, h, hF => by
    have hn' : e.1 ∉ keys bs ∧ (keys bs).Nodup := by simpa [keys] using hn
    rw [get_cons] at h
    have e1 : ∀ F, scnt (inn (e :: bs) F) n = (if e.1 ∈ F then cnt e.2.slots n else 0) + scnt (inn bs F) n := fun F => by
      unfold inn
      rw [List.filter_cons]
      by_cases q : e.1 ∈ F
      · rw [if_pos (decide_eq_true q), if_pos q, scnt_cons]
      · rw [if_neg (by simp [q]), if_neg q]
        omega
    rw [e1, e1]
    by_cases h1 : e.1 = m
    · rw [if_pos h1] at h
      have eb : e.2 = b := Option.some.inj h
      have no : ∀ F', (∀ x, x ∈ F' ↔ x ∈ F ∨ x = m) → scnt (inn bs F') n = scnt (inn bs F) n := fun F' hF' => by
        congr 1
        unfold inn
        refine List.filter_congr fun x hx => ?_
        have : x.1 ≠ m := fun z => hn'.1 (by rw [h1, ← z]; exact List.mem_map.mpr ⟨x, hx, rfl⟩)
        have := hF' x.1
        by_cases q : x.1 ∈ F <;> simp_all
      rw [no (F ++ [m]) (fun x => by simp), if_pos (by simp [h1]), if_neg (by rw [h1]; exact hF), eb]
      omega
    · rw [if_neg h1] at h
      rw [scnt_inn_snoc n hn'.2 h hF]
      have : (e.1 ∈ F ++ [m]) ↔ e.1 ∈ F := by simp [h1]
      by_cases q : e.1 ∈ F
      · rw [if_pos q, if_pos (this.mpr q)]; omega
      · rw [if_neg q, if_neg (fun z => q (this.mp z))]; omega
end BP

/-! The pile as it lies in the heap. Own work. -/
namespace BP
open PySem L2

def oV : Option Int → V
  | none => .non
  | some n => .int n
def lV (l : List (Option Int)) : List V := l.map oV
theorem lV_get {l : List (Option Int)} {i : Nat} (h : i < l.length) : (lV l)[i]? = some (oV (l.getD i none)) := by
  unfold lV
  rw [List.getElem?_map, getD_some h]
  rfl
theorem lV_set (l : List (Option Int)) (i : Nat) (x : Option Int) : (lV l).set i (oV x) = lV (l.set i x) := by
  unfold lV
  rw [List.map_set]
theorem lV_len (l : List (Option Int)) : (lV l).length = l.length := List.length_map _

/-! ### the attributes -/
theorem s_hb : ¬ (("_hands" : Str) = "_boxes") := by decide +kernel
theorem s_hm : ¬ (("_hands" : Str) = "_made") := by decide +kernel
theorem s_bm : ¬ (("_boxes" : Str) = "_made") := by decide +kernel
theorem s_bh : ¬ (("_boxes" : Str) = "_hands") := by decide +kernel
theorem s_sw : ¬ (("slots" : Str) = "weight") := by decide +kernel
theorem s_ss : ¬ (("slots" : Str) = "suspect") := by decide +kernel
theorem s_ws : ¬ (("weight" : Str) = "suspect") := by decide +kernel
theorem s_hs : ¬ (("_hands" : Str) = "slots") := by decide +kernel
def pf (lh db : Addr) (m : Int) : List (Str × V) := putF "_made" (.int m) (putF "_boxes" (.ref db) (putF "_hands" (.ref lh) []))
theorem pf_eq (lh db : Addr) (m : Int) : pf lh db m = ([("_hands", V.ref lh), ("_boxes", V.ref db), ("_made", V.int m)] : List (Str × V)) := by
  show (putF "_made" (.int m) (if ("_hands" : Str) = "_boxes" then [(("_hands" : Str), V.ref db)] else (("_hands" : Str), V.ref lh) :: [(("_boxes" : Str), V.ref db)])) = _
  rw [if_neg s_hb]
  show (if ("_hands" : Str) = "_made" then _ else (("_hands" : Str), V.ref lh) :: (if ("_boxes" : Str) = "_made" then _ else (("_boxes" : Str), V.ref db) :: [(("_made" : Str), V.int m)])) = _
  rw [if_neg s_hm, if_neg s_bm]
theorem pf_hands (lh db : Addr) (m : Int) : (pf lh db m).lookup ("_hands" : Str) = some (.ref lh) := by
  unfold pf
  rw [lookup_putF, if_neg s_hm, lookup_putF, if_neg s_hb, lookup_putF, if_pos rfl]
theorem pf_boxes (lh db : Addr) (m : Int) : (pf lh db m).lookup ("_boxes" : Str) = some (.ref db) := by
  unfold pf
  rw [lookup_putF, if_neg s_bm, lookup_putF, if_pos rfl]
theorem pf_made (lh db : Addr) (m : Int) : (pf lh db m).lookup ("_made" : Str) = some (.int m) := by
  unfold pf
  rw [lookup_putF, if_pos rfl]
theorem pf_no (lh db : Addr) (m : Int) {x : Str} (h1 : ¬ x = "_made") (h2 : ¬ x = "_boxes") (h3 : ¬ x = "_hands") : (pf lh db m).lookup x = none := by
  unfold pf
  rw [lookup_putF, if_neg h1, lookup_putF, if_neg h2, lookup_putF, if_neg h3]
  rfl
theorem pf_put (lh db : Addr) (m z : Int) : putF "_made" (.int z) (pf lh db m) = pf lh db z := by
  rw [pf_eq, pf_eq]
  show (if ("_hands" : Str) = "_made" then _ else (("_hands" : Str), V.ref lh) :: (if ("_boxes" : Str) = "_made" then _ else (("_boxes" : Str), V.ref db) :: (if ("_made" : Str) = "_made" then [(("_made" : Str), V.int z)] else _))) = _
  rw [if_neg s_hm, if_neg s_bm, if_pos rfl]
theorem pf_len (lh db : Addr) (m : Int) : (pf lh db m).length = 3 := by rw [pf_eq]; rfl
def bf (sl : Addr) (w : Int) (s : Bool) : List (Str × V) := putF "suspect" (.bl s) (putF "weight" (.int w) (putF "slots" (.ref sl) []))
theorem bf_eq (sl : Addr) (w : Int) (s : Bool) : bf sl w s = ([("slots", V.ref sl), ("weight", V.int w), ("suspect", V.bl s)] : List (Str × V)) := by
  show (putF "suspect" (.bl s) (if ("slots" : Str) = "weight" then [(("slots" : Str), V.int w)] else (("slots" : Str), V.ref sl) :: [(("weight" : Str), V.int w)])) = _
  rw [if_neg s_sw]
  show (if ("slots" : Str) = "suspect" then _ else (("slots" : Str), V.ref sl) :: (if ("weight" : Str) = "suspect" then _ else (("weight" : Str), V.int w) :: [(("suspect" : Str), V.bl s)])) = _
  rw [if_neg s_ss, if_neg s_ws]
theorem bf_slots (sl : Addr) (w : Int) (s : Bool) : (bf sl w s).lookup ("slots" : Str) = some (.ref sl) := by
  unfold bf
  rw [lookup_putF, if_neg s_ss, lookup_putF, if_neg s_sw, lookup_putF, if_pos rfl]
theorem bf_weight (sl : Addr) (w : Int) (s : Bool) : (bf sl w s).lookup ("weight" : Str) = some (.int w) := by
  unfold bf
  rw [lookup_putF, if_neg s_ws, lookup_putF, if_pos rfl]
theorem bf_suspect (sl : Addr) (w : Int) (s : Bool) : (bf sl w s).lookup ("suspect" : Str) = some (.bl s) := by
  unfold bf
  rw [lookup_putF, if_pos rfl]
theorem bf_putw (sl : Addr) (w z : Int) (s : Bool) : putF "weight" (.int z) (bf sl w s) = bf sl z s := by
  rw [bf_eq, bf_eq]
  show (if ("slots" : Str) = "weight" then _ else (("slots" : Str), V.ref sl) :: (if ("weight" : Str) = "weight" then (("weight" : Str), V.int z) :: [(("suspect" : Str), V.bl s)] else _)) = _
  rw [if_neg s_sw, if_pos rfl]
theorem bf_puts (sl : Addr) (w : Int) (s t : Bool) : putF "suspect" (.bl t) (bf sl w s) = bf sl w t := by
  rw [bf_eq, bf_eq]
  show (if ("slots" : Str) = "suspect" then _ else (("slots" : Str), V.ref sl) :: (if ("weight" : Str) = "suspect" then _ else (("weight" : Str), V.int w) :: (if ("suspect" : Str) = "suspect" then [(("suspect" : Str), V.bl t)] else _))) = _
  rw [if_neg s_ss, if_neg s_ws, if_pos rfl]
theorem bf_len (sl : Addr) (w : Int) (s : Bool) : (bf sl w s).length = 3 := by rw [bf_eq]; rfl
theorem pf_bf (lh db sl : Addr) (m w : Int) (s : Bool) : pf lh db m ≠ bf sl w s := by
  rw [pf_eq, bf_eq]
  intro q
  injection q with q1 q2
  injection q1 with q3 q4
  exact s_hs q3

/-! ### the dict of the boxes -/
def dV (ba : Int → Addr) (bs : List (Int × Bx)) : List (Key × V) := bs.map fun e => ((Sum.inl e.1 : Key), V.ref (ba e.1))
theorem dV_cons (ba : Int → Addr) (e : Int × Bx) (bs : List (Int × Bx)) : dV ba (e :: bs) = ((Sum.inl e.1 : Key), V.ref (ba e.1)) :: dV ba bs := rfl
theorem valV_dV (ba : Int → Addr) (n : Int) : ∀ bs, valV (dV ba bs) (Sum.inl n : Key) = (get bs n).map fun _ => V.ref (ba n)
  | [] => rfl
  | e :: bs => by
    rw [dV_cons, get_cons]
    by_cases h : e.1 = n
    · rw [valV_pos (by rw [h]), if_pos h, h]
      rfl
    · rw [valV_neg (by intro q; injection q with q; exact h q), if_neg h]
      exact valV_dV ba n bs
theorem dV_len (ba : Int → Addr) (bs : List (Int × Bx)) : (dV ba bs).length = bs.length := List.length_map _
theorem dV_keys (ba : Int → Addr) (bs : List (Int × Bx)) : (dV ba bs).map (·.1) = (keys bs).map Sum.inl := by
  unfold dV keys
  rw [List.map_map, List.map_map]
  rfl
theorem dV_chg (ba : Int → Addr) (n : Int) (f : Bx → Bx) : ∀ bs, dV ba (chg bs n f) = dV ba bs
  | [] => rfl
  | e :: bs => by
    have ih := dV_chg ba n f bs
    have e1 : chg (e :: bs) n f = (if e.1 = n then (e.1, f e.2) else e) :: chg bs n f := rfl
    rw [e1, dV_cons, dV_cons, ih]
    by_cases h : e.1 = n <;> simp [h]
theorem dV_rm (ba : Int → Addr) (n : Int) : ∀ bs, dropK (dV ba bs) (Sum.inl n : Key) = dV ba (rm bs n)
  | [] => rfl
  | e :: bs => by
    have ih := dV_rm ba n bs
    rw [dV_cons]
    by_cases h : e.1 = n
    · have e1 : rm (e :: bs) n = rm bs n := by unfold rm; simp [List.filter_cons, h]
      rw [dropK_pos (by rw [h]), e1, ih]
    · have e1 : rm (e :: bs) n = e :: rm bs n := by unfold rm; simp [List.filter_cons, h]
      rw [dropK_neg (by intro q; injection q with q; exact h q), e1, ih]
      rfl
theorem dV_agree {ba bb : Int → Addr} : ∀ {bs : List (Int × Bx)}, (∀ n ∈ keys bs, ba n = bb n) → dV ba bs = dV bb bs
  | [], _ => rfl
  | e :: bs, h => by
    rw [dV_cons, dV_cons, h e.1 (by simp [keys]), dV_agree fun n hn => h n (by simp only [keys, List.map_cons, List.mem_cons]; exact .inr hn)]
theorem dV_snoc (ba : Int → Addr) (n : Int) (b : Bx) (bs : List (Int × Bx)) : dV ba (bs ++ [(n, b)]) = dV ba bs ++ [((Sum.inl n : Key), V.ref (ba n))] := by
  unfold dV
  rw [List.map_append]
  rfl

/-! ### the pile in the heap -/
/-- where the parts lie: the own dict, the hands' list, the boxes' dict, each box's own dict, each box, its slots' list -/
structure Geo where
  dx : Addr
  lh : Addr
  db : Addr
  bd : Int → Addr
  ba : Int → Addr
  sa : Int → Addr
/-- the pile P lies at p in H as g tells; R: what else of H is known, none of it the pile's -/
structure PileAt (C B p : Addr) (g : Geo) (P : Pl) (R H : Hp) : Prop where
  same : Same R H
  rp : R p = none
  rh : R g.lh = none
  rd : R g.db = none
  rb : ∀ n b, get P.boxes n = some b → R (g.ba n) = none
  rs : ∀ n b, get P.boxes n = some b → R (g.sa n) = none
  hp : H p = some (.ins C g.dx (pf g.lh g.db P.made))
  hh : H g.lh = some (.lst (lV P.hands))
  hd : H g.db = some (.dK (dV g.ba P.boxes))
  hb : ∀ n b, get P.boxes n = some b → H (g.ba n) = some (.ins B (g.bd n) (bf (g.sa n) b.wt b.sus))
  hs : ∀ n b, get P.boxes n = some b → H (g.sa n) = some (.lst (lV b.slots))
  ib : ∀ n m b c, get P.boxes n = some b → get P.boxes m = some c → g.ba n = g.ba m → n = m
  is : ∀ n m b c, get P.boxes n = some b → get P.boxes m = some c → g.sa n = g.sa m → n = m
  hn : ∀ n b, get P.boxes n = some b → g.sa n ≠ g.lh
section
variable {C B p : Addr} {g : Geo} {P : Pl} {R R' H : Hp}
theorem ins_ne_lst {C dx : Addr} {fs : List (Str × V)} {xs : List V} : HO.ins C dx fs ≠ HO.lst xs := by intro q; cases q
theorem ins_ne_dK {C dx : Addr} {fs : List (Str × V)} {xs : List (Key × V)} : HO.ins C dx fs ≠ HO.dK xs := by intro q; cases q
theorem lst_ne_dK {ys : List V} {xs : List (Key × V)} : HO.lst ys ≠ HO.dK xs := by intro q; cases q
theorem PileAt.p_lh (A : PileAt C B p g P R H) : p ≠ g.lh := ne_of A.hp A.hh ins_ne_lst
theorem PileAt.p_db (A : PileAt C B p g P R H) : p ≠ g.db := ne_of A.hp A.hd ins_ne_dK
theorem PileAt.lh_db (A : PileAt C B p g P R H) : g.lh ≠ g.db := ne_of A.hh A.hd lst_ne_dK
theorem PileAt.p_ba (A : PileAt C B p g P R H) {n : Int} {b : Bx} (h : get P.boxes n = some b) : p ≠ g.ba n := ne_of A.hp (A.hb n b h) fun q => by
  injection q with _ _ q
  exact pf_bf _ _ _ _ _ _ q
theorem PileAt.p_sa (A : PileAt C B p g P R H) {n : Int} {b : Bx} (h : get P.boxes n = some b) : p ≠ g.sa n := ne_of A.hp (A.hs n b h) ins_ne_lst
theorem PileAt.ba_lh (A : PileAt C B p g P R H) {n : Int} {b : Bx} (h : get P.boxes n = some b) : g.ba n ≠ g.lh := ne_of (A.hb n b h) A.hh ins_ne_lst
theorem PileAt.ba_db (A : PileAt C B p g P R H) {n : Int} {b : Bx} (h : get P.boxes n = some b) : g.ba n ≠ g.db := ne_of (A.hb n b h) A.hd ins_ne_dK
theorem PileAt.sa_db (A : PileAt C B p g P R H) {n : Int} {b : Bx} (h : get P.boxes n = some b) : g.sa n ≠ g.db := ne_of (A.hs n b h) A.hd lst_ne_dK
theorem PileAt.ba_sa (A : PileAt C B p g P R H) {n m : Int} {b c : Bx} (h : get P.boxes n = some b) (h2 : get P.boxes m = some c) : g.ba n ≠ g.sa m := ne_of (A.hb n b h) (A.hs m c h2) ins_ne_lst

/-- less is known -/
theorem PileAt.less (A : PileAt C B p g P R H) (s : Same R' R) : PileAt C B p g P R' H :=
  ⟨s.trans A.same, s.free A.rp, s.free A.rh, s.free A.rd, fun n b h => s.free (A.rb n b h), fun n b h => s.free (A.rs n b h), A.hp, A.hh, A.hd, A.hb, A.hs, A.ib, A.is, A.hn⟩
/-- the heap has grown -/
theorem PileAt.grow {H' : Hp} (A : PileAt C B p g P R H) (s : Same H H') : PileAt C B p g P R H' :=
  ⟨A.same.trans s, A.rp, A.rh, A.rd, A.rb, A.rs, s _ _ A.hp, s _ _ A.hh, s _ _ A.hd, fun n b e => s _ _ (A.hb n b e), fun n b e => s _ _ (A.hs n b e), A.ib, A.is, A.hn⟩
theorem same_upd {a : Addr} {o : HO} (h : R a = none) : Same R (upd R a o) := fun b u e => by
  rw [upd_ne (ne_of_none e h)]
  exact e
theorem upd_upd {a : Addr} {o u : HO} : upd (upd H a o) a u = upd H a u := by
  funext b
  by_cases h : b = a
  · rw [h, upd_same, upd_same]
  · rw [upd_ne h, upd_ne h, upd_ne h]
/-- a new object, known -/
theorem PileAt.new (A : PileAt C B p g P R H) {a : Addr} {o : HO} (h : H a = none) : PileAt C B p g P (upd R a o) (upd H a o) := by
  have n1 : ∀ {b u}, H b = some u → b ≠ a := fun e => ne_of_none e h
  refine ⟨fun b u e => ?_, ?_, ?_, ?_, fun n b e => ?_, fun n b e => ?_, ?_, ?_, ?_, fun n b e => ?_, fun n b e => ?_, A.ib, A.is, A.hn⟩
  · by_cases q : b = a
    · rw [q, upd_same] at e ⊢
      exact e
    · rw [upd_ne q] at e ⊢
      exact A.same b u e
  · rw [upd_ne (n1 A.hp)]; exact A.rp
  · rw [upd_ne (n1 A.hh)]; exact A.rh
  · rw [upd_ne (n1 A.hd)]; exact A.rd
  · rw [upd_ne (n1 (A.hb n b e))]; exact A.rb n b e
  · rw [upd_ne (n1 (A.hs n b e))]; exact A.rs n b e
  · rw [upd_ne (n1 A.hp)]; exact A.hp
  · rw [upd_ne (n1 A.hh)]; exact A.hh
  · rw [upd_ne (n1 A.hd)]; exact A.hd
  · rw [upd_ne (n1 (A.hb n b e))]; exact A.hb n b e
  · rw [upd_ne (n1 (A.hs n b e))]; exact A.hs n b e
/-- a known object is changed -/
theorem PileAt.set (A : PileAt C B p g P R H) {a : Addr} {o u : HO} (h : R a = some u) : PileAt C B p g P (upd R a o) (upd H a o) := by
  have n1 : ∀ {b}, R b = none → b ≠ a := fun e q => by rw [q, h] at e; cases e
  refine ⟨fun b u e => ?_, ?_, ?_, ?_, fun n b e => ?_, fun n b e => ?_, ?_, ?_, ?_, fun n b e => ?_, fun n b e => ?_, A.ib, A.is, A.hn⟩
  · by_cases q : b = a
    · rw [q, upd_same] at e ⊢
      exact e
    · rw [upd_ne q] at e ⊢
      exact A.same b u e
  · rw [upd_ne (n1 A.rp)]; exact A.rp
  · rw [upd_ne (n1 A.rh)]; exact A.rh
  · rw [upd_ne (n1 A.rd)]; exact A.rd
  · rw [upd_ne (n1 (A.rb n b e))]; exact A.rb n b e
  · rw [upd_ne (n1 (A.rs n b e))]; exact A.rs n b e
  · rw [upd_ne (n1 A.rp)]; exact A.hp
  · rw [upd_ne (n1 A.rh)]; exact A.hh
  · rw [upd_ne (n1 A.rd)]; exact A.hd
  · rw [upd_ne (n1 (A.rb n b e))]; exact A.hb n b e
  · rw [upd_ne (n1 (A.rs n b e))]; exact A.hs n b e
/-- a hand is set -/
theorem PileAt.hand (A : PileAt C B p g P R H) (hs : List (Option Int)) : PileAt C B p g { P with hands := hs } R (upd H g.lh (.lst (lV hs))) :=
  ⟨fun b u e => by rw [upd_ne (ne_of_none e A.rh)]; exact A.same b u e, A.rp, A.rh, A.rd, A.rb, A.rs, by rw [upd_ne A.p_lh]; exact A.hp, upd_same, by rw [upd_ne A.lh_db.symm]; exact A.hd,
    fun n b e => by rw [upd_ne (A.ba_lh e)]; exact A.hb n b e, fun n b e => by rw [upd_ne (A.hn n b e)]; exact A.hs n b e, A.ib, A.is, A.hn⟩
/-- what is known of the box n is changed, its slots are not -/
theorem PileAt.box (A : PileAt C B p g P R H) {n : Int} {b : Bx} (hb : get P.boxes n = some b) (f : Bx → Bx) (hf : (f b).slots = b.slots) :
    PileAt C B p g { P with boxes := chg P.boxes n f } R (upd H (g.ba n) (.ins B (g.bd n) (bf (g.sa n) (f b).wt (f b).sus))) := by
  have old : ∀ {m c}, get (chg P.boxes n f) m = some c → ∃ d, get P.boxes m = some d ∧ c = (if m = n then f d else d) := fun {m c} e => by
    rw [get_chg] at e
    cases q : get P.boxes m with
    | none => rw [q] at e; cases e
    | some d =>
      rw [q] at e
      exact ⟨d, rfl, (Option.some.inj e).symm⟩
  refine ⟨fun c u e => ?_, A.rp, A.rh, A.rd, fun m c e => ?_, fun m c e => ?_, ?_, ?_, ?_, fun m c e => ?_, fun m c e => ?_, fun m k c d e1 e2 => ?_, fun m k c d e1 e2 => ?_, fun m c e => ?_⟩
  · rw [upd_ne (ne_of_none e (A.rb n b hb))]; exact A.same c u e
  · obtain ⟨d, hd, _⟩ := old e; exact A.rb m d hd
  · obtain ⟨d, hd, _⟩ := old e; exact A.rs m d hd
  · rw [upd_ne (A.p_ba hb)]; exact A.hp
  · rw [upd_ne (A.ba_lh hb).symm]; exact A.hh
  · rw [upd_ne (A.ba_db hb).symm]
    show H g.db = some (.dK (dV g.ba (chg P.boxes n f)))
    rw [dV_chg]; exact A.hd
  · obtain ⟨d, hd, rfl⟩ := old e
    by_cases q : m = n
    · subst q
      have : d = b := Option.some.inj (hd.symm.trans hb)
      subst this
      rw [upd_same, if_pos rfl]
    · rw [if_neg q, upd_ne (fun z => q (A.ib m n d b hd hb z))]
      exact A.hb m d hd
  · obtain ⟨d, hd, rfl⟩ := old e
    rw [upd_ne (A.ba_sa hb hd).symm, A.hs m d hd]
    by_cases q : m = n
    · subst q
      have : d = b := Option.some.inj (hd.symm.trans hb)
      subst this
      rw [if_pos rfl, hf]
    · rw [if_neg q]
  · obtain ⟨d1, h1, _⟩ := old e1
    obtain ⟨d2, h2, _⟩ := old e2
    exact A.ib m k d1 d2 h1 h2
  · obtain ⟨d1, h1, _⟩ := old e1
    obtain ⟨d2, h2, _⟩ := old e2
    exact A.is m k d1 d2 h1 h2
  · obtain ⟨d, hd, _⟩ := old e; exact A.hn m d hd
/-- a slot of the box n is set -/
theorem PileAt.slot (A : PileAt C B p g P R H) {n : Int} {b : Bx} (hb : get P.boxes n = some b) (i : Nat) (x : Option Int) :
    PileAt C B p g { P with boxes := chg P.boxes n (setSlot i x) } R (upd H (g.sa n) (.lst (lV (b.slots.set i x)))) := by
  have old : ∀ {m c}, get (chg P.boxes n (setSlot i x)) m = some c → ∃ d, get P.boxes m = some d ∧ c = (if m = n then setSlot i x d else d) := fun {m c} e => by
    rw [get_chg] at e
    cases q : get P.boxes m with
    | none => rw [q] at e; cases e
    | some d =>
      rw [q] at e
      exact ⟨d, rfl, (Option.some.inj e).symm⟩
  refine ⟨fun c u e => ?_, A.rp, A.rh, A.rd, fun m c e => ?_, fun m c e => ?_, ?_, ?_, ?_, fun m c e => ?_, fun m c e => ?_, fun m k c d e1 e2 => ?_, fun m k c d e1 e2 => ?_, fun m c e => ?_⟩
  · rw [upd_ne (ne_of_none e (A.rs n b hb))]; exact A.same c u e
  · obtain ⟨d, hd, _⟩ := old e; exact A.rb m d hd
  · obtain ⟨d, hd, _⟩ := old e; exact A.rs m d hd
  · rw [upd_ne (A.p_sa hb)]; exact A.hp
  · rw [upd_ne (A.hn n b hb).symm]; exact A.hh
  · rw [upd_ne (A.sa_db hb).symm]
    show H g.db = some (.dK (dV g.ba (chg P.boxes n (setSlot i x))))
    rw [dV_chg]; exact A.hd
  · obtain ⟨d, hd, rfl⟩ := old e
    rw [upd_ne (A.ba_sa hd hb), A.hb m d hd]
    by_cases q : m = n
    · rw [if_pos q]; rfl
    · rw [if_neg q]
  · obtain ⟨d, hd, rfl⟩ := old e
    by_cases q : m = n
    · subst q
      have : d = b := Option.some.inj (hd.symm.trans hb)
      subst this
      rw [upd_same, if_pos rfl]
      rfl
    · rw [if_neg q, upd_ne (fun z => q (A.is m n d b hd hb z))]
      exact A.hs m d hd
  · obtain ⟨d1, h1, _⟩ := old e1
    obtain ⟨d2, h2, _⟩ := old e2
    exact A.ib m k d1 d2 h1 h2
  · obtain ⟨d1, h1, _⟩ := old e1
    obtain ⟨d2, h2, _⟩ := old e2
    exact A.is m k d1 d2 h1 h2
  · obtain ⟨d, hd, _⟩ := old e; exact A.hn m d hd
/-- a box goes -/
theorem PileAt.del (A : PileAt C B p g P R H) (n : Int) : PileAt C B p g { P with boxes := rm P.boxes n } R (upd H g.db (.dK (dropK (dV g.ba P.boxes) (Sum.inl n)))) := by
  have old : ∀ {m c}, get (rm P.boxes n) m = some c → get P.boxes m = some c := fun {m c} e => by
    rw [get_rm] at e
    by_cases q : m = n
    · rw [if_pos q] at e; cases e
    · rw [if_neg q] at e; exact e
  refine ⟨fun c u e => ?_, A.rp, A.rh, A.rd, fun m c e => A.rb m c (old e), fun m c e => A.rs m c (old e), ?_, ?_, ?_, fun m c e => ?_, fun m c e => ?_, fun m k c d e1 e2 => A.ib m k c d (old e1) (old e2), fun m k c d e1 e2 => A.is m k c d (old e1) (old e2), fun m c e => A.hn m c (old e)⟩
  · rw [upd_ne (ne_of_none e A.rd)]; exact A.same c u e
  · rw [upd_ne A.p_db]; exact A.hp
  · rw [upd_ne A.lh_db]; exact A.hh
  · rw [upd_same, dV_rm]
  · rw [upd_ne (A.ba_db (old e))]; exact A.hb m c (old e)
  · rw [upd_ne (A.sa_db (old e))]; exact A.hs m c (old e)
/-- one more is made -/
theorem PileAt.count (A : PileAt C B p g P R H) (m : Int) : PileAt C B p g { P with made := m } R (upd H p (.ins C g.dx (pf g.lh g.db m))) := by
  refine ⟨fun c u e => ?_, A.rp, A.rh, A.rd, A.rb, A.rs, upd_same, ?_, ?_, fun m c e => ?_, fun m c e => ?_, A.ib, A.is, A.hn⟩
  · rw [upd_ne (ne_of_none e A.rp)]; exact A.same c u e
  · rw [upd_ne A.p_lh.symm]; exact A.hh
  · rw [upd_ne A.p_db.symm]; exact A.hd
  · rw [upd_ne (A.p_ba e).symm]; exact A.hb m c e
  · rw [upd_ne (A.p_sa e).symm]; exact A.hs m c e
/-- a new box, known till now as an object of its own, is laid into the dict -/
theorem PileAt.add (A : PileAt C B p g P R H) {n : Int} {b : Bx} {x dx sl : Addr} (hn : get P.boxes n = none) (hx : R x = some (.ins B dx (bf sl b.wt b.sus))) (hsl : R sl = some (.lst (lV b.slots))) (hR : Same R' R) (rx : R' x = none) (rsl : R' sl = none) :
    PileAt C B p { g with bd := fun m => if m = n then dx else g.bd m, ba := fun m => if m = n then x else g.ba m, sa := fun m => if m = n then sl else g.sa m } { P with boxes := P.boxes ++ [(n, b)] } R' (upd H g.db (.dK (putK (dV g.ba P.boxes) (Sum.inl n) (.ref x)))) := by
  have hx' := A.same _ _ hx
  have hsl' := A.same _ _ hsl
  have gm : ∀ m, get (P.boxes ++ [(n, b)]) m = if m = n then some b else get P.boxes m := fun m => by
    rw [get_snoc]
    by_cases q : m = n
    · rw [q, hn, if_pos rfl]
    · have : ¬ n = m := fun z => q z.symm
      rw [if_neg q]
      cases get P.boxes m <;> simp [this]
  have old : ∀ {m c}, get (P.boxes ++ [(n, b)]) m = some c → (m = n ∧ c = b) ∨ (m ≠ n ∧ get P.boxes m = some c) := fun {m c} e => by
    rw [gm] at e
    by_cases q : m = n
    · rw [if_pos q] at e; exact .inl ⟨q, (Option.some.inj e).symm⟩
    · rw [if_neg q] at e; exact .inr ⟨q, e⟩
  have nba : ∀ {m c}, get P.boxes m = some c → g.ba m ≠ x := fun e q => by have := A.rb _ _ e; rw [q, hx] at this; cases this
  have nsa : ∀ {m c}, get P.boxes m = some c → g.sa m ≠ sl := fun e q => by have := A.rs _ _ e; rw [q, hsl] at this; cases this
  refine ⟨fun c u e => ?_, hR.free A.rp, hR.free A.rh, hR.free A.rd, fun m c e => ?_, fun m c e => ?_, ?_, ?_, ?_, fun m c e => ?_, fun m c e => ?_, fun m k c d e1 e2 => ?_, fun m k c d e1 e2 => ?_, fun m c e => ?_⟩
  · show upd H g.db _ c = _
    rw [upd_ne (ne_of_none e (hR.free A.rd))]; exact A.same c u (hR c u e)
  · show R' (if m = n then x else g.ba m) = none
    rcases old e with ⟨rfl, _⟩ | ⟨q, e'⟩
    · rw [if_pos rfl]; exact rx
    · rw [if_neg q]; exact hR.free (A.rb m c e')
  · show R' (if m = n then sl else g.sa m) = none
    rcases old e with ⟨rfl, _⟩ | ⟨q, e'⟩
    · rw [if_pos rfl]; exact rsl
    · rw [if_neg q]; exact hR.free (A.rs m c e')
  · show upd H g.db _ p = _
    rw [upd_ne A.p_db]; exact A.hp
  · show upd H g.db _ g.lh = _
    rw [upd_ne A.lh_db]; exact A.hh
  · show upd H g.db _ g.db = _
    rw [upd_same, putK_new _ (by rw [valV_dV, hn]; rfl)]
    show some (HO.dK (dV g.ba P.boxes ++ [((Sum.inl n : Key), V.ref x)])) = some (HO.dK (dV (fun m => if m = n then x else g.ba m) (P.boxes ++ [(n, b)])))
    rw [dV_snoc, dV_agree (ba := fun m => if m = n then x else g.ba m) (bb := g.ba) (fun m hm => by
      have : m ≠ n := fun z => by rw [z] at hm; exact get_none.mp hn hm
      show (if m = n then x else g.ba m) = _
      rw [if_neg this])]
    show _ = some (HO.dK (dV g.ba P.boxes ++ [((Sum.inl n : Key), V.ref (if n = n then x else g.ba n))]))
    rw [if_pos rfl]
  · show upd H g.db _ (if m = n then x else g.ba m) = some (.ins B (if m = n then dx else g.bd m) (bf (if m = n then sl else g.sa m) c.wt c.sus))
    rcases old e with ⟨rfl, rfl⟩ | ⟨q, e'⟩
    · rw [if_pos rfl, if_pos rfl, if_pos rfl, upd_ne (ne_of hx' A.hd ins_ne_dK)]; exact hx'
    · rw [if_neg q, if_neg q, if_neg q, upd_ne (A.ba_db e')]; exact A.hb m c e'
  · show upd H g.db _ (if m = n then sl else g.sa m) = some (.lst (lV c.slots))
    rcases old e with ⟨rfl, rfl⟩ | ⟨q, e'⟩
    · rw [if_pos rfl, upd_ne (ne_of hsl' A.hd lst_ne_dK)]; exact hsl'
    · rw [if_neg q, upd_ne (A.sa_db e')]; exact A.hs m c e'
  · show (if m = n then x else g.ba m) = (if k = n then x else g.ba k) → m = k
    rcases old e1 with ⟨rfl, _⟩ | ⟨q1, h1⟩
    · rcases old e2 with ⟨rfl, _⟩ | ⟨q2, h2⟩
      · intro _; rfl
      · rw [if_pos rfl, if_neg q2]
        intro z
        exact absurd z.symm (nba h2)
    · rcases old e2 with ⟨rfl, _⟩ | ⟨q2, h2⟩
      · rw [if_pos rfl, if_neg q1]
        intro z
        exact absurd z (nba h1)
      · rw [if_neg q1, if_neg q2]
        exact A.ib m k c d h1 h2
  · show (if m = n then sl else g.sa m) = (if k = n then sl else g.sa k) → m = k
    rcases old e1 with ⟨rfl, _⟩ | ⟨q1, h1⟩
    · rcases old e2 with ⟨rfl, _⟩ | ⟨q2, h2⟩
      · intro _; rfl
      · rw [if_pos rfl, if_neg q2]
        intro z
        exact absurd z.symm (nsa h2)
    · rcases old e2 with ⟨rfl, _⟩ | ⟨q2, h2⟩
      · rw [if_pos rfl, if_neg q1]
        intro z
        exact absurd z (nsa h1)
      · rw [if_neg q1, if_neg q2]
        exact A.is m k c d h1 h2
  · show (if m = n then sl else g.sa m) ≠ g.lh
    rcases old e with ⟨rfl, _⟩ | ⟨q, e'⟩
    · rw [if_pos rfl]
      intro z
      have := A.rh
      rw [← z, hsl] at this
      cases this
    · rw [if_neg q]; exact A.hn m c e'
end
/-- the pile P lies at p, its weights right; R: what else is known -/
def PileIn (C B p : Addr) (P : Pl) (R H : Hp) : Prop := (∃ g, PileAt C B p g P R H) ∧ Wf P []
end BP

/-! Deeds, and what a deed makes of a pile. Own work. -/
namespace BP
open PySem L2
inductive Deed where
  | make (h z : Int) | hold (h o : Int) | drop (h : Int) | put (h s o : Int) | empty (h s : Int) | take (h o s : Int) | tidy
def Deed.vs : Deed → List V
  | .make h z => [.str "make", .int h, .int z]
  | .hold h o => [.str "hold", .int h, .int o]
  | .drop h => [.str "drop", .int h]
  | .put h s o => [.str "put", .int h, .int s, .int o]
  | .empty h s => [.str "empty", .int h, .int s]
  | .take h o s => [.str "take", .int h, .int o, .int s]
  | .tidy => [.str "tidy"]
def Deed.InZ (few y : Int) : Deed → Prop
  | .make h z => (0 ≤ h ∧ h < few) ∧ (0 ≤ z ∧ z < y)
  | .hold h o => (0 ≤ h ∧ h < few) ∧ (0 ≤ o ∧ o < few)
  | .drop h => 0 ≤ h ∧ h < few
  | .put h s o => (0 ≤ h ∧ h < few) ∧ (0 ≤ s ∧ s < y) ∧ (0 ≤ o ∧ o < few)
  | .empty h s => (0 ≤ h ∧ h < few) ∧ (0 ≤ s ∧ s < y)
  | .take h o s => (0 ≤ h ∧ h < few) ∧ (0 ≤ o ∧ o < few) ∧ (0 ≤ s ∧ s < y)
  | .tidy => True
abbrev Deed.In (few : Int) (d : Deed) : Prop := d.InZ few 8
/-- all that no hand leads to, rising -/
noncomputable def deadF (P : Pl) : List Int := (keys P.boxes).filter fun n => @decide (¬ HL P n) (Classical.propDecidable _)
theorem mem_deadF {P : Pl} {n : Int} : n ∈ deadF P ↔ (∃ b, get P.boxes n = some b) ∧ ¬ HL P n := by
  unfold deadF
  rw [List.mem_filter, get_keys]
  constructor
  · rintro ⟨h1, h2⟩
    exact ⟨h1, @of_decide_eq_true _ (Classical.propDecidable _) h2⟩
  · rintro ⟨h1, h2⟩
    exact ⟨h1, @decide_eq_true _ (Classical.propDecidable _) h2⟩
theorem dead_deadF (P : Pl) : Dead P (deadF P) := fun n => mem_deadF
theorem deadF_sorted {P : Pl} {w : List (Option Int)} (W : Wf P w) : (deadF P).Pairwise (· < ·) := W.ks.filter _
theorem sorted_ext : ∀ {a b : List Int}, a.Pairwise (· < ·) → b.Pairwise (· < ·) → (∀ n, n ∈ a ↔ n ∈ b) → a = b
  | [], [], _, _, _ => rfl
  | [], y :: b, _, _, h => by have := (h y).mpr List.mem_cons_self; cases this
  | x :: a, [], _, _, h => by have := (h x).mp List.mem_cons_self; cases this
  | x :: a, y :: b, ha, hb, h => by
    rw [List.pairwise_cons] at ha hb
    have e : x = y := by
      rcases List.mem_cons.mp ((h x).mp List.mem_cons_self) with q | q
      · exact q
      · rcases List.mem_cons.mp ((h y).mpr List.mem_cons_self) with q2 | q2
        · exact q2.symm
        · have h1 := hb.1 x q
          have h2 := ha.1 y q2
          omega
    subst e
    congr 1
    refine sorted_ext ha.2 hb.2 fun n => ?_
    constructor
    · intro hn
      rcases List.mem_cons.mp ((h n).mp (List.mem_cons_of_mem _ hn)) with q | q
      · have := ha.1 n hn; omega
      · exact q
    · intro hn
      rcases List.mem_cons.mp ((h n).mpr (List.mem_cons_of_mem _ hn)) with q | q
      · have := hb.1 n hn; omega
      · exact q
theorem dead_eq {P : Pl} {w : List (Option Int)} {F : List Int} (W : Wf P w) (hs : F.Pairwise (· < ·)) (hF : Dead P F) : F = deadF P :=
  sorted_ext hs (deadF_sorted W) fun n => by rw [hF n, mem_deadF]
inductive Bad where | hand | size | full | box | slot
  deriving DecidableEq
inductive Res where
  | fine (P : Pl) (f : List Int)
  | bad (e : Bad)
def OkH (h : Int) : Prop := 0 ≤ h ∧ h < 8
instance (h : Int) : Decidable (OkH h) := by unfold OkH; infer_instance
/-- the slot s of what the hand h holds -/
def atSlot (P : Pl) (h s : Int) (k : Int → Bx → Res) : Res := match P.hands.getD h.toNat none with
  | none => .bad .box
  | some n => match get P.boxes n with
    | none => .bad .box
    | some b => if 0 ≤ s ∧ s < (b.slots.length : Int) then k n b else .bad .slot
noncomputable def act (P : Pl) : Deed → Res
  | .make h z => if ¬ OkH h then .bad .hand else if ¬ (0 ≤ z ∧ z ≤ 6) then .bad .size else if 60 ≤ P.boxes.length then .bad .full else .fine (mk P h.toNat z.toNat).1 (mk P h.toNat z.toNat).2
  | .hold h o => if ¬ OkH h then .bad .hand else if ¬ OkH o then .bad .hand else .fine (ptHand P h.toNat (P.hands.getD o.toNat none)).1 (ptHand P h.toNat (P.hands.getD o.toNat none)).2
  | .drop h => if ¬ OkH h then .bad .hand else .fine (ptHand P h.toNat none).1 (ptHand P h.toNat none).2
  | .put h s o => if ¬ OkH h then .bad .hand else if ¬ OkH o then .bad .hand else atSlot P h s fun n _ => .fine (ptSlot P n s.toNat (P.hands.getD o.toNat none)).1 (ptSlot P n s.toNat (P.hands.getD o.toNat none)).2
  | .empty h s => if ¬ OkH h then .bad .hand else atSlot P h s fun n _ => .fine (ptSlot P n s.toNat none).1 (ptSlot P n s.toNat none).2
  | .take h o s => if ¬ OkH h then .bad .hand else if ¬ OkH o then .bad .hand else atSlot P o s fun _ b => .fine (ptHand P h.toNat (b.slots.getD s.toNat none)).1 (ptHand P h.toNat (b.slots.getD s.toNat none)).2
  | .tidy => .fine (tidied P (deadF P)) (deadF P)
theorem atSlot_fine {P : Pl} {h s : Int} {k : Int → Bx → Res} {P' : Pl} {f : List Int} (e : atSlot P h s k = .fine P' f) : ∃ n b, P.hands.getD h.toNat none = some n ∧ get P.boxes n = some b ∧ (0 ≤ s ∧ s < (b.slots.length : Int)) ∧ k n b = .fine P' f := by
  unfold atSlot at e
  cases q : P.hands.getD h.toNat none with
  | none => rw [q] at e; cases e
  | some n =>
    rw [q] at e
    simp only at e
    cases q2 : get P.boxes n with
    | none => rw [q2] at e; cases e
    | some b =>
      rw [q2] at e
      simp only at e
      by_cases c : 0 ≤ s ∧ s < (b.slots.length : Int)
      · rw [if_pos c] at e
        exact ⟨n, b, rfl, q2, c, e⟩
      · rw [if_neg c] at e; cases e
theorem Good.act {P : Pl} (G : Good P) {d : Deed} {P' : Pl} {f : List Int} (e : act P d = .fine P' f) : Good P' := by
  cases d with
  | make h z =>
    unfold BP.act at e; dsimp only at e
    by_cases c1 : OkH h
    case neg => rw [if_pos c1] at e; cases e
    rw [if_neg (fun z => z c1)] at e
    by_cases c2 : 0 ≤ z ∧ z ≤ 6
    case neg => rw [if_pos c2] at e; cases e
    rw [if_neg (fun z => z c2)] at e
    by_cases c3 : 60 ≤ P.boxes.length
    · rw [if_pos c3] at e; cases e
    rw [if_neg c3] at e
    unfold OkH at c1
    injection e with e1 _
    rw [← e1]
    exact G.make (by omega) (by omega) (by omega)
  | hold h o =>
    unfold BP.act at e; dsimp only at e
    by_cases c1 : OkH h
    case neg => rw [if_pos c1] at e; cases e
    rw [if_neg (fun z => z c1)] at e
    by_cases c2 : OkH o
    case neg => rw [if_pos c2] at e; cases e
    rw [if_neg (fun z => z c2)] at e
    unfold OkH at c1
    injection e with e1 _
    rw [← e1]
    exact G.hold (by omega)
  | drop h =>
    unfold BP.act at e; dsimp only at e
    by_cases c1 : OkH h
    case neg => rw [if_pos c1] at e; cases e
    rw [if_neg (fun z => z c1)] at e
    unfold OkH at c1
    injection e with e1 _
    rw [← e1]
    exact G.drop (by omega)
  | put h s o =>
    unfold BP.act at e; dsimp only at e
    by_cases c1 : OkH h
    case neg => rw [if_pos c1] at e; cases e
    rw [if_neg (fun z => z c1)] at e
    by_cases c2 : OkH o
    case neg => rw [if_pos c2] at e; cases e
    rw [if_neg (fun z => z c2)] at e
    obtain ⟨n, b, h1, h2, h3, e⟩ := atSlot_fine e
    injection e with e1 _
    rw [← e1]
    exact G.slot h2 (by omega) fun n e => G.wf.hand e
  | empty h s =>
    unfold BP.act at e; dsimp only at e
    by_cases c1 : OkH h
    case neg => rw [if_pos c1] at e; cases e
    rw [if_neg (fun z => z c1)] at e
    obtain ⟨n, b, h1, h2, h3, e⟩ := atSlot_fine e
    injection e with e1 _
    rw [← e1]
    exact G.slot h2 (by omega) fun n e => by cases e
  | take h o s =>
    unfold BP.act at e; dsimp only at e
    by_cases c1 : OkH h
    case neg => rw [if_pos c1] at e; cases e
    rw [if_neg (fun z => z c1)] at e
    by_cases c2 : OkH o
    case neg => rw [if_pos c2] at e; cases e
    rw [if_neg (fun z => z c2)] at e
    obtain ⟨n, b, h1, h2, h3, e⟩ := atSlot_fine e
    unfold OkH at c1
    injection e with e1 _
    rw [← e1]
    exact G.hand (by omega) fun n e => G.wf.slot h2 e
  | tidy =>
    unfold BP.act at e; dsimp only at e
    injection e with e1 _
    rw [← e1]
    exact G.tidied (dead_deadF P)
/-- behind a tidy there is no suspect -/
theorem susp_tidied {P : Pl} (G : Good P) : susp (tidied P (deadF P)) = [] := by
  unfold susp
  rw [List.filter_eq_nil_iff]
  intro n hn
  obtain ⟨b, hb⟩ := get_keys.mpr hn
  rw [hb]
  have := (tidied_hl G.wf (dead_deadF P) hb).2
  simp [this]
theorem Deed.InZ.more {d : Deed} {few m y : Int} (h : d.InZ few y) (hm : few ≤ m) : d.InZ m y := by
  cases d <;> simp only [Deed.InZ] at h ⊢ <;> omega
theorem Deed.head {d : Deed} : ∃ w ws, d.vs = V.str w :: ws ∧ (decide (V.str w = V.str "tidy") = true ↔ d = .tidy) := by
  have sne : ∀ {z z' : Str}, z ≠ z' → decide (V.str z = V.str z') = false := fun e => decide_eq_false (by intro q; injection q with q; exact e q)
  cases d
  all_goals first
    | exact ⟨_, _, rfl, fun q => (by rw [sne (by decide +kernel)] at q; cases q), fun q => (by cases q)⟩
    | exact ⟨_, _, rfl, fun _ => rfl, fun _ => decide_eq_true rfl⟩
/-- what is new in the heap is known -/
def newK (R H H' : Hp) : Hp := fun b => match H b with | none => H' b | some _ => R b
theorem newK_new {R H H' : Hp} {b : Addr} (h : H b = none) : newK R H H' b = H' b := by unfold newK; rw [h]
theorem newK_old {R H H' : Hp} {b : Addr} {o : HO} (h : H b = some o) : newK R H H' b = R b := by unfold newK; rw [h]
theorem same_newK {R H H' : Hp} (s : Same R H) : Same R (newK R H H') := fun b o e => by rw [newK_old (s b o e)]; exact e
theorem PileAt.fresh {C B p : Addr} {g : Geo} {P : Pl} {R H H' : Hp} (A : PileAt C B p g P R H) (s : Same H H') : PileAt C B p g P (newK R H H') H' := by
  refine ⟨fun b o e => ?_, by rw [newK_old A.hp]; exact A.rp, by rw [newK_old A.hh]; exact A.rh, by rw [newK_old A.hd]; exact A.rd, fun n b e => by rw [newK_old (A.hb n b e)]; exact A.rb n b e, fun n b e => by rw [newK_old (A.hs n b e)]; exact A.rs n b e,
    s _ _ A.hp, s _ _ A.hh, s _ _ A.hd, fun n b e => s _ _ (A.hb n b e), fun n b e => s _ _ (A.hs n b e), A.ib, A.is, A.hn⟩
  cases q : H b with
  | none => rw [newK_new q] at e; exact e
  | some u =>
    rw [newK_old q] at e
    exact s _ _ (A.same _ _ e)
/-- a list that came beside is known -/
theorem PileAt.know {C B p : Addr} {g : Geo} {P : Pl} {R H H' : Hp} (A : PileAt C B p g P R H) {r : Addr} {o : HO} (hr : H r = none) (s : Same H H') (e : H' r = some o) : PileAt C B p g P (upd R r o) H' :=
  (A.new (o := o) hr).grow fun b u h => by
    by_cases q : b = r
    · subst q
      rw [upd_same] at h
      rw [← h]
      exact e
    · rw [upd_ne q] at h
      exact s _ _ h
end BP

/-! A match over a tuple: sequences of a written text and names. Own work. -/
namespace BP
open PySem L2
open PyProof.Rows (matchSeq_tuple_hit matchSeq_tuple_miss unpackItems_tuple)
abbrev TEa := List V → (Option (List V) → Prop) → Prop
/-- the parts of a sequence pattern against the items: the captured ones by their names, or none -/
structure PEa (X : Cx) (ps : List Pattern) (ns : List Str) (t : TEa) : Prop where
  run : ∀ (pins : List (Addr × Obj)) (s : Shared) (σ : St) (H : Hp) (vs : List V) (us : List Value) (Q : Option (List V) → Prop), Inv X pins σ H s → Vals vs us → vs.length = ps.length → t vs Q →
    wpAny (model X.prog X.w) X.A (matchEach ps X.env us) (fun r s' => Inv X pins σ H s' ∧ match r with | none => Q none | some bs => ∃ ws, bs.map (·.1) = ns ∧ Vals ws (bs.map (·.2)) ∧ Q (some ws)) X.xe s
def eNil : TEa := fun _ Q => Q (some [])
def eCap (t : TEa) : TEa := fun vs Q => ∃ v r, vs = v :: r ∧ t r fun o => Q (o.map (v :: ·))
def eStr (x : Str) (t : TEa) : TEa := fun vs Q => ∃ z r, vs = .str z :: r ∧ (if decide (z = x) = true then t r Q else Q none)
section
variable {X : Cx}
theorem pea_nil : PEa X [] [] eNil := ⟨fun pins s σ H vs us Q I r hl h => wpAny_matchEach_nil ⟨I, [], rfl, .nil, h⟩⟩
theorem pea_cap {x : Str} {pos : Pos} {ps : List Pattern} {ns : List Str} {t : TEa} (h : PEa X ps ns t) : PEa X (.MatchAs none (some x) pos :: ps) (x :: ns) (eCap t) := by
  refine ⟨fun pins s σ H vs us Q I r hl h1 => ?_⟩
  obtain ⟨v, rr, rfl, q⟩ := h1
  cases r with
  | @cons _ u _ us r rs =>
    refine wpAny_matchEach_cons (wpAny_matchPattern_Capture ?_)
    refine thn (h.run pins s σ H rr us _ I rs (by simpa using hl) q) fun r' s2 hr => ?_
    obtain ⟨I2, hr⟩ := hr
    cases r' with
    | none => exact ⟨I2, hr⟩
    | some bs =>
      obtain ⟨ws, e1, e2, q2⟩ := hr
      exact ⟨I2, v :: ws, by simp [e1], by simpa using Paired.cons r e2, q2⟩
theorem pea_str {x : Str} {pos pos' : Pos} {j} {ps : List Pattern} {ns : List Str} {t : TEa} (h : PEa X ps ns t) : PEa X (.MatchValue (.Constant (.str x) j pos') pos :: ps) ns (eStr x t) := by
  refine ⟨fun pins s σ H vs us Q I r hl h1 => ?_⟩
  obtain ⟨z, rr, rfl, q⟩ := h1
  cases r with
  | @cons _ u _ us r rs =>
    refine wpAny_matchEach_cons (wpAny_matchPattern_Value ?_)
    refine thn ((pe_str (X := X) (x := x) (j := j) (pos := pos')).run pins s σ H (fun v H' => v = .str x ∧ H' = H) I ⟨rfl, rfl⟩) fun y s1 hy => ?_
    obtain ⟨v, H', I1, ry, rfl, rfl⟩ := hy
    refine thn (op_eq pins s1 σ H' (.str z) (.str x) _ _ (fun v H'' => v = .bl (decide (V.str z = V.str x)) ∧ H'' = H') I1 r ry ⟨rfl, rfl, rfl⟩) fun c s2 hc => ?_
    obtain ⟨v2, H2, I2, r2, rfl, rfl⟩ := hc
    cases r2
    refine wpAny_truthy_bool ?_
    have e : decide (V.str z = V.str x) = decide (z = x) := by
      by_cases q2 : z = x
      · rw [decide_eq_true q2, decide_eq_true (by rw [q2])]
      · rw [decide_eq_false q2, decide_eq_false (by intro y; injection y with y; exact q2 y)]
    rw [e]
    cases c : decide (z = x) with
    | true =>
      rw [if_pos rfl]
      rw [c, if_pos rfl] at q
      refine thn (h.run pins s2 σ H2 rr us _ I2 rs (by simpa using hl) q) fun r' s2 hr => ?_
      obtain ⟨I3, hr⟩ := hr
      cases r' with
      | none => exact ⟨I3, hr⟩
      | some bs => exact ⟨I3, by simpa using hr⟩
    | false =>
      rw [if_neg Bool.false_ne_true]
      rw [c, if_neg Bool.false_ne_true] at q
      exact ⟨I2, q⟩
/-- the captured ones are stored, one behind the other -/
structure PBi (X : Cx) (ns : List Str) (t : TGs) : Prop where
  run : ∀ (pins : List (Addr × Obj)) (s : Shared) (σ : St) (H : Hp) (vs : List V) (us : List Value) (Q : St → Hp → Prop), Inv X pins σ H s → Vals vs us → t vs σ H Q →
    wpAny (model X.prog X.w) X.A (assignInOrder (ns.map (bindName X.env)) us) (fun _ s' => ∃ σ' H', Inv X pins σ' H' s' ∧ Q σ' H') X.xe s
theorem pbi_nil : PBi X [] gNil := by
  refine ⟨fun pins s σ H vs us Q I r h => ?_⟩
  obtain ⟨e, h⟩ := h
  subst e
  cases r
  exact wpAny_assignInOrder_none ⟨σ, H, I, h⟩
theorem pbi_cons {i : Nat} {x : Str} {ns : List Str} {u : TGs} (h2 : PBi X ns u) (hN : X.N.Nodup) (hi : X.N[i]? = some x) (hx : Loc X.env.scope x) (hf : X.fn x = true ∨ X.env.scope.names.lookup x = some .local := by first | exact .inl rfl | exact .inr rfl | assumption) : PBi X (x :: ns) (gCons (gName i) u) := by
  refine ⟨fun pins s σ H vs us Q I r h => ?_⟩
  obtain ⟨v, vr, e1, h⟩ := h
  subst e1
  cases r with
  | cons r rr =>
    refine wpAny_assignInOrder_more ?_
    refine wpAny_bindName (store_ok I hN hi hx r (fun s' I' => ?_) hf)
    exact h2.run pins s' _ H vr _ Q I' rr h
/-- the cases, from the first on -/
structure PMc (X : Cx) (cs : List MatchCase) (t : V → TS) : Prop where
  run : ∀ (b : Bool) (pins : List (Addr × Obj)) (s : Shared) (σ : St) (H : Hp) (D : Ends) (v : V) (u : Value), Inv X pins σ H s → RelV v u → t v D σ H → wpAny (model X.prog X.w) X.A (matchCases cs X.env u b) (SP X pins D) X.xe s
def mNil : V → TS := fun _ D σ H => D.nx σ H
def mSeq (K : PySem.W.Frag) (n : Nat) (te : TEa) (tb : TGs) (tr : V → TS) (tbody : TS) : V → TS := fun v D σ H => ∃ a xs, v = .ref a ∧ SqT K H a xs ∧
  (if decide (xs.length = n) = true then te xs (fun o => match o with | none => tr v D σ H | some ws => tb ws σ H fun σ' H' => tbody D σ' H') else tr v D σ H)
theorem pmc_nil : PMc X [] mNil := ⟨fun b pins s σ H D v u I r h => wpAny_matchCases_nil ⟨σ, H, I, h⟩⟩
theorem pmc_seq {ps : List Pattern} {pos : Pos} {body : List Stmt} {rest : List MatchCase} {ns : List Str} {te : TEa} {tb : TGs} {tr : V → TS} {tbody : TS} {n : Nat} (hc : X.calm = true) (hp : PEa X ps ns te) (hb : PBi X ns tb) (hy : PSs X body tbody) (hr : PMc X rest tr)
    (hn : ps.length = n := by rfl) (hstar : ps.findIdx? (·.isStar) = none := by rfl) (hwild : (ps.all fun p => p.isWildcard || (p.isStar && p.names.isEmpty)) = false := by rfl) :
    PMc X (⟨.MatchSequence ps pos, none, body⟩ :: rest) (mSeq X.K n te tb tr tbody) := by
  refine ⟨fun b pins s σ H D v u I r h => ?_⟩
  obtain ⟨a, xs, rfl, hq, h⟩ := h
  cases r
  obtain ⟨its, rv, ht, hz⟩ := I.tuple hq
  refine wpAny_matchCases_cons ?_
  have hfit : (its.toArray.size : Int) < 2 ^ 63 := by
    have := rv.length
    have h2 : sizeLine = 16777216 ∨ True := .inr trivial
    have : its.toArray.size ≤ sizeLine := by rw [show its.toArray.size = its.length from by simp, ← this]; exact hz
    rw [sizeLine_eq] at this
    omega
  have hln : its.toArray.size = xs.length := by simpa using rv.length.symm
  by_cases c : xs.length = n
  · rw [decide_eq_true c, if_pos rfl] at h
    refine matchSeq_tuple_hit ht hfit (by rw [hln, c, hn]) ?_ hstar hwild
    have e : ps.length = its.toArray.size := by rw [hln, c, hn]
    rw [e]
    refine unpackItems_tuple (I.ok.hd hc) ht fun h' hx => ?_
    have I1 : Inv X pins σ H { s with heap := h', toks := s.toks + 1 + 1 } := I.kept fun b o e => hx b o (Nat.ne_of_lt (Heap.lt_size e)) e
    refine thn (hp.run pins _ σ H xs _ _ I1 (by simpa using rv) (by rw [c, hn]) h) fun r s1 hr1 => ?_
    obtain ⟨I2, hr1⟩ := hr1
    cases r with
    | none => exact hr.run false pins s1 σ H D (.ref a) _ I2 rfl hr1
    | some bs =>
      obtain ⟨ws, e1, e2, q⟩ := hr1
      have e3 : (bs.map fun (n, _) => bindName X.env n) = ns.map (bindName X.env) := by
        rw [← e1, List.map_map]
        rfl
      show wpAny _ _ (assignInOrder (bs.map fun (n, _) => bindName X.env n) (bs.map (·.2))) _ _ _
      rw [e3]
      refine thn (hb.run pins s1 σ H ws _ _ I2 e2 q) fun _ s2 hs => ?_
      obtain ⟨σ', H', I3, q3⟩ := hs
      exact hy.run pins s2 σ' H' D I3 q3
  · rw [decide_eq_false c, if_neg Bool.false_ne_true] at h
    refine matchSeq_tuple_miss ht hfit (by rw [hln, hn]; exact c) ?_ hstar hwild
    exact hr.run false pins _ σ H D (.ref a) _ (I.tok _) rfl h
def tMatch (te : TE) (tc : V → TS) : TS := fun D σ H => te σ H fun v H' => tc v D σ H'
theorem ps_match {e : Expr} {cs : List MatchCase} {pos : Pos} {te : TE} {tc : V → TS} (he : PE X e te) (hc : PMc X cs tc) : PS X (.Match e cs pos) (tMatch te tc) := by
  refine ⟨fun pins s σ H D I h => ?_⟩
  refine wpAny_Match (thn (he.run pins s σ H _ I h) fun u s1 ⟨v, H1, I1, r1, q1⟩ => ?_)
  exact hc.run true pins s1 σ H1 D v u I1 r1 q1
end
end BP

/-! Rows of deeds as lists of tuples in the heap. Own work. -/
namespace BP
open PySem L2
theorem paired_app {α β : Type} {F : α → β → Prop} : ∀ {a : List α} {b : List β} {c : List α} {d : List β}, Paired F a b → Paired F c d → Paired F (a ++ c) (b ++ d)
  | _, _, _, _, .nil, h => h
  | _, _, _, _, .cons r t, h => .cons r (paired_app t h)
theorem paired_imp {α β : Type} {F G : α → β → Prop} (h : ∀ a b, F a b → G a b) : ∀ {a : List α} {b : List β}, Paired F a b → Paired G a b
  | _, _, .nil => .nil
  | _, _, .cons r t => .cons (h _ _ r) (paired_imp h t)
theorem paired_at {α β : Type} {F : α → β → Prop} : ∀ {a : List α} {b : List β}, Paired F a b → ∀ (i : Nat) (x : α), a[i]? = some x → ∃ y, b[i]? = some y ∧ F x y
  | _, _, .nil, i, x, h => by simp at h
  | _, _, .cons r t, 0, x, h => by
    have e := Option.some.inj h
    subst e
    exact ⟨_, rfl, r⟩
  | _, _, .cons r t, i + 1, x, h => paired_at t i x h
theorem paired_length {α β : Type} {F : α → β → Prop} : ∀ {a : List α} {b : List β}, Paired F a b → a.length = b.length
  | _, _, .nil => rfl
  | _, _, .cons _ t => by rw [List.length_cons, List.length_cons, paired_length t]
instance (few y : Int) : (d : Deed) → Decidable (d.InZ few y)
  | .make h z => inferInstanceAs (Decidable ((0 ≤ h ∧ h < few) ∧ (0 ≤ z ∧ z < y)))
  | .hold h o => inferInstanceAs (Decidable ((0 ≤ h ∧ h < few) ∧ (0 ≤ o ∧ o < few)))
  | .drop h => inferInstanceAs (Decidable (0 ≤ h ∧ h < few))
  | .put h s o => inferInstanceAs (Decidable ((0 ≤ h ∧ h < few) ∧ (0 ≤ s ∧ s < y) ∧ (0 ≤ o ∧ o < few)))
  | .empty h s => inferInstanceAs (Decidable ((0 ≤ h ∧ h < few) ∧ (0 ≤ s ∧ s < y)))
  | .take h o s => inferInstanceAs (Decidable ((0 ≤ h ∧ h < few) ∧ (0 ≤ o ∧ o < few) ∧ (0 ≤ s ∧ s < y)))
  | .tidy => inferInstanceAs (Decidable True)
def Deed.mk? : Deed → Bool
  | .make _ _ => true
  | _ => false
def makes (ds : List Deed) : Nat := (ds.filter Deed.mk?).length
theorem makes_app (a b : List Deed) : makes (a ++ b) = makes a + makes b := by unfold makes; rw [List.filter_append, List.length_append]
/-- the deeds that stand at these -/
abbrev Items (H : Hp) : List V → List Deed → Prop := Paired fun x d => ∃ t, x = .ref t ∧ H t = some (.tup d.vs)
theorem Items.grow {H H' : Hp} (s : Same H H') {xs : List V} {ds : List Deed} (h : Items H xs ds) : Items H' xs ds := paired_imp (fun _ _ ⟨t, e, q⟩ => ⟨t, e, s _ _ q⟩) h
theorem Items.snoc {H : Hp} {xs : List V} {ds : List Deed} (h : Items H xs ds) {t : Addr} (d : Deed) (ht : H t = none) : Items (upd H t (.tup d.vs)) (xs ++ [.ref t]) (ds ++ [d]) :=
  paired_app (h.grow (same_upd ht)) (.cons ⟨t, rfl, upd_same⟩ .nil)
theorem Items.off {H : Hp} {xs : List V} {ds : List Deed} (h : Items H xs ds) {l : Addr} {ys : List V} (hl : H l = some (.lst ys)) (o : HO) : Items (upd H l o) xs ds :=
  paired_imp (fun _ _ ⟨t, e, q⟩ => ⟨t, e, by rw [upd_ne (ne_of q hl (by intro z; cases z))]; exact q⟩) h
theorem same_off {H0 H : Hp} {l : Addr} (s : Same H0 H) (r : H0 l = none) (o : HO) : Same H0 (upd H l o) := fun b u e => by rw [upd_ne (ne_of_none e r)]; exact s b u e
/-- a list of deeds, new since H0: m of them make a box at most, n they are at most -/
def DS (y : Int) (H0 H : Hp) (l : Addr) (m n : Nat) : Prop := Same H0 H ∧ H0 l = none ∧ ∃ xs ds, H l = some (.lst xs) ∧ Items H xs ds ∧ (∀ d, d ∈ ds → d.InZ 8 y) ∧ makes ds ≤ m ∧ ds.length ≤ n
theorem DS.more {y : Int} {H0 H : Hp} {l : Addr} {m n m' n' : Nat} (h : DS y H0 H l m n) (hm : m ≤ m') (hn : n ≤ n') : DS y H0 H l m' n' := by
  obtain ⟨s, r, xs, ds, hl, it, al, mk, ln⟩ := h
  exact ⟨s, r, xs, ds, hl, it, al, Nat.le_trans mk hm, Nat.le_trans ln hn⟩
theorem DS.grow {y : Int} {H0 H H' : Hp} {l : Addr} {m n : Nat} (h : DS y H0 H l m n) (s : Same H H') : DS y H0 H' l m n := by
  obtain ⟨s0, r, xs, ds, hl, it, al, mk, ln⟩ := h
  exact ⟨s0.trans s, r, xs, ds, s _ _ hl, it.grow s, al, mk, ln⟩
theorem DS.new {y : Int} {H0 H : Hp} {l : Addr} {xs : List V} {ds : List Deed} (s : Same H0 H) (hl : H l = none) (it : Items H xs ds) (al : ∀ d, d ∈ ds → d.InZ 8 y) : DS y H0 (upd H l (.lst xs)) l (makes ds) ds.length :=
  ⟨s.trans (same_upd hl), s.free hl, xs, ds, upd_same, it.grow (same_upd hl), al, Nat.le_refl _, Nat.le_refl _⟩
theorem all_app {P : Deed → Prop} {a b : List Deed} (ha : ∀ d, d ∈ a → P d) (hb : ∀ d, d ∈ b → P d) : ∀ d, d ∈ a ++ b → P d := fun d h => (List.mem_append.mp h).elim (ha d) (hb d)
theorem DS.cat {y : Int} {H0 H : Hp} {l p : Addr} {m n : Nat} {xs ys : List V} {es : List Deed} (h : DS y H0 H l m n) (hl : H l = some (.lst xs)) (hy : Items H ys es) (ae : ∀ d, d ∈ es → d.InZ 8 y) (hp : H p = none) : DS y H0 (upd H p (.lst (xs ++ ys))) p (m + makes es) (n + es.length) := by
  obtain ⟨s, r, xs', ds, hl', it, al, mk, ln⟩ := h
  have e : xs' = xs := by rw [hl] at hl'; injection hl' with q; injection q with q; exact q.symm
  subst e
  refine (DS.new s hp (paired_app it hy) (all_app al ae)).more ?_ ?_
  · rw [makes_app]; omega
  · rw [List.length_append]; omega
theorem DS.push {y : Int} {H0 H : Hp} {l t : Addr} {m n : Nat} {xs : List V} (d : Deed) (h : DS y H0 H l m n) (hl : H l = some (.lst xs)) (ht : H t = some (.tup d.vs)) (ad : d.InZ 8 y) : DS y H0 (upd H l (.lst (xs ++ [.ref t]))) l (m + makes [d]) (n + 1) := by
  obtain ⟨s, r, xs', ds, hl', it, al, mk, ln⟩ := h
  have e : xs' = xs := by rw [hl] at hl'; injection hl' with q; injection q with q; exact q.symm
  subst e
  have nt : t ≠ l := ne_of ht hl (by intro z; cases z)
  refine ⟨same_off s r _, r, _, ds ++ [d], upd_same, paired_app (it.off hl _) (.cons ⟨t, rfl, by rw [upd_ne nt]; exact ht⟩ .nil), all_app al (fun e he => by rw [List.mem_singleton.mp he]; exact ad), ?_, ?_⟩
  · rw [makes_app]; omega
  · rw [List.length_append, List.length_singleton]; omega
theorem DS.list {y : Int} {H0 H : Hp} {l : Addr} {m n : Nat} (h : DS y H0 H l m n) : ∃ xs, H l = some (.lst xs) ∧ xs.length ≤ n := by
  obtain ⟨s, r, xs, ds, hl, it, al, mk, ln⟩ := h
  exact ⟨xs, hl, by rw [paired_length it]; exact ln⟩
theorem DS.from {y : Int} {H0 H1 H : Hp} {l : Addr} {m n : Nat} (h : DS y H1 H l m n) (s : Same H0 H1) : DS y H0 H l m n := by
  obtain ⟨s0, r, x⟩ := h
  exact ⟨s.trans s0, s.free r, x⟩
theorem rgC2 : ∀ k : Nat, k < 62 → Builtin.Range.small 1 ((k : Int) - 1) 2 = true ∧ Builtin.Range.rangeSize 1 ((k : Int) - 1) 2 = (((k - 1) / 2 : Nat) : Int) := by decide +kernel
/-- min(n, c) as a number of turns -/
theorem min_c (n c : Nat) : ∃ kk : Nat, (kk : Int) = (if (c : Int) < (n : Int) then (c : Int) else (n : Int)) ∧ kk ≤ c ∧ kk ≤ n := by
  by_cases h : (c : Int) < (n : Int)
  · exact ⟨c, by rw [if_pos h], Nat.le_refl _, by omega⟩
  · exact ⟨n, by rw [if_neg h], by omega, Nat.le_refl _⟩
/-- what is new in the heap is known, and all tuples -/
def newT (R H H' : Hp) : Hp := fun b => match H' b with
  | some (.tup xs) => some (.tup xs)
  | _ => newK R H H' b
theorem newT_tup {R H H' : Hp} {b : Addr} {xs : List V} (h : H' b = some (.tup xs)) : newT R H H' b = some (.tup xs) := by unfold newT; rw [h]
theorem newT_oth {R H H' : Hp} {b : Addr} (h : ∀ xs, H' b ≠ some (.tup xs)) : newT R H H' b = newK R H H' b := by
  unfold newT
  split
  · rename_i xs q
    exact absurd q (h xs)
  · rfl
theorem same_newT {R H H' : Hp} (s : Same R H) (s' : Same H H') : Same R (newT R H H') := fun b o e => by
  have h := s' b o (s b o e)
  by_cases q : ∃ xs, o = .tup xs
  · obtain ⟨xs, rfl⟩ := q
    exact newT_tup h
  · rw [newT_oth (fun xs z => q ⟨xs, by rw [h] at z; exact Option.some.inj z⟩)]
    exact same_newK s b o e
theorem PileAt.freshT {C B p : Addr} {g : Geo} {P : Pl} {R H H' : Hp} (A : PileAt C B p g P R H) (s : Same H H') : PileAt C B p g P (newT R H H') H' := by
  have A1 := A.fresh s
  have no : ∀ {b : Addr} {o : HO}, H' b = some o → (∀ xs, o ≠ .tup xs) → ∀ xs, H' b ≠ some (.tup xs) := fun h n xs z => n xs (by rw [h] at z; exact Option.some.inj z)
  refine ⟨fun b o e => ?_, (newT_oth (no A1.hp (fun _ z => by cases z))).trans A1.rp, (newT_oth (no A1.hh (fun _ z => by cases z))).trans A1.rh, (newT_oth (no A1.hd (fun _ z => by cases z))).trans A1.rd,
    fun n b e => (newT_oth (no (A1.hb n b e) (fun _ z => by cases z))).trans (A1.rb n b e), fun n b e => (newT_oth (no (A1.hs n b e) (fun _ z => by cases z))).trans (A1.rs n b e), A1.hp, A1.hh, A1.hd, A1.hb, A1.hs, A1.ib, A1.is, A1.hn⟩
  by_cases q : ∃ xs, H' b = some (.tup xs)
  · obtain ⟨xs, h⟩ := q
    rw [newT_tup h] at e
    rw [h]
    exact e
  · rw [newT_oth (fun xs z => q ⟨xs, z⟩)] at e
    exact A1.same b o e
theorem nil_in {y : Int} : ∀ d, d ∈ ([] : List Deed) → d.InZ 8 y := fun d h => (by cases h)
theorem cons_in {y : Int} {d : Deed} {ds : List Deed} (h : d.InZ 8 y) (hs : ∀ d, d ∈ ds → d.InZ 8 y) : ∀ e, e ∈ d :: ds → e.InZ 8 y := fun e he => (List.mem_cons.mp he).elim (fun z => z ▸ h) (hs e)
end BP

namespace BP
open PySem L2
def top (i : Nat) : Stmt := PySem.Challenge.pw_boxpile_k05_deeds_written.main.body.getD i (.Pass ⟨0, 0, 0, 0⟩)
/-- an error class of the text -/
structure Err (K : PySem.W.Frag) (mg : Str → Option Value) (x : Str) (E : Addr) : Prop where
  g : mg x = some (.ref E)
  x : PySem.W.excIn K E [.type "ValueError", .type "Exception", .type "BaseException", .type "object"] "ValueError.__new__" = true
  k : PySem.W.keepIn K (.ref E) = true
  b : PySem.W.subIn K (.ref E) (.type "BaseException") = some true
  t : PySem.W.typeIn K (.ref E) = some (.type "type")
def tMid (t : TS) : TS := fun D σ H => ∃ M : St → Hp → Prop, t { D with nx := M } σ H ∧ ∀ σ' H', M σ' H' → D.nx σ' H'
theorem ps_mid {X : Cx} {st : Stmt} {t : TS} (h : PS X st t) : PS X st (tMid t) := by
  refine ⟨fun pins s σ H D I q => ?_⟩
  obtain ⟨M, q1, q2⟩ := q
  refine wpAny_mono (h.run pins s σ H { D with nx := M } I q1) (fun f s1 z => ?_) fun _ _ z => z
  cases f with
  | next =>
    obtain ⟨σ', H', I', m⟩ := z
    exact ⟨σ', H', I', q2 σ' H' m⟩
  | ret v => exact z
  | brk => exact z
  | cont => exact z
/-- a test read in two steps -/
def tMidT (t : TT) : TT := fun σ H Q => ∃ M : Bool → Hp → Prop, t σ H M ∧ ∀ b H', M b H' → Q b H'
theorem pt_mid {X : Cx} {e : Expr} {t : TT} (h : PT X e t) : PT X e (tMidT t) := by
  refine ⟨fun pins s σ H Q I q => ?_⟩
  obtain ⟨M, q1, q2⟩ := q
  refine wpAny_mono (h.run pins s σ H M I q1) (fun b s1 z => ?_) fun _ _ z => z
  obtain ⟨H', I', m⟩ := z
  exact ⟨H', I', q2 b H' m⟩
theorem if_pos_of {c : Bool} {A B : Prop} (hc : c = true) (h : A) : if c = true then A else B := by
  rw [if_pos hc]
  exact h
theorem if_neg_of {c : Bool} {A B : Prop} (hc : c = false) (h : B) : if c = true then A else B := by
  rw [hc, if_neg Bool.false_ne_true]
  exact h
abbrev sRead : Stmt := top 13
abbrev sReadNumber : Stmt := top 14
abbrev sShown : Stmt := top 12
abbrev nRead : List Str := ["line", "parts", "word", "part"]
abbrev nReadNumber : List Str := ["part"]
/-- what the top has made for the notes -/
structure TxtN (K : PySem.W.Frag) (w : World) (mg : Str → Option Value) (eD dW : Addr) : Prop where
  eD : Err K mg "NoDeed" eD
  len : mg "len" = none
  all : mg "all" = none
  int : mg "int" = none
  tuple : mg "tuple" = none
  str : mg "str" = none
  figs : ∃ t, mg "FIGURES" = some (.str "0123456789" t)
  most : ∃ t, mg "MOST_FIGURES" = some (.int 60 t)
  gW : mg "WORDS" = some (.ref dW)
  kd : ∃ es n, KDict K w dW es n
  look : ∀ z : Str, ∃ r, PySem.W.nsIn K dW z = some r ∧ RelV ((manyOf z).elim V.non fun n => V.int n) (r.getD .none)
def spReadNumber (Pt eD : Addr) : Sp := fun vs H Q E => ∃ p : Str, vs = [.str p] ∧ p.length ≤ 1000000 ∧ GxR.TabG H Pt ∧ ∀ H', GxR.Tabbed Pt H H' → (okN p.cps.toList = true → Q (.int (NumText.digitsVal p.cps.toList : Nat)) H') ∧ (okN p.cps.toList = false → E (.ref eD) none H')
def spRead (Pt eD : Addr) : Sp := fun vs H Q E => ∃ z : Str, vs = [.str z] ∧ z.length ≤ 1000000 ∧ GxR.TabG H Pt ∧ ∀ H', Past Pt H H' →
  (∀ u ns, readP (Txt.split z " ") = some (u, ns) → ∀ t, H t = none → H' t = some (.tup (.str u :: ns.map fun n => V.int (n : Nat))) → Q (.ref t) H') ∧ (readP (Txt.split z " ") = none → E (.ref eD) none H')
section
variable {P : Program} {w : World} {K : PySem.W.Frag} {mg : Str → Option Value} {base : Heap} {eD dW : Addr}
theorem scReadNumber : FnScope nReadNumber ["part"] (defScope sReadNumber) := ⟨rfl, rfl, rfl, by decide +kernel, rfl, by decide +kernel, by decide +kernel⟩
theorem figs_digits : ∀ c : Nat, c ∈ ("0123456789" : Str).cps.toList ↔ (48 ≤ c ∧ c ≤ 57) := by
  intro c
  have e : ("0123456789" : Str).cps.toList = [48, 49, 50, 51, 52, 53, 54, 55, 56, 57] := by decide +kernel
  rw [e]
  simp only [List.mem_cons, List.not_mem_nil, or_false]
  omega
theorem str_len (p : Str) : p.length = p.cps.toList.length := by rw [Array.length_toList]; rfl
theorem str_ext {a b : Str} (h : a.cps.toList = b.cps.toList) : a = b := Str.ext' (Array.toList_inj.mp h)
theorem gen_free {env : Env} : ∀ {y : Str × NameKind}, y ∈ [((".0" : Str), NameKind.local), (("sign" : Str), NameKind.local), (("FIGURES" : Str), NameKind.globalImplicit)] → y.2 = .free → ∃ c, env.cells.lookup y.1 = some c := by
  intro y hy e
  rcases List.mem_cons.mp hy with rfl | hy
  · cases e
  rcases List.mem_cons.mp hy with rfl | hy
  · cases e
  rcases List.mem_cons.mp hy with rfl | hy
  · cases e
  · cases hy
theorem ok_readnumber {f c Pt : Addr} {fd : FuncData} (F : Fun K "read_number" "read_number" sReadNumber f fd) (hc : fd.code = .ref c) (TN : TxtN K w mg eD dW) (TB : GxR.TabB base mg c Pt) : FnOk P w K mg base (L2.CX P w) 1 f fd ["part"] (spReadNumber Pt eD) := by
  refine okXC F scReadNumber hc (fun vs H Q E h => ?_) (fun A outer s H vs Q E hr h => ?_)
  · obtain ⟨p, rfl, _⟩ := h
    rfl
  · obtain ⟨p, rfl, hp, hT, k⟩ := h
    obtain ⟨t60, h60⟩ := TN.most
    obtain ⟨tF, hF⟩ := TN.figs
    refine ⟨_, pss_cons (ps_if (PW.pt (pw_or (pt_not (pt_chain op_le op_le pe_int (pe_callB call_len_str (by rfl) TN.len PySem.boot_len (pa_cons (pv 0) pa_nil)) (pe_glob (v := .int 60) rfl h60 ⟨_, rfl⟩)))
        (pw_or1 (pt_not (pt_val (pe_allG hr (by rfl) TN.all (by decide +kernel) TB rfl ⟨rfl, rfl, by decide +kernel, by decide +kernel, by decide +kernel, fun y hy e => gen_free hy e⟩ (pv 0) (elt_in (by rfl) (by decide +kernel) (by decide +kernel) hF) (fun _ => rfl)))))))
        (pss_one (ps_raise rfl (takes_of rfl rfl rfl rfl) (pmk_own PySem.F.excBase_ValueError TN.eD.x TN.eD.g TN.eD.k (raises_own TN.eD.b TN.eD.t) rfl))) pss_nil)
      (pss_cons (ps_if (PW.pt (pw_and (pt_cmpR op_eq (pe_ix ix_str (pv 0) pe_int (fun _ _ => rfl)) pe_str (nomark _)) (pw_and1 (pt_cmpR op_ne (pv 0) pe_str (nomark _)))))
        (pss_one (ps_raise rfl (takes_of rfl rfl rfl rfl) (pmk_own PySem.F.excBase_ValueError TN.eD.x TN.eD.g TN.eD.k (raises_own TN.eD.b TN.eD.t) rfl))) pss_nil)
      (pss_one (ps_ret (pe_callTy call_int_str (by rfl) TN.int (by decide +kernel) (pa_cons (pv 0) pa_nil))))), ?_⟩
    have e32 := str_len p
    refine ⟨_, rfl, _, rfl, (by rw [sizeLine_eq]; omega), _, _, rfl, rfl, _, rfl, ?_⟩
    by_cases h1 : (1 : Int) ≤ (p.length : Int)
    case neg =>
      rw [decide_eq_false h1]
      refine iteF ⟨_, rfl, ?_⟩
      refine iteT (iteT ?_)
      refine (k H (tabbed_refl hT)).2 ?_
      unfold okN
      rw [decide_eq_false (by rw [← e32]; omega)]
      rfl
    rw [decide_eq_true h1]
    refine iteT ⟨_, _, rfl, rfl, _, rfl, ?_⟩
    by_cases h2 : (p.length : Int) ≤ 60
    case neg =>
      rw [decide_eq_false h2]
      refine iteT (iteT ?_)
      refine (k H (tabbed_refl hT)).2 ?_
      unfold okN
      rw [decide_eq_false (by rw [← e32]; omega)]
      rfl
    rw [decide_eq_true h2]
    refine iteF ?_
    refine ⟨_, rfl, p, rfl, hT, fun H' T' => ⟨_, rfl, ?_⟩⟩
    obtain ⟨k1, k2⟩ := k H' T'
    have ea : (p.cps.toList.all fun c => decide (c ∈ ("0123456789" : Str).cps.toList)) = p.cps.toList.all fun c => decide (48 ≤ c ∧ c ≤ 57) := by
      exact List.all_congr rfl fun c => decide_eq_decide.mpr (figs_digits c)
    rw [ea]
    have hlen : decide (1 ≤ p.cps.toList.length ∧ p.cps.toList.length ≤ 60) = true := decide_eq_true (by rw [← e32]; omega)
    by_cases h3 : (p.cps.toList.all fun c => decide (48 ≤ c ∧ c ≤ 57)) = true
    case neg =>
      rw [Bool.not_eq_true] at h3
      rw [h3]
      refine iteT ?_
      refine k2 ?_
      unfold okN
      rw [hlen, h3]
      rfl
    rw [h3]
    refine iteF ?_
    obtain ⟨c0, cs, ec⟩ : ∃ c0 cs, p.cps.toList = c0 :: cs := by
      cases e : p.cps.toList with
      | nil => rw [e] at hlen; exact absurd (of_decide_eq_true hlen).1 (by decide)
      | cons c cs => exact ⟨c, cs, rfl⟩
    have dig : NumText.AllDigits p.cps.toList := fun c hc => of_decide_eq_true (List.all_eq_true.mp h3 c hc)
    have fin : okN p.cps.toList = true → Q (.int (NumText.digitsVal p.cps.toList : Nat)) H' := k1
    have it : intText? p = some ((NumText.digitsVal p.cps.toList : Nat) : Int) := intText_digits dig (by rw [ec]; simp) (by omega)
    refine ⟨_, rfl, p, 0, c0, rfl, rfl, (by rw [sizeLine_eq]; omega), atI_nat (xs := p.cps.toList) (j := 0) (show p.cps.toList[0]? = some c0 by rw [ec]; rfl), rfl, _, rfl, ?_⟩
    by_cases h4 : c0 = 48
    case neg =>
      refine if_neg_of (decide_eq_false (fun z => h4 ?_)) ?_
      · injection z with z
        have := congrArg (fun x : Str => x.cps.toList) z
        have e48 : ("0" : Str).cps.toList = [48] := by decide +kernel
        rw [e48] at this
        injection this
      refine iteF ?_
      refine ⟨_, rfl, p, _, rfl, it, by omega, fin ?_⟩
      unfold okN
      rw [hlen, h3, ec]
      simp [h4]
    subst h4
    refine if_pos_of (decide_eq_true (congrArg V.str (by decide +kernel))) ?_
    refine ⟨_, rfl, rfl, _, rfl, ?_⟩
    have e48 : ("0" : Str).cps.toList = [48] := by decide +kernel
    by_cases h5 : p.cps.toList = [48]
    · have ep : p = "0" := str_ext (h5.trans e48.symm)
      refine if_neg_of (by rw [decide_eq_true (congrArg V.str ep)]; rfl) ?_
      refine ⟨_, rfl, p, _, rfl, it, by omega, fin ?_⟩
      rw [h5]
      decide
    · have ne0 : V.str p ≠ V.str "0" := fun z => h5 (by injection z with z; rw [z, e48])
      refine if_pos_of (by rw [decide_eq_false ne0]; rfl) ?_
      refine k2 ?_
      unfold okN
      rw [hlen, h3, ec]
      rw [ec] at h5
      simp [h5]
theorem takeS {α : Type} {l : List α} {i : Nat} {x : α} (h : l[i]? = some x) : l.take (i + 1) = l.take i ++ [x] := by
  rw [List.take_add_one, h]
  rfl
theorem scRead : FnScope nRead ["line"] (defScope sRead) := ⟨rfl, rfl, rfl, by decide +kernel, rfl, by decide +kernel, by decide +kernel⟩
theorem len_glue : ∀ ps : List (List Nat), ps.length ≤ (glue ps).length + 1 ∧ ∀ p ∈ ps, p.length ≤ (glue ps).length
  | [] => ⟨by decide, fun p h => by cases h⟩
  | [p] => ⟨by show 1 ≤ _; omega, fun q h => by rw [List.mem_singleton.mp h]; exact Nat.le_refl _⟩
  | p :: q :: ps => by
    obtain ⟨h1, h2⟩ := len_glue (q :: ps)
    have e : (glue (p :: q :: ps)).length = p.length + ((glue (q :: ps)).length + 1) := by
      show (p ++ 32 :: glue (q :: ps)).length = _
      rw [List.length_append, List.length_cons]
    refine ⟨by rw [e, List.length_cons]; omega, fun r hr => ?_⟩
    rw [e]
    rcases List.mem_cons.mp hr with rfl | hr
    · omega
    · have := h2 r hr
      omega
theorem glue_split (z : Str) : glue ((Txt.split z " ").map fun y => y.cps.toList) = z.cps.toList := by
  have h1 := StrLaws.join_split z ⟨#[32]⟩
  have h2 := join_glue (Txt.split z ⟨#[32]⟩)
  rw [h1] at h2
  rw [sp1]
  exact h2.symm
theorem split_small (z : Str) : (Txt.split z " ").length ≤ z.length + 1 ∧ ∀ p ∈ Txt.split z " ", p.length ≤ z.length := by
  obtain ⟨h1, h2⟩ := len_glue ((Txt.split z " ").map fun y => y.cps.toList)
  rw [glue_split, List.length_map, ← str_len] at h1
  refine ⟨h1, fun p hp => ?_⟩
  have := h2 _ (List.mem_map.mpr ⟨p, hp, rfl⟩)
  rw [glue_split, ← str_len] at this
  rw [str_len p]
  exact this
theorem ok_read {f fN Pt : Addr} {fd dN : FuncData} (F : Fun K "read" "read" sRead f fd) (TN : TxtN K w mg eD dW) (GN : FnOk P w K mg base (L2.CX P w) 1 fN dN ["part"] (spReadNumber Pt eD)) (FN : Fun K "read_number" "read_number" sReadNumber fN dN)
    (bN : Binds K dN ["part"] []) (gN : mg "read_number" = some (.ref fN)) : FnOk P w K mg base (L2.CX P w) 2 f fd ["line"] (spRead Pt eD) := by
  refine F.okX scRead (fun vs H Q E h => ?_) (fun cdv A outer s H vs Q E hr h => ?_)
  · obtain ⟨z, rfl, _⟩ := h
    rfl
  · obtain ⟨z, rfl, hz, hT, k⟩ := h
    have nd := scRead.nd
    obtain ⟨es, n0, D⟩ := TN.kd
    refine ⟨_, pss_cons (ps_set (i := 1) nd rfl (Or.inl rfl) (pe_split (pv 0) pe_str))
      (pss_cons (ps_set (i := 2) nd rfl (Or.inl rfl) (pe_ix ix_list (pv 1) pe_int (fun _ _ => rfl)))
      (pss_cons (ps_if (pt_cmpR op_ne (pe_kget D (pe_glob (v := .ref dW) rfl TN.gW rfl) (pv 2) ⟨rfl, rfl, rfl, rfl⟩) (pe_op op_sub (pe_callB call_len_seq (by rfl) TN.len PySem.boot_len (pa_cons (pv 1) pa_nil)) pe_int) (nomark _))
        (pss_one (ps_raise rfl (takes_of rfl rfl rfl rfl) (pmk_own PySem.F.excBase_ValueError TN.eD.x TN.eD.g TN.eD.k (raises_own TN.eD.b TN.eD.t) rfl))) pss_nil)
      (pss_one (ps_ret (pe_callTy call_tuple_of (by rfl) TN.tuple (by decide +kernel) (pa_cons (pe_op op_cat (pe_lst (pa_cons (pv 2) pa_nil))
        (pe_lcX (E := E) (own := [("part", 3)]) (g := gName 3) (tt := tYes) (te := tCall (spReadNumber Pt eD) [] E (tCons (tVar 3) tNil)) rfl rfl (takes_of rfl rfl rfl rfl) (by rfl) nd (pi_list (pe_slice sl_list (pv 1) (po_some pe_int) po_none))
          (blkOk_by (N := nRead) (sc := defScope sRead) (by decide +kernel)) (fun _ _ _ _ _ => pg_name (i := 3) nd rfl (Or.inl rfl)) (fun _ _ _ _ _ => pts_nil)
          (fun _ _ _ _ _ pn xe px => pe_call GN hr (by rfl) gN FN.kp bN .nil px (pa_cons (pv 3) pa_nil)))) pa_nil)))))), ?_⟩
    obtain ⟨sm1, sm2⟩ := split_small z
    refine ⟨_, rfl, ⟨_, rfl⟩, z, _, rfl, rfl, (by decide +kernel), (by rw [sizeLine_eq]; omega), fun a ha => ?_⟩
    have P1 := (Past.refl hT).new ha (.lst ((Txt.split z " ").map V.str))
    have ka : upd H a (.lst ((Txt.split z " ").map V.str)) a = some (.lst ((Txt.split z " ").map V.str)) := upd_same
    have hsp := PyProof.Rows.split_pos z " "
    generalize upd H a (.lst ((Txt.split z " ").map V.str)) = H1 at P1 ka ⊢
    have k' : ∀ H', Past Pt H H' → (∀ u ns, readP (Txt.split z " ") = some (u, ns) → ∀ t, H t = none → H' t = some (.tup (.str u :: ns.map fun n => V.int (n : Nat))) → Q (.ref t) H') ∧ (readP (Txt.split z " ") = none → E (.ref eD) none H') := k
    generalize Txt.split z " " = ps at ka sm1 sm2 hsp k'
    obtain ⟨u, us, rfl⟩ : ∃ u us, ps = u :: us := by
      cases ps with
      | nil => exact absurd hsp (by decide)
      | cons u us => exact ⟨u, us, rfl⟩
    rw [List.length_cons] at sm1
    refine ⟨_, rfl, a, _, _, _, rfl, rfl, SqL.of ka, at_of (j := 0) rfl rfl, ?_⟩
    obtain ⟨r, hr1, hr2⟩ := TN.look u
    refine ⟨rfl, _, rfl, u, r, _, rfl, hr1, hr2, ?_⟩
    refine ⟨_, rfl, a, _, rfl, .inl (SqL.of ka), _, _, rfl, rfl, (by cases manyOf u <;> rfl), _, rfl, ?_⟩
    have eqv : ((manyOf u).elim V.non fun n => V.int (n : Nat)) = V.int ((((u :: us).map V.str).length : Int) - 1) ↔ manyOf u = some us.length := by
      rw [List.length_map, List.length_cons]
      constructor
      · intro zz
        cases em : manyOf u with
        | none => rw [em] at zz; cases zz
        | some n =>
          rw [em] at zz
          injection zz with zz
          congr 1
          omega
      · intro em
        rw [em]
        show V.int _ = V.int _
        congr 1
        omega
    by_cases hm : manyOf u = some us.length
    case neg =>
      refine if_pos_of (by rw [decide_eq_false fun zz => hm (eqv.mp zz)]; rfl) ?_
      exact (k' H1 P1).2 (if_neg fun zz => hm zz.1)
    refine if_neg_of (by rw [decide_eq_true (eqv.mpr hm)]; rfl) ?_
    refine ⟨_, rfl, (by show 1 ≤ sizeLine; decide), fun l hl => ?_⟩
    have P2 := P1.new hl (.lst [V.str u])
    have nla : a ≠ l := ne_of_none ka hl
    have ka2 : upd H1 l (.lst [V.str u]) a = some (.lst ((u :: us).map V.str)) := by rw [upd_ne nla]; exact ka
    have kl2 : upd H1 l (.lst [V.str u]) l = some (.lst [V.str u]) := upd_same
    have nl : H l = none := P1.gone hT hl
    generalize upd H1 l (.lst [V.str u]) = H2 at P2 ka2 kl2 ⊢
    refine ⟨_, rfl, _, rfl, a, _, rfl, SqL.of ka2, fun c hc => ?_⟩
    rw [show cutV ((u :: us).map V.str) (some 1) none = us.map V.str from by
      unfold cutV
      rw [HT.sIx_none, show HT.sIx ((u :: us).map V.str).length 0 (some 1) = 1 from by
        rw [show (some (1 : Int)) = some ((1 : Nat) : Int) from rfl, HT.sIx_nat, List.length_map, List.length_cons]
        omega]
      rw [List.map_cons, List.drop_succ_cons, List.drop_zero, List.take_of_length_le (by rw [List.length_cons]; omega)]]
    have P3 := P2.new hc (.lst (us.map V.str))
    have kc3 : upd H2 c (.lst (us.map V.str)) c = some (.lst (us.map V.str)) := upd_same
    have kl3 : upd H2 c (.lst (us.map V.str)) l = some (.lst [V.str u]) := by rw [upd_ne (ne_of_none kl2 hc)]; exact kl2
    have nc : H c = none := P2.gone hT hc
    generalize upd H2 c (.lst (us.map V.str)) = H3 at P3 kc3 kl3 ⊢
    have ncl : c ≠ Pt := tab_ne hT nc
    have nll : l ≠ Pt := tab_ne hT nl
    refine ⟨c, rfl, ⟨_, SqL.of kc3⟩, fun D hD => ?_⟩
    have nD : H D = none := P3.gone hT hD
    have nDP : D ≠ Pt := tab_ne hT nD
    have nDc : c ≠ D := ne_of_none kc3 hD
    have nDl : l ≠ D := ne_of_none kl3 hD
    refine lc_it walk_list (fun j H' => Past Pt H H' ∧ H' c = some (.lst (us.map V.str)) ∧ H' l = some (.lst [V.str u]) ∧ H' D = some (.lst ((us.take j).map fun p => V.int (NumText.digitsVal p.cps.toList : Nat))) ∧ ∀ p ∈ us.take j, okN p.cps.toList = true)
      ⟨P3.new hD _, by rw [upd_ne nDc]; exact kc3, by rw [upd_ne nDl]; exact kl3, upd_same, fun p hp => by cases hp⟩ (fun j H' _ ⟨_, h, _⟩ => SqL.of h) ?_ ?_
    · rintro j y H4 H5 hj ⟨P4, kc4, kl4, kD4, al4⟩ ⟨rfl, hy⟩
      obtain ⟨p, hp, rfl⟩ : ∃ p, us[j]? = some p ∧ y = V.str p := by
        rw [List.getElem?_map] at hy
        cases e : us[j]? with
        | none => rw [e] at hy; cases hy
        | some p => rw [e] at hy; exact ⟨p, rfl, (Option.some.inj hy).symm⟩
      have hpm := List.mem_of_getElem? hp
      have hju : j < us.length := (List.getElem?_eq_some_iff.mp hp).1
      refine ⟨rfl, _, rfl, p, rfl, (by have := sm2 p (List.mem_cons_of_mem _ hpm); omega), P4.1, fun H6 T6 => ⟨fun okp => ?_, fun nok => ?_⟩⟩
      · have P6 := P4.tab T6
        refine ⟨_, (T6.2 D nDP).trans kD4, (by rw [List.length_map, List.length_take, sizeLine_eq]; omega), P6.set hT nD _, by rw [upd_ne nDc]; exact (T6.2 c ncl).trans kc4, by rw [upd_ne nDl]; exact (T6.2 l nll).trans kl4, ?_, ?_⟩
        · rw [upd_same, takeS hp, List.map_append]
          rfl
        · rw [takeS hp]
          intro q hq
          rcases List.mem_append.mp hq with hq | hq
          · exact al4 q hq
          · rw [List.mem_singleton.mp hq]; exact okp
      · refine (k' H6 (P4.tab T6)).2 (if_neg fun zz => ?_)
        have := zz.2 p hpm
        rw [nok] at this
        cases this
    rintro H4 ⟨P4, kc4, kl4, kD4, al4⟩
    rw [List.length_map, List.take_length] at kD4 al4
    have hread : readP (u :: us) = some (u, us.map fun p => NumText.digitsVal p.cps.toList) := if_pos ⟨hm, al4⟩
    refine ⟨l, D, _, _, rfl, rfl, kl4, kD4, (by rw [List.length_map, sizeLine_eq]; show 1 + us.length ≤ _; omega), fun q hq => ?_⟩
    have P5 := P4.new hq (.lst ([V.str u] ++ us.map fun p => V.int (NumText.digitsVal p.cps.toList : Nat)))
    refine ⟨q, _, rfl, .inl ⟨SqL.of upd_same, fun t ht => ?_⟩⟩
    refine (k' _ (P5.new ht _)).1 u _ hread t (P5.gone hT ht) ?_
    rw [upd_same, List.map_map]
    rfl
end
end BP

/-! Several except clauses, each with a name or without one; isinstance of what is caught, whatever its class. Own work. -/
namespace BP
open PySem PySem.Spec PyProof.Rows L2
/-- what is wished of an error within a try, whatever the slots -/
abbrev EWx (W : WX) : XK := fun cls d H => ∀ σ, W cls d σ H
abbrev Suite := Addr → Value → Option Addr → TS
/-- the ends of a suite whose name at slot i is let go behind it -/
def endsAs (D : Ends) (i : Nat) : Ends := { nx := fun σ H => D.nx (σ.set i none) H, rt := D.rt, bk := fun σ H => D.bk (σ.set i none) H, ct := fun σ H => D.ct (σ.set i none) H }
/-- what the clauses wish of an error of the body, one behind the other -/
def wMix (K : PySem.W.Frag) (Wout : WX) (D : Ends) : List (Value × Option Nat × Suite) → WX
  | [] => Wout
  | (c, none, ts) :: r => fun cls d σ H => ∃ b, PySem.W.exmOne K cls c = some b ∧ (b = true → ∀ a, H a = none → ts a cls d D σ H) ∧ (b = false → wMix K Wout D r cls d σ H)
  | (c, some i, ts) :: r => fun cls d σ H => ∃ b, PySem.W.exmOne K cls c = some b ∧ (b = true → ∀ a, H a = none → ts a cls d (endsAs D i) (σ.set i (some (.ref a))) H) ∧ (b = false → wMix K Wout D r cls d σ H)
inductive HdsM (X : Cx) : List ExceptHandler → List (Value × Option Nat × Suite) → Prop
  | nil : HdsM X [] []
  | bare {x : Str} {c : Value} {ts : Suite} {b0 : Stmt} {su : List Stmt} {p q : Pos} {hs : List ExceptHandler} {l : List (Value × Option Nat × Suite)} (hc : Names X x c)
      (hsu : ∀ (a : Addr) (oe : Obj) (cls : Value) (d : Option Addr) (pn : List (Addr × Obj)), Zc cls d oe → (∃ vs, oe.data = .fields vs) → PSs (X.suite a ((a, oe) :: pn)) (b0 :: su) (ts a cls d)) (r : HdsM X hs l) :
      HdsM X (.ExceptHandler (some (.Name x p)) none (b0 :: su) q :: hs) ((c, none, ts) :: l)
  | named {x n : Str} {i : Nat} {c : Value} {ts : Suite} {b0 : Stmt} {su : List Stmt} {p q : Pos} {hs : List ExceptHandler} {l : List (Value × Option Nat × Suite)} (hN : X.N.Nodup) (hi : X.N[i]? = some n) (hl : X.env.kindOf n = some .local) (hc : Names X x c)
      (hsu : ∀ (a : Addr) (oe : Obj) (cls : Value) (d : Option Addr) (pn : List (Addr × Obj)), Zc cls d oe → (∃ vs, oe.data = .fields vs) → PSs (X.suite a ((a, oe) :: pn)) (b0 :: su) (ts a cls d)) (r : HdsM X hs l) :
      HdsM X (.ExceptHandler (some (.Name x p)) (some n) (b0 :: su) q :: hs) ((c, some i, ts) :: l)
section
variable {X : Cx}
theorem ps_try_mix {body : List Stmt} {h0 : ExceptHandler} {hds : List ExceptHandler} {l : List (Value × Option Nat × Suite)} {pos : Pos} {tb : WX → TS} {Wout : WX} (hs : X.stack = X.env :: X.outer) (hf : X.env.frame = some X.env.locals) (tk : Takes X Wout)
    (hb : ∀ (W : WX) (pn : List (Addr × Obj)) (xe : Value → Shared → Prop), Takes (X.tr pn xe) W → PassesOwn (model X.prog X.w) X.A X.env xe → PSs (X.tr pn xe) body (tb W)) (hh : HdsM X (h0 :: hds) l) :
    PS X (.Try body (h0 :: hds) [] [] pos) (fun D σ H => tb (wMix X.K Wout D l) D σ H) := by
  refine ⟨fun pins s σ H D I hw => ?_⟩
  have ok := I.ok
  have frm : X.A.frames = some (X.env :: X.outer) := by rw [ok.frames, hs]
  refine wpAny_Try_except ?_
  let xe0 : Value → Shared → Prop := fun e s₁ => wpAny (model X.prog X.w) X.A (noteFrame e X.env) (fun _ s₂ => wpAny (model X.prog X.w) X.A (setFlight e none) (fun _ s₃ => wpAny (model X.prog X.w) X.A (handleBy e X.env (h0 :: hds)) (SP X pins D) X.xe s₃) X.xe s₂) X.xe s₁
  have catch_ : Takes (X.tr (X.pn ++ pins) xe0) (wMix X.K Wout D l) := by
    rintro u t ⟨a, B, sI, pins', σ', H', cls, d, rfl, J', nb, up, sky, na, os, ag, w⟩
    have J : Inv X pins σ' H' sI := J'.ofTry ok
    have sky' : Sky B (X.env :: X.outer) a (Zc cls d) X.env.locals t.heap := by rw [← hs]; exact sky
    show wpAny (model X.prog X.w) X.A (noteFrame (.ref a) X.env) _ _ _
    refine Sky.land Zc.steady frm hf sky' fun h3 fl3 up3 => ?_
    have J3 : Inv X pins σ' H' { t with heap := h3 } := J.landed nb fl3.1 (up.trans up3) os ag
    obtain ⟨oe3, vs3, he3, hz3, hd3⟩ := fl3.there
    have away : a ∉ frs (X.env :: X.outer) := fun hm => by
      obtain ⟨_, o', e', hnf⟩ := fl3.2.2.1.mem hm
      rw [he3] at e'
      cases e'
      exact hnf _ hd3
    have aL : a ≠ X.env.locals := fun z => away (List.mem_filterMap.mpr ⟨X.env, List.mem_cons_self, by rw [hf, z]⟩)
    have aF : a ∉ X.fs := fun hm => by
      obtain ⟨e, he, q⟩ := List.mem_filterMap.mp hm
      exact away (List.mem_filterMap.mpr ⟨e, List.mem_cons_of_mem _ he, q⟩)
    have S3 := J3.suite he3 hd3 na aL aF
    have LT : PySem.W.Looks (model X.prog X.w) h3 (typeOf (.ref a)) cls := fun A Q E s k q => wpAny_typeOf_ref (k _ _ he3) (by rw [hz3.1]; exact q)
    have test : ∀ {x : Str} {c : Value} {np : Pos}, Names X x c → ∀ {Q : Value → Shared → Prop} {E : Value → Shared → Prop}, Q c { t with heap := h3 } → wpAny (model X.prog X.w) (X.A.mark (some (.ref a))) (eval (.Name x np) X.env) Q E { t with heap := h3 } := by
      rintro x c np ⟨hg, hdbg, hm | ⟨hm, hv, hnn⟩⟩ Q E q
      · exact ld_glob (X := X.suite a ((a, oe3) :: (X.pn ++ pins))) S3 hg hm q hdbg
      · exact ld_blt (X := X.suite a ((a, oe3) :: (X.pn ++ pins))) S3 hg hm hv q hnn hdbg
    have go : ∀ {hs' : List ExceptHandler} {l' : List (Value × Option Nat × Suite)}, HdsM X hs' l' → wMix X.K Wout D l' cls d σ' H' → wpAny (model X.prog X.w) X.A (handleBy (.ref a) X.env hs') (SP X pins D) X.xe { t with heap := h3 } := by
      intro hs' l' hk
      induction hk with
      | nil =>
        intro w
        refine wpAny_handleBy_nil ?_
        obtain ⟨k1, k2, k3, oe, vs, T, oT, ts', he, hz, hd, h1, hr⟩ := id fl3
        unfold PySem.passOn
        refine wpAny_bind (wpAny_field he hd h1 ?_)
        rw [if_neg (show ¬ ((Value.ref T == Value.none) = true) from by simp)]
        have out : wpAny (model X.prog X.w) X.A (setFlight (.ref a) X.env.frame) (fun _ v => wpAny (model X.prog X.w) X.A (throw (.ref a) : Sem Flow) (SP X pins D) X.xe v) X.xe { t with heap := h3 } := by
          rw [hf]
          refine HandSPX.setFlight_upZ fl3 fun h4 hh4 up4 => wpAny_throw (tk _ _ ?_)
          exact ⟨a, B, sI, pins, σ', H', cls, d, rfl, J, nb, (up.trans up3).trans up4, .inr (.inr (by rw [hs]; exact hh4)), na, os, ag, w⟩
        first
          | exact wpAny_bind (wpAny_pure (wpAny_bind out))
          | exact wpAny_bind out
      | @bare x c ts b0 su p q hs2 l2 hc hsu r ih =>
        rintro ⟨b, hb1, yes, no⟩
        refine wpAny_handleBy_cons (codeAny_handlers_test ?_) (by intro q; cases q)
        refine test hc ((PySem.W.exm_one (M := model X.prog X.w) (J3.kIn) LT hb1).here ?_)
        cases b with
        | false =>
          show wpAny _ X.A (handleBy (.ref a) X.env hs2) _ _ _
          exact ih (no rfl)
        | true =>
          refine codeAny_handlers_suite ?_
          refine HandSPX.lands_againZ fl3 fun h4 fl4 up4 => ?_
          have J4 : Inv X pins σ' H' { t with heap := h4 } := J.landed nb fl4.1 ((up.trans up3).trans up4) os ag
          obtain ⟨oe4, vs4, he4, hz4, hd4⟩ := fl4.there
          refine wpAny_mono ((hsu a oe4 cls d (X.pn ++ pins) hz4 ⟨_, hd4⟩).run [] _ _ H' _ (J4.suite he4 hd4 na aL aF) (yes rfl a na)) (fun f v hsp => ?_) (fun _ _ z => False.elim z)
          cases f with
          | next => obtain ⟨σ6, H6, S6, q6⟩ := hsp; exact ⟨_, _, S6.unsuite ok, q6⟩
          | brk => obtain ⟨σ6, H6, S6, q6⟩ := hsp; exact ⟨_, _, S6.unsuite ok, q6⟩
          | cont => obtain ⟨σ6, H6, S6, q6⟩ := hsp; exact ⟨_, _, S6.unsuite ok, q6⟩
          | ret u => obtain ⟨v6, σ6, H6, S6, r6, q6⟩ := hsp; exact ⟨_, _, _, S6.unsuite ok, r6, q6⟩
      | @named x n i c ts b0 su p q hs2 l2 hN hi hl hc hsu r ih =>
        rintro ⟨b, hb1, yes, no⟩
        refine wpAny_handleBy_cons (codeAny_handlers_test ?_) (by intro q; cases q)
        refine test hc ((PySem.W.exm_one (M := model X.prog X.w) (J3.kIn) LT hb1).here ?_)
        cases b with
        | false =>
          show wpAny _ X.A (handleBy (.ref a) X.env hs2) _ _ _
          exact ih (no rfl)
        | true =>
          refine codeAny_handlers_suite_as ?_
          refine HandSPX.lands_againZ fl3 fun h4 fl4 up4 => ?_
          have J4 : Inv X pins σ' H' { t with heap := h4 } := J.landed nb fl4.1 ((up.trans up3).trans up4) os ag
          obtain ⟨oe4, vs4, he4, hz4, hd4⟩ := fl4.there
          refine store_ok (X := X.suite a ((a, oe4) :: (X.pn ++ pins))) (v := .ref a) (J4.suite he4 hd4 na aL aF) hN hi (.inl hl) rfl (fun t5 S5 => ?_) (.inr hl)
          refine wpAny_mono ((hsu a oe4 cls d (X.pn ++ pins) hz4 ⟨_, hd4⟩).run [] t5 _ H' _ S5 (yes rfl a na)) (fun f v hsp => ?_) (fun _ _ z => False.elim z)
          have letGo : ∀ {σ6 : L2.St} {H6 : Hp} {Z : Shared → Prop}, Inv (X.suite a ((a, oe4) :: (X.pn ++ pins))) [] σ6 H6 v → (∀ s7, Inv X pins (σ6.set i none) H6 s7 → Z s7) →
              wpAny (model X.prog X.w) X.A (do bindName X.env n .none; unbindBehindTheSuite X.env n q) (fun _ s7 => Z s7) X.xe v := fun S6 hq => gone_ok (S6.unsuite ok) hN hi hl hq
          cases f with
          | next => obtain ⟨σ6, H6, S6, q6⟩ := hsp; exact letGo S6 fun s7 J7 => ⟨_, _, J7, q6⟩
          | brk => obtain ⟨σ6, H6, S6, q6⟩ := hsp; exact letGo S6 fun s7 J7 => ⟨_, _, J7, q6⟩
          | cont => obtain ⟨σ6, H6, S6, q6⟩ := hsp; exact letGo S6 fun s7 J7 => ⟨_, _, J7, q6⟩
          | ret u => obtain ⟨v6, σ6, H6, S6, r6, q6⟩ := hsp; exact letGo S6 fun s7 J7 => ⟨_, _, _, J7, r6, q6⟩
    exact go hh w
  refine wpAny_mono ((hb (wMix X.K Wout D l) (X.pn ++ pins) xe0 catch_ PassesOwn.looking).run [] s σ H D (I.toTry _) hw) (fun f s1 hsp => ?_) (fun e s1 he => he)
  cases f with
  | next => obtain ⟨σ', H', J', q⟩ := hsp; exact wpAny_execs_nil ⟨σ', H', J'.ofTry ok, q⟩
  | brk => obtain ⟨σ', H', J', q⟩ := hsp; exact ⟨σ', H', J'.ofTry ok, q⟩
  | cont => obtain ⟨σ', H', J', q⟩ := hsp; exact ⟨σ', H', J'.ofTry ok, q⟩
  | ret u => obtain ⟨v, σ', H', J', r, q⟩ := hsp; exact ⟨v, σ', H', J'.ofTry ok, r, q⟩
/-- isinstance(e, c) of what the suite holds -/
def rIsE1 (K : PySem.W.Frag) (a : Addr) (cls : Value) (d : Option Addr) : List V → Hp → VK → Prop := fun xs H Q => ∃ (D : Addr) (c : V) (u : Value) (b : Bool), cls = .ref D ∧ d = none ∧ ExcC K D ∧ xs = [.ref a, c] ∧ ClsV c u ∧ PySem.W.kitOne K (.ref D) u = some b ∧ Q (.bl b) H
/-- isinstance(e, (c1, c2, ..)) -/
def rIsEs (K : PySem.W.Frag) (a : Addr) (cls : Value) (d : Option Addr) : List V → Hp → VK → Prop := fun xs H Q => ∃ (D tp : Addr) (cs : List V) (us : List Value) (b : Bool), cls = .ref D ∧ d = none ∧ ExcC K D ∧ xs = [.ref a, .ref tp] ∧ H tp = some (.tup cs) ∧ Paired ClsV cs us ∧ PySem.W.kitAny K (.ref D) us = some b ∧ Q (.bl b) H
theorem inst_at {s : Shared} {a D : Addr} {oe : Obj} (hz : Zc (.ref D) none oe) (hf : ∃ vs, oe.data = .fields vs) (e : s.heap.get? a = some oe) : PySem.W.InstAt s.heap a oe D none := by
  obtain ⟨oc, od, oda, osl⟩ := oe
  obtain ⟨h1, h2⟩ := hz
  obtain ⟨vs, hv⟩ := hf
  dsimp only at h1 h2 hv
  subst h1 h2 hv
  exact ⟨e, rfl, rfl, trivial⟩
theorem call_isE1 {a : Addr} {oe : Obj} {cls : Value} {d : Option Addr} {pn : List (Addr × Obj)} (hz : Zc cls d oe) (hf : ∃ vs, oe.data = .fields vs) : CallR (X.suite a ((a, oe) :: pn)) (.builtin "isinstance") (rIsE1 X.K a cls d) := by
  rintro pins s σ H xs us Q I r ⟨D, c, u, b, rfl, rfl, C, rfl, k, e, q⟩
  obtain ⟨u1, u2, rfl, r1, r2⟩ := vals2 r
  cases r1
  have e2 := k.eq r2
  subst e2
  obtain ⟨hget, _⟩ := I.pin (a, oe) (List.mem_append_left _ List.mem_cons_self)
  exact PySem.W.kia_one (PySem.W.handS_kitx_exc C.hg C.hk C.hs C.hd C.ha C.hn C.ht C.hm) I.kIn (inst_at hz hf hget) e (fun z => nomatch z) fun tk => ⟨.bl b, H, I.tok tk, rfl, q⟩
theorem call_isEs {a : Addr} {oe : Obj} {cls : Value} {d : Option Addr} {pn : List (Addr × Obj)} (hz : Zc cls d oe) (hf : ∃ vs, oe.data = .fields vs) : CallR (X.suite a ((a, oe) :: pn)) (.builtin "isinstance") (rIsEs X.K a cls d) := by
  rintro pins s σ H xs us Q I r ⟨D, tp, cs, ws, b, rfl, rfl, C, rfl, hT, k, e, q⟩
  obtain ⟨u1, u2, rfl, r1, r2⟩ := vals2 r
  cases r1
  cases (show u2 = Value.ref tp from r2)
  obtain ⟨hget, _⟩ := I.pin (a, oe) (List.mem_append_left _ List.mem_cons_self)
  obtain ⟨_, its, rv, o, h1, h2, n, h3⟩ := (show ObjOk X.prog X.w H s.heap tp (.tup cs) from I.hok tp _ hT)
  have e3 := ClsV.all k rv
  subst e3
  obtain ⟨oc, od, dt, sl⟩ := o
  simp only at h2 h3
  subst h2 h3
  exact PySem.W.kia_tup (PySem.W.handS_kitx_exc C.hg C.hk C.hs C.hd C.ha C.hn C.ht C.hm) I.kIn (inst_at hz hf hget) h1 e (fun z => nomatch z) fun tk => ⟨.bl b, H, I.tok tk, rfl, q⟩
end
end BP

/-! s.replace(y, one of some written texts, n): some text of bounded length. Own work. -/
namespace BP
open PySem PySem.Spec PyProof.Rows L2 PySem.Builtin PySem.Builtin.Str
theorem gives_repl4 (x y z : Str) (k : Int) (t u v n : Tok) (hk : (decide (k < -(2 ^ 63 : Int)) || decide (k ≥ 2 ^ 63)) = false) (h0 : (u == 0 || v == 0) = false) (hyz : (y == z) = false)
    (hl : tooLong (x.length + (occurrences x y 0 x.length (if k < 0 then x.length + 1 else k.toNat)).length * z.length) = false) :
    Gives (Builtin.«str.replace» ⟨[.str x t, .str y u, .str z v, .int k n], []⟩)
      (if ((occurrences x y 0 x.length (if k < 0 then x.length + 1 else k.toNat)).isEmpty || (y.length == 0 && z.length == 0)) = true then .val (.str x t) else if (u == v) = true then .val (.str x t) else .str (glued z (partsBetween x (occurrences x y 0 x.length (if k < 0 then x.length + 1 else k.toNat)) y.length))) := by
  show Gives (do let limit ← countLimit "str.replace" (some (.int k n)) (x.length + 1); _) _
  rw [countLimit_int "str.replace" k n (x.length + 1) hk]
  generalize (if k < 0 then x.length + 1 else k.toNat) = m at hl ⊢
  show Gives (if ((occurrences x y 0 x.length m).isEmpty || (y.length == 0 && z.length == 0)) = true then (do rule "str.replace.nothing"; ret (.str x t)) else
          (do let same ← isSame (.str y u) (.str z v)
              if same = true then (do rule "str.replace.old-is-new"; ret (.str x t)) else
              if tooLong (x.length + (occurrences x y 0 x.length m).length * z.length) = true then unsupported "str.replace:memory" else
              retStr (glued z (partsBetween x (occurrences x y 0 x.length m) y.length)))) _
  cases hc : ((occurrences x y 0 x.length m).isEmpty || (y.length == 0 && z.length == 0))
  · cases huv : (u == v)
    · rw [isSame_str_other y z u v h0 huv hyz, hl]
      exact .of_eq rfl
    · have e : isSame (.str y u) (.str z v) = pure true := by
        show (if (u == 0 || v == 0) = true then _ else if (u == v) = true then pure true else _ : Sem Bool) = _
        rw [h0, huv]
        rfl
      rw [e]
      exact .rule (.of_eq rfl)
  · exact .rule (.of_eq rfl)
theorem join_len (sep : Str) (B : Nat) : ∀ ys : List Str, (∀ y ∈ ys, y.length ≤ B) → (Str.join sep ys).length ≤ ys.length * (B + sep.length)
  | [], _ => by show 0 ≤ _; omega
  | [y], h => by
    have := h y List.mem_cons_self
    show y.length ≤ 1 * _
    omega
  | y :: z :: ys, h => by
    have ih := join_len sep B (z :: ys) fun q hq => h q (List.mem_cons_of_mem _ hq)
    have := h y List.mem_cons_self
    show (y ++ sep ++ Str.join sep (z :: ys)).length ≤ _
    rw [Str.length_append, Str.length_append, List.length_cons (a := y), Nat.add_mul]
    omega
/-- replaced at most twice, it is not much longer -/
theorem repl_len (x y z : Str) (m : Nat) (hm : m ≤ 2) (hx : x.length ≤ 100000) (hz : z.length ≤ 10) : (glued z (partsBetween x (occurrences x y 0 x.length m) y.length)).length ≤ 3 * (x.length + 10) := by
  rw [StrLaws.glued_eq_join]
  have h1 := join_len z x.length (partsBetween x (occurrences x y 0 x.length m) y.length) fun p hp => by
    simp only [partsBetween, List.mem_map] at hp
    obtain ⟨⟨i, j⟩, _, rfl⟩ := hp
    exact strSub_length_le ..
  rw [PyProof.Rows.len_partsBetween] at h1
  have h2 := StrLaws.occ_length_le x y 0 x.length m
  refine Nat.le_trans h1 (Nat.mul_le_mul ?_ ?_) <;> omega
def tRepl3 (to ti tn : TE) : TE := fun σ H Q => to σ H fun v H1 => ∃ x : Str, v = .str x ∧ x.length ≤ 100000 ∧ ∀ H2, Same H1 H2 → ti σ H2 fun i H3 => ∃ k : Int, i = .int k ∧ 0 ≤ k ∧ k < 3 ∧ H3 = H2 ∧
  tn σ H3 fun n H4 => ∃ m : Int, n = .int m ∧ 0 ≤ m ∧ m ≤ 2 ∧ ∀ r : Str, r.length ≤ 3 * (x.length + 10) → Q (.str r) H4
section
variable {X : Cx}
theorem pet_repl3 {o idx cnt : Expr} {y z1 z2 z3 : Str} {j0 j1 j2 j3 : Nat} {c0 c1 c2 c3 lp sp apos pos : Pos} {to ti tn : TE} (ho : PE X o to) (hi : PE X idx ti) (hn : PE X cnt tn)
    (hz : ∀ z ∈ [z1, z2, z3], z.length ≤ 10 ∧ (y == z) = false) (hix : PlainIx idx)
    (hbase : attributeBase o "replace" X.env (eval o X.env) = eval o X.env := by rfl) (hline : (apos.endLine == pos.line) = true := by rfl)
    (hfew : ((backTo pos (starEach [.Constant (.str y) j0 c0, .Subscript (.List [.Constant (.str z1) j1 c1, .Constant (.str z2) j2 c2, .Constant (.str z3) j3 c3] lp) idx sp, cnt] X.env)).all (fun x => !x.1) && (backToKw pos (keywordEach [] X.env)).all (fun x => x.1.isSome)
      && decide (([.Constant (.str y) j0 c0, .Subscript (.List [.Constant (.str z1) j1 c1, .Constant (.str z2) j2 c2, .Constant (.str z3) j3 c3] lp) idx sp, cnt] : List Expr).length + ([] : List Keyword).length + (if ([] : List Keyword).isEmpty then 0 else 1) < 30)) = true := by rfl)
    (htr : backTo pos (starEach [.Constant (.str y) j0 c0, .Subscript (.List [.Constant (.str z1) j1 c1, .Constant (.str z2) j2 c2, .Constant (.str z3) j3 c3] lp) idx sp, cnt] X.env) =
      [(false, eval (.Constant (.str y) j0 c0) X.env), (false, eval (.Subscript (.List [.Constant (.str z1) j1 c1, .Constant (.str z2) j2 c2, .Constant (.str z3) j3 c3] lp) idx sp) X.env), (false, eval cnt X.env)] := by rfl) :
    PET X (.Call (.Attribute o "replace" apos) [.Constant (.str y) j0 c0, .Subscript (.List [.Constant (.str z1) j1 c1, .Constant (.str z2) j2 c2, .Constant (.str z3) j3 c3] lp) idx sp, cnt] [] pos) (tRepl3 to ti tn) := by
  intro pins s σ H Q h0 I h
  refine wpAny_Call_method_lateS hbase hfew hline (wpAny_mono (PySem.wpAny_toks (ho.run pins s σ H _ I h)) (fun v s1 q => ?_) fun _ _ z => z.2)
  obtain ⟨hk, v', H1, I1, r1, x, e1, hx, q⟩ := q
  subst e1
  obtain ⟨tx, e2⟩ := r1
  subst e2
  refine ⟨"str", _, PySem.F.plainAttrs_str, PySem.F.slot_str_replace, PySem.F.type_str_replace, typeIs_str _ _ _, (fun _ e => nomatch e), ?_⟩
  rw [htr]
  refine Calls.callWith_builtin rfl (Calls.evalArgs_plain (Calls.spliced_cons (Calls.Constant_str (Calls.spliced_cons (Subscript_ (wpAny_List_spliced ?_))))))
  show wpAny _ _ (spliced ((false, eval (.Constant (.str z1) j1 c1) X.env) :: backTo lp (starEach [.Constant (.str z2) j2 c2, .Constant (.str z3) j3 c3] X.env))) _ _ _
  refine Calls.spliced_cons (Calls.Constant_str ?_)
  show wpAny _ _ (spliced ((false, eval (.Constant (.str z2) j2 c2) X.env) :: backTo lp (starEach [.Constant (.str z3) j3 c3] X.env))) _ _ _
  refine Calls.spliced_cons (Calls.Constant_str ?_)
  show wpAny _ _ (spliced ((false, eval (.Constant (.str z3) j3 c3) X.env) :: backTo lp (starEach [] X.env))) _ _ _
  refine Calls.spliced_cons (Calls.Constant_str (Calls.spliced_nil ?_))
  obtain ⟨k0, hk0⟩ : ∃ k0, s1.toks = k0 := ⟨_, rfl⟩
  have three : (3 : Nat) ≤ sizeLine := by decide
  refine ⟨three, ?_⟩
  have fresh : H1 s1.heap.objs.size = none := I1.hok.fresh (Nat.le_refl _)
  have I2 := I1.laid (t' := s1.toks + 1 + 1 + 1 + 1) (h' := s1.heap.push { cls := .type "list", data := .seq #[.str z1 (s1.toks + 1), .str z2 (s1.toks + 1 + 1), .str z3 (s1.toks + 1 + 1 + 1)] })
    (o := .frz { cls := .type "list", data := .seq #[.str z1 (s1.toks + 1), .str z2 (s1.toks + 1 + 1), .str z3 (s1.toks + 1 + 1 + 1)] 0 } (.lst [.str z1, .str z2, .str z3])) (fun b u e => Heap.get?_push_of_some _ e) (Nat.le_refl _)
    ⟨Heap.get?_push_size _ rfl, three, [.str z1 (s1.toks + 1), .str z2 (s1.toks + 1 + 1), .str z3 (s1.toks + 1 + 1 + 1)], 0, .cons ⟨_, rfl⟩ (.cons ⟨_, rfl⟩ (.cons ⟨_, rfl⟩ .nil)), Heap.get?_push_size _ rfl⟩
  obtain ⟨H2, eH2⟩ : ∃ H2, upd H1 s1.heap.objs.size (.frz { cls := .type "list", data := .seq #[.str z1 (s1.toks + 1), .str z2 (s1.toks + 1 + 1), .str z3 (s1.toks + 1 + 1 + 1)] 0 } (.lst [.str z1, .str z2, .str z3])) = H2 := ⟨_, rfl⟩
  have here : H2 s1.heap.objs.size = some (.frz { cls := .type "list", data := .seq #[.str z1 (s1.toks + 1), .str z2 (s1.toks + 1 + 1), .str z3 (s1.toks + 1 + 1 + 1)] 0 } (.lst [.str z1, .str z2, .str z3])) := by
    rw [← eH2]
    simp [upd]
  have same : Same H1 H2 := fun b o e => by
    have ne : b ≠ s1.heap.objs.size := fun eb => by
      rw [eb, fresh] at e
      nomatch e
    rw [← eH2, upd_ne ne]
    exact e
  rw [eH2] at I2
  refine thn (hi.run _ _ _ _ _ I2 (q _ same)) fun v s3 ⟨w, H3, I3, r3, q3⟩ => ?_
  obtain ⟨k, e3, k0', k3, eH, q3⟩ := q3
  subst e3 eH
  obtain ⟨tk, e4⟩ := r3
  subst e4
  have isl : s3.heap.IsList s1.heap.objs.size #[.str z1 (s1.toks + 1), .str z2 (s1.toks + 1 + 1), .str z3 (s1.toks + 1 + 1 + 1)] := by
    obtain ⟨h5, _⟩ := I3.hok _ _ here
    exact ⟨_, h5, rfl, 0, rfl⟩
  obtain ⟨z, tz, hz1, hzt, hit⟩ : ∃ z tz, z ∈ [z1, z2, z3] ∧ tz ≠ 0 ∧ (#[.str z1 (s1.toks + 1), .str z2 (s1.toks + 1 + 1), .str z3 (s1.toks + 1 + 1 + 1)] : Array Value)[k.toNat]? = some (.str z tz) := by
    have : k = 0 ∨ k = 1 ∨ k = 2 := by omega
    rcases this with rfl | rfl | rfl
    · exact ⟨z1, s1.toks + 1, by simp, Nat.succ_ne_zero _, rfl⟩
    · exact ⟨z2, s1.toks + 1 + 1, by simp, Nat.succ_ne_zero _, rfl⟩
    · exact ⟨z3, s1.toks + 1 + 1 + 1, by simp, Nat.succ_ne_zero _, rfl⟩
  refine item_listR isl k0' (by omega) hit ?_ (hix _ _)
  refine Calls.spliced_cons (thn (hn.run _ _ _ _ _ I3 q3) fun v s4 ⟨w, H4, I4, r4, q4⟩ => ?_)
  obtain ⟨m, e5, m0, m2, q4⟩ := q4
  subst e5
  obtain ⟨tm, e6⟩ := r4
  subst e6
  refine Calls.spliced_nil ?_
  obtain ⟨zl, zy⟩ := hz z hz1
  have hm : (if m < 0 then x.length + 1 else m.toNat) ≤ 2 := by split <;> omega
  have rl := repl_len x y z _ hm hx zl
  have ol := StrLaws.occ_length_le x y 0 x.length (if m < 0 then x.length + 1 else m.toNat)
  refine PySem.call_gives PySem.F.slot_str_replace (typeIs_str _ _ _) PySem.F.entry_str_replace (PySem.F.args_str_replace_4 _ _ _ _)
    (gives_repl4 x y z m tx _ tz tm (by rw [Bool.or_eq_false_iff]; exact ⟨decide_eq_false (by omega), decide_eq_false (by omega)⟩) (by rw [Bool.or_eq_false_iff]; exact ⟨beq_eq_false_iff_ne.mpr (Nat.ne_of_gt (Nat.lt_of_lt_of_le h0 hk)), beq_eq_false_iff_ne.mpr hzt⟩) zy ?_) ?_
  · have e : (2 : Nat) ^ 24 = 16777216 := by decide
    have : (occurrences x y 0 x.length (if m < 0 then x.length + 1 else m.toNat)).length * z.length ≤ 2 * 10 := Nat.mul_le_mul (Nat.le_trans ol hm) zl
    unfold tooLong sizeLine
    exact decide_eq_false (by omega)
  · generalize (if m < 0 then x.length + 1 else m.toNat) = mm at rl ⊢
    split
    · exact ⟨.str x, H4, I4.tok _, ⟨tx, rfl⟩, q4 x (by omega)⟩
    · split
      · exact ⟨.str x, H4, I4.tok _, ⟨tx, rfl⟩, q4 x (by omega)⟩
      · exact ⟨by unfold sizeLine; omega, ⟨.str _, H4, I4.tok _, ⟨_, rfl⟩, q4 _ rl⟩⟩
end
end BP

/-! The end of a law whose program has one def with a generator expression. Own work. -/
namespace BP
open PySem PySem.Spec PyProof.Rows L2
/-- the law's promise, with the table of that def's code object -/
def spLawT (K : PySem.W.Frag) (Pt : Addr) : Sp := fun vs H Q _ => ∃ (a : Addr) (ns : List Int), vs = [.ref a] ∧ SqL K H a (ns.map V.int) ∧ ns.length ≤ 63 ∧ (∀ z ∈ ns, Builtin.Int.intBits z ≤ 1048576) ∧ H Pt = some (.tbl #[]) ∧ ∀ H', Q (.bl true) H'
theorem walkT {l : PySem.W.OpenLaw} {q : Program} {loose : List Str} {XP : (Str → Option Value) → Heap → Prop} {YP : World → Heap → Prop} {d : DefRec} {K : Params → PySem.W.Frag} {k : Nat} (hn : l.most = some 63) (hdf : d.params.defaults = []) (hr : Room k callerA)
    (hY : ∀ (w : World) (h : Heap), YP w h → (K w.params).In h) (hrec : ((recsOf q).find? fun e => e.name == ("read_number" : Str)).isSome = true)
    (F : ∀ (w : World) (mg : Str → Option Value) (fa : Addr) (h : Heap), (K w.params).In h → h.Ns mainGlobals mg → mg d.name = some (.ref fa) →
      ∃ (fd : FuncData) (c Pt : Addr), PySem.W.tabIn (K w.params) "read_number" = some (c, Pt) ∧ (K w.params).lookup Pt = none ∧ (∀ (s : Shared) (u : Value), BindsTo s fd ⟨[u], []⟩ [("_law_script", u)]) ∧
        ∀ base : Heap, (K w.params).In base → base.Ns mainGlobals mg → GxR.TabB base mg c Pt → FnOk l.prog w (K w.params) mg base CX0 k fa fd ["_law_script"] (spLawT (K w.params) Pt)) :
    PySem.W.WalkO q loose XP YP l.row.toRowW d [] (fun f vs => PySem.call f vs) := by
  refine Att.attach_callB hn hdf fun w s₀ s₁ mg mb fa o pm cd doc a vs ns G Y ho hd hcd hmg hobj hints hlen hbits hg => ?_
  have KX := hY w _ Y
  obtain ⟨dr, hdr⟩ := Option.isSome_iff_exists.mp hrec
  obtain ⟨fd, c, Pt, htab, nPt, hb, hF⟩ := F w mg fa _ KX G.T.g hmg
  obtain ⟨hC, hP⟩ := PySem.W.tab_of G.T KX hdr htab
  have one : ∀ {Z : Addr × Addr → Prop}, Z (c, Pt) → ∀ p ∈ [(c, Pt)], Z p := fun h p hp => by rw [List.mem_singleton.mp hp]; exact h
  exact LamX.law_callTs (cs := [(c, Pt)]) KX G.T.g G.T.b G.T.builtins G.T.nolimit hg (one hP) (one nPt) (one hC) G.T.bmain hobj hints (Nat.le_trans hlen (by decide)) hr
    (fun base X N TB => hF base X N (by obtain ⟨x, y, z⟩ := TB _ List.mem_cons_self; exact ⟨x, y, z⟩)) hb (fun H hH hS => ⟨a, ns, rfl, hS, hlen, hbits, hH _ List.mem_cons_self, fun _ => rfl⟩) fun H e s' z => z
/-- the words as the top has written them -/
def WordsAt (P : Params) (l : List DictEntry) : Prop := ∃ t1 t2 t3 t4 t5 t6 t7 u1 u2 u3 u4 u5 u6 u7 : Tok, l = [⟨PyData.keyHash P "make", .str "make" t1, .int 2 u1⟩, ⟨PyData.keyHash P "hold", .str "hold" t2, .int 2 u2⟩, ⟨PyData.keyHash P "drop", .str "drop" t3, .int 1 u3⟩,
  ⟨PyData.keyHash P "put", .str "put" t4, .int 3 u4⟩, ⟨PyData.keyHash P "empty", .str "empty" t5, .int 2 u5⟩, ⟨PyData.keyHash P "take", .str "take" t6, .int 3 u6⟩, ⟨PyData.keyHash P "tidy", .str "tidy" t7, .int 0 u7⟩]
theorem tab_in {K : PySem.W.Frag} {x : Str} {f c Pt : Addr} {oc vc : Value} {od odc : Option Addr} {fd : FuncData} {sl slc : Array (Option Value)} {vs : Array Value} (h1 : PySem.W.nsIn K mainGlobals x = some (some (.ref f))) (h2 : K.lookup f = some ⟨oc, od, .func fd, sl⟩)
    (h3 : fd.code = .ref c) (h4 : K.lookup c = some ⟨vc, odc, .fields vs, slc⟩) (h5 : vs[11]? = some (.ref Pt)) : PySem.W.tabIn K x = some (c, Pt) := by
  unfold PySem.W.tabIn
  rw [h1]
  dsimp only
  rw [h2]
  dsimp only
  rw [h3]
  dsimp only
  rw [h4]
  dsimp only
  rw [h5]
end BP

namespace BP
open PySem L2
abbrev sWhole : Stmt := top 16
abbrev sNums : Stmt := top 18
abbrev sCellAt : Stmt := top 17
abbrev sMany : Stmt := top 19
abbrev sNumber : Stmt := top 20
abbrev sDueOf : Stmt := top 21
abbrev sAlike : Stmt := top 22
abbrev sOddLine : Stmt := top 23
abbrev sRefused : Stmt := top 24
abbrev sRefusedByAll : Stmt := top 25
abbrev sLineBy : Stmt := top 26
abbrev sLaw : Stmt := top 27
/-- the names of the built-ins that the law's helpers call -/
structure TxtL (mg : Str → Option Value) : Prop where
  isi : mg "isinstance" = none
  int : mg "int" = none
  bool : mg "bool" = none
  list : mg "list" = none
  len : mg "len" = none
  range : mg "range" = none
  min : mg "min" = none
  sorted : mg "sorted" = none
  set : mg "set" = none
  all : mg "all" = none
  str : mg "str" = none
  tuple : mg "tuple" = none
def spWhole : Sp := fun vs H Q _ => ∃ n : Int, vs = [.int n] ∧ Q (.bl true) H
def spLaw (K : PySem.W.Frag) : Sp := fun vs H Q _ => ∃ (a : Addr) (ns : List Int), vs = [.ref a] ∧ SqL K H a (ns.map V.int) ∧ ns.length ≤ 63 ∧ ∀ H', Q (.bl true) H'
def spNums : Sp := fun vs H Q _ => ∃ (a b : Addr) (l : List (Option Int)), vs = [.ref a, .ref b] ∧ H a = some (.lst (lV l)) ∧ H b = some (.lst (lV l)) ∧ l.length ≤ 1000 ∧ Q (.bl true) H
section
variable {P : Program} {w : World} {K : PySem.W.Frag} {mg : Str → Option Value} {base : Heap} {C B eH eS eF eB eL : Addr}
theorem scWhole : FnScope ["_law_found"] ["_law_found"] (defScope sWhole) := ⟨rfl, rfl, rfl, by decide +kernel, rfl, by decide +kernel, by decide +kernel⟩
theorem ok_whole {f : Addr} {fd : FuncData} (F : Fun K "_law_whole" "_law_whole" sWhole f fd) (T : TxtL mg) : FnOk P w K mg base CX0 1 f fd ["_law_found"] spWhole := by
  refine F.ok scWhole (fun vs H Q E h => ?_) (fun cdv A outer s H vs Q E hr h => ?_)
  · obtain ⟨n, rfl, _⟩ := h
    rfl
  · obtain ⟨n, rfl, k⟩ := h
    refine ⟨_, pss_one (ps_ret (pe_and (pe_callB call_isi (by rfl) T.isi PyProof.Rows.boot_isinstance (pa_cons (pv 0) (pa_cons (pe_bltn (v := .ty "int") (by rfl) T.int PyProof.Rows.boot_int rfl) pa_nil)))
      (pe_one (pe_not (pe_callB call_isi (by rfl) T.isi PyProof.Rows.boot_isinstance (pa_cons (pv 0) (pa_cons (pe_bltn (v := .ty "bool") (by rfl) T.bool (by decide +kernel) rfl) pa_nil))))))), ?_⟩
    refine ⟨_, rfl, _, _, _, _, true, rfl, .ty "int", .base (.int n), kit_ty (by decide +kernel), _, rfl, ?_⟩
    refine iteT ⟨_, rfl, _, _, _, _, false, rfl, .ty "bool", .base (.int n), kit_ty (by decide +kernel), _, rfl, ?_⟩
    exact k
theorem scNums : FnScope ["_law_found", "_law_due", "_law_k"] ["_law_found", "_law_due"] (defScope sNums) := ⟨rfl, rfl, rfl, by decide +kernel, rfl, by decide +kernel, by decide +kernel⟩
theorem ok_nums {f fW : Addr} {fd fdW : FuncData} (F : Fun K "_law_numbers" "_law_numbers" sNums f fd) (T : TxtL mg) (FW : Fun K "_law_whole" "_law_whole" sWhole fW fdW) (bW : Binds K fdW ["_law_found"] []) (gW : mg "_law_whole" = some (.ref fW)) :
    FnOk P w K mg base CX0 2 f fd ["_law_found", "_law_due"] spNums := by
  have GW : FnOk P w K mg base CX0 1 fW fdW ["_law_found"] spWhole := ok_whole FW T
  refine F.ok scNums (fun vs H Q E h => ?_) (fun cdv A outer s H vs Q E hr h => ?_)
  · obtain ⟨a, b, l, rfl, _⟩ := h
    rfl
  · obtain ⟨a, b, l, rfl, ha, hb, hl, k⟩ := h
    refine ⟨_, pss_cons (ps_if (PW.pt (pw_or (pt_not (pt_val (pe_callB call_isi (by rfl) T.isi PyProof.Rows.boot_isinstance (pa_cons (pv 0) (pa_cons (pe_bltn (v := .ty "list") (by rfl) T.list (by decide +kernel) rfl) pa_nil)))))
          (pw_or1 (pt_cmpR op_ne (pe_callB call_len_seq (by rfl) T.len PySem.boot_len (pa_cons (pv 0) pa_nil)) (pe_callB call_len_seq (by rfl) T.len PySem.boot_len (pa_cons (pv 1) pa_nil)) (nomark _))))) (pss_one (ps_ret pe_bl)) pss_nil)
      (pss_cons (ps_for PassesOwn.never rfl (pi_range1 (by rfl) T.range (pa_cons (pe_callB call_len_seq (by rfl) T.len PySem.boot_len (pa_cons (pv 1) pa_nil)) pa_nil)) (pg_name (i := 2) scNums.nd rfl (Or.inl rfl))
        (pss_one (ps_if (pt_cmpR op_isN (pe_ix ix_list (pv 1) (pv 2) (fun _ _ => rfl)) pe_non (nomark _))
          (pss_one (ps_if (pt_cmpR op_notN (pe_ix ix_list (pv 0) (pv 2) (fun _ _ => rfl)) pe_non (nomark _)) (pss_one (ps_ret pe_bl)) pss_nil))
          (pss_one (ps_if (PW.pt (pw_or (pt_not (pt_val (pe_call GW hr rfl gW FW.kp bW .nil pass0 (pa_cons (pe_ix ix_list (pv 0) (pv 2) (fun _ _ => rfl)) pa_nil))))
            (pw_or1 (pt_cmpR op_ne (pe_ix ix_list (pv 0) (pv 2) (fun _ _ => rfl)) (pe_ix ix_list (pv 1) (pv 2) (fun _ _ => rfl)) (nomark _))))) (pss_one (ps_ret pe_bl)) pss_nil)))))
      (pss_one (ps_ret pe_bl))), ?_⟩
    refine ⟨_, rfl, _, _, _, _, true, rfl, .ty "list", .base (.lst ha), kit_ty (by decide +kernel), _, rfl, ?_⟩
    refine iteF ⟨_, rfl, a, _, rfl, .inl (SqL.of ha), _, rfl, b, _, rfl, .inl (SqL.of hb), rfl, _, rfl, ?_⟩
    refine iteNS rfl ?_
    have ell : (lV l).length = l.length := lV_len l
    refine ⟨_, rfl, b, _, rfl, .inl (SqL.of hb), _, rfl, by omega, by omega, ?_⟩
    rw [ell]
    refine for_range (lo := 0) (n := (l.length : Int).toNat) (fun i σ H' => ∃ v : Option V, σ = [some (.ref a), some (.ref b), v] ∧ H' = H) ⟨none, rfl, rfl⟩ ?_ ?_
    · rintro i σ H' hi ⟨v, rfl, rfl⟩
      have hi' : i < l.length := by omega
      have hx := lV_get hi'
      have hix : (0 : Int) + (i : Int) = ((i : Nat) : Int) := by omega
      refine ⟨_, rfl, _, rfl, b, _, _, _, rfl, rfl, SqL.of hb, at_of (j := i) hix hx, rfl, _, rfl, ?_⟩
      cases e : l.getD i none with
      | none =>
        rw [e] at hx
        refine iteT ⟨_, rfl, _, rfl, a, _, _, _, rfl, rfl, SqL.of ha, at_of (j := i) hix hx, rfl, _, rfl, ?_⟩
        exact iteF ⟨_, rfl, rfl⟩
      | some n =>
        rw [e] at hx
        refine iteF ⟨_, rfl, _, rfl, a, _, _, _, rfl, rfl, SqL.of ha, at_of (j := i) hix hx, n, rfl, _, rfl, ?_⟩
        refine iteF ⟨_, rfl, _, rfl, a, _, _, _, rfl, rfl, SqL.of ha, at_of (j := i) hix hx, _, rfl, _, rfl, b, _, _, _, rfl, rfl, SqL.of hb, at_of (j := i) hix hx, rfl, _, rfl, ?_⟩
        exact iteNS rfl ⟨_, rfl, rfl⟩
    · rintro σ H' ⟨v, rfl, rfl⟩
      exact k
theorem ixN_int {n : Nat} {h : Int} (h0 : 0 ≤ h) (h1 : h < n) : ixN n h = some h.toNat := by
  unfold ixN
  rw [if_pos h0, if_pos h1]
theorem lV_int (l : List Int) : l.map V.int = lV (l.map some) := by
  unfold lV
  rw [List.map_map]
  rfl
theorem inV_ints (n : Int) : ∀ l : List Int, inV (V.int n) (l.map V.int) = decide (n ∈ l)
  | [] => rfl
  | m :: l => by
    have ih := inV_ints n l
    unfold inV at ih ⊢
    rw [List.map_cons, List.any_cons, ih]
    show ((m == n) || decide (n ∈ l)) = decide (n ∈ m :: l)
    by_cases q : m = n
    · subst q; simp
    · have : ¬ n = m := fun z => q z.symm
      simp [q, this]
theorem flat_ints : ∀ l : List Int, (l.map V.int).all flatV = true
  | [] => rfl
  | m :: l => by rw [List.map_cons, List.all_cons, flat_ints l]; rfl
theorem lV_at {l : List (Option Int)} {i : Nat} {y : V} (hi : (lV l)[i]? = some y) : ∃ o, l[i]? = some o ∧ y = oV o := by
  unfold lV at hi
  rw [List.getElem?_map] at hi
  cases e : l[i]? with
  | none => rw [e] at hi; cases hi
  | some o =>
    rw [e] at hi
    exact ⟨o, rfl, (Option.some.inj hi).symm⟩
theorem ints_at {l : List Int} {i : Nat} {y : V} (hi : (l.map V.int)[i]? = some y) : ∃ n, l[i]? = some n ∧ y = V.int n := by
  rw [List.getElem?_map] at hi
  cases e : l[i]? with
  | none => rw [e] at hi; cases hi
  | some o =>
    rw [e] at hi
    exact ⟨o, rfl, (Option.some.inj hi).symm⟩
/-- the addresses and facts of the program's defs -/
structure Defs (K : PySem.W.Frag) (mg : Str → Option Value) (C B : Addr) (fRD fRN fSH fW fD fN fM1 fM2 fM3 fM4 fM5 fM6 fM7 fM8 : Addr) (dRD dRN dSH dW dD dN dM1 dM2 dM3 dM4 dM5 dM6 dM7 dM8 : FuncData) : Prop where
  FRD : Fun K "read" "read" sRead fRD dRD
  bRD : Binds K dRD ["line"] []
  gRD : mg "read" = some (.ref fRD)
  FRN : Fun K "read_number" "read_number" sReadNumber fRN dRN
  bRN : Binds K dRN ["part"] []
  gRN : mg "read_number" = some (.ref fRN)
  FSH : Fun K "shown" "shown" sShown fSH dSH
  bSH : Binds K dSH ["deed"] []
  gSH : mg "shown" = some (.ref fSH)
  FW : Fun K "_law_whole" "_law_whole" sWhole fW dW
  bW : Binds K dW ["_law_found"] []
  gW : mg "_law_whole" = some (.ref fW)
  FD : Fun K "_law_cell_at" "_law_cell_at" sCellAt fD dD
  bD : Binds K dD ["_law_script", "_law_k"] []
  gD : mg "_law_cell_at" = some (.ref fD)
  FN : Fun K "_law_numbers" "_law_numbers" sNums fN dN
  bN : Binds K dN ["_law_found", "_law_due"] []
  gN : mg "_law_numbers" = some (.ref fN)
  FM1 : Fun K "_law_many" "_law_many" sMany fM1 dM1
  bM1 : Binds K dM1 ["_law_word"] []
  gM1 : mg "_law_many" = some (.ref fM1)
  FM2 : Fun K "_law_number" "_law_number" sNumber fM2 dM2
  bM2 : Binds K dM2 ["_law_word"] []
  gM2 : mg "_law_number" = some (.ref fM2)
  FM3 : Fun K "_law_due_of" "_law_due_of" sDueOf fM3 dM3
  bM3 : Binds K dM3 ["_law_line"] []
  gM3 : mg "_law_due_of" = some (.ref fM3)
  FM4 : Fun K "_law_alike" "_law_alike" sAlike fM4 dM4
  bM4 : Binds K dM4 ["_law_found", "_law_due"] []
  gM4 : mg "_law_alike" = some (.ref fM4)
  FM5 : Fun K "_law_odd_line" "_law_odd_line" sOddLine fM5 dM5
  bM5 : Binds K dM5 ["_law_cell"] []
  gM5 : mg "_law_odd_line" = some (.ref fM5)
  FM6 : Fun K "_law_refused" "_law_refused" sRefused fM6 dM6
  bM6 : Binds K dM6 ["_law_line"] []
  gM6 : mg "_law_refused" = some (.ref fM6)
  FM7 : Fun K "_law_refused_by_all" "_law_refused_by_all" sRefusedByAll fM7 dM7
  bM7 : Binds K dM7 ["_law_line"] []
  gM7 : mg "_law_refused_by_all" = some (.ref fM7)
  FM8 : Fun K "_law_line_by" "_law_line_by" sLineBy fM8 dM8
  bM8 : Binds K dM8 ["_law_line", "_law_way", "_law_cell"] []
  gM8 : mg "_law_line_by" = some (.ref fM8)
abbrev nShown : List Str := ["deed", "part"]
abbrev nCellAt : List Str := ["_law_script", "_law_k"]
abbrev nMany : List Str := ["_law_word", "_law_forms", "_law_name", "_law_many_here"]
abbrev nNumber : List Str := ["_law_word", "_law_sign"]
abbrev nDueOf : List Str := ["_law_line", "_law_words", "_law_sign", "_law_numbers_here", "_law_word"]
abbrev nAlike : List Str := ["_law_found", "_law_due"]
abbrev nOddLine : List Str := ["_law_cell", "_law_some"]
abbrev nLineBy : List Str := ["_law_line", "_law_way", "_law_cell", "_law_some", "_law_sign", "_law_at"]
abbrev nLaw : List Str := ["_law_script", "_law_word", "_law_large", "_law_numbers_here", "_law_deed", "_law_line", "_law_told", "_law_due", "_law_k", "_law_number_here"]
/-! ### the law's small helpers -/
def spCellAt (K : PySem.W.Frag) : Sp := fun vs H Q _ => ∃ (a : Addr) (ns : List Int) (k : Nat), vs = [.ref a, .int k] ∧ SqL K H a (ns.map V.int) ∧ Q (.int (ns.getD k 0)) H
theorem scCellAt : FnScope nCellAt ["_law_script", "_law_k"] (defScope sCellAt) := ⟨rfl, rfl, rfl, by decide +kernel, rfl, by decide +kernel, by decide +kernel⟩
theorem ok_cellat {f : Addr} {fd : FuncData} (F : Fun K "_law_cell_at" "_law_cell_at" sCellAt f fd) (TL : TxtL mg) : FnOk P w K mg base CX0 1 f fd ["_law_script", "_law_k"] (spCellAt K) := by
  refine F.ok scCellAt (fun vs H Q E h => ?_) (fun cdv A outer s H vs Q E hr h => ?_)
  · obtain ⟨a, ns, n, rfl, _⟩ := h
    rfl
  · obtain ⟨a, ns, n, rfl, hS, k⟩ := h
    have nd := scCellAt.nd
    refine ⟨_, (pss_cons (ps_if (pt_cmpR op_lt (pv 1) (pe_callB call_len_seq (by rfl) TL.len PySem.boot_len (pa_cons (pv 0) pa_nil)) (nomark _)) (pss_one (ps_ret (pe_ix ix_list (pv 0) (pv 1) (fun _ _ => rfl)))) pss_nil)
      (pss_one (ps_ret pe_int))), ?_⟩
    refine ⟨_, rfl, _, rfl, a, _, rfl, .inl hS, _, _, rfl, rfl, _, rfl, ?_⟩
    rw [List.length_map]
    by_cases c : n < ns.length
    · refine if_pos_of (decide_eq_true (by omega)) ?_
      have e : ns.getD n 0 = ns[n] := by rw [List.getD_eq_getElem?_getD, List.getElem?_eq_getElem c]; rfl
      rw [e] at k
      exact ⟨_, rfl, _, rfl, a, _, _, _, rfl, rfl, hS, at_of (j := n) rfl (by rw [List.getElem?_map, List.getElem?_eq_getElem c]; rfl), k⟩
    · refine if_neg_of (decide_eq_false (by omega)) ?_
      have e : ns.getD n 0 = 0 := by rw [List.getD_eq_getElem?_getD, List.getElem?_eq_none (by omega)]; rfl
      rw [e] at k
      exact k
theorem Same.put {H H' : Hp} (s : Same H H') {a : Addr} (h : H' a = none) (o : HO) : Same H (upd H' a o) := s.trans (same_upd h)
theorem Same.off {H H' : Hp} (s : Same H H') {a : Addr} (h : H a = none) (o : HO) : Same H (upd H' a o) := fun b u e => by
  rw [upd_ne (ne_of_none e h)]
  exact s b u e
theorem Same.gone {H H' : Hp} (s : Same H H') {a : Addr} (h : H' a = none) : H a = none := s.free h
/-- pairs of a text and a whole number, as tuples -/
def TupsSI (H : Hp) : List Addr → List (Str × Int) → Prop := Paired fun t e => H t = some (.tup [V.str e.1, V.int e.2])
theorem TupsSI.zero (H : Hp) : TupsSI H [] [] := Paired.nil
theorem TupsSI.same {H H' : Hp} (s : Same H H') {ts : List Addr} {l : List (Str × Int)} (h : TupsSI H ts l) : TupsSI H' ts l := paired_imp (fun _ _ q => s _ _ q) h
theorem TupsSI.add {H : Hp} {ts : List Addr} {l : List (Str × Int)} (h : TupsSI H ts l) (u : Str) (n : Int) {t : Addr} (ht : H t = none) : TupsSI (upd H t (.tup [V.str u, V.int n])) (ts ++ [t]) (l ++ [(u, n)]) := paired_app (h.same (same_upd ht)) (.cons upd_same .nil)
theorem refs_at {ts : List Addr} {i : Nat} {y : V} (hi : (ts.map V.ref)[i]? = some y) : ∃ t, ts[i]? = some t ∧ y = V.ref t := by
  rw [List.getElem?_map] at hi
  cases e : ts[i]? with
  | none => rw [e] at hi; cases hi
  | some o =>
    rw [e] at hi
    exact ⟨o, rfl, (Option.some.inj hi).symm⟩
/-! ### how many numbers a word has -/
def manyI (z : Str) : Int := (manyOf z).elim (-1) fun n => n
def formsL : List (Str × Int) := [("make", 2), ("hold", 2), ("drop", 1), ("put", 3), ("empty", 2), ("take", 3), ("tidy", 0)]
def firstOf (z : Str) : List (Str × Int) → Int
  | [] => -1
  | (u, n) :: l => if u = z then n else firstOf z l
theorem first_many (z : Str) : firstOf z formsL = manyI z := by
  have sw : ∀ {u : Str} {A B : Int}, (if u = z then A else B) = if z = u then A else B := fun {u A B} => by
    by_cases h : u = z
    · rw [if_pos h, if_pos h.symm]
    · rw [if_neg h, if_neg fun q => h q.symm]
  show (if ("make" : Str) = z then (2 : Int) else if ("hold" : Str) = z then 2 else if ("drop" : Str) = z then 1 else if ("put" : Str) = z then 3 else if ("empty" : Str) = z then 2 else if ("take" : Str) = z then 3 else if ("tidy" : Str) = z then 0 else -1) = _
  simp only [sw]
  unfold manyI manyOf
  split
  · rfl
  split
  · rfl
  split
  · rfl
  split
  · rfl
  split
  · rfl
  split
  · rfl
  split <;> rfl
theorem first_drop {z : Str} {l : List (Str × Int)} {i : Nat} {u : Str} {n : Int} (h : l[i]? = some (u, n)) : firstOf z (l.drop i) = if u = z then n else firstOf z (l.drop (i + 1)) := by
  rw [List.drop_eq_getElem_cons (List.getElem?_eq_some_iff.mp h).1, (List.getElem?_eq_some_iff.mp h).2]
  rfl
def spMany : Sp := fun vs H Q _ => ∃ z : Str, vs = [.str z] ∧ ∀ H', Same H H' → Q (.int (manyI z)) H'
theorem scMany : FnScope nMany ["_law_word"] (defScope sMany) := ⟨rfl, rfl, rfl, by decide +kernel, rfl, by decide +kernel, by decide +kernel⟩
theorem ok_many {f : Addr} {fd : FuncData} (F : Fun K "_law_many" "_law_many" sMany f fd) : FnOk P w K mg base CX0 1 f fd ["_law_word"] spMany := by
  refine F.ok scMany (fun vs H Q E h => ?_) (fun cdv A outer s H vs Q E hr h => ?_)
  · obtain ⟨z, rfl, _⟩ := h
    rfl
  · obtain ⟨z, rfl, k⟩ := h
    have nd := scMany.nd
    refine ⟨_, (pss_cons (ps_set (i := 1) nd rfl (Or.inl rfl) (pe_lst (pa_cons (pe_tup (pa_cons pe_str (pa_cons pe_int pa_nil))) (pa_cons (pe_tup (pa_cons pe_str (pa_cons pe_int pa_nil))) (pa_cons (pe_tup (pa_cons pe_str (pa_cons pe_int pa_nil))) (pa_cons (pe_tup (pa_cons pe_str (pa_cons pe_int pa_nil))) (pa_cons (pe_tup (pa_cons pe_str (pa_cons pe_int pa_nil))) (pa_cons (pe_tup (pa_cons pe_str (pa_cons pe_int pa_nil))) (pa_cons (pe_tup (pa_cons pe_str (pa_cons pe_int pa_nil))) pa_nil)))))))))
      (pss_cons (ps_for PassesOwn.never rfl (pi_list (pv 1)) (pg_tup rfl (pgs_cons (pg_name (i := 2) nd rfl (Or.inl rfl)) (pgs_cons (pg_name (i := 3) nd rfl (Or.inl rfl)) pgs_nil)))
      (pss_one (ps_if (pt_cmpR op_eq (pv 2) (pv 0) (nomark _)) (pss_one (ps_ret (pv 3))) pss_nil)))
      (pss_one (ps_ret (pe_un un_neg pe_int))))), ?_⟩
    have s2 : 2 ≤ sizeLine := by decide
    refine ⟨s2, fun t1 h1 => ⟨s2, fun t2 h2 => ⟨s2, fun t3 h3 => ⟨s2, fun t4 h4 => ⟨s2, fun t5 h5 => ⟨s2, fun t6 h6 => ⟨s2, fun t7 h7 => ⟨(by show 7 ≤ sizeLine; decide), fun l hl => ?_⟩⟩⟩⟩⟩⟩⟩⟩
    have S1 := Same.put (fun _ _ e => e) h1 (.tup [V.str "make", V.int 2])
    have S2 := Same.put S1 h2 (.tup [V.str "hold", V.int 2])
    have S3 := Same.put S2 h3 (.tup [V.str "drop", V.int 1])
    have S4 := Same.put S3 h4 (.tup [V.str "put", V.int 3])
    have S5 := Same.put S4 h5 (.tup [V.str "empty", V.int 2])
    have S6 := Same.put S5 h6 (.tup [V.str "take", V.int 3])
    have S7 := Same.put S6 h7 (.tup [V.str "tidy", V.int 0])
    have S8 := Same.put S7 hl (.lst [V.ref t1, V.ref t2, V.ref t3, V.ref t4, V.ref t5, V.ref t6, V.ref t7])
    have T7 := (((((((TupsSI.zero H).add "make" 2 h1).add "hold" 2 h2).add "drop" 1 h3).add "put" 3 h4).add "empty" 2 h5).add "take" 3 h6).add "tidy" 0 h7
    have T8 : TupsSI _ [t1, t2, t3, t4, t5, t6, t7] formsL := T7.same (same_upd (o := .lst [V.ref t1, V.ref t2, V.ref t3, V.ref t4, V.ref t5, V.ref t6, V.ref t7]) hl)
    have kl := upd_same (H := upd (upd (upd (upd (upd (upd (upd H t1 (.tup [V.str "make", V.int 2])) t2 (.tup [V.str "hold", V.int 2])) t3 (.tup [V.str "drop", V.int 1])) t4 (.tup [V.str "put", V.int 3])) t5 (.tup [V.str "empty", V.int 2])) t6 (.tup [V.str "take", V.int 3])) t7 (.tup [V.str "tidy", V.int 0])) (a := l) (o := .lst [V.ref t1, V.ref t2, V.ref t3, V.ref t4, V.ref t5, V.ref t6, V.ref t7])
    generalize upd (upd (upd (upd (upd (upd (upd (upd H t1 (.tup [V.str "make", V.int 2])) t2 (.tup [V.str "hold", V.int 2])) t3 (.tup [V.str "drop", V.int 1])) t4 (.tup [V.str "put", V.int 3])) t5 (.tup [V.str "empty", V.int 2])) t6 (.tup [V.str "take", V.int 3])) t7 (.tup [V.str "tidy", V.int 0])) l (.lst [V.ref t1, V.ref t2, V.ref t3, V.ref t4, V.ref t5, V.ref t6, V.ref t7]) = H8 at S8 T8 kl ⊢
    clear S1 S2 S3 S4 S5 S6 S7 T7 h1 h2 h3 h4 h5 h6 h7 hl
    refine ⟨_, rfl, l, rfl, ⟨_, SqL.of kl⟩, for_list (K := K) (a := l) (xs := [t1, t2, t3, t4, t5, t6, t7].map V.ref) (fun i σ H' => ∃ v2 v3 : Option V, σ = [some (.str z), some (.ref l), v2, v3] ∧ H' = H8 ∧ manyI z = firstOf z (formsL.drop i))
      ⟨none, none, rfl, rfl, (first_many z).symm⟩ (fun i σ H' _ ⟨_, _, _, e, _⟩ => by rw [e]; exact SqL.of kl) ?_ ?_⟩
    · rintro i y σ H' hi ⟨v2, v3, rfl, rfl, e⟩
      obtain ⟨t, ht, rfl⟩ := refs_at hi
      obtain ⟨⟨u, n⟩, hu, htt⟩ := paired_at T8 i t ht
      refine ⟨t, _, rfl, SqT.of htt, rfl, _, _, rfl, _, _, rfl, rfl, ?_⟩
      refine ⟨_, rfl, _, rfl, rfl, _, rfl, ?_⟩
      rw [first_drop hu] at e
      by_cases c : u = z
      · rw [if_pos c] at e
        refine if_pos_of (decide_eq_true (congrArg V.str c)) ?_
        refine ⟨_, rfl, ?_⟩
        rw [← e]
        exact k _ S8
      · rw [if_neg c] at e
        refine if_neg_of (decide_eq_false fun q => c (by injection q)) ?_
        exact ⟨_, _, rfl, rfl, e⟩
    · rintro σ H' ⟨v2, v3, rfl, rfl, e⟩
      refine ⟨_, rfl, ?_⟩
      have e2 : manyI z = -1 := e
      rw [e2] at k
      exact k _ S8
/-! ### a number, by the law's own look -/
def numI (p : Str) : Int := if okN p.cps.toList = true then (NumText.digitsVal p.cps.toList : Nat) else -1
def spNumber : Sp := fun vs H Q _ => ∃ p : Str, vs = [.str p] ∧ p.length ≤ 1000000 ∧ Q (.int (numI p)) H
theorem scNumber : FnScope nNumber ["_law_word"] (defScope sNumber) := ⟨rfl, rfl, rfl, by decide +kernel, rfl, by decide +kernel, by decide +kernel⟩
theorem ok_number {f : Addr} {fd : FuncData} (F : Fun K "_law_number" "_law_number" sNumber f fd) (TL : TxtL mg) : FnOk P w K mg base CX0 1 f fd ["_law_word"] spNumber := by
  refine F.ok scNumber (fun vs H Q E h => ?_) (fun cdv A outer s H vs Q E hr h => ?_)
  · obtain ⟨p, rfl, _⟩ := h
    rfl
  · obtain ⟨p, rfl, hp, k⟩ := h
    have nd := scNumber.nd
    refine ⟨_, (pss_cons (ps_mid (ps_if (PW.pt (pw_or (pt_cmpR op_eq (pv 0) pe_str (nomark _)) (pw_or (pt_cmpR op_gt (pe_callB call_len_str (by rfl) TL.len PySem.boot_len (pa_cons (pv 0) pa_nil)) pe_int (nomark _)) (pw_or1 (PW.pt (pw_and (pt_cmpR op_gt (pe_callB call_len_str (by rfl) TL.len PySem.boot_len (pa_cons (pv 0) pa_nil)) pe_int (nomark _)) (pw_and1 (pt_cmpR op_eq (pe_ix ix_str (pv 0) pe_int (fun _ _ => rfl)) pe_str (nomark _))))))))) (pss_one (ps_ret (pe_un un_neg pe_int))) pss_nil))
      (pss_cons (ps_for PassesOwn.never rfl (pi_str (pv 0)) (pg_name (i := 1) nd rfl (Or.inl rfl))
      (pss_one (ps_if (pt_cmpR op_notIn_sign (pv 1) pe_str (by rfl)) (pss_one (ps_ret (pe_un un_neg pe_int))) pss_nil)))
      (pss_one (ps_ret (pe_callTy call_int_str (by rfl) TL.int (by decide +kernel) (pa_cons (pv 0) pa_nil)))))), ?_⟩
    have e32 := str_len p
    have e00 : ("" : Str).cps.toList = [] := by decide +kernel
    have e48 : ("0" : Str).cps.toList = [48] := by decide +kernel
    have no : okN p.cps.toList = false → Q (.int (-1)) H := fun h => by
      have e : numI p = -1 := by unfold numI; rw [h]; rfl
      rw [← e]
      exact k
    refine ⟨fun σ' H' => σ' = L2.start nNumber [V.str p] ∧ H' = H ∧ ∃ c0 cs, p.cps.toList = c0 :: cs ∧ decide (1 ≤ p.cps.toList.length ∧ p.cps.toList.length ≤ 60) = true ∧ (!(decide (p.cps.toList.head? = some 48) && decide (p.cps.toList ≠ [48]))) = true, ?_, ?_⟩
    · refine ⟨_, rfl, rfl, _, rfl, ?_⟩
      by_cases h0 : p = ""
      · refine if_pos_of (decide_eq_true (congrArg V.str h0)) ?_
        refine iteT ?_
        refine ⟨1, rfl, no ?_⟩
        rw [h0, e00]
        rfl
      refine if_neg_of (decide_eq_false fun q => h0 (by injection q)) ?_
      obtain ⟨c0, cs, ec⟩ : ∃ c0 cs, p.cps.toList = c0 :: cs := by
        cases e : p.cps.toList with
        | nil => exact absurd (str_ext (e.trans e00.symm)) h0
        | cons c cs => exact ⟨c, cs, rfl⟩
      have hp1 : p.length = cs.length + 1 := by rw [e32, ec, List.length_cons]
      refine ⟨_, rfl, _, rfl, (by rw [sizeLine_eq]; omega), _, _, rfl, rfl, _, rfl, ?_⟩
      by_cases h1 : (60 : Int) < (p.length : Int)
      · refine if_pos_of (decide_eq_true h1) ?_
        refine iteT ?_
        refine ⟨1, rfl, no ?_⟩
        unfold okN
        rw [decide_eq_false (by rw [← e32]; omega)]
        rfl
      refine if_neg_of (decide_eq_false h1) ?_
      have hlen : decide (1 ≤ p.cps.toList.length ∧ p.cps.toList.length ≤ 60) = true := decide_eq_true (by rw [← e32]; omega)
      refine ⟨_, rfl, _, rfl, (by rw [sizeLine_eq]; omega), _, _, rfl, rfl, _, rfl, ?_⟩
      by_cases h2 : (1 : Int) < (p.length : Int)
      case neg =>
        refine if_neg_of (decide_eq_false h2) ?_
        refine iteF ?_
        refine ⟨rfl, rfl, c0, cs, ec, hlen, ?_⟩
        have : cs = [] := List.eq_nil_of_length_eq_zero (by omega)
        rw [ec, this]
        by_cases q : c0 = 48
        · rw [q]; rfl
        · simp [q]
      refine if_pos_of (decide_eq_true h2) ?_
      refine ⟨_, rfl, p, 0, c0, rfl, rfl, (by rw [sizeLine_eq]; omega), atI_nat (xs := p.cps.toList) (j := 0) (show p.cps.toList[0]? = some c0 by rw [ec]; rfl), rfl, _, rfl, ?_⟩
      by_cases h3 : c0 = 48
      · subst h3
        refine if_pos_of (decide_eq_true (congrArg V.str (by decide +kernel))) ?_
        refine ⟨1, rfl, no ?_⟩
        unfold okN
        have : cs ≠ [] := fun z => by rw [z] at hp1; rw [hp1] at h2; exact absurd h2 (by decide)
        rw [ec]
        simp [this]
      · have ne48 : V.str ⟨#[c0]⟩ ≠ V.str "0" := fun z => h3 (by
          injection z with z
          have := congrArg (fun x : Str => x.cps.toList) z
          rw [e48] at this
          injection this)
        refine if_neg_of (decide_eq_false ne48) ?_
        refine ⟨rfl, rfl, c0, cs, ec, hlen, ?_⟩
        rw [ec]
        simp [h3]
    rintro σ' H' ⟨rfl, eH, c0, cs, ec, hlen, hz⟩
    subst eH
    have szl : p.cps.size = p.cps.toList.length := Array.length_toList.symm
    refine ⟨_, rfl, p, rfl, ?_⟩
    refine for_it walk_str (fun i σ H2 => ∃ v1 : Option V, σ = [some (.str p), v1] ∧ H2 = H' ∧ ∀ c ∈ p.cps.toList.take i, 48 ≤ c ∧ c ≤ 57) ⟨none, rfl, rfl, fun c hc => by cases hc⟩ (fun _ _ _ _ _ => trivial) ?_ ?_
    · rintro i x σ H2 H3 hi ⟨v1, rfl, e2, hd⟩ ⟨rfl, c, hc, rfl⟩
      subst e2
      have hc' : p.cps.toList[i]? = some c := by rw [Array.getElem?_toList]; exact hc
      refine ⟨_, rfl, c, _, rfl, rfl, _, rfl, ?_⟩
      by_cases h : c ∈ ("0123456789" : Str).cps.toList
      · refine if_neg_of (by rw [decide_eq_true h]; rfl) ?_
        refine ⟨_, rfl, rfl, fun d hd' => ?_⟩
        rw [takeS hc'] at hd'
        rcases List.mem_append.mp hd' with q | q
        · exact hd d q
        · rw [List.mem_singleton.mp q]; exact (figs_digits c).mp h
      · refine if_pos_of (by rw [decide_eq_false h]; rfl) ?_
        refine ⟨1, rfl, no ?_⟩
        unfold okN
        have : (p.cps.toList.all fun c => decide (48 ≤ c ∧ c ≤ 57)) = false := by
          rw [Bool.eq_false_iff]
          intro q
          exact h ((figs_digits c).mpr (of_decide_eq_true (List.all_eq_true.mp q c (List.mem_of_getElem? hc'))))
        rw [hlen, this]
        rfl
    · rintro σ H2 ⟨v1, rfl, e2, hd⟩
      subst e2
      rw [szl, List.take_length] at hd
      have ok : okN p.cps.toList = true := by
        unfold okN
        rw [hlen, List.all_eq_true.mpr fun c hc => decide_eq_true (hd c hc), hz]
        rfl
      have e : numI p = (NumText.digitsVal p.cps.toList : Nat) := if_pos ok
      refine ⟨_, rfl, p, _, rfl, intText_digits hd (by rw [ec]; simp) (by have := (of_decide_eq_true hlen).2; omega), (by have := (of_decide_eq_true hlen).2; omega), ?_⟩
      rw [← e]
      exact k
/-! ### a line cut sign by sign -/
theorem cut_snoc (c : Nat) : ∀ (l : List Nat) (ini : List (List Nat)) (la : List Nat), cutL l = ini ++ [la] → cutL (l ++ [c]) = if c = 32 then ini ++ [la] ++ [[]] else ini ++ [la ++ [c]]
  | [], ini, la, h => by
    have : ini = [] ∧ la = [] := by
      cases ini with
      | nil => injection h with h; exact ⟨rfl, h.symm⟩
      | cons x ini =>
        have := congrArg List.length h
        rw [List.length_append, List.length_cons, List.length_singleton] at this
        have e1 : (cutL ([] : List Nat)).length = 1 := rfl
        omega
    obtain ⟨rfl, rfl⟩ := this
    show cutL [c] = _
    rw [cutL_cons]
    by_cases q : c = 32
    · rw [if_pos q, if_pos q]; rfl
    · rw [if_neg q, if_neg q]; rfl
  | d :: l, ini, la, h => by
    obtain ⟨ini', la', e'⟩ : ∃ ini' la', cutL l = ini' ++ [la'] := ⟨_, _, (List.dropLast_concat_getLast (cutL_ne l)).symm⟩
    have ih := cut_snoc c l ini' la' e'
    rw [cutL_cons] at h
    show cutL (d :: (l ++ [c])) = _
    rw [cutL_cons]
    by_cases hd : d = 32
    · rw [if_pos hd] at h ⊢
      rw [e', ← List.cons_append] at h
      obtain ⟨h1, h2⟩ := List.append_inj' h rfl
      injection h2 with h2
      subst h1 h2
      rw [ih]
      by_cases q : c = 32
      · rw [if_pos q, if_pos q]; rfl
      · rw [if_neg q, if_neg q]; rfl
    · rw [if_neg hd] at h ⊢
      rw [ih]
      cases ini' with
      | nil =>
        rw [e'] at h
        have h : [d :: la'] = ini ++ [la] := h
        have hi : ini = [] := by
          cases ini with
          | nil => rfl
          | cons x ini =>
            have := congrArg List.length h
            simp only [List.length_append, List.length_cons, List.length_nil] at this
            omega
        subst hi
        injection h with h
        subst h
        by_cases q : c = 32
        · rw [if_pos q, if_pos q]; rfl
        · rw [if_neg q, if_neg q]; rfl
      | cons p ps =>
        rw [e'] at h
        have h : ((d :: p) :: ps) ++ [la'] = ini ++ [la] := h
        obtain ⟨h1, h2⟩ := List.append_inj' h rfl
        injection h2 with h2
        subst h1 h2
        by_cases q : c = 32
        · rw [if_pos q, if_pos q]; rfl
        · rw [if_neg q, if_neg q]; rfl
theorem glue_cut : ∀ l : List Nat, glue (cutL l) = l
  | [] => rfl
  | c :: l => by
    have ih := glue_cut l
    rw [cutL_cons]
    by_cases h : c = 32
    · rw [if_pos h, h]
      cases e : cutL l with
      | nil => exact absurd e (cutL_ne l)
      | cons p ps =>
        rw [e] at ih
        show [] ++ 32 :: glue (p :: ps) = _
        rw [ih]
        rfl
    · rw [if_neg h]
      cases e : cutL l with
      | nil => exact absurd e (cutL_ne l)
      | cons p ps =>
        rw [e] at ih
        cases ps with
        | nil =>
          have ih : p = l := ih
          show c :: p = _
          rw [ih]
        | cons q ps =>
          show (c :: p) ++ 32 :: glue (q :: ps) = _
          rw [← ih]
          rfl
def toS (p : List Nat) : Str := ⟨p.toArray⟩
theorem toS_list (p : List Nat) : (toS p).cps.toList = p := rfl
theorem toS_of (y : Str) : toS y.cps.toList = y := str_ext rfl
theorem split_words (z : Str) : Txt.split z " " = (cutL z.cps.toList).map toS := by
  rw [← split_cut, List.map_map]
  refine (List.map_id _).symm.trans (List.map_congr_left fun y _ => ?_)
  exact (toS_of y).symm
theorem atI_neg {α : Type} (xs : List α) (y : α) : atI (xs ++ [y]) (-1) = some y ∧ ixN (xs ++ [y]).length (-1) = some xs.length := by
  have h : ixN (xs ++ [y]).length (-1) = some xs.length := by
    unfold ixN
    rw [if_neg (by decide), List.length_append, List.length_singleton]
    rw [if_pos (by omega)]
    congr 1
    omega
  refine ⟨?_, h⟩
  unfold atI
  rw [h]
  show (xs ++ [y])[xs.length]? = some y
  rw [List.getElem?_append_right (Nat.le_refl _), Nat.sub_self]
  rfl
theorem set_last {α : Type} (xs : List α) (y z : α) : (xs ++ [y]).set xs.length z = xs ++ [z] := by
  rw [List.set_append_right _ _ (Nat.le_refl _), Nat.sub_self]
  rfl
def spDueOf : Sp := fun vs H Q _ => ∃ z : Str, vs = [.str z] ∧ z.length ≤ 100000 ∧ ∀ H', Same H H' →
  (∀ u ns, readP (Txt.split z " ") = some (u, ns) → ∀ t, H t = none → H' t = some (.tup (.str u :: ns.map fun n => V.int (n : Nat))) → Q (.ref t) H') ∧ (readP (Txt.split z " ") = none → Q .non H')
theorem scDueOf : FnScope nDueOf ["_law_line"] (defScope sDueOf) := ⟨rfl, rfl, rfl, by decide +kernel, rfl, by decide +kernel, by decide +kernel⟩
theorem ok_dueof {f fRD fRN fSH fW fD fN fM1 fM2 fM3 fM4 fM5 fM6 fM7 fM8 : Addr} {fd dRD dRN dSH dW dD dN dM1 dM2 dM3 dM4 dM5 dM6 dM7 dM8 : FuncData} (F : Fun K "_law_due_of" "_law_due_of" sDueOf f fd) (TL : TxtL mg) (D : Defs K mg C B fRD fRN fSH fW fD fN fM1 fM2 fM3 fM4 fM5 fM6 fM7 fM8 dRD dRN dSH dW dD dN dM1 dM2 dM3 dM4 dM5 dM6 dM7 dM8) : FnOk P w K mg base CX0 2 f fd ["_law_line"] spDueOf := by
  have GM1 : FnOk P w K mg base CX0 1 fM1 dM1 ["_law_word"] spMany := ok_many D.FM1
  have GM2 : FnOk P w K mg base CX0 1 fM2 dM2 ["_law_word"] spNumber := ok_number D.FM2 TL
  refine F.ok scDueOf (fun vs H Q E h => ?_) (fun cdv A outer s H vs Q E hr h => ?_)
  · obtain ⟨z, rfl, _⟩ := h
    rfl
  · obtain ⟨z, rfl, hz, k⟩ := h
    have nd := scDueOf.nd
    have hr1 : Room 1 _ := hr
    refine ⟨_, (pss_cons (ps_set (i := 1) nd rfl (Or.inl rfl) (pe_lst (pa_cons pe_str pa_nil)))
      (pss_cons (ps_for PassesOwn.never rfl (pi_str (pv 0)) (pg_name (i := 2) nd rfl (Or.inl rfl))
      (pss_one (ps_mid (ps_if (pt_cmpR op_eq (pv 2) pe_str (nomark _)) (pss_one (ps_expr (pe_bm PySem.F.plainAttrs_list PySem.F.slot_list_append PySem.F.type_list_append mt_append (pv 1) (pa_cons pe_str pa_nil)))) (pss_one (ps_asg (pe_op op_add_str (pe_ix ix_list (pv 1) (pe_un un_neg pe_int) (fun _ _ => rfl)) (pv 2)) (pg_sub (pv 1) (pe_un un_neg pe_int) set_list)))))))
      (pss_cons (ps_setLc (i := 3) (own := [("_law_word", 4)]) (g := gName 4) (tt := tYes) (te := tCall spNumber [] E0 (tCons (tVar 4) tNil)) (by rfl) nd rfl rfl (sw_true rfl rfl rfl (by decide +kernel)) (pi_list (pe_slice sl_list (pv 1) (po_some pe_int) po_none)) (blkOk_by (N := nDueOf) (sc := defScope sDueOf) (by decide +kernel)) (fun _ _ _ _ _ => pg_name (i := 4) nd rfl (Or.inl rfl)) (fun _ _ _ _ _ => pts_nil) (fun _ _ _ _ _ => pe_call GM2 hr1 (by rfl) D.gM2 D.FM2.kp D.bM2 .nil pass0 (pa_cons (pv 4) pa_nil)))
      (pss_cons (ps_if (PW.pt (pw_or (pt_cmpR op_ne (pe_callB call_len_seq (by rfl) TL.len PySem.boot_len (pa_cons (pv 3) pa_nil)) (pe_call GM1 hr1 (by rfl) D.gM1 D.FM1.kp D.bM1 .nil pass0 (pa_cons (pe_ix ix_list (pv 1) pe_int (fun _ _ => rfl)) pa_nil)) (nomark _)) (pw_or1 (pt_cmpR op_in_seq (pe_un un_neg pe_int) (pv 3) (by rfl))))) (pss_one (ps_ret pe_non)) pss_nil)
      (pss_one (ps_ret (pe_callTy call_tuple_of (by rfl) TL.tuple (by decide +kernel) (pa_cons (pe_op op_cat (pe_lst (pa_cons (pe_ix ix_list (pv 1) pe_int (fun _ _ => rfl)) pa_nil)) (pv 3)) pa_nil)))))))), ?_⟩
    refine ⟨(by show 1 ≤ sizeLine; decide), fun a ha => ?_⟩
    have S1 := Same.put (fun _ _ e => e) ha (.lst [V.str ""])
    have k1 : upd H a (.lst [V.str ""]) a = some (.lst (((cutL (z.cps.toList.take 0)).map toS).map V.str)) := upd_same
    generalize upd H a (.lst [V.str ""]) = H1 at S1 k1 ⊢
    have szl : z.cps.size = z.cps.toList.length := Array.length_toList.symm
    have szz : z.length = z.cps.toList.length := str_len z
    refine ⟨_, rfl, z, rfl, for_it walk_str (fun i σ H' => ∃ v2 : Option V, σ = [some (.str z), some (.ref a), v2, none, none] ∧ Same H H' ∧ H' a = some (.lst (((cutL (z.cps.toList.take i)).map toS).map V.str))) ⟨none, rfl, S1, k1⟩ (fun _ _ _ _ _ => trivial) ?_ ?_⟩
    · rintro i x σ H2 H3 hi ⟨v2, rfl, S2, k2⟩ ⟨rfl, c, hc, rfl⟩
      have hc' : z.cps.toList[i]? = some c := by rw [Array.getElem?_toList]; exact hc
      obtain ⟨ini, la, e⟩ : ∃ ini la, cutL (z.cps.toList.take i) = ini ++ [la] := ⟨_, _, (List.dropLast_concat_getLast (cutL_ne _)).symm⟩
      have e2 := cut_snoc c _ ini la e
      rw [← takeS hc'] at e2
      obtain ⟨g1, g2⟩ := len_glue (cutL (z.cps.toList.take i))
      rw [glue_cut, List.length_take] at g1 g2
      rw [e] at k2 g1 g2
      rw [List.map_append, List.map_append] at k2
      refine ⟨_, ?_, fun σ' H' h => h⟩
      refine ⟨_, rfl, rfl, _, rfl, ?_⟩
      have esp : (" " : Str).cps.toList = [32] := by decide +kernel
      by_cases h : c = 32
      · refine if_pos_of (decide_eq_true (by rw [h, sp1])) ?_
        rw [if_pos h] at e2
        refine ⟨_, rfl, .inl ⟨rfl, _, SqL.of k2⟩, a, _, _, rfl, rfl, k2, (by rw [List.length_append, List.length_map, List.length_map, sizeLine_eq]; rw [List.length_append, List.length_singleton] at g1; show ini.length + 1 < _; omega), ?_⟩
        refine ⟨_, rfl, Same.off S2 ha _, ?_⟩
        rw [upd_same, e2, List.map_append, List.map_append, List.map_append, List.map_append]
        rfl
      · have hne : V.str ⟨#[c]⟩ ≠ V.str " " := fun q => h (by
          injection q with q
          have := congrArg (fun x : Str => x.cps.toList) q
          rw [esp] at this
          injection this)
        refine if_neg_of (decide_eq_false hne) ?_
        rw [if_neg h] at e2
        obtain ⟨a1, a2⟩ := atI_neg ((ini.map toS).map V.str) (V.str (toS la))
        refine ⟨_, rfl, 1, rfl, a, _, _, _, rfl, rfl, SqL.of k2, a1, _, rfl, _, _, rfl, rfl, ?_, ?_⟩
        · have := g2 la (List.mem_append_right _ List.mem_cons_self)
          have e3 : (toS la).length = la.length := by rw [str_len, toS_list]
          show (toS la).length + 1 ≤ sizeLine
          rw [e3, sizeLine_eq]
          omega
        refine ⟨_, rfl, 1, rfl, a, _, _, _, rfl, rfl, k2, a2, ?_⟩
        refine ⟨_, rfl, Same.off S2 ha _, ?_⟩
        rw [upd_same]
        show some (HO.lst (((List.map V.str (List.map toS ini)) ++ [V.str (toS la)]).set _ _)) = _
        rw [set_last, e2, List.map_append, List.map_append]
        have e4 : toS la ++ ⟨#[c]⟩ = toS (la ++ [c]) := str_ext (by rw [Str.cps_append, Array.toList_append]; rfl)
        show some (HO.lst (_ ++ [V.str (toS la ++ ⟨#[c]⟩)])) = _
        rw [e4]
        rfl
    · rintro σ H2 ⟨v2, rfl, S2, k2⟩
      rw [szl, List.take_length, ← split_words] at k2
      obtain ⟨sm1, sm2⟩ := split_small z
      have hsp := PyProof.Rows.split_pos z " "
      have k' : ∀ H', Same H H' → (∀ u ns, readP (Txt.split z " ") = some (u, ns) → ∀ t, H t = none → H' t = some (.tup (.str u :: ns.map fun n => V.int (n : Nat))) → Q (.ref t) H') ∧ (readP (Txt.split z " ") = none → Q .non H') := k
      generalize Txt.split z " " = ps at k2 sm1 sm2 hsp k'
      obtain ⟨u, us, rfl⟩ : ∃ u us, ps = u :: us := by
        cases ps with
        | nil => exact absurd hsp (by decide)
        | cons u us => exact ⟨u, us, rfl⟩
      rw [List.length_cons] at sm1
      refine ⟨_, rfl, _, rfl, a, _, rfl, SqL.of k2, fun c hc => ?_⟩
      rw [show cutV ((u :: us).map V.str) (some 1) none = us.map V.str from by
        unfold cutV
        rw [HT.sIx_none, show HT.sIx ((u :: us).map V.str).length 0 (some 1) = 1 from by
          rw [show (some (1 : Int)) = some ((1 : Nat) : Int) from rfl, HT.sIx_nat, List.length_map, List.length_cons]
          omega]
        rw [List.map_cons, List.drop_succ_cons, List.drop_zero, List.take_of_length_le (by rw [List.length_cons]; omega)]]
      have S3 := Same.put S2 hc (.lst (us.map V.str))
      have kc3 : upd H2 c (.lst (us.map V.str)) c = some (.lst (us.map V.str)) := upd_same
      have ka3 : upd H2 c (.lst (us.map V.str)) a = some (.lst ((u :: us).map V.str)) := by rw [upd_ne (ne_of_none k2 hc)]; exact k2
      generalize upd H2 c (.lst (us.map V.str)) = H3 at S3 kc3 ka3 ⊢
      refine ⟨c, rfl, ⟨_, SqL.of kc3⟩, fun dl hdl => ?_⟩
      have ndl := Same.gone S3 hdl
      have ndc : c ≠ dl := ne_of_none kc3 hdl
      have nda : a ≠ dl := ne_of_none ka3 hdl
      refine lc_it walk_list (fun j H' => Same H H' ∧ H' c = some (.lst (us.map V.str)) ∧ H' a = some (.lst ((u :: us).map V.str)) ∧ H' dl = some (.lst (((us.take j).map numI).map V.int))) ⟨Same.put S3 hdl _, by rw [upd_ne ndc]; exact kc3, by rw [upd_ne nda]; exact ka3, upd_same⟩ (fun j H' _ ⟨_, h, _⟩ => SqL.of h) ?_ ?_
      · rintro j y H4 H5 hj ⟨S4, kc4, ka4, kd4⟩ ⟨rfl, hy⟩
        obtain ⟨p, hp, rfl⟩ : ∃ p, us[j]? = some p ∧ y = V.str p := by
          rw [List.getElem?_map] at hy
          cases e : us[j]? with
          | none => rw [e] at hy; cases hy
          | some p => rw [e] at hy; exact ⟨p, rfl, (Option.some.inj hy).symm⟩
        have hpm := List.mem_of_getElem? hp
        refine ⟨rfl, _, rfl, p, rfl, (by have := sm2 p (List.mem_cons_of_mem _ hpm); omega), ?_⟩
        refine ⟨_, kd4, (by rw [List.length_map, List.length_map, List.length_take, sizeLine_eq]; omega), Same.off S4 ndl _, by rw [upd_ne ndc]; exact kc4, by rw [upd_ne nda]; exact ka4, ?_⟩
        rw [upd_same, takeS hp, List.map_append, List.map_append]
        rfl
      rintro H4 ⟨S4, kc4, ka4, kd4⟩
      rw [List.length_map, List.take_length] at kd4
      refine ⟨_, rfl, dl, _, rfl, .inl (SqL.of kd4), _, rfl, a, _, _, _, rfl, rfl, SqL.of ka4, at_of (j := 0) rfl rfl, u, rfl, fun H5 S5 => ?_⟩
      have kd5 := S5 _ _ kd4
      have ka5 := S5 _ _ ka4
      have S6 := S4.trans S5
      clear S5 S4 kc4 ka4 kd4 S3 kc3 ka3 S2 k2
      refine ⟨rfl, _, rfl, ?_⟩
      rw [List.length_map, List.length_map]
      have eqm : V.int (us.length : Int) = V.int (manyI u) ↔ manyOf u = some us.length := by
        unfold manyI
        constructor
        · intro q
          injection q with q
          cases e : manyOf u with
          | none => rw [e] at q; have q : (us.length : Int) = -1 := q; omega
          | some n => rw [e] at q; have q : (us.length : Int) = (n : Int) := q; congr 1; omega
        · intro q
          rw [q]
          rfl
      by_cases hm : manyOf u = some us.length
      case neg =>
        refine if_pos_of (by rw [decide_eq_false fun q => hm (eqm.mp q)]; rfl) ?_
        refine iteT ?_
        exact (k' H5 S6).2 (if_neg fun q => hm q.1)
      refine if_neg_of (by rw [decide_eq_true (eqm.mpr hm)]; rfl) ?_
      refine ⟨1, rfl, _, rfl, dl, _, rfl, .inl (SqL.of kd5), rfl, flat_ints _, _, rfl, ?_⟩
      by_cases al : ∀ p ∈ us, okN p.cps.toList = true
      case neg =>
        have hin : (-1 : Int) ∈ us.map numI := by
          obtain ⟨p, hp⟩ := Classical.not_forall.mp al
          obtain ⟨hpm, hpo⟩ := Classical.not_imp.mp hp
          refine List.mem_map.mpr ⟨p, hpm, ?_⟩
          unfold numI
          rw [if_neg hpo]
        refine if_pos_of ?_ ?_
        · show inV (V.int (-1)) ((us.map numI).map V.int) = true
          rw [inV_ints, decide_eq_true hin]
        exact (k' H5 S6).2 (if_neg fun q => al q.2)
      have hnin : (-1 : Int) ∉ us.map numI := fun h => by
        obtain ⟨p, hp, e⟩ := List.mem_map.mp h
        unfold numI at e
        rw [if_pos (al p hp)] at e
        omega
      refine if_neg_of ?_ ?_
      · show inV (V.int (-1)) ((us.map numI).map V.int) = false
        rw [inV_ints, decide_eq_false hnin]
      have enum : (us.map numI).map V.int = (us.map fun p => NumText.digitsVal p.cps.toList).map fun n => V.int (n : Nat) := by
        rw [List.map_map, List.map_map]
        refine List.map_congr_left fun p hp => ?_
        show V.int (numI p) = _
        unfold numI
        rw [if_pos (al p hp)]
        rfl
      rw [enum] at kd5
      have hread : readP (u :: us) = some (u, us.map fun p => NumText.digitsVal p.cps.toList) := if_pos ⟨hm, al⟩
      refine ⟨_, rfl, a, _, _, _, rfl, rfl, SqL.of ka5, at_of (j := 0) rfl rfl, (by show 1 ≤ sizeLine; decide), fun l hl => ?_⟩
      have S7 := Same.put S6 hl (.lst [V.str u])
      have kd7 : upd H5 l (.lst [V.str u]) dl = _ := (upd_ne (ne_of_none kd5 hl)).trans kd5
      refine ⟨_, rfl, l, dl, _, _, rfl, rfl, upd_same, kd7, (by rw [List.length_map, List.length_map, sizeLine_eq]; show 1 + us.length ≤ _; omega), fun q hq => ?_⟩
      have S8 := Same.put S7 hq (.lst ([V.str u] ++ (us.map fun p => NumText.digitsVal p.cps.toList).map fun n => V.int (n : Nat)))
      refine ⟨q, _, rfl, .inl ⟨SqL.of upd_same, fun t ht => ?_⟩⟩
      refine (k' _ (Same.put S8 ht _)).1 u _ hread t (Same.gone S8 ht) ?_
      rw [upd_same]
      rfl
/-! ### two tuples alike -/
theorem nums_lV (ns : List Nat) : ns.map (fun n => V.int (n : Nat)) = lV (ns.map fun n : Nat => some (n : Int)) := by
  unfold lV
  rw [List.map_map]
  rfl
theorem cutT_tail (h : V) (xs : List V) : cutV (h :: xs) (some 1) none = xs := by
  unfold cutV
  rw [HT.sIx_none, show HT.sIx (h :: xs).length 0 (some 1) = 1 from by
    rw [show (some (1 : Int)) = some ((1 : Nat) : Int) from rfl, HT.sIx_nat, List.length_cons]
    omega]
  rw [List.drop_succ_cons, List.drop_zero, List.take_of_length_le (by rw [List.length_cons]; omega)]
def tupD (u : Str) (ns : List Nat) : HO := .tup (V.str u :: ns.map fun n => V.int (n : Nat))
def spAlike : Sp := fun vs H Q _ => ∃ (t t' : Addr) (u : Str) (ns : List Nat), vs = [.ref t, .ref t'] ∧ H t = some (tupD u ns) ∧ H t' = some (tupD u ns) ∧ ns.length ≤ 1000 ∧ ∀ H', Same H H' → Q (.bl true) H'
theorem scAlike : FnScope nAlike ["_law_found", "_law_due"] (defScope sAlike) := ⟨rfl, rfl, rfl, by decide +kernel, rfl, by decide +kernel, by decide +kernel⟩
theorem ok_alike {f fRD fRN fSH fW fD fN fM1 fM2 fM3 fM4 fM5 fM6 fM7 fM8 : Addr} {fd dRD dRN dSH dW dD dN dM1 dM2 dM3 dM4 dM5 dM6 dM7 dM8 : FuncData} (F : Fun K "_law_alike" "_law_alike" sAlike f fd) (TL : TxtL mg) (D : Defs K mg C B fRD fRN fSH fW fD fN fM1 fM2 fM3 fM4 fM5 fM6 fM7 fM8 dRD dRN dSH dW dD dN dM1 dM2 dM3 dM4 dM5 dM6 dM7 dM8) : FnOk P w K mg base CX0 3 f fd ["_law_found", "_law_due"] spAlike := by
  have GW : FnOk P w K mg base CX0 1 fW dW ["_law_found"] spWhole := ok_whole D.FW TL
  have GN : FnOk P w K mg base CX0 2 fN dN ["_law_found", "_law_due"] spNums := ok_nums D.FN TL D.FW D.bW D.gW
  refine F.ok scAlike (fun vs H Q E h => ?_) (fun cdv A outer s H vs Q E hr h => ?_)
  · obtain ⟨t, t', u, ns, rfl, _⟩ := h
    rfl
  · obtain ⟨t, t', u, ns, rfl, h1, h2, hl, k⟩ := h
    have hr2 : Room 2 _ := hr
    refine ⟨_, (pss_cons (ps_if (PW.pt (pw_or (pt_not (pt_val (pe_callB call_isi (by rfl) TL.isi PyProof.Rows.boot_isinstance (pa_cons (pv 0) (pa_cons (pe_bltn (v := .ty "tuple") (by rfl) TL.tuple (by decide +kernel) rfl) pa_nil))))) (pw_or (pt_not (pt_val (pe_callB call_isi (by rfl) TL.isi PyProof.Rows.boot_isinstance (pa_cons (pe_ix ix_tup (pv 0) pe_int (fun _ _ => rfl)) (pa_cons (pe_bltn (v := .ty "str") (by rfl) TL.str (by decide +kernel) rfl) pa_nil))))) (pw_or1 (pt_cmpR op_ne (pe_ix ix_tup (pv 0) pe_int (fun _ _ => rfl)) (pe_ix ix_tup (pv 1) pe_int (fun _ _ => rfl)) (nomark _)))))) (pss_one (ps_ret pe_bl)) pss_nil)
      (pss_one (ps_ret (pe_call GN hr2 (by rfl) D.gN D.FN.kp D.bN .nil pass0 (pa_cons (pe_callTy call_list_of (by rfl) TL.list (by decide +kernel) (pa_cons (pe_slice sl_tup (pv 0) (po_some pe_int) po_none) pa_nil)) (pa_cons (pe_callTy call_list_of (by rfl) TL.list (by decide +kernel) (pa_cons (pe_slice sl_tup (pv 1) (po_some pe_int) po_none) pa_nil)) pa_nil)))))), ?_⟩
    refine ⟨_, rfl, _, _, _, _, true, rfl, .ty "tuple", .base (.tup h1), kit_ty (by decide +kernel), _, rfl, ?_⟩
    refine iteF ?_
    refine ⟨_, rfl, t, _, _, _, rfl, rfl, SqT.of h1, at_of (j := 0) rfl rfl, _, _, _, _, true, rfl, .ty "str", .base (.str u), kit_ty (by decide +kernel), _, rfl, ?_⟩
    refine iteF ?_
    refine ⟨_, rfl, t, _, _, _, rfl, rfl, SqT.of h1, at_of (j := 0) rfl rfl, _, rfl, t', _, _, _, rfl, rfl, SqT.of h2, at_of (j := 0) rfl rfl, rfl, _, rfl, ?_⟩
    refine if_neg_of (by rw [decide_eq_true rfl]; rfl) ?_
    refine ⟨_, rfl, _, rfl, t, _, rfl, SqT.of h1, ?_⟩
    have hs1 : ¬ (HT.sIx (V.str u :: ns.map fun n => V.int (n : Nat)).length 0 (some 1) = 0 ∧ HT.sIx (V.str u :: ns.map fun n => V.int (n : Nat)).length (V.str u :: ns.map fun n => V.int (n : Nat)).length none = (V.str u :: ns.map fun n => V.int (n : Nat)).length) := fun z => by
      have z := z.1
      rw [show (some (1 : Int)) = some ((1 : Nat) : Int) from rfl, HT.sIx_nat, List.length_cons] at z
      omega
    refine ⟨hs1, fun p hp => ?_⟩
    rw [cutT_tail]
    have S1 := Same.put (fun _ _ e => e) hp (.tup (ns.map fun n => V.int (n : Nat)))
    have kp : upd H p (.tup (ns.map fun n => V.int (n : Nat))) p = some (.tup (ns.map fun n => V.int (n : Nat))) := upd_same
    generalize upd H p (.tup (ns.map fun n => V.int (n : Nat))) = H1 at S1 kp ⊢
    refine ⟨p, _, rfl, .inr (SqT.of kp), fun a ha => ?_⟩
    have S2 := Same.put S1 ha (.lst (ns.map fun n => V.int (n : Nat)))
    have ka : upd H1 a (.lst (ns.map fun n => V.int (n : Nat))) a = some (.lst (ns.map fun n => V.int (n : Nat))) := upd_same
    generalize upd H1 a (.lst (ns.map fun n => V.int (n : Nat))) = H2 at S2 ka ⊢
    have h2' := S2 _ _ h2
    refine ⟨_, rfl, _, rfl, t', _, rfl, SqT.of h2', hs1, fun p2 hp2 => ?_⟩
    rw [cutT_tail]
    have S3 := Same.put S2 hp2 (.tup (ns.map fun n => V.int (n : Nat)))
    have kp2 : upd H2 p2 (.tup (ns.map fun n => V.int (n : Nat))) p2 = some (.tup (ns.map fun n => V.int (n : Nat))) := upd_same
    have ka3 : upd H2 p2 (.tup (ns.map fun n => V.int (n : Nat))) a = some (.lst (ns.map fun n => V.int (n : Nat))) := by rw [upd_ne (ne_of_none ka hp2)]; exact ka
    generalize upd H2 p2 (.tup (ns.map fun n => V.int (n : Nat))) = H3 at S3 kp2 ka3 ⊢
    refine ⟨p2, _, rfl, .inr (SqT.of kp2), fun a2 ha2 => ?_⟩
    have S4 := Same.put S3 ha2 (.lst (ns.map fun n => V.int (n : Nat)))
    refine ⟨a, a2, ns.map fun n : Nat => some (n : Int), rfl, ?_, ?_, by rw [List.length_map]; exact hl, k _ S4⟩
    · rw [upd_ne (ne_of_none ka3 ha2), ← nums_lV]
      exact ka3
    · rw [upd_same, ← nums_lV]
/-! ### odd lines -/
def spOddLine : Sp := fun vs H Q _ => ∃ c : Int, vs = [.int c] ∧ ∀ (z : Str) (H' : Hp), z.length ≤ 20 → Same H H' → Q (.str z) H'
def oddL : List Str := ["", " ", "tidy ", " tidy", "Tidy", "tidy 0", "make", "make 1", "make 1 2 3", "make  1 2", "MAKE 1 2", "drop -1", "drop +1", "drop 01", "hold 1,2", "put 1 2", "empty 1 2 ", "take 1 2 x", "drop 1.", "   "]
theorem odd_len : ∀ z ∈ oddL, z.length ≤ 20 := by
  have : oddL.all (fun z => decide (z.length ≤ 20)) = true := by decide +kernel
  intro z hz
  exact of_decide_eq_true (List.all_eq_true.mp this z hz)
theorem scOddLine : FnScope nOddLine ["_law_cell"] (defScope sOddLine) := ⟨rfl, rfl, rfl, by decide +kernel, rfl, by decide +kernel, by decide +kernel⟩
theorem ok_oddline {f : Addr} {fd : FuncData} (F : Fun K "_law_odd_line" "_law_odd_line" sOddLine f fd) : FnOk P w K mg base CX0 1 f fd ["_law_cell"] spOddLine := by
  refine F.ok scOddLine (fun vs H Q E h => ?_) (fun cdv A outer s H vs Q E hr h => ?_)
  · obtain ⟨c, rfl, _⟩ := h
    rfl
  · obtain ⟨c, rfl, k⟩ := h
    have nd := scOddLine.nd
    refine ⟨_, (pss_cons (ps_set (i := 1) nd rfl (Or.inl rfl) (pe_lst (pa_cons pe_str (pa_cons pe_str (pa_cons pe_str (pa_cons pe_str (pa_cons pe_str (pa_cons pe_str (pa_cons pe_str (pa_cons pe_str (pa_cons pe_str (pa_cons pe_str (pa_cons pe_str pa_nil)))))))))))))
      (pss_cons (ps_expr (pe_bm PySem.F.plainAttrs_list PySem.F.slot_list_append PySem.F.type_list_append mt_append (pv 1) (pa_cons pe_str pa_nil)))
      (pss_cons (ps_set (i := 1) nd rfl (Or.inl rfl) (pe_op op_cat (pv 1) (pe_lst (pa_cons pe_str (pa_cons pe_str (pa_cons pe_str (pa_cons pe_str (pa_cons pe_str (pa_cons pe_str (pa_cons pe_str (pa_cons pe_str pa_nil)))))))))))
      (pss_one (ps_ret (pe_ix ix_list (pv 1) (pe_op op_mod (pv 0) pe_int) (fun _ _ => rfl))))))), ?_⟩
    refine ⟨(by show 11 ≤ sizeLine; decide), fun a ha => ?_⟩
    refine ⟨_, rfl, .inl ⟨rfl, _, SqL.of upd_same⟩, a, _, _, rfl, rfl, upd_same, (by show 11 < sizeLine; decide), ?_⟩
    rw [upd_upd]
    have S1 := Same.put (fun _ _ e => e) ha (.lst ([V.str "", V.str " ", V.str "tidy ", V.str " tidy", V.str "Tidy", V.str "tidy 0", V.str "make", V.str "make 1", V.str "make 1 2 3", V.str "make  1 2", V.str "MAKE 1 2"] ++ [V.str "drop -1"]))
    have ka : upd H a (.lst ([V.str "", V.str " ", V.str "tidy ", V.str " tidy", V.str "Tidy", V.str "tidy 0", V.str "make", V.str "make 1", V.str "make 1 2 3", V.str "make  1 2", V.str "MAKE 1 2"] ++ [V.str "drop -1"])) a = some (.lst ((oddL.take 12).map V.str)) := upd_same
    generalize upd H a (.lst ([V.str "", V.str " ", V.str "tidy ", V.str " tidy", V.str "Tidy", V.str "tidy 0", V.str "make", V.str "make 1", V.str "make 1 2 3", V.str "make  1 2", V.str "MAKE 1 2"] ++ [V.str "drop -1"])) = H1 at S1 ka ⊢
    refine ⟨_, rfl, (by show 8 ≤ sizeLine; decide), fun b hb => ?_⟩
    have S2 := Same.put S1 hb (.lst ((oddL.drop 12).map V.str))
    have ka2 : upd H1 b (.lst ((oddL.drop 12).map V.str)) a = some (.lst ((oddL.take 12).map V.str)) := by rw [upd_ne (ne_of_none ka hb)]; exact ka
    refine ⟨a, b, _, _, rfl, rfl, ka2, upd_same, (by show 12 + 8 ≤ sizeLine; decide), fun d hd => ?_⟩
    have S3 := Same.put S2 hd (.lst ((oddL.take 12).map V.str ++ (oddL.drop 12).map V.str))
    have m0 : 0 ≤ c % 20 := Int.emod_nonneg _ (by decide)
    have m1 : c % 20 < 20 := Int.emod_lt_of_pos _ (by decide)
    have ol : oddL.length = 20 := by decide +kernel
    obtain ⟨z, hz⟩ : ∃ z, oddL[(c % 20).toNat]? = some z := ⟨_, List.getElem?_eq_getElem (by omega)⟩
    refine ⟨_, rfl, _, rfl, _, _, rfl, rfl, (by show (0 : Int) < 20; decide), d, _, _, V.str z, rfl, rfl, SqL.of upd_same, at_of (j := (c % 20).toNat) (by omega) ?_, k z _ (odd_len z (List.mem_of_getElem? hz)) S3⟩
    show (List.map V.str (List.take 12 oddL) ++ List.map V.str (List.drop 12 oddL))[(c % 20).toNat]? = _
    rw [← List.map_append, List.take_append_drop, List.getElem?_map, hz]
    rfl
/-! ### a deed written -/
def lineOf (u : Str) (ns : List Nat) : Str := Str.join " " (u :: ns.map fun n : Nat => (toString (n : Int) : Str))
theorem scShown : FnScope nShown ["deed"] (defScope sShown) := ⟨rfl, rfl, rfl, by decide +kernel, rfl, by decide +kernel, by decide +kernel⟩
def spShown : Sp := fun vs H Q _ => ∃ (t : Addr) (u : Str) (ns : List Nat), vs = [.ref t] ∧ H t = some (tupD u ns) ∧ u.length ≤ 100 ∧ ns.length ≤ 100 ∧ (∀ n ∈ ns, n < 10 ^ 60) ∧ ∀ H', Same H H' → Q (.str (lineOf u ns)) H'
theorem log_small {n : Nat} (h : n < 10 ^ 60) : ((n : Int)).natAbs.log2 < 1920 := by
  rw [Int.natAbs_natCast]
  by_cases z : n = 0
  · rw [z]; decide
  · exact Nat.lt_of_lt_of_le ((Nat.log2_lt z).mpr (Nat.lt_of_lt_of_le h (by decide : 10 ^ 60 ≤ 2 ^ 200))) (by decide)
theorem txt_join (sep : Str) (l : List Str) : Txt.join sep l = Str.join sep l := eq_of_beq (PyProof.Rows.join_plain_closes sep l)
theorem ts_list (n : Nat) : (toString (n : Int) : Str).cps.toList = TL.numL n := TL.tl_num n
theorem ok_shown {f : Addr} {fd : FuncData} (F : Fun K "shown" "shown" sShown f fd) (TL : TxtL mg) : FnOk P w K mg base CX0 1 f fd ["deed"] spShown := by
  refine F.ok scShown (fun vs H Q E h => ?_) (fun cdv A outer s H vs Q E hr h => ?_)
  · obtain ⟨t, u, ns, rfl, _⟩ := h
    rfl
  · obtain ⟨t, u, ns, rfl, ht, hu, hn, hns, k⟩ := h
    have nd := scShown.nd
    refine ⟨_, (pss_one (ps_ret (pe_join pe_str (pe_lc (own := [("part", 1)]) (g := gName 1) (tt := tYes) (te := tCB rStrE (tCons (tVar 1) tNil)) (by rfl) nd (pi_tup (pv 0)) (blkOk_by (N := nShown) (sc := defScope sShown) (by decide +kernel)) (fun _ _ _ _ _ => pg_name (i := 1) nd rfl (Or.inl rfl)) (fun _ _ _ _ _ => pts_nil) (fun _ _ _ _ _ => pe_callTy call_strE (by rfl) TL.str (by decide +kernel) (pa_cons (pv 1) pa_nil)))))), ?_⟩
    refine ⟨⟨_, rfl⟩, _, rfl, t, rfl, ⟨_, SqT.of ht⟩, fun D hD => ?_⟩
    have nDt : t ≠ D := ne_of_none ht hD
    refine lc_it walk_tup (fun j H' => Same H H' ∧ H' t = some (tupD u ns) ∧ H' D = some (.lst (((u :: ns.map fun n : Nat => (toString (n : Int) : Str)).take j).map V.str))) ⟨Same.put (fun _ _ e => e) hD _, by rw [upd_ne nDt]; exact ht, upd_same⟩ (fun j H' _ ⟨_, h, _⟩ => SqT.of h) ?_ ?_
    · rintro j y H4 H5 hj ⟨S4, kt4, kd4⟩ ⟨rfl, hy⟩
      refine ⟨rfl, _, rfl, ?_⟩
      have nD : H D = none := hD
      cases j with
      | zero =>
        have hy : y = V.str u := (Option.some.inj hy).symm
        subst hy
        refine .inr ⟨u, rfl, ?_⟩
        exact ⟨_, kd4, (by show 0 < sizeLine; decide), Same.off S4 nD _, by rw [upd_ne nDt]; exact kt4, upd_same⟩
      | succ j =>
        have hy : (ns.map fun n => V.int (n : Nat))[j]? = some y := hy
        rw [List.getElem?_map] at hy
        cases e : ns[j]? with
        | none => rw [e] at hy; cases hy
        | some n =>
          rw [e] at hy
          have hy : y = V.int (n : Nat) := (Option.some.inj hy).symm
          subst hy
          refine .inl ⟨(n : Int), rfl, log_small (hns n (List.mem_of_getElem? e)), ?_⟩
          refine ⟨_, kd4, (by rw [List.length_map, List.length_take, sizeLine_eq]; simp only [List.length_cons, List.length_map]; omega), Same.off S4 nD _, by rw [upd_ne nDt]; exact kt4, ?_⟩
          rw [upd_same, takeS (i := j + 1) (x := (toString (n : Int) : Str)) (by rw [List.getElem?_cons_succ, List.getElem?_map, e]; rfl), List.map_append]
          rfl
    · rintro H4 ⟨S4, kt4, kd4⟩
      rw [show (V.str u :: ns.map fun n => V.int (n : Nat)).length = (u :: ns.map fun n : Nat => (toString (n : Int) : Str)).length from by rw [List.length_cons, List.length_cons, List.length_map, List.length_map], List.take_length] at kd4
      refine ⟨_, D, _, rfl, rfl, .inl (SqL.of kd4), ?_, by rw [txt_join]; exact k _ S4⟩
      have hb : ∀ y ∈ u :: ns.map fun n : Nat => (toString (n : Int) : Str), y.length ≤ 100 := fun y hy => by
        rcases List.mem_cons.mp hy with rfl | hy
        · exact hu
        · obtain ⟨n, hn', e⟩ := List.mem_map.mp hy
          rw [← e, str_len, ts_list]
          have := _root_.TL.numL_len (k := 60) (by decide) (hns n hn')
          omega
      have h1 := StrLaws.sumLen_le (B := 100) _ hb
      have e1 : (" " : Str).length = 1 := by decide +kernel
      rw [e1]
      rw [List.length_cons, List.length_map] at h1 ⊢
      omega
/-! ### refused -/
structure TxtE (K : PySem.W.Frag) (mg : Str → Option Value) (eP eH eS eF eB eL eD : Addr) : Prop where
  gP : mg "PileError" = some (.ref eP)
  gH : mg "NoHand" = some (.ref eH)
  gS : mg "NoSize" = some (.ref eS)
  gF : mg "Full" = some (.ref eF)
  gB : mg "NoBox" = some (.ref eB)
  gL : mg "NoSlot" = some (.ref eL)
  ve : mg "ValueError" = none
  DP : PySem.W.exmOne K (.ref eD) (.ref eP) = some true
  DD : PySem.W.exmOne K (.ref eD) (.ref eD) = some true
  C : ExcC K eD
  kA : PySem.W.kitAny K (.ref eD) [.ref eH, .ref eS, .ref eF, .ref eB, .ref eL] = some false
  kV : PySem.W.kitOne K (.ref eD) (.type "ValueError") = some true
  kD : PySem.W.kitOne K (.ref eD) (.ref eD) = some true
def spRefused (Pt : Addr) : Sp := fun vs H Q _ => ∃ z : Str, vs = [.str z] ∧ z.length ≤ 100000 ∧ GxR.TabG H Pt ∧ ∀ H', Past Pt H H' → Q (.bl (decide (readP (Txt.split z " ") = none))) H'
def spRefusedByAll (Pt : Addr) : Sp := fun vs H Q _ => ∃ z : Str, vs = [.str z] ∧ z.length ≤ 100000 ∧ readP (Txt.split z " ") = none ∧ GxR.TabG H Pt ∧ ∀ H', Past Pt H H' → Q (.bl true) H'
theorem scRefused : FnScope ["_law_line"] ["_law_line"] (defScope sRefused) := ⟨rfl, rfl, rfl, by decide +kernel, rfl, by decide +kernel, by decide +kernel⟩
theorem scRefusedByAll : FnScope ["_law_line", "e"] ["_law_line"] (defScope sRefusedByAll) := ⟨rfl, rfl, rfl, by decide +kernel, rfl, by decide +kernel, by decide +kernel⟩
theorem ok_refused {f eP eD dW' cR Pt fRD fRN fSH fW fD fN fM1 fM2 fM3 fM4 fM5 fM6 fM7 fM8 : Addr} {fd dRD dRN dSH dW dD dN dM1 dM2 dM3 dM4 dM5 dM6 dM7 dM8 : FuncData} (F : Fun K "_law_refused" "_law_refused" sRefused f fd) (TN : TxtN K w mg eD dW') (TE : TxtE K mg eP eH eS eF eB eL eD) (TB : GxR.TabB base mg cR Pt) (hcR : dRN.code = .ref cR) (D : Defs K mg C B fRD fRN fSH fW fD fN fM1 fM2 fM3 fM4 fM5 fM6 fM7 fM8 dRD dRN dSH dW dD dN dM1 dM2 dM3 dM4 dM5 dM6 dM7 dM8) : FnOk P w K mg base CX0 3 f fd ["_law_line"] (spRefused Pt) := by
  have GRN : FnOk P w K mg base (L2.CX P w) 1 fRN dRN ["part"] (spReadNumber Pt eD) := ok_readnumber D.FRN hcR TN TB
  have GRD : FnOk P w K mg base (L2.CX P w) 2 fRD dRD ["line"] (spRead Pt eD) := ok_read D.FRD TN GRN D.FRN D.bRN D.gRN
  refine F.ok scRefused (fun vs H Q E h => ?_) (fun cdv A outer s H vs Q E hr h => ?_)
  · obtain ⟨z, rfl, _⟩ := h
    rfl
  · obtain ⟨z, rfl, hz, hT, k⟩ := h
    have hr2 : Room 2 _ := hr
    refine ⟨_, pss_cons (ps_try_only (c := .ref eD) (tb := fun W => tDrop (tCall (spRead Pt eD) [] (EWx W) (tCons (tVar 0) tNil))) (ts := fun _ _ _ => tRet (tC (.bl true))) (Wout := fun _ _ _ _ => False) rfl rfl ⟨rfl, by decide, .inl TN.eD.g⟩ takes0
      (fun W pn xe tk _ => pss_one (ps_expr (pe_call (E := EWx W) GRD hr2 (by rfl) D.gRD D.FRD.kp D.bRD .nil (passes_call tk (fun cls d σ H h => h σ)) (pa_cons (pv 0) pa_nil)))) (fun a oe cls d pn _ _ => pss_one (ps_ret pe_bl))) (pss_one (ps_ret pe_bl)), ?_⟩
    refine ⟨_, rfl, z, rfl, by omega, hT, fun H' P' => ⟨fun u ns e t _ _ => ?_, fun e σ => ⟨true, TE.DD, fun _ a ha => ?_, fun q => nomatch q⟩⟩⟩
    · have := k H' P'
      rw [e, decide_eq_false (by intro q; cases q)] at this
      exact this
    · have := k H' P'
      rw [e, decide_eq_true rfl] at this
      exact this
theorem ok_refusedbyall {f eP eD dW' cR Pt fRD fRN fSH fW fD fN fM1 fM2 fM3 fM4 fM5 fM6 fM7 fM8 : Addr} {fd dRD dRN dSH dW dD dN dM1 dM2 dM3 dM4 dM5 dM6 dM7 dM8 : FuncData} (F : Fun K "_law_refused_by_all" "_law_refused_by_all" sRefusedByAll f fd) (TL : TxtL mg) (TN : TxtN K w mg eD dW') (TE : TxtE K mg eP eH eS eF eB eL eD) (TB : GxR.TabB base mg cR Pt) (hcR : dRN.code = .ref cR) (D : Defs K mg C B fRD fRN fSH fW fD fN fM1 fM2 fM3 fM4 fM5 fM6 fM7 fM8 dRD dRN dSH dW dD dN dM1 dM2 dM3 dM4 dM5 dM6 dM7 dM8) : FnOk P w K mg base CX0 3 f fd ["_law_line"] (spRefusedByAll Pt) := by
  have GRN : FnOk P w K mg base (L2.CX P w) 1 fRN dRN ["part"] (spReadNumber Pt eD) := ok_readnumber D.FRN hcR TN TB
  have GRD : FnOk P w K mg base (L2.CX P w) 2 fRD dRD ["line"] (spRead Pt eD) := ok_read D.FRD TN GRN D.FRN D.bRN D.gRN
  refine F.ok scRefusedByAll (fun vs H Q E h => ?_) (fun cdv A outer s H vs Q E hr h => ?_)
  · obtain ⟨z, rfl, _⟩ := h
    rfl
  · obtain ⟨z, rfl, hz, hn, hT, k⟩ := h
    have nd := scRefusedByAll.nd
    have hr2 : Room 2 _ := hr
    refine ⟨_, pss_cons (ps_try_mix (tb := fun W => tDrop (tCallS (spRead Pt eD) (WE W) (tCons (tVar 0) tNil))) (Wout := fun _ _ _ _ => False) rfl rfl takes0
      (fun W pn xe tk _ => pss_one (ps_expr (pe_callS GRD hr2 (by rfl) D.gRD D.FRD.kp D.bRD (fun σ => passAt tk σ) (pa_cons (pv 0) pa_nil))))
      (.named (i := 1) (ts := fun a cls d => tSeq (tIfS (tB (tCB (rIsEs K a cls d) (tCons (tVar 1) (tCons (tTup (tCons (tC (.ref eH)) (tCons (tC (.ref eS)) (tCons (tC (.ref eF)) (tCons (tC (.ref eB)) (tCons (tC (.ref eL)) tNil)))))) tNil)))) (tRet (tC (.bl false))) tNext) (tRet (tAndV (tCB (rIsE1 K a cls d) (tCons (tVar 1) (tCons (tC (.ty "ValueError")) tNil))) (tCB (rIsE1 K a cls d) (tCons (tVar 1) (tCons (tC (.ref eD)) tNil)))))) nd rfl rfl ⟨rfl, by decide, .inl TE.gP⟩
        (fun a oe cls d pn hz hf => pss_cons (ps_if (pt_val (pe_callB (call_isEs hz hf) (by rfl) TL.isi PyProof.Rows.boot_isinstance (pa_cons (pv 1) (pa_cons (pe_tup (pa_cons (pe_glob (v := .ref eH) rfl TE.gH rfl) (pa_cons (pe_glob (v := .ref eS) rfl TE.gS rfl) (pa_cons (pe_glob (v := .ref eF) rfl TE.gF rfl) (pa_cons (pe_glob (v := .ref eB) rfl TE.gB rfl) (pa_cons (pe_glob (v := .ref eL) rfl TE.gL rfl) pa_nil)))))) pa_nil)))) (pss_one (ps_ret pe_bl)) pss_nil)
          (pss_one (ps_ret (pe_and (pe_callB (call_isE1 hz hf) (by rfl) TL.isi PyProof.Rows.boot_isinstance (pa_cons (pv 1) (pa_cons (pe_bltn (v := .ty "ValueError") (by rfl) TE.ve (by decide +kernel) rfl) pa_nil))) (pe_one (pe_callB (call_isE1 hz hf) (by rfl) TL.isi PyProof.Rows.boot_isinstance (pa_cons (pv 1) (pa_cons (pe_glob (v := .ref eD) rfl TN.eD.g rfl) pa_nil))))))))
        (.bare (ts := fun _ _ _ => tRet (tC (.bl false))) ⟨rfl, by decide, .inl TN.eD.g⟩ (fun a oe cls d pn _ _ => pss_one (ps_ret pe_bl)) .nil))) (pss_one (ps_ret pe_bl)), ?_⟩
    refine ⟨_, rfl, z, rfl, by omega, hT, fun H' P' => ⟨fun u ns e t _ _ => (by rw [hn] at e; cases e), fun e => ⟨true, TE.DP, fun _ a ha => ?_, fun q => nomatch q⟩⟩⟩
    refine ⟨_, rfl, (by show 5 ≤ sizeLine; decide), fun tp htp => ?_⟩
    refine ⟨eD, tp, _, _, false, rfl, rfl, TE.C, rfl, upd_same, .cons (.own _) (.cons (.own _) (.cons (.own _) (.cons (.own _) (.cons (.own _) .nil)))), TE.kA, _, rfl, ?_⟩
    refine iteF ?_
    refine ⟨_, rfl, eD, _, _, true, rfl, rfl, TE.C, rfl, .ty _, TE.kV, _, rfl, ?_⟩
    refine iteT ⟨_, rfl, eD, _, _, true, rfl, rfl, TE.C, rfl, .own _, TE.kD, ?_⟩
    exact k _ (P'.new htp _)
/-! ### a line out of a line -/
theorem ite_both {c : Prop} [Decidable c] {p q : Prop} (h1 : p) (h2 : q) : if c then p else q := by split <;> assumption
def spLineBy : Sp := fun vs H Q _ => ∃ (z : Str) (way c : Int), vs = [.str z, .int way, .int c] ∧ 1 ≤ z.length ∧ z.length ≤ 10000 ∧ ∀ (y : Str) (H' : Hp), y.length ≤ 50000 → Same H H' → Q (.str y) H'
theorem scLineBy : FnScope nLineBy ["_law_line", "_law_way", "_law_cell"] (defScope sLineBy) := ⟨rfl, rfl, rfl, by decide +kernel, rfl, by decide +kernel, by decide +kernel⟩
theorem ok_lineby {f fRD fRN fSH fW fD fN fM1 fM2 fM3 fM4 fM5 fM6 fM7 fM8 : Addr} {fd dRD dRN dSH dW dD dN dM1 dM2 dM3 dM4 dM5 dM6 dM7 dM8 : FuncData} (F : Fun K "_law_line_by" "_law_line_by" sLineBy f fd) (TL : TxtL mg) (D : Defs K mg C B fRD fRN fSH fW fD fN fM1 fM2 fM3 fM4 fM5 fM6 fM7 fM8 dRD dRN dSH dW dD dN dM1 dM2 dM3 dM4 dM5 dM6 dM7 dM8) : FnOk P w K mg base CX0 2 f fd ["_law_line", "_law_way", "_law_cell"] spLineBy := by
  have GM5 : FnOk P w K mg base CX0 1 fM5 dM5 ["_law_cell"] spOddLine := ok_oddline D.FM5
  refine F.ok scLineBy (fun vs H Q E h => ?_) (fun cdv A outer s H vs Q E hr h => ?_)
  · obtain ⟨z, way, c, rfl, _⟩ := h
    rfl
  · obtain ⟨z, way, c, rfl, h1, h2, k⟩ := h
    have nd := scLineBy.nd
    have hr1 : Room 1 _ := hr
    refine ⟨_, (pss_str (i := 3) nd rfl (Or.inl rfl)
      (psst_cons (PST.of (ps_set (i := 4) nd rfl (Or.inl rfl) (pe_ix ix_str (pv 3) (pe_op op_mod (pv 2) pe_int) (fun _ _ => rfl))))
      (psst_cons (PST.of (ps_set (i := 5) nd rfl (Or.inl rfl) (pe_op op_modN (pe_op op_fdiv (pv 2) pe_int) (pe_callB call_len_str (by rfl) TL.len PySem.boot_len (pa_cons (pv 0) pa_nil)))))
      (psst_cons (PST.of (ps_if (pt_cmpR op_eq (pv 1) pe_int (nomark _)) (pss_one (ps_ret (pe_call GM5 hr1 (by rfl) D.gM5 D.FM5.kp D.bM5 .nil pass0 (pa_cons (pv 2) pa_nil)))) pss_nil))
      (psst_cons (PST.of (ps_if (pt_cmpR op_eq (pv 1) pe_int (nomark _)) (pss_cons (ps_set (i := 5) nd rfl (Or.inl rfl) (pe_op op_modN (pe_op op_fdiv (pv 2) pe_int) (pe_op op_add (pe_callB call_len_str (by rfl) TL.len PySem.boot_len (pa_cons (pv 0) pa_nil)) pe_int)))
      (pss_one (ps_ret (pe_op op_add_str (pe_op op_add_str (pe_slice sl_str (pv 0) po_none (po_some (pv 5))) (pv 4)) (pe_slice sl_str (pv 0) (po_some (pv 5)) po_none))))) pss_nil))
      (psst_cons (PST.of (ps_if (pt_cmpR op_eq (pv 1) pe_int (nomark _)) (pss_one (ps_ret (pe_op op_add_str (pe_slice sl_str (pv 0) po_none (po_some (pv 5))) (pe_slice sl_str (pv 0) (po_some (pe_op op_add (pv 5) pe_int)) po_none)))) pss_nil))
      (psst_cons (PST.of (ps_if (pt_cmpR op_eq (pv 1) pe_int (nomark _)) (pss_one (ps_ret (pe_op op_add_str (pe_op op_add_str (pe_slice sl_str (pv 0) po_none (po_some (pv 5))) (pv 4)) (pe_slice sl_str (pv 0) (po_some (pe_op op_add (pv 5) pe_int)) po_none)))) pss_nil))
      (psst_cons (CwR.pst_if (pt_cmpR op_eq (pv 1) pe_int (nomark _)) (CwR.psst_one (CwR.pst_ret (pet_repl3 (pv 0) (pe_op op_mod (pv 2) pe_int) (pe_op op_add pe_int (pe_op op_mod (pe_op op_fdiv (pv 2) pe_int) pe_int)) (by decide +kernel) (fun _ _ => rfl)))) CwR.psst_nil)
      (CwR.psst_one (PST.of (ps_ret (pv 0)))))))))))), ?_⟩
    have sl : 50000 ≤ sizeLine := by rw [sizeLine_eq]; decide
    have m0 : 0 ≤ c % 94 := Int.emod_nonneg _ (by decide)
    have m1 : c % 94 < 94 := Int.emod_lt_of_pos _ (by decide)
    obtain ⟨g, hg⟩ : ∃ g, (" !\"#$&'()*+,-./0123456789:;<=>?@ABCDEFGHIJKLMNOPQRSTUVWXYZ[\\]^_`abcdefghijklmnopqrstuvwxyz{|}~" : Str).cps.toList[(c % 94).toNat]? = some g := ⟨_, List.getElem?_eq_getElem (by
      have : (" !\"#$&'()*+,-./0123456789:;<=>?@ABCDEFGHIJKLMNOPQRSTUVWXYZ[\\]^_`abcdefghijklmnopqrstuvwxyz{|}~" : Str).cps.toList.length = 94 := by decide +kernel
      omega)⟩
    have len1 : (⟨#[g]⟩ : Str).length = 1 := rfl
    have cl : ∀ lo hi, (cutS z lo hi).length ≤ z.length := fun lo hi => J1.cutS_len_le z lo hi
    refine ⟨_, rfl, _, rfl, _, _, rfl, rfl, (by show (0 : Int) < 94; decide), _, _, g, rfl, rfl, by rw [sizeLine_eq]; decide +kernel, (by have := atI_nat hg; rw [Int.toNat_of_nonneg m0] at this; exact this), ?_⟩
    refine ⟨_, rfl, _, _, rfl, rfl, ⟨(by show (0 : Int) < 94; decide), by decide⟩, _, rfl, z, rfl, by omega, _, _, rfl, rfl, (by show ((z.length : Nat) : Int) ≠ 0; omega), ?_⟩
    refine ⟨_, rfl, rfl, _, rfl, ite_both ?_ ?_⟩
    · exact ⟨_, rfl, c, rfl, fun y H' hy S => k y H' (by omega) S⟩
    refine ⟨_, rfl, rfl, _, rfl, ite_both ?_ ?_⟩
    · refine ⟨_, rfl, _, _, rfl, rfl, ⟨(by show (0 : Int) < 94; decide), by decide⟩, _, rfl, z, rfl, by omega, _, _, rfl, rfl, _, _, rfl, rfl, (by show ((z.length : Nat) : Int) + 1 ≠ 0; omega), ?_⟩
      have l1 := cl none (some ((c / 94).fmod ((z.length : Nat) + 1)))
      have l2 := cl (some ((c / 94).fmod ((z.length : Nat) + 1))) none
      refine ⟨_, rfl, _, rfl, _, rfl, z, rfl, by omega, _, rfl, _, _, rfl, rfl, by rw [len1]; omega, _, rfl, _, rfl, _, rfl, z, rfl, by omega, _, _, rfl, rfl, by rw [Str.length_append, len1]; omega, k _ _ (by rw [Str.length_append, Str.length_append, len1]; omega) (Same.refl _)⟩
    have l1 := cl none (some ((c / 94).fmod (z.length : Nat)))
    have l2 := cl (some ((c / 94).fmod (z.length : Nat) + 1)) none
    refine ⟨_, rfl, rfl, _, rfl, ite_both ?_ ?_⟩
    · refine ⟨_, rfl, _, rfl, _, rfl, z, rfl, by omega, _, rfl, _, rfl, _, _, rfl, rfl, _, rfl, z, rfl, by omega, _, _, rfl, rfl, by omega, k _ _ (by rw [Str.length_append]; omega) (Same.refl _)⟩
    refine ⟨_, rfl, rfl, _, rfl, ite_both ?_ ?_⟩
    · refine ⟨_, rfl, _, rfl, _, rfl, z, rfl, by omega, _, rfl, _, _, rfl, rfl, by rw [len1]; omega, _, rfl, _, rfl, _, _, rfl, rfl, _, rfl, z, rfl, by omega, _, _, rfl, rfl, by rw [Str.length_append, len1]; omega, k _ _ (by rw [Str.length_append, Str.length_append, len1]; omega) (Same.refl _)⟩
    refine ⟨_, rfl, rfl, _, rfl, ite_both ?_ ?_⟩
    · have n0 : 0 ≤ c % 3 := Int.emod_nonneg _ (by decide)
      have n1 : c % 3 < 3 := Int.emod_lt_of_pos _ (by decide)
      have o0 : 0 ≤ c / 3 % 2 := Int.emod_nonneg _ (by decide)
      have o1 : c / 3 % 2 < 2 := Int.emod_lt_of_pos _ (by decide)
      refine ⟨_, rfl, z, rfl, by omega, fun H2 S2 => ⟨_, rfl, _, _, rfl, rfl, (by show (0 : Int) < 3; decide), _, rfl, n0, n1, rfl, _, rfl, _, _, rfl, rfl, ⟨(by show (0 : Int) < 3; decide), by decide⟩, _, _, rfl, rfl, (by show (0 : Int) < 2; decide), _, _, rfl, rfl, _, rfl, (by omega), (by omega), fun r hr => k r _ (by omega) S2⟩⟩
    exact ⟨_, rfl, k _ _ (by omega) (Same.refl _)⟩
/-! ### a line read again -/
theorem numL_head : ∀ n : Nat, n ≠ 0 → (_root_.TL.numL n).head? ≠ some 48 := fun n => by
  induction n using Nat.strongRecOn with
  | _ n ih =>
    intro h0
    by_cases h : n < 10
    · rw [_root_.TL.numL_lt h]
      intro z
      have z : some (48 + n) = some 48 := z
      have := Option.some.inj z
      omega
    · rw [_root_.TL.numL_step (by omega)]
      have h1 := ih (n / 10) (by omega) (by omega)
      cases e : _root_.TL.numL (n / 10) with
      | nil => exact absurd e (_root_.TL.numL_ne _)
      | cons c cs =>
        rw [e] at h1
        exact h1
theorem okN_num {n : Nat} (h : n < 10 ^ 60) : okN (_root_.TL.numL n) = true := by
  unfold okN
  rw [Bool.and_eq_true, Bool.and_eq_true]
  refine ⟨⟨decide_eq_true ⟨?_, _root_.TL.numL_len (by decide) h⟩, List.all_eq_true.mpr fun c hc => decide_eq_true (_root_.TL.numL_digits n c hc)⟩, ?_⟩
  · cases e : _root_.TL.numL n with
    | nil => exact absurd e (_root_.TL.numL_ne n)
    | cons c cs => rw [List.length_cons]; omega
  · by_cases h0 : n = 0
    · rw [h0]
      decide +kernel
    · rw [decide_eq_false (numL_head n h0)]
      rfl
theorem map_inj_str {l l' : List Str} (h : l.map (fun y => y.cps.toList) = l'.map fun y => y.cps.toList) : l = l' := by
  induction l generalizing l' with
  | nil => cases l' with
    | nil => rfl
    | cons y l' => cases h
  | cons x l ih => cases l' with
    | nil => cases h
    | cons y l' =>
      rw [List.map_cons, List.map_cons] at h
      injection h with h1 h2
      rw [str_ext h1, ih h2]
theorem split_line {u : Str} {ns : List Nat} (hu : 32 ∉ u.cps.toList) : Txt.split (lineOf u ns) " " = u :: ns.map fun n : Nat => (toString (n : Int) : Str) := by
  refine map_inj_str ?_
  rw [split_cut]
  unfold lineOf
  rw [sp1, join_glue]
  refine cutL_glue _ (by intro h; cases h) fun p hp => ?_
  obtain ⟨y, hy, e⟩ := List.mem_map.mp hp
  rcases List.mem_cons.mp hy with rfl | hy
  · rw [← e]; exact hu
  · obtain ⟨n, _, e2⟩ := List.mem_map.mp hy
    rw [← e, ← e2, ts_list]
    exact _root_.TL.numL_free (.inl (by decide))
theorem readP_line {u : Str} {ns : List Nat} (hu : 32 ∉ u.cps.toList) (hm : manyOf u = some ns.length) (hns : ∀ n ∈ ns, n < 10 ^ 60) : readP (Txt.split (lineOf u ns) " ") = some (u, ns) := by
  rw [split_line hu]
  show (if manyOf u = some (ns.map fun n : Nat => (toString (n : Int) : Str)).length ∧ ∀ p ∈ ns.map (fun n : Nat => (toString (n : Int) : Str)), okN p.cps.toList = true then some (u, (ns.map fun n : Nat => (toString (n : Int) : Str)).map fun p => NumText.digitsVal p.cps.toList) else none) = _
  have hok : ∀ p ∈ ns.map (fun n : Nat => (toString (n : Int) : Str)), okN p.cps.toList = true := fun p hp => by
    obtain ⟨n, hn, e⟩ := List.mem_map.mp hp
    rw [← e, ts_list]
    exact okN_num (hns n hn)
  have hm2 : manyOf u = some (ns.map fun n : Nat => (toString (n : Int) : Str)).length := by rw [List.length_map]; exact hm
  rw [if_pos ⟨hm2, hok⟩, List.map_map]
  have : ns.map ((fun p : Str => NumText.digitsVal p.cps.toList) ∘ fun n : Nat => (toString (n : Int) : Str)) = ns.map id := List.map_congr_left fun n _ => by
    show NumText.digitsVal (toString (n : Int) : Str).cps.toList = n
    rw [ts_list]
    exact _root_.TL.numL_val n
  rw [this, List.map_id]
theorem line_len {u : Str} {ns : List Nat} (hu : u.length ≤ 100) (hl : ns.length ≤ 3) (hns : ∀ n ∈ ns, n < 10 ^ 60) : (lineOf u ns).length ≤ 10000 := by
  have h := join_len " " 100 (u :: ns.map fun n : Nat => (toString (n : Int) : Str)) fun y hy => by
    rcases List.mem_cons.mp hy with rfl | hy
    · exact hu
    · obtain ⟨n, hn', e⟩ := List.mem_map.mp hy
      rw [← e, str_len, ts_list]
      have := _root_.TL.numL_len (k := 60) (by decide) (hns n hn')
      omega
  have e1 : (" " : Str).length = 1 := by decide +kernel
  rw [e1, List.length_cons, List.length_map] at h
  refine Nat.le_trans h ?_
  have : (ns.length + 1) * (100 + 1) ≤ 4 * 101 := Nat.mul_le_mul_right _ (by omega)
  omega
theorem line_pos {u : Str} {ns : List Nat} (hu : 1 ≤ u.length) : 1 ≤ (lineOf u ns).length := by
  unfold lineOf
  cases ns with
  | nil => exact hu
  | cons n ns =>
    show 1 ≤ (u ++ " " ++ Str.join " " ((toString (n : Int) : Str) :: ns.map fun n : Nat => (toString (n : Int) : Str))).length
    rw [Str.length_append, Str.length_append]
    omega
def w7 : List Str := ["make", "hold", "drop", "put", "empty", "take", "tidy"]
theorem word_at (c : Int) : ∃ u k, w7[(c % 7).toNat]? = some u ∧ manyOf u = some k ∧ k ≤ 3 ∧ 1 ≤ u.length ∧ u.length ≤ 100 ∧ 32 ∉ u.cps.toList := by
  have m0 : 0 ≤ c % 7 := Int.emod_nonneg _ (by decide)
  have m1 : c % 7 < 7 := Int.emod_lt_of_pos _ (by decide)
  obtain ⟨u, hu⟩ : ∃ u, w7[(c % 7).toNat]? = some u := ⟨_, List.getElem?_eq_getElem (by show _ < 7; omega)⟩
  have all : w7.all (fun u => (match manyOf u with | some k => decide (k ≤ 3) | none => false) && decide (1 ≤ u.length) && decide (u.length ≤ 100) && decide (32 ∉ u.cps.toList)) = true := by decide +kernel
  have h := List.all_eq_true.mp all u (List.mem_of_getElem? hu)
  rw [Bool.and_eq_true, Bool.and_eq_true, Bool.and_eq_true] at h
  obtain ⟨⟨⟨h1, h2⟩, h3⟩, h4⟩ := h
  cases e : manyOf u with
  | none => rw [e] at h1; cases h1
  | some k =>
    rw [e] at h1
    exact ⟨u, k, hu, e, of_decide_eq_true h1, of_decide_eq_true h2, of_decide_eq_true h3, of_decide_eq_true h4⟩
theorem Past.same {Pt : Addr} {H H' : Hp} (T : GxR.TabG H Pt) (S : Same H H') : Past Pt H H' := by
  obtain ⟨ps, e, t⟩ := T
  exact ⟨⟨ps, S _ _ e, t⟩, fun b o _ h => S b o h⟩
theorem Past.seq {Pt : Addr} {K : PySem.W.Frag} {H H' : Hp} {a : Addr} {xs : List V} (p : Past Pt H H') (T : GxR.TabG H Pt) (h : SqL K H a xs) : SqL K H' a xs := by
  obtain ⟨ps, e, t⟩ := T
  refine h.elim (fun h => .inl (h.elim (fun h => .inl (p.2 _ _ (fun z => ?_) h)) fun ⟨o, h⟩ => .inr ⟨o, p.2 _ _ (fun z => ?_) h⟩)) fun h => .inr h
  · rw [z, e] at h; cases h
  · rw [z, e] at h; cases h
theorem manyOf_le {z : Str} {k : Nat} (h : manyOf z = some k) : k ≤ 3 := by
  unfold manyOf at h
  repeat' split at h
  all_goals first
    | (injection h with h; omega)
    | cases h
theorem readP_len {ps : List Str} {u : Str} {ns : List Nat} (h : readP ps = some (u, ns)) : ns.length ≤ 3 := by
  cases ps with
  | nil => cases h
  | cons w ps =>
    have h : (if manyOf w = some ps.length ∧ ∀ p ∈ ps, okN p.cps.toList = true then some (w, ps.map fun p => NumText.digitsVal p.cps.toList) else none) = some (u, ns) := h
    by_cases c : manyOf w = some ps.length ∧ ∀ p ∈ ps, okN p.cps.toList = true
    · rw [if_pos c] at h
      injection h with h
      injection h with h1 h2
      rw [← h2, List.length_map]
      exact manyOf_le c.1
    · rw [if_neg c] at h
      cases h
theorem line_sum {u : Str} {ns : List Nat} (hu : u.length ≤ 100) (hl : ns.length ≤ 3) (hns : ∀ n ∈ ns, n < 10 ^ 60) : ((u :: ns.map fun n : Nat => (toString (n : Int) : Str)).map (fun x => x.length)).sum + (u :: ns.map fun n : Nat => (toString (n : Int) : Str)).length * (" " : Str).length ≤ 16777216 := by
  have hb : ∀ y ∈ u :: ns.map fun n : Nat => (toString (n : Int) : Str), y.length ≤ 100 := fun y hy => by
    rcases List.mem_cons.mp hy with rfl | hy
    · exact hu
    · obtain ⟨n, hn', e⟩ := List.mem_map.mp hy
      rw [← e, str_len, ts_list]
      have := _root_.TL.numL_len (k := 60) (by decide) (hns n hn')
      omega
  have h1 := StrLaws.sumLen_le (B := 100) _ hb
  have e1 : (" " : Str).length = 1 := by decide +kernel
  rw [e1]
  rw [List.length_cons, List.length_map] at h1 ⊢
  omega
/-! ### law -/
theorem scLaw : FnScope nLaw ["_law_script"] (defScope sLaw) := ⟨rfl, rfl, rfl, by decide +kernel, rfl, by decide +kernel, by decide +kernel⟩
theorem ok_law {f eP eD dW' cR Pt fRD fRN fSH fW fD fN fM1 fM2 fM3 fM4 fM5 fM6 fM7 fM8 : Addr} {fd dRD dRN dSH dW dD dN dM1 dM2 dM3 dM4 dM5 dM6 dM7 dM8 : FuncData} (F : Fun K "law" "law" sLaw f fd) (TL : TxtL mg) (TN : TxtN K w mg eD dW') (TE : TxtE K mg eP eH eS eF eB eL eD) (TB : GxR.TabB base mg cR Pt) (hcR : dRN.code = .ref cR) (D : Defs K mg C B fRD fRN fSH fW fD fN fM1 fM2 fM3 fM4 fM5 fM6 fM7 fM8 dRD dRN dSH dW dD dN dM1 dM2 dM3 dM4 dM5 dM6 dM7 dM8) : FnOk P w K mg base CX0 5 f fd ["_law_script"] (spLawT K Pt) := by
  have GRN : FnOk P w K mg base (L2.CX P w) 1 fRN dRN ["part"] (spReadNumber Pt eD) := ok_readnumber D.FRN hcR TN TB
  have GRD : FnOk P w K mg base (L2.CX P w) 2 fRD dRD ["line"] (spRead Pt eD) := ok_read D.FRD TN GRN D.FRN D.bRN D.gRN
  have GD : FnOk P w K mg base CX0 1 fD dD ["_law_script", "_law_k"] (spCellAt K) := ok_cellat D.FD TL
  have GM1 : FnOk P w K mg base CX0 1 fM1 dM1 ["_law_word"] spMany := ok_many D.FM1
  have GM3 : FnOk P w K mg base CX0 2 fM3 dM3 ["_law_line"] spDueOf := ok_dueof D.FM3 TL D
  have GM4 : FnOk P w K mg base CX0 3 fM4 dM4 ["_law_found", "_law_due"] spAlike := ok_alike D.FM4 TL D
  have GM6 : FnOk P w K mg base CX0 3 fM6 dM6 ["_law_line"] (spRefused Pt) := ok_refused D.FM6 TN TE TB hcR D
  have GM7 : FnOk P w K mg base CX0 3 fM7 dM7 ["_law_line"] (spRefusedByAll Pt) := ok_refusedbyall D.FM7 TL TN TE TB hcR D
  have GM8 : FnOk P w K mg base CX0 2 fM8 dM8 ["_law_line", "_law_way", "_law_cell"] spLineBy := ok_lineby D.FM8 TL D
  have GSH : FnOk P w K mg base CX0 1 fSH dSH ["deed"] spShown := ok_shown D.FSH TL
  refine F.ok scLaw (fun vs H Q E h => ?_) (fun cdv A outer s H vs Q E hr h => ?_)
  · obtain ⟨a, sc, rfl, _⟩ := h
    rfl
  · obtain ⟨a, sc, rfl, hS, hlen, hbits, hP, k⟩ := h
    have nd := scLaw.nd
    have hr1 : Room 1 _ := hr.mono (by decide)
    have hr2 : Room 2 _ := hr.mono (by decide)
    have hr3 : Room 3 _ := hr.mono (by decide)
    refine ⟨_, (pss_cons (ps_set (i := 1) nd rfl (Or.inl rfl) (pe_ix ix_list (pe_lst (pa_cons pe_str (pa_cons pe_str (pa_cons pe_str (pa_cons pe_str (pa_cons pe_str (pa_cons pe_str (pa_cons pe_str pa_nil)))))))) (pe_op op_mod (pe_call GD hr1 (by rfl) D.gD D.FD.kp D.bD .nil pass0 (pa_cons (pv 0) (pa_cons pe_int pa_nil))) pe_int) (fun _ _ => rfl)))
      (pss_cons (ps_set (i := 2) nd rfl (Or.inr rfl) pe_int)
      (pss_cons (ps_mid (ps_if (pt_cmpR op_eq (pe_op op_mod (pe_call GD hr1 (by rfl) D.gD D.FD.kp D.bD .nil pass0 (pa_cons (pv 0) (pa_cons pe_int pa_nil))) pe_int) pe_int (nomark _)) (pss_one (ps_set (i := 2) nd rfl (Or.inr rfl) (pe_op op_pow pe_int pe_int))) pss_nil))
      (pss_cons (ps_setLc (i := 3) (own := [("_law_k", 8)]) (g := gName 8) (tt := tYes) (te := tOp (rI (fun _ j => j ≠ 0) fun i j => .int (i.fmod j)) (tCall (spCellAt K) [] E0 (tCons (tVar 0) (tCons (tOp (rI0 fun i j => .int (i + j)) (tC (.int 2)) (tVar 8)) tNil))) (tVar 2)) (by rfl) nd rfl rfl (sw_true rfl rfl rfl (by decide +kernel)) (pi_range1 (by rfl) TL.range (pa_cons (pe_call GM1 hr1 (by rfl) D.gM1 D.FM1.kp D.bM1 .nil pass0 (pa_cons (pv 1) pa_nil)) pa_nil)) (blkOk_by (N := nLaw) (sc := defScope sLaw) (by decide +kernel)) (fun _ _ _ _ _ => pg_name (i := 8) nd rfl (Or.inl rfl)) (fun _ _ _ _ _ => pts_nil) (fun _ _ _ _ _ => pe_op op_modN (pe_call GD hr1 (by rfl) D.gD D.FD.kp D.bD .nil pass0 (pa_cons (pv 0) (pa_cons (pe_op op_add pe_int (pv 8)) pa_nil))) (pv 2)))
      (pss_cons (ps_set (i := 4) nd rfl (Or.inl rfl) (pe_callTy call_tuple_of (by rfl) TL.tuple (by decide +kernel) (pa_cons (pe_op op_cat (pe_lst (pa_cons (pv 1) pa_nil)) (pv 3)) pa_nil)))
      (pss_cons (ps_set (i := 5) nd rfl (Or.inl rfl) (pe_join pe_str (pe_op op_cat (pe_lst (pa_cons (pv 1) pa_nil)) (pe_lc (own := [("_law_number_here", 9)]) (g := gName 9) (tt := tYes) (te := tCB rStrE (tCons (tVar 9) tNil)) (by rfl) nd (pi_list (pv 3)) (blkOk_by (N := nLaw) (sc := defScope sLaw) (by decide +kernel)) (fun _ _ _ _ _ => pg_name (i := 9) nd rfl (Or.inl rfl)) (fun _ _ _ _ _ => pts_nil) (fun _ _ _ _ _ => pe_callTy call_strE (by rfl) TL.str (by decide +kernel) (pa_cons (pv 9) pa_nil))))))
      (pss_cons (ps_set (i := 6) nd rfl (Or.inl rfl) (pe_call GSH hr1 (by rfl) D.gSH D.FSH.kp D.bSH .nil pass0 (pa_cons (pv 4) pa_nil)))
      (pss_cons (ps_if (PW.pt (pw_or (pt_not (pt_val (pe_callB call_isi (by rfl) TL.isi PyProof.Rows.boot_isinstance (pa_cons (pv 6) (pa_cons (pe_bltn (v := .ty "str") (by rfl) TL.str (by decide +kernel) rfl) pa_nil))))) (pw_or (pt_cmpR op_ne (pv 6) (pv 5) (nomark _)) (pw_or1 (pt_not (pt_val (pe_call GM4 hr3 (by rfl) D.gM4 D.FM4.kp D.bM4 .nil pass0 (pa_cons (pe_call GRD hr2 (by rfl) D.gRD D.FRD.kp D.bRD .nil passL (pa_cons (pv 6) pa_nil)) (pa_cons (pv 4) pa_nil))))))))) (pss_one (ps_ret pe_bl)) pss_nil)
      (pss_cons (ps_set (i := 5) nd rfl (Or.inl rfl) (pe_call GM8 hr2 (by rfl) D.gM8 D.FM8.kp D.bM8 .nil pass0 (pa_cons (pv 5) (pa_cons (pe_op op_mod (pe_op op_fdiv (pe_call GD hr1 (by rfl) D.gD D.FD.kp D.bD .nil pass0 (pa_cons (pv 0) (pa_cons pe_int pa_nil))) pe_int) pe_int) (pa_cons (pe_call GD hr1 (by rfl) D.gD D.FD.kp D.bD .nil pass0 (pa_cons (pv 0) (pa_cons pe_int pa_nil))) pa_nil)))))
      (pss_cons (ps_set (i := 7) nd rfl (Or.inl rfl) (pe_call GM3 hr2 (by rfl) D.gM3 D.FM3.kp D.bM3 .nil pass0 (pa_cons (pv 5) pa_nil)))
      (pss_cons (ps_if (pt_cmp (pc_isN (pv 7))) (pss_one (ps_ret (pe_and (pe_call GM6 hr3 (by rfl) D.gM6 D.FM6.kp D.bM6 .nil pass0 (pa_cons (pv 5) pa_nil)) (pe_one (pe_call GM7 hr3 (by rfl) D.gM7 D.FM7.kp D.bM7 .nil pass0 (pa_cons (pv 5) pa_nil)))))) pss_nil)
      (pss_one (ps_ret (pe_and (pe_not (pe_call GM6 hr3 (by rfl) D.gM6 D.FM6.kp D.bM6 .nil pass0 (pa_cons (pv 5) pa_nil))) (pe_one (pe_call GM4 hr3 (by rfl) D.gM4 D.FM4.kp D.bM4 .nil pass0 (pa_cons (pe_call GRD hr2 (by rfl) D.gRD D.FRD.kp D.bRD .nil passL (pa_cons (pv 5) pa_nil)) (pa_cons (pv 7) pa_nil)))))))))))))))))), ?_⟩
    have sl7 : 7 ≤ sizeLine := by decide
    have sl1 : 1 ≤ sizeLine := by decide
    have T0 : GxR.TabG H Pt := ⟨_, hP, trivial⟩
    obtain ⟨u, m, hu, hm, hm3, u1, u100, ufree⟩ := word_at (sc.getD 0 0)
    have m0 : 0 ≤ (sc.getD 0 0) % 7 := Int.emod_nonneg _ (by decide)
    refine ⟨sl7, fun p hp => ?_⟩
    have S1 := Same.put (fun _ _ e => e) hp (.lst [V.str "make", V.str "hold", V.str "drop", V.str "put", V.str "empty", V.str "take", V.str "tidy"])
    have kp : upd H p (.lst [V.str "make", V.str "hold", V.str "drop", V.str "put", V.str "empty", V.str "take", V.str "tidy"]) p = some (.lst (w7.map V.str)) := upd_same
    generalize upd H p (.lst [V.str "make", V.str "hold", V.str "drop", V.str "put", V.str "empty", V.str "take", V.str "tidy"]) = H1 at S1 kp ⊢
    have hS1 := S1.seq hS
    have hat : atI (w7.map V.str) (sc.getD 0 0 % 7) = some (V.str u) := at_of (j := (sc.getD 0 0 % 7).toNat) (Int.toNat_of_nonneg m0).symm (by rw [List.getElem?_map, hu]; rfl)
    refine ⟨_, rfl, a, sc, 0, rfl, hS1, _, _, rfl, rfl, (by show (0 : Int) < 7; decide), p, _, _, V.str u, rfl, rfl, SqL.of kp, hat, ?_⟩
    refine ⟨fun σ' H' => H' = H1 ∧ ∃ lg : Int, 0 < lg ∧ lg ≤ 10 ^ 60 ∧ σ' = [some (.ref a), some (.str u), some (.int lg), none, none, none, none, none, none, none], ?_, ?_⟩
    · refine ⟨_, rfl, a, sc, 1, rfl, hS1, _, _, rfl, rfl, (by show (0 : Int) < 3; decide), rfl, _, rfl, ite_both ?_ ?_⟩
      · exact ⟨_, _, rfl, rfl, ⟨by decide, by decide, by decide⟩, rfl, 10 ^ (60 : Int).toNat, by decide, by decide, rfl⟩
      · exact ⟨rfl, 10, by decide, by decide, rfl⟩
    rintro σ' H' ⟨rfl, lg, lg0, lg1, rfl⟩
    obtain ⟨ns, hns⟩ : ∃ ns : List Nat, (List.range m).map (fun i => ((sc.getD (2 + i) 0).fmod lg).toNat) = ns := ⟨_, rfl⟩
    have nsl : ns.length = m := by rw [← hns, List.length_map, List.length_range]
    have nsm : ∀ n ∈ ns, n < 10 ^ 60 := fun n hn => by
      rw [← hns] at hn
      obtain ⟨i, _, e⟩ := List.mem_map.mp hn
      have := Int.fmod_lt_of_pos (sc.getD (2 + i) 0) lg0
      have := Int.fmod_nonneg_of_pos (sc.getD (2 + i) 0) lg0
      omega
    have hmI : manyI u = (m : Int) := by unfold manyI; rw [hm]; rfl
    refine ⟨_, rfl, u, rfl, fun H2 S2 => ⟨_, rfl, by rw [hmI]; omega, by rw [hmI]; omega, fun D hD => ?_⟩⟩
    rw [hmI, Int.toNat_natCast]
    have hS2 := S2.seq hS1
    refine lc_it walk_range (fun j H' => Same H2 H' ∧ H' D = some (.lst ((ns.take j).map fun n : Nat => V.int (n : Nat)))) ⟨Same.put (fun _ _ e => e) hD _, upd_same⟩ (fun _ _ _ _ => trivial) ?_ ?_
    · rintro j y H4 H5 hj ⟨S4, kd4⟩ ⟨rfl, hy⟩
      subst hy
      have hS4 := S4.seq hS2
      have e : ns[j]? = some ((sc.getD (2 + j) 0).fmod lg).toNat := by
        rw [← hns, List.getElem?_map, List.getElem?_range hj]
        rfl
      refine ⟨rfl, _, rfl, _, rfl, _, _, rfl, rfl, a, sc, 2 + j, ?_, hS4, _, rfl, _, _, rfl, rfl, (by omega), _, kd4, ?_, Same.off S4 hD _, ?_⟩
      · show [V.ref a, V.int (2 + (0 + (j : Int)))] = [V.ref a, V.int ((2 + j : Nat) : Int)]
        rw [show (2 + (0 + (j : Int)) : Int) = ((2 + j : Nat) : Int) from by omega]
      · rw [List.length_map, List.length_take]
        refine Nat.lt_of_le_of_lt (Nat.min_le_right _ _) ?_
        rw [nsl]
        omega
      · rw [upd_same, takeS e, List.map_append]
        show _ = some (HO.lst (_ ++ [V.int ((((sc.getD (2 + j) 0).fmod lg).toNat : Nat) : Int)]))
        rw [Int.toNat_of_nonneg (Int.fmod_nonneg_of_pos _ lg0)]
    rintro H3 ⟨S3, kD⟩
    rw [← nsl, List.take_length] at kD
    have hS3 := S3.seq hS2
    have nD : H2 D = none := hD
    have P3 : Past Pt H H3 := Past.same T0 (S1.trans (S2.trans S3))
    have T3 := P3.1
    have hint : ∀ n ∈ ns, V.int (n : Nat) = V.int (n : Nat) := fun _ _ => rfl
    refine ⟨_, rfl, sl1, fun b hb => ?_⟩
    have kb4 : upd H3 b (.lst [V.str u]) b = some (.lst [V.str u]) := upd_same
    have kD4 : upd H3 b (.lst [V.str u]) D = some (.lst (ns.map fun n : Nat => V.int (n : Nat))) := by rw [upd_ne (ne_of_none kD hb)]; exact kD
    have S4 : Same H3 (upd H3 b (.lst [V.str u])) := Same.put (fun _ _ e => e) hb _
    generalize upd H3 b (.lst [V.str u]) = H4 at kb4 kD4 S4 ⊢
    refine ⟨_, rfl, b, D, _, _, rfl, rfl, kb4, kD4, by rw [List.length_map, nsl, sizeLine_eq, List.length_singleton]; omega, fun c hc => ?_⟩
    have kc5 : upd H4 c (.lst ([V.str u] ++ ns.map fun n : Nat => V.int (n : Nat))) c = some (.lst ([V.str u] ++ ns.map fun n : Nat => V.int (n : Nat))) := upd_same
    have S5 : Same H4 (upd H4 c (.lst ([V.str u] ++ ns.map fun n : Nat => V.int (n : Nat)))) := Same.put (fun _ _ e => e) hc _
    generalize upd H4 c (.lst ([V.str u] ++ ns.map fun n : Nat => V.int (n : Nat))) = H5 at kc5 S5 ⊢
    refine ⟨c, _, rfl, .inl ⟨SqL.of kc5, fun t ht => ?_⟩⟩
    have kt6 : upd H5 t (.tup ([V.str u] ++ ns.map fun n : Nat => V.int (n : Nat))) t = some (tupD u ns) := upd_same
    have S6 : Same H5 (upd H5 t (.tup ([V.str u] ++ ns.map fun n : Nat => V.int (n : Nat)))) := Same.put (fun _ _ e => e) ht _
    generalize upd H5 t (.tup ([V.str u] ++ ns.map fun n : Nat => V.int (n : Nat))) = H6 at kt6 S6 ⊢
    have kD6 := S6 _ _ (S5 _ _ kD4)
    have S36 := S4.trans (S5.trans S6)
    refine ⟨⟨_, rfl⟩, _, rfl, sl1, fun b2 hb2 => ?_⟩
    have kb7 : upd H6 b2 (.lst [V.str u]) b2 = some (.lst [V.str u]) := upd_same
    have S7 : Same H6 (upd H6 b2 (.lst [V.str u])) := Same.put (fun _ _ e => e) hb2 _
    generalize upd H6 b2 (.lst [V.str u]) = H7 at kb7 S7 ⊢
    have kD7 := S7 _ _ kD6
    refine ⟨_, rfl, D, rfl, ⟨_, SqL.of kD7⟩, fun D2 hD2 => ?_⟩
    refine lc_it walk_list (fun j H' => Same H7 H' ∧ H' D2 = some (.lst (((ns.map fun n : Nat => (toString (n : Int) : Str)).take j).map V.str))) ⟨Same.put (fun _ _ e => e) hD2 _, upd_same⟩ (fun j H' _ ⟨S, _⟩ => SqL.of (S _ _ kD7)) ?_ ?_
    · rintro j y H8 H9 hj ⟨S8, kd8⟩ ⟨rfl, hy⟩
      rw [List.getElem?_map] at hy
      cases e : ns[j]? with
      | none => rw [e] at hy; cases hy
      | some n =>
        rw [e] at hy
        have hy : y = V.int (n : Nat) := (Option.some.inj hy).symm
        subst hy
        refine ⟨rfl, _, rfl, .inl ⟨(n : Int), rfl, log_small (nsm n (List.mem_of_getElem? e)), ?_⟩⟩
        refine ⟨_, kd8, (by rw [List.length_map, List.length_take, List.length_map, sizeLine_eq]; omega), Same.off S8 hD2 _, ?_⟩
        rw [upd_same, takeS (i := j) (x := (toString (n : Int) : Str)) (by rw [List.getElem?_map, e]; rfl), List.map_append]
        rfl
    rintro H8 ⟨S8, kD8⟩
    rw [show (List.map (fun n : Nat => V.int (n : Nat)) ns).length = (ns.map fun n : Nat => (toString (n : Int) : Str)).length from by rw [List.length_map, List.length_map], List.take_length] at kD8
    have kb8 := S8 _ _ kb7
    refine ⟨b2, D2, _, _, rfl, rfl, kb8, kD8, by rw [List.length_map, List.length_map, nsl, sizeLine_eq, List.length_singleton]; omega, fun l hl => ?_⟩
    have kl9 : upd H8 l (.lst ([V.str u] ++ (ns.map fun n : Nat => (toString (n : Int) : Str)).map V.str)) l = some (.lst ((u :: ns.map fun n : Nat => (toString (n : Int) : Str)).map V.str)) := upd_same
    have S9 : Same H8 (upd H8 l (.lst ([V.str u] ++ (ns.map fun n : Nat => (toString (n : Int) : Str)).map V.str))) := Same.put (fun _ _ e => e) hl _
    generalize upd H8 l (.lst ([V.str u] ++ (ns.map fun n : Nat => (toString (n : Int) : Str)).map V.str)) = H9 at kl9 S9 ⊢
    have S69 := S7.trans (S8.trans S9)
    have ll := line_len u100 (ns := ns) (by omega) nsm
    have lp := line_pos (ns := ns) u1
    refine ⟨_, l, _, rfl, rfl, .inl (SqL.of kl9), line_sum u100 (by omega) nsm, ?_⟩
    rw [txt_join]
    show _
    have kt9 := S69 _ _ kt6
    have P9 : Past Pt H H9 := P3.trans (Past.same T3 (S36.trans S69))
    refine ⟨_, rfl, t, u, ns, rfl, kt9, u100, by omega, nsm, fun H10 S10 => ?_⟩
    have kt10 := S10 _ _ kt9
    have P10 := P9.trans (Past.same P9.1 S10)
    refine ⟨_, rfl, _, _, _, _, true, rfl, .ty "str", .base (.str _), kit_ty (by decide +kernel), _, rfl, ?_⟩
    refine iteF ?_
    refine ⟨_, rfl, _, rfl, rfl, _, rfl, ?_⟩
    refine if_neg_of (by show (!decide (V.str (lineOf u ns) = V.str (lineOf u ns))) = false; rw [decide_eq_true rfl]; rfl) ?_
    refine ⟨_, rfl, lineOf u ns, rfl, by omega, P10.1, fun H11 P11 => ⟨fun u' ns' e t' hn ht' => ?_, fun e => ?_⟩⟩
    · skip
      rw [readP_line ufree (by rw [nsl]; exact hm) nsm] at e
      injection e with e
      injection e with e1 e2
      subst e1 e2
      have ntp : t ≠ Pt := fun z => by
        obtain ⟨ps, e, _⟩ := P10.1
        rw [z, e] at kt10
        cases kt10
      have kt11 := P11.2 _ _ ntp kt10
      refine ⟨_, rfl, t', t, _, _, rfl, ht', kt11, by omega, fun H12 S12 => ?_⟩
      refine ⟨_, rfl, iteF ?_⟩
      have P12 := (P10.trans P11).trans (Past.same P11.1 S12)
      have hS12 := P12.seq T0 hS
      refine ⟨_, rfl, _, rfl, a, sc, 1, rfl, hS12, _, _, rfl, rfl, ⟨(by show (0 : Int) < 3; decide), by decide⟩, _, _, rfl, rfl, (by show (0 : Int) < 6; decide), _, rfl, a, sc, 5, rfl, hS12, _, _, _, rfl, lp, ll, fun y H13 hy S13 => ?_⟩
      have P13 := P12.trans (Past.same P12.1 S13)
      refine ⟨_, rfl, y, rfl, by omega, fun H14 S14 => ⟨fun u2 ns2 e t2 hn2 ht2 => ?_, fun e => ?_⟩⟩
      · have P14 := P13.trans (Past.same P13.1 S14)
        refine ⟨_, rfl, _, rfl, if_neg_of (decide_eq_false (by intro z; cases z)) ?_⟩
        refine ⟨_, rfl, y, rfl, by omega, P14.1, fun H15 P15 => ?_⟩
        refine ⟨_, rfl, _, rfl, if_pos_of (by rw [e]; rfl) ?_⟩
        have ntp2 : t2 ≠ Pt := fun z => by
          obtain ⟨ps, e, _⟩ := P14.1
          rw [z, e] at ht2
          cases ht2
        have ht15 := P15.2 _ _ ntp2 ht2
        refine ⟨_, rfl, y, rfl, by omega, P15.1, fun H16 P16 => ⟨fun u3 ns3 e3 t3 hn3 ht3 => ?_, fun e3 => (by rw [e] at e3; cases e3)⟩⟩
        rw [e] at e3
        injection e3 with e3
        injection e3 with e4 e5
        subst e4 e5
        have l3 := readP_len e
        refine ⟨_, rfl, t3, t2, _, _, rfl, ht3, P16.2 _ _ ntp2 ht15, by omega, fun H17 S17 => ?_⟩
        exact k _
      · have P14 := P13.trans (Past.same P13.1 S14)
        refine ⟨_, rfl, _, rfl, if_pos_of (decide_eq_true rfl) ?_⟩
        refine ⟨_, rfl, y, rfl, by omega, P14.1, fun H15 P15 => ?_⟩
        refine ⟨_, rfl, if_pos_of (decide_eq_true e) ?_⟩
        exact ⟨_, rfl, y, rfl, by omega, e, P15.1, fun H16 P16 => k _⟩
    · rw [readP_line ufree (by rw [nsl]; exact hm) nsm] at e
      cases e

end
end BP

namespace BP
open PySem L2
theorem exm_sub {K : PySem.W.Frag} {S : Addr} {cls : Value} (b : PySem.W.subIn K (.ref S) (.type "BaseException") = some true) (t : PySem.W.typeIn K (.ref S) = some (.type "type")) (i : PySem.W.isClsIn K S = true) {z : Bool} (s : PySem.W.subIn K cls (.ref S) = some z) : PySem.W.exmOne K cls (.ref S) = some z := by
  have h1 : (PySem.W.subIn K (.ref S) (.type "BaseException") == some true) = true := by rw [b] <;> rfl
  have h2 : ((PySem.W.clsIn K S).isSome && PySem.W.typeIn K (.ref S) == some (.type "type")) = true := by rw [show (PySem.W.clsIn K S).isSome = true from i, t] <;> rfl
  unfold PySem.W.exmOne
  rw [if_pos h1]
  exact (if_pos h2).trans s
theorem keys_words {P : Params} {l : List DictEntry} (h : WordsAt P l) : PySem.W.KeysLit P l := by
  obtain ⟨t1, t2, t3, t4, t5, t6, t7, u1, u2, u3, u4, u5, u6, u7, rfl⟩ := h
  exact ⟨⟨_, _, rfl, rfl⟩, ⟨_, _, rfl, rfl⟩, ⟨_, _, rfl, rfl⟩, ⟨_, _, rfl, rfl⟩, ⟨_, _, rfl, rfl⟩, ⟨_, _, rfl, rfl⟩, ⟨_, _, rfl, rfl⟩, trivial⟩
theorem look_words {K : PySem.W.Frag} {P : Params} {d : Addr} {es : Array DictEntry} {n : Nat} (l : K.lookup d = some ⟨.type "dict", none, .dict es n, #[]⟩) (h : WordsAt P es.toList) (z : Str) :
    ∃ r, PySem.W.nsIn K d z = some r ∧ RelV ((manyOf z).elim V.non fun n => V.int n) (r.getD .none) := by
  unfold PySem.W.nsIn
  rw [l]
  dsimp only
  obtain ⟨t1, t2, t3, t4, t5, t6, t7, u1, u2, u3, u4, u5, u6, u7, e⟩ := h
  rw [e]
  have f : ∀ (x : Str) (t : Tok), (z = x → (Value.str x t).isStr z = true) ∧ (z ≠ x → ¬ (Value.str x t).isStr z = true) := fun x t => by
    have e : (Value.str x t).isStr z = (x == z) := rfl
    rw [e, beq_iff_eq]
    exact ⟨fun h => h.symm, fun h q => h q.symm⟩
  unfold manyOf
  by_cases h1 : z = "make"
  · refine ⟨some (.int 2 u1), ?_, ?_⟩
    · rw [List.find?_cons_of_pos (p := fun e : DictEntry => e.key.isStr z) ((f _ _).1 h1)]
    · rw [if_pos h1]; exact ⟨u1, rfl⟩
  rw [List.find?_cons_of_neg (p := fun e : DictEntry => e.key.isStr z) ((f _ _).2 h1), if_neg h1]
  by_cases h2 : z = "hold"
  · refine ⟨some (.int 2 u2), ?_, ?_⟩
    · rw [List.find?_cons_of_pos (p := fun e : DictEntry => e.key.isStr z) ((f _ _).1 h2)]
    · rw [if_pos h2]; exact ⟨u2, rfl⟩
  rw [List.find?_cons_of_neg (p := fun e : DictEntry => e.key.isStr z) ((f _ _).2 h2), if_neg h2]
  by_cases h3 : z = "drop"
  · refine ⟨some (.int 1 u3), ?_, ?_⟩
    · rw [List.find?_cons_of_pos (p := fun e : DictEntry => e.key.isStr z) ((f _ _).1 h3)]
    · rw [if_pos h3]; exact ⟨u3, rfl⟩
  rw [List.find?_cons_of_neg (p := fun e : DictEntry => e.key.isStr z) ((f _ _).2 h3), if_neg h3]
  by_cases h4 : z = "put"
  · refine ⟨some (.int 3 u4), ?_, ?_⟩
    · rw [List.find?_cons_of_pos (p := fun e : DictEntry => e.key.isStr z) ((f _ _).1 h4)]
    · rw [if_pos h4]; exact ⟨u4, rfl⟩
  rw [List.find?_cons_of_neg (p := fun e : DictEntry => e.key.isStr z) ((f _ _).2 h4), if_neg h4]
  by_cases h5 : z = "empty"
  · refine ⟨some (.int 2 u5), ?_, ?_⟩
    · rw [List.find?_cons_of_pos (p := fun e : DictEntry => e.key.isStr z) ((f _ _).1 h5)]
    · rw [if_pos h5]; exact ⟨u5, rfl⟩
  rw [List.find?_cons_of_neg (p := fun e : DictEntry => e.key.isStr z) ((f _ _).2 h5), if_neg h5]
  by_cases h6 : z = "take"
  · refine ⟨some (.int 3 u6), ?_, ?_⟩
    · rw [List.find?_cons_of_pos (p := fun e : DictEntry => e.key.isStr z) ((f _ _).1 h6)]
    · rw [if_pos h6]; exact ⟨u6, rfl⟩
  rw [List.find?_cons_of_neg (p := fun e : DictEntry => e.key.isStr z) ((f _ _).2 h6), if_neg h6]
  by_cases h7 : z = "tidy"
  · refine ⟨some (.int 0 u7), ?_, ?_⟩
    · rw [List.find?_cons_of_pos (p := fun e : DictEntry => e.key.isStr z) ((f _ _).1 h7)]
    · rw [if_pos h7]; exact ⟨u7, rfl⟩
  rw [List.find?_cons_of_neg (p := fun e : DictEntry => e.key.isStr z) ((f _ _).2 h7), if_neg h7]
  exact ⟨none, rfl, rfl⟩

theorem all_mk {l : PySem.W.OpenLaw} {w : World} {K : PySem.W.Frag} {h : Heap} {mg : Str → Option Value} {fa eH eS eF eB eL eP eD fRD fRN fSH fW fD fN fM1 fM2 fM3 fM4 fM5 fM6 fM7 fM8 fZ xRN Pt dW0 : Addr} (X : K.In h) (G : h.Ns mainGlobals mg) (hfa : mg "law" = some (.ref fa))
    {odRD anRD odRN anRN odSH anSH odW anW odD anD odN anN odM1 anM1 odM2 anM2 odM3 anM3 odM4 anM4 odM5 anM5 odM6 anM6 odM7 anM7 odM8 anM8 odZ anZ : Option Addr} {slRD slRN slSH slW slD slN slM1 slM2 slM3 slM4 slM5 slM6 slM7 slM8 slZ slc : Array (Option Value)} {ocRD kVRD dcRD pmRD ctRD cdRD ocRN kVRN dcRN pmRN ctRN ocSH kVSH dcSH pmSH ctSH cdSH ocW kVW dcW pmW ctW cdW ocD kVD dcD pmD ctD cdD ocN kVN dcN pmN ctN cdN ocM1 kVM1 dcM1 pmM1 ctM1 cdM1 ocM2 kVM2 dcM2 pmM2 ctM2 cdM2 ocM3 kVM3 dcM3 pmM3 ctM3 cdM3 ocM4 kVM4 dcM4 pmM4 ctM4 cdM4 ocM5 kVM5 dcM5 pmM5 ctM5 cdM5 ocM6 kVM6 dcM6 pmM6 ctM6 cdM6 ocM7 kVM7 dcM7 pmM7 ctM7 cdM7 ocM8 kVM8 dcM8 pmM8 ctM8 cdM8 ocZ kVZ dcZ pmZ ctZ cdZ vc : Value} {odc : Option Addr} {vsc : Array Value} {tF tM : Tok} {esW : Array DictEntry} {nW : Nat}
    (aeH : PySem.W.nsIn K mainGlobals "NoHand" = some (some (.ref eH)))
    (aeS : PySem.W.nsIn K mainGlobals "NoSize" = some (some (.ref eS)))
    (aeF : PySem.W.nsIn K mainGlobals "Full" = some (some (.ref eF)))
    (aeB : PySem.W.nsIn K mainGlobals "NoBox" = some (some (.ref eB)))
    (aeL : PySem.W.nsIn K mainGlobals "NoSlot" = some (some (.ref eL)))
    (aeP : PySem.W.nsIn K mainGlobals "PileError" = some (some (.ref eP)))
    (aeD : PySem.W.nsIn K mainGlobals "NoDeed" = some (some (.ref eD)))
    (aRD : PySem.W.nsIn K mainGlobals "read" = some (some (.ref fRD)))
    (lRD : K.lookup fRD = some ⟨ocRD, odRD, .func (PySem.W.fnOf "read" "read" (defArgs sRead) (defBody sRead) (defScope sRead) .none kVRD dcRD pmRD anRD cdRD ctRD), slRD⟩)
    (cRD : PySem.W.codeIn K cdRD "read" = true)
    (kRD : PySem.W.keepIn K (.ref fRD) = true)
    (aRN : PySem.W.nsIn K mainGlobals "read_number" = some (some (.ref fRN)))
    (lRN : K.lookup fRN = some ⟨ocRN, odRN, .func (PySem.W.fnOf "read_number" "read_number" (defArgs sReadNumber) (defBody sReadNumber) (defScope sReadNumber) .none kVRN dcRN pmRN anRN (.ref xRN) ctRN), slRN⟩)
    (cRN : PySem.W.codeIn K (.ref xRN) "read_number" = true)
    (kRN : PySem.W.keepIn K (.ref fRN) = true)
    (aSH : PySem.W.nsIn K mainGlobals "shown" = some (some (.ref fSH)))
    (lSH : K.lookup fSH = some ⟨ocSH, odSH, .func (PySem.W.fnOf "shown" "shown" (defArgs sShown) (defBody sShown) (defScope sShown) .none kVSH dcSH pmSH anSH cdSH ctSH), slSH⟩)
    (cSH : PySem.W.codeIn K cdSH "shown" = true)
    (kSH : PySem.W.keepIn K (.ref fSH) = true)
    (aW : PySem.W.nsIn K mainGlobals "_law_whole" = some (some (.ref fW)))
    (lW : K.lookup fW = some ⟨ocW, odW, .func (PySem.W.fnOf "_law_whole" "_law_whole" (defArgs sWhole) (defBody sWhole) (defScope sWhole) .none kVW dcW pmW anW cdW ctW), slW⟩)
    (cW : PySem.W.codeIn K cdW "_law_whole" = true)
    (kW : PySem.W.keepIn K (.ref fW) = true)
    (aD : PySem.W.nsIn K mainGlobals "_law_cell_at" = some (some (.ref fD)))
    (lD : K.lookup fD = some ⟨ocD, odD, .func (PySem.W.fnOf "_law_cell_at" "_law_cell_at" (defArgs sCellAt) (defBody sCellAt) (defScope sCellAt) .none kVD dcD pmD anD cdD ctD), slD⟩)
    (cD : PySem.W.codeIn K cdD "_law_cell_at" = true)
    (kD : PySem.W.keepIn K (.ref fD) = true)
    (aN : PySem.W.nsIn K mainGlobals "_law_numbers" = some (some (.ref fN)))
    (lN : K.lookup fN = some ⟨ocN, odN, .func (PySem.W.fnOf "_law_numbers" "_law_numbers" (defArgs sNums) (defBody sNums) (defScope sNums) .none kVN dcN pmN anN cdN ctN), slN⟩)
    (cN : PySem.W.codeIn K cdN "_law_numbers" = true)
    (kN : PySem.W.keepIn K (.ref fN) = true)
    (aM1 : PySem.W.nsIn K mainGlobals "_law_many" = some (some (.ref fM1)))
    (lM1 : K.lookup fM1 = some ⟨ocM1, odM1, .func (PySem.W.fnOf "_law_many" "_law_many" (defArgs sMany) (defBody sMany) (defScope sMany) .none kVM1 dcM1 pmM1 anM1 cdM1 ctM1), slM1⟩)
    (cM1 : PySem.W.codeIn K cdM1 "_law_many" = true)
    (kM1 : PySem.W.keepIn K (.ref fM1) = true)
    (aM2 : PySem.W.nsIn K mainGlobals "_law_number" = some (some (.ref fM2)))
    (lM2 : K.lookup fM2 = some ⟨ocM2, odM2, .func (PySem.W.fnOf "_law_number" "_law_number" (defArgs sNumber) (defBody sNumber) (defScope sNumber) .none kVM2 dcM2 pmM2 anM2 cdM2 ctM2), slM2⟩)
    (cM2 : PySem.W.codeIn K cdM2 "_law_number" = true)
    (kM2 : PySem.W.keepIn K (.ref fM2) = true)
    (aM3 : PySem.W.nsIn K mainGlobals "_law_due_of" = some (some (.ref fM3)))
    (lM3 : K.lookup fM3 = some ⟨ocM3, odM3, .func (PySem.W.fnOf "_law_due_of" "_law_due_of" (defArgs sDueOf) (defBody sDueOf) (defScope sDueOf) .none kVM3 dcM3 pmM3 anM3 cdM3 ctM3), slM3⟩)
    (cM3 : PySem.W.codeIn K cdM3 "_law_due_of" = true)
    (kM3 : PySem.W.keepIn K (.ref fM3) = true)
    (aM4 : PySem.W.nsIn K mainGlobals "_law_alike" = some (some (.ref fM4)))
    (lM4 : K.lookup fM4 = some ⟨ocM4, odM4, .func (PySem.W.fnOf "_law_alike" "_law_alike" (defArgs sAlike) (defBody sAlike) (defScope sAlike) .none kVM4 dcM4 pmM4 anM4 cdM4 ctM4), slM4⟩)
    (cM4 : PySem.W.codeIn K cdM4 "_law_alike" = true)
    (kM4 : PySem.W.keepIn K (.ref fM4) = true)
    (aM5 : PySem.W.nsIn K mainGlobals "_law_odd_line" = some (some (.ref fM5)))
    (lM5 : K.lookup fM5 = some ⟨ocM5, odM5, .func (PySem.W.fnOf "_law_odd_line" "_law_odd_line" (defArgs sOddLine) (defBody sOddLine) (defScope sOddLine) .none kVM5 dcM5 pmM5 anM5 cdM5 ctM5), slM5⟩)
    (cM5 : PySem.W.codeIn K cdM5 "_law_odd_line" = true)
    (kM5 : PySem.W.keepIn K (.ref fM5) = true)
    (aM6 : PySem.W.nsIn K mainGlobals "_law_refused" = some (some (.ref fM6)))
    (lM6 : K.lookup fM6 = some ⟨ocM6, odM6, .func (PySem.W.fnOf "_law_refused" "_law_refused" (defArgs sRefused) (defBody sRefused) (defScope sRefused) .none kVM6 dcM6 pmM6 anM6 cdM6 ctM6), slM6⟩)
    (cM6 : PySem.W.codeIn K cdM6 "_law_refused" = true)
    (kM6 : PySem.W.keepIn K (.ref fM6) = true)
    (aM7 : PySem.W.nsIn K mainGlobals "_law_refused_by_all" = some (some (.ref fM7)))
    (lM7 : K.lookup fM7 = some ⟨ocM7, odM7, .func (PySem.W.fnOf "_law_refused_by_all" "_law_refused_by_all" (defArgs sRefusedByAll) (defBody sRefusedByAll) (defScope sRefusedByAll) .none kVM7 dcM7 pmM7 anM7 cdM7 ctM7), slM7⟩)
    (cM7 : PySem.W.codeIn K cdM7 "_law_refused_by_all" = true)
    (kM7 : PySem.W.keepIn K (.ref fM7) = true)
    (aM8 : PySem.W.nsIn K mainGlobals "_law_line_by" = some (some (.ref fM8)))
    (lM8 : K.lookup fM8 = some ⟨ocM8, odM8, .func (PySem.W.fnOf "_law_line_by" "_law_line_by" (defArgs sLineBy) (defBody sLineBy) (defScope sLineBy) .none kVM8 dcM8 pmM8 anM8 cdM8 ctM8), slM8⟩)
    (cM8 : PySem.W.codeIn K cdM8 "_law_line_by" = true)
    (kM8 : PySem.W.keepIn K (.ref fM8) = true)
    (aZ : PySem.W.nsIn K mainGlobals "law" = some (some (.ref fZ)))
    (lZ : K.lookup fZ = some ⟨ocZ, odZ, .func (PySem.W.fnOf "law" "law" (defArgs sLaw) (defBody sLaw) (defScope sLaw) .none kVZ dcZ pmZ anZ cdZ ctZ), slZ⟩)
    (cZ : PySem.W.codeIn K cdZ "law" = true)
    (kZ : PySem.W.keepIn K (.ref fZ) = true)
    (xeD : PySem.W.excIn K eD [.type "ValueError", .type "Exception", .type "BaseException", .type "object"] "ValueError.__new__" = true)
    (keD : PySem.W.keepIn K (.ref eD) = true)
    (beD : PySem.W.subIn K (.ref eD) (.type "BaseException") = some true)
    (tyeD : PySem.W.typeIn K (.ref eD) = some (.type "type"))
    (iseD : PySem.W.isClsIn K eD = true)
    (sueD : PySem.W.subIn K (.ref eD) (.ref eD) = some true)
    (beP : PySem.W.subIn K (.ref eP) (.type "BaseException") = some true)
    (tyeP : PySem.W.typeIn K (.ref eP) = some (.type "type"))
    (iseP : PySem.W.isClsIn K eP = true)
    (sueP : PySem.W.subIn K (.ref eD) (.ref eP) = some true)
    (hg : PySem.W.findIn K (.ref eD) "__getattribute__" = some (some (.builtin "BaseException.__getattribute__")))
    (hk : PySem.W.findIn K (.ref eD) "__getattr__" = some none)
    (hd : PySem.W.hasDictIn K eD = true)
    (ha : PySem.W.findIn K (.ref eD) "__class__" = some (some (.builtin "object.__class__")))
    (hn : PySem.W.specialIn K (.builtin "object.__class__") "__get__" = some (some (.builtin "getset_descriptor.__get__")))
    (ht : PySem.W.takesIn K (.builtin "object.__class__") = some true)
    (hm : PySem.W.mroIn K eD (.type "object") = some true)
    (kA : PySem.W.kitAny K (.ref eD) [.ref eH, .ref eS, .ref eF, .ref eB, .ref eL] = some false)
    (kVE : PySem.W.kitOne K (.ref eD) (.type "ValueError") = some true)
    (kDD : PySem.W.kitOne K (.ref eD) (.ref eD) = some true)
    (lc : K.lookup xRN = some ⟨vc, odc, .fields vsc, slc⟩)
    (lP : vsc[11]? = some (.ref Pt))
    (nP : K.lookup Pt = none)
    (cnF : PySem.W.nsIn K mainGlobals "FIGURES" = some (some (.str "0123456789" tF)))
    (cnM : PySem.W.nsIn K mainGlobals "MOST_FIGURES" = some (some (.int 60 tM)))
    (aWD : PySem.W.nsIn K mainGlobals "WORDS" = some (some (.ref dW0)))
    (lWD : K.lookup dW0 = some ⟨.type "dict", none, .dict esW nW, #[]⟩)
    (wW : WordsAt w.params esW.toList)
    (loW : (dW0 == sysModules) = false)
    (zisinstance : PySem.W.nsIn K mainGlobals "isinstance" = some none)
    (zint : PySem.W.nsIn K mainGlobals "int" = some none)
    (zbool : PySem.W.nsIn K mainGlobals "bool" = some none)
    (zlist : PySem.W.nsIn K mainGlobals "list" = some none)
    (zlen : PySem.W.nsIn K mainGlobals "len" = some none)
    (zrange : PySem.W.nsIn K mainGlobals "range" = some none)
    (zmin : PySem.W.nsIn K mainGlobals "min" = some none)
    (zsorted : PySem.W.nsIn K mainGlobals "sorted" = some none)
    (zset : PySem.W.nsIn K mainGlobals "set" = some none)
    (ztuple : PySem.W.nsIn K mainGlobals "tuple" = some none)
    (zstr : PySem.W.nsIn K mainGlobals "str" = some none)
    (zall : PySem.W.nsIn K mainGlobals "all" = some none)
    (zValueError : PySem.W.nsIn K mainGlobals "ValueError" = some none)
    : ∃ (fd : FuncData) (c Pt : Addr), PySem.W.tabIn K "read_number" = some (c, Pt) ∧ K.lookup Pt = none ∧ (∀ (s : Shared) (u : Value), BindsTo s fd ⟨[u], []⟩ [("_law_script", u)]) ∧
        ∀ base : Heap, K.In base → base.Ns mainGlobals mg → GxR.TabB base mg c Pt → FnOk l.prog w K mg base CX0 5 fa fd ["_law_script"] (spLawT K Pt) := by
  have e := hfa.symm.trans (PySem.W.mg_of X G aZ)
  cases e
  have FRD := fun_mk (st := sRead) lRD cRD kRD
  have bRD := FRD.binds (ps := ["line"]) fun _ _ _ _ _ _ us hl => match us, hl with | [_], _ => rfl
  have FRN := fun_mk (st := sReadNumber) lRN cRN kRN
  have bRN := FRN.binds (ps := ["part"]) fun _ _ _ _ _ _ us hl => match us, hl with | [_], _ => rfl
  have FSH := fun_mk (st := sShown) lSH cSH kSH
  have bSH := FSH.binds (ps := ["deed"]) fun _ _ _ _ _ _ us hl => match us, hl with | [_], _ => rfl
  have FW := fun_mk (st := sWhole) lW cW kW
  have bW := FW.binds (ps := ["_law_found"]) fun _ _ _ _ _ _ us hl => match us, hl with | [_], _ => rfl
  have FD := fun_mk (st := sCellAt) lD cD kD
  have bD := FD.binds (ps := ["_law_script", "_law_k"]) fun _ _ _ _ _ _ us hl => match us, hl with | [_, _], _ => rfl
  have FN := fun_mk (st := sNums) lN cN kN
  have bN := FN.binds (ps := ["_law_found", "_law_due"]) fun _ _ _ _ _ _ us hl => match us, hl with | [_, _], _ => rfl
  have FM1 := fun_mk (st := sMany) lM1 cM1 kM1
  have bM1 := FM1.binds (ps := ["_law_word"]) fun _ _ _ _ _ _ us hl => match us, hl with | [_], _ => rfl
  have FM2 := fun_mk (st := sNumber) lM2 cM2 kM2
  have bM2 := FM2.binds (ps := ["_law_word"]) fun _ _ _ _ _ _ us hl => match us, hl with | [_], _ => rfl
  have FM3 := fun_mk (st := sDueOf) lM3 cM3 kM3
  have bM3 := FM3.binds (ps := ["_law_line"]) fun _ _ _ _ _ _ us hl => match us, hl with | [_], _ => rfl
  have FM4 := fun_mk (st := sAlike) lM4 cM4 kM4
  have bM4 := FM4.binds (ps := ["_law_found", "_law_due"]) fun _ _ _ _ _ _ us hl => match us, hl with | [_, _], _ => rfl
  have FM5 := fun_mk (st := sOddLine) lM5 cM5 kM5
  have bM5 := FM5.binds (ps := ["_law_cell"]) fun _ _ _ _ _ _ us hl => match us, hl with | [_], _ => rfl
  have FM6 := fun_mk (st := sRefused) lM6 cM6 kM6
  have bM6 := FM6.binds (ps := ["_law_line"]) fun _ _ _ _ _ _ us hl => match us, hl with | [_], _ => rfl
  have FM7 := fun_mk (st := sRefusedByAll) lM7 cM7 kM7
  have bM7 := FM7.binds (ps := ["_law_line"]) fun _ _ _ _ _ _ us hl => match us, hl with | [_], _ => rfl
  have FM8 := fun_mk (st := sLineBy) lM8 cM8 kM8
  have bM8 := FM8.binds (ps := ["_law_line", "_law_way", "_law_cell"]) fun _ _ _ _ _ _ us hl => match us, hl with | [_, _, _], _ => rfl
  have FZ := fun_mk (st := sLaw) lZ cZ kZ
  have TL : TxtL mg := ⟨PySem.W.mg_none_of X G zisinstance, PySem.W.mg_none_of X G zint, PySem.W.mg_none_of X G zbool, PySem.W.mg_none_of X G zlist, PySem.W.mg_none_of X G zlen, PySem.W.mg_none_of X G zrange, PySem.W.mg_none_of X G zmin, PySem.W.mg_none_of X G zsorted, PySem.W.mg_none_of X G zset, PySem.W.mg_none_of X G zall, PySem.W.mg_none_of X G zstr, PySem.W.mg_none_of X G ztuple⟩
  have TN : TxtN K w mg eD dW0 := ⟨⟨PySem.W.mg_of X G aeD, xeD, keD, beD, tyeD⟩, PySem.W.mg_none_of X G zlen, PySem.W.mg_none_of X G zall, PySem.W.mg_none_of X G zint, PySem.W.mg_none_of X G ztuple, PySem.W.mg_none_of X G zstr, ⟨_, PySem.W.mg_of X G cnF⟩, ⟨_, PySem.W.mg_of X G cnM⟩, PySem.W.mg_of X G aWD, ⟨_, _, lWD, keys_words wW, loW⟩, look_words lWD wW⟩
  have TE : TxtE K mg eP eH eS eF eB eL eD := ⟨PySem.W.mg_of X G aeP, PySem.W.mg_of X G aeH, PySem.W.mg_of X G aeS, PySem.W.mg_of X G aeF, PySem.W.mg_of X G aeB, PySem.W.mg_of X G aeL, PySem.W.mg_none_of X G zValueError, exm_sub beP tyeP iseP sueP, exm_sub beD tyeD iseD sueD, ⟨hg, hk, beD, hd, ha, hn, ht, hm⟩, kA, kVE, kDD⟩
  have D : Defs K mg 0 0 fRD fRN fSH fW fD fN fM1 fM2 fM3 fM4 fM5 fM6 fM7 fM8 _ _ _ _ _ _ _ _ _ _ _ _ _ _ := ⟨FRD, bRD, PySem.W.mg_of X G aRD, FRN, bRN, PySem.W.mg_of X G aRN, FSH, bSH, PySem.W.mg_of X G aSH, FW, bW, PySem.W.mg_of X G aW, FD, bD, PySem.W.mg_of X G aD, FN, bN, PySem.W.mg_of X G aN, FM1, bM1, PySem.W.mg_of X G aM1, FM2, bM2, PySem.W.mg_of X G aM2, FM3, bM3, PySem.W.mg_of X G aM3, FM4, bM4, PySem.W.mg_of X G aM4, FM5, bM5, PySem.W.mg_of X G aM5, FM6, bM6, PySem.W.mg_of X G aM6, FM7, bM7, PySem.W.mg_of X G aM7, FM8, bM8, PySem.W.mg_of X G aM8⟩
  exact ⟨PySem.W.fnOf "law" "law" (defArgs sLaw) (defBody sLaw) (defScope sLaw) .none kVZ dcZ pmZ anZ cdZ ctZ, xRN, Pt, tab_in aRN lRN rfl lc lP, nP, fun s v => .of_eq rfl, fun base _ _ TB => ok_law FZ TL TN TE TB rfl D⟩
end BP
open PySem PySem.W PyProof.Rows
set_option maxRecDepth 100000 in
set_option maxHeartbeats 0 in
theorem PySem.Challenge.cw_boxpile_k05_deeds_written_holds : PySem.Challenge.rw_boxpile_k05_deeds_written.Holds := by
  w_on; o_law; k_head; (case hw => w_witness2)
  k_fill
  refine BP.walkT (l := PySem.Challenge.rw_boxpile_k05_deeds_written) (k := 5) rfl rfl ⟨rfl, by decide, by decide⟩ (fun w h Y => PySem.W.kIn_of Y) (by decide +kernel) ?F
  case F =>
    intro w mg fa h KX G hmg
    refine' BP.all_mk KX G hmg ?aeH ?aeS ?aeF ?aeB ?aeL ?aeP ?aeD ?aRD ?lRD ?cRD ?kRD ?aRN ?lRN ?cRN ?kRN ?aSH ?lSH ?cSH ?kSH ?aW ?lW ?cW ?kW ?aD ?lD ?cD ?kD ?aN ?lN ?cN ?kN ?aM1 ?lM1 ?cM1 ?kM1 ?aM2 ?lM2 ?cM2 ?kM2 ?aM3 ?lM3 ?cM3 ?kM3 ?aM4 ?lM4 ?cM4 ?kM4 ?aM5 ?lM5 ?cM5 ?kM5 ?aM6 ?lM6 ?cM6 ?kM6 ?aM7 ?lM7 ?cM7 ?kM7 ?aM8 ?lM8 ?cM8 ?kM8 ?aZ ?lZ ?cZ ?kZ ?xeD ?keD ?beD ?tyeD ?iseD ?sueD ?beP ?tyeP ?iseP ?sueP ?hg ?hk ?hd ?ha ?hn ?ht ?hm ?kA ?kVE ?kDD ?lc ?lP ?nP ?cnF ?cnM ?aWD ?lWD ?wW ?loW ?zisinstance ?zint ?zbool ?zlist ?zlen ?zrange ?zmin ?zsorted ?zset ?ztuple ?zstr ?zall ?zValueError
    (case aeH => k_is)
    (case aeS => k_is)
    (case aeF => k_is)
    (case aeB => k_is)
    (case aeL => k_is)
    (case aeP => k_is)
    (case aeD => k_is)
    (case aRD => k_is)
    (case lRD => k_is)
    (case cRD => k_is)
    (case kRD => k_is)
    (case aRN => k_is)
    (case lRN => k_is)
    (case cRN => k_is)
    (case kRN => k_is)
    (case aSH => k_is)
    (case lSH => k_is)
    (case cSH => k_is)
    (case kSH => k_is)
    (case aW => k_is)
    (case lW => k_is)
    (case cW => k_is)
    (case kW => k_is)
    (case aD => k_is)
    (case lD => k_is)
    (case cD => k_is)
    (case kD => k_is)
    (case aN => k_is)
    (case lN => k_is)
    (case cN => k_is)
    (case kN => k_is)
    (case aM1 => k_is)
    (case lM1 => k_is)
    (case cM1 => k_is)
    (case kM1 => k_is)
    (case aM2 => k_is)
    (case lM2 => k_is)
    (case cM2 => k_is)
    (case kM2 => k_is)
    (case aM3 => k_is)
    (case lM3 => k_is)
    (case cM3 => k_is)
    (case kM3 => k_is)
    (case aM4 => k_is)
    (case lM4 => k_is)
    (case cM4 => k_is)
    (case kM4 => k_is)
    (case aM5 => k_is)
    (case lM5 => k_is)
    (case cM5 => k_is)
    (case kM5 => k_is)
    (case aM6 => k_is)
    (case lM6 => k_is)
    (case cM6 => k_is)
    (case kM6 => k_is)
    (case aM7 => k_is)
    (case lM7 => k_is)
    (case cM7 => k_is)
    (case kM7 => k_is)
    (case aM8 => k_is)
    (case lM8 => k_is)
    (case cM8 => k_is)
    (case kM8 => k_is)
    (case aZ => k_is)
    (case lZ => k_is)
    (case cZ => k_is)
    (case kZ => k_is)
    (case xeD => first | k_is | k_exc)
    (case keD => k_is)
    (case beD => k_is)
    (case tyeD => k_is)
    (case iseD => k_is)
    (case sueD => first | rfl | k_is)
    (case beP => k_is)
    (case tyeP => k_is)
    (case iseP => k_is)
    (case sueP => first | rfl | k_is)
    (case hg => k_is)
    (case hk => k_is)
    (case hd => k_is)
    (case ha => k_is)
    (case hn => first | rfl | k_is)
    (case ht => first | rfl | k_is)
    (case hm => first | rfl | k_is)
    (case kA => first | rfl | k_is)
    (case kVE => first | rfl | k_is)
    (case kDD => first | rfl | k_is)
    (case lc => k_is)
    (case lP => first | rfl | k_is)
    (case nP => first | rfl | k_is)
    (case cnF => k_is)
    (case cnM => k_is)
    (case aWD => k_is)
    (case lWD => k_is)
    (case wW => exact ⟨_, _, _, _, _, _, _, _, _, _, _, _, _, _, rfl⟩)
    (case loW => rfl)
    (case zisinstance => k_is)
    (case zint => k_is)
    (case zbool => k_is)
    (case zlist => k_is)
    (case zlen => k_is)
    (case zrange => k_is)
    (case zmin => k_is)
    (case zsorted => k_is)
    (case zset => k_is)
    (case ztuple => k_is)
    (case zstr => k_is)
    (case zall => k_is)
    (case zValueError => k_is)
