import PyProof.Rows.All
import Wide.All
import OpenK.AllK
import Wide.FinOn
import PyProof.EqAt
import PyProof.EqKinds
import PyProof.TupleCall
import PyProof.Draws
import PyProof.EnumFor
import KE.KTryMore
import KE.KRevSl
import KE.GoesZip
import KE.GoesMore
import KE.GoesEnum
import HandS.Base
import HandS.Call
import HandS.List
import HandS.Text
import HandS.Exc
import HandS.Dict
import HandS.Iter
import HandS.Walk
import HandS.ForMost
import HandS.ForExc
import HandS.Evl
import HandS.Codes
import HandS.IsInst
import HandS.ExcIs
import HandS.Wide
import HandS.More
import HandS.DictComp
import HandS.DeepEq
import KE.DataMinMax
import KE.SortData
import KE.KDictSum
import PyProof.ConsumeS
import PyProof.CompUse
import HandS.Walk
import HandS.Zip
import PySem.Challenge.RW_packdelta_k05_reach_and_middle
set_option Elab.async false
set_option linter.all false
set_option maxRecDepth 100000
set_option maxHeartbeats 4000000
namespace PySem.W
open PySem PySem.Spec PySem.Calls PyProof.Rows
section
variable {M : Model} {K : Frag}
/-- which classes of a tuple are tested: the answer of a tuple's test, any length -/
theorem xm_tup {cs : List Value} {cls : Value} {tp e : Addr} {b : Bool} {h : Heap} {o : Obj} (X : K.In h) (LT : Looks M h (typeOf (.ref e)) cls) (hp : h.get? tp = some o) (hc : o.cls = .type "tuple") (hd : o.data = .seq cs.toArray) (hx : exmAny K cls cs = some b) :
    Looks M h (excMatches (.ref e) (.ref tp)) b := by
  intro A Q E s k₀ q
  obtain ⟨hh, g, d, tk, os⟩ := s
  have k : ∀ b o, h.get? b = some o → hh.get? b = some o := k₀
  have hp' := k _ _ hp
  have LT0 : wpAny M A (isInstance (.ref tp) (.type "tuple")) (fun b s => b = true ∧ s = (⟨hh, g, d, tk, os⟩ : Shared)) E ⟨hh, g, d, tk, os⟩ := by
    have L0 : Looks M hh (isInstance (.ref tp) (.type "tuple")) true := by
      have hq : hh.get? tp = some o := hp'
      have L1 : Looks M hh (typeOf (.ref tp)) (.type "tuple") := fun A Q E s k q => wpAny_typeOf_ref (k _ _ hq) (by rw [hc]; exact q)
      exact L1.andThen (Looks.of_pure isSubtype_tuple_tuple)
    exact L0.at ⟨rfl, rfl⟩
  have LT := LT.keeps k
  have ones : ∀ (l : List Value) (r : Bool), exmAny K cls l = some r → (∀ c ∈ l, Looks M hh (isExcClass c) true) := by
    intro l
    induction l with
    | nil => intro r _ c hc; cases hc
    | cons c l ih =>
      intro r hr x hx
      obtain ⟨b1, d1, x1, y1, z1⟩ := exmAny_cons hr
      rcases List.mem_cons.mp hx with e | hm
      · rw [e]; exact (exm_cls (M := M) X x1).1.keeps k
      · exact ih d1 y1 x hm
  unfold excMatches
  refine wpAny_bind (wpAny_mono LT0 (fun b' s' hb => ?_) fun _ _ z => z)
  obtain ⟨rfl, rfl⟩ := hb
  dsimp only
  rw [if_pos rfl]
  first
    | refine wpAny_bind (wpAny_seqItems hp' hd ?_)
    | refine wpAny_bind (wpAny_bind (wpAny_seqItems hp' hd (wpAny_pure ?_)))
  dsimp only [Option.getD_some, Option.getD]
  refine wpAny_bind (wpAny_pure ?_)
  have s0 : ∃ s1 : Shared, s1 = (⟨hh, g, d, tk, os⟩ : Shared) := ⟨_, rfl⟩
  refine wpAny_bind (wpAny_forIn_list _ (fun rest _ s' => s' = (⟨hh, g, d, tk, os⟩ : Shared) ∧ ∀ c ∈ rest, Looks M hh (isExcClass c) true) _ ?_ ?_ _ _ ⟨rfl, ones cs b hx⟩)
  · rintro x rest _ s' ⟨rfl, hr⟩
    refine wpAny_bind ((hr x List.mem_cons_self).at ?_)
    simp only [Bool.not_true, Bool.false_eq_true, if_false]
    exact wpAny_pure ⟨rfl, fun c hc => hr c (List.mem_cons_of_mem _ hc)⟩
  · rintro _ s' ⟨rfl, _⟩
    refine wpAny_bind (LT.at ?_)
    refine wpAny_bind (wpAny_forIn_list _ (fun rest r s' => s' = (⟨hh, g, d, tk, os⟩ : Shared) ∧ r = (none, ()) ∧ exmAny K cls rest = some b) _ ?_ ?_ _ _ ⟨rfl, rfl, hx⟩)
    · rintro x rest r s' ⟨rfl, rfl, hr⟩
      obtain ⟨b1, d1, x1, y1, z1⟩ := exmAny_cons hr
      have S1 := (exm_cls (M := M) X x1).2.keeps k
      refine wpAny_bind (S1.at ?_)
      cases b1 with
      | true =>
        rw [if_pos rfl]
        refine wpAny_pure (wpAny_pure ?_)
        rw [z1, Bool.true_or] at q
        exact q
      | false =>
        rw [if_neg Bool.false_ne_true]
        refine wpAny_pure ⟨rfl, rfl, ?_⟩
        rw [z1, Bool.false_or]
        exact y1
    · rintro r s' ⟨rfl, rfl, hr⟩
      have hb : some false = some b := hr
      cases hb
      exact wpAny_pure q
end
end PySem.W
namespace L2
open PySem PySem.Spec PyProof.Rows
/-! ### a try with clauses of any kind: except X, except X as n, except (X, Y, ..), except (X, Y, ..) as n -/
/-- how a clause's test answers: mt tells it from the class -/
structure ClTest (X : Cx) (t : Expr) (mt : Value → Option Bool) : Prop where
  run : ∀ (pn : List (Addr × Obj)) (σ : St) (H : Hp) (s : Shared) (a : Addr) (oe : Obj) (b : Bool) (Q : Bool → Shared → Prop) (E : Value → Shared → Prop),
    Inv (X.suite a ((a, oe) :: pn)) [] σ H s → s.heap.get? a = some oe → mt oe.cls = some b →
    (∀ h' tk, (∀ q o, s.heap.get? q = some o → h'.get? q = some o) → Q b { s with heap := h', toks := tk }) →
      wpAny (model X.prog X.w) (X.A.mark (some (.ref a))) (eval t X.env) (fun c s1 => wpAny (model X.prog X.w) (X.A.mark (some (.ref a))) (excMatches (.ref a) c) Q E s1) E s
theorem ct_name {X : Cx} {x : Str} {c : Value} {np : Pos} (hc : Names X x c) : ClTest X (.Name x np) (fun cls => PySem.W.exmOne X.K cls c) := by
  refine ⟨fun pn σ H s a oe b Q E I ha hb q => ?_⟩
  have LT : PySem.W.Looks (model X.prog X.w) s.heap (typeOf (.ref a)) oe.cls := fun A Q E s k q => wpAny_typeOf_ref (k _ _ ha) q
  have LM := PySem.W.exm_one (M := model X.prog X.w) (Inv.kIn I) LT hb
  have fin : wpAny (model X.prog X.w) (X.A.mark (some (.ref a))) (excMatches (.ref a) c) Q E s := LM.here (q s.heap s.toks fun _ _ z => z)
  obtain ⟨hg, hdbg, hm | ⟨hm, hv, hnn⟩⟩ := hc
  · exact ld_glob (X := X.suite a ((a, oe) :: pn)) I hg hm fin hdbg
  · exact ld_blt (X := X.suite a ((a, oe) :: pn)) I hg hm hv fin hnn hdbg
/-- names in a row -/
inductive NamesL (X : Cx) : List Expr → List Value → Prop
  | nil : NamesL X [] []
  | cons {x : Str} {c : Value} {p : Pos} {es : List Expr} {cs : List Value} (h : Names X x c) (hs : starEach (.Name x p :: es) X.env = (false, eval (.Name x p) X.env) :: starEach es X.env) (r : NamesL X es cs) : NamesL X (.Name x p :: es) (c :: cs)
theorem names_run {X : Cx} {pn : List (Addr × Obj)} {σ : St} {H : Hp} {s : Shared} {a : Addr} {oe : Obj} {pos : Pos} {E : Value → Shared → Prop} (I : Inv (X.suite a ((a, oe) :: pn)) [] σ H s) :
    ∀ {es : List Expr} {cs : List Value}, NamesL X es cs → ∀ {Q : List Value → Shared → Prop}, Q cs s → wpAny (model X.prog X.w) (X.A.mark (some (.ref a))) (spliced (backTo pos (starEach es X.env))) Q E s := by
  intro es cs h
  induction h with
  | nil => exact fun q => Calls.spliced_nil q
  | @cons x c p es cs hc hs r ih =>
    intro Q q
    rw [hs]
    show wpAny _ _ (spliced ((false, eval (.Name x p) X.env) :: backTo pos (starEach es X.env))) _ _ s
    refine Calls.spliced_cons ?_
    have fin := ih (Q := fun vs s' => Q (c :: vs) s') q
    obtain ⟨hg, hdbg, hm | ⟨hm, hv, hnn⟩⟩ := hc
    · exact ld_glob (X := X.suite a ((a, oe) :: pn)) I hg hm fin hdbg
    · exact ld_blt (X := X.suite a ((a, oe) :: pn)) I hg hm hv fin hnn hdbg
theorem ct_tup {X : Cx} {es : List Expr} {cs : List Value} {k : Nat} {pos : Pos} (hn : NamesL X es cs) (hl : cs.length ≤ 100) : ClTest X (.Tuple es k pos) (fun cls => PySem.W.exmAny X.K cls cs) := by
  refine ⟨fun pn σ H s a oe b Q E I ha hb q => ?_⟩
  refine Tuple_ (names_run I hn ?_)
  refine wpAny_newObj_type ?_ (by show cs.toArray.size ≤ sizeLine; rw [List.size_toArray, sizeLine_eq]; omega)
  have k1 : ∀ q o, s.heap.get? q = some o → (s.heap.push { cls := .type "tuple", data := .seq cs.toArray }).get? q = some o := fun q o e => Heap.get?_push_of_some _ e
  have LT : PySem.W.Looks (model X.prog X.w) (s.heap.push { cls := .type "tuple", data := .seq cs.toArray }) (typeOf (.ref a)) oe.cls := fun A Q E s k q => wpAny_typeOf_ref (k _ _ (k1 _ _ ha)) q
  have LM := PySem.W.xm_tup (M := model X.prog X.w) ((Inv.kIn I).keeps k1) LT (Heap.get?_push_size _ rfl) rfl rfl hb
  exact PySem.W.Looks.at LM (q _ _ k1)

theorem traced_keeps {h h' base : Heap} {e : Addr} {Z : Obj → Prop} {fl : Value} (x : HandSPX.TracedZ h base e Z fl) (k : ∀ b o, h.get? b = some o → h'.get? b = some o) : HandSPX.TracedZ h' base e Z fl := by
  obtain ⟨oe, vs, T, oT, ts, he, hz, hd, h1, hnT, hTe, hT, hdT, h3⟩ := x
  exact ⟨oe, vs, T, oT, ts, k _ _ he, hz, hd, h1, hnT, hTe, k _ _ hT, hdT, h3⟩
theorem flying_keeps {h h' base : Heap} {l : List Env} {e : Addr} {Z : Obj → Prop} (x : HandSPX.FlyingZ base l e Z h) (k : ∀ b o, h.get? b = some o → h'.get? b = some o) : HandSPX.FlyingZ base l e Z h' := by
  obtain ⟨x1, x2, x3, x4⟩ := x
  exact ⟨fun b o e => k b o (x1 b o e), x2, x3.of_keeps fun b o e _ => ⟨o, k b o e, rfl⟩, traced_keeps x4 k⟩
abbrev Clz := List ((Value → Option Bool) × (Addr → Value → Option Addr → TS))
/-- what the clauses wish of an exception of the body, one after the other -/
def wCl (Wout : WX) (D : Ends) : Clz → WX
  | [] => Wout
  | (mt, ts) :: r => fun cls d σ H => ∃ b, mt cls = some b ∧ (b = true → ∀ a, H a = none → ts a cls d D σ H) ∧ (b = false → wCl Wout D r cls d σ H)
/-- except .. as n: slot i holds the error within -/
def tAs (i : Nat) (ts : Addr → Value → Option Addr → TS) : Addr → Value → Option Addr → TS := fun a cls d D σ H =>
  ts a cls d { nx := fun σ' H' => D.nx (σ'.set i none) H', rt := D.rt, bk := fun σ' H' => D.bk (σ'.set i none) H', ct := fun σ' H' => D.ct (σ'.set i none) H' } (σ.set i (some (.ref a))) H
inductive ClOk (X : Cx) : List ExceptHandler → Clz → Prop
  | nil : ClOk X [] []
  | plain {t : Expr} {mt : Value → Option Bool} {ts : Addr → Value → Option Addr → TS} {b₀ : Stmt} {suite : List Stmt} {pos' : Pos} {hds : List ExceptHandler} {l : Clz} (hc : ClTest X t mt)
      (hsu : ∀ (a : Addr) (oe : Obj) (cls : Value) (d : Option Addr) (pn : List (Addr × Obj)), Zc cls d oe → (∃ vs, oe.data = .fields vs) → PSs (X.suite a ((a, oe) :: pn)) (b₀ :: suite) (ts a cls d)) (r : ClOk X hds l) :
      ClOk X (.ExceptHandler (some t) none (b₀ :: suite) pos' :: hds) ((mt, ts) :: l)
  | named {t : Expr} {mt : Value → Option Bool} {i : Nat} {n : Str} {ts : Addr → Value → Option Addr → TS} {b₀ : Stmt} {suite : List Stmt} {pos' : Pos} {hds : List ExceptHandler} {l : Clz} (hN : X.N.Nodup) (hi : X.N[i]? = some n) (hln : X.env.kindOf n = some .local) (hc : ClTest X t mt)
      (hsu : ∀ (a : Addr) (oe : Obj) (cls : Value) (d : Option Addr) (pn : List (Addr × Obj)), Zc cls d oe → (∃ vs, oe.data = .fields vs) → PSs (X.suite a ((a, oe) :: pn)) (b₀ :: suite) (ts a cls d)) (r : ClOk X hds l) :
      ClOk X (.ExceptHandler (some t) (some n) (b₀ :: suite) pos' :: hds) ((mt, tAs i ts) :: l)
section
variable {X : Cx} {body : List Stmt} {h₀ : ExceptHandler} {hds : List ExceptHandler} {l : Clz} {pos : Pos} {tb : WX → TS} {Wout : WX}
theorem ps_try_cl (hs : X.stack = X.env :: X.outer) (hf : X.env.frame = some X.env.locals) (tk : Takes X Wout)
    (hb : ∀ (W : WX) (pn : List (Addr × Obj)) (xe : Value → Shared → Prop), Takes (X.tr pn xe) W → PassesOwn (model X.prog X.w) X.A X.env xe → PSs (X.tr pn xe) body (tb W))
    (hh : ClOk X (h₀ :: hds) l) : PS X (.Try body (h₀ :: hds) [] [] pos) (fun D σ H => tb (wCl Wout D l) D σ H) := by
  refine ⟨fun pins s σ H D I h => ?_⟩
  have ok := I.ok
  have hfr : X.A.frames = some (X.env :: X.outer) := by rw [ok.frames, hs]
  refine wpAny_Try_except ?_
  refine wpAny_mono ((hb (wCl Wout D l) (X.pn ++ pins) (fun e s₁ => wpAny (model X.prog X.w) X.A (noteFrame e X.env) (fun _ s₂ => wpAny (model X.prog X.w) X.A (setFlight e none) (fun _ s₃ =>
    wpAny (model X.prog X.w) X.A (handleBy e X.env (h₀ :: hds)) (SP X pins D) X.xe s₃) X.xe s₂) X.xe s₁) (fun u s' xx => ?_) PassesOwn.looking).run [] s σ H D (I.toTry _) h) (fun f s1 hsp => ?_) (fun e s1 he => he)
  · -- the catch
    obtain ⟨a, B, sI, pins', σ', H', cls, d, rfl, J', nb, up, sky, na, os, ag, w⟩ := xx
    have J : Inv X pins σ' H' sI := J'.ofTry ok
    have sky' : Sky B (X.env :: X.outer) a (Zc cls d) X.env.locals s'.heap := by rw [← hs]; exact sky
    show wpAny (model X.prog X.w) X.A (noteFrame (.ref a) X.env) _ _ _
    refine Sky.land Zc.steady hfr hf sky' fun h3 fl3 up3 => ?_
    -- the clauses in turn, over any heap that grows from h3
    have go : ∀ {hds' : List ExceptHandler} {l' : Clz}, ClOk X hds' l' → wCl Wout D l' cls d σ' H' → ∀ (h5 : Heap) (t5 : Nat), (∀ b o, h3.get? b = some o → h5.get? b = some o) →
        wpAny (model X.prog X.w) X.A (handleBy (.ref a) X.env hds') (SP X pins D) X.xe { s' with heap := h5, toks := t5 } := by
      intro hds' l' hk
      have notFr : ∀ {h : Heap} {o : Obj} {vs : Array Value}, h.FunFrames B (X.env :: X.outer) → h.get? a = some o → o.data = .fields vs → a ∉ frs (X.env :: X.outer) := fun {h o vs} ff e dd hm => by
        obtain ⟨_, o', e', hnf⟩ := ff.mem hm
        rw [e] at e'; cases e'
        exact hnf _ dd
      have clause : ∀ {t : Expr} {mt : Value → Option Bool} {nm : Option Str} {bd : List Stmt} {pos' : Pos} {hds2 : List ExceptHandler} {b : Bool} (h5 : Heap) (t5 : Nat), (∀ b o, h3.get? b = some o → h5.get? b = some o) → ClTest X t mt → mt cls = some b →
          (b = true → ∀ (h6 : Heap) (t6 : Nat), (∀ b o, h3.get? b = some o → h6.get? b = some o) → codeAny (model X.prog X.w) (X.A.mark (some (.ref a))) (.handlers (.ref a) [.ExceptHandler none nm bd pos'] X.env) (fun r s₂ => match r with
            | .ok f => (match nm with
              | none => SP X pins D f s₂
              | some n => wpAny (model X.prog X.w) X.A (do bindName X.env n .none; unbindBehindTheSuite X.env n pos') (fun _ s₃ => SP X pins D f s₃) X.xe s₂)
            | .error x => cameBackBy (model X.prog X.w) X.A X.env X.xe x s₂) { s' with heap := h6, toks := t6 }) →
          (b = false → ∀ (h6 : Heap) (t6 : Nat), (∀ b o, h3.get? b = some o → h6.get? b = some o) → wpAny (model X.prog X.w) X.A (handleBy (.ref a) X.env hds2) (SP X pins D) X.xe { s' with heap := h6, toks := t6 }) →
          wpAny (model X.prog X.w) X.A (handleBy (.ref a) X.env (.ExceptHandler (some t) nm bd pos' :: hds2)) (SP X pins D) X.xe { s' with heap := h5, toks := t5 } := by
        intro t mt nm bd pos' hds2 b h5 t5 k5 hc hb1 hyes hno
        have fl5 := flying_keeps fl3 k5
        have J5 : Inv X pins σ' H' { s' with heap := h5, toks := t5 } := J.landed (s' := { s' with heap := h5, toks := t5 }) nb fl5.1 ((up.trans up3).trans (Heap.UpToSlots.of_keeps k5)) os ag
        obtain ⟨oe5, vs5, he5, hz5, hd5⟩ := fl5.there
        have nfr := notFr fl5.2.2.1 he5 hd5
        have nL : a ≠ X.env.locals := fun z => nfr (List.mem_filterMap.mpr ⟨X.env, List.mem_cons_self, by rw [hf, z]⟩)
        have nF : a ∉ X.fs := fun hm => by
          obtain ⟨e, he, q⟩ := List.mem_filterMap.mp hm
          exact nfr (List.mem_filterMap.mpr ⟨e, List.mem_cons_of_mem _ he, q⟩)
        have S5 := J5.suite he5 hd5 na nL nF
        refine wpAny_handleBy_cons (codeAny_handlers_test ?_) (by intro q; cases q)
        refine hc.run (X.pn ++ pins) σ' H' _ a oe5 b _ _ S5 he5 (by rw [hz5.1]; exact hb1) fun h6 t6 k6 => ?_
        cases b with
        | true => exact hyes rfl h6 t6 fun q o e => k6 q o (k5 q o e)
        | false => exact hno rfl h6 t6 fun q o e => k6 q o (k5 q o e)
      induction hk with
      | nil =>
        intro w h5 t5 k5
        have fl5 := flying_keeps fl3 k5
        refine wpAny_handleBy_nil ?_
        obtain ⟨k1, k2, k3, oe, vs, T, oT, ts', he, hz, hd, h1, hr⟩ := id fl5
        unfold PySem.passOn
        refine wpAny_bind (wpAny_field he hd h1 ?_)
        rw [if_neg (show ¬ ((Value.ref T == Value.none) = true) from by simp)]
        have fin : wpAny (model X.prog X.w) X.A (setFlight (.ref a) X.env.frame) (fun _ s4 => wpAny (model X.prog X.w) X.A (throw (.ref a) : Sem Flow) (SP X pins D) X.xe s4) X.xe { s' with heap := h5, toks := t5 } := by
          rw [hf]
          refine HandSPX.setFlight_upZ fl5 fun h4 hh4 up4 => wpAny_throw (tk _ _ ?_)
          exact ⟨a, B, sI, pins, σ', H', cls, d, rfl, J, nb, ((up.trans up3).trans (Heap.UpToSlots.of_keeps k5)).trans up4, .inr (.inr (by rw [hs]; exact hh4)), na, os, ag, w⟩
        first
          | exact wpAny_bind (wpAny_pure (wpAny_bind fin))
          | exact wpAny_bind fin
      | @plain t mt ts b₀ suite pos' hds2 l2 hc hsu r ih =>
        intro w h5 t5 k5
        obtain ⟨b, hb1, hyes, hno⟩ := w
        refine clause h5 t5 k5 hc hb1 (fun hb h6 t6 k6 => ?_) (fun hb h6 t6 k6 => ih (hno hb) h6 t6 k6)
        have fl6 := flying_keeps fl3 k6
        refine codeAny_handlers_suite ?_
        refine HandSPX.lands_againZ fl6 fun h4 fl4 up4 => ?_
        have J4 : Inv X pins σ' H' { s' with heap := h4, toks := t6 } := J.landed (s' := { s' with heap := h4, toks := t6 }) nb fl4.1 (((up.trans up3).trans (Heap.UpToSlots.of_keeps k6)).trans up4) os ag
        obtain ⟨oe4, vs4, he4, hz4, hd4⟩ := fl4.there
        have nfr := notFr fl4.2.2.1 he4 hd4
        have nL : a ≠ X.env.locals := fun z => nfr (List.mem_filterMap.mpr ⟨X.env, List.mem_cons_self, by rw [hf, z]⟩)
        have nF : a ∉ X.fs := fun hm => by
          obtain ⟨e, he, q⟩ := List.mem_filterMap.mp hm
          exact nfr (List.mem_filterMap.mpr ⟨e, List.mem_cons_of_mem _ he, q⟩)
        have S4 := J4.suite he4 hd4 na nL nF
        refine wpAny_mono ((hsu a oe4 cls d (X.pn ++ pins) hz4 ⟨_, hd4⟩).run [] _ _ H' _ S4 (hyes hb a na)) (fun f s6 hsp => ?_) (fun _ _ z => False.elim z)
        cases f with
        | next =>
          obtain ⟨σ6, H6, S6, q6⟩ := hsp
          exact ⟨_, _, S6.unsuite ok, q6⟩
        | brk =>
          obtain ⟨σ6, H6, S6, q6⟩ := hsp
          exact ⟨_, _, S6.unsuite ok, q6⟩
        | cont =>
          obtain ⟨σ6, H6, S6, q6⟩ := hsp
          exact ⟨_, _, S6.unsuite ok, q6⟩
        | ret u =>
          obtain ⟨v6, σ6, H6, S6, r6, q6⟩ := hsp
          exact ⟨_, _, _, S6.unsuite ok, r6, q6⟩
      | @named t mt i n ts b₀ suite pos' hds2 l2 hN hi hln hc hsu r ih =>
        intro w h5 t5 k5
        obtain ⟨b, hb1, hyes, hno⟩ := w
        refine clause h5 t5 k5 hc hb1 (fun hb h6 t6 k6 => ?_) (fun hb h6 t6 k6 => ih (hno hb) h6 t6 k6)
        have fl6 := flying_keeps fl3 k6
        refine codeAny_handlers_suite_as ?_
        refine HandSPX.lands_againZ fl6 fun h4 fl4 up4 => ?_
        have J4 : Inv X pins σ' H' { s' with heap := h4, toks := t6 } := J.landed (s' := { s' with heap := h4, toks := t6 }) nb fl4.1 (((up.trans up3).trans (Heap.UpToSlots.of_keeps k6)).trans up4) os ag
        obtain ⟨oe4, vs4, he4, hz4, hd4⟩ := fl4.there
        have nfr := notFr fl4.2.2.1 he4 hd4
        have nL : a ≠ X.env.locals := fun z => nfr (List.mem_filterMap.mpr ⟨X.env, List.mem_cons_self, by rw [hf, z]⟩)
        have nF : a ∉ X.fs := fun hm => by
          obtain ⟨e, he, q⟩ := List.mem_filterMap.mp hm
          exact nfr (List.mem_filterMap.mpr ⟨e, List.mem_cons_of_mem _ he, q⟩)
        have S4 := J4.suite he4 hd4 na nL nF
        refine store_ok (X := X.suite a ((a, oe4) :: (X.pn ++ pins))) (v := .ref a) S4 hN hi (.inl hln) rfl (fun s5 S5 => ?_) (.inr hln)
        refine wpAny_mono ((hsu a oe4 cls d (X.pn ++ pins) hz4 ⟨_, hd4⟩).run [] s5 _ H' _ S5 (hyes hb a na)) (fun f s6 hsp => ?_) (fun _ _ z => False.elim z)
        have end_ : ∀ {σ6 : St} {H6 : Hp} {Q : Shared → Prop}, Inv (X.suite a ((a, oe4) :: (X.pn ++ pins))) [] σ6 H6 s6 → (∀ s7, Inv X pins (σ6.set i none) H6 s7 → Q s7) →
            wpAny (model X.prog X.w) X.A (do bindName X.env n .none; unbindBehindTheSuite X.env n pos') (fun _ s7 => Q s7) X.xe s6 := fun {σ6 H6 Q} S6 hq => gone_ok (S6.unsuite ok) hN hi hln hq
        cases f with
        | next =>
          obtain ⟨σ6, H6, S6, q6⟩ := hsp
          exact end_ S6 fun s7 J7 => ⟨_, _, J7, q6⟩
        | brk =>
          obtain ⟨σ6, H6, S6, q6⟩ := hsp
          exact end_ S6 fun s7 J7 => ⟨_, _, J7, q6⟩
        | cont =>
          obtain ⟨σ6, H6, S6, q6⟩ := hsp
          exact end_ S6 fun s7 J7 => ⟨_, _, J7, q6⟩
        | ret u =>
          obtain ⟨v6, σ6, H6, S6, r6, q6⟩ := hsp
          exact end_ S6 fun s7 J7 => ⟨_, _, _, J7, r6, q6⟩
    exact go hh w h3 s'.toks fun _ _ z => z
  · cases f with
    | next =>
      obtain ⟨σ', H', J', q⟩ := hsp
      exact wpAny_execs_nil ⟨σ', H', J'.ofTry ok, q⟩
    | brk =>
      obtain ⟨σ', H', J', q⟩ := hsp
      exact ⟨σ', H', J'.ofTry ok, q⟩
    | cont =>
      obtain ⟨σ', H', J', q⟩ := hsp
      exact ⟨σ', H', J'.ofTry ok, q⟩
    | ret u =>
      obtain ⟨v, σ', H', J', r, q⟩ := hsp
      exact ⟨v, σ', H', J'.ofTry ok, r, q⟩
end
end L2
set_option Elab.async false
set_option linter.all false
set_option maxRecDepth 100000
set_option maxHeartbeats 4000000
namespace L2
open PySem PySem.Spec PyProof.Rows
/-! ### a text from its end: z[::-1] -/
def revS (z : Str) : Str := ⟨z.cps.toList.reverse.toArray⟩
theorem revS_pick (z : Str) : ((Builtin.Str.strSliceIndices none none (-1) z.length).filterMap (z.cps[·]?)).toArray = z.cps.toList.reverse.toArray := by
  have e : Builtin.Str.strSliceIndices none none (-1) z.length = sliceRange ((z.length : Int) - 1) (-1) (-1) := by
    simp [Builtin.Str.strSliceIndices]
  rw [e, PySem.W.krv_sliceRange, PySem.W.krv_range, List.filterMap_reverse]
  have h : (List.range z.length).filterMap (z.cps[·]?) = z.cps.toList := PySem.W.krv_all z.cps
  rw [h]
def tRevS (te : TE) : TE := fun σ H Q => te σ H fun x H1 => ∃ z, x = .str z ∧ z.length ≤ sizeLine ∧ Q (.str (revS z)) H1
theorem pe_revS {X : Cx} {e : Expr} {te : TE} {k : Nat} {p1 p2 p3 pos : Pos} (he : PE X e te) : PE X (.Subscript e (.Slice none none (some (.UnaryOp .USub (.Constant (.int 1) k p1) p2)) p3) pos) (tRevS te) := by
  refine ⟨fun pins s σ H Q I h => ?_⟩
  refine Subscript_ (thn (he.run pins s σ H _ I h) fun v s1 ⟨x, H1, I1, r1, q1⟩ => ?_)
  obtain ⟨z, ex, hz, q⟩ := q1
  subst ex
  obtain ⟨t, rfl⟩ := r1
  have hst : PO X (some (.UnaryOp .USub (.Constant (.int 1) k p1) p2)) (tPart (tUn (rU fun i => .int (-i)) (tC (.int 1)))) := po_some (pe_un un_neg pe_int)
  refine wpAny_Slice (thn (po_none.run pins s1 σ H1 (fun o H2 => o = none ∧ H2 = H1) I1 ⟨rfl, rfl⟩) fun vl s2 ⟨l, H2, I2, pl, el, e2⟩ => ?_)
  subst el e2
  refine thn (po_none.run pins s2 σ H2 (fun o H3 => o = none ∧ H3 = H2) I2 ⟨rfl, rfl⟩) fun vu s3 ⟨u, H3, I3, pu, eu, e3⟩ => ?_
  subst eu e3
  refine thn (hst.run pins s3 σ H3 (fun o H4 => o = some (-1) ∧ H4 = H3) I3 ⟨1, rfl, -1, rfl, rfl, rfl⟩) fun vs s4 ⟨o, H4, I4, ps, eo, e4⟩ => ?_
  subst eo e4
  have I5 : Inv X pins σ H4 { s4 with heap := s4.heap.push { cls := .type "slice", data := .fields #[vl, vu, vs] } } := I4.kept (t' := s4.toks) fun b ob q => Heap.get?_push_of_some _ q
  cases pl
  cases pu
  obtain ⟨st, hst1, hst2⟩ := IsPart.raw ps
  subst hst1
  have hsl : Heap.IsSlice (s4.heap.push { cls := .type "slice", data := .fields #[.none, .none, partValue st] }) s4.heap.objs.size none none st := ⟨_, Heap.get?_push_size _ rfl, rfl, rfl⟩
  show wpAny (model X.prog X.w) X.A (subscriptTail e (.Slice none none (some (.UnaryOp .USub (.Constant (.int 1) k p1) p2)) p3) (.str z t) (.ref s4.heap.objs.size)) (EP X pins σ Q) X.xe { s4 with heap := s4.heap.push { cls := .type "slice", data := .fields #[.none, .none, partValue st] } }
  refine tail_any (ops := [.ref s4.heap.objs.size, .str z t]) (typeIs_str _ _ _) (PySem.F.slot_str_getitem.lookup) ?_ (by with_unfolding_all rfl)
  refine wpAny_getItem_str_slice hsl (by rw [hst2]; rfl) ?_
  have hm : sliceMade z t none none st = Made.str (revS z) := by
    unfold sliceMade
    rw [hst2]
    rw [if_neg (by intro c; rw [show (((some (-1) : Option Int).getD 1) == 1) = false from by decide, Bool.false_and] at c; cases c)]
    have e2 : slicePicked z none none st = Builtin.Str.strSliceIndices none none (-1) z.length := by
      unfold slicePicked
      rw [hst2]
      rfl
    rw [e2, revS_pick]
    rfl
  rw [hm]
  refine ⟨?_, .str (revS z), H4, I5.tok _, ⟨_, rfl⟩, q⟩
  have e3 : (revS z).length = z.length := by simp [revS, Str.length]
  rw [e3]
  exact hz
end L2
set_option Elab.async false
set_option linter.all false
set_option maxRecDepth 100000
set_option maxHeartbeats 4000000
/-! enumerate(zip(x, y)): the zip's own tuple is held by the enumerate, so the zip is met in any state of its owned tuple -/
namespace PySem
open Sem (wp)
theorem xz_alive {M : Model} {A : Around} {E : Value → Shared → Prop} {s : Shared} {a : Addr} {Q : Option Obj → Shared → Prop} (h : Q (s.heap.get? a) s) : wpAny M A (loadIfAlive a) Q E s := fun _ _ _ => h
/-- a zip in any state of its owned tuple -/
abbrev IsZipG (h : Heap) (z TI TO : Addr) (f0 f1 : Value) : Prop :=
  h.get? z = some { cls := .type "zip", dict := none, data := .fields #[f0, f1, .bool false, .ref TI, .ref TO], slots := #[] }
def OwnG (f0 : Value) : Prop := f0 = .none ∨ ∃ k : Int, f0 = rawInt k
section
variable {prog : Program} {w : World} {A : Around} {E : Value → Shared → Prop} {s : Shared} {z TI TO i1 i2 : Addr} {fp1 fp2 : List Addr} {n1 n2 i : Nat} {P1 P2 : Nat → Value → Prop} {St1 St2 : Nat → Heap → Prop} {a1 a2 f0 f1 : Value}
/-- is the owned tuple free: either answer, the zip's second field may be set -/
theorem xz_free {Q : Bool → Shared → Prop} (hz : IsZipG s.heap z TI TO f0 f1) (ho : OwnG f0)
    (h : ∀ b f1' h', IsZipG h' z TI TO f0 f1' → Heap.SameBut z s.heap h' → Q b { s with heap := h' }) : wpAny (model prog w) A (Builtin.SmallTypes.ownedTupleIsFree (.ref z)) Q E s := by
  have refl : Heap.SameBut z s.heap s.heap := ⟨rfl, fun _ _ => rfl⟩
  unfold Builtin.SmallTypes.ownedTupleIsFree
  rcases ho with e | ⟨k, e⟩
  · subst e
    exact wpAny_bind (wpAny_field hz rfl (x := .none) rfl (wpAny_pure (h true f1 s.heap hz refl)))
  · subst e
    refine wpAny_bind (wpAny_field hz rfl (x := rawInt k) rfl ?_)
    show wpAny _ _ (loadIfAlive k.toNat >>= _) _ _ _
    refine wpAny_bind (xz_alive ?_)
    cases hk : s.heap.get? k.toNat with
    | none => exact wpAny_pure (h true f1 s.heap hz refl)
    | some o =>
      show wpAny _ _ (field (.ref z) 1 >>= _) _ _ _
      refine wpAny_bind (wpAny_field hz rfl (x := f1) rfl ?_)
      by_cases c : (f1 != Value.bool true) = true
      · rw [if_pos c]
        refine wpAny_bind (wpAny_setField_rec hz (by simp) fun h1 hz1 hs1 => wpAny_pure ?_)
        exact h false (.bool true) h1 hz1 hs1
      · rw [if_neg c]
        exact wpAny_pure (h false f1 s.heap hz refl)

/-- the next pair of a zip in any state: a new tuple at the heap's end -/
theorem xz_item {Q : Value → Shared → Prop} (S : ZipSep2 z TI TO i1 i2 fp1 fp2) (D1 : Draws prog w A i1 fp1 n1 P1 St1) (D2 : Draws prog w A i2 fp2 n2 P2 St2) (ho : OwnG f0)
    (hz : IsZipG s.heap z TI TO f0 f1) (hTI : IsTupOf2 s.heap TI (.ref i1) (.ref i2)) (hTO : IsTupOf2 s.heap TO a1 a2) (st1 : St1 i s.heap) (st2 : St2 i s.heap) (hlt1 : i < n1) (hlt2 : i < n2)
    (hQ : ∀ x1 x2 h' tk g0 g1 b1 b2, P1 i x1 → P2 i x2 → OwnG g0 → IsZipG h' z TI TO g0 g1 → IsTupOf2 h' TO b1 b2 → St1 (i + 1) h' → St2 (i + 1) h' → IsTupOf2 h' s.heap.objs.size x1 x2 → h'.objs.size = s.heap.objs.size + 1 →
      (∀ c o, c ≠ z → c ≠ TO → c ≠ i1 → c ≠ i2 → s.heap.get? c = some o → h'.get? c = some o) → Q (.ref s.heap.objs.size) { s with heap := h', toks := tk }) :
    wpAny (model prog w) A (Builtin.«zip.__next__» ⟨[.ref z], []⟩) (fun fin s' => ∃ v, fin = .done (.ret v) ∧ Q v s') E s := by
  obtain ⟨hp, g, d, tk0, os⟩ := s
  show wpAny _ _ (field (.ref z) 2 >>= _) _ _ _
  refine wpAny_bind (wpAny_field hz rfl (x := .bool false) rfl ?_)
  show wpAny _ _ (field (.ref z) 3 >>= _) _ _ _
  refine wpAny_bind (wpAny_field hz rfl (x := .ref TI) rfl ?_)
  refine wpAny_bind (wpAny_seqItems hTI rfl ?_)
  show wpAny _ _ (Builtin.SmallTypes.ownedTupleIsFree (.ref z) >>= _) _ _ _
  refine wpAny_bind (xz_free hz ho fun bfree f1' g00 hzA hs00 => ?_)
  replace hs00 : Heap.SameBut z hp g00 := hs00
  have hTOA : IsTupOf2 g00 TO a1 a2 := hs00.extBut _ _ S.TOz hTO
  have stA1 : St1 i g00 := D1.over st1 hs00 S.zf1
  have stA2 : St2 i g00 := D2.over st2 hs00 S.zf2
  cases bfree with
  | true =>
    rw [if_pos rfl]
    refine wpAny_bind (wpAny_rule ?_)
    refine wpAny_bind (wpAny_field hzA rfl (x := .ref TO) rfl ?_)
    refine wpAny_bind (wpAny_setField_rec hzA (by simp) fun g0 hz0 hs0 => ?_)
    replace hz0 : IsZipG g0 z TI TO .ellipsis f1' := hz0
    replace hs0 : Heap.SameBut z g00 g0 := hs0
    refine wpAny_bind ?_
    simp only [List.zipIdx_cons, List.zipIdx_nil, List.forIn_cons, List.forIn_nil]
    refine wpAny_bind (wpAny_bind (wpAny_onRaise ?_))
    show wpAny _ _ (Builtin.SmallTypes.nextOf (.ref i1) >>= _) _ _ ⟨g0, g, d, tk0, os⟩
    refine wpAny_bind (D1.item i _ _ _ hlt1 (D1.over stA1 hs0 S.zf1) fun x1 p1 tk1 hx1 sn1 hp1 => wpAny_pure ?_)
    replace hp1 : Heap.SameBut i1 g0 p1 := hp1
    have hU1 : IsTupOf2 p1 TO a1 a2 := hp1.extBut _ _ S.Ti1 (hs0.extBut _ _ S.TOz hTOA)
    refine wpAny_bind (wpAny_seqItems (s := ⟨p1, g, d, tk1, os⟩) hU1 rfl ?_)
    refine wpAny_bind (updateSeq_IsTupOf2 (s := ⟨p1, g, d, tk1, os⟩) hU1 fun g1 hT1 hs1 => ?_)
    replace hT1 : IsTupOf2 g1 TO x1 a2 := hT1
    replace hs1 : Heap.SameBut TO p1 g1 := hs1
    refine wpAny_bind (wpAny_letGo (wpAny_pure ?_))
    refine wpAny_bind (wpAny_bind (wpAny_onRaise ?_))
    show wpAny _ _ (Builtin.SmallTypes.nextOf (.ref i2) >>= _) _ _ ⟨g1, g, d, tk1, os⟩
    refine wpAny_bind (D2.item i _ _ _ hlt2 (D2.over (D2.over (D2.over stA2 hs0 S.zf2) hp1 S.sep1_2) hs1 S.Tf2) fun x2 p2 tk2 hx2 sn2 hp2 => wpAny_pure ?_)
    replace hp2 : Heap.SameBut i2 g1 p2 := hp2
    have hU2 : IsTupOf2 p2 TO x1 a2 := hp2.extBut _ _ S.Ti2 hT1
    refine wpAny_bind (wpAny_seqItems (s := ⟨p2, g, d, tk2, os⟩) hU2 rfl ?_)
    refine wpAny_bind (updateSeq_IsTupOf2 (s := ⟨p2, g, d, tk2, os⟩) hU2 fun g2 hT2 hs2 => ?_)
    replace hT2 : IsTupOf2 g2 TO x1 x2 := hT2
    replace hs2 : Heap.SameBut TO p2 g2 := hs2
    refine wpAny_bind (wpAny_letGo (wpAny_pure (wpAny_pure ?_)))
    refine wpAny_bind (wpAny_seqItems (s := ⟨g2, g, d, tk2, os⟩) hT2 rfl ?_)
    refine wpAny_bind (wpAny_newTuple ?_)
    have hsz : g2.objs.size = hp.objs.size := by rw [hs2.1, hp2.1, hs1.1, hp1.1, hs0.1, hs00.1]
    have hzz : IsZipG g2 z TI TO .ellipsis f1' := (hs2.extBut _ _ S.TOz.symm (hp2.extBut _ _ S.zi2 (hs1.extBut _ _ S.TOz.symm (hp1.extBut _ _ S.zi1 hz0))))
    have hkk : ∀ c o, c ≠ z → c ≠ TO → c ≠ i1 → c ≠ i2 → hp.get? c = some o → g2.get? c = some o := fun c o cz cT c1 c2 e =>
      (hs2.extBut _ _ cT (hp2.extBut _ _ c2 (hs1.extBut _ _ cT (hp1.extBut _ _ c1 (hs0.extBut _ _ cz (hs00.extBut _ _ cz e))))))
    have hj1 : St1 (i + 1) g2 := (D1.over (D1.over (D1.over sn1 hs1 S.Tf1) hp2 S.sep2_1) hs2 S.Tf1)
    have hj2 : St2 (i + 1) g2 := (D2.over sn2 hs2 S.Tf2)
    have hzlt : z < g2.objs.size := Heap.lt_size hzz
    show wpAny _ _ (Builtin.SmallTypes.ownedTupleHandOut (.ref z) (.ref g2.objs.size) >>= _) _ _ ⟨g2.push { cls := .type "tuple", data := .seq #[x1, x2] }, g, d, tk2, os⟩
    refine wpAny_bind ?_
    unfold Builtin.SmallTypes.ownedTupleHandOut
    have hz6 : IsZipG (g2.push { cls := .type "tuple", data := .seq #[x1, x2] }) z TI TO .ellipsis f1' := Heap.get?_push_of_some _ hzz
    refine wpAny_bind (wpAny_setField_rec hz6 (by simp) fun h7 hz7 hs7 => ?_)
    replace hz7 : IsZipG h7 z TI TO (rawInt g2.objs.size) f1' := hz7
    refine wpAny_setField_rec hz7 (by simp) fun h8 hz8 hs8 => ?_
    replace hz8 : IsZipG h8 z TI TO (rawInt g2.objs.size) (.bool false) := hz8
    replace hs7 : Heap.SameBut z (g2.push { cls := .type "tuple", data := .seq #[x1, x2] }) h7 := hs7
    replace hs8 : Heap.SameBut z h7 h8 := hs8
    have up : ∀ c o, c ≠ z → g2.get? c = some o → h8.get? c = some o := fun c o c1 e => hs8.extBut _ _ c1 (hs7.extBut _ _ c1 (Heap.get?_push_of_some _ e))
    have hT8 : IsTupOf2 h8 g2.objs.size x1 x2 := hs8.extBut _ _ (Nat.ne_of_gt hzlt) (hs7.extBut _ _ (Nat.ne_of_gt hzlt) (Heap.get?_push_size _ rfl))
    have hn8 : h8.objs.size = g2.objs.size + 1 := by rw [hs8.1, hs7.1, Heap.size_push]
    rw [hsz] at hT8 hn8
    refine wpAny_pure ⟨_, rfl, ?_⟩
    show Q (.ref g2.objs.size) ⟨h8, g, d, tk2, os⟩
    have goal := hQ x1 x2 h8 tk2 _ _ x1 x2 hx1 hx2 (.inr ⟨_, rfl⟩) hz8 (up _ _ S.TOz hT2) (D1.frame _ _ _ hj1 fun b hb o e => up b o (fun q => S.zf1 (q ▸ hb)) e) (D2.frame _ _ _ hj2 fun b hb o e => up b o (fun q => S.zf2 (q ▸ hb)) e) hT8 hn8 fun c o cz cT c1 c2 e => up c o cz (hkk c o cz cT c1 c2 e)
    rw [hsz]
    exact goal
  | false =>
    rw [if_neg Bool.false_ne_true]
    refine wpAny_bind ?_
    simp only [List.forIn_toArray, List.forIn_cons, List.forIn_nil]
    refine wpAny_bind (wpAny_bind (wpAny_holding ?_))
    show wpAny _ _ (Builtin.SmallTypes.nextOf (.ref i1) >>= _) _ _ ⟨g00, g, d, tk0, os⟩
    refine wpAny_bind (D1.item i _ _ _ hlt1 stA1 fun x1 p1 tk1 hx1 sn1 hp1 => wpAny_pure (wpAny_pure ?_))
    replace hp1 : Heap.SameBut i1 g00 p1 := hp1
    refine wpAny_bind (wpAny_bind (wpAny_holding ?_))
    show wpAny _ _ (Builtin.SmallTypes.nextOf (.ref i2) >>= _) _ _ ⟨p1, g, d, tk1, os⟩
    refine wpAny_bind (D2.item i _ _ _ hlt2 (D2.over stA2 hp1 S.sep1_2) fun x2 p2 tk2 hx2 sn2 hp2 => wpAny_pure (wpAny_pure (wpAny_pure ?_)))
    replace hp2 : Heap.SameBut i2 p1 p2 := hp2
    show wpAny _ _ (newTuple [x1, x2] >>= _) _ _ ⟨p2, g, d, tk2, os⟩
    refine wpAny_bind (wpAny_newTuple ?_)
    have hsz : p2.objs.size = hp.objs.size := by rw [hp2.1, hp1.1, hs00.1]
    have hzz : IsZipG p2 z TI TO f0 f1' := hp2.extBut _ _ S.zi2 (hp1.extBut _ _ S.zi1 hzA)
    have hTT : IsTupOf2 p2 TO a1 a2 := hp2.extBut _ _ S.Ti2 (hp1.extBut _ _ S.Ti1 hTOA)
    have up : ∀ c o, p2.get? c = some o → (p2.push { cls := .type "tuple", data := .seq #[x1, x2] }).get? c = some o := fun c o e => Heap.get?_push_of_some _ e
    have hT8 : IsTupOf2 (p2.push { cls := .type "tuple", data := .seq #[x1, x2] }) p2.objs.size x1 x2 := Heap.get?_push_size _ rfl
    have hn8 : (p2.push { cls := .type "tuple", data := .seq #[x1, x2] }).objs.size = p2.objs.size + 1 := Heap.size_push ..
    have hj1 : St1 (i + 1) p2 := D1.over sn1 hp2 S.sep2_1
    refine wpAny_pure ⟨_, rfl, ?_⟩
    show Q (.ref p2.objs.size) ⟨p2.push { cls := .type "tuple", data := .seq #[x1, x2] }, g, d, tk2, os⟩
    rw [hsz] at hT8 hn8
    have goal := hQ x1 x2 (p2.push { cls := .type "tuple", data := .seq #[x1, x2] }) tk2 _ _ _ _ hx1 hx2 ho (up _ _ hzz) (up _ _ hTT) (D1.frame _ _ _ hj1 fun b _ o e => up b o e) (D2.frame _ _ _ sn2 fun b _ o e => up b o e) hT8 hn8
      fun c o cz cT c1 c2 e => up c o (hp2.extBut _ _ c2 (hp1.extBut _ _ c1 (hs00.extBut _ _ cz e)))
    rw [hsz]
    exact goal

/-- the end of such a zip: StopIteration flies -/
theorem xz_end {Q : Fin → Shared → Prop} (S : ZipSep2 z TI TO i1 i2 fp1 fp2) (D1 : Draws prog w A i1 fp1 n1 P1 St1) (D2 : Draws prog w A i2 fp2 n2 P2 St2) (ho : OwnG f0)
    (hz : IsZipG s.heap z TI TO f0 f1) (hTI : IsTupOf2 s.heap TI (.ref i1) (.ref i2)) (hTO : IsTupOf2 s.heap TO a1 a2) (st1 : St1 i s.heap) (st2 : St2 i s.heap) (hle1 : i ≤ n1) (hle2 : i ≤ n2) (hend : i = n1 ∨ i = n2)
    (hE : ∀ h' tk e, (∀ c o, c ≠ z → c ≠ TO → c ≠ i1 → c ≠ i2 → s.heap.get? c = some o → h'.get? c = some o) → (∃ o, h'.get? e = some o ∧ o.cls = .type "StopIteration") → E (.ref e) { s with heap := h', toks := tk }) :
    wpAny (model prog w) A (Builtin.«zip.__next__» ⟨[.ref z], []⟩) Q E s := by
  obtain ⟨hp, g, d, tk0, os⟩ := s
  show wpAny _ _ (field (.ref z) 2 >>= _) _ _ _
  refine wpAny_bind (wpAny_field hz rfl (x := .bool false) rfl ?_)
  show wpAny _ _ (field (.ref z) 3 >>= _) _ _ _
  refine wpAny_bind (wpAny_field hz rfl (x := .ref TI) rfl ?_)
  refine wpAny_bind (wpAny_seqItems hTI rfl ?_)
  show wpAny _ _ (Builtin.SmallTypes.ownedTupleIsFree (.ref z) >>= _) _ _ _
  refine wpAny_bind (xz_free hz ho fun bfree f1' g00 hzA hs00 => ?_)
  replace hs00 : Heap.SameBut z hp g00 := hs00
  have hTOA : IsTupOf2 g00 TO a1 a2 := hs00.extBut _ _ S.TOz hTO
  have stA1 : St1 i g00 := D1.over st1 hs00 S.zf1
  have stA2 : St2 i g00 := D2.over st2 hs00 S.zf2
  cases bfree with
  | true =>
    rw [if_pos rfl]
    refine wpAny_bind (wpAny_rule ?_)
    refine wpAny_bind (wpAny_field hzA rfl (x := .ref TO) rfl ?_)
    refine wpAny_bind (wpAny_setField_rec hzA (by simp) fun g0 hz0 hs0 => ?_)
    replace hz0 : IsZipG g0 z TI TO .ellipsis f1' := hz0
    replace hs0 : Heap.SameBut z g00 g0 := hs0
    refine wpAny_bind ?_
    simp only [List.zipIdx_cons, List.zipIdx_nil, List.forIn_cons, List.forIn_nil]
    refine wpAny_bind (wpAny_bind (wpAny_onRaise ?_))
    show wpAny _ _ (Builtin.SmallTypes.nextOf (.ref i1) >>= _) _ _ ⟨g0, g, d, tk0, os⟩
    by_cases hlt1 : i < n1
    · refine wpAny_bind (D1.item i _ _ _ hlt1 (D1.over stA1 hs0 S.zf1) fun x1 p1 tk1 hx1 sn1 hp1 => wpAny_pure ?_)
      replace hp1 : Heap.SameBut i1 g0 p1 := hp1
      have hU1 : IsTupOf2 p1 TO a1 a2 := hp1.extBut _ _ S.Ti1 (hs0.extBut _ _ S.TOz hTOA)
      refine wpAny_bind (wpAny_seqItems (s := ⟨p1, g, d, tk1, os⟩) hU1 rfl ?_)
      refine wpAny_bind (updateSeq_IsTupOf2 (s := ⟨p1, g, d, tk1, os⟩) hU1 fun g1 hT1 hs1 => ?_)
      replace hs1 : Heap.SameBut TO p1 g1 := hs1
      refine wpAny_bind (wpAny_letGo (wpAny_pure ?_))
      have hi2 : i = n2 := by omega
      refine wpAny_bind (wpAny_bind (wpAny_onRaise ?_))
      show wpAny _ _ (Builtin.SmallTypes.nextOf (.ref i2) >>= _) _ _ ⟨g1, g, d, tk1, os⟩
      refine wpAny_bind (D2.done ⟨g1, g, d, tk1, os⟩ _ _ (by rw [← hi2]; exact (D2.over (D2.over (D2.over stA2 hs0 S.zf2) hp1 S.sep1_2) hs1 S.Tf2)) fun q e hq he => ?_)
      replace hq : Heap.ExtBut i2 g1 q := hq
      obtain ⟨oe, hoe, hce⟩ := he
      replace hoe : q.get? e = some oe := hoe
      have hzq : IsZipG q z TI TO .ellipsis f1' := hq _ _ S.zi2 (hs1.extBut _ _ S.TOz.symm (hp1.extBut _ _ S.zi1 hz0))
      have hez : e ≠ z := fun x => by subst x; rw [hzq] at hoe; cases hoe; simp at hce
      refine wpAny_setField_rec (s := ⟨q, g, d, tk1, os⟩) hzq (by simp) fun q' _ hq' => ?_
      replace hq' : Heap.SameBut z q q' := hq'
      exact hE q' tk1 e (fun c o cz cT c1 c2 x => hq'.extBut _ _ cz (hq _ _ c2 (hs1.extBut _ _ cT (hp1.extBut _ _ c1 (hs0.extBut _ _ cz (hs00.extBut _ _ cz x)))))) ⟨oe, hq'.extBut _ _ hez hoe, hce⟩
    · have hi1 : i = n1 := by omega
      refine wpAny_bind (D1.done ⟨g0, g, d, tk0, os⟩ _ _ (by rw [← hi1]; exact (D1.over stA1 hs0 S.zf1)) fun q e hq he => ?_)
      replace hq : Heap.ExtBut i1 g0 q := hq
      obtain ⟨oe, hoe, hce⟩ := he
      replace hoe : q.get? e = some oe := hoe
      have hzq : IsZipG q z TI TO .ellipsis f1' := hq _ _ S.zi1 hz0
      have hez : e ≠ z := fun x => by subst x; rw [hzq] at hoe; cases hoe; simp at hce
      refine wpAny_setField_rec (s := ⟨q, g, d, tk0, os⟩) hzq (by simp) fun q' _ hq' => ?_
      replace hq' : Heap.SameBut z q q' := hq'
      exact hE q' tk0 e (fun c o cz cT c1 c2 x => hq'.extBut _ _ cz (hq _ _ c1 (hs0.extBut _ _ cz (hs00.extBut _ _ cz x)))) ⟨oe, hq'.extBut _ _ hez hoe, hce⟩
  | false =>
    rw [if_neg Bool.false_ne_true]
    refine wpAny_bind ?_
    simp only [List.forIn_toArray, List.forIn_cons, List.forIn_nil]
    refine wpAny_bind (wpAny_bind (wpAny_holding ?_))
    show wpAny _ _ (Builtin.SmallTypes.nextOf (.ref i1) >>= _) _ _ ⟨g00, g, d, tk0, os⟩
    by_cases hlt1 : i < n1
    · refine wpAny_bind (D1.item i _ _ _ hlt1 stA1 fun x1 p1 tk1 hx1 sn1 hp1 => wpAny_pure (wpAny_pure ?_))
      replace hp1 : Heap.SameBut i1 g00 p1 := hp1
      have hi2 : i = n2 := by omega
      refine wpAny_bind (wpAny_bind (wpAny_holding ?_))
      show wpAny _ _ (Builtin.SmallTypes.nextOf (.ref i2) >>= _) _ _ ⟨p1, g, d, tk1, os⟩
      refine wpAny_bind (D2.done ⟨p1, g, d, tk1, os⟩ _ _ (by rw [← hi2]; exact D2.over stA2 hp1 S.sep1_2) fun q e hq he => ?_)
      replace hq : Heap.ExtBut i2 p1 q := hq
      exact hE q tk1 e (fun c o cz cT c1 c2 x => hq _ _ c2 (hp1.extBut _ _ c1 (hs00.extBut _ _ cz x))) he
    · have hi1 : i = n1 := by omega
      refine wpAny_bind (D1.done ⟨g00, g, d, tk0, os⟩ _ _ (by rw [← hi1]; exact stA1) fun q e hq he => ?_)
      replace hq : Heap.ExtBut i1 g00 q := hq
      exact hE q tk0 e (fun c o cz cT c1 c2 x => hq _ _ c1 (hs00.extBut _ _ cz x)) he
theorem xz_nextOf {Q : Value → Shared → Prop} (S : ZipSep2 z TI TO i1 i2 fp1 fp2) (D1 : Draws prog w A.in1 i1 fp1 n1 P1 St1) (D2 : Draws prog w A.in1 i2 fp2 n2 P2 St2) (ho : OwnG f0)
    (hz : IsZipG s.heap z TI TO f0 f1) (hTI : IsTupOf2 s.heap TI (.ref i1) (.ref i2)) (hTO : IsTupOf2 s.heap TO a1 a2) (st1 : St1 i s.heap) (st2 : St2 i s.heap) (hlt1 : i < n1) (hlt2 : i < n2)
    (hQ : ∀ x1 x2 h' tk g0 g1 b1 b2, P1 i x1 → P2 i x2 → OwnG g0 → IsZipG h' z TI TO g0 g1 → IsTupOf2 h' TO b1 b2 → St1 (i + 1) h' → St2 (i + 1) h' → IsTupOf2 h' s.heap.objs.size x1 x2 → h'.objs.size = s.heap.objs.size + 1 →
      (∀ c o, c ≠ z → c ≠ TO → c ≠ i1 → c ≠ i2 → s.heap.get? c = some o → h'.get? c = some o) → Q (.ref s.heap.objs.size) { s with heap := h', toks := tk }) :
    wpAny (model prog w) A (Builtin.SmallTypes.nextOf (.ref z)) Q E s := by
  have hT : s.TypeIs (.ref z) "zip" := ⟨_, hz, rfl⟩
  unfold Builtin.SmallTypes.nextOf
  exact wpAny_bind (wpAny_callSpecial?_slot (name := Str.ofString "__next__") hT F.slot_zip_next
    (wpAny_call_entry F.slot_zip_next hT F.entry_zip_next
      (xz_item S D1 D2 ho hz hTI hTO st1 st2 hlt1 hlt2 fun x1 x2 h' tk g0 g1 b1 b2 p1 p2 o1 y1 y2 y3 y4 y5 y6 y7 => wpAny_pure (hQ x1 x2 h' tk g0 g1 b1 b2 p1 p2 o1 y1 y2 y3 y4 y5 y6 y7)) (F.args_zip_next_1 _)))
theorem xz_nextOf_end {Q : Value → Shared → Prop} (S : ZipSep2 z TI TO i1 i2 fp1 fp2) (D1 : Draws prog w A.in1 i1 fp1 n1 P1 St1) (D2 : Draws prog w A.in1 i2 fp2 n2 P2 St2) (ho : OwnG f0)
    (hz : IsZipG s.heap z TI TO f0 f1) (hTI : IsTupOf2 s.heap TI (.ref i1) (.ref i2)) (hTO : IsTupOf2 s.heap TO a1 a2) (st1 : St1 i s.heap) (st2 : St2 i s.heap) (hle1 : i ≤ n1) (hle2 : i ≤ n2) (hend : i = n1 ∨ i = n2)
    (hE : ∀ h' tk e, (∀ c o, c ≠ z → c ≠ TO → c ≠ i1 → c ≠ i2 → s.heap.get? c = some o → h'.get? c = some o) → (∃ o, h'.get? e = some o ∧ o.cls = .type "StopIteration") → E (.ref e) { s with heap := h', toks := tk }) :
    wpAny (model prog w) A (Builtin.SmallTypes.nextOf (.ref z)) Q E s := by
  have hT : s.TypeIs (.ref z) "zip" := ⟨_, hz, rfl⟩
  unfold Builtin.SmallTypes.nextOf
  exact wpAny_bind (wpAny_callSpecial?_slot (name := Str.ofString "__next__") hT F.slot_zip_next
    (wpAny_call_entry F.slot_zip_next hT F.entry_zip_next
      (xz_end S D1 D2 ho hz hTI hTO st1 st2 hle1 hle2 hend hE) (F.args_zip_next_1 _)))
/-- the next item of enumerate over a zip: two new tuples, the pair and (i, pair) -/
theorem xe_item {e : Addr} {old : Value} {Q : Value → Shared → Prop} (S : ZipSep2 z TI TO i1 i2 fp1 fp2) (D1 : Draws prog w A.in1 i1 fp1 n1 P1 St1) (D2 : Draws prog w A.in1 i2 fp2 n2 P2 St2) (ho : OwnG f0)
    (he : IsEnum s.heap e z i old) (hez : e ≠ z) (heT : e ≠ TO) (heI : e ≠ TI) (hef1 : e ∉ fp1) (hef2 : e ∉ fp2)
    (hz : IsZipG s.heap z TI TO f0 f1) (hTI : IsTupOf2 s.heap TI (.ref i1) (.ref i2)) (hTO : IsTupOf2 s.heap TO a1 a2) (st1 : St1 i s.heap) (st2 : St2 i s.heap) (hlt1 : i < n1) (hlt2 : i < n2)
    (hQ : ∀ x1 x2 h' tk tk1 g0 g1 b1 b2, P1 i x1 → P2 i x2 → OwnG g0 → IsEnumOut h' e z ((i : Int) + 1) (.ref s.heap.objs.size) (s.heap.objs.size + 1) → IsZipG h' z TI TO g0 g1 → IsTupOf2 h' TO b1 b2 → St1 (i + 1) h' → St2 (i + 1) h' →
      IsTupOf2 h' s.heap.objs.size x1 x2 → IsTupOf2 h' (s.heap.objs.size + 1) (.int i tk1) (.ref s.heap.objs.size) →
      (∀ c o, c ≠ e → c ≠ z → c ≠ TO → c ≠ i1 → c ≠ i2 → s.heap.get? c = some o → h'.get? c = some o) → Q (.ref (s.heap.objs.size + 1)) { s with heap := h', toks := tk }) :
    wpAny (model prog w) A (Builtin.«enumerate.__next__» ⟨[.ref e], []⟩) (fun fin s' => ∃ v, fin = .done (.ret v) ∧ Q v s') E s := by
  obtain ⟨hp, g, d, tk₀, os⟩ := s
  have hei1 : e ≠ i1 := fun q => hef1 (q ▸ S.mem1)
  have hei2 : e ≠ i2 := fun q => hef2 (q ▸ S.mem2)
  show wpAny _ _ (field (.ref e) 2 >>= _) _ _ _
  refine wpAny_bind (wpAny_field he rfl (x := .ref z) rfl ?_)
  refine wpAny_bind (xz_nextOf S D1 D2 ho hz hTI hTO st1 st2 hlt1 hlt2 fun x1 x2 h1 tk g0 g1 b1 b2 hP1 hP2 hO z1 T1 s1 s2 hN sz1 k1 => ?_)
  replace hN : IsTupOf2 h1 hp.objs.size x1 x2 := hN
  replace sz1 : h1.objs.size = hp.objs.size + 1 := sz1
  replace k1 : ∀ c o, c ≠ z → c ≠ TO → c ≠ i1 → c ≠ i2 → hp.get? c = some o → h1.get? c = some o := k1
  have he1 : IsEnum h1 e z i old := k1 _ _ hez heT hei1 hei2 he
  show wpAny _ _ (field (.ref e) 3 >>= _) _ _ ⟨h1, g, d, tk, os⟩
  refine wpAny_bind (wpAny_field he1 rfl (x := rawInt i) rfl ?_)
  show wpAny _ _ (field (.ref e) 4 >>= _) _ _ ⟨h1, g, d, tk, os⟩
  refine wpAny_bind (wpAny_field he1 rfl (x := .none) rfl ?_)
  show wpAny _ _ (mkInt i >>= _) _ _ ⟨h1, g, d, tk, os⟩
  refine wpAny_bind (wpAny_mkInt ?_)
  show wpAny _ _ (setField (.ref e) 3 (rawInt ((i : Int) + 1)) >>= _) _ _ ⟨h1, g, d, tk + 1, os⟩
  refine wpAny_bind (wpAny_setField_rec he1 (by simp) fun h2 he2 hs2 => ?_)
  replace hs2 : Heap.SameBut e h1 h2 := hs2
  replace he2 : IsEnum h2 e z ((i : Int) + 1) old := he2
  show wpAny _ _ (setField (.ref e) 4 .none >>= _) _ _ ⟨h2, g, d, tk + 1, os⟩
  refine wpAny_bind (wpAny_setField_rec he2 (by simp) fun h3 he3 hs3 => ?_)
  replace hs3 : Heap.SameBut e h2 h3 := hs3
  replace he3 : IsEnum h3 e z ((i : Int) + 1) old := he3
  show wpAny _ _ (newTuple [.int i tk, .ref hp.objs.size] >>= _) _ _ ⟨h3, g, d, tk + 1, os⟩
  refine wpAny_bind (wpAny_newTuple ?_)
  have hsz : h3.objs.size = hp.objs.size + 1 := by rw [hs3.1, hs2.1, sz1]
  have hel : e < hp.objs.size := Heap.lt_size he
  have keep3 : ∀ c o, c ≠ e → h1.get? c = some o → h3.get? c = some o := fun c o ce x => hs3.extBut _ _ ce (hs2.extBut _ _ ce x)
  obtain ⟨h4, hh4⟩ : ∃ h4, h4 = h3.push { cls := .type "tuple", data := .seq #[.int i tk, .ref hp.objs.size] } := ⟨_, rfl⟩
  have keep4 : ∀ c o, c ≠ e → h1.get? c = some o → h4.get? c = some o := fun c o ce x => by rw [hh4]; exact Heap.get?_push_of_some _ (keep3 c o ce x)
  have he4 : IsEnum h4 e z ((i : Int) + 1) old := by rw [hh4]; exact Heap.get?_push_of_some _ he3
  have ht4 : IsTupOf2 h4 (hp.objs.size + 1) (.int i tk) (.ref hp.objs.size) := by rw [hh4, ← hsz]; exact Heap.get?_push_size _ rfl
  show wpAny _ _ (Builtin.SmallTypes.ownedTupleIsFree (.ref e) >>= _) _ _ ⟨h3.push { cls := .type "tuple", data := .seq #[.int i tk, .ref hp.objs.size] }, g, d, tk + 1, os⟩
  rw [← hh4, hsz]
  refine wpAny_bind ?_
  unfold Builtin.SmallTypes.ownedTupleIsFree
  refine wpAny_bind (wpAny_field he4 rfl (x := .none) rfl (wpAny_pure ?_))
  simp only [if_true]
  refine wpAny_bind (wpAny_rule ?_)
  refine wpAny_bind (wpAny_field he4 rfl (x := old) rfl ?_)
  refine wpAny_bind (wpAny_setField_rec he4 (by simp) fun h5 he5 hs5 => ?_)
  replace hs5 : Heap.SameBut e h4 h5 := hs5
  replace he5 : IsEnum h5 e z ((i : Int) + 1) (.ref hp.objs.size) := he5
  show wpAny _ _ (Builtin.SmallTypes.ownedTupleHandOut (.ref e) (.ref (hp.objs.size + 1)) >>= _) _ _ ⟨h5, g, d, tk + 1, os⟩
  refine wpAny_bind ?_
  unfold Builtin.SmallTypes.ownedTupleHandOut
  refine wpAny_bind (wpAny_setField_rec he5 (by simp) fun h6 he6 hs6 => ?_)
  replace hs6 : Heap.SameBut e h5 h6 := hs6
  replace he6 : IsEnumOut h6 e z ((i : Int) + 1) (.ref hp.objs.size) (hp.objs.size + 1) := he6
  refine wpAny_setField_rec he6 (by simp) fun h7 he7 hs7 => ?_
  replace hs7 : Heap.SameBut e h6 h7 := hs7
  replace he7 : IsEnumOut h7 e z ((i : Int) + 1) (.ref hp.objs.size) (hp.objs.size + 1) := he7
  have keep7 : ∀ c o, c ≠ e → h4.get? c = some o → h7.get? c = some o := fun c o ce x => hs7.extBut _ _ ce (hs6.extBut _ _ ce (hs5.extBut _ _ ce x))
  refine wpAny_bind (wpAny_letGo (wpAny_pure ⟨_, rfl, hQ x1 x2 h7 (tk + 1) tk g0 g1 b1 b2 hP1 hP2 hO he7 ?_ ?_ ?_ ?_ ?_ ?_ ?_⟩))
  · exact keep7 _ _ (Ne.symm hez) (keep4 _ _ (Ne.symm hez) z1)
  · exact keep7 _ _ (Ne.symm heT) (keep4 _ _ (Ne.symm heT) T1)
  · exact D1.frame _ _ _ s1 fun b hb o x => keep7 _ _ (fun q => hef1 (q ▸ hb)) (keep4 _ _ (fun q => hef1 (q ▸ hb)) x)
  · exact D2.frame _ _ _ s2 fun b hb o x => keep7 _ _ (fun q => hef2 (q ▸ hb)) (keep4 _ _ (fun q => hef2 (q ▸ hb)) x)
  · exact keep7 _ _ (Nat.ne_of_gt hel) (keep4 _ _ (Nat.ne_of_gt hel) hN)
  · exact keep7 _ _ (Nat.ne_of_gt (Nat.lt_succ_of_lt hel)) ht4
  · exact fun c o ce cz cT c1 c2 x => keep7 _ _ ce (keep4 _ _ ce (k1 c o cz cT c1 c2 x))

theorem xe_pyNext {e : Addr} {old : Value} {Q : Option Value → Shared → Prop} (S : ZipSep2 z TI TO i1 i2 fp1 fp2) (D1 : Draws prog w A.in1.in1 i1 fp1 n1 P1 St1) (D2 : Draws prog w A.in1.in1 i2 fp2 n2 P2 St2) (ho : OwnG f0)
    (he : IsEnum s.heap e z i old) (hez : e ≠ z) (heT : e ≠ TO) (heI : e ≠ TI) (hef1 : e ∉ fp1) (hef2 : e ∉ fp2)
    (hz : IsZipG s.heap z TI TO f0 f1) (hTI : IsTupOf2 s.heap TI (.ref i1) (.ref i2)) (hTO : IsTupOf2 s.heap TO a1 a2) (st1 : St1 i s.heap) (st2 : St2 i s.heap) (hlt1 : i < n1) (hlt2 : i < n2)
    (hQ : ∀ x1 x2 h' tk tk1 g0 g1 b1 b2, P1 i x1 → P2 i x2 → OwnG g0 → IsEnumOut h' e z ((i : Int) + 1) (.ref s.heap.objs.size) (s.heap.objs.size + 1) → IsZipG h' z TI TO g0 g1 → IsTupOf2 h' TO b1 b2 → St1 (i + 1) h' → St2 (i + 1) h' →
      IsTupOf2 h' s.heap.objs.size x1 x2 → IsTupOf2 h' (s.heap.objs.size + 1) (.int i tk1) (.ref s.heap.objs.size) →
      (∀ c o, c ≠ e → c ≠ z → c ≠ TO → c ≠ i1 → c ≠ i2 → s.heap.get? c = some o → h'.get? c = some o) → Q (some (.ref (s.heap.objs.size + 1))) { s with heap := h', toks := tk }) :
    wpAny (model prog w) A (pyNext (.ref e)) Q E s := by
  have hT : s.TypeIs (.ref e) "enumerate" := ⟨_, he, rfl⟩
  unfold pyNext
  exact wpAny_bind (wpAny_attempt (wpAny_callSpecial?_slot (name := Str.ofString "__next__") hT F.slot_enumerate_next
    (wpAny_call_entry F.slot_enumerate_next hT F.entry_enumerate_next
      (xe_item S D1 D2 ho he hez heT heI hef1 hef2 hz hTI hTO st1 st2 hlt1 hlt2 fun x1 x2 h' tk tk1 g0 g1 b1 b2 p1 p2 o1 y1 y2 y3 y4 y5 y6 y7 y8 => wpAny_pure (hQ x1 x2 h' tk tk1 g0 g1 b1 b2 p1 p2 o1 y1 y2 y3 y4 y5 y6 y7 y8)) (F.args_enumerate_next_1 _))))
theorem xe_pyNext_end {e : Addr} {old : Value} {k : Int} {Q : Option Value → Shared → Prop} (S : ZipSep2 z TI TO i1 i2 fp1 fp2) (D1 : Draws prog w A.in1.in1 i1 fp1 n1 P1 St1) (D2 : Draws prog w A.in1.in1 i2 fp2 n2 P2 St2) (ho : OwnG f0)
    (he : IsEnum s.heap e z k old)
    (hz : IsZipG s.heap z TI TO f0 f1) (hTI : IsTupOf2 s.heap TI (.ref i1) (.ref i2)) (hTO : IsTupOf2 s.heap TO a1 a2) (st1 : St1 i s.heap) (st2 : St2 i s.heap) (hle1 : i ≤ n1) (hle2 : i ≤ n2) (hend : i = n1 ∨ i = n2)
    (hQ : ∀ h' tk, (∀ c o, c ≠ z → c ≠ TO → c ≠ i1 → c ≠ i2 → s.heap.get? c = some o → h'.get? c = some o) → Q none { s with heap := h', toks := tk }) :
    wpAny (model prog w) A (pyNext (.ref e)) Q E s := by
  have hT : s.TypeIs (.ref e) "enumerate" := ⟨_, he, rfl⟩
  unfold pyNext
  refine wpAny_bind (wpAny_attempt (wpAny_callSpecial?_slot (name := Str.ofString "__next__") hT F.slot_enumerate_next
    (wpAny_call_entry F.slot_enumerate_next hT F.entry_enumerate_next ?_ (F.args_enumerate_next_1 _))))
  show wpAny _ _ (field (.ref e) 2 >>= _) _ _ _
  refine wpAny_bind (wpAny_field he rfl (x := .ref z) rfl ?_)
  refine wpAny_bind (xz_nextOf_end S D1 D2 ho hz hTI hTO st1 st2 hle1 hle2 hend fun h' tk x hk hx' => ?_)
  obtain ⟨o, hoo, hc⟩ := hx'
  refine wpAny_bind (wpAny_isInstance (T := "StopIteration") (b := true) ⟨o, hoo, hc⟩ isSubtype_stop ?_)
  exact wpAny_pure (hQ _ _ hk)
end
theorem meets_enum_zip (z TI TO : Addr) :
    Meets (Builtin.«enumerate.__new__» ⟨[.type "enumerate", .ref z], []⟩) (fun _ R s => IsZip s.heap z TI TO .none ∧
      R (.ok (.ret (.ref s.heap.objs.size))) { s with heap := s.heap.push { cls := .type "enumerate", data := .fields #[.none, .bool false, .ref z, rawInt 0, .none, .none] } }) :=
  .of_wp fun prog w A R s h => by
    obtain ⟨hp, g, d, tk, os⟩ := s; obtain ⟨hz, h⟩ := h
    have hsub := sub_enumerate
    have q1 : ∀ {A' : Around} {E : Value → Shared → Prop} {Q : Value → Shared → Prop}, Q (.ref z) ⟨hp, g, d, tk, os⟩ → wpAny (model prog w) A' (pyIter (.ref z)) Q E ⟨hp, g, d, tk, os⟩ :=
      fun q => wpAny_pyIter_zip hz q
    wp_walk using q1
    refine wpAny_stack_any fun st => wpAny_pure ?_
    split
    · rename_i c _ _ _ _ _
      cases (c == Value.type "enumerate")
      · wp_walk using q1
        exact ⟨_, rfl, h⟩
      · wp_walk using q1
        exact ⟨_, rfl, h⟩
    · wp_walk using q1
      exact ⟨_, rfl, h⟩
section
variable {prog : Program} {w : World} {A : Around} {E : Value → Shared → Prop} {s : Shared}
theorem call_enum_zip {z TI TO : Addr} {Q : Value → Shared → Prop} (hz : IsZip s.heap z TI TO .none)
    (h : ∀ h', IsEnum h' s.heap.objs.size z 0 .none → h'.objs.size = s.heap.objs.size + 1 → (∀ b o, s.heap.get? b = some o → h'.get? b = some o) → Q (.ref s.heap.objs.size) { s with heap := h' }) :
    wpAny (model prog w) A (call (.type "enumerate") [.ref z]) Q E s := by
  refine callType_new F.called_enumerate (by decide) (F.typeCall_enumerate_1 _) (F.newCall_enumerate_1 _) (fun obj => F.args_object_init_2 obj _) F.entry_enumerate_new
    (meets_enum_zip z TI TO) ⟨hz, ?_⟩
  have he : IsEnum (s.heap.push { cls := .type "enumerate", data := .fields #[.none, .bool false, .ref z, rawInt 0, .none, .none] }) s.heap.objs.size z 0 .none := Heap.get?_push_size _ rfl
  exact ⟨⟨_, he, rfl⟩, h _ he (Heap.size_push ..) fun b o x => Heap.get?_push_of_some _ x⟩
end
end PySem
namespace L2
open PySem PySem.Spec PyProof.Rows
section
variable {X : Cx} {pins : List (Addr × Obj)} {σ : St} {H H' : Hp} {s : Shared} {h' : Heap}
/-- several records of ours have turned, and new objects are laid -/
theorem Inv.turnedGen {t' : Nat} {ch : List Addr} (I : Inv X pins σ H s) (k : ∀ b o, b ∉ ch → s.heap.get? b = some o → h'.get? b = some o) (hf : ∀ b ∈ ch, FpOk X pins H b)
    (old : ∀ b, b < s.heap.objs.size → H' b = H b) (new : ∀ b u, s.heap.objs.size ≤ b → H' b = some u → ObjOk X.prog X.w H' h' b u) : Inv X pins σ H' { s with heap := h', toks := t' } := by
  have lt : ∀ {b u}, H b = some u → b < s.heap.objs.size := fun {b u} e => I.hok.lt e
  have up : ∀ {b u}, H b = some u → H' b = some u := fun {b u} e => (old b (lt e)).trans e
  have nit : ∀ b u, H b = some u → b ∉ ch := fun b u e z => by
    have q := (hf b z).1
    rw [q] at e; cases e
  refine I.step (g' := s.gens) (d' := s.drawn) (ch := ch) (fun b hb => ⟨(hf b hb).2.2.2.1, (hf b hb).2.1, (hf b hb).2.2.2.2.1, (hf b hb).2.2.2.2.2⟩) (fun b o _ _ hc e _ => k b o hc e) (fun b o _ _ hc e _ => ⟨o.slots, k b o hc e⟩)
    (fun b o _ e n => (old b (Heap.lt_size e)).trans n) (fun b o hc e => ⟨o, k b o hc e⟩) (fun b xs e => up e) (fun b o u e => up e) (fun b ps e => ⟨#[], by rw [up e]; simp⟩) (fun m hm => ?_) (fun b u e => ?_) I.bare
  · obtain ⟨o, es, ep, ho, r⟩ := hm
    exact ⟨o, es, ep, k _ o (fun z => (hf _ z).2.1 rfl) ho, r⟩
  · by_cases hb : b < s.heap.objs.size
    · have e' : H b = some u := (old b hb).symm.trans e
      refine (I.hok b u e').stay (fun c v hc q => k c v ?_ q) (fun c q => up q) fun c xs q => up q
      rcases hc with z | z
      · rw [z]; exact nit b u e'
      · exact nit c _ z
    · exact new b u (Nat.le_of_not_lt hb) e
end
/-- two texts sign by sign, each pair of signs with its number: (i, (x, y)), two new tuples -/
def Iez (x y : Str) : It := ⟨fun i _ => i < min x.cps.size y.cps.size,
  fun i H v H' => ∃ T P c d, v = .ref P ∧ H T = none ∧ H P = none ∧ T ≠ P ∧ H' = upd (upd H T (.tup [.str ⟨#[c]⟩, .str ⟨#[d]⟩])) P (.tup [.int (i : Nat), .ref T]) ∧ x.cps[i]? = some c ∧ y.cps[i]? = some d,
  fun i _ => i = min x.cps.size y.cps.size⟩
theorem turn_ez {P : Program} {w : World} {K : PySem.W.Frag} {elts : List Expr} {kk : Nat} {tpos : Pos} {e z TI TO i1 i2 : Addr} {x y : Str} {t1 t2 : Tok} (S : ZipSep2 z TI TO i1 i2 [i1] [i2]) (hez : e ≠ z) (heT : e ≠ TO) (heI : e ≠ TI) (he1 : e ≠ i1) (he2 : e ≠ i2) :
    Turn P w K (.Tuple elts kk tpos) (Iez x y) [e, z, TI, TO, i1, i2] e (fun i h => ∃ f0 f1 a1 a2 old, OwnG f0 ∧ IsEnum h e z i old ∧ IsZipG h z TI TO f0 f1 ∧ IsTupOf2 h TI (.ref i1) (.ref i2) ∧ IsTupOf2 h TO a1 a2 ∧ h.IsStrIter i1 (strIterType x) x t1 i ∧ h.IsStrIter i2 (strIterType y) y t2 i) where
  mem := by simp
  obj := fun i h st c hc => by
    obtain ⟨f0, f1, a1, a2, old, ho, he, hz, hTI, hTO, ⟨o1, q1, _, d1⟩, ⟨o2, q2, _, d2⟩⟩ := st
    have e' : c = e ∨ c = z ∨ c = TI ∨ c = TO ∨ c = i1 ∨ c = i2 := by simpa using hc
    rcases e' with q | q | q | q | q | q
    · rw [q]; exact ⟨_, he, fun v q => nomatch q⟩
    · rw [q]; exact ⟨_, hz, fun v q => nomatch q⟩
    · rw [q]; exact ⟨_, hTI, fun v q => nomatch q⟩
    · rw [q]; exact ⟨_, hTO, fun v q => nomatch q⟩
    · rw [q]; exact ⟨o1, q1, fun v q => by rw [d1] at q; cases q⟩
    · rw [q]; exact ⟨o2, q2, fun v q => by rw [d2] at q; cases q⟩
  keep := fun i h h' st k => by
    obtain ⟨f0, f1, a1, a2, old, ho, he, hz, hTI, hTO, ⟨o1, q1, r1⟩, ⟨o2, q2, r2⟩⟩ := st
    exact ⟨f0, f1, a1, a2, old, ho, k e (by simp) _ he, k z (by simp) _ hz, k TI (by simp) _ hTI, k TO (by simp) _ hTO, ⟨o1, k i1 (by simp) _ q1, r1⟩, ⟨o2, k i2 (by simp) _ q2, r2⟩⟩
  item := by
    intro X hP hw hK hc i pins s σ H E I hf st hg
    subst hP hw hK
    obtain ⟨f0, f1, a1, a2, old, ho, he, hz, hTI, hTO, h1, h2⟩ := st
    have hg' : i < min x.cps.size y.cps.size := hg
    have hel : e < s.heap.objs.size := Heap.lt_size he
    have D1 := Draws.text (prog := X.prog) (w := X.w) (A := X.A.in1.in1) (I.ok.hd hc) i1 x t1
    have D2 := Draws.text (prog := X.prog) (w := X.w) (A := X.A.in1.in1) (I.ok.hd hc) i2 y t2
    refine xe_pyNext S D1 D2 ho he hez heT heI (by simpa using he1) (by simpa using he2) hz hTI hTO h1 h2 (by omega) (by omega) fun x1 x2 h' tk tk1 g0 g1 b1 b2 p1 p2 hO hE hZ hT s1 s2 hN hM hk => ?_
    obtain ⟨c, u, hcx, rfl⟩ := p1
    obtain ⟨d, v, hdy, rfl⟩ := p2
    refine ⟨_, rfl, wpAny_letOwnedTupleGo_enum (s := { s with heap := h', toks := tk }) hE fun h'' he' sb => ?_⟩
    replace sb : Heap.SameBut e h' h'' := sb
    have nT : H s.heap.objs.size = none := I.hok.fresh (Nat.le_refl _)
    have nP : H (s.heap.objs.size + 1) = none := I.hok.fresh (Nat.le_succ _)
    have neTP : s.heap.objs.size ≠ s.heap.objs.size + 1 := Nat.ne_of_lt (Nat.lt_succ_self _)
    have up : ∀ c o, c ≠ e → h'.get? c = some o → h''.get? c = some o := fun c o ce q => (sb.2 c ce).trans q
    have hN2 : IsTupOf2 h'' s.heap.objs.size (.str ⟨#[c]⟩ u) (.str ⟨#[d]⟩ v) := up _ _ (Nat.ne_of_gt hel) hN
    have hM2 : IsTupOf2 h'' (s.heap.objs.size + 1) (.int i tk1) (.ref s.heap.objs.size) := up _ _ (Nat.ne_of_gt (Nat.lt_succ_of_lt hel)) hM
    have I1 : Inv X pins σ (upd (upd H s.heap.objs.size (.tup [.str ⟨#[c]⟩, .str ⟨#[d]⟩])) (s.heap.objs.size + 1) (.tup [.int (i : Nat), .ref s.heap.objs.size])) { s with heap := h'', toks := tk } := by
      refine I.turnedGen (ch := [e, z, TI, TO, i1, i2]) (fun b o hb q => up b o (fun q' => hb (by simp [q'])) (hk b o (fun q' => hb (by simp [q'])) (fun q' => hb (by simp [q'])) (fun q' => hb (by simp [q'])) (fun q' => hb (by simp [q'])) (fun q' => hb (by simp [q'])) q)) hf (fun b hb => ?_) (fun b u' hb q => ?_)
      · rw [upd_ne (Nat.ne_of_lt (Nat.lt_succ_of_lt hb)), upd_ne (Nat.ne_of_lt hb)]
      · by_cases e1 : b = s.heap.objs.size + 1
        · subst e1
          rw [upd_same] at q
          cases q
          exact ⟨by show 2 ≤ sizeLine; decide, [.int i tk1, .ref s.heap.objs.size], .cons ⟨_, rfl⟩ (.cons rfl .nil), ⟨_, hM2, rfl, _, rfl⟩⟩
        · rw [upd_ne e1] at q
          by_cases e2 : b = s.heap.objs.size
          · subst e2
            rw [upd_same] at q
            cases q
            exact ⟨by show 2 ≤ sizeLine; decide, [.str ⟨#[c]⟩ u, .str ⟨#[d]⟩ v], .cons ⟨_, rfl⟩ (.cons ⟨_, rfl⟩ .nil), ⟨_, hN2, rfl, _, rfl⟩⟩
          · rw [upd_ne e2, I.hok.fresh hb] at q
            cases q
    refine ⟨.ref (s.heap.objs.size + 1), _, I1, rfl, ⟨_, _, c, d, rfl, nT, nP, neTP, rfl, hcx, hdy⟩, ⟨g0, g1, b1, b2, .ref s.heap.objs.size, hO, ?_, up _ _ (Ne.symm hez) hZ, up _ _ (Ne.symm heI) (hk _ _ (Ne.symm heI) S.TIz S.TITO S.TIi1 S.TIi2 hTI), up _ _ (Ne.symm heT) hT, ?_, ?_⟩, fun b hb => ?_⟩
    · have e1 : ((i + 1 : Nat) : Int) = (i : Int) + 1 := by omega
      rw [e1]; exact he'
    · obtain ⟨o, q, r⟩ := s1
      exact ⟨o, up _ _ (Ne.symm he1) q, r⟩
    · obtain ⟨o, q, r⟩ := s2
      exact ⟨o, up _ _ (Ne.symm he2) q, r⟩
    · have hlt : b < s.heap.objs.size := by
        have e' : b = e ∨ b = z ∨ b = TI ∨ b = TO ∨ b = i1 ∨ b = i2 := by simpa using hb
        rcases e' with q | q | q | q | q | q
        · rw [q]; exact hel
        · rw [q]; exact Heap.lt_size hz
        · rw [q]; exact Heap.lt_size hTI
        · rw [q]; exact Heap.lt_size hTO
        · rw [q]; obtain ⟨_, q1, _⟩ := h1; exact Heap.lt_size q1
        · rw [q]; obtain ⟨_, q1, _⟩ := h2; exact Heap.lt_size q1
      rw [upd_ne (Nat.ne_of_lt (Nat.lt_succ_of_lt hlt)), upd_ne (Nat.ne_of_lt hlt)]
      exact (hf b hb).1
  done := by
    intro X hP hw hK hc i pins s σ H E I hf st hg
    subst hP hw hK
    obtain ⟨f0, f1, a1, a2, old, ho, he, hz, hTI, hTO, h1, h2⟩ := st
    have hg' : i = min x.cps.size y.cps.size := hg
    have D1 := Draws.text (prog := X.prog) (w := X.w) (A := X.A.in1.in1) (I.ok.hd hc) i1 x t1
    have D2 := Draws.text (prog := X.prog) (w := X.w) (A := X.A.in1.in1) (I.ok.hd hc) i2 y t2
    exact xe_pyNext_end S D1 D2 ho he hz hTI hTO h1 h2 (by omega) (by omega) (by omega) fun h' tk hk => ⟨rfl, I.turnedL (t' := tk) (ch := [e, z, TI, TO, i1, i2]) (fun c o hb q =>
      hk c o (fun q' => hb (by simp [q'])) (fun q' => hb (by simp [q'])) (fun q' => hb (by simp [q'])) (fun q' => hb (by simp [q'])) q) hf⟩
  self := fun A i s Q E st h => let ⟨_, _, _, _, _, _, he, _⟩ := st; wpAny_pyIter_enum he h
/-- enumerate(zip(x, y)) of two texts -/
def iEz (ta : TA) : TI := fun σ H R => ta σ H fun vs H1 => ∃ x y, vs = [.str x, .str y] ∧ R (Iez x y) H1
theorem pi_ez {X : Cx} {e1 e2 : Expr} {ta : TA} {p p2 pos pos2 tpos : Pos} {elts : List Expr} {kk : Nat} (hg : Gl X "enumerate") (hm : X.mg "enumerate" = none) (hg2 : Gl X "zip") (hm2 : X.mg "zip" = none) (ha : PA X [e1, e2] ta)
    (hs2 : starEach [.Call (.Name "zip" p2) [e1, e2] [] pos2] X.env = [(false, eval (.Call (.Name "zip" p2) [e1, e2] [] pos2) X.env)] := by rfl)
    (hs : starEach [e1, e2] X.env = (false, eval e1 X.env) :: starEach [e2] X.env := by rfl) (hpl : (backTo pos2 (starEach [e2] X.env)).any (·.1) = false := by rfl) :
    PI X (.Tuple elts kk tpos) (.Call (.Name "enumerate" p) [.Call (.Name "zip" p2) [e1, e2] [] pos2] [] pos) (iEz ta) := by
  refine ⟨fun pins s σ H R I h => ?_⟩
  refine Call_ (ld_blt I hg hm boot_enumerate ?_)
  refine PyProof.Rows.callWith_type1 ?_ hs2 rfl
  rw [hs2]
  refine Calls.spliced_cons ?_
  refine Call_ (ld_blt I hg2 hm2 PyProof.Rows.boot_zip (PyProof.Rows.callWith_type1 (thn (ha.run pos2 pins s σ H _ I h) fun us s1 ⟨vs, H1, I1, r1, q1⟩ => ?_) hs hpl))
  obtain ⟨x, y, ex, q⟩ := q1
  subst ex
  cases r1 with
  | cons r rr =>
    cases rr with
    | cons r' rr =>
      cases rr
      obtain ⟨t1, rfl⟩ := r
      obtain ⟨t2, rfl⟩ := r'
      refine zip_begins2 (begins_text x t1) (begins_text y t2) trivial trivial fun h' hz hTI hTO g1 g2 hsz hk => ?_
      refine Calls.spliced_nil ?_
      have I2 : Inv X pins σ H1 { s1 with heap := h' } := I1.kept (t' := s1.toks) hk
      refine call_enum_zip (s := { s1 with heap := h' }) hz fun h'' he hsz2 hk2 => ?_
      replace he : IsEnum h'' h'.objs.size (s1.heap.objs.size + 4) 0 .none := he
      replace hk2 : ∀ b o, h'.get? b = some o → h''.get? b = some o := hk2
      refine wpAny_pyIter_enum (s := { s1 with heap := h'' }) he ?_
      have I3 : Inv X pins σ H1 { s1 with heap := h'' } := I1.kept (t' := s1.toks) fun b o q => hk2 b o (hk b o q)
      rw [hsz] at he ⊢
      have S := zip_sep2 (N := s1.heap.objs.size) (fp1 := []) (fp2 := []) (by simp) (by simp)
      refine ⟨s1.heap.objs.size + 5, [s1.heap.objs.size + 5, s1.heap.objs.size + 4, s1.heap.objs.size + 2, s1.heap.objs.size + 3, s1.heap.objs.size, s1.heap.objs.size + 1], _, _, H1, rfl, I3,
        turn_ez (x := x) (y := y) (t1 := t1) (t2 := t2) S (show (s1.heap.objs.size + 5 : Nat) ≠ s1.heap.objs.size + 4 by omega) (show (s1.heap.objs.size + 5 : Nat) ≠ s1.heap.objs.size + 3 by omega) (show (s1.heap.objs.size + 5 : Nat) ≠ s1.heap.objs.size + 2 by omega) (show (s1.heap.objs.size + 5 : Nat) ≠ s1.heap.objs.size by omega) (show (s1.heap.objs.size + 5 : Nat) ≠ s1.heap.objs.size + 1 by omega),
        ⟨.none, .bool false, .none, .none, .none, .inl rfl, he, hk2 _ _ hz, hk2 _ _ hTI, hk2 _ _ hTO, ⟨_, hk2 _ _ g1, rfl, rfl⟩, ⟨_, hk2 _ _ g2, rfl, rfl⟩⟩, fun c hcm => ?_, q⟩
      have hle : s1.heap.objs.size ≤ c := by
        have e' : c = s1.heap.objs.size + 5 ∨ c = s1.heap.objs.size + 4 ∨ c = s1.heap.objs.size + 2 ∨ c = s1.heap.objs.size + 3 ∨ c = s1.heap.objs.size ∨ c = s1.heap.objs.size + 1 := by simpa using hcm
        rcases e' with z | z | z | z | z | z
        · rw [z]; exact Nat.le_add_right _ _
        · rw [z]; exact Nat.le_add_right _ _
        · rw [z]; exact Nat.le_add_right _ _
        · rw [z]; exact Nat.le_add_right _ _
        · rw [z]; exact Nat.le_refl _
        · rw [z]; exact Nat.le_add_right _ _
      exact I1.fpOk hle (I1.hok.fresh hle)
theorem walk_ez {x y : Str} : Walk (Iez x y) (min x.cps.size y.cps.size) (fun _ => True) (fun i H v H' => ∃ T P c d, v = .ref P ∧ H T = none ∧ H P = none ∧ T ≠ P ∧ H' = upd (upd H T (.tup [.str ⟨#[c]⟩, .str ⟨#[d]⟩])) P (.tup [.int (i : Nat), .ref T]) ∧ x.cps[i]? = some c ∧ y.cps[i]? = some d) :=
  ⟨fun _ _ hi _ => hi, fun _ _ => rfl, fun _ _ _ _ _ _ y => y⟩
end L2
set_option Elab.async false
set_option linter.all false
set_option maxRecDepth 100000
set_option maxHeartbeats 4000000
/-! words of our own over the layer: texts as lists of codes, calls by promises -/
namespace XG
open PySem PySem.Spec PyProof.Rows L2 Evl
/-- the text of these codes, as a value -/
abbrev tx (l : List Nat) : V := .str ⟨l.toArray⟩
theorem tx_inj {a b : List Nat} (h : tx a = tx b) : a = b := by
  have e : (⟨a.toArray⟩ : Str) = ⟨b.toArray⟩ := V.str.inj h
  exact SX.S_inj e
theorem tx_eq {a b : List Nat} : (tx a = tx b) = (a = b) := propext ⟨tx_inj, fun e => by rw [e]⟩
theorem slen (l : List Nat) : (⟨l.toArray⟩ : Str).length = l.length := SX.S_len l
/-! ### calls of defs by name -/
/-- a def of the text stands at its name and keeps a promise -/
structure Cal (P : Program) (w : World) (K : PySem.W.Frag) (mg : Str → Option Value) (base : Heap) (CX : CXT) (k : Nat) (x : Str) (ps : List Str) (sp : Sp) (f : Addr) (fd : FuncData) : Prop where
  ok : FnOk P w K mg base CX k f fd ps sp
  at_ : mg x = some (.ref f)
  kp : PySem.W.keepIn K (.ref f) = true
  bd : Binds K fd ps []
section
variable {X : Cx} {CX : CXT} {k : Nat} {x : Str} {ps : List Str} {sp : Sp} {f : Addr} {fd : FuncData} {p pos : Pos} {e : Expr} {es : List Expr} {t : TA}
theorem pe_cal (C : Cal X.prog X.w X.K X.mg X.base CX0 k x ps sp f fd) (hr : Room k X.A) (ha : PA X (e :: es) t) (hg : Gl X x := by rfl) (hdb : (x == ("__debug__" : Str)) = false := by decide)
    (he : starEach (e :: es) X.env = (false, eval e X.env) :: starEach es X.env := by rfl) (hpl : (backTo pos (starEach es X.env)).any (·.1) = false := by rfl) :
    PE X (.Call (.Name x p) (e :: es) [] pos) (tCall sp [] E0 t) := pe_call C.ok hr hg C.at_ C.kp C.bd .nil pass0 ha hdb he hpl
/-- a call of a def that may raise, where it does not -/
theorem pe_calN (C : Cal X.prog X.w X.K X.mg X.base (L2.CX X.prog X.w) k x ps sp f fd) (hr : Room k X.A) (ha : PA X (e :: es) t) (hg : Gl X x := by rfl) (hdb : (x == ("__debug__" : Str)) = false := by decide)
    (he : starEach (e :: es) X.env = (false, eval e X.env) :: starEach es X.env := by rfl) (hpl : (backTo pos (starEach es X.env)).any (·.1) = false := by rfl) :
    PE X (.Call (.Name x p) (e :: es) [] pos) (tCall sp [] E0 t) := pe_call C.ok hr hg C.at_ C.kp C.bd .nil passL ha hdb he hpl
/-- a call whose errors are taken by a try around, or leave the def -/
theorem pe_calS {E : L2.St → XK} (C : Cal X.prog X.w X.K X.mg X.base CX k x ps sp f fd) (hr : Room k X.A) (hx : ∀ σ, PassesAt CX X σ (E σ)) (ha : PA X (e :: es) t) (hg : Gl X x := by rfl) (hdb : (x == ("__debug__" : Str)) = false := by decide)
    (he : starEach (e :: es) X.env = (false, eval e X.env) :: starEach es X.env := by rfl) (hpl : (backTo pos (starEach es X.env)).any (·.1) = false := by rfl) :
    PE X (.Call (.Name x p) (e :: es) [] pos) (tCallS sp E t) := pe_callS C.ok hr hg C.at_ C.kp C.bd hx ha hdb he hpl
end
/-! ### what evaluates to what: texts -/
section
variable {K : PySem.W.Frag} {σ : L2.St} {H : Hp} {te ta tb : TE} {tl th : TO} {a b l : List Nat}
theorem rv_addT (h : a.length + b.length ≤ 100000) : RV (fun x y H Q => ∃ i j, x = V.str i ∧ y = V.str j ∧ i.length + j.length ≤ sizeLine ∧ Q (.str (i ++ j)) H) (tx a) (tx b) H (tx (a ++ b)) := fun H1 _ Q q =>
  ⟨_, _, rfl, rfl, by rw [slen, slen]; exact sz_of h, by rw [show ((⟨a.toArray⟩ : Str) ++ ⟨b.toArray⟩) = ⟨(a ++ b).toArray⟩ from SX.S_cat a b]; exact q H1 (Ex.refl H1)⟩
theorem rv_eqT : RV rEq (tx a) (tx b) H (.bl (decide (a = b))) := fun H1 _ Q q => ⟨rfl, by
  have e : decide (tx a = tx b) = decide (a = b) := by simp only [tx_eq]
  rw [e]; exact q H1 (Ex.refl H1)⟩
theorem rv_neT : RV rNe (tx a) (tx b) H (.bl (!decide (a = b))) := fun H1 _ Q q => ⟨rfl, by
  have e : decide (tx a = tx b) = decide (a = b) := by simp only [tx_eq]
  rw [e]; exact q H1 (Ex.refl H1)⟩
theorem rv_eqI {i j : Int} : RV rEq (.int i) (.int j) H (.bl (decide (i = j))) := fun H1 _ Q q => ⟨rfl, by
  have e : decide (V.int i = V.int j) = decide (i = j) := by simp only [V.int.injEq]
  rw [e]; exact q H1 (Ex.refl H1)⟩
theorem rv_neI {i j : Int} : RV rNe (.int i) (.int j) H (.bl (!decide (i = j))) := fun H1 _ Q q => ⟨rfl, by
  have e : decide (V.int i = V.int j) = decide (i = j) := by simp only [V.int.injEq]
  rw [e]; exact q H1 (Ex.refl H1)⟩
/-- l[lo:hi] -/
def cutL (l : List Nat) (lo hi : Option Int) : List Nat := (l.drop (HT.sIx l.length 0 lo)).take (HT.sIx l.length l.length hi - HT.sIx l.length 0 lo)
theorem cutL_len (l : List Nat) (lo hi : Option Int) : (cutL l lo hi).length ≤ l.length := by
  unfold cutL
  rw [List.length_take, List.length_drop]
  omega
theorem sIx_pos {n d : Nat} {i : Int} (h : 0 ≤ i) : HT.sIx n d (some i) = min i.toNat n := by
  show (if i < 0 then (i + (n : Int)).toNat else min i.toNat n) = min i.toNat n
  rw [if_neg (by omega)]
theorem cutL_none : cutL l none none = l := by
  unfold cutL
  rw [HT.sIx_none, HT.sIx_none, List.drop_zero, Nat.sub_zero, List.take_length]
theorem cutL_to {i : Int} (h : 0 ≤ i) : cutL l none (some i) = l.take i.toNat := by
  unfold cutL
  rw [HT.sIx_none, sIx_pos h, List.drop_zero, Nat.sub_zero]
  by_cases c : i.toNat ≤ l.length
  · rw [Nat.min_eq_left c]
  · rw [Nat.min_eq_right (by omega), List.take_length, List.take_of_length_le (by omega)]
theorem cutL_from {i : Int} (h : 0 ≤ i) : cutL l (some i) none = l.drop i.toNat := by
  unfold cutL
  rw [HT.sIx_none, sIx_pos h]
  by_cases c : i.toNat ≤ l.length
  · rw [Nat.min_eq_left c, List.take_of_length_le (by rw [List.length_drop]; exact Nat.le_refl _)]
  · rw [Nat.min_eq_right (by omega), List.drop_length, List.drop_of_length_le (by omega), List.take_nil]
theorem cutL_mid {i j : Int} (h : 0 ≤ i) (h2 : 0 ≤ j) : cutL l (some i) (some j) = (l.drop i.toNat).take (j.toNat - i.toNat) := by
  unfold cutL
  rw [sIx_pos h, sIx_pos h2]
  by_cases c : i.toNat ≤ l.length
  · rw [Nat.min_eq_left c]
    by_cases c2 : j.toNat ≤ l.length
    · rw [Nat.min_eq_left c2]
    · rw [Nat.min_eq_right (by omega), List.take_of_length_le (by rw [List.length_drop]; exact Nat.le_refl _), List.take_of_length_le (by rw [List.length_drop]; omega)]
  · rw [Nat.min_eq_right (show l.length ≤ i.toNat by omega), List.drop_length, List.drop_of_length_le (show l.length ≤ i.toNat by omega), List.take_nil, List.take_nil]
theorem cutS_tx (lo hi : Option Int) : cutS ⟨l.toArray⟩ lo hi = ⟨(cutL l lo hi).toArray⟩ := by
  unfold cutS cutL
  rw [slen]
theorem ev_sl {lo hi : Option Int} (h : Ev te σ H (tx l)) (h1 : EvO tl σ H lo) (h2 : EvO th σ H hi) (hz : l.length ≤ 100000) : Ev (tSl rSlS te tl th) σ H (tx (cutL l lo hi)) := fun H1 e _ q =>
  h H1 e _ fun H2 e2 => h1 H2 (e.trans e2) _ fun H3 e3 => h2 H3 ((e.trans e2).trans e3) _ fun H4 e4 => ⟨_, rfl, by rw [slen]; exact sz_of hz, by
    rw [cutS_tx]; exact q H4 ((e2.trans e3).trans e4)⟩
theorem ev_rev (h : Ev te σ H (tx l)) (hz : l.length ≤ 100000) : Ev (tRevS te) σ H (tx l.reverse) := fun H1 e _ q =>
  h H1 e _ fun H2 e2 => ⟨_, rfl, by rw [slen]; exact sz_of hz, q H2 e2⟩
theorem rc_lenT (hz : l.length ≤ 100000) : RC (fun xs H Q => ∃ z, xs = [V.str z] ∧ z.length ≤ sizeLine ∧ Q (.int z.length) H) [tx l] H (.int l.length) := fun H1 _ Q q =>
  ⟨_, rfl, by rw [slen]; exact sz_of hz, by rw [slen]; exact q H1 (Ex.refl H1)⟩
theorem rc_max {i j : Int} : RC (fun xs H Q => ∃ i j, xs = [V.int i, V.int j] ∧ Q (.int (if j > i then j else i)) H) [.int i, .int j] H (.int (max i j)) := fun H1 _ Q q => ⟨i, j, rfl, by
  have e : (if j > i then j else i) = max i j := by
    by_cases c : j > i
    · rw [if_pos c]; omega
    · rw [if_neg c]; omega
  rw [e]; exact q H1 (Ex.refl H1)⟩
theorem rc_min {i j : Int} : RC (fun xs H Q => ∃ i j, xs = [V.int i, V.int j] ∧ Q (.int (if j < i then j else i)) H) [.int i, .int j] H (.int (min i j)) := fun H1 _ Q q => ⟨i, j, rfl, by
  have e : (if j < i then j else i) = min i j := by
    by_cases c : j < i
    · rw [if_pos c]; omega
    · rw [if_neg c]; omega
  rw [e]; exact q H1 (Ex.refl H1)⟩
theorem rc_isi {x : V} {n : String} {t : Value} {b : Bool} (ht : ∀ H1, Ex H H1 → TyX K H1 x t) (hk : PySem.W.kitOne K t (.type n) = some b) : RC (rIsi K) [x, .ty n] H (.bl b) := fun H1 e Q q =>
  ⟨x, .ty n, t, .type n, b, rfl, .ty n, ht H1 e, hk, q H1 (Ex.refl H1)⟩
theorem rv_ixT {i : Int} {c : Nat} (h : l.length ≤ 100000) (ha : atI l i = some c) : RV rIxS (tx l) (.int i) H (tx [c]) := fun H1 _ _ q => ⟨_, i, c, rfl, rfl, by rw [slen]; exact sz_of h, ha, q H1 (Ex.refl H1)⟩
theorem joinL_nil : ∀ ls : List (List Nat), TL.joinL [] ls = ls.flatten
  | [] => rfl
  | [p] => by simp [TL.joinL]
  | p :: q :: r => by
    have ih := joinL_nil (q :: r)
    show p ++ ([] ++ TL.joinL [] (q :: r)) = (p :: q :: r).flatten
    rw [ih, List.nil_append]
    rfl
theorem sum_len : ∀ ls : List (List Nat), ((ls.map SX.S).map (·.length)).sum = ls.flatten.length
  | [] => rfl
  | p :: r => by
    have ih := sum_len r
    rw [List.map_cons, List.map_cons, List.sum_cons, List.flatten_cons, List.length_append, ih, SX.S_len]
/-- ''.join(a new list of texts) -/
theorem ev_join0 {ls : List (List Nat)} (h1 : Ev ta σ H (tx [])) (h2 : EvL te σ H (ls.map tx)) (hz : ls.flatten.length ≤ 100000) :
    Ev (tM1 (fun x xs H Q => ∃ a p, ∃ ys : List Str, x = .str a ∧ xs = [.ref p] ∧ (SqL K H p (ys.map V.str) ∨ SqT K H p (ys.map V.str)) ∧ (ys.map (·.length)).sum + ys.length * a.length ≤ 16777216 ∧ Q (.str (Txt.join a ys)) H) ta te) σ H (tx ls.flatten) := fun H1 e Q q =>
  h1 H1 e _ fun H2 e2 => ⟨⟨_, rfl⟩, h2 H2 (e.trans e2) _ fun p H3 hp e3 h3 => ⟨_, p, ls.map SX.S, rfl, rfl, .inl (by
    rw [show (ls.map SX.S).map V.str = ls.map tx from by rw [List.map_map]; rfl]
    exact sq_of h3), by
    rw [sum_len, slen]
    simp only [List.length_nil, Nat.mul_zero]
    omega, by
    rw [show Txt.join (⟨([] : List Nat).toArray⟩) (ls.map SX.S) = SX.S (TL.joinL [] ls) from SX.join_S [] ls, joinL_nil]
    exact q H3 (e2.trans e3)⟩⟩
/-- a chain a op b op' c of two comparisons -/
theorem ev_chain {r r' : R2} {tc : TE} {x y z : V} {p q : Bool} (ha : Ev ta σ H x) (hb : Ev tb σ H y) (hr : RV r x y H (.bl p)) (hc : p = true → Ev tc σ H z) (hr' : p = true → RV r' y z H (.bl q)) : Ev (tChain r r' ta tb tc) σ H (.bl (p && q)) := fun H1 e Q k =>
  ha H1 e _ fun H2 e2 => hb H2 (e.trans e2) _ fun H3 e3 => hr H3 ((e.trans e2).trans e3) _ fun H4 e4 => ⟨p, rfl, by
    cases p with
    | true =>
      show tc σ H4 _
      exact hc rfl H4 (((e.trans e2).trans e3).trans e4) _ fun H5 e5 => hr' rfl H5 ((((e.trans e2).trans e3).trans e4).trans e5) Q fun H6 e6 => k H6 ((((e2.trans e3).trans e4).trans e5).trans e6)
    | false =>
      show Q (.bl false) H4
      exact k H4 ((e2.trans e3).trans e4)⟩
theorem spv {sp : Sp} {vs : List V} {z : V} (h : ∀ H1, Ex H H1 → ∀ Q : VK, RetV z H1 Q → ∀ E, sp vs H1 Q E) : SpV sp vs H z := fun H1 e Q q E => h H1 e Q q E
end

/-! ### from any heap that grows from H0 -/
def Go (H0 : Hp) (t : TS) (D : Ends) (σ : L2.St) : Prop := ∀ H, Ex H0 H → t D σ H
section
variable {K : PySem.W.Frag} {σ : L2.St} {H0 H1 : Hp} {te ta tb : TE} {tt : TT} {t u z : TS} {D : Ends} {v : V} {b : Bool} {i : Nat}
theorem Go.at (h : Go H0 t D σ) : t D σ H0 := h H0 (Ex.refl H0)
theorem go_at {H : Hp} (h : Go H0 t D σ) (e : Ex H0 H) : t D σ H := h H e
theorem Go.mono (e : Ex H0 H1) (h : Go H0 t D σ) : Go H1 t D σ := fun H e2 => h H (e.trans e2)
theorem g_ret (h : Ev te σ H0 v) (q : ∀ H, Ex H0 H → D.rt v H) : Go H0 (tRet te) D σ := fun H e => h H e _ fun H2 e2 => q H2 (e.trans e2)
theorem g_next (q : ∀ H, Ex H0 H → D.nx σ H) : Go H0 tNext D σ := fun H e => q H e
theorem g_asg (h : Ev te σ H0 v) (k : Go H0 z D (σ.set i (some v))) : Go H0 (tSeq (tAsg te (gName i)) z) D σ := fun H e => h H e _ fun H2 e2 => k H2 (e.trans e2)
theorem g_asg1 (h : Ev te σ H0 v) (k : ∀ H, Ex H0 H → D.nx (σ.set i (some v)) H) : Go H0 (tAsg te (gName i)) D σ := fun H e => h H e _ fun H2 e2 => k H2 (e.trans e2)
theorem g_when (h : EvT tt σ H0 b) (h1 : b = true → Go H0 u { D with nx := z D } σ) (h2 : b = false → Go H0 z D σ) : Go H0 (tSeq (tIfS tt u tNext) z) D σ := fun H e => h H e _ fun H2 e2 => by
  cases b with
  | true => exact h1 rfl H2 (e.trans e2)
  | false => exact h2 rfl H2 (e.trans e2)
theorem g_if (h : EvT tt σ H0 b) (h1 : b = true → Go H0 u { D with nx := z D } σ) (h2 : b = false → Go H0 t { D with nx := z D } σ) : Go H0 (tSeq (tIfS tt u t) z) D σ := fun H e => h H e _ fun H2 e2 => by
  cases b with
  | true => exact h1 rfl H2 (e.trans e2)
  | false => exact h2 rfl H2 (e.trans e2)
theorem g_if1 (h : EvT tt σ H0 b) (h1 : b = true → Go H0 u D σ) (h2 : b = false → Go H0 t D σ) : Go H0 (tIfS tt u t) D σ := fun H e => h H e _ fun H2 e2 => by
  cases b with
  | true => exact h1 rfl H2 (e.trans e2)
  | false => exact h2 rfl H2 (e.trans e2)
/-- if c: x = e, told by the value that x has behind it -/
theorem g_ifAsg (h : EvT tt σ H0 b) (h1 : b = true → Ev te σ H0 v) (h2 : b = false → σ.set i (some v) = σ) (k : Go H0 z D (σ.set i (some v))) : Go H0 (tSeq (tIfS tt (tAsg te (gName i)) tNext) z) D σ :=
  g_when h (fun hb => g_asg1 (h1 hb) fun H e => k H e) fun hb => by
    have g := k
    rw [h2 hb] at g
    exact g
theorem g_seq (h : Go H0 t { D with nx := z D } σ) : Go H0 (tSeq t z) D σ := fun H e => h H e
/-- x = a new list, a new tuple: the base moves on to a heap that has it -/
theorem g_asgL {xs : List V} (h : EvL te σ H0 xs) (k : ∀ p H1, Ex H0 H1 → H0 p = none → H1 p = some (.lst xs) → Go H1 z D (σ.set i (some (.ref p)))) : Go H0 (tSeq (tAsg te (gName i)) z) D σ := fun H e => h H e _ fun p H2 hp e2 h2 => k p H2 (e.trans e2) (fresh_back e hp) h2 H2 (Ex.refl H2)
theorem g_asgU {xs : List V} (h : EvU te σ H0 xs) (k : ∀ p H1, Ex H0 H1 → H0 p = none → H1 p = some (.tup xs) → Go H1 z D (σ.set i (some (.ref p)))) : Go H0 (tSeq (tAsg te (gName i)) z) D σ := fun H e => h H e _ fun p H2 hp e2 h2 => k p H2 (e.trans e2) (fresh_back e hp) h2 H2 (Ex.refl H2)
theorem g_retU {xs : List V} (h : EvU te σ H0 xs) (q : ∀ p H, Ex H0 H → H0 p = none → H p = some (.tup xs) → D.rt (.ref p) H) : Go H0 (tRet te) D σ := fun H e => h H e _ fun p H2 hp e2 h2 => q p H2 (e.trans e2) (fresh_back e hp) h2
theorem g_retL {xs : List V} (h : EvL te σ H0 xs) (q : ∀ p H, Ex H0 H → H0 p = none → H p = some (.lst xs) → D.rt (.ref p) H) : Go H0 (tRet te) D σ := fun H e => h H e _ fun p H2 hp e2 h2 => q p H2 (e.trans e2) (fresh_back e hp) h2
/-- a, b, c = t, t a tuple that stands -/
theorem g_un3 {p : Addr} {x y w : V} {i j k : Nat} (h : Ev te σ H0 (.ref p)) (ht : SqT K H0 p [x, y, w]) (kk : Go H0 z D (((σ.set i (some x)).set j (some y)).set k (some w))) :
    Go H0 (tSeq (tAsg te (gTup K 3 (gCons (gName i) (gCons (gName j) (gCons (gName k) gNil))))) z) D σ := fun H e => h H e _ fun H2 e2 => ⟨p, [x, y, w], rfl, ex_t (e.trans e2) ht, rfl, x, [y, w], rfl, y, [w], rfl, w, [], rfl, rfl, kk H2 (e.trans e2)⟩
theorem rc_lenL {p : Addr} {xs : List V} (h : SqL K H0 p xs) : RC (fun xs H Q => ∃ p ys, xs = [V.ref p] ∧ (SqL K H p ys ∨ SqT K H p ys) ∧ Q (.int ys.length) H) [.ref p] H0 (.int xs.length) := fun H1 e Q q => ⟨p, xs, rfl, .inl (ex_l e h), q H1 (Ex.refl H1)⟩
theorem rc_lenU {p : Addr} {xs : List V} (h : SqT K H0 p xs) : RC (fun xs H Q => ∃ p ys, xs = [V.ref p] ∧ (SqL K H p ys ∨ SqT K H p ys) ∧ Q (.int ys.length) H) [.ref p] H0 (.int xs.length) := fun H1 e Q q => ⟨p, xs, rfl, .inr (ex_t e h), q H1 (Ex.refl H1)⟩
/-- the last one of a promise: a value -/
theorem retV {Q : VK} (k : RetV v H0 Q) : ∀ H, Ex H0 H → Q v H := k
end

section
variable {σ : L2.St} {H0 : Hp} {tt : TT} {u z : TS} {D : Ends}
/-- while: W by a number that falls and the slots -/
theorem g_while (W : Nat → L2.St → Prop) (m0 : Nat) (h0 : W m0 σ)
    (hs : ∀ m σ', W m σ' → ∃ b, EvT tt σ' H0 b ∧ (b = true → Go H0 u { D with nx := fun σ2 H2 => Ex H0 H2 ∧ ∃ m', m' < m ∧ W m' σ2, ct := fun σ2 H2 => Ex H0 H2 ∧ ∃ m', m' < m ∧ W m' σ2, bk := z D } σ') ∧ (b = false → Go H0 z D σ')) : Go H0 (tSeq (tWhile tt u) z) D σ := fun H e =>
  ⟨fun m σ' H' => Ex H0 H' ∧ W m σ', ⟨m0, e, h0⟩, fun m σ' H' hw => by
    obtain ⟨e', w'⟩ := hw
    obtain ⟨b, hb, h1, h2⟩ := hs m σ' w'
    refine hb H' e' _ fun H1 e1 => ?_
    cases b with
    | true => exact ⟨_, fun σ2 H2 n => ⟨n.2.choose, n.2.choose_spec.1, n.1, n.2.choose_spec.2⟩, h1 rfl H1 (e'.trans e1)⟩
    | false => exact h2 rfl H1 (e'.trans e1)⟩
end
section
variable {σ : L2.St} {H0 : Hp} {te : TE} {tt : TT} {z : TS} {D : Ends} {i : Nat}
theorem set_same {α : Type} : ∀ {l : List α} {i : Nat} {a : α}, l[i]? = some a → l.set i a = l
  | [], i, a, h => by simp at h
  | x :: r, 0, a, h => by
    have e : x = a := Option.some.inj h
    subst e
    rfl
  | x :: r, i + 1, a, h => congrArg (x :: ·) (set_same (l := r) (i := i) h)
/-- if c: x = e for an int x: what follows is shown for each value that x may have behind it -/
theorem g_ifI {x y : Int} {c : Prop} [Decidable c] (h : EvT tt σ H0 (decide c)) (hx : σ[i]? = some (some (.int x))) (he : c → Ev te σ H0 (.int y)) (k : ∀ n, (c → n = y) → (¬ c → n = x) → Go H0 z D (σ.set i (some (.int n)))) : Go H0 (tSeq (tIfS tt (tAsg te (gName i)) tNext) z) D σ :=
  g_when h (fun hb => g_asg1 (he (of_decide_eq_true hb)) fun H e => k y (fun _ => rfl) (fun hc => absurd (of_decide_eq_true hb) hc) H e) fun hb => by
    have g := k x (fun hc => absurd hc (of_decide_eq_false hb)) (fun _ => rfl)
    rw [set_same hx] at g
    exact g
theorem g_ifV {x y : V} {c : Prop} [Decidable c] (h : EvT tt σ H0 (decide c)) (hx : σ[i]? = some (some x)) (he : c → Ev te σ H0 y) (k : ∀ n, (c → n = y) → (¬ c → n = x) → Go H0 z D (σ.set i (some n))) : Go H0 (tSeq (tIfS tt (tAsg te (gName i)) tNext) z) D σ :=
  g_when h (fun hb => g_asg1 (he (of_decide_eq_true hb)) fun H e => k y (fun _ => rfl) (fun hc => absurd (of_decide_eq_true hb) hc) H e) fun hb => by
    have g := k x (fun hc => absurd hc (of_decide_eq_false hb)) (fun _ => rfl)
    rw [set_same hx] at g
    exact g
end
section
variable {K : PySem.W.Frag} {H : Hp}
theorem dp3 {p : Addr} {a : Int} {g c : List Nat} (h : SqT K H p [.int a, tx g, tx c]) : Dp K H (.ref p) (.tuple [.int a, .str ⟨g.toArray⟩, .str ⟨c.toArray⟩]) :=
  .tup h (.cons (.int a) (.cons (.str _) (.cons (.str _) .nil)))
/-- codes that a text may have -/
def Ok (l : List Nat) : Prop := ∀ c ∈ l, c < 1114112
theorem Ok.nil : Ok [] := fun _ h => nomatch h
theorem Ok.one {c : Nat} (h : c < 1114112) : Ok [c] := fun x hx => by rw [List.mem_singleton.mp hx]; exact h
theorem Ok.app {a b : List Nat} (h1 : Ok a) (h2 : Ok b) : Ok (a ++ b) := fun c hc => (List.mem_append.mp hc).elim (h1 c) (h2 c)
theorem Ok.take {a : List Nat} (h : Ok a) (n : Nat) : Ok (a.take n) := fun c hc => h c (List.mem_of_mem_take hc)
theorem Ok.drop {a : List Nat} (h : Ok a) (n : Nat) : Ok (a.drop n) := fun c hc => h c (List.mem_of_mem_drop hc)
theorem Ok.cut {a : List Nat} (h : Ok a) (lo hi : Option Int) : Ok (cutL a lo hi) := (h.drop _).take _
theorem Ok.str {a : List Nat} (h : Ok a) : PyData.strOk ⟨a.toArray⟩ = true := by
  unfold PyData.strOk
  rw [← Array.all_toList, List.all_eq_true]
  exact fun c hc => decide_eq_true (h c hc)
theorem shaped3 {a : Int} {g c : List Nat} (h1 : Ok g) (h2 : Ok c) : SeqAt.shaped (.tuple [.int a, .str ⟨g.toArray⟩, .str ⟨c.toArray⟩]) = true := by
  unfold SeqAt.shaped
  simp [PyData.canLay0, PyData.canLayAll0, PyData.depth, PyData.depthAll, h1.str, h2.str]
theorem canlay_of {d : PyData} (h : SeqAt.shaped d = true) : d.canLay0 = true := by
  unfold SeqAt.shaped at h
  exact (Bool.and_eq_true_iff.mp h).1
theorem rv_neSame {x y : V} {d : PyData} (h1 : ∀ H1, Ex H H1 → Dp K H1 x d) (h2 : ∀ H1, Ex H H1 → Dp K H1 y d) (hs : SeqAt.shaped d = true) : RV (rNeD K) x y H (.bl false) := fun H1 e Q q =>
  ⟨d, d, h1 H1 e, h2 H1 e, hs, hs, by rw [SeqAt.eqv_refl d (canlay_of hs)]; exact q H1 (Ex.refl H1)⟩
theorem rv_eqSame {x y : V} {d : PyData} (h1 : ∀ H1, Ex H H1 → Dp K H1 x d) (h2 : ∀ H1, Ex H H1 → Dp K H1 y d) (hs : SeqAt.shaped d = true) : RV (rEqD K) x y H (.bl true) := fun H1 e Q q =>
  ⟨d, d, h1 H1 e, h2 H1 e, hs, hs, by rw [SeqAt.eqv_refl d (canlay_of hs)]; exact q H1 (Ex.refl H1)⟩
end
section
variable {X : Cx}
/-- isinstance(e, ..), e the error that the suite holds, its class told in the reading -/
theorem pe_isE {a D : Addr} {oe : Obj} {cls : Value} {d : Option Addr} {pn : List (Addr × Obj)} {p pos : Pos} {e : Expr} {es : List Expr} {t : TA} (C : ExcC X.K D) (hz : Zc cls d oe) (hf : ∃ vs, oe.data = .fields vs) (ha : PA (X.suite a ((a, oe) :: pn)) (e :: es) t) (hm : X.mg "isinstance" = none) (hg : Gl (X.suite a ((a, oe) :: pn)) "isinstance" := by rfl)
    (he : starEach (e :: es) X.env = (false, eval e X.env) :: starEach es X.env := by rfl) (hpl : (backTo pos (starEach es X.env)).any (·.1) = false := by rfl) :
    PE (X.suite a ((a, oe) :: pn)) (.Call (.Name "isinstance" p) (e :: es) [] pos) (fun σ H Q => cls = .ref D ∧ d = none ∧ tCB (rIsE X.K D a) t σ H Q) := by
  refine ⟨fun pins s σ H Q I h => ?_⟩
  obtain ⟨e1, e2, h⟩ := h
  subst e1 e2
  exact (pe_callB (X := X.suite a ((a, oe) :: pn)) (call_isE C hz hf) hg hm (by decide +kernel) ha (he := he) (hpl := hpl)).run pins s σ H Q I h
end
end XG
set_option Elab.async false
set_option linter.all false
set_option maxRecDepth 100000
set_option maxHeartbeats 4000000
/-! words of our own for what changes: lists and dicts that a def makes and fills -/
namespace XG
open PySem PySem.Spec PyProof.Rows L2 Evl
/-- H1 is H0 with o at p -/
structure Mu (H0 : Hp) (p : Addr) (o : HO) (H1 : Hp) : Prop where
  at_ : H1 p = some o
  rest : ∀ a u, a ≠ p → H0 a = some u → H1 a = some u
theorem mu_upd (H0 : Hp) (p : Addr) (o : HO) : Mu H0 p o (upd H0 p o) := ⟨upd_same, fun a u h e => by rw [upd_ne h]; exact e⟩
theorem ex_upd {H0 H : Hp} (e : Ex H0 H) (p : Addr) (o : HO) : Ex (upd H0 p o) (upd H p o) := fun a u h => by
  by_cases c : a = p
  · subst c
    rw [upd_same] at h ⊢
    exact h
  · rw [upd_ne c] at h ⊢
    exact e a u h
/-- what H0 does not know may change -/
theorem Mu.ex {H H0 H1 : Hp} {p : Addr} {o : HO} (m : Mu H0 p o H1) (e : Ex H H0) (h : H p = none) : Ex H H1 := fun a u ha => m.rest a u (ne_of_none ha h) (e a u ha)
theorem ne_at {H : Hp} {p q : Addr} {o : HO} (h : H p = some o) (h2 : H q = none) : p ≠ q := ne_of_none h h2
section
variable {K : PySem.W.Frag} {σ : L2.St} {H0 : Hp} {te ta tb : TE} {tu tz : TS} {D : Ends} {v : V} {i : Nat}
/-- xs.append(e), something behind -/
theorem g_app {l : Addr} {xs : List V} (hl : H0 l = some (.lst xs)) (ha : Ev ta σ H0 (.ref l)) (h : Ev te σ H0 v) (hz : xs.length < 100000) (k : ∀ H1, Mu H0 l (.lst (xs ++ [v])) H1 → Go H1 tz D σ) :
    Go H0 (tSeq (tDrop (tBM K "list" rAppend ta (tCons te tNil))) tz) D σ := fun H e =>
  q_app (e _ _ hl) (fun H1 e1 => ha H1 (e.trans e1)) (fun H1 e1 => h H1 (e.trans e1)) hz fun H1 e1 => k _ (mu_upd H0 l _) _ (ex_upd (e.trans e1) l _)
theorem g_app1 {l : Addr} {xs : List V} (hl : H0 l = some (.lst xs)) (ha : Ev ta σ H0 (.ref l)) (h : Ev te σ H0 v) (hz : xs.length < 100000) (k : ∀ H1, Mu H0 l (.lst (xs ++ [v])) H1 → D.nx σ H1)  :
    Go H0 (tDrop (tBM K "list" rAppend ta (tCons te tNil))) D σ := fun H e =>
  s_app (e _ _ hl) (fun H1 e1 => ha H1 (e.trans e1)) (fun H1 e1 => h H1 (e.trans e1)) hz fun H1 e1 => k _ ⟨upd_same, fun a u hn ha => by rw [upd_ne hn]; exact (e.trans e1) a u ha⟩
theorem g_appU {l : Addr} {xs ys : List V} (hl : H0 l = some (.lst xs)) (ha : Ev ta σ H0 (.ref l)) (h : EvU te σ H0 ys) (hz : xs.length < 100000)
    (k : ∀ p H2, Ex H0 H2 → H0 p = none → H2 p = some (.tup ys) → ∀ H1, Mu H2 l (.lst (xs ++ [.ref p])) H1 → Go H1 tz D σ) :
    Go H0 (tSeq (tDrop (tBM K "list" rAppend ta (tCons te tNil))) tz) D σ := fun H e =>
  q_appU (e _ _ hl) (fun H1 e1 => ha H1 (e.trans e1)) (fun H1 e1 => h H1 (e.trans e1)) hz fun p H1 hp e1 h1 => k p H1 (e.trans e1) (fresh_back e hp) h1 _ (mu_upd H1 l _) _ (Ex.refl _)
theorem g_appU1 {l : Addr} {xs ys : List V} (hl : H0 l = some (.lst xs)) (ha : Ev ta σ H0 (.ref l)) (h : EvU te σ H0 ys) (hz : xs.length < 100000)
    (k : ∀ p H2, Ex H0 H2 → H0 p = none → H2 p = some (.tup ys) → ∀ H1, Mu H2 l (.lst (xs ++ [.ref p])) H1 → D.nx σ H1) :
    Go H0 (tDrop (tBM K "list" rAppend ta (tCons te tNil))) D σ := fun H e =>
  s_appU (e _ _ hl) (fun H1 e1 => ha H1 (e.trans e1)) (fun H1 e1 => h H1 (e.trans e1)) hz fun p H1 hp e1 h1 => k p H1 (e.trans e1) (fresh_back e hp) h1 _ (mu_upd H1 l _)
theorem g_appL {l : Addr} {xs ys : List V} (hl : H0 l = some (.lst xs)) (ha : Ev ta σ H0 (.ref l)) (h : EvL te σ H0 ys) (hz : xs.length < 100000)
    (k : ∀ p H2, Ex H0 H2 → H0 p = none → H2 p = some (.lst ys) → ∀ H1, Mu H2 l (.lst (xs ++ [.ref p])) H1 → Go H1 tz D σ) :
    Go H0 (tSeq (tDrop (tBM K "list" rAppend ta (tCons te tNil))) tz) D σ := fun H e =>
  q_appL (e _ _ hl) (fun H1 e1 => ha H1 (e.trans e1)) (fun H1 e1 => h H1 (e.trans e1)) hz fun p H1 hp e1 h1 => k p H1 (e.trans e1) (fresh_back e hp) h1 _ (mu_upd H1 l _) _ (Ex.refl _)
/-- xs.reverse() -/
theorem g_rev1 {l : Addr} {xs : List V} (hl : H0 l = some (.lst xs)) (ha : Ev ta σ H0 (.ref l)) (k : ∀ H1, Mu H0 l (.lst xs.reverse) H1 → D.nx σ H1) :
    Go H0 (tDrop (tBM0 K "list" rReverse ta)) D σ := fun H e => ha H e _ fun H1 e1 =>
  ⟨Or.inl ⟨rfl, xs, sq_of ((e.trans e1) l _ hl)⟩, l, xs, rfl, rfl, (e.trans e1) l _ hl, k _ ⟨upd_same, fun a u hn ha => by rw [upd_ne hn]; exact (e.trans e1) a u ha⟩⟩
theorem g_rev {l : Addr} {xs : List V} (hl : H0 l = some (.lst xs)) (ha : Ev ta σ H0 (.ref l)) (k : ∀ H1, Mu H0 l (.lst xs.reverse) H1 → Go H1 tz D σ) :
    Go H0 (tSeq (tDrop (tBM0 K "list" rReverse ta)) tz) D σ := fun H e => ha H e _ fun H1 e1 =>
  ⟨Or.inl ⟨rfl, xs, sq_of ((e.trans e1) l _ hl)⟩, l, xs, rfl, rfl, (e.trans e1) l _ hl, k _ (mu_upd H0 l _) _ (ex_upd (e.trans e1) l _)⟩
/-- x = {} -/
theorem g_dnew (k : ∀ p H1, Ex H0 H1 → H0 p = none → H1 p = some (.dK []) → Go H1 tz D (σ.set i (some (.ref p)))) : Go H0 (tSeq (tAsg tDNewK (gName i)) tz) D σ := fun H e p hp =>
  k p _ (e.trans (Ex.new hp)) (fresh_back e hp) upd_same _ (Ex.refl _)
/-- d[k] = v -/
theorem g_dput {d : Addr} {kvs : List (Key × V)} {x : Key} (hd : H0 d = some (.dK kvs)) (hv : Ev te σ H0 v) (ho : Ev ta σ H0 (.ref d)) (hk : Ev tb σ H0 (kV x)) (hz : kvs.length < 100000) (k : ∀ H1, Mu H0 d (.dK (putK kvs x v)) H1 → Go H1 tz D σ) :
    Go H0 (tSeq (sDPut ta tb te) tz) D σ := fun H e => hv H e _ fun H1 e1 => ho H1 (e.trans e1) _ fun H2 e2 => hk H2 ((e.trans e1).trans e2) _ fun H3 e3 =>
  have e4 := ((e.trans e1).trans e2).trans e3
  ⟨d, _, rfl, DPut.k (e4 _ _ hd) (sz_lt hz), k _ (mu_upd H0 d _) _ (ex_upd e4 d _)⟩
theorem g_dput1 {d : Addr} {kvs : List (Key × V)} {x : Key} (hd : H0 d = some (.dK kvs)) (hv : Ev te σ H0 v) (ho : Ev ta σ H0 (.ref d)) (hk : Ev tb σ H0 (kV x)) (hz : kvs.length < 100000) (k : ∀ H1, Mu H0 d (.dK (putK kvs x v)) H1 → D.nx σ H1) :
    Go H0 (sDPut ta tb te) D σ := fun H e => hv H e _ fun H1 e1 => ho H1 (e.trans e1) _ fun H2 e2 => hk H2 ((e.trans e1).trans e2) _ fun H3 e3 =>
  have e4 := ((e.trans e1).trans e2).trans e3
  ⟨d, _, rfl, DPut.k (e4 _ _ hd) (sz_lt hz), k _ ⟨upd_same, fun a u hn ha => by rw [upd_ne hn]; exact e4 a u ha⟩⟩
/-- d[k] = a new tuple -/
theorem g_dputU {d : Addr} {kvs : List (Key × V)} {x : Key} {ys : List V} (hd : H0 d = some (.dK kvs)) (hv : EvU te σ H0 ys) (ho : Ev ta σ H0 (.ref d)) (hk : Ev tb σ H0 (kV x)) (hz : kvs.length < 100000)
    (k : ∀ p H2, Ex H0 H2 → H0 p = none → H2 p = some (.tup ys) → ∀ H1, Mu H2 d (.dK (putK kvs x (.ref p))) H1 → Go H1 tz D σ) :
    Go H0 (tSeq (sDPut ta tb te) tz) D σ := fun H e => hv H e _ fun p H1 hp e1 h1 => ho H1 (e.trans e1) _ fun H2 e2 => hk H2 ((e.trans e1).trans e2) _ fun H3 e3 =>
  have e4 := ((e.trans e1).trans e2).trans e3
  ⟨d, _, rfl, DPut.k (e4 _ _ hd) (sz_lt hz), k p H3 e4 (fresh_back e hp) (e3 _ _ (e2 _ _ h1)) _ (mu_upd H3 d _) _ (Ex.refl _)⟩
theorem g_dputU1 {d : Addr} {kvs : List (Key × V)} {x : Key} {ys : List V} (hd : H0 d = some (.dK kvs)) (hv : EvU te σ H0 ys) (ho : Ev ta σ H0 (.ref d)) (hk : Ev tb σ H0 (kV x)) (hz : kvs.length < 100000)
    (k : ∀ p H2, Ex H0 H2 → H0 p = none → H2 p = some (.tup ys) → ∀ H1, Mu H2 d (.dK (putK kvs x (.ref p))) H1 → D.nx σ H1) :
    Go H0 (sDPut ta tb te) D σ := fun H e => hv H e _ fun p H1 hp e1 h1 => ho H1 (e.trans e1) _ fun H2 e2 => hk H2 ((e.trans e1).trans e2) _ fun H3 e3 =>
  have e4 := ((e.trans e1).trans e2).trans e3
  ⟨d, _, rfl, DPut.k (e4 _ _ hd) (sz_lt hz), k p H3 e4 (fresh_back e hp) (e3 _ _ (e2 _ _ h1)) _ (mu_upd H3 d _)⟩
/-! ### for, by a word of the turn, the slots and the heap -/
theorem g_forR2 {ta : TA} {j : Nat} {lo n : Int} (h : EvA ta σ H0 [.int lo, .int n]) (hn : 0 ≤ lo ∧ lo ≤ 100000 ∧ -100000 ≤ n ∧ n ≤ 100000) (Pv : Nat → L2.St → Hp → Prop) (h0 : ∀ H1, Ex H0 H1 → Pv 0 σ H1)
    (hs : ∀ (i : Nat) σ' H', lo + (i : Int) < n → Pv i σ' H' → Go H' tu { D with nx := Pv (i + 1), ct := Pv (i + 1), bk := tz D } (σ'.set j (some (.int (lo + (i : Int))))))
    (hd : ∀ σ' H', Pv (n - lo).toNat σ' H' → Go H' tz D σ') : Go H0 (tSeq (tFor (iRng2 ta) (gName j) tu) tz) D σ := fun H e =>
  q_forR2 (fun H1 e1 => h H1 (e.trans e1)) hn Pv (fun H1 e1 => h0 H1 (e.trans e1)) (fun i σ' H' hi p => (hs i σ' H' hi p).at) fun σ' H' p => (hd σ' H' p).at
theorem g_forR1 {ta : TA} {j : Nat} {n : Int} (h : EvA ta σ H0 [.int n]) (hn : 0 ≤ n ∧ n ≤ 100000) (Pv : Nat → L2.St → Hp → Prop) (h0 : ∀ H1, Ex H0 H1 → Pv 0 σ H1)
    (hs : ∀ (i : Nat) σ' H', (i : Int) < n → Pv i σ' H' → Go H' tu { D with nx := Pv (i + 1), ct := Pv (i + 1), bk := tz D } (σ'.set j (some (.int (i : Int)))))
    (hd : ∀ σ' H', Pv n.toNat σ' H' → Go H' tz D σ') : Go H0 (tSeq (tFor (iRng1 ta) (gName j) tu) tz) D σ := fun H e =>
  q_forR1 (fun H1 e1 => h H1 (e.trans e1)) hn Pv (fun H1 e1 => h0 H1 (e.trans e1)) (fun i σ' H' hi p => (hs i σ' H' hi p).at) fun σ' H' p => (hd σ' H' p).at
theorem g_forL {a : Addr} {xs : List V} {tl : TE} {j : Nat} (h : Ev tl σ H0 (.ref a)) (hx : SqL K H0 a xs) (Pv : Nat → L2.St → Hp → Prop) (h0 : ∀ H1, Ex H0 H1 → Pv 0 σ H1) (hl : ∀ i σ' H', i ≤ xs.length → Pv i σ' H' → SqL K H' a xs)
    (hs : ∀ i x σ' H', xs[i]? = some x → Pv i σ' H' → Go H' tu { D with nx := Pv (i + 1), ct := Pv (i + 1), bk := tz D } (σ'.set j (some x)))
    (hd : ∀ σ' H', Pv xs.length σ' H' → Go H' tz D σ') : Go H0 (tSeq (tFor (iList K tl) (gName j) tu) tz) D σ := fun H e =>
  q_forLn (fun H1 e1 => h H1 (e.trans e1)) (ex_l e hx) Pv (fun H1 e1 => h0 H1 (e.trans e1)) hl (fun i x σ' H' hi p => (hs i x σ' H' hi p).at) fun σ' H' p => (hd σ' H' p).at
theorem g_forNL {xs : List V} {tl : TE} {j : Nat} (h : EvL tl σ H0 xs) (Pv : Addr → Nat → L2.St → Hp → Prop) (h0 : ∀ p H1, H0 p = none → Ex H0 H1 → H1 p = some (.lst xs) → Pv p 0 σ H1) (hl : ∀ p i σ' H', i ≤ xs.length → Pv p i σ' H' → SqL K H' p xs)
    (hs : ∀ p i x σ' H', xs[i]? = some x → Pv p i σ' H' → Go H' tu { D with nx := Pv p (i + 1), ct := Pv p (i + 1), bk := tz D } (σ'.set j (some x)))
    (hd : ∀ p σ' H', Pv p xs.length σ' H' → Go H' tz D σ') : Go H0 (tSeq (tFor (iList K tl) (gName j) tu) tz) D σ := fun H e =>
  q_forNLn (fun H1 e1 => h H1 (e.trans e1)) Pv (fun p H1 hp e1 h1 => h0 p H1 (fresh_back e hp) (e.trans e1) h1) hl (fun p i x σ' H' hi q => (hs p i x σ' H' hi q).at) fun p σ' H' q => (hd p σ' H' q).at
/-! ### dicts read -/
theorem ev_dget {d : Addr} {kvs : List (Key × V)} {x : Key} (ho : Ev ta σ H0 (.ref d)) (hk : Ev tb σ H0 (kV x)) (hd : Rd H0 d (.dK kvs)) (hx : valV kvs x = some v) : Ev (tDGet ta tb) σ H0 v := fun H1 e Q q =>
  ho H1 e _ fun H2 e2 => hk H2 (e.trans e2) _ fun H3 e3 => ⟨d, v, rfl, .inl ⟨kvs, x, ex_rd ((e.trans e2).trans e3) hd, rfl, hx.symm⟩, q H3 (e2.trans e3)⟩
theorem ev_din {d : Addr} {kvs : List (Key × V)} {x : Key} (hk : Ev tb σ H0 (kV x)) (ho : Ev ta σ H0 (.ref d)) (hd : Rd H0 d (.dK kvs)) : Ev (tDIn tb ta) σ H0 (.bl (valV kvs x).isSome) := fun H1 e Q q =>
  hk H1 e _ fun H2 e2 => ho H2 (e.trans e2) _ fun H3 e3 => ⟨d, _, rfl, .inl ⟨kvs, x, ex_rd ((e.trans e2).trans e3) hd, rfl, rfl⟩, q H3 (e2.trans e3)⟩
theorem ev_dnotin {d : Addr} {kvs : List (Key × V)} {x : Key} (hk : Ev tb σ H0 (kV x)) (ho : Ev ta σ H0 (.ref d)) (hd : Rd H0 d (.dK kvs)) : Ev (tDNotIn tb ta) σ H0 (.bl (!(valV kvs x).isSome)) := fun H1 e Q q =>
  hk H1 e _ fun H2 e2 => ho H2 (e.trans e2) _ fun H3 e3 => ⟨d, _, rfl, .inl ⟨kvs, x, ex_rd ((e.trans e2).trans e3) hd, rfl, rfl⟩, q H3 (e2.trans e3)⟩
end

section
variable {K : PySem.W.Frag} {σ : L2.St} {H0 : Hp} {te ta tb : TE} {tt : TT} {t u z : TS} {D : Ends} {v : V} {b : Bool} {i : Nat}
/-- an if whose branches meet again in A -/
theorem g_whenA (A : L2.St → Hp → Prop) (h : EvT tt σ H0 b) (h1 : b = true → (∀ σ1 H1, A σ1 H1 → z D σ1 H1) → Go H0 u { D with nx := z D } σ) (h2 : b = false → ∀ H1, Ex H0 H1 → A σ H1) (k : ∀ σ1 H1, A σ1 H1 → Go H1 z D σ1) : Go H0 (tSeq (tIfS tt u tNext) z) D σ :=
  g_when h (fun hb => h1 hb fun σ1 H1 a => (k σ1 H1 a).at) fun hb H1 e => (k σ H1 (h2 hb H1 e)).at
theorem g_ifA (A : L2.St → Hp → Prop) (h : EvT tt σ H0 b) (h1 : b = true → (∀ σ1 H1, A σ1 H1 → z D σ1 H1) → Go H0 u { D with nx := z D } σ) (h2 : b = false → (∀ σ1 H1, A σ1 H1 → z D σ1 H1) → Go H0 t { D with nx := z D } σ) (k : ∀ σ1 H1, A σ1 H1 → Go H1 z D σ1) : Go H0 (tSeq (tIfS tt u t) z) D σ :=
  g_if h (fun hb => h1 hb fun σ1 H1 a => (k σ1 H1 a).at) fun hb => h2 hb fun σ1 H1 a => (k σ1 H1 a).at
/-- [a, b, ..][i] -/
theorem ev_ixN {xs : List V} {n : Int} (ha : EvL ta σ H0 xs) (hb : Ev tb σ H0 (.int n)) (hx : atI xs n = some v) : Ev (tOp (rIxL K) ta tb) σ H0 v :=
  ev_opL1 ha (fun H1 e => hb.mono e) fun p H1 hp _ => rv_ixL (sq_of hp) hx
theorem atI_mod {xs : List V} {n : Int} (h : 0 ≤ n) (hx : xs[n.toNat]? = some v) : atI xs n = some v := by
  rw [show n = ((n.toNat : Nat) : Int) by omega]
  exact atI_nat hx
end
theorem given_all (n : Nat) (v : Nat → V) : given n (fun _ => true) v = (List.range n).map v := by
  unfold given
  rw [List.filter_eq_self.mpr (fun _ _ => rfl)]
/-! ### a new dict; lists of whole numbers -/
def EvD (te : TE) (σ : L2.St) (H : Hp) (kvs : List (Key × V)) : Prop := ∀ H1, Ex H H1 → ∀ Q : VK, (∀ p H2, H1 p = none → Ex H1 H2 → H2 p = some (.dK kvs) → Q (.ref p) H2) → te σ H1 Q
/-- a def that gives a new dict -/
def SpD (sp : Sp) (vs : List V) (H : Hp) (kvs : List (Key × V)) : Prop := ∀ H1, Ex H H1 → ∀ Q : VK, (∀ p H2, H1 p = none → Ex H1 H2 → H2 p = some (.dK kvs) → Q (.ref p) H2) → ∀ E : XK, sp vs H1 Q E
section
variable {K : PySem.W.Frag} {σ : L2.St} {H H0 : Hp} {te ta tb : TE} {tz : TS} {D : Ends} {v : V} {i : Nat}
theorem g_asgD {kvs : List (Key × V)} (h : EvD te σ H0 kvs) (k : ∀ p H1, Ex H0 H1 → H0 p = none → H1 p = some (.dK kvs) → Go H1 tz D (σ.set i (some (.ref p)))) : Go H0 (tSeq (tAsg te (gName i)) tz) D σ := fun H e => h H e _ fun p H2 hp e2 h2 => k p H2 (e.trans e2) (fresh_back e hp) h2 H2 (Ex.refl H2)
theorem ed_call {sp : Sp} {dvs vs : List V} {kvs : List (Key × V)} {E : XK} {ta : TA} (h : EvA ta σ H vs) (hs : SpD sp (vs ++ dvs) H kvs) : EvD (tCall sp dvs E ta) σ H kvs := fun H1 e Q q =>
  h H1 e _ fun H2 e2 => hs H2 (e.trans e2) Q (fun p H3 hp e3 h3 => q p H3 (fresh_back e2 hp) (e2.trans e3) h3) E
/-- list(d) -/
theorem el_listD {ta : TA} {a : Addr} {kvs : List (Key × V)} (h : EvA ta σ H [.ref a]) (hd : Rd H a (.dK kvs)) :
    EvL (tCB (fun xs H Q => ∃ (a : Addr) (kvs : List (Key × V)), xs = [.ref a] ∧ Rd H a (.dK kvs) ∧ ∀ p, H p = none → Q (.ref p) (upd H p (.lst (kvs.map fun kv => kV kv.1)))) ta) σ H (kvs.map fun kv => kV kv.1) := fun H1 e Q q =>
  h H1 e _ fun H2 e2 => ⟨a, kvs, rfl, ex_rd (e.trans e2) hd, fun p hp => q p _ (fresh_back e2 hp) (e2.trans (Ex.new hp)) upd_same⟩
/-- dict(d) -/
theorem ed_dictD {ta : TA} {a : Addr} {kvs : List (Key × V)} (h : EvA ta σ H [.ref a]) (hd : Rd H a (.dK kvs)) :
    EvD (tCB (fun xs H Q => ∃ (a : Addr) (kvs : List (Key × V)), xs = [.ref a] ∧ Rd H a (.dK kvs) ∧ ∀ p, H p = none → Q (.ref p) (upd H p (.dK kvs))) ta) σ H kvs := fun H1 e Q q =>
  h H1 e _ fun H2 e2 => ⟨a, kvs, rfl, ex_rd (e.trans e2) hd, fun p hp => q p _ (fresh_back e2 hp) (e2.trans (Ex.new hp)) upd_same⟩
theorem can_ints : ∀ l : List Int, PyData.canLayAll0 (l.map PyData.int) = true
  | [] => rfl
  | a :: r => by
    have ih := can_ints r
    simp [PyData.canLayAll0, PyData.canLay0, ih]
theorem depth_ints : ∀ l : List Int, PyData.depthAll (l.map PyData.int) = 0
  | [] => rfl
  | a :: r => by
    have ih := depth_ints r
    simp [PyData.depthAll, PyData.depth, ih]
theorem shaped_ints (l : List Int) : SeqAt.shaped (.list (l.map PyData.int)) = true := by
  unfold SeqAt.shaped
  simp [PyData.canLay0, PyData.depth, can_ints, depth_ints]
theorem dp_ints : ∀ l : List Int, DpAll K H (l.map V.int) (l.map PyData.int)
  | [] => .nil
  | a :: r => .cons (.int a) (dp_ints r)
theorem dp_intL {p : Addr} {l : List Int} (h : H p = some (.lst (l.map V.int))) : Dp K H (.ref p) (.list (l.map PyData.int)) := .lst (sq_of h) (dp_ints l)
theorem rv_neInts {p q : Addr} {l : List Int} (h1 : H p = some (.lst (l.map V.int))) (h2 : H q = some (.lst (l.map V.int))) : RV (rNeD K) (.ref p) (.ref q) H (.bl false) :=
  rv_neSame (fun H1 e => dp_intL (e _ _ h1)) (fun H1 e => dp_intL (e _ _ h2)) (shaped_ints l)
theorem rv_eqInts {p q : Addr} {l : List Int} (h1 : H p = some (.lst (l.map V.int))) (h2 : H q = some (.lst (l.map V.int))) : RV (rEqD K) (.ref p) (.ref q) H (.bl true) :=
  rv_eqSame (fun H1 e => dp_intL (e _ _ h1)) (fun H1 e => dp_intL (e _ _ h2)) (shaped_ints l)
/-- xs == [] -/
theorem rv_eqNil {p q : Addr} {l : List Int} (h1 : H p = some (.lst (l.map V.int))) (h2 : H q = some (.lst [])) (hl : l ≠ []) : RV (rEqD K) (.ref p) (.ref q) H (.bl false) := fun H1 e Q k =>
  ⟨_, _, dp_intL (e _ _ h1), dp_intL (l := []) (e _ _ h2), shaped_ints l, shaped_ints [], by
    cases l with
    | nil => exact absurd rfl hl
    | cons a r => exact k H1 (Ex.refl H1)⟩
/-- dicts of the same pairs, of flat values -/
theorem rv_neDict {p q : Addr} {kvs : List (Key × V)} (h1 : H p = some (.dK kvs)) (h2 : H q = some (.dK kvs)) (hn : ∀ x ∈ kvs, valV kvs x.1 = some x.2 ∧ flatB x.2 = true) : RV rNeDA (.ref p) (.ref q) H (.bl false) := fun H1 e Q k =>
  ⟨p, q, kvs, kvs, rfl, rfl, e _ _ h1, e _ _ h2, rfl, hn, k H1 (Ex.refl H1)⟩
end
theorem valV_mem : ∀ {kvs : List (Key × V)} {x : Key × V}, (kvs.map (·.1)).Nodup → x ∈ kvs → valV kvs x.1 = some x.2
  | p :: r, x, nd, h => by
    have nd : (p.1 :: r.map (·.1)).Nodup := nd
    obtain ⟨n1, n2⟩ := List.nodup_cons.mp nd
    rcases List.mem_cons.mp h with rfl | h
    · unfold valV
      rw [List.find?_cons_of_pos (by simp)]
      rfl
    · have ne : ¬ p.1 = x.1 := fun e => n1 (by rw [e]; exact List.mem_map.mpr ⟨x, h, rfl⟩)
      have ih := valV_mem n2 h
      unfold valV at ih ⊢
      rw [List.find?_cons_of_neg (by simpa using ne)]
      exact ih
theorem rv_isN {H : Hp} {x : V} {b : Bool} (h : decide (x = V.non) = b) : RV (fun x y H Q => y = V.non ∧ Q (V.bl (decide (x = V.non))) H) x .non H (.bl b) := fun H1 e Q q => ⟨rfl, by rw [h]; exact q H1 (Ex.refl H1)⟩
theorem rv_notN {H : Hp} {x : V} {b : Bool} (h : decide (x = V.non) = b) : RV (fun x y H Q => y = V.non ∧ Q (V.bl (!decide (x = V.non))) H) x .non H (.bl (!b)) := fun H1 e Q q => ⟨rfl, by rw [h]; exact q H1 (Ex.refl H1)⟩
theorem int_nn {i : Int} : decide (V.int i = V.non) = false := decide_eq_false (by intro z; cases z)
theorem ref_nn {p : Addr} : decide (V.ref p = V.non) = false := decide_eq_false (by intro z; cases z)
theorem non_n : decide (V.non = V.non) = true := decide_eq_true rfl
/-! ### a dict locked while it is walked -/
/-- the ends of a statement under a lock -/
def LkD (D : Ends) (d : Addr) (u : HO) (od : Obj) : Ends := ⟨fun σ' H' => H' d = some (.frz od u) ∧ D.nx σ' (upd H' d u), fun v H' => H' d = some (.frz od u) ∧ D.rt v (upd H' d u), fun σ' H' => H' d = some (.frz od u) ∧ D.bk σ' (upd H' d u), fun σ' H' => H' d = some (.frz od u) ∧ D.ct σ' (upd H' d u)⟩
/-- behind the lock all that stood stands -/
theorem Mu.back {H0 L : Hp} {d : Addr} {u o : HO} (m : Mu H0 d o L) (h : H0 d = some u) : Ex H0 (upd L d u) := fun a x e => by
  by_cases c : a = d
  · subst c
    rw [upd_same]
    rw [h] at e
    exact e
  · rw [upd_ne c]
    exact m.rest a x c e
theorem Mu.up {H0 L L1 : Hp} {d : Addr} {o : HO} (m : Mu H0 d o L) (e : Ex L L1) : Mu H0 d o L1 := ⟨e _ _ m.at_, fun a u h z => e _ _ (m.rest a u h z)⟩
theorem Mu.low {H H0 L : Hp} {d : Addr} {o : HO} (m : Mu H0 d o L) (e : Ex H H0) : Mu H d o L := ⟨m.at_, fun a u h z => m.rest a u h (e _ _ z)⟩
theorem ex_lock {H0 H : Hp} (e : Ex H0 H) (d : Addr) (o : HO) : Mu H0 d o (upd H d o) := ⟨upd_same, fun a u h z => by rw [upd_ne h]; exact e _ _ z⟩
section
variable {K : PySem.W.Frag} {σ : L2.St} {H0 : Hp} {te tl tk tv : TE} {t : TT} {tu tz : TS} {D : Ends} {v : V} {i j : Nat} {d : Addr} {kvs : List (Key × V)}
theorem g_forK (hv : ∀ L, Ev tl σ L (.ref d)) (hd : H0 d = some (.dK kvs)) (Pv : Obj → Nat → L2.St → Hp → Prop)
    (h0 : ∀ od L, Mu H0 d (.frz od (.dK kvs)) L → Pv od 0 σ L) (hG : ∀ od i σ' L, Pv od i σ' L → L d = some (.frz od (.dK kvs)))
    (hs : ∀ od i k v σ' L, kvs[i]? = some (k, v) → Pv od i σ' L → Go L tu { LkD D d (.dK kvs) od with nx := Pv od (i + 1), ct := Pv od (i + 1), bk := fun σ2 H2 => H2 d = some (.frz od (.dK kvs)) ∧ tz D σ2 (upd H2 d (.dK kvs)) } (σ'.set j (some (kV k))))
    (hz : ∀ od σ' L, Pv od kvs.length σ' L → Go (upd L d (.dK kvs)) tz D σ') : Go H0 (tSeq (tLock (tFor (iKeys tl) (gName j) tu)) tz) D σ := fun H e =>
  ⟨d, .dK kvs, e _ _ hd, trivial, fun od => hv _ _ (Ex.refl _) _ fun H2 e2 => ⟨d, od, rfl, .inl ⟨kvs, e2 _ _ upd_same, for_it walk_keys (Pv od) (h0 od H2 ((ex_lock e d _).up e2)) (fun i σ' L _ p => hG od i σ' L p)
    (fun i x σ' L L' _ p y => by
      obtain ⟨rfl, k, v, hk, rfl⟩ := y
      exact (hs od i k v σ' L' hk p).at)
    fun σ' L p => ⟨hG od _ σ' L p, (hz od σ' L p).at⟩⟩⟩⟩
theorem el_lockE {u : HO} {xs : List V} (hd : H0 d = some u) (mu : Mut (some u)) (h : ∀ od L, Mu H0 d (.frz od u) L → EvL te σ L xs) : EvL (tLockE te) σ H0 xs := fun H1 e Q q =>
  ⟨d, u, e _ _ hd, mu, fun od => h od _ (ex_lock e d _) _ (Ex.refl _) _ fun p H2 hp e2 h2 =>
    have ne : p ≠ d := fun z => by rw [z, upd_same] at hp; cases hp
    ⟨e2 _ _ upd_same, q p _ (by rw [upd_ne ne] at hp; exact hp) (((ex_lock (Ex.refl H1) d _).up e2).back (e _ _ hd)) (by rw [upd_ne ne]; exact h2)⟩⟩
theorem ev_lockE {u : HO} (hd : H0 d = some u) (mu : Mut (some u)) (h : ∀ od L, Mu H0 d (.frz od u) L → Ev te σ L v) : Ev (tLockE te) σ H0 v := fun H1 e Q q =>
  ⟨d, u, e _ _ hd, mu, fun od => h od _ (ex_lock e d _) _ (Ex.refl _) _ fun H2 e2 =>
    ⟨e2 _ _ upd_same, q _ (((ex_lock (Ex.refl H1) d _).up e2).back (e _ _ hd))⟩⟩
theorem g_lockL {u : HO} {xs : List V} (hd : H0 d = some u) (mu : Mut (some u)) (h : ∀ od L, Mu H0 d (.frz od u) L → EvL te σ L xs) (k : ∀ p H1, Ex H0 H1 → H0 p = none → H1 p = some (.lst xs) → Go H1 tz D (σ.set i (some (.ref p)))) :
    Go H0 (tSeq (tLock (tAsg te (gName i))) tz) D σ := fun H1 e =>
  ⟨d, u, e _ _ hd, mu, fun od => h od _ (ex_lock e d _) _ (Ex.refl _) _ fun p H2 hp e2 h2 =>
    have ne : p ≠ d := fun z => by rw [z, upd_same] at hp; cases hp
    have e3 := ((ex_lock (Ex.refl H1) d _).up e2).back (e _ _ hd)
    ⟨e2 _ _ upd_same, k p _ (e.trans e3) (fresh_back e (by rw [upd_ne ne] at hp; exact hp)) (by rw [upd_ne ne]; exact h2) _ (Ex.refl _)⟩⟩
/-- [e for k in d if t], the dict locked -/
theorem el_lcK {L : Hp} {od : Obj} {vs : List Nat} (f : Nat → Bool) (g : Nat → V) (h : Ev tl σ L (.ref d)) (hL : L d = some (.frz od (.dK kvs))) (hz : kvs.length ≤ 40000) (hw : ∀ x, wipe ((wipe σ vs).set j (some x)) vs = wipe σ vs)
    (ht : ∀ (i : Nat) (k : Key) (v : V) H1, Ex L H1 → kvs[i]? = some (k, v) → EvT t ((wipe σ vs).set j (some (kV k))) H1 (f i)) (he : ∀ (i : Nat) (k : Key) (v : V) H1, Ex L H1 → kvs[i]? = some (k, v) → f i = true → Ev te ((wipe σ vs).set j (some (kV k))) H1 (g i)) :
    EvL (tLc (iKeys tl) (gName j) t te vs) σ L (given kvs.length f g) := fun H0 e Q q => h H0 e _ fun H1 e1 => ⟨d, od, rfl, .inl ⟨kvs, (e.trans e1) _ _ hL, fun Dl hD =>
  lc_it walk_keys (Cw H1 f g Dl) ⟨hD, Ex.new hD, upd_same⟩ (fun i H' _ p => p.2.1 _ _ ((e.trans e1) _ _ hL)) (fun i x H2 H' hi p y => by
    obtain ⟨rfl, k, v, hk, rfl⟩ := y
    exact ⟨hw _, cw_turn p (by omega) (ht i k v H1 (e.trans e1) hk) (fun hf => he i k v H1 (e.trans e1) hk hf)⟩)
    (fun H' p => q Dl H' (fresh_back e1 p.1) (e1.trans p.2.1) p.2.2)⟩⟩
end
/-! ### max and min of a list of whole numbers -/
def maxL : List Int → Int
  | [] => 0
  | [a] => a
  | a :: b :: r => max a (maxL (b :: r))
def minL : List Int → Int
  | [] => 0
  | [a] => a
  | a :: b :: r => min a (minL (b :: r))
theorem maxL_mem : ∀ {l : List Int}, l ≠ [] → maxL l ∈ l
  | [], h => absurd rfl h
  | [a], _ => List.mem_singleton.mpr rfl
  | a :: b :: r, _ => by
    have ih := maxL_mem (l := b :: r) (by simp)
    show max a (maxL (b :: r)) ∈ _
    by_cases c : a ≤ maxL (b :: r)
    · rw [Int.max_eq_right c]
      exact List.mem_cons_of_mem _ ih
    · rw [Int.max_eq_left (by omega)]
      exact List.mem_cons_self
theorem maxL_ge : ∀ {l : List Int} {y : Int}, y ∈ l → y ≤ maxL l
  | [], _, h => nomatch h
  | [a], y, h => by rw [List.mem_singleton.mp h]; exact Int.le_refl _
  | a :: b :: r, y, h => by
    show y ≤ max a (maxL (b :: r))
    rcases List.mem_cons.mp h with rfl | h
    · omega
    · have := maxL_ge h
      omega
theorem maxL_eq {l : List Int} {m : Int} (h : m ∈ l) (h2 : ∀ y ∈ l, y ≤ m) : m = maxL l := by
  have h1 := maxL_ge h
  have h3 := h2 _ (maxL_mem (List.ne_nil_of_mem h))
  omega
theorem minL_mem : ∀ {l : List Int}, l ≠ [] → minL l ∈ l
  | [], h => absurd rfl h
  | [a], _ => List.mem_singleton.mpr rfl
  | a :: b :: r, _ => by
    have ih := minL_mem (l := b :: r) (by simp)
    show min a (minL (b :: r)) ∈ _
    by_cases c : a ≤ minL (b :: r)
    · rw [Int.min_eq_left c]
      exact List.mem_cons_self
    · rw [Int.min_eq_right (by omega)]
      exact List.mem_cons_of_mem _ ih
theorem minL_le : ∀ {l : List Int} {y : Int}, y ∈ l → minL l ≤ y
  | [], _, h => nomatch h
  | [a], y, h => by rw [List.mem_singleton.mp h]; exact Int.le_refl _
  | a :: b :: r, y, h => by
    show min a (minL (b :: r)) ≤ y
    rcases List.mem_cons.mp h with rfl | h
    · omega
    · have := minL_le h
      omega
theorem minL_eq {l : List Int} {m : Int} (h : m ∈ l) (h2 : ∀ y ∈ l, m ≤ y) : m = minL l := by
  have h1 := minL_le h
  have h3 := h2 _ (minL_mem (List.ne_nil_of_mem h))
  omega
section
variable {K : PySem.W.Frag} {σ : L2.St} {H : Hp} {te : TE} {ns : List Int}
theorem ev_maxN (h : EvL te σ H (ns.map V.int)) (hn : ns ≠ []) : Ev (tCB (rMax K) (tCons te tNil)) σ H (.int (maxL ns)) := fun H1 e Q q =>
  h H1 e _ fun p H2 _ e2 hp => ⟨p, ns, rfl, sq_of hp, List.length_pos_iff.mpr hn, fun m h1 h2 => by rw [maxL_eq h1 h2]; exact q H2 e2⟩
theorem ev_minN (h : EvL te σ H (ns.map V.int)) (hn : ns ≠ []) : Ev (tCB (rMin K) (tCons te tNil)) σ H (.int (minL ns)) := fun H1 e Q q =>
  h H1 e _ fun p H2 _ e2 hp => ⟨p, ns, rfl, sq_of hp, List.length_pos_iff.mpr hn, fun m h1 h2 => by rw [minL_eq h1 h2]; exact q H2 e2⟩
end
theorem flat_ints : ∀ l : List Int, (l.map V.int).all flatV = true
  | [] => rfl
  | a :: r => by
    rw [List.map_cons, List.all_cons, flat_ints r]
    rfl
theorem inV_int (i : Int) (l : List Int) : inV (.int i) (l.map V.int) = decide (i ∈ l) := by
  induction l with
  | nil => rfl
  | cons a r ih =>
    unfold inV at ih ⊢
    rw [List.map_cons, List.any_cons, ih]
    show (a == i || decide (i ∈ r)) = _
    by_cases c : i = a
    · subst c
      simp
    · have c' : ¬ a = i := fun z => c z.symm
      simp [c, c']
/-- given by a test on the items of a list -/
theorem given_filter {α : Type} (p : α → Bool) (g : α → V) (l : List α) (f : Nat → Bool) (v : Nat → V) (h : ∀ i x, l[i]? = some x → f i = p x ∧ v i = g x) : given l.length f v = (l.filter p).map g := by
  have q : ∀ n, n ≤ l.length → given n f v = ((l.take n).filter p).map g := by
    intro n
    induction n with
    | zero => intro _; rfl
    | succ n ih =>
      intro hn
      have e : l[n]? = some l[n] := List.getElem?_eq_getElem (by omega)
      obtain ⟨h1, h2⟩ := h n _ e
      have ih' := ih (by omega)
      rw [List.take_add_one, e, List.filter_append, List.map_append]
      show given (n + 1) f v = List.map g (List.filter p (List.take n l)) ++ List.map g (List.filter p [l[n]])
      cases hp : p l[n] with
      | true =>
        rw [given_yes (by rw [h1, hp]), ih', h2, List.filter_cons_of_pos hp]
        rfl
      | false =>
        rw [given_no (by rw [h1, hp]), ih', List.filter_cons_of_neg (by rw [hp]; decide)]
        exact (List.append_nil _).symm
  rw [q l.length (Nat.le_refl _), List.take_length]
theorem given_map {α : Type} (g : α → V) (l : List α) (v : Nat → V) (h : ∀ i x, l[i]? = some x → v i = g x) : given l.length (fun _ => true) v = l.map g := by
  rw [given_filter (fun _ => true) g l _ v fun i x hx => ⟨rfl, h i x hx⟩, List.filter_eq_self.mpr fun _ _ => rfl]
theorem atI_last {α : Type} {xs : List α} {v : α} {i : Nat} (h : xs.length = i + 1) (hv : xs[i]? = some v) : atI xs (-1) = some v := by
  have e : ixN xs.length (-1) = some i := by
    unfold ixN
    rw [h, if_neg (by decide), if_pos (by omega)]
    congr 1
    omega
  unfold atI
  rw [e]
  exact hv
section
variable {σ : L2.St} {H0 : Hp} {tt : TT} {u z : TS} {D : Ends}
/-- while: W by a number that falls, the slots and the heap -/
theorem g_whileH (W : Nat → L2.St → Hp → Prop) (m0 : Nat) (h0 : ∀ H1, Ex H0 H1 → W m0 σ H1)
    (hs : ∀ m σ' H', W m σ' H' → ∃ b, EvT tt σ' H' b ∧ (b = true → Go H' u { D with nx := fun σ2 H2 => ∃ m', m' < m ∧ W m' σ2 H2, ct := fun σ2 H2 => ∃ m', m' < m ∧ W m' σ2 H2, bk := z D } σ') ∧ (b = false → Go H' z D σ')) : Go H0 (tSeq (tWhile tt u) z) D σ := fun H e =>
  q_while W m0 (h0 H e) fun m σ' H' w => by
    obtain ⟨b, h1, h2, h3⟩ := hs m σ' H' w
    exact ⟨b, h1, fun hb H1 e1 => ⟨_, fun σ2 H2 n => n, h2 hb H1 e1⟩, fun hb H1 e1 => h3 hb H1 e1⟩
end
section
variable {σ : L2.St} {H0 : Hp} {ta tb te : TE} {D : Ends} {tz : TS}
/-- d[k] = a new list -/
theorem g_dputL1 {d : Addr} {kvs : List (Key × V)} {x : Key} {ys : List V} (hd : H0 d = some (.dK kvs)) (hv : EvL te σ H0 ys) (ho : Ev ta σ H0 (.ref d)) (hk : Ev tb σ H0 (kV x)) (hz : kvs.length < 100000)
    (k : ∀ p H2, Ex H0 H2 → H0 p = none → H2 p = some (.lst ys) → ∀ H1, Mu H2 d (.dK (putK kvs x (.ref p))) H1 → D.nx σ H1) :
    Go H0 (sDPut ta tb te) D σ := fun H e => hv H e _ fun p H1 hp e1 h1 => ho H1 (e.trans e1) _ fun H2 e2 => hk H2 ((e.trans e1).trans e2) _ fun H3 e3 =>
  have e4 := ((e.trans e1).trans e2).trans e3
  ⟨d, _, rfl, DPut.k (e4 _ _ hd) (sz_lt hz), k p H3 e4 (fresh_back e hp) (e3 _ _ (e2 _ _ h1)) _ (mu_upd H3 d _)⟩
end
theorem valV_none {kvs : List (Key × V)} {k : Key} (h : ¬ k ∈ kvs.map (·.1)) : valV kvs k = none := by
  cases e : valV kvs k with
  | none => rfl
  | some v => exact absurd (valV_in e) h
theorem put_new {kvs : List (Key × V)} {k : Key} {v : V} (h : ¬ k ∈ kvs.map (·.1)) : putK kvs k v = kvs ++ [(k, v)] := putK_new v (valV_none h)
/-- a thing that H does not know changes under the lock -/
theorem Mu.mut {H L L1 : Hp} {d C : Addr} {o u : HO} (m : Mu H d o L) (m2 : Mu L C u L1) (h : H C = none) (ne : d ≠ C) : Mu H d o L1 := ⟨m2.rest _ _ ne m.at_, fun a x ha z => m2.rest _ _ (ne_of_none z h) (m.rest a x ha z)⟩
theorem ne_obj {H : Hp} {p q : Addr} {o u : HO} (h : H p = some o) (h2 : H q = some u) (ne : o ≠ u) : p ≠ q := fun z => by
  rw [z, h2] at h
  exact ne (Option.some.inj h).symm
/-- a def that gives a new tuple -/
def SpU (sp : Sp) (vs : List V) (H : Hp) (xs : List V) : Prop := ∀ H1, Ex H H1 → ∀ Q : VK, (∀ p H2, H1 p = none → Ex H1 H2 → H2 p = some (.tup xs) → Q (.ref p) H2) → ∀ E : XK, sp vs H1 Q E
theorem eu_call {σ : L2.St} {H : Hp} {sp : Sp} {dvs vs xs : List V} {E : XK} {ta : TA} (h : EvA ta σ H vs) (hs : SpU sp (vs ++ dvs) H xs) : EvU (tCall sp dvs E ta) σ H xs := fun H1 e Q q =>
  h H1 e _ fun H2 e2 => hs H2 (e.trans e2) Q (fun p H3 hp e3 h3 => q p H3 (fresh_back e2 hp) (e2.trans e3) h3) E
/-- a text's sign from its end -/
theorem atI_back {α : Type} {l : List α} {i : Nat} {v : α} (h : l.reverse[i]? = some v) : atI l (-1 - (i : Int)) = some v := by
  have hi := (List.getElem?_eq_some_iff.mp h).1
  rw [List.length_reverse] at hi
  have e : ixN l.length (-1 - (i : Int)) = some (l.length - 1 - i) := by
    unfold ixN
    rw [if_neg (by omega), if_pos (by omega)]
    congr 1
    omega
  unfold atI
  rw [e]
  rw [List.getElem?_reverse hi] at h
  exact h
/-! ### what evaluates to something of which R holds -/
def EvX (te : TE) (σ : L2.St) (H : Hp) (R : V → Hp → Prop) : Prop := ∀ H1, Ex H H1 → ∀ Q : VK, (∀ v H2, Ex H1 H2 → R v H2 → Q v H2) → te σ H1 Q
def AvX (ta : TA) (σ : L2.St) (H : Hp) (R : List V → Hp → Prop) : Prop := ∀ H1, Ex H H1 → ∀ Q : List V → Hp → Prop, (∀ vs H2, Ex H1 H2 → R vs H2 → Q vs H2) → ta σ H1 Q
section
variable {K : PySem.W.Frag} {σ : L2.St} {H H0 : Hp} {te ta tb : TE} {tr : TA} {tz : TS} {D : Ends} {v : V} {i : Nat} {R : V → Hp → Prop} {S : List V → Hp → Prop}
theorem ex_of (h : Ev te σ H v) : EvX te σ H (fun x _ => x = v) := fun H1 e Q q => h H1 e Q fun H2 e2 => q v H2 e2 rfl
theorem ex_ofL {xs : List V} (h : EvL te σ H xs) : EvX te σ H (fun x H2 => ∃ p, x = .ref p ∧ H p = none ∧ H2 p = some (.lst xs)) := fun H1 e Q q => h H1 e Q fun p H2 hp e2 h2 => q _ H2 e2 ⟨p, rfl, fresh_back e hp, h2⟩
theorem ex_ofU {xs : List V} (h : EvU te σ H xs) : EvX te σ H (fun x H2 => ∃ p, x = .ref p ∧ H p = none ∧ H2 p = some (.tup xs)) := fun H1 e Q q => h H1 e Q fun p H2 hp e2 h2 => q _ H2 e2 ⟨p, rfl, fresh_back e hp, h2⟩
theorem EvX.mono {H' : Hp} (e : Ex H H') (h : EvX te σ H R) : EvX te σ H' R := fun H1 a Q q => h H1 (e.trans a) Q q
theorem EvX.imp {R' : V → Hp → Prop} (h : EvX te σ H R) (f : ∀ v H1, Ex H H1 → R v H1 → R' v H1) : EvX te σ H R' := fun H1 e Q q => h H1 e Q fun v H2 e2 r => q v H2 e2 (f v H2 (e.trans e2) r)
theorem ax_of {vs : List V} (h : EvA tr σ H vs) : AvX tr σ H (fun x _ => x = vs) := fun H1 e Q q => h H1 e Q fun H2 e2 => q vs H2 e2 rfl
theorem ax_nil : AvX tNil σ H (fun x _ => x = []) := fun H1 e Q q => q [] H1 (Ex.refl H1) rfl
/-- the first one's word holds on; hs: it is kept while the others are made -/
theorem ax_cons (h : EvX te σ H R) (hr : ∀ v H1, Ex H H1 → R v H1 → AvX tr σ H1 S) (up : ∀ v H1 H2, Ex H1 H2 → R v H1 → R v H2) : AvX (tCons te tr) σ H (fun x H2 => ∃ v vs, x = v :: vs ∧ R v H2 ∧ S vs H2) := fun H1 e Q q =>
  h H1 e _ fun v H2 e2 r => hr v H2 (e.trans e2) r H2 (Ex.refl H2) _ fun vs H3 e3 s => q _ H3 (e2.trans e3) ⟨v, vs, rfl, up v H2 H3 e3 r, s⟩
theorem ex_call {sp : Sp} {dvs : List V} {E : XK} (h : AvX tr σ H S) (hs : ∀ vs H1, Ex H H1 → S vs H1 → ∀ Q : VK, (∀ v H2, Ex H1 H2 → R v H2 → Q v H2) → sp (vs ++ dvs) H1 Q E) : EvX (tCall sp dvs E tr) σ H R := fun H1 e Q q =>
  h H1 e _ fun vs H2 e2 s => hs vs H2 (e.trans e2) s Q fun v H3 e3 r => q v H3 (e2.trans e3) r
theorem ex_tup (h : AvX tr σ H S) (hl : ∀ vs H1, S vs H1 → vs.length ≤ 100000) (up : ∀ vs H1 H2, Ex H1 H2 → S vs H1 → S vs H2) : EvX (tTup tr) σ H (fun x H2 => ∃ p vs, x = .ref p ∧ H p = none ∧ H2 p = some (.tup vs) ∧ S vs H2) := fun H1 e Q q =>
  h H1 e _ fun vs H2 e2 s => ⟨sz_of (hl vs H2 s), fun p hp => q _ _ (e2.trans (Ex.new hp)) ⟨p, vs, rfl, fresh_back (e.trans e2) hp, upd_same, up vs _ _ (Ex.new hp) s⟩⟩
theorem g_asgX (h : EvX te σ H0 R) (k : ∀ v H1, Ex H0 H1 → R v H1 → Go H1 tz D (σ.set i (some v))) : Go H0 (tSeq (tAsg te (gName i)) tz) D σ := fun H e => h H e _ fun v H2 e2 r => k v H2 (e.trans e2) r H2 (Ex.refl H2)
theorem g_retX (h : EvX te σ H0 R) (k : ∀ v H1, Ex H0 H1 → R v H1 → D.rt v H1) : Go H0 (tRet te) D σ := fun H e => h H e _ fun v H2 e2 r => k v H2 (e.trans e2) r
theorem g_dputX1 {d : Addr} {kvs : List (Key × V)} {x : Key} (hd : H0 d = some (.dK kvs)) (hv : EvX te σ H0 R) (up : ∀ v H1 H2, Ex H1 H2 → R v H1 → R v H2) (ho : Ev ta σ H0 (.ref d)) (hk : Ev tb σ H0 (kV x)) (hz : kvs.length < 100000)
    (k : ∀ v H2, Ex H0 H2 → R v H2 → ∀ H1, Mu H2 d (.dK (putK kvs x v)) H1 → D.nx σ H1) :
    Go H0 (sDPut ta tb te) D σ := fun H e => hv H e _ fun v H1 e1 r => ho H1 (e.trans e1) _ fun H2 e2 => hk H2 ((e.trans e1).trans e2) _ fun H3 e3 =>
  have e4 := ((e.trans e1).trans e2).trans e3
  ⟨d, _, rfl, DPut.k (e4 _ _ hd) (sz_lt hz), k v H3 e4 (up v _ _ (e2.trans e3) r) _ (mu_upd H3 d _)⟩
end
theorem nd_get {l : List Int} (h : l.Nodup) {i j : Nat} (hi : i < l.length) (hj : j < l.length) (e : l[i] = l[j]) : i = j := by
  rcases Nat.lt_trichotomy i j with c | c | c
  · exact absurd e (List.pairwise_iff_getElem.mp h i j hi hj c)
  · exact c
  · exact absurd e.symm (List.pairwise_iff_getElem.mp h j i hj hi c)
/-! ### tuples stay -/
def Ts (H H' : Hp) : Prop := ∀ a xs, H a = some (.tup xs) → H' a = some (.tup xs)
theorem Ts.of {H H' : Hp} (e : Ex H H') : Ts H H' := fun a xs h => e _ _ h
theorem Ts.mu {H H' : Hp} {p : Addr} {o u : HO} (m : Mu H p o H') (h : H p = some u) (hu : ∀ xs, u ≠ .tup xs) : Ts H H' := fun a xs h2 => m.rest _ _ (ne_obj h2 h fun z => hu xs z.symm) h2
theorem Ts.trans {H H1 H2 : Hp} (a : Ts H H1) (b : Ts H1 H2) : Ts H H2 := fun p xs h => b p xs (a p xs h)
section
variable {K : PySem.W.Frag} {σ : L2.St} {H : Hp} {te tl : TE} {R : Nat → V → Hp → Prop}
/-- [e for x in a new list], e something of which R holds -/
theorem ex_lcNL {xs : List V} {j : Nat} {vs : List Nat} (up : ∀ i v H1 H2, Ts H1 H2 → R i v H1 → R i v H2) (h : EvL tl σ H xs) (hz : xs.length ≤ 40000) (hw : ∀ x, wipe ((wipe σ vs).set j (some x)) vs = wipe σ vs)
    (he : ∀ (i : Nat) (x : V) H1, Ex H H1 → xs[i]? = some x → EvX te ((wipe σ vs).set j (some x)) H1 (R i)) :
    EvX (tLc (iList K tl) (gName j) tYes te vs) σ H (fun v H2 => ∃ p ys, v = .ref p ∧ H p = none ∧ H2 p = some (.lst ys) ∧ ys.length = xs.length ∧ ∀ i y, ys[i]? = some y → R i y H2) := fun H0 e Q q => h H0 e _ fun a H1 ha e1 hx => ⟨a, rfl, ⟨xs, sq_of hx⟩, fun Dl hD =>
  lc_list (xs := xs) (fun i H' => ∃ ys, Ex H1 H' ∧ H' Dl = some (.lst ys) ∧ ys.length = i ∧ ∀ k y, ys[k]? = some y → R k y H') ⟨[], Ex.new hD, upd_same, rfl, fun k y hy => by simp at hy⟩ (fun i H' _ p => sq_of (p.choose_spec.1 a _ hx))
    (fun i x H' hi p => ⟨hw x, by
      obtain ⟨ys, e2, h2, hl, hr⟩ := p
      show te ((wipe σ vs).set j (some x)) H' fun y H4 => ∃ acc, H4 Dl = some (.lst acc) ∧ acc.length < sizeLine ∧ ∃ ys, Ex H1 (upd H4 Dl (.lst (acc ++ [y]))) ∧ upd H4 Dl (.lst (acc ++ [y])) Dl = some (.lst ys) ∧ ys.length = i + 1 ∧ ∀ k z, ys[k]? = some z → R k z (upd H4 Dl (.lst (acc ++ [y])))
      have il := (List.getElem?_eq_some_iff.mp hi).1
      refine he i x H' ((e.trans e1).trans e2) hi H' (Ex.refl H') _ fun y H4 e4 r => ⟨ys, e4 _ _ h2, sz_lt (by omega), ys ++ [y], Ex.mut (e2.trans e4) hD, upd_same, by rw [List.length_append, hl]; rfl, fun k z hz => ?_⟩
      have ts : Ts H4 (upd H4 Dl (.lst (ys ++ [y]))) := Ts.mu (mu_upd H4 Dl _) (e4 _ _ h2) (fun xs z => by cases z)
      by_cases c : k < ys.length
      · rw [List.getElem?_append_left c] at hz
        exact up k z _ _ ((Ts.of e4).trans ts) (hr k z hz)
      · have hk : k = ys.length := by
          have := (List.getElem?_eq_some_iff.mp hz).1
          rw [List.length_append, List.length_singleton] at this
          omega
        rw [hk, List.getElem?_concat_length] at hz
        cases hz
        rw [hk, hl]
        exact up i y _ _ ts r⟩)
    (fun H' p => by
      obtain ⟨ys, e2, h2, hl, hr⟩ := p
      exact q _ H' (e1.trans e2) ⟨Dl, ys, rfl, fresh_back (e.trans e1) hD, h2, hl, hr⟩)⟩
end
/-- sorted -/
def sortI (l : List Int) : List Int := l.mergeSort (fun a b => decide (a ≤ b))
theorem sort_perm (l : List Int) : (sortI l).Perm l := List.mergeSort_perm l _
theorem sort_le (l : List Int) : (sortI l).Pairwise (· ≤ ·) := by
  have := List.pairwise_mergeSort (le := fun (a b : Int) => decide (a ≤ b)) (fun a b c h1 h2 => by simp only [decide_eq_true_eq] at *; omega) (fun a b => by simp only [Bool.or_eq_true, decide_eq_true_eq]; omega) l
  exact this.imp fun h => by simpa using h
theorem sort_one : ∀ {a b : List Int}, a.Perm b → a.Pairwise (· ≤ ·) → b.Pairwise (· ≤ ·) → a = b
  | [], b, p, _, _ => by rw [List.nil_perm.mp p]
  | x :: r, [], p, _, _ => by
    have := p.length_eq
    simp at this
  | x :: r, y :: t, p, h1, h2 => by
    obtain ⟨a1, a2⟩ := List.pairwise_cons.mp h1
    obtain ⟨b1, b2⟩ := List.pairwise_cons.mp h2
    have e : x = y := by
      have m1 : x ∈ y :: t := p.mem_iff.mp List.mem_cons_self
      have m2 : y ∈ x :: r := p.mem_iff.mpr List.mem_cons_self
      rcases List.mem_cons.mp m1 with c | c
      · exact c
      · rcases List.mem_cons.mp m2 with d | d
        · exact d.symm
        · have := b1 x c
          have := a1 y d
          omega
    subst e
    rw [sort_one (List.perm_cons x |>.mp p) a2 b2]
/-- sorted(d) -/
theorem el_sortD {σ : L2.St} {H : Hp} {ta : TA} {a : Addr} {kvs : List (Key × V)} {ks : List Int} (h : EvA ta σ H [.ref a]) (hd : Rd H a (.dK kvs)) (hk : kvs.map (·.1) = ks.map Sum.inl) (hl : ks.length < 64) :
    EvL (tCB (fun xs H Q => ∃ (a : Addr) (kvs : List (Key × V)) (ks : List Int), xs = [.ref a] ∧ Rd H a (.dK kvs) ∧ kvs.map (·.1) = ks.map Sum.inl ∧ ks.length < 64 ∧ ∀ (ys : List Int) (p : Addr), ys.Perm ks → ys.Pairwise (· ≤ ·) → H p = none → Q (.ref p) (upd H p (.lst (ys.map V.int)))) ta) σ H ((sortI ks).map V.int) := fun H1 e Q q =>
  h H1 e _ fun H2 e2 => ⟨a, kvs, ks, rfl, ex_rd (e.trans e2) hd, hk, hl, fun ys p h1 h2 hp => by
    rw [sort_one (h1.trans (sort_perm ks).symm) h2 (sort_le ks)]
    exact q p _ (fresh_back e2 hp) (e2.trans (Ex.new hp)) upd_same⟩
/-- len of a text or a tuple, as it comes -/
def rLenU (K : PySem.W.Frag) : List V → Hp → VK → Prop := fun xs H Q => (∃ z, xs = [V.str z] ∧ z.length ≤ sizeLine ∧ Q (.int z.length) H) ∨ (∃ p ys, xs = [V.ref p] ∧ (SqL K H p ys ∨ SqT K H p ys) ∧ Q (.int ys.length) H)
theorem call_lenU {X : Cx} : CallR X (.builtin "len") (rLenU X.K) := by
  intro pins s σ H xs us Q I r h
  rcases h with h | h
  · exact call_len_str pins s σ H xs us Q I r h
  · exact call_len_seq pins s σ H xs us Q I r h
theorem rc_lenU1 {K : PySem.W.Frag} {H : Hp} {l : List Nat} (hz : l.length ≤ 100000) : RC (rLenU K) [tx l] H (.int l.length) := fun H1 e Q q => .inl ((rc_lenT hz) H1 e Q q)
theorem rc_lenU2 {K : PySem.W.Frag} {H : Hp} {p : Addr} {xs : List V} (h : SqT K H p xs) : RC (rLenU K) [.ref p] H (.int xs.length) := fun H1 e Q q => .inr ((rc_lenU h) H1 e Q q)
theorem ev_opX {σ : L2.St} {H : Hp} {r : R2} {ta tb : TE} {x z : V} {R : V → Hp → Prop} (ha : Ev ta σ H x) (hb : EvX tb σ H R) (hr : ∀ y H1, Ex H H1 → R y H1 → RV r x y H1 z) : Ev (tOp r ta tb) σ H z := fun H1 e Q q =>
  ha H1 e _ fun H2 e2 => hb H2 (e.trans e2) _ fun y H3 e3 ry => hr y H3 ((e.trans e2).trans e3) ry H3 (Ex.refl H3) Q fun H4 e4 => q H4 ((e2.trans e3).trans e4)
section
variable {K : PySem.W.Frag} {σ : L2.St} {H0 : Hp} {tu : TS} {D : Ends}
/-- a for that ends a suite -/
theorem g_forR1L {ta : TA} {j : Nat} {n : Int} (h : EvA ta σ H0 [.int n]) (hn : 0 ≤ n ∧ n ≤ 100000) (Pv : Nat → L2.St → Hp → Prop) (h0 : ∀ H1, Ex H0 H1 → Pv 0 σ H1)
    (hs : ∀ (i : Nat) σ' H', (i : Int) < n → Pv i σ' H' → Go H' tu { D with nx := Pv (i + 1), ct := Pv (i + 1), bk := D.nx } (σ'.set j (some (.int (i : Int)))))
    (hd : ∀ σ' H', Pv n.toNat σ' H' → D.nx σ' H') : Go H0 (tFor (iRng1 ta) (gName j) tu) D σ := fun H e =>
  s_forR1 (fun H1 e1 => h H1 (e.trans e1)) hn Pv (fun H1 e1 => h0 H1 (e.trans e1)) (fun i σ' H' hi p => (hs i σ' H' hi p).at) hd
/-- xs.index(x) of whole numbers, x in it -/
theorem ev_index {te tx' : TE} {b : Addr} {ys : List Int} {k : Int} (ho : Ev te σ H0 (.ref b)) (hx : Ev tx' σ H0 (.int k)) (hb : SqL K H0 b (ys.map V.int)) (hk : k ∈ ys) : Ev (tBM K "list" (rIndex K) te (tCons tx' tNil)) σ H0 (.int ((ys.idxOf k : Nat) : Int)) := fun H2 e2 Q2 q2 =>
  ho H2 e2 _ fun H3 e3 => ⟨Or.inl ⟨rfl, _, ex_l (e2.trans e3) hb⟩, hx H3 (e2.trans e3) _ fun H4 e4 => ⟨b, ys.map V.int, .int k, ys.idxOf k, .int k, rfl, rfl, ex_l ((e2.trans e3).trans e4) hb, rfl, flat_ints ys,
    by rw [List.getElem?_map, List.getElem?_eq_getElem (List.idxOf_lt_length_of_mem hk), List.getElem_idxOf]; rfl,
    by show (k == k) = true; simp,
    fun m z' hm hz => by
      rw [List.getElem?_map] at hz
      obtain ⟨y, hy, rfl⟩ := Option.map_eq_some_iff.mp hz
      show (y == k) = false
      obtain ⟨h1, h2⟩ := List.getElem?_eq_some_iff.mp hy
      have := List.not_of_lt_findIdx (p := fun z => z == k) (xs := ys) hm
      rw [← h2]
      simpa using this,
    q2 H4 (e3.trans e4)⟩⟩
end
/-- (x, a new tuple) -/
theorem ex_pairU {σ : L2.St} {H : Hp} {ta tb : TE} {v : V} {xs : List V} (h1 : Ev ta σ H v) (h2 : EvU tb σ H xs) : EvX (tTup (tCons ta (tCons tb tNil))) σ H (fun x H2 => ∃ p q, x = .ref p ∧ H p = none ∧ H2 p = some (.tup [v, .ref q]) ∧ H2 q = some (.tup xs)) := fun H1 e Q k =>
  h1 H1 e _ fun H2 e2 => h2 H2 (e.trans e2) _ fun r H3 hr e3 h3 => ⟨(show 2 ≤ sizeLine by decide), fun p hp => k _ _ ((e2.trans e3).trans (Ex.new hp)) ⟨p, r, rfl, fresh_back ((e.trans e2).trans e3) hp, upd_same, Ex.new hp _ _ h3⟩⟩
section
variable {σ : L2.St} {H0 : Hp} {te ta tb : TE} {tz : TS} {D : Ends} {R : V → Hp → Prop}
theorem g_dputX {d : Addr} {kvs : List (Key × V)} {x : Key} (hd : H0 d = some (.dK kvs)) (hv : EvX te σ H0 R) (up : ∀ v H1 H2, Ex H1 H2 → R v H1 → R v H2) (ho : Ev ta σ H0 (.ref d)) (hk : Ev tb σ H0 (kV x)) (hz : kvs.length < 100000)
    (k : ∀ v H2, Ex H0 H2 → R v H2 → ∀ H1, Mu H2 d (.dK (putK kvs x v)) H1 → Go H1 tz D σ) :
    Go H0 (tSeq (sDPut ta tb te) tz) D σ := fun H e => hv H e _ fun v H1 e1 r => ho H1 (e.trans e1) _ fun H2 e2 => hk H2 ((e.trans e1).trans e2) _ fun H3 e3 =>
  have e4 := ((e.trans e1).trans e2).trans e3
  ⟨d, _, rfl, DPut.k (e4 _ _ hd) (sz_lt hz), k v H3 e4 (up v _ _ (e2.trans e3) r) _ (mu_upd H3 d _) _ (Ex.refl _)⟩
end
section
variable {K : PySem.W.Frag} {σ : L2.St} {H : Hp} {te tl : TE} {R : Nat → V → Hp → Prop}
/-- .. over a list that stands -/
theorem ex_lcL {a : Addr} {xs : List V} {j : Nat} {vs : List Nat} (up : ∀ i v H1 H2, Ts H1 H2 → R i v H1 → R i v H2) (h : Ev tl σ H (.ref a)) (hx : SqL K H a xs) (hz : xs.length ≤ 40000) (hw : ∀ x, wipe ((wipe σ vs).set j (some x)) vs = wipe σ vs)
    (he : ∀ (i : Nat) (x : V) H1, Ex H H1 → xs[i]? = some x → EvX te ((wipe σ vs).set j (some x)) H1 (R i)) :
    EvX (tLc (iList K tl) (gName j) tYes te vs) σ H (fun v H2 => ∃ p ys, v = .ref p ∧ H p = none ∧ H2 p = some (.lst ys) ∧ ys.length = xs.length ∧ ∀ i y, ys[i]? = some y → R i y H2) := fun H0 e Q q => h H0 e _ fun H1 e1 => ⟨a, rfl, ⟨xs, ex_l (e.trans e1) hx⟩, fun Dl hD =>
  lc_list (xs := xs) (fun i H' => ∃ ys, Ex H1 H' ∧ H' Dl = some (.lst ys) ∧ ys.length = i ∧ ∀ k y, ys[k]? = some y → R k y H') ⟨[], Ex.new hD, upd_same, rfl, fun k y hy => by simp at hy⟩ (fun i H' _ p => ex_l ((e.trans e1).trans p.choose_spec.1) hx)
    (fun i x H' hi p => ⟨hw x, by
      obtain ⟨ys, e2, h2, hl, hr⟩ := p
      show te ((wipe σ vs).set j (some x)) H' fun y H4 => ∃ acc, H4 Dl = some (.lst acc) ∧ acc.length < sizeLine ∧ ∃ ys, Ex H1 (upd H4 Dl (.lst (acc ++ [y]))) ∧ upd H4 Dl (.lst (acc ++ [y])) Dl = some (.lst ys) ∧ ys.length = i + 1 ∧ ∀ k z, ys[k]? = some z → R k z (upd H4 Dl (.lst (acc ++ [y])))
      have il := (List.getElem?_eq_some_iff.mp hi).1
      refine he i x H' ((e.trans e1).trans e2) hi H' (Ex.refl H') _ fun y H4 e4 r => ⟨ys, e4 _ _ h2, sz_lt (by omega), ys ++ [y], Ex.mut (e2.trans e4) hD, upd_same, by rw [List.length_append, hl]; rfl, fun k z hz => ?_⟩
      have ts : Ts H4 (upd H4 Dl (.lst (ys ++ [y]))) := Ts.mu (mu_upd H4 Dl _) (e4 _ _ h2) (fun xs z => by cases z)
      by_cases c : k < ys.length
      · rw [List.getElem?_append_left c] at hz
        exact up k z _ _ ((Ts.of e4).trans ts) (hr k z hz)
      · have hk : k = ys.length := by
          have := (List.getElem?_eq_some_iff.mp hz).1
          rw [List.length_append, List.length_singleton] at this
          omega
        rw [hk, List.getElem?_concat_length] at hz
        cases hz
        rw [hk, hl]
        exact up i y _ _ ts r⟩)
    (fun H' p => by
      obtain ⟨ys, e2, h2, hl, hr⟩ := p
      exact q _ H' (e1.trans e2) ⟨Dl, ys, rfl, fresh_back (e.trans e1) hD, h2, hl, hr⟩)⟩
end
end XG
set_option Elab.async false
set_option linter.all false
set_option maxRecDepth 100000
set_option maxHeartbeats 4000000
/-! min of a list of pairs of whole numbers -/
namespace XG
open PySem PySem.Spec PyProof.Rows L2 Evl
def pairD (p : Int × Int) : PyData := .tuple [.int p.1, .int p.2]
def ltP (p q : Int × Int) : Bool := decide (p.1 < q.1 ∨ (p.1 = q.1 ∧ p.2 < q.2))
theorem ltP_data (p q : Int × Int) : PySem.W.dataLt (pairD p) (pairD q) = ltP p q := PySem.W.dataLt_ii _ _ _ _
def minP (p : Int × Int) (ps : List (Int × Int)) : Int × Int := ps.foldl (fun a y => if ltP y a then y else a) p
theorem minP_data : ∀ (ps : List (Int × Int)) (p : Int × Int), PySem.W.minD (pairD p) (ps.map pairD) = pairD (minP p ps)
  | [], p => rfl
  | q :: r, p => by
    have ih := minP_data r
    unfold PySem.W.minD minP at ih ⊢
    rw [List.map_cons, List.foldl_cons, List.foldl_cons, ltP_data]
    cases ltP q p with
    | true => exact ih q
    | false => exact ih p
theorem minP_mem : ∀ (ps : List (Int × Int)) (p : Int × Int), minP p ps ∈ p :: ps
  | [], p => List.mem_singleton.mpr rfl
  | q :: r, p => by
    show minP (if ltP q p then q else p) r ∈ _
    have ih := minP_mem r (if ltP q p then q else p)
    rcases List.mem_cons.mp ih with h | h
    · rw [h]
      split
      · exact List.mem_cons_of_mem _ List.mem_cons_self
      · exact List.mem_cons_self
    · exact List.mem_cons_of_mem _ (List.mem_cons_of_mem _ h)
/-- none is less -/
theorem minP_least : ∀ (ps : List (Int × Int)) (p q : Int × Int), q ∈ p :: ps → (minP p ps).1 < q.1 ∨ ((minP p ps).1 = q.1 ∧ (minP p ps).2 ≤ q.2)
  | [], p, q, h => by
    rw [List.mem_singleton.mp h]
    exact .inr ⟨rfl, Int.le_refl _⟩
  | x :: r, p, q, h => by
    show (minP (if ltP x p then x else p) r).1 < q.1 ∨ ((minP (if ltP x p then x else p) r).1 = q.1 ∧ (minP (if ltP x p then x else p) r).2 ≤ q.2)
    by_cases c : ltP x p = true
    · rw [if_pos c]
      have c := of_decide_eq_true c
      rcases List.mem_cons.mp h with rfl | h
      · have := minP_least r x x List.mem_cons_self
        omega
      · exact minP_least r x q h
    · rw [if_neg c]
      have c := of_decide_eq_false (by simpa using c : ltP x p = false)
      rcases List.mem_cons.mp h with rfl | h
      · exact minP_least r q q List.mem_cons_self
      · rcases List.mem_cons.mp h with rfl | h
        · have := minP_least r p p List.mem_cons_self
          omega
        · exact minP_least r p q (List.mem_cons_of_mem _ h)
theorem alike_pairs (ps : List (Int × Int)) : PySem.W.AlikeAll (ps.map pairD) := by
  refine ⟨fun x hx y hy => ?_, fun x hx => ?_⟩
  · obtain ⟨p, _, rfl⟩ := List.mem_map.mp hx
    obtain ⟨q, _, rfl⟩ := List.mem_map.mp hy
    simp [pairD, PySem.W.alike, PySem.W.alikeAll]
  · obtain ⟨p, _, rfl⟩ := List.mem_map.mp hx
    intro z
    cases z
theorem depth_pairs : ∀ ps : List (Int × Int), PyData.depthAll (ps.map pairD) ≤ 1
  | [] => by simp [PyData.depthAll]
  | p :: r => by
    have ih := depth_pairs r
    simp only [List.map_cons, PyData.depthAll]
    have : (pairD p).depth = 1 := by simp [pairD, PyData.depth, PyData.depthAll]
    omega
/-- min(a list of pairs): the least one, as it stands -/
def rMinP (K : PySem.W.Frag) : List V → Hp → VK → Prop := fun vs H Q => ∃ (a : Addr) (xs : List V) (p : Int × Int) (ps : List (Int × Int)), vs = [V.ref a] ∧ SqL K H a xs ∧ DpAll K H xs ((p :: ps).map pairD) ∧
  ∀ (i : Nat) (v : V), xs[i]? = some v → (p :: ps)[i]? = some (minP p ps) → Q v H
theorem dpAll_get {K : PySem.W.Frag} {H : Hp} : ∀ {xs : List V} {ds : List PyData}, DpAll K H xs ds → ∀ (i : Nat) (v : V), xs[i]? = some v → ∃ d, ds[i]? = some d ∧ Dp K H v d
  | _, _, .nil, _, _, h => by simp at h
  | _, _, .cons h1 h2, 0, v, h => ⟨_, rfl, by cases Option.some.inj (show some _ = some v from h); exact h1⟩
  | _, _, .cons h1 h2, i + 1, v, h => dpAll_get h2 i v (by simpa using h)
theorem vals_back : ∀ {xs : List V} {us : List Value}, Vals xs us → ∀ (i : Nat) (u : Value), us[i]? = some u → ∃ v, xs[i]? = some v ∧ RelV v u
  | _, _, .nil, _, _, h => by simp at h
  | _, _, .cons r t, 0, u, h => ⟨_, rfl, by cases Option.some.inj (show some _ = some u from h); exact r⟩
  | _, _, .cons r t, i + 1, u, h => vals_back t i u (by simpa using h)
theorem cr_minP {X : Cx} (hc : X.calm = true) (hu : X.A.units + 64 < cLine) : CallR X (.builtin "min") (rMinP X.K) := by
  intro pins s σ H vs us Q I r h
  obtain ⟨a, xs, p, ps, rfl, hs, hd, q⟩ := h
  obtain ⟨its, rv, hl, _⟩ := I.list hs
  rw [Vals.ref1 r]
  obtain ⟨as, hr⟩ := Dp.readsAll I _ _ its hd rv
  have dp := depth_pairs (p :: ps)
  have hr' : ReadsAll s.heap its.toArray.toList (pairD p :: ps.map pairD) as := hr
  refine PySem.W.min_list_data (I.ok.hd hc) hl.isList hr' (alike_pairs (p :: ps)) (by have e : (pairD p :: ps.map pairD) = (p :: ps).map pairD := rfl; rw [e]; omega) fun i v h' tk bs hv hrd hk => ?_
  rw [minP_data] at hrd
  have hv' : its[i]? = some v := by simpa using hv
  obtain ⟨x, hx, rx⟩ := vals_back rv i v hv'
  obtain ⟨d, hd1, hd2⟩ := dpAll_get hd i x hx
  rw [List.getElem?_map] at hd1
  obtain ⟨pr, hpr, rfl⟩ := Option.map_eq_some_iff.mp hd1
  obtain ⟨as2, hr2⟩ := Dp.reads I _ _ _ hd2 rx
  have e := (Reads.unique (PySem.W.reads_keeps hk hr2) _ _ hrd).1
  have e2 : pr = minP p ps := by
    obtain ⟨a1, a2⟩ := pr
    unfold pairD at e
    injection e with e
    injection e with e1 e
    injection e with e2 _
    injection e1 with e1
    injection e2 with e2
    exact Prod.ext e1 e2
  rw [e2] at hpr
  exact ⟨x, H, I.kept hk, rx, q i x hx hpr⟩
theorem dpall_idx {K : PySem.W.Frag} {H : Hp} : ∀ {ys : List V} {ds : List PyData}, ys.length = ds.length → (∀ (i : Nat) (y : V) (d : PyData), ys[i]? = some y → ds[i]? = some d → Dp K H y d) → DpAll K H ys ds
  | [], [], _, _ => .nil
  | [], _ :: _, h, _ => by simp at h
  | _ :: _, [], h, _ => by simp at h
  | y :: ys, d :: ds, h, f => .cons (f 0 y d rfl rfl) (dpall_idx (by simpa using h) fun i y' d' h1 h2 => f (i + 1) y' d' (by rw [List.getElem?_cons_succ]; exact h1) (by rw [List.getElem?_cons_succ]; exact h2))
/-- min of a new list of new pairs -/
theorem ex_minP {K : PySem.W.Frag} {σ : L2.St} {H : Hp} {te : TE} {q0 : Int × Int} {qs : List (Int × Int)}
    (h : EvX te σ H (fun v H2 => ∃ p ys, v = .ref p ∧ H p = none ∧ H2 p = some (.lst ys) ∧ ys.length = (q0 :: qs).length ∧ ∀ (i : Nat) (y : V), ys[i]? = some y → ∀ r, (q0 :: qs)[i]? = some r → ∃ a, y = .ref a ∧ H2 a = some (.tup [.int r.1, .int r.2]))) :
    EvX (tCB (rMinP K) (tCons te tNil)) σ H (fun v H2 => ∃ a, v = .ref a ∧ H2 a = some (.tup [.int (minP q0 qs).1, .int (minP q0 qs).2])) := fun H1 e Q k =>
  h H1 e _ fun v H2 e2 hv => by
    obtain ⟨p, ys, rfl, _, hp, hl, hr⟩ := hv
    refine ⟨p, ys, q0, qs, rfl, sq_of hp, dpall_idx (by rw [hl, List.length_map]) fun i y d hy hd => ?_, fun i y hy hi => ?_⟩
    · rw [List.getElem?_map] at hd
      obtain ⟨r, hr1, rfl⟩ := Option.map_eq_some_iff.mp hd
      obtain ⟨a, rfl, ha⟩ := hr i y hy r hr1
      exact .tup (st_of ha) (.cons (.int _) (.cons (.int _) .nil))
    · obtain ⟨a, rfl, ha⟩ := hr i y hy _ hi
      exact k _ H2 e2 ⟨a, rfl, ha⟩
end XG
namespace XG
open PySem PySem.Spec PyProof.Rows L2 Evl
/-- min of a list of pairs that stands -/
theorem ex_minL {K : PySem.W.Frag} {σ : L2.St} {H : Hp} {te : TE} {a : Addr} {ys : List V} {q0 : Int × Int} {qs : List (Int × Int)} (h : Ev te σ H (.ref a)) (ha : SqL K H a ys) (hl : ys.length = (q0 :: qs).length)
    (hy : ∀ (i : Nat) (y : V) (r : Int × Int), ys[i]? = some y → (q0 :: qs)[i]? = some r → ∃ b, y = .ref b ∧ H b = some (.tup [.int r.1, .int r.2])) :
    EvX (tCB (rMinP K) (tCons te tNil)) σ H (fun v H2 => ∃ b, v = .ref b ∧ H2 b = some (.tup [.int (minP q0 qs).1, .int (minP q0 qs).2])) := fun H1 e Q k =>
  h H1 e _ fun H2 e2 => by
    have e12 := e.trans e2
    refine ⟨a, ys, q0, qs, rfl, ex_l e12 ha, dpall_idx (by rw [hl, List.length_map]) fun i y d h1 h2 => ?_, fun i v h1 h2 => ?_⟩
    · rw [List.getElem?_map] at h2
      obtain ⟨r, hr, rfl⟩ := Option.map_eq_some_iff.mp h2
      obtain ⟨b, rfl, hb⟩ := hy i y r h1 hr
      exact .tup (st_of (e12 _ _ hb)) (.cons (.int _) (.cons (.int _) .nil))
    · obtain ⟨b, rfl, hb⟩ := hy i v _ h1 h2
      exact k _ H2 e2 ⟨b, rfl, e12 _ _ hb⟩
end XG
set_option Elab.async false
set_option linter.all false
set_option maxRecDepth 100000
set_option maxHeartbeats 4000000
/-! words of our own: the values of a dict, a dict comprehension under a name -/
namespace XG
open PySem PySem.Spec PyProof.Rows L2 Evl
section
open PySem.Calls PyProof.V PySem.W
variable {prog : Program} {w : World} {A : Around} {E : Value → Shared → Prop} {s : Shared} {T : String} {r d : Addr} {n : Nat} {P : Nat → Value → Prop} {OK : Heap → Prop}
theorem max_kdl {Q : Value → Shared → Prop} (K : KdlSrc prog w T r d n P OK) (hh : A.handled = none) (hok : OK s.heap) (hn : 0 < n) (val : Nat → Int) (hval : ∀ (i : Nat) (v : Value), P i v → ∃ t : Tok, v = Value.int (val i) t)
    (h : ∀ (h' : Heap) (tk : Nat) (j : Nat) (t' : Tok), (∀ b o, s.heap.get? b = some o → h'.get? b = some o) → j < n → (∀ i, i < n → val i ≤ val j) → Q (.int (val j) t') { s with heap := h', toks := tk }) :
    wpAny (model prog w) A (call (.builtin "max") [.ref r]) Q E s := by
  refine call_max_walkS ?_
  obtain ⟨oI, St, hit, W, st⟩ := K.iter A.in1 s hh hok
  refine hit _ _ ⟨s.heap.objs.size, _, _, _, n, P, _, _, rfl, W.toS, st, fun b hb => ?_, hn, CmpOf.ints_gt val hval, fun v s' hv hm => ?_⟩
  · show b < (s.heap.push oI).objs.size
    rw [size_push']
    rcases List.mem_cons.mp hb with e | hb
    · rw [e]; exact Nat.lt_succ_self _
    · rw [List.mem_singleton.mp hb]; exact Nat.lt_succ_of_lt (K.there _ hok).2
  · have hk : ∀ b o, s.heap.get? b = some o → s'.heap.get? b = some o := fun b o e =>
      hm.heap b o (fun hI => absurd (Heap.lt_size e) (by rw [List.mem_singleton.mp hI]; exact Nat.lt_irrefl _)) (Heap.get?_push_of_some _ e)
    obtain ⟨t, rfl⟩ := hval _ v hv
    have hb := argBest_gt val (n - 1)
    rw [Moved.eq_with hm]
    exact h s'.heap s'.toks _ t hk (by omega) fun i hi => hb.2 i (by omega)
end
theorem pd_get {α β : Type} {F : α → β → Prop} : ∀ {l₁ : List α} {l₂ : List β}, Paired F l₁ l₂ → ∀ {i : Nat} {a : α} {b : β}, l₁[i]? = some a → l₂[i]? = some b → F a b
  | _, _, .nil, _, _, _, h, _ => by simp at h
  | _, _, .cons h t, 0, a, b, h1, h2 => by
    cases Option.some.inj (show some _ = some a from h1)
    cases Option.some.inj (show some _ = some b from h2)
    exact h
  | _, _, .cons h t, i + 1, a, b, h1, h2 => pd_get t (i := i) (by simpa using h1) (by simpa using h2)
/-- at q: the values of the dict at d -/
abbrev valsO (d : Addr) : Obj := { cls := .type "dict_values", data := .fields #[.ref d] }
def valsHO (q d : Addr) : HO := .ext fun h => h.get? q = some (valsO d)
def rVals : V → List V → Hp → VK → Prop := fun x vs H Q => ∃ d kvs, x = .ref d ∧ vs = [] ∧ H d = some (.dK kvs) ∧ ∀ q, H q = none → Q (.ref q) (upd H q (valsHO q d))
section
variable {X : Cx}
theorem mt_values : MtR X "dict.values" rVals := by
  intro pins s σ H x vs v us Q I rx rv h
  obtain ⟨d, kvs, rfl, rfl, hd, q⟩ := h
  cases rx
  have hus := rv.zero
  subst hus
  obtain ⟨z, lo, vs, rel, dd⟩ := dk_rd I.hok (.inl hd)
  have eb : (s.heap.push (valsO d)).get? s.heap.objs.size = some (valsO d) := Heap.get?_push_size _ rfl
  refine call_meetsIn PySem.F.slot_dict_values dd.typeIs PySem.F.entry_dict_values (PySem.F.args_dict_values_1 _) (meets_dict_values (mixKind X.prog X.w) d lo) ⟨⟨vs, dd⟩, ?_⟩
  exact ⟨.ref s.heap.objs.size, upd H s.heap.objs.size (valsHO s.heap.objs.size d),
    I.laid (t' := s.toks) (a := s.heap.objs.size) (o := valsHO s.heap.objs.size d) (h' := s.heap.push (valsO d)) (fun b u q => Heap.get?_push_of_some _ q) (Nat.le_refl _) ⟨eb, ⟨_, eb⟩, fun h1 h2 f k => k _ f⟩, rfl, q _ (I.hok.fresh (Nat.le_refl _))⟩
def rMaxV : List V → Hp → VK → Prop := fun xs H Q => ∃ (p d : Addr) (kvs : List (Key × V)) (ns : List Int), xs = [V.ref p] ∧ H p = some (valsHO p d) ∧ Rd H d (.dK kvs) ∧ kvs.map (·.2) = ns.map V.int ∧ 0 < ns.length ∧ ∀ m, m ∈ ns → (∀ y, y ∈ ns → y ≤ m) → Q (.int m) H
theorem cr_maxV (hc : X.calm = true) : CallR X (.builtin "max") rMaxV := by
  intro pins s σ H vs us Q I r h
  obtain ⟨p, d, kvs, ns, rfl, hp, hd, hv, hn, q⟩ := h
  rw [Vals.ref1 r]
  obtain ⟨z, lo, vs, rel, dd⟩ := dk_rd I.hok hd
  obtain ⟨ep, hat⟩ := dd.dictAt
  have x : ObjOk X.prog X.w H s.heap p (.ext fun h => h.get? p = some (valsO d)) := I.hok p _ hp
  have hvw : s.heap.get? p = some (valsO d) := x.1
  have len : kvs.length = ns.length := by
    have := congrArg List.length hv
    rw [List.length_map, List.length_map] at this
    exact this
  refine max_kdl (PySem.W.kdl_values (knd := mixKind X.prog X.w) (kvs := vs) (ep := ep)) (I.ok.hd hc) ⟨⟨_, hvw, rfl, rfl⟩, hat⟩ (by rw [← rel.length, len]; exact hn) (fun i => ns.getD i 0) (fun i u hu => ?_) fun h' tk j t' hk hj hall => ?_
  · obtain ⟨k, hx⟩ := hu
    have hi := (List.getElem?_eq_some_iff.mp hx).1
    rw [← rel.length] at hi
    obtain ⟨kv, hkv⟩ : ∃ kv, kvs[i]? = some kv := ⟨_, List.getElem?_eq_getElem hi⟩
    have r1 := pd_get rel hkv hx
    have e : (kvs.map (·.2))[i]? = (ns.map V.int)[i]? := by rw [hv]
    rw [List.getElem?_map, hkv, List.getElem?_map] at e
    obtain ⟨m, hm, e2⟩ := Option.map_eq_some_iff.mp e.symm
    have r2 : RelV kv.2 u := r1.2
    have e2 : V.int m = kv.2 := e2
    rw [← e2] at r2
    obtain ⟨t, rfl⟩ := r2
    exact ⟨t, by rw [List.getD_eq_getElem?_getD, hm]; rfl⟩
  · rw [← rel.length, len] at hj
    refine ⟨.int _, H, I.kept hk, ⟨_, rfl⟩, q _ ?_ fun y hy => ?_⟩
    · rw [List.getD_eq_getElem?_getD, List.getElem?_eq_getElem hj]
      exact List.getElem_mem hj
    · obtain ⟨i, hi, rfl⟩ := List.getElem_of_mem hy
      have := hall i (by rw [← rel.length, len]; exact hi)
      rw [List.getD_eq_getElem?_getD (i := i), List.getElem?_eq_getElem hi] at this
      exact this
/-- a thing just answered, locked from here on -/
def tFrz (t : TE) : TE := fun σ H Q => t σ H fun x H1 => ∃ d u, x = .ref d ∧ H1 d = some u ∧ Mut (some u) ∧ ∀ od, Q x (upd H1 d (.frz od u))
theorem pe_frz {e : Expr} {t : TE} (h : PE X e t) : PE X e (tFrz t) := by
  refine ⟨fun pins s σ H Q I hw => ?_⟩
  refine thn (h.run pins s σ _ _ I hw) fun v s1 ⟨x, H1, I1, r, d, u, ex, hd, mu, q⟩ => ?_
  obtain ⟨od, I2⟩ := I1.lock hd mu
  exact ⟨x, _, I2, r, q od⟩
/-- name = {..} on one line, the name a local -/
theorem ps_setDc {i : Nat} {y : Str} {py : Pos} {kx vx tg iter : Expr} {ifs : List Expr} {scope : Scope} {own : List (Str × Nat)} {pos spos : Pos} {wi : TI} {g : TG} {tt : TT} {tk tv : TE} (hc : X.calm = true) (hN : X.N.Nodup) (hy : X.N[i]? = some y) (hyl : X.env.scope.names.lookup y = some .local)
    (hsw : swapsWith (.DictComp kx vx [⟨tg, iter, ifs, 0⟩] scope pos) (some (.Name y py)) spos.line X.env = pure true) (hi : PI X tg iter wi) (ok : BlkOk X.N X.env.scope scope own)
    (hg : ∀ (s : Shared) (H : Hp) (C : Addr) (cl : List (Str × Addr)) (fp : List Addr), PG (X.blk s H scope (compEnvC scope cl C X.env) fp) tg g) (ht : ∀ (s : Shared) (H : Hp) (C : Addr) (cl : List (Str × Addr)) (fp : List Addr), PTs (X.blk s H scope (compEnvC scope cl C X.env) fp) ifs tt)
    (hk : ∀ (s : Shared) (H : Hp) (C : Addr) (cl : List (Str × Addr)) (fp : List Addr), PE (X.blk s H scope (compEnvC scope cl C X.env) fp) kx tk)
    (he : ∀ (s : Shared) (H : Hp) (C : Addr) (cl : List (Str × Addr)) (fp : List Addr), PE (X.blk s H scope (compEnvC scope cl C X.env) fp) vx tv) (hs : ∀ x, foldedSetIterable iter X.env x = pure x := by intro _; rfl) :
    PS X (.Assign [.Name y py] (.DictComp kx vx [⟨tg, iter, ifs, 0⟩] scope pos) spos) (tAsg (tDc wi g tt tk tv (own.map (·.2))) (gName i)) := by
  refine ⟨fun pins s σ H D I h => ?_⟩
  rw [exec_Assign_Name_used _ _ _ _ hsw]
  refine wpAny_bind (wpAny_standAt (wpAny_bind ?_))
  show wpAny _ X.A (do let _ ← comprehension (.DictComp kx vx [⟨tg, iter, ifs, 0⟩] scope pos) scope X.env (firstIterPos [⟨tg, iter, ifs, 0⟩] pos) newDict false (eval iter X.env) (some (assign (.Name y py) X.env))) _ _ s
  have h : tDc wi g tt tk tv (own.map (·.2)) σ H (fun x H1 => gName i x σ H1 D.nx) := h
  refine wpAny_bind (thn (dc_core (Qf := fun _ s' => SP X pins D .next s') hc hN I hi ok hg ht hk he hs h fun L C s' m H' I' q hn f => ?_) fun _ s' hq => wpAny_pure (wpAny_pure hq))
  show wpAny _ _ (assign (.Name y py) X.env (.ref L)) _ _ _
  refine wpAny_assign_Name (store_ok2 (v := V.ref L) I' hN hy (.inl hyl) rfl (fun s2 I2 ⟨a, sb, ha⟩ => ?_) (.inr hyl))
  obtain ⟨f0, f1, f2, f3, f4, f5⟩ := f
  have haC : C ≠ a := by
    rcases ha with z | z
    · rw [z]; exact f1
    · exact fun e => f4 y a z e.symm
  refine ⟨m, hn.sameBut sb haC, fun h3 sb3 => ?_⟩
  exact ⟨_, H', I2.turned (t' := s2.toks) (fun b o hb e => (sb3.2 b hb).trans e) f0 f1 f3 f4 f5, q⟩
theorem sw_trueD {kx vx : Expr} {gs : List Comprehension} {scope : Scope} {pos py : Pos} {y : Str} {l : Nat} {env : Env} (hk : env.scope.kind = .function) (hy : env.scope.names.lookup y = some .local) (hl : (py.line == pos.line) = true)
    (ha : (scope.names.any fun (n, k) => n == y && (k == .local || k == .cell)) = false) : swapsWith (.DictComp kx vx gs scope pos) (some (.Name y py)) l env = pure true := by
  have ky : env.kindOf y = some .local := hy
  have hb : env.blockKind = .function := by unfold Env.blockKind; rw [hk]; rfl
  unfold swapsWith
  simp only [hb, ky, ha, Expr.pos, hl]
  rfl
end
/-- a dict comprehension over it: Pv by the turn and the heap (the new dict at D within) -/
theorem dc_it {J : It} {n : Nat} {G : Hp → Prop} {Y : Nat → Hp → V → Hp → Prop} (w : Walk J n G Y) {g : TG} {tt : TT} {tk tv : TE} {vs : List Nat} {σ : L2.St} {H1 : Hp} {D : Addr} {Qd : Hp → Prop} (Pv : Nat → Hp → Prop) (h0 : Pv 0 (upd H1 D (.dK []))) (hG : ∀ i H, i ≤ n → Pv i H → G H)
    (hs : ∀ i x H H', i < n → Pv i H → Y i H x H' → g x (wipe σ vs) H' fun σ2 H2 => wipe σ2 vs = wipe σ vs ∧ tt σ2 H2 fun b H3 =>
      if b = true then tk σ2 H3 fun y H4 => tv σ2 H4 fun z H5 => ∃ kvs k, y = kV k ∧ H5 D = some (.dK kvs) ∧ kvs.length < sizeLine ∧ Pv (i + 1) (upd H5 D (.dK (putK kvs k z))) else Pv (i + 1) H3) (hd : ∀ H, Pv n H → Qd H) :
    ∃ W : Nat → Nat → Hp → Prop, (∃ m, W 0 m (upd H1 D (.dK []))) ∧ ∀ i m H, W i m H →
      (J.stop i H ∧ Qd H) ∨ (J.go i H ∧ ∃ Nx : Hp → Prop, (∀ H', Nx H' → ∃ m', m' < m ∧ W (i + 1) m' H') ∧ ∀ x H', J.yld i H x H' → g x (wipe σ vs) H' fun σ2 H2 => wipe σ2 vs = wipe σ vs ∧ tt σ2 H2 fun b H3 =>
        if b = true then tk σ2 H3 fun y H4 => tv σ2 H4 fun z H5 => ∃ kvs k, y = kV k ∧ H5 D = some (.dK kvs) ∧ kvs.length < sizeLine ∧ Nx (upd H5 D (.dK (putK kvs k z))) else Nx H3) := by
  refine ⟨fun i m H => m = n - i ∧ i ≤ n ∧ Pv i H, ⟨n, by simp, Nat.zero_le _, h0⟩, ?_⟩
  rintro i m H ⟨rfl, hi, p⟩
  have q := hG i H hi p
  by_cases hlt : i < n
  · exact .inr ⟨w.goes i H hlt q, Pv (i + 1), fun H' p' => ⟨n - (i + 1), by omega, rfl, hlt, p'⟩, fun x H' y => hs i x H H' hlt p (w.yields i H x H' hlt q y)⟩
  · have e : i = n := by omega
    subst e
    exact .inl ⟨w.stops H q, hd H p⟩
section
variable {K : PySem.W.Frag} {σ : L2.St} {H0 : Hp} {te tl ta tb tk tv : TE} {t : TT} {tu tz : TS} {D : Ends} {v : V} {i j i' : Nat} {d : Addr} {kvs : List (Key × V)}
/-- {k: [] for k in d} under a name -/
theorem g_dcNil {vs : List Nat} {ks : List Int} (hks : kvs.map (·.1) = ks.map fun n => (Sum.inl n : Key)) (nd : ks.Nodup) (hd : H0 d = some (.dK kvs)) (hl : ∀ L, Ev tl σ L (.ref d)) (hz : ks.length ≤ 40000) (hw : ∀ x, wipe ((wipe σ vs).set j (some x)) vs = wipe σ vs)
    (hk : ∀ (k : Int) H1, Ev tk ((wipe σ vs).set j (some (.int k))) H1 (.int k)) (he : ∀ (k : Int) H1, EvL tv ((wipe σ vs).set j (some (.int k))) H1 [])
    (k : ∀ (p : Addr) (ad : Int → Addr) (H1 : Hp), Ex H0 H1 → H0 p = none → H1 p = some (.dK (ks.map fun k => (Sum.inl k, .ref (ad k)))) → (∀ k ∈ ks, H0 (ad k) = none ∧ H1 (ad k) = some (.lst [])) → (∀ k k', k ∈ ks → k' ∈ ks → ad k = ad k' → k = k') → Go H1 tz D (σ.set i (some (.ref p)))) :
    Go H0 (tSeq (tLock (tAsg (tDc (iKeys tl) (gName j) tYes tk tv vs) (gName i))) tz) D σ := fun H1 e =>
  ⟨d, _, e _ _ hd, trivial, fun od => hl _ _ (Ex.refl _) _ fun H2 e2 => ⟨d, od, rfl, .inl ⟨kvs, e2 _ _ upd_same, fun p hp => by
    have ne : p ≠ d := fun z => by rw [z, e2 _ _ upd_same] at hp; cases hp
    have len : kvs.length = ks.length := by
      have := congrArg List.length hks
      rw [List.length_map, List.length_map] at this
      exact this
    have hp1 : H1 p = none := by
      have := fresh_back e2 hp
      rw [upd_ne ne] at this
      exact this
    have mu : Mu H1 d (.frz od (.dK kvs)) H2 := (ex_lock (Ex.refl H1) d _).up e2
    refine dc_it walk_keys (fun i H' => Mu H1 d (.frz od (.dK kvs)) H' ∧ ∃ ad : Int → Addr, H' p = some (.dK ((ks.take i).map fun k => (Sum.inl k, .ref (ad k)))) ∧ (∀ k ∈ ks.take i, H1 (ad k) = none ∧ ad k ≠ p ∧ ad k ≠ d ∧ H' (ad k) = some (.lst [])) ∧ (∀ k k', k ∈ ks.take i → k' ∈ ks.take i → ad k = ad k' → k = k')) ?_ ?_ ?_ ?_
    · exact ⟨mu.up (Ex.new hp), fun _ => p, upd_same, fun k hk => (by simp at hk), fun k k' hk => (by simp at hk)⟩
    · rintro i H' _ ⟨m, _⟩
      exact m.at_
    · rintro i x H' H'' hi ⟨m, ad, hD, ha, inj⟩ ⟨rfl, kk, v, hkv, rfl⟩
      obtain ⟨n, hn, rfl⟩ : ∃ n, ks[i]? = some n ∧ kk = Sum.inl n := by
        have h1 : (kvs.map (·.1))[i]? = some kk := by rw [List.getElem?_map, hkv]; rfl
        rw [hks, List.getElem?_map] at h1
        obtain ⟨n, h2, h3⟩ := Option.map_eq_some_iff.mp h1
        exact ⟨n, h2, h3.symm⟩
      have nn : n ∉ ks.take i := fun z => by
        obtain ⟨q, hq, e3⟩ := List.getElem_of_mem z
        rw [List.length_take] at hq
        rw [List.getElem_take] at e3
        obtain ⟨h4, h5⟩ := List.getElem?_eq_some_iff.mp hn
        have := nd_get nd (by omega) h4 (e3.trans h5.symm)
        omega
      refine ⟨hw _, ?_⟩
      show tYes _ _ _
      refine (show _ from ?_)
      show tk _ _ _
      refine hk n _ _ (Ex.refl _) _ fun H4 e4 => he n _ _ (Ex.refl _) _ fun a H5 ha5 e5 h5 => ⟨_, Sum.inl n, rfl, e5 _ _ (e4 _ _ hD), sz_lt (by rw [List.length_map, List.length_take]; omega), ?_⟩
      have e45 := e4.trans e5
      have m5 := m.up e45
      have haF := fresh_back e4 ha5
      have nap : a ≠ p := fun z => by rw [z, hD] at haF; cases haF
      have nad : a ≠ d := fun z => by rw [z, m.at_] at haF; cases haF
      have ha1 : H1 a = none := by
        cases hq : H1 a with
        | none => rfl
        | some o =>
          rw [m.rest a o nad hq] at haF
          cases haF
      refine ⟨m5.mut (mu_upd H5 p _) hp1 (Ne.symm ne), fun q => if q = n then a else ad q, ?_, fun q hq => ?_, fun q q' hq hq' ee => ?_⟩
      · rw [upd_same, List.take_add_one, hn, List.map_append, put_new]
        · congr 3
          · refine List.map_congr_left fun q hq => ?_
            have hne : q ≠ n := fun z => nn (by rw [← z]; exact hq)
            simp only [if_neg hne]
          · show [((Sum.inl n : Key), V.ref a)] = [(Sum.inl n, V.ref (if n = n then a else ad n))]
            rw [if_pos rfl]
        · rw [List.map_map]
          intro z
          obtain ⟨y, hy, ey⟩ := List.mem_map.mp z
          exact nn (Sum.inl.inj ey ▸ hy)
      · rw [List.take_add_one, hn] at hq
        rcases List.mem_append.mp hq with hq | hq
        · have hne : q ≠ n := fun z => nn (z ▸ hq)
          simp only [if_neg hne]
          obtain ⟨a1, a2, a3, a4⟩ := ha q hq
          exact ⟨a1, a2, a3, by rw [upd_ne a2]; exact e45 _ _ a4⟩
        · have hq : q = n := List.mem_singleton.mp hq
          simp only [if_pos hq]
          exact ⟨ha1, nap, nad, by rw [upd_ne nap]; exact h5⟩
      · rw [List.take_add_one, hn] at hq hq'
        have cs : ∀ {q}, q ∈ ks.take i ++ [n] → q = n ∨ (q ≠ n ∧ q ∈ ks.take i) := fun {q} h => by
          rcases List.mem_append.mp h with h | h
          · exact .inr ⟨fun z => nn (z ▸ h), h⟩
          · exact .inl (List.mem_singleton.mp h)
        rcases cs hq with rfl | ⟨c1, c2⟩
        · rcases cs hq' with rfl | ⟨d1, d2⟩
          · rfl
          · simp only [if_pos, if_neg d1] at ee
            have := (ha q' d2).2.2.2
            rw [← ee] at this
            rw [this] at haF
            cases haF
        · rcases cs hq' with rfl | ⟨d1, d2⟩
          · simp only [if_pos, if_neg c1] at ee
            have := (ha q c2).2.2.2
            rw [ee] at this
            rw [this] at haF
            cases haF
          · simp only [if_neg c1, if_neg d1] at ee
            exact inj q q' c2 d2 ee
    · rintro H' ⟨m, ad, hD, ha, inj⟩
      rw [len, List.take_of_length_le (Nat.le_refl _)] at hD ha inj
      refine ⟨m.at_, ?_⟩
      have ex := m.back (e _ _ hd)
      refine k p ad _ (e.trans ex) (fresh_back e hp1) (by rw [upd_ne ne]; exact hD) (fun q hq => ⟨fresh_back e (ha q hq).1, by rw [upd_ne (ha q hq).2.2.1]; exact (ha q hq).2.2.2⟩) inj _ (Ex.refl _)⟩⟩⟩
/-- for a, b in d.items() -/
theorem g_forItems (hv : ∀ L, Ev tl σ L (.ref d)) (hd : H0 d = some (.dK kvs)) (Pv : Obj → Nat → L2.St → Hp → Prop)
    (h0 : ∀ od L, Mu H0 d (.frz od (.dK kvs)) L → Pv od 0 σ L) (hG : ∀ od i σ' L, Pv od i σ' L → L d = some (.frz od (.dK kvs)))
    (up : ∀ od i σ' L L', Pv od i σ' L → Ex L L' → Pv od i σ' L')
    (hs : ∀ od i k v σ' L, kvs[i]? = some (k, v) → Pv od i σ' L → Go L tu { LkD D d (.dK kvs) od with nx := Pv od (i + 1), ct := Pv od (i + 1), bk := fun σ2 H2 => H2 d = some (.frz od (.dK kvs)) ∧ tz D σ2 (upd H2 d (.dK kvs)) } ((σ'.set j (some (kV k))).set i' (some v)))
    (hz : ∀ od σ' L, Pv od kvs.length σ' L → Go (upd L d (.dK kvs)) tz D σ') : Go H0 (tSeq (tLock (tFor (iItems tl) (gTup K 2 (gCons (gName j) (gCons (gName i') gNil))) tu)) tz) D σ := fun H e =>
  ⟨d, .dK kvs, e _ _ hd, trivial, fun od => hv _ _ (Ex.refl _) _ fun H2 e2 => ⟨d, od, kvs, rfl, e2 _ _ upd_same, for_it walk_items (Pv od) (h0 od H2 ((ex_lock e d _).up e2)) (fun i σ' L _ p => hG od i σ' L p)
    (fun i x σ' L L' hi p y => by
      obtain ⟨T, x1, x2, rfl, hT, rfl, h1, h2⟩ := y
      obtain ⟨kv, hkv, rfl⟩ := Option.map_eq_some_iff.mp h1
      have h2 : kvs[i]?.map Prod.snd = some x2 := h2
      have hkv : kvs[i]? = some kv := hkv
      rw [hkv] at h2
      obtain rfl : kv.2 = x2 := Option.some.inj h2
      have eT : Ex L (upd L T (.tup [kV kv.1, kv.2])) := Ex.new hT
      exact ⟨T, _, rfl, st_of upd_same, rfl, _, _, rfl, _, _, rfl, rfl, (hs od i kv.1 kv.2 σ' _ (by rw [hkv]) (up od i σ' L _ p eT)).at⟩)
    fun σ' L p => ⟨hG od _ σ' L p, (hz od σ' L p).at⟩⟩⟩
end
end XG
namespace XG
open PySem PySem.Spec PyProof.Rows L2 Evl
section
variable {K : PySem.W.Frag} {σ : L2.St} {H H0 : Hp} {te tl ta tb tk tv : TE} {t : TT} {tu tz : TS} {D : Ends} {v : V} {i j i' : Nat} {d : Addr} {kvs : List (Key × V)}
/-- {k: v} -/
theorem ed_one {x : Key} (hk : Ev tk σ H (kV x)) (hv : Ev tv σ H v) : EvD (tDisp [(tk, tv)]) σ H [(x, v)] := fun H1 e Q q p hp =>
  hk _ (e.trans (Ex.new hp)) _ fun H2 e2 => hv H2 ((e.trans (Ex.new hp)).trans e2) _ fun H3 e3 => ⟨(e2.trans e3) _ _ upd_same, [(x, v)], rfl, (show 1 ≤ 15 by decide), q p _ hp (Ex.mut ((Ex.new hp).trans (e2.trans e3)) hp) upd_same⟩
/-- a list's truth -/
theorem et_truthL {p : Addr} {xs : List V} (h : Ev te σ H (.ref p)) (hp : SqL K H p xs) : EvT (fun σ H Q => te σ H fun x H1 => ∃ k, TruV K x H1 k ∧ Q k H1) σ H (!xs.isEmpty) := fun H1 e Q q =>
  h H1 e _ fun H2 e2 => ⟨_, .inl ⟨xs, ex_l (e.trans e2) hp, rfl⟩, q H2 e2⟩
/-- a for that ends a suite, over a list that stands -/
theorem g_forLL {a : Addr} {xs : List V} {j : Nat} (h : Ev tl σ H0 (.ref a)) (hx : SqL K H0 a xs) (Pv : Nat → L2.St → Hp → Prop) (h0 : ∀ H1, Ex H0 H1 → Pv 0 σ H1) (hl : ∀ i σ' H', i ≤ xs.length → Pv i σ' H' → SqL K H' a xs)
    (hs : ∀ i x σ' H', xs[i]? = some x → Pv i σ' H' → Go H' tu { D with nx := Pv (i + 1), ct := Pv (i + 1), bk := D.nx } (σ'.set j (some x)))
    (hd : ∀ σ' H', Pv xs.length σ' H' → D.nx σ' H') : Go H0 (tFor (iList K tl) (gName j) tu) D σ := fun H e =>
  h H e _ fun H2 e2 => ⟨a, rfl, ⟨xs, ex_l (e.trans e2) hx⟩, for_list (xs := xs) Pv (h0 H2 (e.trans e2)) (fun i σ' H' hi p => hl i σ' H' hi p) (fun i x σ' H' hi p => (hs i x σ' H' hi p).at) hd⟩
end
end XG
namespace XG
open PySem PySem.Spec PyProof.Rows L2 Evl
section
variable {K : PySem.W.Frag} {σ : L2.St} {H H0 : Hp} {te tl ta tb tk tv : TE} {t : TT} {tu tz : TS} {D : Ends} {v : V} {i j i' : Nat} {d : Addr} {kvs : List (Key × V)}
/-- max(d.values()), d just made -/
theorem ev_maxV {x : Int} (h : EvX te σ H (fun v H2 => ∃ (p : Addr) (kvs : List (Key × V)) (ns : List Int), v = .ref p ∧ H2 p = some (.dK kvs) ∧ kvs.map (·.2) = ns.map V.int ∧ 0 < ns.length ∧ maxL ns = x)) :
    Ev (tCB rMaxV (tCons (tBM0 K "dict" rVals te) tNil)) σ H (.int x) := fun H1 e Q k =>
  h H1 e _ fun v H2 e2 ⟨p, kvs, ns, hv, h2, h3, h4, h5⟩ => by
    subst hv
    exact ⟨.inr (.inr (.inl ⟨rfl, .inl ⟨_, h2⟩⟩)), p, kvs, rfl, rfl, h2, fun q hq => ⟨q, p, kvs, ns, rfl, upd_same, .inl (by rw [upd_ne (ne_of_none h2 hq)]; exact h2), h3, h4, fun x h6 h7 => by
      rw [maxL_eq h6 h7, h5]
      exact k _ (e2.trans (Ex.new hq))⟩⟩
end
end XG
namespace XG
open PySem PySem.Spec PyProof.Rows L2 Evl
section
variable {K : PySem.W.Frag} {σ : L2.St} {H H0 : Hp} {te tl ta tb tk tv : TE} {t : TT} {tu tz : TS} {D : Ends} {v : V} {i j i' : Nat} {d : Addr} {kvs : List (Key × V)}
/-- [e for k in a new dict], e something of which R holds -/
theorem ex_lcKF {vs : List Nat} {C : List (Key × V) → Prop} {R : List (Key × V) → Nat → V → Hp → Prop} (up : ∀ kvs i v H1 H2, Ts H1 H2 → R kvs i v H1 → R kvs i v H2)
    (h : ∀ H1, Ex H H1 → EvX tl σ H1 (fun v H2 => ∃ (p : Addr) (kvs : List (Key × V)), v = .ref p ∧ H1 p = none ∧ H2 p = some (.dK kvs) ∧ C kvs)) (hz : ∀ kvs, C kvs → kvs.length ≤ 40000) (hw : ∀ x, wipe ((wipe σ vs).set j (some x)) vs = wipe σ vs)
    (he : ∀ kvs, C kvs → ∀ (i : Nat) (k : Key) (v : V) H1, Ex H H1 → kvs[i]? = some (k, v) → EvX te ((wipe σ vs).set j (some (kV k))) H1 (R kvs i)) :
    EvX (tLc (iKeys (tFrz tl)) (gName j) tYes te vs) σ H (fun v H2 => ∃ (kvs : List (Key × V)) (p : Addr) (ys : List V), C kvs ∧ v = .ref p ∧ H p = none ∧ H2 p = some (.lst ys) ∧ ys.length = kvs.length ∧ ∀ i y, ys[i]? = some y → R kvs i y H2) := fun H0 e Q q => h H0 e H0 (Ex.refl H0) _ fun v H1 e1 ⟨p, kvs, hv, hp, h1, hC⟩ => by
  subst hv
  refine ⟨p, _, rfl, h1, trivial, fun od => ⟨p, od, rfl, .inl ⟨kvs, upd_same, fun Dl hD => ?_⟩⟩⟩
  have eL : Ex H0 (upd H1 p (.frz od (.dK kvs))) := Ex.mut e1 hp
  have nDp : Dl ≠ p := fun z => by rw [z, upd_same] at hD; cases hD
  refine lc_it walk_keys (fun i H' => ∃ ys, Ex (upd H1 p (.frz od (.dK kvs))) H' ∧ H' Dl = some (.lst ys) ∧ ys.length = i ∧ ∀ k y, ys[k]? = some y → R kvs k y H') ⟨[], Ex.new hD, upd_same, rfl, fun k y hy => by simp at hy⟩ (fun i H' _ p => p.choose_spec.1 _ _ upd_same)
    (fun i x H' H'' hi p y => ?_) (fun H' p => ?_)
  · obtain ⟨rfl, k, v, hk, rfl⟩ := y
    refine ⟨hw _, ?_⟩
    obtain ⟨ys, e2, h2, hl, hr⟩ := p
    show te ((wipe σ vs).set j (some (kV k))) H'' fun y H4 => ∃ acc, H4 Dl = some (.lst acc) ∧ acc.length < sizeLine ∧ ∃ ys, Ex _ (upd H4 Dl (.lst (acc ++ [y]))) ∧ upd H4 Dl (.lst (acc ++ [y])) Dl = some (.lst ys) ∧ ys.length = i + 1 ∧ ∀ k z, ys[k]? = some z → R kvs k z (upd H4 Dl (.lst (acc ++ [y])))
    have hz := hz kvs hC
    refine he kvs hC i k v H'' ((e.trans eL).trans e2) hk H'' (Ex.refl _) _ fun y H4 e4 r => ⟨ys, e4 _ _ h2, sz_lt (by omega), ys ++ [y], Ex.mut (e2.trans e4) hD, upd_same, by rw [List.length_append, hl]; rfl, fun k z hz => ?_⟩
    have ts : Ts H4 (upd H4 Dl (.lst (ys ++ [y]))) := Ts.mu (mu_upd H4 Dl _) (e4 _ _ h2) (fun xs z => by cases z)
    by_cases c : k < ys.length
    · rw [List.getElem?_append_left c] at hz
      exact up _ k z _ _ ((Ts.of e4).trans ts) (hr k z hz)
    · have hk : k = ys.length := by
        have := (List.getElem?_eq_some_iff.mp hz).1
        rw [List.length_append, List.length_singleton] at this
        omega
      rw [hk, List.getElem?_concat_length] at hz
      cases hz
      rw [hk, hl]
      exact up _ i y _ _ ts r
  · obtain ⟨ys, e2, h2, hl, hr⟩ := p
    exact q _ H' (eL.trans e2) ⟨kvs, Dl, ys, hC, rfl, fresh_back e (fresh_back eL hD), h2, hl, hr⟩
theorem ev_opX1 {r : R2} {y z : V} {R : V → Hp → Prop} (ha : EvX ta σ H R) (hb : ∀ H1, Ev tb σ H1 y) (hr : ∀ x H1, Ex H H1 → R x H1 → RV r x y H1 z) : Ev (tOp r ta tb) σ H z := fun H1 e Q q =>
  ha H1 e _ fun x H2 e2 rx => hb H2 H2 (Ex.refl H2) _ fun H3 e3 => hr x H2 (e.trans e2) rx H3 e3 Q fun H4 e4 => q H4 ((e2.trans e3).trans e4)
end
end XG
set_option Elab.async false
set_option linter.all false
set_option maxRecDepth 100000
set_option maxHeartbeats 4000000
namespace PD
open PySem L2 XG Evl
local macro_rules | `(tactic| walk_at "sc") => `(tactic| first | omega | assumption | decide | exact ⟨by decide, by decide, by decide⟩ | (constructor <;> first | omega | assumption | decide))
local macro_rules | `(tactic| walk_at "rv") => `(tactic| first
  | with_reducible exact rv_eqT | with_reducible exact rv_neT | with_reducible exact rv_eqI | with_reducible exact rv_neI
  | ((with_reducible apply rv_addT); walk_at "sc")
  | with_reducible exact rv_I0
  | ((with_reducible apply rv_I); walk_at "sc")
  | assumption)
local macro_rules | `(tactic| walk_at "rc") => `(tactic| first
  | ((with_reducible apply rc_lenT); walk_at "sc") | ((with_reducible apply rc_lenL); assumption) | ((with_reducible apply rc_lenU); assumption) | with_reducible exact rc_max | with_reducible exact rc_min | assumption)
local macro_rules | `(tactic| walk_at "ea") => `(tactic| first
  | with_reducible exact ea_nil
  | ((with_reducible apply ea_cons); (case' h => walk_at "ev"); (case' hr => walk_at "ea")))
local macro_rules | `(tactic| walk_at "eo") => `(tactic| first
  | with_reducible exact eo_none
  | ((with_reducible apply eo_some); walk_at "ev"))
local macro_rules | `(tactic| walk_at "ev") => `(tactic| first
  | assumption
  | ((with_reducible apply ev_var); exact rfl)
  | with_reducible exact ev_c
  | ((with_reducible apply ev_op); (case' ha => walk_at "ev"); (case' hb => walk_at "ev"); (case' hr => walk_at "rv"))
  | ((with_reducible apply ev_un); (case' ha => walk_at "ev"); (case' hr => exact ru_neg))
  | ((with_reducible apply ev_sl); (case' h => walk_at "ev"); (case' h1 => walk_at "eo"); (case' h2 => walk_at "eo"); (case' hz => walk_at "sc"))
  | ((with_reducible apply ev_rev); (case' h => walk_at "ev"); (case' hz => walk_at "sc"))
  | ((with_reducible apply ev_cb); (case' h => walk_at "ea"); (case' hr => walk_at "rc"))
  | ((with_reducible apply ev_call); (case' h => walk_at "ea"); (case' hs => walk_at "call")))
local macro_rules | `(tactic| walk_at "et") => `(tactic| first
  | ((with_reducible apply et_B); walk_at "ev")
  | ((with_reducible apply et_test); walk_at "ev")
  | ((with_reducible apply et_not); walk_at "et"))
local macro_rules | `(tactic| walk_at "s0") => `(tactic| simp only [L2.start, List.map_cons, List.map_nil, List.length_cons, List.length_nil, Nat.reduceAdd, Nat.reduceSub, List.replicate_succ, List.replicate_zero, List.cons_append, List.nil_append])
local macro_rules | `(tactic| walk_at "sg") => `(tactic| try simp only [List.set_cons_zero, List.set_cons_succ])
/-- the builtins that the text calls -/
structure Bt (mg : Str → Option Value) : Prop where
  len : mg "len" = none
  range : mg "range" = none
  max : mg "max" = none
  min : mg "min" = none
  isinstance : mg "isinstance" = none
  str : mg "str" = none
  int : mg "int" = none
  bool : mg "bool" = none
  tuple : mg "tuple" = none
  enumerate : mg "enumerate" = none
  zip : mg "zip" = none
  ValueError : mg "ValueError" = none
  list : mg "list" = none
  dict : mg "dict" = none
  sorted : mg "sorted" = none
  sum : mg "sum" = none
theorem et_yes {σ : L2.St} {H : Hp} : EvT tYes σ H true := fun H1 _ Q q => q H1 (Ex.refl H1)
/-- an own class of errors, as the top has made it -/
structure XC (K : PySem.W.Frag) (mg : Str → Option Value) (x : Str) (C : Addr) : Prop where
  g : mg x = some (.ref C)
  x : PySem.W.excIn K C [.type "ValueError", .type "Exception", .type "BaseException", .type "object"] "ValueError.__new__" = true
  k : PySem.W.keepIn K (.ref C) = true
  b : PySem.W.subIn K (.ref C) (.type "BaseException") = some true
  t : PySem.W.typeIn K (.ref C) = some (.type "type")
  d : PySem.W.hasDictIn K C = true
theorem kit_own {K : PySem.W.Frag} {C : Addr} {T : String} {b : Bool} (hm : PySem.W.kitMeta T = true) (h : PySem.W.subIn K (.ref C) (.type T) = some b) : PySem.W.kitOne K (.ref C) (.type T) = some b := by
  show (if (Value.ref C == Value.type T) = true then some true else if PySem.W.kitMeta T = true then PySem.W.subIn K (.ref C) (.type T) else none) = some b
  rw [if_neg (by intro z; cases (beq_iff_eq.mp z)), if_pos hm, h]
theorem isi_lst {K : PySem.W.Frag} {H : Hp} {p : Addr} {xs : List V} {n : String} {b : Bool} (hp : H p = some (.lst xs)) (h : kitB "list" n = some b) : RC (rIsi K) [.ref p, .ty n] H (.bl b) := rc_isi (t := .type "list") (fun H1 e => .base (.lst (e p _ hp))) (kit_ty h)
/-! ### the script's cells -/
/-- the k-th cell -/
def cell (ns : List Int) (k : Int) : Int := ns.getD k.toNat 0
def spCell (K : PySem.W.Frag) : Sp := fun vs H Q _ => ∃ (a : Addr) (ns : List Int) (k : Int), vs = [.ref a, .int k] ∧ SqL K H a (ns.map V.int) ∧ 0 ≤ k ∧ RetV (.int (cell ns k)) H Q
theorem spv_cell {K : PySem.W.Frag} {H : Hp} {a : Addr} {ns : List Int} {k : Int} (h : SqL K H a (ns.map V.int)) (hk : 0 ≤ k) : SpV (spCell K) [.ref a, .int k] H (.int (cell ns k)) := spv fun H1 e Q q E => ⟨a, ns, k, rfl, ex_l e h, hk, q⟩
/-! ### a whole number -/
def spWhole : Sp := fun vs H Q _ => ∃ i : Int, vs = [.int i] ∧ RetV (.bl true) H Q
theorem spv_whole {H : Hp} {i : Int} : SpV spWhole [.int i] H (.bl true) := spv fun H1 e Q q E => ⟨i, rfl, q⟩
theorem isi_int {K : PySem.W.Frag} {H : Hp} {i : Int} {n : String} {b : Bool} (h : kitB "int" n = some b) : RC (rIsi K) [.int i, .ty n] H (.bl b) := rc_isi (t := .type "int") (fun H1 _ => .base (.int i)) (kit_ty h)
theorem isi_str {K : PySem.W.Frag} {H : Hp} {z : Str} {n : String} {b : Bool} (h : kitB "str" n = some b) : RC (rIsi K) [.str z, .ty n] H (.bl b) := rc_isi (t := .type "str") (fun H1 _ => .base (.str z)) (kit_ty h)
/-! ### a dict of bases -/
def oV : Option Int → V
  | none => .non
  | some b => .int b
/-- numbers and their bases -/
abbrev Bs := List (Int × Option Int)
def encB (m : Bs) : List (Key × V) := m.map fun kv => (Sum.inl kv.1, oV kv.2)
structure Wood (m : Bs) : Prop where
  pos : 1 ≤ m.length
  few : m.length ≤ 64
  nd : (m.map (·.1)).Nodup
  rk : ∃ rank : Int → Nat, (∀ k, rank k ≤ 64) ∧ ∀ k b, (k, some b) ∈ m → b ∈ m.map (·.1) ∧ rank b < rank k
def nmW (far step c : Int) (k : Nat) : Int := far + step * ((7 * (k : Int) + c) % 31)
theorem nmW_inj {far step c : Int} (hs : step = 1 ∨ step = 3) {j k : Nat} (hj : j < 31) (hk : k < 31) (h : nmW far step c j = nmW far step c k) : j = k := by
  unfold nmW at h
  rcases hs with rfl | rfl <;> omega
def blW (nm : Nat → Int) (ce : Nat → Int) (k : Nat) : Option Int := if k = 0 then none else if ce k % 5 = 0 then none else if ce k % 5 < 3 then some (nm (k - 1)) else some (nm (ce k / 5 % (k : Int)).toNat)
theorem blW_some {nm : Nat → Int} {ce : Nat → Int} {k : Nat} {b : Int} (h : blW nm ce k = some b) : ∃ j, j < k ∧ b = nm j := by
  unfold blW at h
  by_cases h0 : k = 0
  · rw [if_pos h0] at h
    cases h
  rw [if_neg h0] at h
  by_cases h1 : ce k % 5 = 0
  · rw [if_pos h1] at h
    cases h
  rw [if_neg h1] at h
  by_cases h2 : ce k % 5 < 3
  · rw [if_pos h2] at h
    exact ⟨k - 1, by omega, (Option.some.inj h).symm⟩
  · rw [if_neg h2] at h
    have a1 : 0 ≤ ce k / 5 % (k : Int) := Int.emod_nonneg _ (by omega)
    have a2 : ce k / 5 % (k : Int) < (k : Int) := Int.emod_lt_of_pos _ (by omega)
    exact ⟨_, by omega, (Option.some.inj h).symm⟩
theorem wood_of {n : Nat} {nm : Nat → Int} {ce : Nat → Int} {ks : List Nat} (h1 : 1 ≤ n) (h30 : n ≤ 30) (inj : ∀ j k, j < 31 → k < 31 → nm j = nm k → j = k) (hk : ks = List.range n ∨ ks = (List.range n).reverse) :
    Wood (ks.map fun k => (nm k, blW nm ce k)) := by
  have hm : ∀ k, k ∈ ks ↔ k < n := by rcases hk with rfl | rfl <;> simp
  have hl : ks.length = n := by rcases hk with rfl | rfl <;> simp
  have hn : ks.Nodup := by
    rcases hk with rfl | rfl
    · exact List.nodup_range
    · exact List.pairwise_reverse.mpr (List.Pairwise.imp Ne.symm List.nodup_range)
  refine ⟨by rw [List.length_map, hl]; exact h1, by rw [List.length_map, hl]; omega, ?_, fun x => ((List.range n).find? fun k => decide (nm k = x)).getD 0, fun x => ?_, fun x b hx => ?_⟩
  · rw [List.map_map]
    refine List.Pairwise.map _ ?_ (List.Pairwise.and_mem.mp hn)
    intro a b hab e
    exact hab.2.2 (inj a b (by have := (hm a).mp hab.1; omega) (by have := (hm b).mp hab.2.1; omega) e)
  · dsimp only
    cases e : (List.range n).find? fun k => decide (nm k = x) with
    | none => exact Nat.zero_le _
    | some k =>
      have := List.mem_of_find?_eq_some e
      rw [List.mem_range] at this
      show k ≤ 64
      omega
  · obtain ⟨k, hk1, e⟩ := List.mem_map.mp hx
    obtain ⟨e1, e2⟩ := Prod.mk.inj e
    obtain ⟨j, hj, rfl⟩ := blW_some e2
    subst e1
    have kn := (hm k).mp hk1
    have rk : ∀ i, i < n → ((List.range n).find? fun k => decide (nm k = nm i)).getD 0 = i := fun i hi => by
      cases e : (List.range n).find? fun k => decide (nm k = nm i) with
      | none =>
        have := List.find?_eq_none.mp e i (List.mem_range.mpr hi)
        simp at this
      | some q =>
        have h2 := of_decide_eq_true (List.find?_some (p := fun k => decide (nm k = nm i)) e)
        have h3 := List.mem_range.mp (List.mem_of_find?_eq_some e)
        exact inj q i (by omega) (by omega) h2
    refine ⟨?_, ?_⟩
    · rw [List.map_map]
      exact List.mem_map.mpr ⟨j, (hm j).mpr (by omega), rfl⟩
    · show ((List.range n).find? fun k => decide (nm k = nm j)).getD 0 < ((List.range n).find? fun q => decide (nm q = nm k)).getD 0
      rw [rk j (by omega), rk k kn]
      exact hj
theorem wood_put {n : Nat} {nm : Nat → Int} {bl : Nat → V} {ks : List Nat} (inj : ∀ j k, j < 31 → k < 31 → nm j = nm k → j = k) (hn : n ≤ 30) (hk : ks = List.range n ∨ ks = (List.range n).reverse) {i k : Nat} (hi : ks[i]? = some k) :
    putK ((ks.take i).map fun k => ((Sum.inl (nm k) : Key), bl k)) (Sum.inl (nm k)) (bl k) = (ks.take (i + 1)).map fun k => ((Sum.inl (nm k) : Key), bl k) := by
  have hm : ∀ k, k ∈ ks → k < n := by rcases hk with rfl | rfl <;> simp
  have nd : ks.Nodup := by
    rcases hk with rfl | rfl
    · exact List.nodup_range
    · exact List.pairwise_reverse.mpr (List.Pairwise.imp Ne.symm List.nodup_range)
  rw [putK_new, List.take_add_one, hi, List.map_append]
  · rfl
  · refine valV_none fun m => ?_
    rw [List.map_map] at m
    obtain ⟨j, hj, e⟩ := List.mem_map.mp m
    have e : nm j = nm k := Sum.inl.inj e
    have hk1 : k ∈ ks := List.mem_of_getElem? hi
    have z := inj j k (by have := hm j (List.mem_of_mem_take hj); omega) (by have := hm k hk1; omega) e
    subst z
    obtain ⟨p, hp, hp2⟩ := List.getElem_of_mem hj
    rw [List.length_take] at hp
    rw [List.getElem_take] at hp2
    have hi2 := (List.getElem?_eq_some_iff.mp hi)
    refine List.pairwise_iff_getElem.mp nd p i (by omega) hi2.1 (by omega) ?_
    rw [hp2, hi2.2]
def spWood (K : PySem.W.Frag) : Sp := fun vs H Q _ => ∃ (a : Addr) (ns : List Int), vs = [.ref a] ∧ SqL K H a (ns.map V.int) ∧ ∀ m, Wood m → ∀ p H2, H p = none → Ex H H2 → H2 p = some (.dK (encB m)) → Q (.ref p) H2
/-! ### chains -/
/-- the base of n -/
def baseB (m : Bs) (n : Int) : Option Int := match m.find? fun kv => decide (kv.1 = n) with
  | some kv => kv.2
  | none => none
def keysB (m : Bs) : List Int := m.map (·.1)
theorem val_enc {m : Bs} {n : Int} (h : n ∈ keysB m) : valV (encB m) (Sum.inl n) = some (oV (baseB m n)) := by
  unfold valV encB baseB
  rw [List.find?_map]
  have e : ((fun kv : Key × V => decide (kv.1 = Sum.inl n)) ∘ fun kv : Int × Option Int => ((Sum.inl kv.1 : Key), oV kv.2)) = fun kv : Int × Option Int => decide (kv.1 = n) := by
    funext kv
    simp only [Function.comp]
    by_cases c : kv.1 = n
    · rw [decide_eq_true c, decide_eq_true (by rw [c])]
    · rw [decide_eq_false c, decide_eq_false fun z => c (Sum.inl.inj z)]
  rw [e]
  cases f : m.find? fun kv => decide (kv.1 = n) with
  | none =>
    obtain ⟨kv, h1, h2⟩ := List.mem_map.mp h
    have := List.find?_eq_none.mp f kv h1
    rw [decide_eq_true h2] at this
    exact absurd rfl this
  | some kv => rfl
theorem base_mem {m : Bs} {n b : Int} (h : baseB m n = some b) : (n, some b) ∈ m := by
  unfold baseB at h
  cases f : m.find? fun kv => decide (kv.1 = n) with
  | none => rw [f] at h; cases h
  | some kv =>
    rw [f] at h
    have h1 := List.mem_of_find?_eq_some f
    have h2 := of_decide_eq_true (List.find?_some (p := fun kv : Int × Option Int => decide (kv.1 = n)) f)
    have h3 : kv.2 = some b := h
    rw [← h2, ← h3]
    exact h1
def chainF (m : Bs) : Nat → Int → List Int
  | 0, _ => []
  | f + 1, n => n :: match baseB m n with
    | some b => chainF m f b
    | none => []
/-- the chain of n -/
def chainB (m : Bs) (n : Int) : List Int := chainF m 65 n
section
variable {m : Bs}
theorem chainF_same {rank : Int → Nat} (hr : ∀ k b, (k, some b) ∈ m → b ∈ m.map (·.1) ∧ rank b < rank k) : ∀ (f f' : Nat) (n : Int), rank n < f → rank n < f' → chainF m f n = chainF m f' n
  | 0, _, _, h, _ => by omega
  | _, 0, _, _, h => by omega
  | f + 1, f' + 1, n, h, h' => by
    unfold chainF
    cases e : baseB m n with
    | none => rfl
    | some b =>
      have := (hr n b (base_mem e)).2
      have ih := chainF_same hr f f' b (by omega) (by omega)
      simp only [ih]
theorem chain_eq (W : Wood m) (n : Int) : chainB m n = n :: match baseB m n with
    | some b => chainB m b
    | none => [] := by
  obtain ⟨rank, h1, h2⟩ := W.rk
  show (n :: match baseB m n with
    | some b => chainF m 64 b
    | none => []) = _
  cases e : baseB m n with
  | none => rfl
  | some b =>
    have r1 := (h2 n b (base_mem e)).2
    have r2 := h1 n
    have := chainF_same h2 64 65 b (by omega) (by omega)
    show n :: chainF m 64 b = n :: chainF m 65 b
    rw [this]
theorem chain_0 (n : Int) : (chainB m n)[0]? = some n := rfl
theorem chain_next (W : Wood m) : ∀ (i : Nat) (n k : Int), (chainB m n)[i]? = some k → baseB m k = (chainB m n)[i + 1]?
  | 0, n, k, h => by
    rw [chain_0] at h
    cases h
    rw [chain_eq W n, List.getElem?_cons_succ]
    cases e : baseB m n with
    | none => rfl
    | some b => exact (chain_0 b).symm
  | i + 1, n, k, h => by
    rw [chain_eq W n, List.getElem?_cons_succ] at h ⊢
    cases e : baseB m n with
    | none =>
      rw [e] at h
      cases h
    | some b =>
      rw [e] at h
      exact chain_next W i b k h
theorem chain_mem (W : Wood m) {n : Int} (hn : n ∈ keysB m) : ∀ (i : Nat) (k : Int), (chainB m n)[i]? = some k → k ∈ keysB m
  | 0, k, h => by
    rw [chain_0] at h
    cases h
    exact hn
  | i + 1, k, h => by
    have hi : i < (chainB m n).length := by have := (List.getElem?_eq_some_iff.mp h).1; omega
    have e := chain_next W i n _ (List.getElem?_eq_getElem hi)
    rw [h] at e
    obtain ⟨rank, h1, h2⟩ := W.rk
    exact (h2 _ _ (base_mem e)).1
theorem chainF_len : ∀ (f : Nat) (n : Int), (chainF m f n).length ≤ f
  | 0, _ => Nat.le_refl _
  | f + 1, n => by
    unfold chainF
    rw [List.length_cons]
    cases baseB m n with
    | none => exact Nat.succ_le_succ (Nat.zero_le _)
    | some b => exact Nat.succ_le_succ (chainF_len f b)
theorem chain_len (n : Int) : (chainB m n).length ≤ 65 := chainF_len 65 n
theorem chain_ne (n : Int) : chainB m n ≠ [] := fun z => by
  have e := chain_0 (m := m) n
  rw [z] at e
  cases e
theorem enc_nodup (W : Wood m) : ((encB m).map (·.1)).Nodup := by
  unfold encB
  rw [List.map_map]
  have : (fun kv : Int × Option Int => ((Sum.inl kv.1 : Key), oV kv.2).1) = (fun n : Int => (Sum.inl n : Key)) ∘ fun kv : Int × Option Int => kv.1 := rfl
  show (m.map ((fun n : Int => (Sum.inl n : Key)) ∘ fun kv : Int × Option Int => kv.1)).Nodup
  rw [← List.map_map]
  exact List.Pairwise.map _ (fun a b h z => h (Sum.inl.inj z)) W.nd
theorem flat_oV : ∀ o : Option Int, flatB (oV o) = true
  | none => rfl
  | some _ => rfl
theorem enc_flat (W : Wood m) : ∀ x ∈ encB m, valV (encB m) x.1 = some x.2 ∧ flatB x.2 = true := fun x hx => ⟨valV_mem (enc_nodup W) hx, by
  obtain ⟨kv, _, rfl⟩ := List.mem_map.mp hx
  exact flat_oV _⟩
theorem enc_keys : (encB m).map (fun kv => kV kv.1) = (keysB m).map V.int := by
  unfold encB keysB
  rw [List.map_map, List.map_map]
  rfl
end
theorem key_not {m : Bs} {i : Nat} {n k : Int} (W : Wood m) (h : (chainB m n)[i]? = some k) : baseB m k = none ↔ (chainB m n).length = i + 1 := by
  rw [chain_next W i n k h, List.getElem?_eq_none_iff]
  have := (List.getElem?_eq_some_iff.mp h).1
  omega
/-- chain_of(bases, number) -/
def spChainOf : Sp := fun vs H Q _ => ∃ (d : Addr) (m : Bs) (n : Int), vs = [.ref d, .int n] ∧ Rd H d (.dK (encB m)) ∧ Wood m ∧ n ∈ keysB m ∧ RetL ((chainB m n).map V.int) H Q
theorem spl_chain {H : Hp} {d : Addr} {m : Bs} {n : Int} (h : Rd H d (.dK (encB m))) (W : Wood m) (hn : n ∈ keysB m) : SpL spChainOf [.ref d, .int n] H ((chainB m n).map V.int) := fun H1 e Q q E => ⟨d, m, n, rfl, ex_rd e h, W, hn, q⟩
def spLChain : Sp := fun vs H Q _ => ∃ (d : Addr) (m : Bs) (n : Int), vs = [.ref d, .int n] ∧ Rd H d (.dK (encB m)) ∧ Wood m ∧ n ∈ keysB m ∧ RetL ((chainB m n).map V.int) H Q
theorem spl_lchain {H : Hp} {d : Addr} {m : Bs} {n : Int} (h : Rd H d (.dK (encB m))) (W : Wood m) (hn : n ∈ keysB m) : SpL spLChain [.ref d, .int n] H ((chainB m n).map V.int) := fun H1 e Q q E => ⟨d, m, n, rfl, ex_rd e h, W, hn, q⟩
def betwF (xs ys : List Int) : Int := match xs.findIdx? fun x => decide (x ∈ ys) with
  | some k => (k : Int) + ((ys.idxOf (xs.getD k 0) : Nat) : Int)
  | none => -1
def spBetween (K : PySem.W.Frag) : Sp := fun vs H Q _ => ∃ (a b : Addr) (xs ys : List Int), vs = [.ref a, .ref b] ∧ SqL K H a (xs.map V.int) ∧ SqL K H b (ys.map V.int) ∧ xs.length ≤ 1000 ∧ RetV (.int (betwF xs ys)) H Q
theorem spv_between {K : PySem.W.Frag} {H : Hp} {a b : Addr} {xs ys : List Int} (h1 : SqL K H a (xs.map V.int)) (h2 : SqL K H b (ys.map V.int)) (hl : xs.length ≤ 1000) : SpV (spBetween K) [.ref a, .ref b] H (.int (betwF xs ys)) := spv fun H1 e Q q E => ⟨a, b, xs, ys, rfl, ex_l e h1, ex_l e h2, hl, q⟩
theorem betw_at {xs ys : List Int} {k : Nat} {x : Int} (h : ∀ j : Nat, j < k → ∀ y : Int, xs[j]? = some y → y ∉ ys) (hk : xs[k]? = some x) (hx : x ∈ ys) : betwF xs ys = (k : Int) + ((ys.idxOf x : Nat) : Int) := by
  have e : xs.findIdx? (fun x => decide (x ∈ ys)) = some k := by
    rw [List.findIdx?_eq_some_iff_getElem]
    obtain ⟨h1, h2⟩ := List.getElem?_eq_some_iff.mp hk
    refine ⟨h1, by rw [h2]; exact decide_eq_true hx, fun j hj => ?_⟩
    have := h j hj xs[j] (List.getElem?_eq_getElem (by omega))
    simpa using this
  unfold betwF
  rw [e]
  show (k : Int) + ((ys.idxOf (xs.getD k 0) : Nat) : Int) = _
  rw [List.getD_eq_getElem?_getD, hk]
  rfl
theorem betw_no {xs ys : List Int} (h : ∀ (j : Nat) (y : Int), xs[j]? = some y → y ∉ ys) : betwF xs ys = -1 := by
  have e : xs.findIdx? (fun x => decide (x ∈ ys)) = none := by
    rw [List.findIdx?_eq_none_iff]
    intro x hx
    obtain ⟨j, hj⟩ := List.getElem?_of_mem hx
    exact decide_eq_false (h j x hj)
  unfold betwF
  rw [e]
/-! ### trees, reach and middle -/
def rootB (m : Bs) (n : Int) : Int := ((chainB m n)[(chainB m n).length - 1]?).getD n
def treeB (m : Bs) (n : Int) : List Int := (keysB m).filter fun k => decide (rootB m k = rootB m n)
def reachB (m : Bs) (n : Int) : Int := maxL ((treeB m n).map fun o => betwF (chainB m n) (chainB m o))
def leastB (m : Bs) (n : Int) : Int := minL ((treeB m n).map (reachB m))
def middleB (m : Bs) (n : Int) : Int := maxL ((treeB m n).filter fun k => decide (reachB m k = leastB m n))
theorem root_at (m : Bs) (n : Int) : (chainB m n)[(chainB m n).length - 1]? = some (rootB m n) := by
  have h := List.length_pos_iff.mpr (chain_ne (m := m) n)
  unfold rootB
  rw [List.getElem?_eq_getElem (by omega)]
  rfl
theorem tree_mem {m : Bs} {n k : Int} : k ∈ treeB m n ↔ k ∈ keysB m ∧ rootB m k = rootB m n := by
  unfold treeB
  rw [List.mem_filter]
  simp
theorem tree_self {m : Bs} {n : Int} (h : n ∈ keysB m) : n ∈ treeB m n := tree_mem.mpr ⟨h, rfl⟩
theorem tree_same {m : Bs} {n k : Int} (h : k ∈ treeB m n) : treeB m k = treeB m n := by
  unfold treeB
  rw [(tree_mem.mp h).2]
theorem tree_nodup {m : Bs} (W : Wood m) (n : Int) : (treeB m n).Nodup := List.Pairwise.filter _ W.nd
theorem tree_len {m : Bs} (W : Wood m) (n : Int) : (treeB m n).length ≤ 64 := by
  have h := List.length_filter_le (fun k => decide (rootB m k = rootB m n)) (keysB m)
  have h2 := W.few
  have h3 : (keysB m).length = m.length := List.length_map ..
  unfold treeB
  omega
theorem least_mem {m : Bs} {n : Int} (h : n ∈ keysB m) : ∃ k ∈ treeB m n, reachB m k = leastB m n := by
  have := minL_mem (l := (treeB m n).map (reachB m)) fun z => by
    have := tree_self h
    rw [List.map_eq_nil_iff.mp z] at this
    cases this
  obtain ⟨k, hk, e⟩ := List.mem_map.mp this
  exact ⟨k, hk, e⟩
def spReach : Sp := fun vs H Q _ => ∃ (d : Addr) (m : Bs) (n : Int), vs = [.ref d, .int n] ∧ H d = some (.dK (encB m)) ∧ Wood m ∧ n ∈ keysB m ∧ RetV (.int (reachB m n)) H Q
theorem spv_reach {H : Hp} {d : Addr} {m : Bs} {n : Int} (h : H d = some (.dK (encB m))) (W : Wood m) (hn : n ∈ keysB m) : SpV spReach [.ref d, .int n] H (.int (reachB m n)) := fun H1 e Q q E => ⟨d, m, n, rfl, e _ _ h, W, hn, q⟩
def spMiddle : Sp := fun vs H Q _ => ∃ (d : Addr) (m : Bs) (n : Int), vs = [.ref d, .int n] ∧ H d = some (.dK (encB m)) ∧ Wood m ∧ n ∈ keysB m ∧ RetV (.int (middleB m n)) H Q
theorem spv_middle {H : Hp} {d : Addr} {m : Bs} {n : Int} (h : H d = some (.dK (encB m))) (W : Wood m) (hn : n ∈ keysB m) : SpV spMiddle [.ref d, .int n] H (.int (middleB m n)) := fun H1 e Q q E => ⟨d, m, n, rfl, e _ _ h, W, hn, q⟩
/-! ### who leans on whom: neighbours, how far one is from another -/
theorem mem_base {m : Bs} (nd : (m.map (·.1)).Nodup) {n : Int} {o : Option Int} (h : (n, o) ∈ m) : baseB m n = o := by
  unfold baseB
  cases f : m.find? fun kv => decide (kv.1 = n) with
  | none =>
    have := List.find?_eq_none.mp f _ h
    simp at this
  | some kv =>
    have h1 := List.mem_of_find?_eq_some f
    have h2 := of_decide_eq_true (List.find?_some (p := fun kv : Int × Option Int => decide (kv.1 = n)) f)
    obtain ⟨i, hi, e1⟩ := List.getElem_of_mem h
    obtain ⟨j, hj, e2⟩ := List.getElem_of_mem h1
    have e : i = j := nd_get nd (by rw [List.length_map]; exact hi) (by rw [List.length_map]; exact hj) (by rw [List.getElem_map, List.getElem_map, e1, e2, h2])
    subst e
    rw [e1] at e2
    rw [← e2]
def nbS (k : Int) (e : Int × Option Int) : List Int := match e.2 with
  | none => []
  | some b => (if e.1 = k then [b] else []) ++ (if b = k then [e.1] else [])
/-- what the list of k has behind i entries -/
def nbL (m : Bs) (i : Nat) (k : Int) : List Int := (m.take i).flatMap (nbS k)
theorem nbL_succ {m : Bs} {i : Nat} {e : Int × Option Int} (h : m[i]? = some e) (k : Int) : nbL m (i + 1) k = nbL m i k ++ nbS k e := by
  unfold nbL
  rw [List.take_add_one, h, List.flatMap_append]
  simp
theorem nbS_len (k : Int) (e : Int × Option Int) : (nbS k e).length ≤ 2 := by
  obtain ⟨x, o⟩ := e
  unfold nbS
  cases o with
  | none => exact Nat.zero_le _
  | some b =>
    simp only [List.length_append]
    split <;> split <;> simp
theorem nbL_len (m : Bs) : ∀ (i : Nat) (k : Int), (nbL m i k).length ≤ 2 * i
  | 0, k => by simp [nbL]
  | i + 1, k => by
    have ih := nbL_len m i k
    cases h : m[i]? with
    | none =>
      unfold nbL at ih ⊢
      rw [List.take_add_one, h]
      simp only [Option.toList, List.append_nil]
      omega
    | some e =>
      rw [nbL_succ h, List.length_append]
      have := nbS_len k e
      omega
def Nbr (m : Bs) (x y : Int) : Prop := baseB m x = some y ∨ baseB m y = some x
def nbA (m : Bs) (k : Int) : List Int := nbL m m.length k
theorem nbA_mem {m : Bs} (nd : (m.map (·.1)).Nodup) {k y : Int} : y ∈ nbA m k ↔ Nbr m k y := by
  unfold nbA nbL Nbr
  rw [List.take_length, List.mem_flatMap]
  constructor
  · rintro ⟨⟨x, o⟩, he, hy⟩
    cases o with
    | none => cases hy
    | some b =>
      have hb := mem_base nd he
      rcases List.mem_append.mp (show y ∈ (if x = k then [b] else []) ++ (if b = k then [x] else []) from hy) with h | h
      · split at h
        · rename_i c
          rw [List.mem_singleton.mp h, ← c]
          exact .inl hb
        · cases h
      · split at h
        · rename_i c
          rw [List.mem_singleton.mp h, ← c]
          exact .inr hb
        · cases h
  · rintro (h | h)
    · refine ⟨_, base_mem h, ?_⟩
      show y ∈ (if k = k then [y] else []) ++ (if y = k then [k] else [])
      rw [if_pos rfl]
      exact List.mem_append_left _ (List.mem_singleton.mpr rfl)
    · refine ⟨_, base_mem h, ?_⟩
      show y ∈ (if y = k then [k] else []) ++ (if k = k then [y] else [])
      rw [if_pos rfl (α := List Int)]
      exact List.mem_append_right _ (List.mem_singleton.mpr rfl)
section
variable {m : Bs}
theorem nbr_keys (W : Wood m) {x y : Int} (h : Nbr m x y) : x ∈ keysB m ∧ y ∈ keysB m := by
  obtain ⟨rank, _, h2⟩ := W.rk
  rcases h with h | h
  · exact ⟨List.mem_map.mpr ⟨_, base_mem h, rfl⟩, (h2 _ _ (base_mem h)).1⟩
  · exact ⟨(h2 _ _ (base_mem h)).1, List.mem_map.mpr ⟨_, base_mem h, rfl⟩⟩
theorem base_ne (W : Wood m) {x y : Int} (h : baseB m x = some y) : x ≠ y := by
  obtain ⟨rank, _, h2⟩ := W.rk
  have := (h2 _ _ (base_mem h)).2
  intro e
  rw [e] at this
  omega
theorem chain_down (W : Wood m) {rank : Int → Nat} (hr : ∀ k b, (k, some b) ∈ m → rank b < rank k) : ∀ (r : Nat) (n : Int), rank n ≤ r → (chainB m n).Pairwise (fun a b => rank b < rank a) ∧ ∀ x ∈ chainB m n, rank x ≤ rank n
  | r, n, h => by
    rw [chain_eq W n]
    cases e : baseB m n with
    | none => exact ⟨List.pairwise_singleton _ _, fun x hx => by rw [List.mem_singleton.mp hx]; exact Nat.le_refl _⟩
    | some b =>
      have l := hr n b (base_mem e)
      match r, h with
      | 0, h => omega
      | r + 1, h =>
        obtain ⟨h1, h2⟩ := chain_down W hr r b (by omega)
        refine ⟨List.pairwise_cons.mpr ⟨fun x hx => ?_, h1⟩, fun x hx => ?_⟩
        · have := h2 x hx
          omega
        · rcases List.mem_cons.mp hx with rfl | hx
          · exact Nat.le_refl _
          · have := h2 x hx
            omega
theorem chain_nodup (W : Wood m) (n : Int) : (chainB m n).Nodup := by
  obtain ⟨rank, _, h2⟩ := W.rk
  refine (chain_down W (fun k b h => (h2 k b h).2) (rank n) n (Nat.le_refl _)).1.imp fun {a b} h e => ?_
  rw [e] at h
  exact Nat.lt_irrefl _ h
theorem chain_drop (W : Wood m) : ∀ (i : Nat) (n k : Int), (chainB m n)[i]? = some k → chainB m k = (chainB m n).drop i
  | 0, n, k, h => by
    rw [chain_0] at h
    cases h
    rfl
  | i + 1, n, k, h => by
    have e := chain_eq W n
    cases hb : baseB m n with
    | none =>
      rw [hb] at e
      rw [e] at h
      cases h
    | some b =>
      rw [hb] at e
      rw [e] at h ⊢
      exact chain_drop W i b k (by simpa using h)
theorem chain_cons (W : Wood m) {o b : Int} (h : baseB m o = some b) : chainB m o = o :: chainB m b := by
  have e := chain_eq W o
  rw [h] at e
  exact e
theorem root_mem (n : Int) : rootB m n ∈ chainB m n := List.mem_of_getElem? (root_at m n)
theorem root_base (W : Wood m) {o b : Int} (h : baseB m o = some b) : rootB m o = rootB m b := by
  unfold rootB
  rw [chain_cons W h]
  have := List.length_pos_iff.mpr (chain_ne (m := m) b)
  rw [List.length_cons, show (chainB m b).length + 1 - 1 = ((chainB m b).length - 1) + 1 by omega, List.getElem?_cons_succ, List.getElem?_eq_getElem (by omega)]
  rfl
theorem root_nbr (W : Wood m) {x y : Int} (h : Nbr m x y) : rootB m x = rootB m y := by
  rcases h with h | h
  · exact root_base W h
  · exact (root_base W h).symm
/-- how far o is from n -/
def distB (m : Bs) (n o : Int) : Int := betwF (chainB m n) (chainB m o)
theorem first_common {xs ys : List Int} (h : ∃ z, z ∈ xs ∧ z ∈ ys) : ∃ (k : Nat) (x : Int), xs[k]? = some x ∧ x ∈ ys ∧ ∀ j : Nat, j < k → ∀ y : Int, xs[j]? = some y → y ∉ ys := by
  obtain ⟨z, h1, h2⟩ := h
  cases e : xs.findIdx? (fun x => decide (x ∈ ys)) with
  | none =>
    rw [List.findIdx?_eq_none_iff] at e
    have := e z h1
    simp only [decide_eq_false_iff_not] at this
    exact absurd h2 this
  | some k =>
    rw [List.findIdx?_eq_some_iff_getElem] at e
    obtain ⟨a1, a2, a3⟩ := e
    refine ⟨k, xs[k], List.getElem?_eq_getElem a1, of_decide_eq_true a2, fun j hj y hy => ?_⟩
    have := a3 j hj
    obtain ⟨b1, b2⟩ := List.getElem?_eq_some_iff.mp hy
    rw [b2] at this
    simpa using this
theorem dist_on (W : Wood m) {n o : Int} {i : Nat} (h : (chainB m n)[i]? = some o) : distB m n o = (i : Int) := by
  have e := chain_drop W i n o h
  have nd := chain_nodup W n
  have z : (chainB m o).idxOf o = 0 := by
    have := chain_eq W o
    rw [this]
    simp
  have r := betw_at (xs := chainB m n) (ys := chainB m o) (k := i) (x := o) (fun j hj y hy hm => ?_) h (List.mem_of_getElem? (chain_0 o))
  · unfold distB
    rw [r, z]
    omega
  · rw [e] at hm
    obtain ⟨p, hp, e2⟩ := List.getElem_of_mem hm
    rw [List.getElem_drop] at e2
    obtain ⟨b1, b2⟩ := List.getElem?_eq_some_iff.mp hy
    rw [List.length_drop] at hp
    have := nd_get nd b1 (by omega) (b2.trans e2.symm)
    omega
theorem dist_off (W : Wood m) {n o b : Int} (h : o ∉ chainB m n) (hb : baseB m o = some b) (hr : rootB m b = rootB m n) : distB m n o = distB m n b + 1 := by
  obtain ⟨k, x, h1, h2, h3⟩ := first_common (xs := chainB m n) (ys := chainB m b) ⟨rootB m n, root_mem n, hr ▸ root_mem b⟩
  have r1 := betw_at h3 h1 h2
  have e := chain_cons W hb
  have xo : o ≠ x := fun z => h (z ▸ List.mem_of_getElem? h1)
  have r2 := betw_at (xs := chainB m n) (ys := chainB m o) (k := k) (x := x) (fun j hj y hy hm => by
    rw [e] at hm
    rcases List.mem_cons.mp hm with rfl | hm
    · exact h (List.mem_of_getElem? hy)
    · exact h3 j hj y hy hm) h1 (by rw [e]; exact List.mem_cons_of_mem _ h2)
  unfold distB
  have i1 : (o :: chainB m b).idxOf x = (chainB m b).idxOf x + 1 := by
    rw [List.idxOf_cons, show (o == x) = false from by simpa using xo]
    rfl
  rw [r1, r2, e, i1]
  omega
theorem dist_self (W : Wood m) (n : Int) : distB m n n = 0 := dist_on W (chain_0 n)
theorem dist_in {n o : Int} (hr : rootB m o = rootB m n) : 0 ≤ distB m n o ∧ distB m n o ≤ 130 := by
  obtain ⟨k, x, h1, h2, h3⟩ := first_common (xs := chainB m n) (ys := chainB m o) ⟨rootB m n, root_mem n, hr ▸ root_mem o⟩
  have r1 := betw_at h3 h1 h2
  have a1 := (List.getElem?_eq_some_iff.mp h1).1
  have a2 := chain_len (m := m) n
  have a3 := chain_len (m := m) o
  have a4 := List.idxOf_lt_length_of_mem h2
  unfold distB
  rw [r1]
  omega
theorem dist_edge (W : Wood m) {n x y : Int} (hb : baseB m x = some y) (hr : rootB m y = rootB m n) : distB m n y = distB m n x + 1 ∨ distB m n x = distB m n y + 1 := by
  by_cases c : x ∈ chainB m n
  · obtain ⟨i, hi⟩ := List.getElem?_of_mem c
    have nx := chain_next W i n x hi
    rw [hb] at nx
    have h1 := dist_on W hi
    have h2 := dist_on W nx.symm
    left
    omega
  · exact .inr (dist_off W c hb hr)
theorem dist_nbr (W : Wood m) {n x y : Int} (h : Nbr m x y) (hr : rootB m x = rootB m n) : distB m n y ≤ distB m n x + 1 := by
  have ry := (root_nbr W h).symm.trans hr
  rcases h with h | h
  · have := dist_edge W h ry
    omega
  · have := dist_edge W h hr
    omega
theorem dist_prev (W : Wood m) {n o : Int} (ho : o ∈ treeB m n) (ne : o ≠ n) : ∃ x ∈ treeB m n, Nbr m x o ∧ distB m n o = distB m n x + 1 := by
  obtain ⟨ok, hr⟩ := tree_mem.mp ho
  by_cases c : o ∈ chainB m n
  · obtain ⟨i, hi⟩ := List.getElem?_of_mem c
    cases i with
    | zero =>
      rw [chain_0] at hi
      exact absurd (Option.some.inj hi).symm ne
    | succ i =>
      obtain ⟨x, hx⟩ : ∃ x, (chainB m n)[i]? = some x := ⟨_, List.getElem?_eq_getElem (by have := (List.getElem?_eq_some_iff.mp hi).1; omega)⟩
      have nx := chain_next W i n x hx
      rw [hi] at nx
      have nb : Nbr m x o := .inl nx
      refine ⟨x, tree_mem.mpr ⟨(nbr_keys W nb).1, (root_nbr W nb).trans hr⟩, nb, ?_⟩
      rw [dist_on W hi, dist_on W hx]
      omega
  · cases hb : baseB m o with
    | none =>
      have e := chain_eq W o
      rw [hb] at e
      have : rootB m o = o := by
        unfold rootB
        rw [e]
        rfl
      rw [this] at hr
      exact absurd (hr ▸ root_mem n) c
    | some b =>
      have nb : Nbr m b o := .inr hb
      have rb := (root_nbr W nb).trans hr
      exact ⟨b, tree_mem.mpr ⟨(nbr_keys W nb).1, rb⟩, nb, dist_off W c hb rb⟩
theorem tree_nbr (W : Wood m) {n x y : Int} (h : x ∈ treeB m n) (hn : Nbr m x y) : y ∈ treeB m n :=
  tree_mem.mpr ⟨(nbr_keys W hn).2, (root_nbr W hn).symm.trans (tree_mem.mp h).2⟩
end
theorem far_put {ks : List Int} {g : Int → V} (nd : ks.Nodup) {i : Nat} {k : Int} (hi : ks[i]? = some k) :
    putK ((ks.take i).map fun k => ((Sum.inl k : Key), g k)) (Sum.inl k) (g k) = (ks.take (i + 1)).map fun k => ((Sum.inl k : Key), g k) := by
  rw [put_new, List.take_add_one, hi, List.map_append]
  · rfl
  · intro m
    rw [List.map_map] at m
    obtain ⟨j, hj, e⟩ := List.mem_map.mp m
    have e : j = k := Sum.inl.inj e
    subst e
    obtain ⟨p, hp, hp2⟩ := List.getElem_of_mem hj
    rw [List.length_take] at hp
    rw [List.getElem_take] at hp2
    have hi2 := (List.getElem?_eq_some_iff.mp hi)
    refine List.pairwise_iff_getElem.mp nd p i (by omega) hi2.1 (by omega) ?_
    rw [hp2, hi2.2]
theorem far_val {ks : List Int} {g : Int → V} (nd : ks.Nodup) {k : Int} (hk : k ∈ ks) : valV (ks.map fun k => ((Sum.inl k : Key), g k)) (Sum.inl k) = some (g k) := by
  have nd' : ((ks.map fun k => ((Sum.inl k : Key), g k)).map (·.1)).Nodup := by
    rw [List.map_map]
    exact List.Pairwise.map _ (fun a b h z => h (Sum.inl.inj z)) nd
  exact valV_mem nd' (List.mem_map.mpr ⟨k, hk, rfl⟩)
/-- the neighbours stand there -/
structure NbAt (H : Hp) (p : Addr) (m : Bs) (ad : Int → Addr) : Prop where
  at_ : H p = some (.dK ((keysB m).map fun k => (Sum.inl k, .ref (ad k))))
  ls : ∀ k ∈ keysB m, H (ad k) = some (.lst ((nbA m k).map V.int))
theorem NbAt.up {H H1 : Hp} {p : Addr} {m : Bs} {ad : Int → Addr} (h : NbAt H p m ad) (e : Ex H H1) : NbAt H1 p m ad := ⟨e _ _ h.at_, fun k hk => e _ _ (h.ls k hk)⟩
def spNbs : Sp := fun vs H Q _ => ∃ (d : Addr) (m : Bs), vs = [.ref d] ∧ H d = some (.dK (encB m)) ∧ Wood m ∧ ∀ p ad H', Ex H H' → H p = none → NbAt H' p m ad → Q (.ref p) H'
/-! ### steps from one, layer by layer -/
def encI (st : List (Int × Int)) : List (Key × V) := st.map fun p => (Sum.inl p.1, .int p.2)
def ksI (st : List (Int × Int)) : List Int := st.map (·.1)
theorem encI_keys (st : List (Int × Int)) : (encI st).map (·.1) = (ksI st).map fun n => (Sum.inl n : Key) := by
  unfold encI ksI
  rw [List.map_map, List.map_map]
  rfl
theorem encI_none {st : List (Int × Int)} {k : Int} (h : k ∉ ksI st) : valV (encI st) (Sum.inl k) = none :=
  valV_none (by rw [encI_keys, List.mem_map]; rintro ⟨x, hx, e⟩; exact h (Sum.inl.inj e ▸ hx))
theorem encI_some {st : List (Int × Int)} (nd : (ksI st).Nodup) {p : Int × Int} (h : p ∈ st) : valV (encI st) (Sum.inl p.1) = some (.int p.2) := by
  refine valV_mem (x := (Sum.inl p.1, .int p.2)) ?_ (List.mem_map.mpr ⟨p, h, rfl⟩)
  rw [encI_keys]
  exact List.Pairwise.map _ (fun a b h z => h (Sum.inl.inj z)) nd
theorem encI_put {st : List (Int × Int)} {k v : Int} (h : k ∉ ksI st) : putK (encI st) (Sum.inl k) (.int v) = encI (st ++ [(k, v)]) := by
  rw [put_new]
  · unfold encI
    rw [List.map_append]
    rfl
  · rw [encI_keys, List.mem_map]
    rintro ⟨x, hx, e⟩
    exact h (Sum.inl.inj e ▸ hx)
/-- every version of n's tree, with how far it is from n -/
structure StepsOf (m : Bs) (n : Int) (st : List (Int × Int)) : Prop where
  nd : (ksI st).Nodup
  mem : ∀ k, k ∈ ksI st ↔ k ∈ treeB m n
  val : ∀ p ∈ st, p.2 = distB m n p.1
/-- all up to t are told, ls are those at t -/
structure Lay (m : Bs) (n : Int) (t : Int) (st : List (Int × Int)) (ls : List Int) : Prop where
  nd : (ksI st).Nodup
  mem : ∀ k, k ∈ ksI st ↔ k ∈ treeB m n ∧ distB m n k ≤ t
  val : ∀ p ∈ st, p.2 = distB m n p.1
  lm : ∀ k, k ∈ ls ↔ k ∈ treeB m n ∧ distB m n k = t
  few : ls.length ≤ 64
/-- within a layer: bs those told at t + 1, the neighbours of the first i of ls and the first j of the next one's are told -/
structure Mid (m : Bs) (n : Int) (t : Int) (ls : List Int) (i : Nat) (nb : List Int) (j : Nat) (st : List (Int × Int)) (bs : List Int) : Prop where
  nd : (ksI st).Nodup
  old : ∀ k ∈ treeB m n, distB m n k ≤ t → k ∈ ksI st
  sub : ∀ k ∈ ksI st, k ∈ treeB m n ∧ distB m n k ≤ t + 1
  val : ∀ p ∈ st, p.2 = distB m n p.1
  bm : ∀ k, k ∈ bs ↔ k ∈ ksI st ∧ distB m n k = t + 1
  bd : bs.Nodup
  ahead : ∀ (p : Nat) (x : Int), p < i → ls[p]? = some x → ∀ y, Nbr m x y → y ∈ ksI st
  here : ∀ (q : Nat) (y : Int), q < j → nb[q]? = some y → y ∈ ksI st
section
variable {m : Bs} {n t : Int} {st : List (Int × Int)} {ls bs nb : List Int} {i j : Nat}
theorem sub_len {l r : List Int} (nd : l.Nodup) (h : ∀ x ∈ l, x ∈ r) : l.length ≤ r.length := by
  induction l generalizing r with
  | nil => exact Nat.zero_le _
  | cons a l ih =>
    obtain ⟨n1, n2⟩ := List.nodup_cons.mp nd
    have ha := h a List.mem_cons_self
    have := ih (r := r.erase a) n2 fun x hx => (List.mem_erase_of_ne (fun z => n1 (by rw [← z]; exact hx))).mpr (h x (List.mem_cons_of_mem _ hx))
    rw [List.length_erase_of_mem ha] at this
    have := List.length_pos_of_mem ha
    rw [List.length_cons]
    omega
theorem Mid.len (W : Wood m) (M : Mid m n t ls i nb j st bs) : st.length ≤ 64 ∧ bs.length ≤ 64 := by
  have h1 := tree_len W n
  have h2 := sub_len M.nd fun k hk => (M.sub k hk).1
  have h3 := sub_len M.bd fun k hk => (M.sub k ((M.bm k).mp hk).1).1
  unfold ksI at h2
  rw [List.length_map] at h2
  omega
theorem lay_0 (W : Wood m) (hn : n ∈ keysB m) : Lay m n 0 [(n, 0)] [n] := by
  have self := tree_self hn
  have d0 := dist_self W n
  have only : ∀ k, k ∈ treeB m n → distB m n k ≤ 0 → k = n := fun k hk h => by
    by_cases c : k = n
    · exact c
    · obtain ⟨x, hx, _, e⟩ := dist_prev W hk c
      have := (dist_in (tree_mem.mp hx).2).1
      omega
  refine ⟨by show [n].Nodup; simp, fun k => ?_, fun p hp => ?_, fun k => ?_, by show 1 ≤ 64; decide⟩
  · show k ∈ [n] ↔ _
    rw [List.mem_singleton]
    exact ⟨fun e => by rw [e]; exact ⟨self, by omega⟩, fun h => only k h.1 h.2⟩
  · rw [List.mem_singleton.mp hp]
    exact d0.symm
  · rw [List.mem_singleton]
    exact ⟨fun e => by rw [e]; exact ⟨self, d0⟩, fun h => only k h.1 (by omega)⟩
theorem Lay.mid (L : Lay m n t st ls) : Mid m n t ls 0 [] 0 st [] := by
  refine ⟨L.nd, fun k hk h => (L.mem k).mpr ⟨hk, h⟩, fun k hk => ?_, L.val, fun k => ?_, List.nodup_nil, fun p x hp => absurd hp (Nat.not_lt_zero _), fun q y hq => absurd hq (Nat.not_lt_zero _)⟩
  · have := (L.mem k).mp hk
    exact ⟨this.1, by omega⟩
  · constructor
    · intro h; cases h
    · rintro ⟨h1, h2⟩
      have := ((L.mem k).mp h1).2
      omega
theorem Mid.start (M : Mid m n t ls i nb j st bs) (nb' : List Int) : Mid m n t ls i nb' 0 st bs := ⟨M.nd, M.old, M.sub, M.val, M.bm, M.bd, M.ahead, fun q y hq => absurd hq (Nat.not_lt_zero _)⟩
/-- the next neighbour is told already -/
theorem Mid.skip (M : Mid m n t ls i nb j st bs) {y : Int} (hy : nb[j]? = some y) (hk : y ∈ ksI st) : Mid m n t ls i nb (j + 1) st bs := by
  refine ⟨M.nd, M.old, M.sub, M.val, M.bm, M.bd, M.ahead, fun q z hq hz => ?_⟩
  by_cases c : q = j
  · subst c
    rw [hy] at hz
    cases hz
    exact hk
  · exact M.here q z (by omega) hz
/-- .. or is told now -/
theorem Mid.put (W : Wood m) (M : Mid m n t ls i nb j st bs) {x y : Int} (hx : x ∈ treeB m n) (dx : distB m n x = t) (hn : Nbr m x y) (hy : nb[j]? = some y) (hk : y ∉ ksI st) : Mid m n t ls i nb (j + 1) (st ++ [(y, t + 1)]) (bs ++ [y]) := by
  have yt := tree_nbr W hx hn
  have d1 := dist_nbr W hn (tree_mem.mp hx).2
  have d2 : ¬ distB m n y ≤ t := fun h => hk (M.old y yt h)
  have dy : distB m n y = t + 1 := by omega
  have ks : ∀ k, k ∈ ksI (st ++ [(y, t + 1)]) ↔ k ∈ ksI st ∨ k = y := fun k => by
    unfold ksI
    rw [List.map_append, List.mem_append]
    exact or_congr Iff.rfl List.mem_singleton
  refine ⟨?_, fun k h1 h2 => (ks k).mpr (.inl (M.old k h1 h2)), fun k h => ?_, fun p hp => ?_, fun k => ?_, nd_snoc M.bd fun z => hk ((M.bm y).mp z).1, fun p z hp hz w hw => (ks w).mpr (.inl (M.ahead p z hp hz w hw)), fun q z hq hz => ?_⟩
  · unfold ksI
    rw [List.map_append]
    exact nd_snoc M.nd hk
  · rcases (ks k).mp h with h | rfl
    · exact M.sub k h
    · exact ⟨yt, by omega⟩
  · rcases List.mem_append.mp hp with hp | hp
    · exact M.val p hp
    · rw [List.mem_singleton.mp hp]
      exact dy.symm
  · rw [List.mem_append, List.mem_singleton, M.bm k, ks k]
    constructor
    · rintro (h | rfl)
      · exact ⟨.inl h.1, h.2⟩
      · exact ⟨.inr rfl, dy⟩
    · rintro ⟨h | h, h2⟩
      · exact .inl ⟨h, h2⟩
      · exact .inr h
  · by_cases c : q = j
    · subst c
      rw [hy] at hz
      cases hz
      exact (ks y).mpr (.inr rfl)
    · exact (ks z).mpr (.inl (M.here q z (by omega) hz))
/-- all of one's neighbours are told -/
theorem Mid.next (nd : (m.map (·.1)).Nodup) {x : Int} (M : Mid m n t ls i (nbA m x) (nbA m x).length st bs) (hx : ls[i]? = some x) : Mid m n t ls (i + 1) [] 0 st bs := by
  refine ⟨M.nd, M.old, M.sub, M.val, M.bm, M.bd, fun p z hp hz w hw => ?_, fun q y hq => absurd hq (Nat.not_lt_zero _)⟩
  by_cases c : p = i
  · subst c
    rw [hx] at hz
    cases hz
    obtain ⟨q, hq⟩ := List.getElem?_of_mem ((nbA_mem nd).mpr hw)
    exact M.here q w (List.getElem?_eq_some_iff.mp hq).1 hq
  · exact M.ahead p z (by omega) hz w hw
/-- the layer is done -/
theorem Mid.lay (W : Wood m) (hl : ∀ k, k ∈ ls ↔ k ∈ treeB m n ∧ distB m n k = t) (h0 : 0 ≤ t) (M : Mid m n t ls ls.length nb j st bs) : Lay m n (t + 1) st bs := by
  have all : ∀ k ∈ treeB m n, distB m n k = t + 1 → k ∈ ksI st := fun k hk h => by
    have ne : k ≠ n := fun z => by
      rw [z, dist_self W] at h
      omega
    obtain ⟨x, hx, nb, e⟩ := dist_prev W hk ne
    obtain ⟨p, hp⟩ := List.getElem?_of_mem ((hl x).mpr ⟨hx, by omega⟩)
    exact M.ahead p x (List.getElem?_eq_some_iff.mp hp).1 hp k nb
  refine ⟨M.nd, fun k => ⟨M.sub k, fun h => ?_⟩, M.val, fun k => ?_, (M.len W).2⟩
  · by_cases c : distB m n k ≤ t
    · exact M.old k h.1 c
    · exact all k h.1 (by omega)
  · rw [M.bm k]
    exact ⟨fun h => ⟨(M.sub k h.1).1, h.2⟩, fun h => ⟨all k h.1 h.2, h.2⟩⟩
/-- no layer more -/
theorem Lay.done (W : Wood m) (L : Lay m n t st []) (h0 : 0 ≤ t) : StepsOf m n st := by
  have no : ∀ k ∈ treeB m n, distB m n k ≠ t := fun k hk h => nomatch (L.lm k).mpr ⟨hk, h⟩
  have all : ∀ (s : Nat) (k : Int), distB m n k ≤ (s : Int) → k ∈ treeB m n → distB m n k ≤ t := by
    intro s
    induction s with
    | zero => intro k h hk; omega
    | succ s ih =>
      intro k h hk
      by_cases c : k = n
      · rw [c, dist_self W]
        exact h0
      · obtain ⟨x, hx, _, e⟩ := dist_prev W hk c
        have := ih x (by omega) hx
        have := no x hx
        omega
  refine ⟨L.nd, fun k => ⟨fun h => ((L.mem k).mp h).1, fun h => (L.mem k).mpr ⟨h, ?_⟩⟩, L.val⟩
  have := (dist_in (tree_mem.mp h).2)
  exact all 130 k (by omega) h
theorem Lay.low (L : Lay m n t st ls) (hl : ls ≠ []) : t ≤ 130 := by
  obtain ⟨k, hk⟩ := List.exists_mem_of_ne_nil _ hl
  have h := (L.lm k).mp hk
  have := (dist_in (tree_mem.mp h.1).2)
  omega
end
def spSteps : Sp := fun vs H Q _ => ∃ (d : Addr) (m : Bs) (ad : Int → Addr) (n : Int), vs = [.ref d, .int n] ∧ NbAt H d m ad ∧ Wood m ∧ n ∈ keysB m ∧ ∀ p st H', Ex H H' → H p = none → H' p = some (.dK (encI st)) → StepsOf m n st → Q (.ref p) H'
def spFarthest : Sp := fun vs H Q _ => ∃ (d : Addr) (m : Bs) (ad : Int → Addr) (n : Int), vs = [.ref d, .int n] ∧ NbAt H d m ad ∧ Wood m ∧ n ∈ keysB m ∧ RetV (.int (reachB m n)) H Q
theorem spv_farthest {H : Hp} {d : Addr} {m : Bs} {ad : Int → Addr} {n : Int} (h : NbAt H d m ad) (W : Wood m) (hn : n ∈ keysB m) : SpV spFarthest [.ref d, .int n] H (.int (reachB m n)) := fun H1 e Q q E => ⟨d, m, ad, n, rfl, h.up e, W, hn, q⟩
theorem steps_max {m : Bs} {n : Int} {st : List (Int × Int)} (S : StepsOf m n st) (hn : n ∈ keysB m) {x : Int} (h1 : x ∈ st.map (·.2)) (h2 : ∀ y ∈ st.map (·.2), y ≤ x) : x = reachB m n := by
  have key : ∀ z, z ∈ st.map (·.2) ↔ z ∈ (treeB m n).map fun o => betwF (chainB m n) (chainB m o) := fun z => by
    constructor
    · intro h
      obtain ⟨p, hp, rfl⟩ := List.mem_map.mp h
      exact List.mem_map.mpr ⟨p.1, (S.mem p.1).mp (List.mem_map.mpr ⟨p, hp, rfl⟩), (S.val p hp).symm⟩
    · intro h
      obtain ⟨o, ho, rfl⟩ := List.mem_map.mp h
      obtain ⟨p, hp, rfl⟩ := List.mem_map.mp ((S.mem o).mpr ho)
      exact List.mem_map.mpr ⟨p, hp, S.val p hp⟩
  exact maxL_eq ((key x).mp h1) fun y hy => h2 y ((key y).mpr hy)
theorem steps_ne {m : Bs} {n : Int} {st : List (Int × Int)} (S : StepsOf m n st) (hn : n ∈ keysB m) : 0 < st.length := by
  have := (S.mem n).mpr (tree_self hn)
  have := List.length_pos_of_mem this
  unfold ksI at this
  rw [List.length_map] at this
  exact this
theorem mid_of {m : Bs} {n : Int} {p0 : Int × Int} {ps : List (Int × Int)} (S : StepsOf m n (p0 :: ps)) : -(minP (reachB m p0.1, -p0.1) (ps.map fun p => (reachB m p.1, -p.1))).2 = middleB m n := by
  have mm := minP_mem (ps.map fun p => (reachB m p.1, -p.1)) (reachB m p0.1, -p0.1)
  have ml := minP_least (ps.map fun p => (reachB m p.1, -p.1)) (reachB m p0.1, -p0.1)
  generalize minP (reachB m p0.1, -p0.1) (ps.map fun p => (reachB m p.1, -p.1)) = q at mm ml
  have mm : q ∈ (p0 :: ps).map fun p => (reachB m p.1, -p.1) := mm
  obtain ⟨p, hp, rfl⟩ := List.mem_map.mp mm
  have pt := (S.mem p.1).mp (List.mem_map.mpr ⟨p, hp, rfl⟩)
  have all : ∀ k ∈ treeB m n, reachB m p.1 < reachB m k ∨ (reachB m p.1 = reachB m k ∧ -p.1 ≤ -k) := fun k hk => by
    obtain ⟨r, hr, rfl⟩ := List.mem_map.mp ((S.mem k).mpr hk)
    exact ml (reachB m r.1, -r.1) (show _ ∈ (p0 :: ps).map fun p => (reachB m p.1, -p.1) from List.mem_map.mpr ⟨r, hr, rfl⟩)
  have least : reachB m p.1 = leastB m n := minL_eq (List.mem_map.mpr ⟨p.1, pt, rfl⟩) fun y hy => by
    obtain ⟨k, hk, rfl⟩ := List.mem_map.mp hy
    rcases all k hk with h | h <;> omega
  show - -p.1 = _
  rw [Int.neg_neg]
  unfold middleB
  refine maxL_eq (List.mem_filter.mpr ⟨pt, decide_eq_true least⟩) fun y hy => ?_
  obtain ⟨h1, h2⟩ := List.mem_filter.mp hy
  have h2 := of_decide_eq_true h2
  rcases all y h1 with h | h <;> omega
def spLaw (K : PySem.W.Frag) : Sp := fun vs H Q _ => ∃ (a : Addr) (ns : List Int), vs = [.ref a] ∧ SqL K H a (ns.map V.int) ∧ ns.length ≤ 63 ∧ ∀ H', Q (.bl true) H'
theorem enc_at {m : Bs} {i : Nat} {k : Key} {v : V} (h : (encB m)[i]? = some (k, v)) : ∃ x, (keysB m)[i]? = some x ∧ k = Sum.inl x := by
  unfold encB at h
  rw [List.getElem?_map] at h
  obtain ⟨kv, h1, h2⟩ := Option.map_eq_some_iff.mp h
  refine ⟨kv.1, ?_, (Prod.mk.inj h2).1.symm⟩
  unfold keysB
  rw [List.getElem?_map, h1]
  rfl
theorem enc_len (m : Bs) : (encB m).length = (keysB m).length := by unfold encB keysB; rw [List.length_map, List.length_map]
/-- the chains of these numbers, by number -/
structure Chs (m : Bs) (H : Hp) (C : Addr) (ks : List Int) (cs : List (Int × Addr)) : Prop where
  at_ : H C = some (.dK (cs.map fun p => (Sum.inl p.1, .ref p.2)))
  ks : cs.map (·.1) = ks
  ch : ∀ p ∈ cs, H p.2 = some (.lst ((chainB m p.1).map V.int))
theorem Chs.up {m : Bs} {H H1 : Hp} {C : Addr} {ks : List Int} {cs : List (Int × Addr)} (c : Chs m H C ks cs) (e : Ex H H1) : Chs m H1 C ks cs := ⟨e _ _ c.at_, c.ks, fun p hp => e _ _ (c.ch p hp)⟩
theorem Chs.get {m : Bs} {H : Hp} {C : Addr} {ks : List Int} {cs : List (Int × Addr)} (c : Chs m H C ks cs) (nd : ks.Nodup) {k : Int} (hk : k ∈ ks) : ∃ q, valV (cs.map fun p => ((Sum.inl p.1 : Key), V.ref p.2)) (Sum.inl k) = some (.ref q) ∧ H q = some (.lst ((chainB m k).map V.int)) := by
  rw [← c.ks] at hk
  obtain ⟨p, hp, rfl⟩ := List.mem_map.mp hk
  refine ⟨p.2, ?_, c.ch p hp⟩
  have nd' : ((cs.map fun p => ((Sum.inl p.1 : Key), V.ref p.2)).map (·.1)).Nodup := by
    rw [List.map_map]
    show (cs.map ((fun n : Int => (Sum.inl n : Key)) ∘ fun p : Int × Addr => p.1)).Nodup
    rw [← List.map_map, c.ks]
    exact List.Pairwise.map _ (fun a b h z => h (Sum.inl.inj z)) nd
  exact valV_mem nd' (List.mem_map.mpr ⟨p, hp, rfl⟩)
local macro_rules | `(tactic| walk_at "call") => `(tactic| first | assumption | exact spv_cell (by assumption) (by first | decide | omega) | exact spv_whole)
def top (i : Nat) : Stmt := PySem.Challenge.pw_packdelta_k05_reach_and_middle.main.body.getD i (.Pass ⟨0, 0, 0, 0⟩)
abbrev s__law_cell_at : Stmt := top 7
theorem sc__law_cell_at : FnScope ["_law_script", "_law_k"] ["_law_script", "_law_k"] (defScope s__law_cell_at) := ⟨rfl, rfl, rfl, by decide +kernel, rfl, by decide +kernel, by decide +kernel⟩
abbrev s__law_whole : Stmt := top 8
theorem sc__law_whole : FnScope ["_law_found"] ["_law_found"] (defScope s__law_whole) := ⟨rfl, rfl, rfl, by decide +kernel, rfl, by decide +kernel, by decide +kernel⟩
abbrev s__law_wood : Stmt := top 9
theorem sc__law_wood : FnScope ["_law_script", "_law_far", "_law_many", "_law_step", "_law_k", "_law_names", "_law_below", "_law_cell", "_law_order", "_law_wood_here"] ["_law_script"] (defScope s__law_wood) := ⟨rfl, rfl, rfl, by decide +kernel, rfl, by decide +kernel, by decide +kernel⟩
abbrev s__law_chain : Stmt := top 10
theorem sc__law_chain : FnScope ["_law_wood_here", "_law_number", "_law_chain_here"] ["_law_wood_here", "_law_number"] (defScope s__law_chain) := ⟨rfl, rfl, rfl, by decide +kernel, rfl, by decide +kernel, by decide +kernel⟩
abbrev s__law_between : Stmt := top 11
theorem sc__law_between : FnScope ["_law_one", "_law_other", "_law_k"] ["_law_one", "_law_other"] (defScope s__law_between) := ⟨rfl, rfl, rfl, by decide +kernel, rfl, by decide +kernel, by decide +kernel⟩
abbrev s__neighbours : Stmt := top 3
theorem sc__neighbours : FnScope ["bases", "number", "neighbours", "base"] ["bases"] (defScope s__neighbours) := ⟨rfl, rfl, rfl, by decide +kernel, rfl, by decide +kernel, by decide +kernel⟩
abbrev s__steps_from : Stmt := top 5
theorem sc__steps_from : FnScope ["neighbours", "number", "steps", "layer", "behind", "one", "other"] ["neighbours", "number"] (defScope s__steps_from) := ⟨rfl, rfl, rfl, by decide +kernel, rfl, by decide +kernel, by decide +kernel⟩
abbrev s__farthest : Stmt := top 4
theorem sc__farthest : FnScope ["neighbours", "number"] ["neighbours", "number"] (defScope s__farthest) := ⟨rfl, rfl, rfl, by decide +kernel, rfl, by decide +kernel, by decide +kernel⟩
abbrev s_reach : Stmt := top 1
theorem sc_reach : FnScope ["bases", "number"] ["bases", "number"] (defScope s_reach) := ⟨rfl, rfl, rfl, by decide +kernel, rfl, by decide +kernel, by decide +kernel⟩
abbrev s_middle : Stmt := top 2
theorem sc_middle : FnScope ["bases", "number", "neighbours", "ranks", "one"] ["bases", "number"] (defScope s_middle) := ⟨rfl, rfl, rfl, by decide +kernel, rfl, by decide +kernel, by decide +kernel⟩
abbrev s_law : Stmt := top 12
theorem sc_law : FnScope ["_law_script", "_law_wood_here", "_law_names", "_law_number", "_law_chains", "_law_one", "_law_tree", "_law_far", "_law_least", "_law_handed", "_law_found", "_law_best", "_law_other"] ["_law_script"] (defScope s_law) := ⟨rfl, rfl, rfl, by decide +kernel, rfl, by decide +kernel, by decide +kernel⟩
section
variable {P : Program} {w : World} {K : PySem.W.Frag} {mg : Str → Option Value} {base : Heap}
theorem ok_cell {f : Addr} {fd : FuncData} (F : Fun K "_law_cell_at" "_law_cell_at" s__law_cell_at f fd) (B : Bt mg) : FnOk P w K mg base CX0 1 f fd ["_law_script", "_law_k"] (spCell K) := by
  refine F.ok sc__law_cell_at (fun vs H Q E h => ?_) (fun cdv A outer s H vs Q E hr h => ?_)
  · obtain ⟨a, ns, k, rfl, _⟩ := h
    rfl
  · obtain ⟨a, ns, k, rfl, hs, hk, q⟩ := h
    refine ⟨_, (pss_cons (ps_if (pt_cmpR op_lt (pv 1) (pe_callB call_len_seq (by rfl) B.len PySem.boot_len (pa_cons (pv 0) pa_nil)) (nomark _)) (pss_one (ps_ret (pe_ix ix_list (pv 0) (pv 1) (fun _ _ => rfl)))) pss_nil)
  (pss_one (ps_ret pe_int))), ?_⟩
    try dsimp only [cxOf, Cx.nox]
    refine Go.at (g_when (b := decide (k < ns.length)) ?_ (fun hb => ?_) fun hb => ?_)
    · refine et_is (a := decide (k < ((ns.map V.int).length : Int))) ?_ (by rw [List.length_map])
      walk_at "et"
    · have hb := of_decide_eq_true hb
      refine g_ret (v := .int (cell ns k)) ?_ q
      refine ev_op (ev_var rfl) (ev_var rfl) (rv_ixL hs ?_)
      rw [show k = ((k.toNat : Nat) : Int) by omega]
      refine atI_nat ?_
      rw [List.getElem?_map, cell, List.getD_eq_getElem?_getD, List.getElem?_eq_getElem (show k.toNat < ns.length by omega)]
      simp only [Int.toNat_natCast, List.getElem?_eq_getElem (show k.toNat < ns.length by omega)]
      rfl
    · have hb := of_decide_eq_false hb
      refine g_ret ev_c fun H1 e1 => ?_
      have z : cell ns k = 0 := by rw [cell, List.getD_eq_getElem?_getD, List.getElem?_eq_none (by omega)]; rfl
      have g := q H1 e1
      rw [z] at g
      exact g
theorem ok_whole {f : Addr} {fd : FuncData} (F : Fun K "_law_whole" "_law_whole" s__law_whole f fd) (B : Bt mg) : FnOk P w K mg base CX0 1 f fd ["_law_found"] spWhole := by
  refine F.ok sc__law_whole (fun vs H Q E h => ?_) (fun cdv A outer s H vs Q E hr h => ?_)
  · obtain ⟨i, rfl, _⟩ := h
    rfl
  · obtain ⟨i, rfl, q⟩ := h
    refine ⟨_, (pss_one (ps_ret (pe_and (pe_callB call_isi (by rfl) B.isinstance (by decide +kernel) (pa_cons (pv 0) (pa_cons (pe_bltn (v := .ty "int") (by rfl) B.int (by decide +kernel) rfl) pa_nil))) (pe_one (pe_not (pe_callB call_isi (by rfl) B.isinstance (by decide +kernel) (pa_cons (pv 0) (pa_cons (pe_bltn (v := .ty "bool") (by rfl) B.bool (by decide +kernel) rfl) pa_nil)))))))), ?_⟩
    try dsimp only [cxOf, Cx.nox]
    refine Go.at (g_ret (v := .bl (true && !false)) (ev_andV (ev_cb (ea_cons (ev_var rfl) (ea_cons ev_c ea_nil)) (isi_int (by decide +kernel))) fun _ => ev_notV (ev_cb (ea_cons (ev_var rfl) (ea_cons ev_c ea_nil)) (isi_int (by decide +kernel)))) q)
theorem ok_wood {f : Addr} {fd : FuncData} (F : Fun K "_law_wood" "_law_wood" s__law_wood f fd) (B : Bt mg) {f1 : Addr} {fd1 : FuncData} (C__law_cell_at : Cal P w K mg base CX0 1 "_law_cell_at" ["_law_script", "_law_k"] (spCell K) f1 fd1) : FnOk P w K mg base CX0 2 f fd ["_law_script"] (spWood K) := by
  refine F.ok sc__law_wood (fun vs H Q E h => ?_) (fun cdv A outer s H vs Q E hr h => ?_)
  · obtain ⟨a, ns, rfl, _⟩ := h
    rfl
  · obtain ⟨a, ns, rfl, hs, q⟩ := h
    have hu := hu_of hr
    refine ⟨_, (pss_cons (ps_set (i := 1) sc__law_wood.nd rfl (Or.inr rfl) (pe_ix ix_list (pe_lst (pa_cons pe_int (pa_cons pe_int (pa_cons pe_int (pa_cons (pe_op op_pow pe_int pe_int) pa_nil))))) (pe_op op_mod (pe_op op_fdiv (pe_cal C__law_cell_at (hr.mono (by decide)) (pa_cons (pv 0) (pa_cons pe_int pa_nil))) pe_int) pe_int) (fun _ _ => rfl)))
  (pss_cons (ps_set (i := 2) sc__law_wood.nd rfl (Or.inl rfl) (pe_op op_add pe_int (pe_op op_mod (pe_cal C__law_cell_at (hr.mono (by decide)) (pa_cons (pv 0) (pa_cons pe_int pa_nil))) pe_int)))
  (pss_cons (ps_if (pt_cmpR op_eq (pe_op op_mod (pe_op op_fdiv (pe_cal C__law_cell_at (hr.mono (by decide)) (pa_cons (pv 0) (pa_cons pe_int pa_nil))) pe_int) pe_int) pe_int (nomark _)) (pss_one (ps_set (i := 2) sc__law_wood.nd rfl (Or.inl rfl) (pe_op op_add (pv 2) pe_int))) pss_nil)
  (pss_cons (ps_if (pt_cmpR op_eq (pe_op op_mod (pe_op op_fdiv (pe_cal C__law_cell_at (hr.mono (by decide)) (pa_cons (pv 0) (pa_cons pe_int pa_nil))) pe_int) pe_int) pe_int (nomark _)) (pss_one (ps_set (i := 2) sc__law_wood.nd rfl (Or.inl rfl) (pe_op op_add (pv 2) pe_int))) pss_nil)
  (pss_cons (ps_set (i := 3) sc__law_wood.nd rfl (Or.inr rfl) (pe_ix ix_list (pe_lst (pa_cons pe_int (pa_cons pe_int pa_nil))) (pe_op op_mod (pe_op op_fdiv (pe_cal C__law_cell_at (hr.mono (by decide)) (pa_cons (pv 0) (pa_cons pe_int pa_nil))) pe_int) pe_int) (fun _ _ => rfl)))
  (pss_cons (ps_setLc (i := 5) (own := [("_law_k", 4)]) (g := gName 4) (by rfl) sc__law_wood.nd rfl rfl (sw_true rfl rfl rfl (by decide +kernel)) (pi_range1 (by rfl) B.range (pa_cons (pv 2) pa_nil)) (blkOk_by (own := [("_law_k", 4)]) (N := ["_law_script", "_law_far", "_law_many", "_law_step", "_law_k", "_law_names", "_law_below", "_law_cell", "_law_order", "_law_wood_here"]) (sc := defScope s__law_wood) (by decide +kernel)) (fun _ _ _ _ _ => (pg_name (i := 4) sc__law_wood.nd rfl (Or.inl rfl))) (fun _ _ _ _ _ => pts_nil) (fun _ _ _ _ _ => (pe_op op_add (pv 1) (pe_op op_mul (pv 3) (pe_op op_mod (pe_op op_add (pe_op op_mul pe_int (pv 4)) (pe_cal C__law_cell_at (hr.mono (by decide)) (pa_cons (pv 0) (pa_cons pe_int pa_nil)))) pe_int)))))
  (pss_cons (ps_set (i := 6) sc__law_wood.nd rfl (Or.inl rfl) (pe_lst (pa_cons pe_non pa_nil)))
  (pss_cons (ps_for PassesOwn.never rfl (pi_range2 (by rfl) B.range (pa_cons pe_int (pa_cons (pv 2) pa_nil))) (pg_name (i := 4) sc__law_wood.nd rfl (Or.inl rfl))
   (pss_cons (ps_set (i := 7) sc__law_wood.nd rfl (Or.inl rfl) (pe_cal C__law_cell_at (hr.mono (by decide)) (pa_cons (pv 0) (pa_cons (pe_op op_add pe_int (pv 4)) pa_nil))))
  (pss_one (ps_if (pt_cmpR op_eq (pe_op op_mod (pv 7) pe_int) pe_int (nomark _)) (pss_one (ps_expr (pe_bm PySem.F.plainAttrs_list PySem.F.slot_list_append PySem.F.type_list_append mt_append (pv 6) (pa_cons pe_non pa_nil)))) (pss_one (ps_if (pt_cmpR op_lt (pe_op op_mod (pv 7) pe_int) pe_int (nomark _)) (pss_one (ps_expr (pe_bm PySem.F.plainAttrs_list PySem.F.slot_list_append PySem.F.type_list_append mt_append (pv 6) (pa_cons (pe_ix ix_list (pv 5) (pe_op op_sub (pv 4) pe_int) (fun _ _ => rfl)) pa_nil)))) (pss_one (ps_expr (pe_bm PySem.F.plainAttrs_list PySem.F.slot_list_append PySem.F.type_list_append mt_append (pv 6) (pa_cons (pe_ix ix_list (pv 5) (pe_op op_mod (pe_op op_fdiv (pv 7) pe_int) (pv 4)) (fun _ _ => rfl)) pa_nil))))))))))
  (pss_cons (ps_setLc (i := 8) (own := [("_law_k", 4)]) (g := gName 4) (by rfl) sc__law_wood.nd rfl rfl (sw_true rfl rfl rfl (by decide +kernel)) (pi_range1 (by rfl) B.range (pa_cons (pv 2) pa_nil)) (blkOk_by (own := [("_law_k", 4)]) (N := ["_law_script", "_law_far", "_law_many", "_law_step", "_law_k", "_law_names", "_law_below", "_law_cell", "_law_order", "_law_wood_here"]) (sc := defScope s__law_wood) (by decide +kernel)) (fun _ _ _ _ _ => (pg_name (i := 4) sc__law_wood.nd rfl (Or.inl rfl))) (fun _ _ _ _ _ => pts_nil) (fun _ _ _ _ _ => (pv 4)))
  (pss_cons (ps_if (pt_cmpR op_eq (pe_op op_mod (pe_cal C__law_cell_at (hr.mono (by decide)) (pa_cons (pv 0) (pa_cons pe_int pa_nil))) pe_int) pe_int (nomark _)) (pss_one (ps_expr (pe_bm0 PySem.F.plainAttrs_list PySem.F.slot_list_reverse PySem.F.type_list_reverse mt_reverse (pv 8)))) pss_nil)
  (pss_cons (ps_set (i := 9) sc__law_wood.nd rfl (Or.inl rfl) pe_dnewK)
  (pss_cons (ps_for PassesOwn.never rfl (pi_list (pv 8)) (pg_name (i := 4) sc__law_wood.nd rfl (Or.inl rfl))
   (pss_one (ps_dput hu (pv 9) (pe_ix ix_list (pv 5) (pv 4) (fun _ _ => rfl)) (pe_ix ix_list (pv 6) (pv 4) (fun _ _ => rfl)) rfl)))
  (pss_one (ps_ret (pv 9))))))))))))))), ?_⟩
    try dsimp only [cxOf, Cx.nox]
    refine Go.at ?_
    walk_at "s0"
    -- far
    have m1 : 0 ≤ cell ns 1 / 31 % 4 ∧ cell ns 1 / 31 % 4 < 4 := ⟨Int.emod_nonneg _ (by decide), Int.emod_lt_of_pos _ (by decide)⟩
    obtain ⟨far, hfar⟩ : ∃ far : Int, atI [V.int 0, .int 0, .int 0, .int (10 ^ 12)] (cell ns 1 / 31 % 4) = some (.int far) := by
      have : cell ns 1 / 31 % 4 = 0 ∨ cell ns 1 / 31 % 4 = 1 ∨ cell ns 1 / 31 % 4 = 2 ∨ cell ns 1 / 31 % 4 = 3 := by omega
      rcases this with z | z | z | z <;> rw [z]
      · exact ⟨0, rfl⟩
      · exact ⟨0, rfl⟩
      · exact ⟨0, rfl⟩
      · exact ⟨10 ^ 12, rfl⟩
    refine g_asg (v := .int far) (ev_ixN (xs := [.int 0, .int 0, .int 0, .int (10 ^ 12)]) (el_lst (ea_cons ev_c (ea_cons ev_c (ea_cons ev_c (ea_cons (ev_op ev_c ev_c (rv_I (by unfold CPow; decide))) ea_nil)))) (by decide)) (by walk_at "ev") hfar) ?_
    walk_at "sg"
    -- many
    have m2 : 0 ≤ cell ns 0 % 9 ∧ cell ns 0 % 9 < 9 := ⟨Int.emod_nonneg _ (by decide), Int.emod_lt_of_pos _ (by decide)⟩
    refine g_asg (v := .int (1 + cell ns 0 % 9)) (by walk_at "ev") ?_
    walk_at "sg"
    refine g_ifI (c := cell ns 0 / 9 % 8 = 1) (y := 1 + cell ns 0 % 9 + 12) (by walk_at "et") rfl (fun _ => by walk_at "ev") fun n1 e1 e2 => ?_
    walk_at "sg"
    refine g_ifI (c := cell ns 0 / 9 % 8 = 2) (y := n1 + 21) (by walk_at "et") rfl (fun _ => by walk_at "ev") fun n2 e3 e4 => ?_
    walk_at "sg"
    have hn2 : 1 ≤ n2 ∧ n2 ≤ 30 := by
      by_cases c1 : cell ns 0 / 9 % 8 = 1
      · rw [e4 (by omega), e1 c1]; omega
      · by_cases c2 : cell ns 0 / 9 % 8 = 2
        · rw [e3 c2, e2 c1]; omega
        · rw [e4 c2, e2 c1]; omega
    obtain ⟨n, rfl⟩ : ∃ n : Nat, n2 = (n : Int) := ⟨n2.toNat, by omega⟩
    clear e1 e2 e3 e4 m2 m1 hfar
    -- step
    have m3 : 0 ≤ cell ns 2 / 2 % 2 ∧ cell ns 2 / 2 % 2 < 2 := ⟨Int.emod_nonneg _ (by decide), Int.emod_lt_of_pos _ (by decide)⟩
    obtain ⟨step, hst, hs3⟩ : ∃ step : Int, atI [V.int 1, .int 3] (cell ns 2 / 2 % 2) = some (.int step) ∧ (step = 1 ∨ step = 3) := by
      have : cell ns 2 / 2 % 2 = 0 ∨ cell ns 2 / 2 % 2 = 1 := by omega
      rcases this with z | z <;> rw [z]
      · exact ⟨1, rfl, .inl rfl⟩
      · exact ⟨3, rfl, .inr rfl⟩
    refine g_asg (v := .int step) (ev_ixN (xs := [.int 1, .int 3]) (el_lst (by walk_at "ea") (by decide)) (by walk_at "ev") hst) ?_
    walk_at "sg"
    have inj : ∀ j k, j < 31 → k < 31 → nmW far step (cell ns 1) j = nmW far step (cell ns 1) k → j = k := fun j k hj hk e => nmW_inj hs3 hj hk e
    generalize hnm : nmW far step (cell ns 1) = nm at inj
    -- names
    refine g_asgL (xs := given n (fun _ => true) fun k => .int (nm k)) ?_ ?_
    · refine el_lcR1 (n := (n : Int)) (fun _ => true) _ (ea_cons (ev_var rfl) ea_nil) (by omega) (fun x => rfl) (fun i H1 e hi => et_yes) fun i H1 e hi _ => ?_
      have hs' := ex_l e hs
      rw [← hnm]
      refine ev_is (v := .int (far + step * ((7 * (i : Int) + cell ns 1) % 31))) (by walk_at "ev") rfl
    intro N H1 e1 hN hN1
    rw [given_all] at hN1
    walk_at "sg"
    -- below
    refine g_asgL (xs := [.non]) (el_lst (by walk_at "ea") (by decide)) ?_
    intro L H2 e2 hL hL1
    walk_at "sg"
    have hN2 := e2 _ _ hN1
    have nNL : N ≠ L := ne_at hN1 hL
    generalize hce : (fun k : Nat => cell ns (3 + (k : Int))) = ce
    refine g_forR2 (lo := 1) (n := (n : Int)) (by walk_at "ea") (by omega)
      (fun i σ' H' => Ex H H' ∧ H' N = some (.lst ((List.range n).map fun k => .int (nm k))) ∧ H' L = some (.lst ((List.range (i + 1)).map fun k => oV (blW nm ce k))) ∧
        ∃ x y : Option V, σ' = [some (.ref a), some (.int far), some (.int n), some (.int step), x, some (.ref N), some (.ref L), y, none, none]) ?_ ?_ ?_
    · intro H3 e3
      exact ⟨(e1.trans e2).trans e3, e3 _ _ hN2, e3 _ _ hL1, _, _, rfl⟩
    · rintro i σ' H' hi ⟨e4, hN4, hL4, x, y, rfl⟩
      have hs4 := ex_l e4 hs
      have hi1 : i + 1 < n := by omega
      walk_at "sg"
      refine g_asg (v := .int (ce (i + 1))) ?_ ?_
      · rw [← hce]
        refine ev_is (v := .int (cell ns (3 + (1 + (i : Int))))) (by walk_at "ev") ?_
        dsimp only
        rw [show ((i + 1 : Nat) : Int) = 1 + (i : Int) by omega]
      walk_at "sg"
      have nx : ∀ (v : V) (x' y' : Option V) (H1' : Hp), v = oV (blW nm ce (i + 1)) → Mu H' L (.lst ((List.range (i + 1)).map (fun k => oV (blW nm ce k)) ++ [v])) H1' →
          Ex H H1' ∧ H1' N = some (.lst ((List.range n).map fun k => .int (nm k))) ∧ H1' L = some (.lst ((List.range (i + 1 + 1)).map fun k => oV (blW nm ce k))) ∧
        ∃ x y : Option V, [some (V.ref a), some (.int far), some (.int n), some (.int step), x', some (.ref N), some (.ref L), y', none, none] = [some (.ref a), some (.int far), some (.int n), some (.int step), x, some (.ref N), some (.ref L), y, none, none] := by
        intro v x' y' H1' hv m
        refine ⟨m.ex e4 (fresh_back (e1) hL), m.rest _ _ nNL hN4, ?_, _, _, rfl⟩
        rw [m.at_, List.range_succ (n := i + 1), List.map_append, hv]
        rfl
      have lz : ((List.range (i + 1)).map fun k => oV (blW nm ce k)).length < 100000 := by rw [List.length_map, List.length_range]; omega
      have nix : ∀ j : Nat, j < n → atI ((List.range n).map fun k => V.int (nm k)) (j : Int) = some (.int (nm j)) := fun j hj => by
        refine atI_nat ?_
        rw [List.getElem?_map, List.getElem?_range hj]
        rfl
      have b0 : ce (i + 1) % 5 = 0 → blW nm ce (i + 1) = none := fun h => by rw [blW, if_neg (by omega), if_pos h]
      have b1 : ¬ ce (i + 1) % 5 = 0 → ce (i + 1) % 5 < 3 → blW nm ce (i + 1) = some (nm i) := fun h h2 => by rw [blW, if_neg (by omega), if_neg h, if_pos h2]; rfl
      have b2 : ¬ ce (i + 1) % 5 = 0 → ¬ ce (i + 1) % 5 < 3 → blW nm ce (i + 1) = some (nm (ce (i + 1) / 5 % ((i + 1 : Nat) : Int)).toNat) := fun h h2 => by rw [blW, if_neg (by omega), if_neg h, if_neg h2]
      generalize hv : blW nm ce (i + 1) = bv at nx b0 b1 b2
      refine g_if1 (b := decide (ce (i + 1) % 5 = 0)) (by walk_at "et") (fun hb => ?_) fun hb => ?_
      · have hb := of_decide_eq_true hb
        exact g_app1 hL4 (ev_var rfl) ev_c lz fun H5 m => nx _ _ _ _ (by rw [b0 hb]; rfl) m
      have hb := of_decide_eq_false hb
      refine g_if1 (b := decide (ce (i + 1) % 5 < 3)) (by walk_at "et") (fun hb2 => ?_) fun hb2 => ?_
      · have hb2 := of_decide_eq_true hb2
        refine g_app1 (v := .int (nm i)) hL4 (ev_var rfl) ?_ lz fun H5 m => nx _ _ _ _ (by rw [b1 hb hb2]; rfl) m
        refine ev_op (ev_var rfl) (ev_op (ev_var rfl) ev_c rv_I0) (rv_ixL (sq_of hN4) ?_)
        rw [show (1 : Int) + (i : Int) - 1 = (i : Int) by omega]
        exact nix i (by omega)
      · have hb2 := of_decide_eq_false hb2
        have a1 : 0 ≤ ce (i + 1) / 5 % ((i + 1 : Nat) : Int) := Int.emod_nonneg _ (by omega)
        have a2 : ce (i + 1) / 5 % ((i + 1 : Nat) : Int) < ((i + 1 : Nat) : Int) := Int.emod_lt_of_pos _ (by omega)
        refine g_app1 (v := .int (nm (ce (i + 1) / 5 % ((i + 1 : Nat) : Int)).toNat)) hL4 (ev_var rfl) ?_ lz fun H5 m => nx _ _ _ _ (by rw [b2 hb hb2]; rfl) m
        refine ev_op (y := .int (ce (i + 1) / 5 % (1 + (i : Int)))) (ev_var rfl) (by walk_at "ev") (rv_ixL (sq_of hN4) ?_)
        rw [show (1 : Int) + (i : Int) = ((i + 1 : Nat) : Int) by omega]
        have := nix (ce (i + 1) / 5 % ((i + 1 : Nat) : Int)).toNat (by omega)
        rw [Int.toNat_of_nonneg a1] at this
        exact this
    · rintro σ' H' ⟨e4, hN4, hL4, x, y, rfl⟩
      rw [show ((n : Int) - 1).toNat + 1 = n by omega] at hL4
      have hs4 := ex_l e4 hs
      -- the order
      refine g_asgL (xs := given n (fun _ => true) fun k => .int (k : Int)) ?_ ?_
      · exact el_lcR1 (n := (n : Int)) (fun _ => true) _ (ea_cons (ev_var rfl) ea_nil) (by omega) (fun x => rfl) (fun i H1 e hi => et_yes) fun i H1 e hi _ => ev_var rfl
      intro O H5 e5 hO hO5
      rw [given_all] at hO5
      walk_at "sg"
      have hN5 := e5 _ _ hN4
      have hL5 := e5 _ _ hL4
      have hs5 := ex_l e5 hs4
      refine g_whenA (fun σ1 H1 => Ex H H1 ∧ H1 N = some (.lst ((List.range n).map fun k => .int (nm k))) ∧ H1 L = some (.lst ((List.range n).map fun k => oV (blW nm ce k))) ∧
        σ1 = [some (.ref a), some (.int far), some (.int n), some (.int step), x, some (.ref N), some (.ref L), y, some (.ref O), none] ∧
        ∃ ks : List Nat, (ks = List.range n ∨ ks = (List.range n).reverse) ∧ H1 O = some (.lst (ks.map fun (k : Nat) => V.int (k : Int)))) (b := decide (cell ns 2 % 2 = 1)) (by walk_at "et") (fun _ k => ?_) (fun _ H6 e6 => ?_) ?_
      · refine g_rev1 hO5 (ev_var rfl) fun H6 m => k _ _ ⟨m.ex (e4.trans e5) (fresh_back e4 hO), m.rest _ _ (ne_at hN4 hO) hN5, m.rest _ _ (ne_at hL4 hO) hL5, rfl, _, .inr rfl, ?_⟩
        rw [m.at_, List.map_reverse]
      · exact ⟨(e4.trans e5).trans e6, e6 _ _ hN5, e6 _ _ hL5, rfl, _, .inl rfl, e6 _ _ hO5⟩
      rintro σ1 H6 ⟨e6, hN6, hL6, rfl, ks, hks, hO6⟩
      have hm : ∀ k, k ∈ ks → k < n := by rcases hks with rfl | rfl <;> simp
      have hl : ks.length = n := by rcases hks with rfl | rfl <;> simp
      refine g_dnew ?_
      intro p H7 e7 hp hp7
      walk_at "sg"
      refine g_forL (xs := ks.map fun (k : Nat) => V.int (k : Int)) (ev_var rfl) (sq_of (e7 _ _ hO6))
        (fun i σ' H' => Ex H H' ∧ H' N = some (.lst ((List.range n).map fun k => .int (nm k))) ∧ H' L = some (.lst ((List.range n).map fun k => oV (blW nm ce k))) ∧ H' O = some (.lst (ks.map fun (k : Nat) => V.int (k : Int))) ∧
          H' p = some (.dK ((ks.take i).map fun k => (Sum.inl (nm k), oV (blW nm ce k)))) ∧ ∃ x : Option V, σ' = [some (.ref a), some (.int far), some (.int n), some (.int step), x, some (.ref N), some (.ref L), y, some (.ref O), some (.ref p)]) ?_ ?_ ?_ ?_
      · intro H8 e8
        exact ⟨(e6.trans e7).trans e8, e8 _ _ (e7 _ _ hN6), e8 _ _ (e7 _ _ hL6), e8 _ _ (e7 _ _ hO6), e8 _ _ hp7, _, rfl⟩
      · rintro i σ' H' _ ⟨_, _, _, hO8, _, _⟩
        exact sq_of hO8
      · rintro i v σ' H' hi ⟨e8, hN8, hL8, hO8, hp8, x', rfl⟩
        rw [List.getElem?_map] at hi
        obtain ⟨k, hk, rfl⟩ := Option.map_eq_some_iff.mp hi
        have kn := hm k (List.mem_of_getElem? hk)
        walk_at "sg"
        refine g_dput1 (x := Sum.inl (nm k)) (v := oV (blW nm ce k)) hp8 (ev_op (ev_var rfl) (ev_var rfl) (rv_ixL (sq_of hL8) (atI_nat ?_))) (ev_var rfl) (ev_op (y := .int (k : Int)) (ev_var rfl) (ev_var rfl) (rv_ixL (sq_of hN8) (atI_nat ?_))) (by rw [List.length_map, List.length_take]; omega) fun H9 m => ?_
        · rw [List.getElem?_map, List.getElem?_range kn]
          rfl
        · rw [List.getElem?_map, List.getElem?_range kn]
          rfl
        · have pf : H p = none := fresh_back e6 hp
          refine ⟨m.ex e8 pf, m.rest _ _ (ne_at hN6 hp) hN8, m.rest _ _ (ne_at hL6 hp) hL8, m.rest _ _ (ne_at hO6 hp) hO8, ?_, _, rfl⟩
          rw [m.at_, wood_put (bl := fun k => oV (blW nm ce k)) inj (by omega) hks hk]
      · rintro σ' H' ⟨e8, _, _, _, hp8, x', rfl⟩
        rw [List.length_map, List.take_of_length_le (Nat.le_refl _)] at hp8
        refine g_ret (ev_var rfl) fun H9 e9 => ?_
        refine q _ (wood_of (ce := ce) (nm := nm) (n := n) (by omega) (by omega) inj hks) p H9 (fresh_back e6 hp) (e8.trans e9) ?_
        rw [encB, List.map_map]
        exact e9 _ _ hp8
theorem ok_lchain {f : Addr} {fd : FuncData} (F : Fun K "_law_chain" "_law_chain" s__law_chain f fd) (B : Bt mg) : FnOk P w K mg base CX0 1 f fd ["_law_wood_here", "_law_number"] spLChain := by
  refine F.ok sc__law_chain (fun vs H Q E h => ?_) (fun cdv A outer s H vs Q E hr h => ?_)
  · obtain ⟨d, m, n, rfl, _⟩ := h
    rfl
  · obtain ⟨d, m, n, rfl, hd, W, hn, q⟩ := h
    have hu := hu_of hr
    refine ⟨_, (pss_cons (ps_set (i := 2) sc__law_chain.nd rfl (Or.inl rfl) (pe_lst (pa_cons (pv 1) pa_nil)))
  (pss_cons (ps_while PassesOwn.never (pt_cmpR op_notN (pe_dget hu (pv 0) (pe_ix ix_list (pv 2) (pe_un un_neg pe_int) (fun _ _ => rfl)) (fun _ _ => rfl)) pe_non (nomark _))
   (pss_one (ps_expr (pe_bm PySem.F.plainAttrs_list PySem.F.slot_list_append PySem.F.type_list_append mt_append (pv 2) (pa_cons (pe_dget hu (pv 0) (pe_ix ix_list (pv 2) (pe_un un_neg pe_int) (fun _ _ => rfl)) (fun _ _ => rfl)) pa_nil)))))
  (pss_one (ps_ret (pv 2))))), ?_⟩
    try dsimp only [cxOf, Cx.nox]
    refine Go.at ?_
    walk_at "s0"
    refine g_asgL (xs := [.int n]) (el_lst (by walk_at "ea") (by show 1 ≤ 100000; decide)) ?_
    intro L H1 e1 hL hL1
    walk_at "sg"
    have cl := chain_len (m := m) n
    refine g_whileH (fun j σ' H' => ∃ i, j = 65 - i ∧ i < (chainB m n).length ∧ Ex H H' ∧ H' L = some (.lst (((chainB m n).take (i + 1)).map V.int)) ∧ σ' = [some (.ref d), some (.int n), some (.ref L)]) 65 ?_ ?_
    · intro H2 e2
      refine ⟨0, rfl, List.length_pos_iff.mpr (chain_ne n), e1.trans e2, ?_, rfl⟩
      rw [e2 _ _ hL1, List.take_add_one, chain_0]
      rfl
    · rintro j σ' H' ⟨i, rfl, hi, e2, hL2, rfl⟩
      have hk := List.getElem?_eq_getElem hi
      generalize (chainB m n)[i] = k at hk
      have km := chain_mem W hn i k hk
      have get : Ev (tDGet (tVar 0) (tOp (rIxL K) (tVar 2) (tUn (rU fun i => .int (-i)) (tC (.int 1))))) [some (.ref d), some (.int n), some (.ref L)] H' (oV (baseB m k)) := by
        refine ev_dget (x := Sum.inl k) (ev_var rfl) (ev_op (ev_var rfl) (ev_un ev_c ru_neg) (rv_ixL (v := .int k) (sq_of hL2) (atI_last (i := i) ?_ ?_))) (ex_rd e2 hd) (val_enc km)
        · rw [List.length_map, List.length_take]
          omega
        · rw [List.getElem?_map, List.getElem?_take_of_lt (by omega), hk]
          rfl
      refine ⟨!decide (oV (baseB m k) = V.non), et_test (ev_op get ev_c (rv_notN rfl)), fun hb => ?_, fun hb => ?_⟩
      · have nx := chain_next W i n k hk
        cases hbk : baseB m k with
        | none =>
          rw [hbk] at hb
          exact absurd hb (by decide)
        | some b =>
          rw [hbk] at nx get
          have hi2 : i + 1 < (chainB m n).length := (List.getElem?_eq_some_iff.mp nx.symm).1
          refine g_app1 hL2 (ev_var rfl) get (by rw [List.length_map, List.length_take]; omega) fun H3 mu => ⟨65 - (i + 1), by omega, i + 1, rfl, hi2, mu.ex e2 hL, ?_, rfl⟩
          rw [mu.at_, List.take_add_one (i := i + 1), ← nx, List.map_append]
          rfl
      · cases hbk : baseB m k with
        | some b =>
          rw [hbk] at hb
          have e : (!decide (V.int b = V.non)) = false := hb
          rw [int_nn] at e
          cases e
        | none =>
          have z := (key_not W hk).mp hbk
          rw [List.take_of_length_le (by omega)] at hL2
          exact g_ret (ev_var rfl) fun H3 e3 => q L H3 hL (e2.trans e3) (e3 _ _ hL2)
theorem ok_between {f : Addr} {fd : FuncData} (F : Fun K "_law_between" "_law_between" s__law_between f fd) (B : Bt mg) : FnOk P w K mg base CX0 1 f fd ["_law_one", "_law_other"] (spBetween K) := by
  refine F.ok sc__law_between (fun vs H Q E h => ?_) (fun cdv A outer s H vs Q E hr h => ?_)
  · obtain ⟨a, b, xs, ys, rfl, _⟩ := h
    rfl
  · obtain ⟨a, b, xs, ys, rfl, ha, hb, hl, q⟩ := h
    refine ⟨_, (pss_cons (ps_for PassesOwn.never rfl (pi_range1 (by rfl) B.range (pa_cons (pe_callB call_len_seq (by rfl) B.len PySem.boot_len (pa_cons (pv 0) pa_nil)) pa_nil)) (pg_name (i := 2) sc__law_between.nd rfl (Or.inl rfl))
   (pss_one (ps_if (pt_cmpR op_in_seq (pe_ix ix_list (pv 0) (pv 2) (fun _ _ => rfl)) (pv 1) (by with_unfolding_all rfl)) (pss_one (ps_ret (pe_op op_add (pv 2) (pe_bm PySem.F.plainAttrs_list PySem.F.slot_list_index PySem.F.type_list_index mt_index (pv 1) (pa_cons (pe_ix ix_list (pv 0) (pv 2) (fun _ _ => rfl)) pa_nil))))) pss_nil)))
  (pss_one (ps_ret (pe_un un_neg pe_int)))), ?_⟩
    try dsimp only [cxOf, Cx.nox]
    refine Go.at ?_
    walk_at "s0"
    refine g_forR1 (n := (xs.length : Int)) (ea_cons (ev_is (ev_cb (ea_cons (ev_var rfl) ea_nil) (rc_lenL ha)) (by rw [List.length_map])) ea_nil) (by omega)
      (fun i σ' H' => Ex H H' ∧ (∀ j : Nat, j < i → ∀ y : Int, xs[j]? = some y → y ∉ ys) ∧ ∃ x : Option V, σ' = [some (.ref a), some (.ref b), x]) ?_ ?_ ?_
    · intro H1 e1
      exact ⟨e1, fun j hj => by omega, _, rfl⟩
    · rintro i σ' H' hi ⟨e1, hn, x, rfl⟩
      have hk := List.getElem?_eq_getElem (show i < xs.length by omega)
      generalize xs[i] = k at hk
      have get : Ev (tOp (rIxL K) (tVar 0) (tVar 2)) [some (.ref a), some (.ref b), some (.int (i : Int))] H' (.int k) := by
        refine ev_op (ev_var rfl) (ev_var rfl) (rv_ixL (ex_l e1 ha) (atI_nat ?_))
        rw [List.getElem?_map, hk]
        rfl
      walk_at "sg"
      refine g_if1 (b := decide (k ∈ ys)) ?_ (fun hb' => ?_) fun hb' => ?_
      · refine et_is (et_test (ev_op get (ev_var rfl) (rv_isL (ex_l e1 hb) rfl (flat_ints ys)))) (inV_int k ys)
      · have hb' := of_decide_eq_true hb'
        have z := betw_at hn hk hb'
        refine g_ret (v := .int ((i : Int) + ((ys.idxOf k : Nat) : Int))) ?_ fun H2 e2 => by
          have g := q H2 (e1.trans e2)
          rw [z] at g
          exact g
        refine ev_op (ev_var rfl) (?_) rv_I0
        intro H2 e2 Q2 q2
        refine ⟨_, rfl, ?_⟩
        refine ⟨Or.inl ⟨rfl, _, ex_l (e1.trans e2) hb⟩, ?_⟩
        refine get H2 e2 _ fun H3 e3 => ?_
        refine ⟨b, ys.map V.int, .int k, ys.idxOf k, .int k, rfl, rfl, ex_l ((e1.trans e2).trans e3) hb, rfl, flat_ints ys, ?_, ?_, ?_, q2 H3 e3⟩
        · rw [List.getElem?_map, List.getElem?_eq_getElem (List.idxOf_lt_length_of_mem hb'), List.getElem_idxOf]
          rfl
        · show (k == k) = true
          simp
        · intro m z' hm hz
          rw [List.getElem?_map] at hz
          obtain ⟨y, hy, rfl⟩ := Option.map_eq_some_iff.mp hz
          show (y == k) = false
          obtain ⟨h1, h2⟩ := List.getElem?_eq_some_iff.mp hy
          have := List.not_of_lt_findIdx (p := fun z => z == k) (xs := ys) hm
          rw [← h2]
          simpa using this
      · have hb' := of_decide_eq_false hb'
        refine fun H2 e2 => ⟨e1.trans e2, fun j hj y hy => ?_, _, rfl⟩
        by_cases c : j = i
        · subst c
          rw [hk] at hy
          cases hy
          exact hb'
        · exact hn j (by omega) y hy
    · rintro σ' H' ⟨e1, hn, x, rfl⟩
      refine g_ret (v := .int (-1)) (ev_un ev_c ru_neg) fun H2 e2 => ?_
      have g := q H2 (e1.trans e2)
      rw [betw_no fun j y hy => hn j (by have := (List.getElem?_eq_some_iff.mp hy).1; omega) y hy] at g
      exact g
theorem enc_ks (m : Bs) : (encB m).map (·.1) = (keysB m).map fun n => (Sum.inl n : Key) := by
  unfold encB keysB
  rw [List.map_map, List.map_map]
  rfl
theorem ok_nbs {f : Addr} {fd : FuncData} (F : Fun K "_neighbours" "_neighbours" s__neighbours f fd) (B : Bt mg) : FnOk P w K mg base CX0 1 f fd ["bases"] spNbs := by
  refine F.ok sc__neighbours (fun vs H Q E h => ?_) (fun cdv A outer s H vs Q E hr h => ?_)
  · obtain ⟨d, m, rfl, _⟩ := h
    rfl
  · obtain ⟨d, m, rfl, hd, W, q⟩ := h
    have hu := hu_of hr
    refine ⟨_, (pss_cons (ps_lock (ps_setDc (i := 2) (own := [("number", 1)]) (g := gName 1) (by rfl) sc__neighbours.nd rfl rfl (sw_trueD rfl rfl rfl (by decide +kernel)) (pi_keys (pv 0)) (blkOk_by (own := [("number", 1)]) (N := ["bases", "number", "neighbours", "base"]) (sc := defScope s__neighbours) (by decide +kernel)) (fun _ _ _ _ _ => (pg_name (i := 1) sc__neighbours.nd rfl (Or.inl rfl))) (fun _ _ _ _ _ => pts_nil) (fun _ _ _ _ _ => (pv 1)) (fun _ _ _ _ _ => (pe_lst pa_nil))))
  (pss_cons (ps_lock (ps_for PassesOwn.never rfl (pi_items (pv 0)) (pg_tup rfl (pgs_cons (pg_name (i := 1) sc__neighbours.nd rfl (Or.inl rfl)) (pgs_cons (pg_name (i := 3) sc__neighbours.nd rfl (Or.inl rfl)) pgs_nil)))
   (pss_one (ps_if (pt_cmpR op_notN (pv 3) pe_non (nomark _)) (pss_cons (ps_expr (pe_bm PySem.F.plainAttrs_list PySem.F.slot_list_append PySem.F.type_list_append mt_append (pe_dget hu (pv 2) (pv 1) (fun _ _ => rfl)) (pa_cons (pv 3) pa_nil)))
  (pss_one (ps_expr (pe_bm PySem.F.plainAttrs_list PySem.F.slot_list_append PySem.F.type_list_append mt_append (pe_dget hu (pv 2) (pv 3) (fun _ _ => rfl)) (pa_cons (pv 1) pa_nil))))) pss_nil))))
  (pss_one (ps_ret (pv 2))))), ?_⟩
    try dsimp only [cxOf, Cx.nox]
    refine Go.at ?_
    walk_at "s0"
    have few := W.few
    have kl : (keysB m).length = m.length := List.length_map ..
    refine g_dcNil (ks := keysB m) (enc_ks m) W.nd hd (fun L => ev_var rfl) (by omega) (fun x => rfl) (fun k H1 => ev_var rfl) (fun k H1 => el_lst ea_nil (by decide)) ?_
    intro N ad H1 e1 hN hN1 ha inj
    walk_at "sg"
    have hd1 := e1 _ _ hd
    refine g_forItems (fun L => ev_var rfl) hd1 (fun od i σ' L => Mu H d (.frz od (.dK (encB m))) L ∧ L N = some (.dK ((keysB m).map fun k => (Sum.inl k, .ref (ad k)))) ∧ (∀ k ∈ keysB m, L (ad k) = some (.lst ((nbL m i k).map V.int))) ∧ ∃ x y : Option V, σ' = [some (.ref d), x, some (.ref N), y]) ?_ ?_ ?_ ?_ ?_
    · intro od L mu
      exact ⟨mu.low e1, mu.rest _ _ (ne_at hd hN).symm hN1, fun k hk => mu.rest _ _ (ne_obj (ha k hk).2 hd1 (by intro z; cases z)) (ha k hk).2, _, _, rfl⟩
    · rintro od i σ' L ⟨mu, _⟩
      exact mu.at_
    · rintro od i σ' L L' ⟨mu, hN2, hl, x, y, rfl⟩ e
      exact ⟨mu.up e, e _ _ hN2, fun k hk => e _ _ (hl k hk), x, y, rfl⟩
    · rintro od i k v σ' L hi ⟨mu, hN2, hl, x, y, rfl⟩
      obtain ⟨⟨n, o⟩, hmi, e2⟩ : ∃ e : Int × Option Int, m[i]? = some e ∧ ((Sum.inl e.1 : Key), oV e.2) = (k, v) := by
        unfold encB at hi
        rw [List.getElem?_map] at hi
        exact Option.map_eq_some_iff.mp hi
      obtain ⟨rfl, rfl⟩ := Prod.mk.inj e2
      walk_at "sg"
      have nk : n ∈ keysB m := List.mem_map.mpr ⟨_, List.mem_of_getElem? hmi, rfl⟩
      have im := (List.getElem?_eq_some_iff.mp hmi).1
      have dk := fun (k : Int) (hk : k ∈ keysB m) => ne_obj (hl k hk) mu.at_ (by intro z; cases z)
      have Nd : N ≠ d := (ne_at hd hN).symm
      refine g_if1 (b := !decide (oV o = V.non)) (et_test (ev_op (ev_var rfl) ev_c (rv_notN rfl))) (fun hb => ?_) (fun hb => ?_)
      · cases o with
        | none => exact absurd hb (by decide)
        | some b =>
          have hb := mem_base W.nd (List.mem_of_getElem? hmi)
          have bk : b ∈ keysB m := (nbr_keys W (.inl hb)).2
          have nb := base_ne W hb
          have ann : ad n ≠ ad b := fun z => nb (inj n b nk bk z)
          refine g_app (hl n nk) (ev_dget (x := Sum.inl n) (ev_var rfl) (ev_var rfl) (.inl hN2) (far_val (g := fun k => V.ref (ad k)) W.nd nk)) (ev_var rfl) (by rw [List.length_map]; have := nbL_len m i n; omega) ?_
          intro L1 m1
          have hN3 := m1.rest _ _ (ne_obj hN2 (hl n nk) (by intro z; cases z)) hN2
          have hb1 := m1.rest _ _ ann.symm (hl b bk)
          refine g_app1 hb1 (ev_dget (x := Sum.inl b) (ev_var rfl) (ev_var rfl) (.inl hN3) (far_val (g := fun k => V.ref (ad k)) W.nd bk)) (ev_var rfl) (by rw [List.length_map]; have := nbL_len m i b; omega) ?_
          intro L2 m2
          have fr : ∀ k ∈ keysB m, H (ad k) = none := fun k hk => (ha k hk).1
          refine ⟨(mu.mut m1 (fr n nk) (dk n nk).symm).mut m2 (fr b bk) (dk b bk).symm, m2.rest _ _ (ne_obj hN3 hb1 (by intro z; cases z)) hN3, fun k hk => ?_, _, _, rfl⟩
          rw [nbL_succ hmi]
          show L2 (ad k) = some (.lst ((nbL m i k ++ ((if n = k then [b] else []) ++ (if b = k then [n] else []))).map V.int))
          by_cases c : k = n
          · subst c
            rw [if_pos rfl, if_neg nb.symm, List.append_nil, List.map_append]
            exact m2.rest _ _ ann m1.at_
          · by_cases c2 : k = b
            · subst c2
              rw [if_neg nb, if_pos rfl, List.nil_append, List.map_append]
              exact m2.at_
            · rw [if_neg (Ne.symm c), if_neg (Ne.symm c2), List.append_nil, List.append_nil]
              exact m2.rest _ _ (fun z => c2 (inj k b hk bk z)) (m1.rest _ _ (fun z => c (inj k n hk nk z)) (hl k hk))
      · cases o with
        | some b =>
          have e : (!decide (V.int b = V.non)) = false := hb
          rw [int_nn] at e
          cases e
        | none =>
          refine g_next fun L1 e => ⟨mu.up e, e _ _ hN2, fun k hk => ?_, _, _, rfl⟩
          rw [nbL_succ hmi]
          show L1 (ad k) = some (.lst ((nbL m i k ++ []).map V.int))
          rw [List.append_nil]
          exact e _ _ (hl k hk)
    · rintro od σ' L ⟨mu, hN2, hl, x, y, rfl⟩
      have Nd : N ≠ d := (ne_at hd hN).symm
      refine g_ret (ev_var rfl) fun H2 e2 => q N ad H2 ((mu.back hd).trans e2) hN ⟨e2 _ _ (by rw [upd_ne Nd]; exact hN2), fun k hk => e2 _ _ ?_⟩
      rw [upd_ne (ne_obj (hl k hk) mu.at_ (by intro z; cases z))]
      have := hl k hk
      unfold encB at this
      rw [List.length_map] at this
      exact this
theorem ok_steps {f : Addr} {fd : FuncData} (F : Fun K "_steps_from" "_steps_from" s__steps_from f fd) (B : Bt mg) : FnOk P w K mg base CX0 1 f fd ["neighbours", "number"] spSteps := by
  refine F.ok sc__steps_from (fun vs H Q E h => ?_) (fun cdv A outer s H vs Q E hr h => ?_)
  · obtain ⟨d, m, ad, n, rfl, _⟩ := h
    rfl
  · obtain ⟨d, m, ad, n, rfl, hN, W, nk, q⟩ := h
    have hu := hu_of hr
    refine ⟨_, (pss_cons (ps_set (i := 2) sc__steps_from.nd rfl (Or.inl rfl) (pe_disp (pps_cons (pv 1) pe_int pps_nil) (by rfl) (by rfl) (fun z => by cases z) (by decide)))
  (pss_cons (ps_set (i := 3) sc__steps_from.nd rfl (Or.inl rfl) (pe_lst (pa_cons (pv 1) pa_nil)))
  (pss_cons (ps_while PassesOwn.never (pt_truth (pv 3) (by intro _; rfl))
   (pss_cons (ps_set (i := 4) sc__steps_from.nd rfl (Or.inl rfl) (pe_lst pa_nil))
  (pss_cons (ps_for PassesOwn.never rfl (pi_list (pv 3)) (pg_name (i := 5) sc__steps_from.nd rfl (Or.inl rfl))
   (pss_one (ps_for PassesOwn.never rfl (pi_list (pe_dget hu (pv 0) (pv 5) (fun _ _ => rfl))) (pg_name (i := 6) sc__steps_from.nd rfl (Or.inl rfl))
   (pss_one (ps_if (pt_cmp (pc_dnotin hu (pv 6) (pv 2))) (pss_cons (ps_dput hu (pv 2) (pv 6) (pe_op op_add (pe_dget hu (pv 2) (pv 5) (fun _ _ => rfl)) pe_int) rfl)
  (pss_one (ps_expr (pe_bm PySem.F.plainAttrs_list PySem.F.slot_list_append PySem.F.type_list_append mt_append (pv 4) (pa_cons (pv 6) pa_nil))))) pss_nil)))))
  (pss_one (ps_set (i := 3) sc__steps_from.nd rfl (Or.inl rfl) (pv 4))))))
  (pss_one (ps_ret (pv 2)))))), ?_⟩
    try dsimp only [cxOf, Cx.nox]
    refine Go.at ?_
    walk_at "s0"
    refine g_asgD (kvs := [(Sum.inl n, .int 0)]) (ed_one (x := Sum.inl n) (ev_var rfl) ev_c) ?_
    intro S H1 e1 hS hS1
    walk_at "sg"
    refine g_asgL (xs := [.int n]) (el_lst (by walk_at "ea") (by show 1 ≤ 100000; decide)) ?_
    intro l0 H2 e2 hl0 hl02
    walk_at "sg"
    refine g_whileH (fun j σ' H' => ∃ (t : Nat) (st : List (Int × Int)) (ls : List Int) (la : Addr) (x y z : Option V), j = 200 - t ∧ Lay m n t st ls ∧ Ex H H' ∧ H' S = some (.dK (encI st)) ∧ H' la = some (.lst (ls.map V.int)) ∧ H la = none ∧ σ' = [some (.ref d), some (.int n), some (.ref S), some (.ref la), x, y, z]) 200 ?_ ?_
    · intro H3 e3
      exact ⟨0, _, _, l0, _, _, _, rfl, lay_0 W nk, (e1.trans e2).trans e3, e3 _ _ (e2 _ _ hS1), e3 _ _ hl02, fresh_back e1 hl0, rfl⟩
    · rintro j σ' H' ⟨t, st, ls, la, x, y, z, rfl, L, e3, hS3, hla, hla0, rfl⟩
      refine ⟨!(ls.map V.int).isEmpty, et_truthL (ev_var rfl) (sq_of hla), fun hb => ?_, fun hb => ?_⟩
      · have ne : ls ≠ [] := fun z => by
          rw [z] at hb
          cases hb
        have low := L.low ne
        have lf := L.few
        refine g_asgL (xs := []) (el_lst ea_nil (by decide)) ?_
        intro b H4 e4 hb0 hb4
        walk_at "sg"
        have hbH : H b = none := fresh_back e3 hb0
        have bla : la ≠ b := ne_at hla hb0
        refine g_forL (xs := ls.map V.int) (ev_var rfl) (sq_of (e4 _ _ hla)) (fun i σ' H' => ∃ (st : List (Int × Int)) (bs : List Int) (y z : Option V), Mid m n t ls i [] 0 st bs ∧ Ex H H' ∧ H' S = some (.dK (encI st)) ∧ H' b = some (.lst (bs.map V.int)) ∧ H' la = some (.lst (ls.map V.int)) ∧ σ' = [some (.ref d), some (.int n), some (.ref S), some (.ref la), some (.ref b), y, z]) ?_ ?_ ?_ ?_
        · intro H5 e5
          exact ⟨st, [], y, z, L.mid, (e3.trans e4).trans e5, e5 _ _ (e4 _ _ hS3), e5 _ _ hb4, e5 _ _ (e4 _ _ hla), rfl⟩
        · rintro i σ' H' _ ⟨st, bs, y, z, M, e5, h1, h2, h3, rfl⟩
          exact sq_of h3
        · rintro i v σ' H' hi ⟨st, bs, y, z, M, e5, h1, h2, h3, rfl⟩
          rw [List.getElem?_map] at hi
          obtain ⟨x, hx, rfl⟩ := Option.map_eq_some_iff.mp hi
          obtain ⟨xt, dx⟩ := (L.lm x).mp (List.mem_of_getElem? hx)
          have xk := (tree_mem.mp xt).1
          walk_at "sg"
          have hN5 := hN.up e5
          refine g_forLL (xs := (nbA m x).map V.int) (a := ad x) (ev_dget (x := Sum.inl x) (ev_var rfl) (ev_var rfl) (.inl hN5.at_) (far_val (g := fun k => V.ref (ad k)) W.nd xk)) (sq_of (hN5.ls x xk)) (fun j σ' H' => ∃ (st : List (Int × Int)) (bs : List Int) (z : Option V), Mid m n t ls i (nbA m x) j st bs ∧ Ex H H' ∧ H' S = some (.dK (encI st)) ∧ H' b = some (.lst (bs.map V.int)) ∧ H' la = some (.lst (ls.map V.int)) ∧ σ' = [some (.ref d), some (.int n), some (.ref S), some (.ref la), some (.ref b), some (.int x), z]) ?_ ?_ ?_ ?_
          · intro H6 e6
            exact ⟨st, bs, z, M.start _, e5.trans e6, e6 _ _ h1, e6 _ _ h2, e6 _ _ h3, rfl⟩
          · rintro j σ' H' _ ⟨st, bs, z, M, e6, _⟩
            exact sq_of ((hN.up e6).ls x xk)
          · rintro j v σ' H' hj ⟨st, bs, z, M, e6, h1, h2, h3, rfl⟩
            rw [List.getElem?_map] at hj
            obtain ⟨y, hy, rfl⟩ := Option.map_eq_some_iff.mp hj
            walk_at "sg"
            have nb : Nbr m x y := (nbA_mem W.nd).mp (List.mem_of_getElem? hy)
            have len := M.len W
            by_cases c : y ∈ ksI st
            · obtain ⟨p, hp, rfl⟩ := List.mem_map.mp c
              have z := encI_some M.nd hp
              refine g_if1 (b := false) (et_is (et_test (ev_dnotin (x := Sum.inl p.1) (ev_var rfl) (ev_var rfl) (.inl h1))) (by rw [z]; rfl)) (fun hb => nomatch hb) fun _ => ?_
              exact g_next fun H7 e7 => ⟨st, bs, _, M.skip hy c, e6.trans e7, e7 _ _ h1, e7 _ _ h2, e7 _ _ h3, rfl⟩
            · have z := encI_none c
              refine g_if1 (b := true) (et_is (et_test (ev_dnotin (x := Sum.inl y) (ev_var rfl) (ev_var rfl) (.inl h1))) (by rw [z]; rfl)) (fun _ => ?_) fun hb => nomatch hb
              have xs := M.old x xt (by omega)
              obtain ⟨p, hp, hpx⟩ := List.mem_map.mp xs
              have vx := encI_some M.nd hp
              have pv := M.val p hp
              rw [hpx] at vx pv
              rw [pv, dx] at vx
              refine g_dput (x := Sum.inl y) (v := .int ((t : Int) + 1)) h1 (ev_op (ev_dget (x := Sum.inl x) (ev_var rfl) (ev_var rfl) (.inl h1) vx) ev_c rv_I0) (ev_var rfl) (ev_var rfl) (by unfold encI; rw [List.length_map]; omega) ?_
              intro H7 m7
              have h27 := m7.rest _ _ (ne_obj h2 h1 (by intro z; cases z)) h2
              have h37 := m7.rest _ _ (ne_obj h3 h1 (by intro z; cases z)) h3
              refine g_app1 h27 (ev_var rfl) (v := .int y) (ev_var rfl) (by rw [List.length_map]; omega) ?_
              intro H8 m8
              refine ⟨_, _, _, M.put W xt dx nb hy c, m8.ex (m7.ex e6 hS) hbH, ?_, ?_, m8.rest _ _ bla h37, rfl⟩
              · have := m8.rest _ _ (ne_obj m7.at_ h27 (by intro z; cases z)) m7.at_
                rw [encI_put c] at this
                exact this
              · rw [m8.at_, List.map_append]
                rfl
          · rintro σ' H' ⟨st, bs, z, M, e6, h1, h2, h3, rfl⟩
            rw [List.length_map] at M
            exact ⟨st, bs, _, _, M.next W.nd hx, e6, h1, h2, h3, rfl⟩
        · rintro σ' H' ⟨st, bs, y, z, M, e5, h1, h2, h3, rfl⟩
          rw [List.length_map] at M
          refine g_asg1 (v := .ref b) (ev_var rfl) fun H6 e6 => ⟨200 - (t + 1), by omega, t + 1, st, bs, b, _, _, _, rfl, ?_, e5.trans e6, e6 _ _ h1, e6 _ _ h2, hbH, rfl⟩
          have := M.lay W L.lm (by omega)
          rw [show ((t + 1 : Nat) : Int) = (t : Int) + 1 by omega]
          exact this
      · have e : ls = [] := by
          cases ls with
          | nil => rfl
          | cons a r => cases hb
        subst e
        exact g_ret (ev_var rfl) fun H4 e4 => q S st H4 (e3.trans e4) hS (e4 _ _ hS3) (L.done W (by omega))
theorem ok_farthest {f : Addr} {fd : FuncData} (F : Fun K "_farthest" "_farthest" s__farthest f fd) (B : Bt mg)
    {f1 : Addr} {fd1 : FuncData} (C__steps_from : Cal P w K mg base CX0 1 "_steps_from" ["neighbours", "number"] spSteps f1 fd1) : FnOk P w K mg base CX0 2 f fd ["neighbours", "number"] spFarthest := by
  refine F.ok sc__farthest (fun vs H Q E h => ?_) (fun cdv A outer s H vs Q E hr h => ?_)
  · obtain ⟨d, m, ad, n, rfl, _⟩ := h
    rfl
  · obtain ⟨d, m, ad, n, rfl, hN, W, nk, q⟩ := h
    have hu := hu_of hr
    refine ⟨_, (pss_one (ps_ret (pe_callB (cr_maxV rfl) (by rfl) B.max (by decide +kernel) (pa_cons (pe_bm0 PySem.F.plainAttrs_dict PySem.F.slot_dict_values PySem.F.type_dict_values mt_values (pe_cal C__steps_from (hr.mono (by decide)) (pa_cons (pv 0) (pa_cons (pv 1) pa_nil)))) pa_nil)))), ?_⟩
    try dsimp only [cxOf, Cx.nox]
    refine Go.at ?_
    walk_at "s0"
    refine g_ret (v := .int (reachB m n)) (ev_maxV ?_) fun H3 e3 => q H3 e3
    refine ex_call (ax_of (ea_cons (ev_var rfl) (ea_cons (ev_var rfl) ea_nil))) fun vs H1 e hv Q k => ?_
    subst hv
    refine ⟨d, m, ad, n, rfl, hN.up e, W, nk, fun p st H3 e3 hp h3 S => k _ _ e3 ⟨p, encI st, st.map (·.2), rfl, h3, ?_, ?_, ?_⟩⟩
    · unfold encI
      rw [List.map_map, List.map_map]
      rfl
    · rw [List.length_map]
      exact steps_ne S nk
    · have ne : st.map (·.2) ≠ [] := fun z => by
        have := steps_ne S nk
        rw [List.map_eq_nil_iff.mp z] at this
        cases this
      exact steps_max S nk (maxL_mem ne) fun y hy => maxL_ge hy
theorem ok_reach {f : Addr} {fd : FuncData} (F : Fun K "reach" "reach" s_reach f fd) (B : Bt mg)
    {f1 f2 : Addr} {fd1 fd2 : FuncData} (C__neighbours : Cal P w K mg base CX0 1 "_neighbours" ["bases"] spNbs f1 fd1) (C__farthest : Cal P w K mg base CX0 2 "_farthest" ["neighbours", "number"] spFarthest f2 fd2) : FnOk P w K mg base CX0 3 f fd ["bases", "number"] spReach := by
  refine F.ok sc_reach (fun vs H Q E h => ?_) (fun cdv A outer s H vs Q E hr h => ?_)
  · obtain ⟨d, m, n, rfl, _⟩ := h
    rfl
  · obtain ⟨d, m, n, rfl, hd, W, nk, q⟩ := h
    have hu := hu_of hr
    refine ⟨_, (pss_one (ps_ret (pe_cal C__farthest (hr.mono (by decide)) (pa_cons (pe_cal C__neighbours (hr.mono (by decide)) (pa_cons (pv 0) pa_nil)) (pa_cons (pv 1) pa_nil))))), ?_⟩
    try dsimp only [cxOf, Cx.nox]
    refine Go.at ?_
    walk_at "s0"
    refine g_retX (R := fun v _ => v = .int (reachB m n)) (ex_call (ax_cons (R := fun v H2 => ∃ p ad, v = .ref p ∧ NbAt H2 p m ad) (ex_call (ax_of (ea_cons (ev_var rfl) ea_nil)) fun vs H1 e hv Q k => ?_) (S := fun x _ => x = [.int n]) (fun v H1 e r => ax_of (ea_cons (ev_var rfl) ea_nil)) ?_) fun vs H1 e hv Q k => ?_) ?_
    · subst hv
      exact ⟨d, m, rfl, e _ _ hd, W, fun p ad H3 e3 hp h3 => k _ _ e3 ⟨p, ad, rfl, h3⟩⟩
    · rintro v H1 H2 e ⟨p, ad, rfl, h⟩
      exact ⟨p, ad, rfl, h.up e⟩
    · obtain ⟨v, vs, rfl, ⟨p, ad, rfl, h⟩, rfl⟩ := hv
      exact ⟨p, m, ad, n, rfl, h, W, nk, fun H5 e5 => k _ H5 e5 rfl⟩
    · rintro v H1 e rfl
      exact q H1 e
theorem ok_middle {f : Addr} {fd : FuncData} (F : Fun K "middle" "middle" s_middle f fd) (B : Bt mg)
    {f1 f2 f3 : Addr} {fd1 fd2 fd3 : FuncData} (C__neighbours : Cal P w K mg base CX0 1 "_neighbours" ["bases"] spNbs f1 fd1) (C__steps_from : Cal P w K mg base CX0 1 "_steps_from" ["neighbours", "number"] spSteps f2 fd2) (C__farthest : Cal P w K mg base CX0 2 "_farthest" ["neighbours", "number"] spFarthest f3 fd3) : FnOk P w K mg base CX0 3 f fd ["bases", "number"] spMiddle := by
  refine F.ok sc_middle (fun vs H Q E h => ?_) (fun cdv A outer s H vs Q E hr h => ?_)
  · obtain ⟨d, m, n, rfl, _⟩ := h
    rfl
  · obtain ⟨d, m, n, rfl, hd, W, nk, q⟩ := h
    have hu := hu_of hr
    refine ⟨_, (pss_cons (ps_set (i := 2) sc_middle.nd rfl (Or.inr rfl) (pe_cal C__neighbours (hr.mono (by decide)) (pa_cons (pv 0) pa_nil)))
  (pss_cons (ps_setLc (i := 3) (own := [("one", 4)]) (g := gName 4) (by rfl) sc_middle.nd rfl rfl (sw_true rfl rfl rfl (by decide +kernel)) (pi_keys (pe_frz (pe_cal C__steps_from (hr.mono (by decide)) (pa_cons (pv 2) (pa_cons (pv 1) pa_nil))))) (blkOk_by (own := [("one", 4)]) (N := ["bases", "number", "neighbours", "ranks", "one"]) (sc := defScope s_middle) (by decide +kernel)) (fun _ _ _ _ _ => (pg_name (i := 4) sc_middle.nd rfl (Or.inl rfl))) (fun _ _ _ _ _ => pts_nil) (fun _ _ _ _ _ => (pe_tup (pa_cons (pe_cal C__farthest (hr.mono (by decide)) (pa_cons (pv 2) (pa_cons (pv 4) pa_nil))) (pa_cons (pe_un un_neg (pv 4)) pa_nil)))))
  (pss_one (ps_ret (pe_un un_neg (pe_ix ix_tup (pe_callB (cr_minP rfl hr.units) (by rfl) B.min (by decide +kernel) (pa_cons (pv 3) pa_nil)) pe_int (fun _ _ => rfl))))))), ?_⟩
    try dsimp only [cxOf, Cx.nox]
    refine Go.at ?_
    walk_at "s0"
    refine g_asgX (R := fun v H2 => ∃ p ad, v = .ref p ∧ NbAt H2 p m ad) (ex_call (ax_of (ea_cons (ev_var rfl) ea_nil)) fun vs H1 e hv Q k => ?_) ?_
    · subst hv
      exact ⟨d, m, rfl, e _ _ hd, W, fun p ad H3 e3 hp h3 => k _ _ e3 ⟨p, ad, rfl, h3⟩⟩
    rintro v H1 e1 ⟨p, ad, rfl, hN⟩
    walk_at "sg"
    refine g_asgX (ex_lcKF (C := fun kvs => ∃ st, kvs = encI st ∧ StepsOf m n st) (R := fun kvs i v H2 => ∀ k : Int, (kvs.map (·.1))[i]? = some (Sum.inl k) → ∃ a, v = .ref a ∧ H2 a = some (.tup [.int (reachB m k), .int (-k)])) ?_ ?_ ?_ (fun x => rfl) ?_) ?_
    · intro kvs i v Ha Hb ts h k hk
      obtain ⟨a, rfl, h1⟩ := h k hk
      exact ⟨a, rfl, ts _ _ h1⟩
    · intro Ha ea
      refine ex_call (ax_of (ea_cons (ev_var rfl) (ea_cons (ev_var rfl) ea_nil))) fun vs Hb eb hv Q k => ?_
      subst hv
      exact ⟨p, m, ad, n, rfl, hN.up (ea.trans eb), W, nk, fun q st H3 e3 hq h3 S => k _ _ e3 ⟨q, encI st, rfl, fresh_back eb hq, h3, st, rfl, S⟩⟩
    · rintro kvs ⟨st, rfl, S⟩
      have := sub_len S.nd fun k hk => (S.mem k).mp hk
      have h2 := tree_len W n
      unfold ksI at this
      rw [List.length_map] at this
      unfold encI
      rw [List.length_map]
      omega
    · rintro kvs ⟨st, rfl, S⟩ i k v Ha ea hk
      obtain ⟨r, hr, e2⟩ : ∃ r, st[i]? = some r ∧ ((Sum.inl r.1 : Key), V.int r.2) = (k, v) := by
        unfold encI at hk
        rw [List.getElem?_map] at hk
        exact Option.map_eq_some_iff.mp hk
      obtain ⟨rfl, rfl⟩ := Prod.mk.inj e2
      have rk := (tree_mem.mp ((S.mem r.1).mp (List.mem_map.mpr ⟨r, List.mem_of_getElem? hr, rfl⟩))).1
      refine (ex_ofU (xs := [.int (reachB m r.1), .int (-r.1)]) (eu_tup (ea_cons (ev_call (ea_cons (ev_var rfl) (ea_cons (ev_var rfl) ea_nil)) (spv_farthest (hN.up ea) W rk)) (ea_cons (ev_un (ev_var rfl) ru_neg) ea_nil)) (by show 2 ≤ 100000; decide))).imp ?_
      rintro v Hb eb ⟨a, rfl, _, h2⟩ k hk
      rw [List.getElem?_map] at hk
      unfold encI at hk
      rw [List.getElem?_map, hr] at hk
      have hk : r.1 = k := Sum.inl.inj (Option.some.inj hk)
      subst hk
      exact ⟨a, rfl, h2⟩
    rintro v H2 e2 ⟨kvs, l, ys, ⟨st, rfl, S⟩, rfl, _, hl, hlen, hys⟩
    walk_at "sg"
    cases st with
    | nil => exact absurd (steps_ne S nk) (Nat.lt_irrefl 0)
    | cons p0 ps =>
      refine g_ret (v := .int (middleB m n)) ?_ fun H3 e3 => q H3 ((e1.trans e2).trans e3)
      rw [← mid_of S]
      refine ev_un (ev_opX1 (ex_minL (q0 := (reachB m p0.1, -p0.1)) (qs := ps.map fun p => (reachB m p.1, -p.1)) (ev_var rfl) (sq_of hl) ?_ ?_) (fun H3 => ev_c) ?_) ru_neg
      · rw [hlen]
        unfold encI
        rw [List.length_map, List.length_cons, List.length_cons, List.length_map]
      · intro i y r h1 h2
        have h2 : ((p0 :: ps).map fun p => (reachB m p.1, -p.1))[i]? = some r := h2
        rw [List.getElem?_map] at h2
        obtain ⟨z, hz, rfl⟩ := Option.map_eq_some_iff.mp h2
        refine hys i y h1 z.1 ?_
        unfold encI
        rw [List.getElem?_map, List.getElem?_map, hz]
        rfl
      · rintro x H3 e3 ⟨b, rfl, hb⟩
        exact rv_ixT (st_of hb) rfl
theorem ok_law {f : Addr} {fd : FuncData} (F : Fun K "law" "law" s_law f fd) (B : Bt mg)
    {f1 f2 f3 f4 f5 f6 f7 : Addr} {fd1 fd2 fd3 fd4 fd5 fd6 fd7 : FuncData} (C__law_cell_at : Cal P w K mg base CX0 1 "_law_cell_at" ["_law_script", "_law_k"] (spCell K) f1 fd1) (C__law_wood : Cal P w K mg base CX0 2 "_law_wood" ["_law_script"] (spWood K) f2 fd2)
    (C__law_whole : Cal P w K mg base CX0 1 "_law_whole" ["_law_found"] spWhole f3 fd3) (C__law_chain : Cal P w K mg base CX0 1 "_law_chain" ["_law_wood_here", "_law_number"] spLChain f4 fd4) (C__law_between : Cal P w K mg base CX0 1 "_law_between" ["_law_one", "_law_other"] (spBetween K) f5 fd5)
    (C_reach : Cal P w K mg base CX0 3 "reach" ["bases", "number"] spReach f6 fd6) (C_middle : Cal P w K mg base CX0 3 "middle" ["bases", "number"] spMiddle f7 fd7) : FnOk P w K mg base CX0 8 f fd ["_law_script"] (spLaw K) := by
  refine F.ok sc_law (fun vs H Q E h => ?_) (fun cdv A outer s H vs Q E hr h => ?_)
  · obtain ⟨a, ns, rfl, _⟩ := h
    rfl
  · obtain ⟨a, ns, rfl, hs, hlen, q⟩ := h
    have hu := hu_of hr
    refine ⟨_, (pss_cons (ps_set (i := 1) sc_law.nd rfl (Or.inl rfl) (pe_cal C__law_wood (hr.mono (by decide)) (pa_cons (pv 0) pa_nil)))
  (pss_cons (ps_set (i := 2) sc_law.nd rfl (Or.inl rfl) (pe_callTy (call_listD rfl) (by rfl) B.list (by decide +kernel) (pa_cons (pv 1) pa_nil)))
  (pss_cons (ps_set (i := 3) sc_law.nd rfl (Or.inr rfl) (pe_ix ix_list (pv 2) (pe_op op_mod (pe_cal C__law_cell_at (hr.mono (by decide)) (pa_cons (pv 0) (pa_cons pe_int pa_nil))) (pe_callB call_len_seq (by rfl) B.len PySem.boot_len (pa_cons (pv 2) pa_nil))) (fun _ _ => rfl)))
  (pss_cons (ps_set (i := 4) sc_law.nd rfl (Or.inr rfl) pe_dnewK)
  (pss_cons (ps_lock (ps_for PassesOwn.never rfl (pi_keys (pv 1)) (pg_name (i := 5) sc_law.nd rfl (Or.inr rfl))
   (pss_one (ps_dput hu (pv 4) (pv 5) (pe_cal C__law_chain (hr.mono (by decide)) (pa_cons (pv 1) (pa_cons (pv 5) pa_nil))) rfl))))
  (pss_cons (ps_lock (ps_setLc (i := 6) (own := [("_law_one", 5)]) (g := gName 5) (by rfl) sc_law.nd rfl rfl (sw_true rfl rfl rfl (by decide +kernel)) (pi_keys (pv 1)) (blkOk_by (own := [("_law_one", 5)]) (N := ["_law_script", "_law_wood_here", "_law_names", "_law_number", "_law_chains", "_law_one", "_law_tree", "_law_far", "_law_least", "_law_handed", "_law_found", "_law_best", "_law_other"]) (sc := defScope s_law) (by decide +kernel)) (fun _ _ _ _ _ => (pg_name (i := 5) sc_law.nd rfl (Or.inl rfl))) (fun _ _ _ _ _ => (pts_one (pt_cmpR op_eq (pe_ix (id (α := IxR _ (rIxL K)) ix_list) (pe_dget hu (pv 4) (pv 5) (fun _ _ => rfl)) (pe_un un_neg pe_int) (fun _ _ => rfl)) (pe_ix (id (α := IxR _ (rIxL K)) ix_list) (pe_dget hu (pv 4) (pv 3) (fun _ _ => rfl)) (pe_un un_neg pe_int) (fun _ _ => rfl)) (nomark _)))) (fun _ _ _ _ _ => (pv 5))))
  (pss_cons (ps_set (i := 7) sc_law.nd rfl (Or.inr rfl) pe_dnewK)
  (pss_cons (ps_for PassesOwn.never rfl (pi_list (pv 6)) (pg_name (i := 5) sc_law.nd rfl (Or.inr rfl))
   (pss_one (ps_dput hu (pv 7) (pv 5) (pe_callB (cr_max rfl) (by rfl) B.max (by decide +kernel) (pa_cons (pe_lc (own := [("_law_other", 12)]) (g := gName 12) (by rfl) sc_law.nd (pi_list (pv 6)) (blkOk_by (own := [("_law_other", 12)]) (N := ["_law_script", "_law_wood_here", "_law_names", "_law_number", "_law_chains", "_law_one", "_law_tree", "_law_far", "_law_least", "_law_handed", "_law_found", "_law_best", "_law_other"]) (sc := defScope s_law) (by decide +kernel)) (fun _ _ _ _ _ => (pg_name (i := 12) sc_law.nd rfl (Or.inl rfl))) (fun _ _ _ _ _ => pts_nil) (fun _ _ _ _ _ => (pe_cal C__law_between (hr.mono (by decide)) (pa_cons (pe_dget hu (pv 4) (pv 5) (fun _ _ => rfl)) (pa_cons (pe_dget hu (pv 4) (pv 12) (fun _ _ => rfl)) pa_nil))))) pa_nil)) rfl)))
  (pss_cons (ps_set (i := 8) sc_law.nd rfl (Or.inr rfl) (pe_callB (cr_min rfl) (by rfl) B.min (by decide +kernel) (pa_cons (pe_lc (own := [("_law_one", 5)]) (g := gName 5) (by rfl) sc_law.nd (pi_list (pv 6)) (blkOk_by (own := [("_law_one", 5)]) (N := ["_law_script", "_law_wood_here", "_law_names", "_law_number", "_law_chains", "_law_one", "_law_tree", "_law_far", "_law_least", "_law_handed", "_law_found", "_law_best", "_law_other"]) (sc := defScope s_law) (by decide +kernel)) (fun _ _ _ _ _ => (pg_name (i := 5) sc_law.nd rfl (Or.inl rfl))) (fun _ _ _ _ _ => pts_nil) (fun _ _ _ _ _ => (pe_dget hu (pv 7) (pv 5) (fun _ _ => rfl)))) pa_nil)))
  (pss_cons (ps_set (i := 9) sc_law.nd rfl (Or.inl rfl) (pe_callTy call_dictD (by rfl) B.dict (by decide +kernel) (pa_cons (pv 1) pa_nil)))
  (pss_cons (ps_set (i := 10) sc_law.nd rfl (Or.inl rfl) (pe_cal C_reach (hr.mono (by decide)) (pa_cons (pv 9) (pa_cons (pv 3) pa_nil))))
  (pss_cons (ps_set (i := 11) sc_law.nd rfl (Or.inl rfl) (pe_cal C_middle (hr.mono (by decide)) (pa_cons (pv 9) (pa_cons (pv 3) pa_nil))))
  (pss_cons (ps_if (PW.pt (pw_or (pt_cmpR (op_ne_dictA (Nat.lt_of_succ_lt hu)) (pv 9) (pv 1) (nomark _)) (pw_or (pt_not (pt_val (pe_cal C__law_whole (hr.mono (by decide)) (pa_cons (pv 10) pa_nil)))) (pw_or1 (pt_not (pt_val (pe_cal C__law_whole (hr.mono (by decide)) (pa_cons (pv 11) pa_nil)))))))) (pss_one (ps_ret pe_bl)) pss_nil)
  (pss_one (ps_ret (pe_and (pe_cmpR op_eq (pv 10) (pe_dget hu (pv 7) (pv 3) (fun _ _ => rfl)) (nomark _)) (pe_one (pe_cmpR op_eq (pv 11) (pe_callB (cr_max rfl) (by rfl) B.max (by decide +kernel) (pa_cons (pe_lc (own := [("_law_one", 5)]) (g := gName 5) (by rfl) sc_law.nd (pi_list (pv 6)) (blkOk_by (own := [("_law_one", 5)]) (N := ["_law_script", "_law_wood_here", "_law_names", "_law_number", "_law_chains", "_law_one", "_law_tree", "_law_far", "_law_least", "_law_handed", "_law_found", "_law_best", "_law_other"]) (sc := defScope s_law) (by decide +kernel)) (fun _ _ _ _ _ => (pg_name (i := 5) sc_law.nd rfl (Or.inl rfl))) (fun _ _ _ _ _ => (pts_one (pt_cmpR op_eq (pe_dget hu (pv 7) (pv 5) (fun _ _ => rfl)) (pv 8) (nomark _)))) (fun _ _ _ _ _ => (pv 5))) pa_nil)) (nomark _))))))))))))))))))), ?_⟩
    try dsimp only [cxOf, Cx.nox]
    walk_at "s0"
    -- the dict
    refine ⟨_, rfl, a, ns, rfl, hs, fun m W d H1 hd e1 hd1 => ?_⟩
    dsimp only [gName]
    walk_at "sg"
    have hs := ex_l e1 hs
    refine go_at (H0 := H1) ?_ (Ex.refl H1)
    refine g_asgL (xs := (keysB m).map V.int) ?_ ?_
    · have e := el_listD (σ := [some (.ref a), some (.ref d), none, none, none, none, none, none, none, none, none, none, none]) (ta := tCons (tVar 1) tNil) (H := H1) (ea_cons (ev_var rfl) ea_nil) (.inl hd1)
      rw [enc_keys] at e
      exact e
    intro N H2 e2 hN hN2
    walk_at "sg"
    have kl : (keysB m).length = m.length := List.length_map ..
    have few := W.few
    have m1 : 0 ≤ cell ns 3 % (m.length : Int) := Int.emod_nonneg _ (by have := W.pos; omega)
    have m2 : cell ns 3 % (m.length : Int) < (m.length : Int) := Int.emod_lt_of_pos _ (by have := W.pos; omega)
    obtain ⟨n, hn⟩ : ∃ n, (keysB m)[(cell ns 3 % (m.length : Int)).toNat]? = some n := ⟨_, List.getElem?_eq_getElem (by omega)⟩
    have nk : n ∈ keysB m := List.mem_of_getElem? hn
    have hs := ex_l e2 hs
    refine g_asg (v := .int n) ?_ ?_
    · refine ev_op (y := .int (cell ns 3 % (m.length : Int))) (ev_var rfl) ?_ (rv_ixL (sq_of hN2) (atI_mod m1 ?_))
      · refine ev_op (by walk_at "ev") (ev_is (ev_cb (ea_cons (ev_var rfl) ea_nil) (rc_lenL (sq_of hN2))) (by rw [List.length_map, kl])) (rv_I (by have := W.pos; omega))
      · rw [List.getElem?_map, hn]
        rfl
    walk_at "sg"
    -- the chains
    refine g_dnew ?_
    intro C H3 e3 hC hC3
    walk_at "sg"
    have hd2 := e2 _ _ hd1
    have hd3 := e3 _ _ hd2
    have nCd : C ≠ d := (ne_at hd2 hC).symm
    have kn : (keysB m).Nodup := W.nd
    refine g_forK (kvs := encB m) (fun L => ev_var rfl) hd3
      (fun od i σ' L => Mu H2 d (.frz od (.dK (encB m))) L ∧ (∃ cs, Chs m L C ((keysB m).take i) cs) ∧
        ∃ x : Option V, σ' = [some (.ref a), some (.ref d), some (.ref N), some (.int n), some (.ref C), x, none, none, none, none, none, none, none]) ?_ ?_ ?_ ?_
    · intro od L mu
      exact ⟨mu.low e3, ⟨[], mu.rest _ _ nCd hC3, rfl, fun p hp => nomatch hp⟩, _, rfl⟩
    · rintro od i σ' L ⟨mu, _⟩
      exact mu.at_
    · rintro od i k v σ' L hi ⟨mu, ⟨cs, ch⟩, x, rfl⟩
      obtain ⟨y, hy, rfl⟩ := enc_at hi
      have yk : y ∈ keysB m := List.mem_of_getElem? hy
      walk_at "sg"
      have cl : cs.length = ((keysB m).take i).length := by rw [← ch.ks, List.length_map]
      refine g_dputL1 (x := Sum.inl y) ch.at_ (el_call (ea_cons (ev_var rfl) (ea_cons (ev_var rfl) ea_nil)) (spl_lchain (.inr ⟨od, mu.at_⟩) W yk)) (ev_var rfl) (ev_var rfl) (by rw [List.length_map, cl, List.length_take]; omega) fun p L2 e hp hp2 L3 mu2 => ?_
      refine ⟨(mu.up e).mut mu2 hC nCd.symm, ⟨cs ++ [(y, p)], ?_, ?_, ?_⟩, _, rfl⟩
      · rw [mu2.at_, put_new, List.map_append]
        · rfl
        · rw [List.map_map]
          show ¬ Sum.inl y ∈ cs.map ((fun n : Int => (Sum.inl n : Key)) ∘ fun p : Int × Addr => p.1)
          rw [← List.map_map, ch.ks]
          intro z
          obtain ⟨j, hj, e⟩ := List.mem_map.mp z
          have e : j = y := Sum.inl.inj e
          subst e
          obtain ⟨q, hq, hq2⟩ := List.getElem_of_mem hj
          rw [List.length_take] at hq
          rw [List.getElem_take] at hq2
          have hi2 := (List.getElem?_eq_some_iff.mp hy)
          refine List.pairwise_iff_getElem.mp kn q i (by omega) hi2.1 (by omega) ?_
          rw [hq2, hi2.2]
      · rw [List.map_append, ch.ks, List.take_add_one, hy]
        rfl
      · intro q hq
        rcases List.mem_append.mp hq with hq | hq
        · exact mu2.rest _ _ (ne_obj (ch.ch q hq) ch.at_ (by intro z; cases z)) (e _ _ (ch.ch q hq))
        · rw [List.mem_singleton.mp hq]
          exact mu2.rest _ _ (fun z => by have z : p = C := z; rw [z, ch.at_] at hp; cases hp) hp2
    rintro od σ' L ⟨mu, ⟨cs, ch⟩, x, rfl⟩
    rw [enc_len, List.take_of_length_le (Nat.le_refl _)] at ch
    have e4 := mu.back hd2
    have hd4 : upd L d (.dK (encB m)) d = some (.dK (encB m)) := upd_same
    have ch4 : Chs m (upd L d (.dK (encB m))) C (keysB m) cs := ⟨by rw [upd_ne nCd]; exact ch.at_, ch.ks, fun p hp => by rw [upd_ne (ne_obj (ch.ch p hp) mu.at_ (by intro z; cases z))]; exact ch.ch p hp⟩
    generalize upd L d (.dK (encB m)) = H4 at e4 hd4 ch4
    clear mu ch hC3 e3 hd3 H3
    -- the tree
    have last : ∀ (σ : L2.St) (H5 : Hp) (j : Nat) (k : Int), Chs m H5 C (keysB m) cs → k ∈ keysB m → σ[4]? = some (some (.ref C)) → σ[j]? = some (some (.int k)) → Ev (tOp (rIxL K) (tDGet (tVar 4) (tVar j)) (tUn (rU fun i => .int (-i)) (tC (.int 1)))) σ H5 (.int (rootB m k)) := by
      intro σ H5 j k ch hk h1 h2
      obtain ⟨qk, vk, hq⟩ := ch.get kn hk
      refine ev_op (ev_dget (x := Sum.inl k) (ev_var h1) (ev_var h2) (.inl ch.at_) vk) (ev_un ev_c ru_neg) (rv_ixL (sq_of hq) (atI_last (i := (chainB m k).length - 1) ?_ ?_))
      · have := List.length_pos_iff.mpr (chain_ne (m := m) k)
        rw [List.length_map]
        omega
      · rw [List.getElem?_map, root_at]
        rfl
    have kle : (keysB m).length ≤ 64 := by omega
    refine g_lockL (u := .dK (encB m)) (xs := (treeB m n).map V.int) hd4 trivial (fun od L mu => ?_) ?_
    · have chL : Chs m L C (keysB m) cs := ⟨mu.rest _ _ nCd ch4.at_, ch4.ks, fun p hp => mu.rest _ _ (ne_obj (ch4.ch p hp) hd4 (by intro z; cases z)) (ch4.ch p hp)⟩
      have e : given (encB m).length (fun i => match (keysB m)[i]? with
          | some k => decide (rootB m k = rootB m n)
          | none => false) (fun i => match (keysB m)[i]? with
          | some k => .int k
          | none => .non) = (treeB m n).map V.int := by
        rw [enc_len]
        exact given_filter _ _ _ _ _ fun i x hx => by
          try dsimp only
          rw [hx]
          exact ⟨rfl, rfl⟩
      rw [← e]
      refine el_lcK _ _ (ev_var rfl) mu.at_ (by rw [enc_len]; omega) (fun x => rfl) (fun i k v H5 e5 hi => ?_) fun i k v H5 e5 hi _ => ?_
      · obtain ⟨y, hy, rfl⟩ := enc_at hi
        try dsimp only
        rw [hy]
        exact et_test (ev_op (last _ H5 5 y (chL.up e5) (List.mem_of_getElem? hy) rfl rfl) (last _ H5 3 n (chL.up e5) nk rfl rfl) rv_eqI)
      · obtain ⟨y, hy, rfl⟩ := enc_at hi
        try dsimp only
        rw [hy]
        exact ev_var rfl
    intro T H5 e5 hT hT5
    walk_at "sg"
    have ch5 := ch4.up e5
    have hd5 := e5 _ _ hd4
    have tl := tree_len W n
    have tnd := tree_nodup W n
    have tk : ∀ k, k ∈ treeB m n → k ∈ keysB m := fun k hk => (tree_mem.mp hk).1
    -- far
    refine g_dnew ?_
    intro F H6 e6 hF hF6
    walk_at "sg"
    refine g_forL (xs := (treeB m n).map V.int) (ev_var rfl) (sq_of (e6 _ _ hT5))
      (fun i σ' H' => Ex H5 H' ∧ H' F = some (.dK (((treeB m n).take i).map fun k => (Sum.inl k, .int (reachB m k)))) ∧
        ∃ x : Option V, σ' = [some (.ref a), some (.ref d), some (.ref N), some (.int n), some (.ref C), x, some (.ref T), some (.ref F), none, none, none, none, none]) ?_ ?_ ?_ ?_
    · intro H7 e7
      exact ⟨e6.trans e7, e7 _ _ hF6, _, rfl⟩
    · rintro i σ' H' _ ⟨e7, _⟩
      exact sq_of (e7 _ _ hT5)
    · rintro i v σ' H' hi ⟨e7, hF7, x, rfl⟩
      rw [List.getElem?_map] at hi
      obtain ⟨k, hk, rfl⟩ := Option.map_eq_some_iff.mp hi
      have kt := List.mem_of_getElem? hk
      walk_at "sg"
      have ch7 := ch5.up e7
      refine g_dput1 (x := Sum.inl k) (v := .int (reachB m k)) hF7 ?_ (ev_var rfl) (ev_var rfl) (by rw [List.length_map, List.length_take]; omega) fun H8 mu => ⟨mu.ex e7 hF, ?_, _, rfl⟩
      · unfold reachB
        rw [tree_same kt]
        refine ev_maxN ?_ (fun z => by rw [List.map_eq_nil_iff.mp z] at kt; cases kt)
        have e : given ((treeB m n).map V.int).length (fun _ => true) (fun i => match (treeB m n)[i]? with
            | some o => .int (betwF (chainB m k) (chainB m o))
            | none => .non) = ((treeB m n).map fun o => betwF (chainB m k) (chainB m o)).map V.int := by
          rw [List.length_map, List.map_map]
          exact given_map _ _ _ fun i x hx => by
            try dsimp only
            rw [hx]
            rfl
        rw [← e]
        refine el_lcL _ _ (ev_var rfl) (sq_of (e7 _ _ hT5)) (by rw [List.length_map]; omega) (fun x => rfl) (fun i x H9 e9 hi => et_yes) fun i x H9 e9 hi _ => ?_
        rw [List.getElem?_map] at hi
        obtain ⟨o, ho, rfl⟩ := Option.map_eq_some_iff.mp hi
        try dsimp only
        rw [ho]
        have ch9 := ch7.up e9
        obtain ⟨qk, vk, hqk⟩ := ch9.get kn (tk k kt)
        obtain ⟨qo, vo, hqo⟩ := ch9.get kn (tk o (List.mem_of_getElem? ho))
        exact ev_call (ea_cons (ev_dget (x := Sum.inl k) (ev_var rfl) (ev_var rfl) (.inl ch9.at_) vk) (ea_cons (ev_dget (x := Sum.inl o) (ev_var rfl) (ev_var rfl) (.inl ch9.at_) vo) ea_nil)) (spv_between (sq_of hqk) (sq_of hqo) (by have := chain_len (m := m) k; omega))
      · rw [mu.at_, far_put (g := fun k => .int (reachB m k)) tnd hk]
    rintro σ' H7 ⟨e7, hF7, x, rfl⟩
    rw [List.length_map, List.take_of_length_le (Nat.le_refl _)] at hF7
    have hT7 := e7 _ _ hT5
    have ch7 := ch5.up e7
    have hd7 := e7 _ _ hd5
    have tne : treeB m n ≠ [] := fun z => by
      have := tree_self nk
      rw [z] at this
      cases this
    -- least
    refine g_asg (v := .int (leastB m n)) ?_ ?_
    · unfold leastB
      refine ev_minN ?_ (fun z => tne (List.map_eq_nil_iff.mp z))
      have e : given ((treeB m n).map V.int).length (fun _ => true) (fun i => match (treeB m n)[i]? with
          | some o => .int (reachB m o)
          | none => .non) = ((treeB m n).map (reachB m)).map V.int := by
        rw [List.length_map, List.map_map]
        exact given_map _ _ _ fun i x hx => by
          try dsimp only
          rw [hx]
          rfl
      rw [← e]
      refine el_lcL _ _ (ev_var rfl) (sq_of hT7) (by rw [List.length_map]; omega) (fun x => rfl) (fun i x H9 e9 hi => et_yes) fun i x H9 e9 hi _ => ?_
      rw [List.getElem?_map] at hi
      obtain ⟨o, ho, rfl⟩ := Option.map_eq_some_iff.mp hi
      try dsimp only
      rw [ho]
      exact ev_dget (x := Sum.inl o) (ev_var rfl) (ev_var rfl) (.inl (e9 _ _ hF7)) (far_val tnd (List.mem_of_getElem? ho))
    walk_at "sg"
    refine g_asgD (kvs := encB m) (ed_dictD (ea_cons (ev_var rfl) ea_nil) (.inl hd7)) ?_
    intro d2 H8 e8 _ hd8
    walk_at "sg"
    refine g_asg (v := .int (reachB m n)) (ev_call (ea_cons (ev_var rfl) (ea_cons (ev_var rfl) ea_nil)) (spv_reach hd8 W nk)) ?_
    walk_at "sg"
    refine g_asg (v := .int (middleB m n)) (ev_call (ea_cons (ev_var rfl) (ea_cons (ev_var rfl) ea_nil)) (spv_middle hd8 W nk)) ?_
    walk_at "sg"
    refine g_when (b := false || (!true || !true)) (et_or (et_test (ev_op (ev_var rfl) (ev_var rfl) (rv_neDict hd8 (e8 _ _ hd7) (enc_flat W)))) fun _ => et_or (et_not (et_B (ev_call (ea_cons (ev_var rfl) ea_nil) spv_whole))) fun _ => et_not (et_B (ev_call (ea_cons (ev_var rfl) ea_nil) spv_whole))) (fun hb => ?_) fun _ => ?_
    · cases hb
    have hF8 := e8 _ _ hF7
    have hT8 := e8 _ _ hT7
    refine g_ret (v := .bl (decide (reachB m n = reachB m n) && decide (middleB m n = middleB m n))) ?_ fun H9 e9 => ?_
    · refine ev_andV (ev_op (ev_var rfl) (ev_dget (x := Sum.inl n) (ev_var rfl) (ev_var rfl) (.inl hF8) (far_val (g := fun k => .int (reachB m k)) tnd (tree_self nk))) rv_eqI) fun _ => ev_op (ev_var rfl) ?_ rv_eqI
      refine ev_maxN ?_ ?_
      · have e : given ((treeB m n).map V.int).length (fun i => match (treeB m n)[i]? with
            | some k => decide (reachB m k = leastB m n)
            | none => false) (fun i => match (treeB m n)[i]? with
            | some k => .int k
            | none => .non) = ((treeB m n).filter fun k => decide (reachB m k = leastB m n)).map V.int := by
          rw [List.length_map]
          exact given_filter _ _ _ _ _ fun i x hx => by
            try dsimp only
            rw [hx]
            exact ⟨rfl, rfl⟩
        rw [← e]
        refine el_lcL _ _ (ev_var rfl) (sq_of hT8) (by rw [List.length_map]; omega) (fun x => rfl) (fun i x H9 e9 hi => ?_) fun i x H9 e9 hi _ => ?_
        · rw [List.getElem?_map] at hi
          obtain ⟨o, ho, rfl⟩ := Option.map_eq_some_iff.mp hi
          try dsimp only
          rw [ho]
          exact et_test (ev_op (ev_dget (x := Sum.inl o) (ev_var rfl) (ev_var rfl) (.inl (e9 _ _ hF8)) (far_val (g := fun k => .int (reachB m k)) tnd (List.mem_of_getElem? ho))) (ev_var rfl) rv_eqI)
        · rw [List.getElem?_map] at hi
          obtain ⟨o, ho, rfl⟩ := Option.map_eq_some_iff.mp hi
          try dsimp only
          rw [ho]
          exact ev_var rfl
      · obtain ⟨k, hk, e⟩ := least_mem nk
        intro z
        have : k ∈ (treeB m n).filter fun k => decide (reachB m k = leastB m n) := List.mem_filter.mpr ⟨hk, decide_eq_true e⟩
        rw [z] at this
        cases this
    · rw [decide_eq_true rfl, decide_eq_true rfl]
      exact q H9
end
theorem all_mk {l : PySem.W.OpenLaw} {w : World} {K : PySem.W.Frag} {h : Heap} {mg : Str → Option Value} {fa : Addr} (X : K.In h) (G : h.Ns mainGlobals mg) (hfa : mg "law" = some (.ref fa))
    {f1 : Addr} {od1 an1 : Option Addr} {sl1 : Array (Option Value)} {oc1 kV1 dc1 pm1 cd1 ct1 : Value} {f2 : Addr} {od2 an2 : Option Addr} {sl2 : Array (Option Value)} {oc2 kV2 dc2 pm2 cd2 ct2 : Value} {f3 : Addr} {od3 an3 : Option Addr} {sl3 : Array (Option Value)} {oc3 kV3 dc3 pm3 cd3 ct3 : Value} {f4 : Addr} {od4 an4 : Option Addr} {sl4 : Array (Option Value)} {oc4 kV4 dc4 pm4 cd4 ct4 : Value} {f5 : Addr} {od5 an5 : Option Addr} {sl5 : Array (Option Value)} {oc5 kV5 dc5 pm5 cd5 ct5 : Value} {f6 : Addr} {od6 an6 : Option Addr} {sl6 : Array (Option Value)} {oc6 kV6 dc6 pm6 cd6 ct6 : Value} {f7 : Addr} {od7 an7 : Option Addr} {sl7 : Array (Option Value)} {oc7 kV7 dc7 pm7 cd7 ct7 : Value} {f8 : Addr} {od8 an8 : Option Addr} {sl8 : Array (Option Value)} {oc8 kV8 dc8 pm8 cd8 ct8 : Value} {f9 : Addr} {od9 an9 : Option Addr} {sl9 : Array (Option Value)} {oc9 kV9 dc9 pm9 cd9 ct9 : Value} {f10 : Addr} {od10 an10 : Option Addr} {sl10 : Array (Option Value)} {oc10 kV10 dc10 pm10 cd10 ct10 : Value} {f11 : Addr} {od11 an11 : Option Addr} {sl11 : Array (Option Value)} {oc11 kV11 dc11 pm11 cd11 ct11 : Value}
    (a1 : PySem.W.nsIn K mainGlobals "_law_cell_at" = some (some (.ref f1)))
    (l1 : K.lookup f1 = some ⟨oc1, od1, .func (PySem.W.fnOf "_law_cell_at" "_law_cell_at" (defArgs s__law_cell_at) (defBody s__law_cell_at) (defScope s__law_cell_at) .none kV1 dc1 pm1 an1 cd1 ct1), sl1⟩)
    (c1 : PySem.W.codeIn K cd1 "_law_cell_at" = true)
    (k1 : PySem.W.keepIn K (.ref f1) = true)
    (a2 : PySem.W.nsIn K mainGlobals "_law_whole" = some (some (.ref f2)))
    (l2 : K.lookup f2 = some ⟨oc2, od2, .func (PySem.W.fnOf "_law_whole" "_law_whole" (defArgs s__law_whole) (defBody s__law_whole) (defScope s__law_whole) .none kV2 dc2 pm2 an2 cd2 ct2), sl2⟩)
    (c2 : PySem.W.codeIn K cd2 "_law_whole" = true)
    (k2 : PySem.W.keepIn K (.ref f2) = true)
    (a3 : PySem.W.nsIn K mainGlobals "_law_wood" = some (some (.ref f3)))
    (l3 : K.lookup f3 = some ⟨oc3, od3, .func (PySem.W.fnOf "_law_wood" "_law_wood" (defArgs s__law_wood) (defBody s__law_wood) (defScope s__law_wood) .none kV3 dc3 pm3 an3 cd3 ct3), sl3⟩)
    (c3 : PySem.W.codeIn K cd3 "_law_wood" = true)
    (k3 : PySem.W.keepIn K (.ref f3) = true)
    (a4 : PySem.W.nsIn K mainGlobals "_law_chain" = some (some (.ref f4)))
    (l4 : K.lookup f4 = some ⟨oc4, od4, .func (PySem.W.fnOf "_law_chain" "_law_chain" (defArgs s__law_chain) (defBody s__law_chain) (defScope s__law_chain) .none kV4 dc4 pm4 an4 cd4 ct4), sl4⟩)
    (c4 : PySem.W.codeIn K cd4 "_law_chain" = true)
    (k4 : PySem.W.keepIn K (.ref f4) = true)
    (a5 : PySem.W.nsIn K mainGlobals "_law_between" = some (some (.ref f5)))
    (l5 : K.lookup f5 = some ⟨oc5, od5, .func (PySem.W.fnOf "_law_between" "_law_between" (defArgs s__law_between) (defBody s__law_between) (defScope s__law_between) .none kV5 dc5 pm5 an5 cd5 ct5), sl5⟩)
    (c5 : PySem.W.codeIn K cd5 "_law_between" = true)
    (k5 : PySem.W.keepIn K (.ref f5) = true)
    (a6 : PySem.W.nsIn K mainGlobals "_neighbours" = some (some (.ref f6)))
    (l6 : K.lookup f6 = some ⟨oc6, od6, .func (PySem.W.fnOf "_neighbours" "_neighbours" (defArgs s__neighbours) (defBody s__neighbours) (defScope s__neighbours) .none kV6 dc6 pm6 an6 cd6 ct6), sl6⟩)
    (c6 : PySem.W.codeIn K cd6 "_neighbours" = true)
    (k6 : PySem.W.keepIn K (.ref f6) = true)
    (a7 : PySem.W.nsIn K mainGlobals "_steps_from" = some (some (.ref f7)))
    (l7 : K.lookup f7 = some ⟨oc7, od7, .func (PySem.W.fnOf "_steps_from" "_steps_from" (defArgs s__steps_from) (defBody s__steps_from) (defScope s__steps_from) .none kV7 dc7 pm7 an7 cd7 ct7), sl7⟩)
    (c7 : PySem.W.codeIn K cd7 "_steps_from" = true)
    (k7 : PySem.W.keepIn K (.ref f7) = true)
    (a8 : PySem.W.nsIn K mainGlobals "_farthest" = some (some (.ref f8)))
    (l8 : K.lookup f8 = some ⟨oc8, od8, .func (PySem.W.fnOf "_farthest" "_farthest" (defArgs s__farthest) (defBody s__farthest) (defScope s__farthest) .none kV8 dc8 pm8 an8 cd8 ct8), sl8⟩)
    (c8 : PySem.W.codeIn K cd8 "_farthest" = true)
    (k8 : PySem.W.keepIn K (.ref f8) = true)
    (a9 : PySem.W.nsIn K mainGlobals "reach" = some (some (.ref f9)))
    (l9 : K.lookup f9 = some ⟨oc9, od9, .func (PySem.W.fnOf "reach" "reach" (defArgs s_reach) (defBody s_reach) (defScope s_reach) .none kV9 dc9 pm9 an9 cd9 ct9), sl9⟩)
    (c9 : PySem.W.codeIn K cd9 "reach" = true)
    (k9 : PySem.W.keepIn K (.ref f9) = true)
    (a10 : PySem.W.nsIn K mainGlobals "middle" = some (some (.ref f10)))
    (l10 : K.lookup f10 = some ⟨oc10, od10, .func (PySem.W.fnOf "middle" "middle" (defArgs s_middle) (defBody s_middle) (defScope s_middle) .none kV10 dc10 pm10 an10 cd10 ct10), sl10⟩)
    (c10 : PySem.W.codeIn K cd10 "middle" = true)
    (k10 : PySem.W.keepIn K (.ref f10) = true)
    (a11 : PySem.W.nsIn K mainGlobals "law" = some (some (.ref f11)))
    (l11 : K.lookup f11 = some ⟨oc11, od11, .func (PySem.W.fnOf "law" "law" (defArgs s_law) (defBody s_law) (defScope s_law) .none kV11 dc11 pm11 an11 cd11 ct11), sl11⟩)
    (c11 : PySem.W.codeIn K cd11 "law" = true)
    (k11 : PySem.W.keepIn K (.ref f11) = true)
    (z_len : PySem.W.nsIn K mainGlobals "len" = some none)
    (z_range : PySem.W.nsIn K mainGlobals "range" = some none)
    (z_max : PySem.W.nsIn K mainGlobals "max" = some none)
    (z_min : PySem.W.nsIn K mainGlobals "min" = some none)
    (z_isinstance : PySem.W.nsIn K mainGlobals "isinstance" = some none)
    (z_str : PySem.W.nsIn K mainGlobals "str" = some none)
    (z_int : PySem.W.nsIn K mainGlobals "int" = some none)
    (z_bool : PySem.W.nsIn K mainGlobals "bool" = some none)
    (z_tuple : PySem.W.nsIn K mainGlobals "tuple" = some none)
    (z_enumerate : PySem.W.nsIn K mainGlobals "enumerate" = some none)
    (z_zip : PySem.W.nsIn K mainGlobals "zip" = some none)
    (z_ValueError : PySem.W.nsIn K mainGlobals "ValueError" = some none)
    (z_list : PySem.W.nsIn K mainGlobals "list" = some none)
    (z_dict : PySem.W.nsIn K mainGlobals "dict" = some none)
    (z_sorted : PySem.W.nsIn K mainGlobals "sorted" = some none)
    (z_sum : PySem.W.nsIn K mainGlobals "sum" = some none) :
    ∃ fd : FuncData, (∀ (s : Shared) (v : Value), BindsTo s fd ⟨[v], []⟩ [("_law_script", v)]) ∧ ∀ base : Heap, K.In base → base.Ns mainGlobals mg → FnOk l.prog w K mg base CX0 8 fa fd ["_law_script"] (spLaw K) := by
  have e := hfa.symm.trans (PySem.W.mg_of X G a11)
  cases e
  have B : Bt mg := ⟨PySem.W.mg_none_of X G z_len, PySem.W.mg_none_of X G z_range, PySem.W.mg_none_of X G z_max, PySem.W.mg_none_of X G z_min, PySem.W.mg_none_of X G z_isinstance, PySem.W.mg_none_of X G z_str, PySem.W.mg_none_of X G z_int, PySem.W.mg_none_of X G z_bool, PySem.W.mg_none_of X G z_tuple, PySem.W.mg_none_of X G z_enumerate, PySem.W.mg_none_of X G z_zip, PySem.W.mg_none_of X G z_ValueError, PySem.W.mg_none_of X G z_list, PySem.W.mg_none_of X G z_dict, PySem.W.mg_none_of X G z_sorted, PySem.W.mg_none_of X G z_sum⟩
  have F1 := fun_mk (st := s__law_cell_at) l1 c1 k1
  have F2 := fun_mk (st := s__law_whole) l2 c2 k2
  have F3 := fun_mk (st := s__law_wood) l3 c3 k3
  have F4 := fun_mk (st := s__law_chain) l4 c4 k4
  have F5 := fun_mk (st := s__law_between) l5 c5 k5
  have F6 := fun_mk (st := s__neighbours) l6 c6 k6
  have F7 := fun_mk (st := s__steps_from) l7 c7 k7
  have F8 := fun_mk (st := s__farthest) l8 c8 k8
  have F9 := fun_mk (st := s_reach) l9 c9 k9
  have F10 := fun_mk (st := s_middle) l10 c10 k10
  have F11 := fun_mk (st := s_law) l11 c11 k11
  refine ⟨PySem.W.fnOf "law" "law" (defArgs s_law) (defBody s_law) (defScope s_law) .none kV11 dc11 pm11 an11 cd11 ct11, fun s v => .of_eq rfl, fun base _ _ => ?_⟩
  have b1 := F1.binds (ps := ["_law_script", "_law_k"]) fun _ _ _ _ _ _ us hl => match us, hl with | [_, _], _ => rfl
  have c_cell : Cal l.prog w K mg base CX0 1 "_law_cell_at" ["_law_script", "_law_k"] (spCell K) _ _ := ⟨ok_cell F1 B, PySem.W.mg_of X G a1, k1, b1⟩
  have b2 := F2.binds (ps := ["_law_found"]) fun _ _ _ _ _ _ us hl => match us, hl with | [_], _ => rfl
  have c_whole : Cal l.prog w K mg base CX0 1 "_law_whole" ["_law_found"] spWhole _ _ := ⟨ok_whole F2 B, PySem.W.mg_of X G a2, k2, b2⟩
  have b3 := F3.binds (ps := ["_law_script"]) fun _ _ _ _ _ _ us hl => match us, hl with | [_], _ => rfl
  have c_wood : Cal l.prog w K mg base CX0 2 "_law_wood" ["_law_script"] (spWood K) _ _ := ⟨ok_wood F3 B c_cell, PySem.W.mg_of X G a3, k3, b3⟩
  have b4 := F4.binds (ps := ["_law_wood_here", "_law_number"]) fun _ _ _ _ _ _ us hl => match us, hl with | [_, _], _ => rfl
  have c_lchain : Cal l.prog w K mg base CX0 1 "_law_chain" ["_law_wood_here", "_law_number"] spLChain _ _ := ⟨ok_lchain F4 B, PySem.W.mg_of X G a4, k4, b4⟩
  have b5 := F5.binds (ps := ["_law_one", "_law_other"]) fun _ _ _ _ _ _ us hl => match us, hl with | [_, _], _ => rfl
  have c_between : Cal l.prog w K mg base CX0 1 "_law_between" ["_law_one", "_law_other"] (spBetween K) _ _ := ⟨ok_between F5 B, PySem.W.mg_of X G a5, k5, b5⟩
  have b6 := F6.binds (ps := ["bases"]) fun _ _ _ _ _ _ us hl => match us, hl with | [_], _ => rfl
  have c_nbs : Cal l.prog w K mg base CX0 1 "_neighbours" ["bases"] spNbs _ _ := ⟨ok_nbs F6 B, PySem.W.mg_of X G a6, k6, b6⟩
  have b7 := F7.binds (ps := ["neighbours", "number"]) fun _ _ _ _ _ _ us hl => match us, hl with | [_, _], _ => rfl
  have c_steps : Cal l.prog w K mg base CX0 1 "_steps_from" ["neighbours", "number"] spSteps _ _ := ⟨ok_steps F7 B, PySem.W.mg_of X G a7, k7, b7⟩
  have b8 := F8.binds (ps := ["neighbours", "number"]) fun _ _ _ _ _ _ us hl => match us, hl with | [_, _], _ => rfl
  have c_farthest : Cal l.prog w K mg base CX0 2 "_farthest" ["neighbours", "number"] spFarthest _ _ := ⟨ok_farthest F8 B c_steps, PySem.W.mg_of X G a8, k8, b8⟩
  have b9 := F9.binds (ps := ["bases", "number"]) fun _ _ _ _ _ _ us hl => match us, hl with | [_, _], _ => rfl
  have c_reach : Cal l.prog w K mg base CX0 3 "reach" ["bases", "number"] spReach _ _ := ⟨ok_reach F9 B c_nbs c_farthest, PySem.W.mg_of X G a9, k9, b9⟩
  have b10 := F10.binds (ps := ["bases", "number"]) fun _ _ _ _ _ _ us hl => match us, hl with | [_, _], _ => rfl
  have c_middle : Cal l.prog w K mg base CX0 3 "middle" ["bases", "number"] spMiddle _ _ := ⟨ok_middle F10 B c_nbs c_steps c_farthest, PySem.W.mg_of X G a10, k10, b10⟩
  exact ok_law F11 B c_cell c_wood c_whole c_lchain c_between c_reach c_middle
theorem walk {l : PySem.W.OpenLaw} {q : Program} {loose : List Str} {XP : (Str → Option Value) → Heap → Prop} {YP : World → Heap → Prop} {d : DefRec} {K : Params → PySem.W.Frag} (hn : l.most = some 63) (hdf : d.params.defaults = [])
    (hY : ∀ (w : World) (h : Heap), YP w h → (K w.params).In h)
    (F : ∀ (w : World) (mg : Str → Option Value) (fa : Addr) (h : Heap), (K w.params).In h → h.Ns mainGlobals mg → mg d.name = some (.ref fa) →
      ∃ fd : FuncData, (∀ (s : Shared) (u : Value), BindsTo s fd ⟨[u], []⟩ [("_law_script", u)]) ∧ ∀ base : Heap, (K w.params).In base → base.Ns mainGlobals mg → FnOk l.prog w (K w.params) mg base CX0 8 fa fd ["_law_script"] (spLaw (K w.params))) :
    PySem.W.WalkO q loose XP YP l.row.toRowW d [] (fun f vs => PySem.call f vs) :=
  L2.walk_of (n := 63) (k := 8) (x := "_law_script") (CX := fun _ => CX0) (sp := fun w => spLaw (K w.params)) hn (by decide) hdf ⟨rfl, by decide, by decide⟩ hY F (fun _ _ a ns hl _ hS => ⟨a, ns, rfl, hS, hl, fun _ => rfl⟩) fun _ _ _ _ _ z => z
end PD
open PySem PySem.W PyProof.Rows
set_option maxRecDepth 100000 in
set_option maxHeartbeats 0 in
theorem PySem.Challenge.cw_packdelta_k05_reach_and_middle_holds : PySem.Challenge.rw_packdelta_k05_reach_and_middle.Holds := by
  w_on; o_law; k_head; (case hw => w_witness2)
  k_fill
  refine PD.walk (l := PySem.Challenge.rw_packdelta_k05_reach_and_middle) rfl rfl (fun w h Y => PySem.W.kIn_of Y) ?F
  case F =>
    intro w mg fa h KX G hmg
    refine' PD.all_mk KX G hmg ?a1 ?l1 ?c1 ?k1 ?a2 ?l2 ?c2 ?k2 ?a3 ?l3 ?c3 ?k3 ?a4 ?l4 ?c4 ?k4 ?a5 ?l5 ?c5 ?k5 ?a6 ?l6 ?c6 ?k6 ?a7 ?l7 ?c7 ?k7 ?a8 ?l8 ?c8 ?k8 ?a9 ?l9 ?c9 ?k9 ?a10 ?l10 ?c10 ?k10 ?a11 ?l11 ?c11 ?k11 ?z_len ?z_range ?z_max ?z_min ?z_isinstance ?z_str ?z_int ?z_bool ?z_tuple ?z_enumerate ?z_zip ?z_ValueError ?z_list ?z_dict ?z_sorted ?z_sum
    (case a1 => k_is)
    (case l1 => k_is)
    (case c1 => k_is)
    (case k1 => k_is)
    (case a2 => k_is)
    (case l2 => k_is)
    (case c2 => k_is)
    (case k2 => k_is)
    (case a3 => k_is)
    (case l3 => k_is)
    (case c3 => k_is)
    (case k3 => k_is)
    (case a4 => k_is)
    (case l4 => k_is)
    (case c4 => k_is)
    (case k4 => k_is)
    (case a5 => k_is)
    (case l5 => k_is)
    (case c5 => k_is)
    (case k5 => k_is)
    (case a6 => k_is)
    (case l6 => k_is)
    (case c6 => k_is)
    (case k6 => k_is)
    (case a7 => k_is)
    (case l7 => k_is)
    (case c7 => k_is)
    (case k7 => k_is)
    (case a8 => k_is)
    (case l8 => k_is)
    (case c8 => k_is)
    (case k8 => k_is)
    (case a9 => k_is)
    (case l9 => k_is)
    (case c9 => k_is)
    (case k9 => k_is)
    (case a10 => k_is)
    (case l10 => k_is)
    (case c10 => k_is)
    (case k10 => k_is)
    (case a11 => k_is)
    (case l11 => k_is)
    (case c11 => k_is)
    (case k11 => k_is)
    (case z_len => k_is)
    (case z_range => k_is)
    (case z_max => k_is)
    (case z_min => k_is)
    (case z_isinstance => k_is)
    (case z_str => k_is)
    (case z_int => k_is)
    (case z_bool => k_is)
    (case z_tuple => k_is)
    (case z_enumerate => k_is)
    (case z_zip => k_is)
    (case z_ValueError => k_is)
    (case z_list => k_is)
    (case z_dict => k_is)
    (case z_sorted => k_is)
    (case z_sum => k_is)
