import PyProof.Rows.All
import Wide.All
import OpenK.AllK
import Wide.FinOn
import PyProof.EqAt
import PyProof.EqKinds
import PyProof.TupleCall
import PyProof.Draws
import PyProof.EnumFor
import KE.KTryMore
import KE.KRevSl
import KE.GoesZip
import KE.GoesMore
import KE.GoesEnum
import HandS.Base
import HandS.Call
import HandS.List
import HandS.Text
import HandS.Exc
import HandS.Dict
import HandS.Iter
import HandS.Walk
import HandS.ForMost
import HandS.ForExc
import HandS.Evl
import HandS.Codes
import HandS.IsInst
import HandS.ExcIs
import HandS.Wide
import HandS.More
import HandS.DictComp
import HandS.DeepEq
import KE.DataMinMax
import KE.SortData
import KE.KDictSum
import PyProof.ConsumeS
import PyProof.CompUse
import HandS.Walk
import HandS.Zip
import PySem.Challenge.RW_packdelta_k03_whole_least_change
set_option Elab.async false
set_option linter.all false
set_option maxRecDepth 100000
set_option maxHeartbeats 4000000
namespace PySem.W
open PySem PySem.Spec PySem.Calls PyProof.Rows
section
variable {M : Model} {K : Frag}
/-- which classes of a tuple are tested: the answer of a tuple's test, any length -/
theorem xm_tup {cs : List Value} {cls : Value} {tp e : Addr} {b : Bool} {h : Heap} {o : Obj} (X : K.In h) (LT : Looks M h (typeOf (.ref e)) cls) (hp : h.get? tp = some o) (hc : o.cls = .type "tuple") (hd : o.data = .seq cs.toArray) (hx : exmAny K cls cs = some b) :
    Looks M h (excMatches (.ref e) (.ref tp)) b := by
  intro A Q E s k₀ q
  obtain ⟨hh, g, d, tk, os⟩ := s
  have k : ∀ b o, h.get? b = some o → hh.get? b = some o := k₀
  have hp' := k _ _ hp
  have LT0 : wpAny M A (isInstance (.ref tp) (.type "tuple")) (fun b s => b = true ∧ s = (⟨hh, g, d, tk, os⟩ : Shared)) E ⟨hh, g, d, tk, os⟩ := by
    have L0 : Looks M hh (isInstance (.ref tp) (.type "tuple")) true := by
      have hq : hh.get? tp = some o := hp'
      have L1 : Looks M hh (typeOf (.ref tp)) (.type "tuple") := fun A Q E s k q => wpAny_typeOf_ref (k _ _ hq) (by rw [hc]; exact q)
      exact L1.andThen (Looks.of_pure isSubtype_tuple_tuple)
    exact L0.at ⟨rfl, rfl⟩
  have LT := LT.keeps k
  have ones : ∀ (l : List Value) (r : Bool), exmAny K cls l = some r → (∀ c ∈ l, Looks M hh (isExcClass c) true) := by
    intro l
    induction l with
    | nil => intro r _ c hc; cases hc
    | cons c l ih =>
      intro r hr x hx
      obtain ⟨b1, d1, x1, y1, z1⟩ := exmAny_cons hr
      rcases List.mem_cons.mp hx with e | hm
      · rw [e]; exact (exm_cls (M := M) X x1).1.keeps k
      · exact ih d1 y1 x hm
  unfold excMatches
  refine wpAny_bind (wpAny_mono LT0 (fun b' s' hb => ?_) fun _ _ z => z)
  obtain ⟨rfl, rfl⟩ := hb
  dsimp only
  rw [if_pos rfl]
  first
    | refine wpAny_bind (wpAny_seqItems hp' hd ?_)
    | refine wpAny_bind (wpAny_bind (wpAny_seqItems hp' hd (wpAny_pure ?_)))
  dsimp only [Option.getD_some, Option.getD]
  refine wpAny_bind (wpAny_pure ?_)
  have s0 : ∃ s1 : Shared, s1 = (⟨hh, g, d, tk, os⟩ : Shared) := ⟨_, rfl⟩
  refine wpAny_bind (wpAny_forIn_list _ (fun rest _ s' => s' = (⟨hh, g, d, tk, os⟩ : Shared) ∧ ∀ c ∈ rest, Looks M hh (isExcClass c) true) _ ?_ ?_ _ _ ⟨rfl, ones cs b hx⟩)
  · rintro x rest _ s' ⟨rfl, hr⟩
    refine wpAny_bind ((hr x List.mem_cons_self).at ?_)
    simp only [Bool.not_true, Bool.false_eq_true, if_false]
    exact wpAny_pure ⟨rfl, fun c hc => hr c (List.mem_cons_of_mem _ hc)⟩
  · rintro _ s' ⟨rfl, _⟩
    refine wpAny_bind (LT.at ?_)
    refine wpAny_bind (wpAny_forIn_list _ (fun rest r s' => s' = (⟨hh, g, d, tk, os⟩ : Shared) ∧ r = (none, ()) ∧ exmAny K cls rest = some b) _ ?_ ?_ _ _ ⟨rfl, rfl, hx⟩)
    · rintro x rest r s' ⟨rfl, rfl, hr⟩
      obtain ⟨b1, d1, x1, y1, z1⟩ := exmAny_cons hr
      have S1 := (exm_cls (M := M) X x1).2.keeps k
      refine wpAny_bind (S1.at ?_)
      cases b1 with
      | true =>
        rw [if_pos rfl]
        refine wpAny_pure (wpAny_pure ?_)
        rw [z1, Bool.true_or] at q
        exact q
      | false =>
        rw [if_neg Bool.false_ne_true]
        refine wpAny_pure ⟨rfl, rfl, ?_⟩
        rw [z1, Bool.false_or]
        exact y1
    · rintro r s' ⟨rfl, rfl, hr⟩
      have hb : some false = some b := hr
      cases hb
      exact wpAny_pure q
end
end PySem.W
namespace L2
open PySem PySem.Spec PyProof.Rows
/-! ### a try with clauses of any kind: except X, except X as n, except (X, Y, ..), except (X, Y, ..) as n -/
/-- how a clause's test answers: mt tells it from the class -/
structure ClTest (X : Cx) (t : Expr) (mt : Value → Option Bool) : Prop where
  run : ∀ (pn : List (Addr × Obj)) (σ : St) (H : Hp) (s : Shared) (a : Addr) (oe : Obj) (b : Bool) (Q : Bool → Shared → Prop) (E : Value → Shared → Prop),
    Inv (X.suite a ((a, oe) :: pn)) [] σ H s → s.heap.get? a = some oe → mt oe.cls = some b →
    (∀ h' tk, (∀ q o, s.heap.get? q = some o → h'.get? q = some o) → Q b { s with heap := h', toks := tk }) →
      wpAny (model X.prog X.w) (X.A.mark (some (.ref a))) (eval t X.env) (fun c s1 => wpAny (model X.prog X.w) (X.A.mark (some (.ref a))) (excMatches (.ref a) c) Q E s1) E s
theorem ct_name {X : Cx} {x : Str} {c : Value} {np : Pos} (hc : Names X x c) : ClTest X (.Name x np) (fun cls => PySem.W.exmOne X.K cls c) := by
  refine ⟨fun pn σ H s a oe b Q E I ha hb q => ?_⟩
  have LT : PySem.W.Looks (model X.prog X.w) s.heap (typeOf (.ref a)) oe.cls := fun A Q E s k q => wpAny_typeOf_ref (k _ _ ha) q
  have LM := PySem.W.exm_one (M := model X.prog X.w) (Inv.kIn I) LT hb
  have fin : wpAny (model X.prog X.w) (X.A.mark (some (.ref a))) (excMatches (.ref a) c) Q E s := LM.here (q s.heap s.toks fun _ _ z => z)
  obtain ⟨hg, hdbg, hm | ⟨hm, hv, hnn⟩⟩ := hc
  · exact ld_glob (X := X.suite a ((a, oe) :: pn)) I hg hm fin hdbg
  · exact ld_blt (X := X.suite a ((a, oe) :: pn)) I hg hm hv fin hnn hdbg
/-- names in a row -/
inductive NamesL (X : Cx) : List Expr → List Value → Prop
  | nil : NamesL X [] []
  | cons {x : Str} {c : Value} {p : Pos} {es : List Expr} {cs : List Value} (h : Names X x c) (hs : starEach (.Name x p :: es) X.env = (false, eval (.Name x p) X.env) :: starEach es X.env) (r : NamesL X es cs) : NamesL X (.Name x p :: es) (c :: cs)
theorem names_run {X : Cx} {pn : List (Addr × Obj)} {σ : St} {H : Hp} {s : Shared} {a : Addr} {oe : Obj} {pos : Pos} {E : Value → Shared → Prop} (I : Inv (X.suite a ((a, oe) :: pn)) [] σ H s) :
    ∀ {es : List Expr} {cs : List Value}, NamesL X es cs → ∀ {Q : List Value → Shared → Prop}, Q cs s → wpAny (model X.prog X.w) (X.A.mark (some (.ref a))) (spliced (backTo pos (starEach es X.env))) Q E s := by
  intro es cs h
  induction h with
  | nil => exact fun q => Calls.spliced_nil q
  | @cons x c p es cs hc hs r ih =>
    intro Q q
    rw [hs]
    show wpAny _ _ (spliced ((false, eval (.Name x p) X.env) :: backTo pos (starEach es X.env))) _ _ s
    refine Calls.spliced_cons ?_
    have fin := ih (Q := fun vs s' => Q (c :: vs) s') q
    obtain ⟨hg, hdbg, hm | ⟨hm, hv, hnn⟩⟩ := hc
    · exact ld_glob (X := X.suite a ((a, oe) :: pn)) I hg hm fin hdbg
    · exact ld_blt (X := X.suite a ((a, oe) :: pn)) I hg hm hv fin hnn hdbg
theorem ct_tup {X : Cx} {es : List Expr} {cs : List Value} {k : Nat} {pos : Pos} (hn : NamesL X es cs) (hl : cs.length ≤ 100) : ClTest X (.Tuple es k pos) (fun cls => PySem.W.exmAny X.K cls cs) := by
  refine ⟨fun pn σ H s a oe b Q E I ha hb q => ?_⟩
  refine Tuple_ (names_run I hn ?_)
  refine wpAny_newObj_type ?_ (by show cs.toArray.size ≤ sizeLine; rw [List.size_toArray, sizeLine_eq]; omega)
  have k1 : ∀ q o, s.heap.get? q = some o → (s.heap.push { cls := .type "tuple", data := .seq cs.toArray }).get? q = some o := fun q o e => Heap.get?_push_of_some _ e
  have LT : PySem.W.Looks (model X.prog X.w) (s.heap.push { cls := .type "tuple", data := .seq cs.toArray }) (typeOf (.ref a)) oe.cls := fun A Q E s k q => wpAny_typeOf_ref (k _ _ (k1 _ _ ha)) q
  have LM := PySem.W.xm_tup (M := model X.prog X.w) ((Inv.kIn I).keeps k1) LT (Heap.get?_push_size _ rfl) rfl rfl hb
  exact PySem.W.Looks.at LM (q _ _ k1)

theorem traced_keeps {h h' base : Heap} {e : Addr} {Z : Obj → Prop} {fl : Value} (x : HandSPX.TracedZ h base e Z fl) (k : ∀ b o, h.get? b = some o → h'.get? b = some o) : HandSPX.TracedZ h' base e Z fl := by
  obtain ⟨oe, vs, T, oT, ts, he, hz, hd, h1, hnT, hTe, hT, hdT, h3⟩ := x
  exact ⟨oe, vs, T, oT, ts, k _ _ he, hz, hd, h1, hnT, hTe, k _ _ hT, hdT, h3⟩
theorem flying_keeps {h h' base : Heap} {l : List Env} {e : Addr} {Z : Obj → Prop} (x : HandSPX.FlyingZ base l e Z h) (k : ∀ b o, h.get? b = some o → h'.get? b = some o) : HandSPX.FlyingZ base l e Z h' := by
  obtain ⟨x1, x2, x3, x4⟩ := x
  exact ⟨fun b o e => k b o (x1 b o e), x2, x3.of_keeps fun b o e _ => ⟨o, k b o e, rfl⟩, traced_keeps x4 k⟩
abbrev Clz := List ((Value → Option Bool) × (Addr → Value → Option Addr → TS))
/-- what the clauses wish of an exception of the body, one after the other -/
def wCl (Wout : WX) (D : Ends) : Clz → WX
  | [] => Wout
  | (mt, ts) :: r => fun cls d σ H => ∃ b, mt cls = some b ∧ (b = true → ∀ a, H a = none → ts a cls d D σ H) ∧ (b = false → wCl Wout D r cls d σ H)
/-- except .. as n: slot i holds the error within -/
def tAs (i : Nat) (ts : Addr → Value → Option Addr → TS) : Addr → Value → Option Addr → TS := fun a cls d D σ H =>
  ts a cls d { nx := fun σ' H' => D.nx (σ'.set i none) H', rt := D.rt, bk := fun σ' H' => D.bk (σ'.set i none) H', ct := fun σ' H' => D.ct (σ'.set i none) H' } (σ.set i (some (.ref a))) H
inductive ClOk (X : Cx) : List ExceptHandler → Clz → Prop
  | nil : ClOk X [] []
  | plain {t : Expr} {mt : Value → Option Bool} {ts : Addr → Value → Option Addr → TS} {b₀ : Stmt} {suite : List Stmt} {pos' : Pos} {hds : List ExceptHandler} {l : Clz} (hc : ClTest X t mt)
      (hsu : ∀ (a : Addr) (oe : Obj) (cls : Value) (d : Option Addr) (pn : List (Addr × Obj)), Zc cls d oe → (∃ vs, oe.data = .fields vs) → PSs (X.suite a ((a, oe) :: pn)) (b₀ :: suite) (ts a cls d)) (r : ClOk X hds l) :
      ClOk X (.ExceptHandler (some t) none (b₀ :: suite) pos' :: hds) ((mt, ts) :: l)
  | named {t : Expr} {mt : Value → Option Bool} {i : Nat} {n : Str} {ts : Addr → Value → Option Addr → TS} {b₀ : Stmt} {suite : List Stmt} {pos' : Pos} {hds : List ExceptHandler} {l : Clz} (hN : X.N.Nodup) (hi : X.N[i]? = some n) (hln : X.env.kindOf n = some .local) (hc : ClTest X t mt)
      (hsu : ∀ (a : Addr) (oe : Obj) (cls : Value) (d : Option Addr) (pn : List (Addr × Obj)), Zc cls d oe → (∃ vs, oe.data = .fields vs) → PSs (X.suite a ((a, oe) :: pn)) (b₀ :: suite) (ts a cls d)) (r : ClOk X hds l) :
      ClOk X (.ExceptHandler (some t) (some n) (b₀ :: suite) pos' :: hds) ((mt, tAs i ts) :: l)
section
variable {X : Cx} {body : List Stmt} {h₀ : ExceptHandler} {hds : List ExceptHandler} {l : Clz} {pos : Pos} {tb : WX → TS} {Wout : WX}
theorem ps_try_cl (hs : X.stack = X.env :: X.outer) (hf : X.env.frame = some X.env.locals) (tk : Takes X Wout)
    (hb : ∀ (W : WX) (pn : List (Addr × Obj)) (xe : Value → Shared → Prop), Takes (X.tr pn xe) W → PassesOwn (model X.prog X.w) X.A X.env xe → PSs (X.tr pn xe) body (tb W))
    (hh : ClOk X (h₀ :: hds) l) : PS X (.Try body (h₀ :: hds) [] [] pos) (fun D σ H => tb (wCl Wout D l) D σ H) := by
  refine ⟨fun pins s σ H D I h => ?_⟩
  have ok := I.ok
  have hfr : X.A.frames = some (X.env :: X.outer) := by rw [ok.frames, hs]
  refine wpAny_Try_except ?_
  refine wpAny_mono ((hb (wCl Wout D l) (X.pn ++ pins) (fun e s₁ => wpAny (model X.prog X.w) X.A (noteFrame e X.env) (fun _ s₂ => wpAny (model X.prog X.w) X.A (setFlight e none) (fun _ s₃ =>
    wpAny (model X.prog X.w) X.A (handleBy e X.env (h₀ :: hds)) (SP X pins D) X.xe s₃) X.xe s₂) X.xe s₁) (fun u s' xx => ?_) PassesOwn.looking).run [] s σ H D (I.toTry _) h) (fun f s1 hsp => ?_) (fun e s1 he => he)
  · -- the catch
    obtain ⟨a, B, sI, pins', σ', H', cls, d, rfl, J', nb, up, sky, na, os, ag, w⟩ := xx
    have J : Inv X pins σ' H' sI := J'.ofTry ok
    have sky' : Sky B (X.env :: X.outer) a (Zc cls d) X.env.locals s'.heap := by rw [← hs]; exact sky
    show wpAny (model X.prog X.w) X.A (noteFrame (.ref a) X.env) _ _ _
    refine Sky.land Zc.steady hfr hf sky' fun h3 fl3 up3 => ?_
    -- the clauses in turn, over any heap that grows from h3
    have go : ∀ {hds' : List ExceptHandler} {l' : Clz}, ClOk X hds' l' → wCl Wout D l' cls d σ' H' → ∀ (h5 : Heap) (t5 : Nat), (∀ b o, h3.get? b = some o → h5.get? b = some o) →
        wpAny (model X.prog X.w) X.A (handleBy (.ref a) X.env hds') (SP X pins D) X.xe { s' with heap := h5, toks := t5 } := by
      intro hds' l' hk
      have notFr : ∀ {h : Heap} {o : Obj} {vs : Array Value}, h.FunFrames B (X.env :: X.outer) → h.get? a = some o → o.data = .fields vs → a ∉ frs (X.env :: X.outer) := fun {h o vs} ff e dd hm => by
        obtain ⟨_, o', e', hnf⟩ := ff.mem hm
        rw [e] at e'; cases e'
        exact hnf _ dd
      have clause : ∀ {t : Expr} {mt : Value → Option Bool} {nm : Option Str} {bd : List Stmt} {pos' : Pos} {hds2 : List ExceptHandler} {b : Bool} (h5 : Heap) (t5 : Nat), (∀ b o, h3.get? b = some o → h5.get? b = some o) → ClTest X t mt → mt cls = some b →
          (b = true → ∀ (h6 : Heap) (t6 : Nat), (∀ b o, h3.get? b = some o → h6.get? b = some o) → codeAny (model X.prog X.w) (X.A.mark (some (.ref a))) (.handlers (.ref a) [.ExceptHandler none nm bd pos'] X.env) (fun r s₂ => match r with
            | .ok f => (match nm with
              | none => SP X pins D f s₂
              | some n => wpAny (model X.prog X.w) X.A (do bindName X.env n .none; unbindBehindTheSuite X.env n pos') (fun _ s₃ => SP X pins D f s₃) X.xe s₂)
            | .error x => cameBackBy (model X.prog X.w) X.A X.env X.xe x s₂) { s' with heap := h6, toks := t6 }) →
          (b = false → ∀ (h6 : Heap) (t6 : Nat), (∀ b o, h3.get? b = some o → h6.get? b = some o) → wpAny (model X.prog X.w) X.A (handleBy (.ref a) X.env hds2) (SP X pins D) X.xe { s' with heap := h6, toks := t6 }) →
          wpAny (model X.prog X.w) X.A (handleBy (.ref a) X.env (.ExceptHandler (some t) nm bd pos' :: hds2)) (SP X pins D) X.xe { s' with heap := h5, toks := t5 } := by
        intro t mt nm bd pos' hds2 b h5 t5 k5 hc hb1 hyes hno
        have fl5 := flying_keeps fl3 k5
        have J5 : Inv X pins σ' H' { s' with heap := h5, toks := t5 } := J.landed (s' := { s' with heap := h5, toks := t5 }) nb fl5.1 ((up.trans up3).trans (Heap.UpToSlots.of_keeps k5)) os ag
        obtain ⟨oe5, vs5, he5, hz5, hd5⟩ := fl5.there
        have nfr := notFr fl5.2.2.1 he5 hd5
        have nL : a ≠ X.env.locals := fun z => nfr (List.mem_filterMap.mpr ⟨X.env, List.mem_cons_self, by rw [hf, z]⟩)
        have nF : a ∉ X.fs := fun hm => by
          obtain ⟨e, he, q⟩ := List.mem_filterMap.mp hm
          exact nfr (List.mem_filterMap.mpr ⟨e, List.mem_cons_of_mem _ he, q⟩)
        have S5 := J5.suite he5 hd5 na nL nF
        refine wpAny_handleBy_cons (codeAny_handlers_test ?_) (by intro q; cases q)
        refine hc.run (X.pn ++ pins) σ' H' _ a oe5 b _ _ S5 he5 (by rw [hz5.1]; exact hb1) fun h6 t6 k6 => ?_
        cases b with
        | true => exact hyes rfl h6 t6 fun q o e => k6 q o (k5 q o e)
        | false => exact hno rfl h6 t6 fun q o e => k6 q o (k5 q o e)
      induction hk with
      | nil =>
        intro w h5 t5 k5
        have fl5 := flying_keeps fl3 k5
        refine wpAny_handleBy_nil ?_
        obtain ⟨k1, k2, k3, oe, vs, T, oT, ts', he, hz, hd, h1, hr⟩ := id fl5
        unfold PySem.passOn
        refine wpAny_bind (wpAny_field he hd h1 ?_)
        rw [if_neg (show ¬ ((Value.ref T == Value.none) = true) from by simp)]
        have fin : wpAny (model X.prog X.w) X.A (setFlight (.ref a) X.env.frame) (fun _ s4 => wpAny (model X.prog X.w) X.A (throw (.ref a) : Sem Flow) (SP X pins D) X.xe s4) X.xe { s' with heap := h5, toks := t5 } := by
          rw [hf]
          refine HandSPX.setFlight_upZ fl5 fun h4 hh4 up4 => wpAny_throw (tk _ _ ?_)
          exact ⟨a, B, sI, pins, σ', H', cls, d, rfl, J, nb, ((up.trans up3).trans (Heap.UpToSlots.of_keeps k5)).trans up4, .inr (.inr (by rw [hs]; exact hh4)), na, os, ag, w⟩
        first
          | exact wpAny_bind (wpAny_pure (wpAny_bind fin))
          | exact wpAny_bind fin
      | @plain t mt ts b₀ suite pos' hds2 l2 hc hsu r ih =>
        intro w h5 t5 k5
        obtain ⟨b, hb1, hyes, hno⟩ := w
        refine clause h5 t5 k5 hc hb1 (fun hb h6 t6 k6 => ?_) (fun hb h6 t6 k6 => ih (hno hb) h6 t6 k6)
        have fl6 := flying_keeps fl3 k6
        refine codeAny_handlers_suite ?_
        refine HandSPX.lands_againZ fl6 fun h4 fl4 up4 => ?_
        have J4 : Inv X pins σ' H' { s' with heap := h4, toks := t6 } := J.landed (s' := { s' with heap := h4, toks := t6 }) nb fl4.1 (((up.trans up3).trans (Heap.UpToSlots.of_keeps k6)).trans up4) os ag
        obtain ⟨oe4, vs4, he4, hz4, hd4⟩ := fl4.there
        have nfr := notFr fl4.2.2.1 he4 hd4
        have nL : a ≠ X.env.locals := fun z => nfr (List.mem_filterMap.mpr ⟨X.env, List.mem_cons_self, by rw [hf, z]⟩)
        have nF : a ∉ X.fs := fun hm => by
          obtain ⟨e, he, q⟩ := List.mem_filterMap.mp hm
          exact nfr (List.mem_filterMap.mpr ⟨e, List.mem_cons_of_mem _ he, q⟩)
        have S4 := J4.suite he4 hd4 na nL nF
        refine wpAny_mono ((hsu a oe4 cls d (X.pn ++ pins) hz4 ⟨_, hd4⟩).run [] _ _ H' _ S4 (hyes hb a na)) (fun f s6 hsp => ?_) (fun _ _ z => False.elim z)
        cases f with
        | next =>
          obtain ⟨σ6, H6, S6, q6⟩ := hsp
          exact ⟨_, _, S6.unsuite ok, q6⟩
        | brk =>
          obtain ⟨σ6, H6, S6, q6⟩ := hsp
          exact ⟨_, _, S6.unsuite ok, q6⟩
        | cont =>
          obtain ⟨σ6, H6, S6, q6⟩ := hsp
          exact ⟨_, _, S6.unsuite ok, q6⟩
        | ret u =>
          obtain ⟨v6, σ6, H6, S6, r6, q6⟩ := hsp
          exact ⟨_, _, _, S6.unsuite ok, r6, q6⟩
      | @named t mt i n ts b₀ suite pos' hds2 l2 hN hi hln hc hsu r ih =>
        intro w h5 t5 k5
        obtain ⟨b, hb1, hyes, hno⟩ := w
        refine clause h5 t5 k5 hc hb1 (fun hb h6 t6 k6 => ?_) (fun hb h6 t6 k6 => ih (hno hb) h6 t6 k6)
        have fl6 := flying_keeps fl3 k6
        refine codeAny_handlers_suite_as ?_
        refine HandSPX.lands_againZ fl6 fun h4 fl4 up4 => ?_
        have J4 : Inv X pins σ' H' { s' with heap := h4, toks := t6 } := J.landed (s' := { s' with heap := h4, toks := t6 }) nb fl4.1 (((up.trans up3).trans (Heap.UpToSlots.of_keeps k6)).trans up4) os ag
        obtain ⟨oe4, vs4, he4, hz4, hd4⟩ := fl4.there
        have nfr := notFr fl4.2.2.1 he4 hd4
        have nL : a ≠ X.env.locals := fun z => nfr (List.mem_filterMap.mpr ⟨X.env, List.mem_cons_self, by rw [hf, z]⟩)
        have nF : a ∉ X.fs := fun hm => by
          obtain ⟨e, he, q⟩ := List.mem_filterMap.mp hm
          exact nfr (List.mem_filterMap.mpr ⟨e, List.mem_cons_of_mem _ he, q⟩)
        have S4 := J4.suite he4 hd4 na nL nF
        refine store_ok (X := X.suite a ((a, oe4) :: (X.pn ++ pins))) (v := .ref a) S4 hN hi (.inl hln) rfl (fun s5 S5 => ?_) (.inr hln)
        refine wpAny_mono ((hsu a oe4 cls d (X.pn ++ pins) hz4 ⟨_, hd4⟩).run [] s5 _ H' _ S5 (hyes hb a na)) (fun f s6 hsp => ?_) (fun _ _ z => False.elim z)
        have end_ : ∀ {σ6 : St} {H6 : Hp} {Q : Shared → Prop}, Inv (X.suite a ((a, oe4) :: (X.pn ++ pins))) [] σ6 H6 s6 → (∀ s7, Inv X pins (σ6.set i none) H6 s7 → Q s7) →
            wpAny (model X.prog X.w) X.A (do bindName X.env n .none; unbindBehindTheSuite X.env n pos') (fun _ s7 => Q s7) X.xe s6 := fun {σ6 H6 Q} S6 hq => gone_ok (S6.unsuite ok) hN hi hln hq
        cases f with
        | next =>
          obtain ⟨σ6, H6, S6, q6⟩ := hsp
          exact end_ S6 fun s7 J7 => ⟨_, _, J7, q6⟩
        | brk =>
          obtain ⟨σ6, H6, S6, q6⟩ := hsp
          exact end_ S6 fun s7 J7 => ⟨_, _, J7, q6⟩
        | cont =>
          obtain ⟨σ6, H6, S6, q6⟩ := hsp
          exact end_ S6 fun s7 J7 => ⟨_, _, J7, q6⟩
        | ret u =>
          obtain ⟨v6, σ6, H6, S6, r6, q6⟩ := hsp
          exact end_ S6 fun s7 J7 => ⟨_, _, _, J7, r6, q6⟩
    exact go hh w h3 s'.toks fun _ _ z => z
  · cases f with
    | next =>
      obtain ⟨σ', H', J', q⟩ := hsp
      exact wpAny_execs_nil ⟨σ', H', J'.ofTry ok, q⟩
    | brk =>
      obtain ⟨σ', H', J', q⟩ := hsp
      exact ⟨σ', H', J'.ofTry ok, q⟩
    | cont =>
      obtain ⟨σ', H', J', q⟩ := hsp
      exact ⟨σ', H', J'.ofTry ok, q⟩
    | ret u =>
      obtain ⟨v, σ', H', J', r, q⟩ := hsp
      exact ⟨v, σ', H', J'.ofTry ok, r, q⟩
end
end L2
set_option Elab.async false
set_option linter.all false
set_option maxRecDepth 100000
set_option maxHeartbeats 4000000
namespace L2
open PySem PySem.Spec PyProof.Rows
/-! ### a text from its end: z[::-1] -/
def revS (z : Str) : Str := ⟨z.cps.toList.reverse.toArray⟩
theorem revS_pick (z : Str) : ((Builtin.Str.strSliceIndices none none (-1) z.length).filterMap (z.cps[·]?)).toArray = z.cps.toList.reverse.toArray := by
  have e : Builtin.Str.strSliceIndices none none (-1) z.length = sliceRange ((z.length : Int) - 1) (-1) (-1) := by
    simp [Builtin.Str.strSliceIndices]
  rw [e, PySem.W.krv_sliceRange, PySem.W.krv_range, List.filterMap_reverse]
  have h : (List.range z.length).filterMap (z.cps[·]?) = z.cps.toList := PySem.W.krv_all z.cps
  rw [h]
def tRevS (te : TE) : TE := fun σ H Q => te σ H fun x H1 => ∃ z, x = .str z ∧ z.length ≤ sizeLine ∧ Q (.str (revS z)) H1
theorem pe_revS {X : Cx} {e : Expr} {te : TE} {k : Nat} {p1 p2 p3 pos : Pos} (he : PE X e te) : PE X (.Subscript e (.Slice none none (some (.UnaryOp .USub (.Constant (.int 1) k p1) p2)) p3) pos) (tRevS te) := by
  refine ⟨fun pins s σ H Q I h => ?_⟩
  refine Subscript_ (thn (he.run pins s σ H _ I h) fun v s1 ⟨x, H1, I1, r1, q1⟩ => ?_)
  obtain ⟨z, ex, hz, q⟩ := q1
  subst ex
  obtain ⟨t, rfl⟩ := r1
  have hst : PO X (some (.UnaryOp .USub (.Constant (.int 1) k p1) p2)) (tPart (tUn (rU fun i => .int (-i)) (tC (.int 1)))) := po_some (pe_un un_neg pe_int)
  refine wpAny_Slice (thn (po_none.run pins s1 σ H1 (fun o H2 => o = none ∧ H2 = H1) I1 ⟨rfl, rfl⟩) fun vl s2 ⟨l, H2, I2, pl, el, e2⟩ => ?_)
  subst el e2
  refine thn (po_none.run pins s2 σ H2 (fun o H3 => o = none ∧ H3 = H2) I2 ⟨rfl, rfl⟩) fun vu s3 ⟨u, H3, I3, pu, eu, e3⟩ => ?_
  subst eu e3
  refine thn (hst.run pins s3 σ H3 (fun o H4 => o = some (-1) ∧ H4 = H3) I3 ⟨1, rfl, -1, rfl, rfl, rfl⟩) fun vs s4 ⟨o, H4, I4, ps, eo, e4⟩ => ?_
  subst eo e4
  have I5 : Inv X pins σ H4 { s4 with heap := s4.heap.push { cls := .type "slice", data := .fields #[vl, vu, vs] } } := I4.kept (t' := s4.toks) fun b ob q => Heap.get?_push_of_some _ q
  cases pl
  cases pu
  obtain ⟨st, hst1, hst2⟩ := IsPart.raw ps
  subst hst1
  have hsl : Heap.IsSlice (s4.heap.push { cls := .type "slice", data := .fields #[.none, .none, partValue st] }) s4.heap.objs.size none none st := ⟨_, Heap.get?_push_size _ rfl, rfl, rfl⟩
  show wpAny (model X.prog X.w) X.A (subscriptTail e (.Slice none none (some (.UnaryOp .USub (.Constant (.int 1) k p1) p2)) p3) (.str z t) (.ref s4.heap.objs.size)) (EP X pins σ Q) X.xe { s4 with heap := s4.heap.push { cls := .type "slice", data := .fields #[.none, .none, partValue st] } }
  refine tail_any (ops := [.ref s4.heap.objs.size, .str z t]) (typeIs_str _ _ _) (PySem.F.slot_str_getitem.lookup) ?_ (by with_unfolding_all rfl)
  refine wpAny_getItem_str_slice hsl (by rw [hst2]; rfl) ?_
  have hm : sliceMade z t none none st = Made.str (revS z) := by
    unfold sliceMade
    rw [hst2]
    rw [if_neg (by intro c; rw [show (((some (-1) : Option Int).getD 1) == 1) = false from by decide, Bool.false_and] at c; cases c)]
    have e2 : slicePicked z none none st = Builtin.Str.strSliceIndices none none (-1) z.length := by
      unfold slicePicked
      rw [hst2]
      rfl
    rw [e2, revS_pick]
    rfl
  rw [hm]
  refine ⟨?_, .str (revS z), H4, I5.tok _, ⟨_, rfl⟩, q⟩
  have e3 : (revS z).length = z.length := by simp [revS, Str.length]
  rw [e3]
  exact hz
end L2
set_option Elab.async false
set_option linter.all false
set_option maxRecDepth 100000
set_option maxHeartbeats 4000000
/-! enumerate(zip(x, y)): the zip's own tuple is held by the enumerate, so the zip is met in any state of its owned tuple -/
namespace PySem
open Sem (wp)
theorem xz_alive {M : Model} {A : Around} {E : Value → Shared → Prop} {s : Shared} {a : Addr} {Q : Option Obj → Shared → Prop} (h : Q (s.heap.get? a) s) : wpAny M A (loadIfAlive a) Q E s := fun _ _ _ => h
/-- a zip in any state of its owned tuple -/
abbrev IsZipG (h : Heap) (z TI TO : Addr) (f0 f1 : Value) : Prop :=
  h.get? z = some { cls := .type "zip", dict := none, data := .fields #[f0, f1, .bool false, .ref TI, .ref TO], slots := #[] }
def OwnG (f0 : Value) : Prop := f0 = .none ∨ ∃ k : Int, f0 = rawInt k
section
variable {prog : Program} {w : World} {A : Around} {E : Value → Shared → Prop} {s : Shared} {z TI TO i1 i2 : Addr} {fp1 fp2 : List Addr} {n1 n2 i : Nat} {P1 P2 : Nat → Value → Prop} {St1 St2 : Nat → Heap → Prop} {a1 a2 f0 f1 : Value}
/-- is the owned tuple free: either answer, the zip's second field may be set -/
theorem xz_free {Q : Bool → Shared → Prop} (hz : IsZipG s.heap z TI TO f0 f1) (ho : OwnG f0)
    (h : ∀ b f1' h', IsZipG h' z TI TO f0 f1' → Heap.SameBut z s.heap h' → Q b { s with heap := h' }) : wpAny (model prog w) A (Builtin.SmallTypes.ownedTupleIsFree (.ref z)) Q E s := by
  have refl : Heap.SameBut z s.heap s.heap := ⟨rfl, fun _ _ => rfl⟩
  unfold Builtin.SmallTypes.ownedTupleIsFree
  rcases ho with e | ⟨k, e⟩
  · subst e
    exact wpAny_bind (wpAny_field hz rfl (x := .none) rfl (wpAny_pure (h true f1 s.heap hz refl)))
  · subst e
    refine wpAny_bind (wpAny_field hz rfl (x := rawInt k) rfl ?_)
    show wpAny _ _ (loadIfAlive k.toNat >>= _) _ _ _
    refine wpAny_bind (xz_alive ?_)
    cases hk : s.heap.get? k.toNat with
    | none => exact wpAny_pure (h true f1 s.heap hz refl)
    | some o =>
      show wpAny _ _ (field (.ref z) 1 >>= _) _ _ _
      refine wpAny_bind (wpAny_field hz rfl (x := f1) rfl ?_)
      by_cases c : (f1 != Value.bool true) = true
      · rw [if_pos c]
        refine wpAny_bind (wpAny_setField_rec hz (by simp) fun h1 hz1 hs1 => wpAny_pure ?_)
        exact h false (.bool true) h1 hz1 hs1
      · rw [if_neg c]
        exact wpAny_pure (h false f1 s.heap hz refl)

/-- the next pair of a zip in any state: a new tuple at the heap's end -/
theorem xz_item {Q : Value → Shared → Prop} (S : ZipSep2 z TI TO i1 i2 fp1 fp2) (D1 : Draws prog w A i1 fp1 n1 P1 St1) (D2 : Draws prog w A i2 fp2 n2 P2 St2) (ho : OwnG f0)
    (hz : IsZipG s.heap z TI TO f0 f1) (hTI : IsTupOf2 s.heap TI (.ref i1) (.ref i2)) (hTO : IsTupOf2 s.heap TO a1 a2) (st1 : St1 i s.heap) (st2 : St2 i s.heap) (hlt1 : i < n1) (hlt2 : i < n2)
    (hQ : ∀ x1 x2 h' tk g0 g1 b1 b2, P1 i x1 → P2 i x2 → OwnG g0 → IsZipG h' z TI TO g0 g1 → IsTupOf2 h' TO b1 b2 → St1 (i + 1) h' → St2 (i + 1) h' → IsTupOf2 h' s.heap.objs.size x1 x2 → h'.objs.size = s.heap.objs.size + 1 →
      (∀ c o, c ≠ z → c ≠ TO → c ≠ i1 → c ≠ i2 → s.heap.get? c = some o → h'.get? c = some o) → Q (.ref s.heap.objs.size) { s with heap := h', toks := tk }) :
    wpAny (model prog w) A (Builtin.«zip.__next__» ⟨[.ref z], []⟩) (fun fin s' => ∃ v, fin = .done (.ret v) ∧ Q v s') E s := by
  obtain ⟨hp, g, d, tk0, os⟩ := s
  show wpAny _ _ (field (.ref z) 2 >>= _) _ _ _
  refine wpAny_bind (wpAny_field hz rfl (x := .bool false) rfl ?_)
  show wpAny _ _ (field (.ref z) 3 >>= _) _ _ _
  refine wpAny_bind (wpAny_field hz rfl (x := .ref TI) rfl ?_)
  refine wpAny_bind (wpAny_seqItems hTI rfl ?_)
  show wpAny _ _ (Builtin.SmallTypes.ownedTupleIsFree (.ref z) >>= _) _ _ _
  refine wpAny_bind (xz_free hz ho fun bfree f1' g00 hzA hs00 => ?_)
  replace hs00 : Heap.SameBut z hp g00 := hs00
  have hTOA : IsTupOf2 g00 TO a1 a2 := hs00.extBut _ _ S.TOz hTO
  have stA1 : St1 i g00 := D1.over st1 hs00 S.zf1
  have stA2 : St2 i g00 := D2.over st2 hs00 S.zf2
  cases bfree with
  | true =>
    rw [if_pos rfl]
    refine wpAny_bind (wpAny_rule ?_)
    refine wpAny_bind (wpAny_field hzA rfl (x := .ref TO) rfl ?_)
    refine wpAny_bind (wpAny_setField_rec hzA (by simp) fun g0 hz0 hs0 => ?_)
    replace hz0 : IsZipG g0 z TI TO .ellipsis f1' := hz0
    replace hs0 : Heap.SameBut z g00 g0 := hs0
    refine wpAny_bind ?_
    simp only [List.zipIdx_cons, List.zipIdx_nil, List.forIn_cons, List.forIn_nil]
    refine wpAny_bind (wpAny_bind (wpAny_onRaise ?_))
    show wpAny _ _ (Builtin.SmallTypes.nextOf (.ref i1) >>= _) _ _ ⟨g0, g, d, tk0, os⟩
    refine wpAny_bind (D1.item i _ _ _ hlt1 (D1.over stA1 hs0 S.zf1) fun x1 p1 tk1 hx1 sn1 hp1 => wpAny_pure ?_)
    replace hp1 : Heap.SameBut i1 g0 p1 := hp1
    have hU1 : IsTupOf2 p1 TO a1 a2 := hp1.extBut _ _ S.Ti1 (hs0.extBut _ _ S.TOz hTOA)
    refine wpAny_bind (wpAny_seqItems (s := ⟨p1, g, d, tk1, os⟩) hU1 rfl ?_)
    refine wpAny_bind (updateSeq_IsTupOf2 (s := ⟨p1, g, d, tk1, os⟩) hU1 fun g1 hT1 hs1 => ?_)
    replace hT1 : IsTupOf2 g1 TO x1 a2 := hT1
    replace hs1 : Heap.SameBut TO p1 g1 := hs1
    refine wpAny_bind (wpAny_letGo (wpAny_pure ?_))
    refine wpAny_bind (wpAny_bind (wpAny_onRaise ?_))
    show wpAny _ _ (Builtin.SmallTypes.nextOf (.ref i2) >>= _) _ _ ⟨g1, g, d, tk1, os⟩
    refine wpAny_bind (D2.item i _ _ _ hlt2 (D2.over (D2.over (D2.over stA2 hs0 S.zf2) hp1 S.sep1_2) hs1 S.Tf2) fun x2 p2 tk2 hx2 sn2 hp2 => wpAny_pure ?_)
    replace hp2 : Heap.SameBut i2 g1 p2 := hp2
    have hU2 : IsTupOf2 p2 TO x1 a2 := hp2.extBut _ _ S.Ti2 hT1
    refine wpAny_bind (wpAny_seqItems (s := ⟨p2, g, d, tk2, os⟩) hU2 rfl ?_)
    refine wpAny_bind (updateSeq_IsTupOf2 (s := ⟨p2, g, d, tk2, os⟩) hU2 fun g2 hT2 hs2 => ?_)
    replace hT2 : IsTupOf2 g2 TO x1 x2 := hT2
    replace hs2 : Heap.SameBut TO p2 g2 := hs2
    refine wpAny_bind (wpAny_letGo (wpAny_pure (wpAny_pure ?_)))
    refine wpAny_bind (wpAny_seqItems (s := ⟨g2, g, d, tk2, os⟩) hT2 rfl ?_)
    refine wpAny_bind (wpAny_newTuple ?_)
    have hsz : g2.objs.size = hp.objs.size := by rw [hs2.1, hp2.1, hs1.1, hp1.1, hs0.1, hs00.1]
    have hzz : IsZipG g2 z TI TO .ellipsis f1' := (hs2.extBut _ _ S.TOz.symm (hp2.extBut _ _ S.zi2 (hs1.extBut _ _ S.TOz.symm (hp1.extBut _ _ S.zi1 hz0))))
    have hkk : ∀ c o, c ≠ z → c ≠ TO → c ≠ i1 → c ≠ i2 → hp.get? c = some o → g2.get? c = some o := fun c o cz cT c1 c2 e =>
      (hs2.extBut _ _ cT (hp2.extBut _ _ c2 (hs1.extBut _ _ cT (hp1.extBut _ _ c1 (hs0.extBut _ _ cz (hs00.extBut _ _ cz e))))))
    have hj1 : St1 (i + 1) g2 := (D1.over (D1.over (D1.over sn1 hs1 S.Tf1) hp2 S.sep2_1) hs2 S.Tf1)
    have hj2 : St2 (i + 1) g2 := (D2.over sn2 hs2 S.Tf2)
    have hzlt : z < g2.objs.size := Heap.lt_size hzz
    show wpAny _ _ (Builtin.SmallTypes.ownedTupleHandOut (.ref z) (.ref g2.objs.size) >>= _) _ _ ⟨g2.push { cls := .type "tuple", data := .seq #[x1, x2] }, g, d, tk2, os⟩
    refine wpAny_bind ?_
    unfold Builtin.SmallTypes.ownedTupleHandOut
    have hz6 : IsZipG (g2.push { cls := .type "tuple", data := .seq #[x1, x2] }) z TI TO .ellipsis f1' := Heap.get?_push_of_some _ hzz
    refine wpAny_bind (wpAny_setField_rec hz6 (by simp) fun h7 hz7 hs7 => ?_)
    replace hz7 : IsZipG h7 z TI TO (rawInt g2.objs.size) f1' := hz7
    refine wpAny_setField_rec hz7 (by simp) fun h8 hz8 hs8 => ?_
    replace hz8 : IsZipG h8 z TI TO (rawInt g2.objs.size) (.bool false) := hz8
    replace hs7 : Heap.SameBut z (g2.push { cls := .type "tuple", data := .seq #[x1, x2] }) h7 := hs7
    replace hs8 : Heap.SameBut z h7 h8 := hs8
    have up : ∀ c o, c ≠ z → g2.get? c = some o → h8.get? c = some o := fun c o c1 e => hs8.extBut _ _ c1 (hs7.extBut _ _ c1 (Heap.get?_push_of_some _ e))
    have hT8 : IsTupOf2 h8 g2.objs.size x1 x2 := hs8.extBut _ _ (Nat.ne_of_gt hzlt) (hs7.extBut _ _ (Nat.ne_of_gt hzlt) (Heap.get?_push_size _ rfl))
    have hn8 : h8.objs.size = g2.objs.size + 1 := by rw [hs8.1, hs7.1, Heap.size_push]
    rw [hsz] at hT8 hn8
    refine wpAny_pure ⟨_, rfl, ?_⟩
    show Q (.ref g2.objs.size) ⟨h8, g, d, tk2, os⟩
    have goal := hQ x1 x2 h8 tk2 _ _ x1 x2 hx1 hx2 (.inr ⟨_, rfl⟩) hz8 (up _ _ S.TOz hT2) (D1.frame _ _ _ hj1 fun b hb o e => up b o (fun q => S.zf1 (q ▸ hb)) e) (D2.frame _ _ _ hj2 fun b hb o e => up b o (fun q => S.zf2 (q ▸ hb)) e) hT8 hn8 fun c o cz cT c1 c2 e => up c o cz (hkk c o cz cT c1 c2 e)
    rw [hsz]
    exact goal
  | false =>
    rw [if_neg Bool.false_ne_true]
    refine wpAny_bind ?_
    simp only [List.forIn_toArray, List.forIn_cons, List.forIn_nil]
    refine wpAny_bind (wpAny_bind (wpAny_holding ?_))
    show wpAny _ _ (Builtin.SmallTypes.nextOf (.ref i1) >>= _) _ _ ⟨g00, g, d, tk0, os⟩
    refine wpAny_bind (D1.item i _ _ _ hlt1 stA1 fun x1 p1 tk1 hx1 sn1 hp1 => wpAny_pure (wpAny_pure ?_))
    replace hp1 : Heap.SameBut i1 g00 p1 := hp1
    refine wpAny_bind (wpAny_bind (wpAny_holding ?_))
    show wpAny _ _ (Builtin.SmallTypes.nextOf (.ref i2) >>= _) _ _ ⟨p1, g, d, tk1, os⟩
    refine wpAny_bind (D2.item i _ _ _ hlt2 (D2.over stA2 hp1 S.sep1_2) fun x2 p2 tk2 hx2 sn2 hp2 => wpAny_pure (wpAny_pure (wpAny_pure ?_)))
    replace hp2 : Heap.SameBut i2 p1 p2 := hp2
    show wpAny _ _ (newTuple [x1, x2] >>= _) _ _ ⟨p2, g, d, tk2, os⟩
    refine wpAny_bind (wpAny_newTuple ?_)
    have hsz : p2.objs.size = hp.objs.size := by rw [hp2.1, hp1.1, hs00.1]
    have hzz : IsZipG p2 z TI TO f0 f1' := hp2.extBut _ _ S.zi2 (hp1.extBut _ _ S.zi1 hzA)
    have hTT : IsTupOf2 p2 TO a1 a2 := hp2.extBut _ _ S.Ti2 (hp1.extBut _ _ S.Ti1 hTOA)
    have up : ∀ c o, p2.get? c = some o → (p2.push { cls := .type "tuple", data := .seq #[x1, x2] }).get? c = some o := fun c o e => Heap.get?_push_of_some _ e
    have hT8 : IsTupOf2 (p2.push { cls := .type "tuple", data := .seq #[x1, x2] }) p2.objs.size x1 x2 := Heap.get?_push_size _ rfl
    have hn8 : (p2.push { cls := .type "tuple", data := .seq #[x1, x2] }).objs.size = p2.objs.size + 1 := Heap.size_push ..
    have hj1 : St1 (i + 1) p2 := D1.over sn1 hp2 S.sep2_1
    refine wpAny_pure ⟨_, rfl, ?_⟩
    show Q (.ref p2.objs.size) ⟨p2.push { cls := .type "tuple", data := .seq #[x1, x2] }, g, d, tk2, os⟩
    rw [hsz] at hT8 hn8
    have goal := hQ x1 x2 (p2.push { cls := .type "tuple", data := .seq #[x1, x2] }) tk2 _ _ _ _ hx1 hx2 ho (up _ _ hzz) (up _ _ hTT) (D1.frame _ _ _ hj1 fun b _ o e => up b o e) (D2.frame _ _ _ sn2 fun b _ o e => up b o e) hT8 hn8
      fun c o cz cT c1 c2 e => up c o (hp2.extBut _ _ c2 (hp1.extBut _ _ c1 (hs00.extBut _ _ cz e)))
    rw [hsz]
    exact goal

/-- the end of such a zip: StopIteration flies -/
theorem xz_end {Q : Fin → Shared → Prop} (S : ZipSep2 z TI TO i1 i2 fp1 fp2) (D1 : Draws prog w A i1 fp1 n1 P1 St1) (D2 : Draws prog w A i2 fp2 n2 P2 St2) (ho : OwnG f0)
    (hz : IsZipG s.heap z TI TO f0 f1) (hTI : IsTupOf2 s.heap TI (.ref i1) (.ref i2)) (hTO : IsTupOf2 s.heap TO a1 a2) (st1 : St1 i s.heap) (st2 : St2 i s.heap) (hle1 : i ≤ n1) (hle2 : i ≤ n2) (hend : i = n1 ∨ i = n2)
    (hE : ∀ h' tk e, (∀ c o, c ≠ z → c ≠ TO → c ≠ i1 → c ≠ i2 → s.heap.get? c = some o → h'.get? c = some o) → (∃ o, h'.get? e = some o ∧ o.cls = .type "StopIteration") → E (.ref e) { s with heap := h', toks := tk }) :
    wpAny (model prog w) A (Builtin.«zip.__next__» ⟨[.ref z], []⟩) Q E s := by
  obtain ⟨hp, g, d, tk0, os⟩ := s
  show wpAny _ _ (field (.ref z) 2 >>= _) _ _ _
  refine wpAny_bind (wpAny_field hz rfl (x := .bool false) rfl ?_)
  show wpAny _ _ (field (.ref z) 3 >>= _) _ _ _
  refine wpAny_bind (wpAny_field hz rfl (x := .ref TI) rfl ?_)
  refine wpAny_bind (wpAny_seqItems hTI rfl ?_)
  show wpAny _ _ (Builtin.SmallTypes.ownedTupleIsFree (.ref z) >>= _) _ _ _
  refine wpAny_bind (xz_free hz ho fun bfree f1' g00 hzA hs00 => ?_)
  replace hs00 : Heap.SameBut z hp g00 := hs00
  have hTOA : IsTupOf2 g00 TO a1 a2 := hs00.extBut _ _ S.TOz hTO
  have stA1 : St1 i g00 := D1.over st1 hs00 S.zf1
  have stA2 : St2 i g00 := D2.over st2 hs00 S.zf2
  cases bfree with
  | true =>
    rw [if_pos rfl]
    refine wpAny_bind (wpAny_rule ?_)
    refine wpAny_bind (wpAny_field hzA rfl (x := .ref TO) rfl ?_)
    refine wpAny_bind (wpAny_setField_rec hzA (by simp) fun g0 hz0 hs0 => ?_)
    replace hz0 : IsZipG g0 z TI TO .ellipsis f1' := hz0
    replace hs0 : Heap.SameBut z g00 g0 := hs0
    refine wpAny_bind ?_
    simp only [List.zipIdx_cons, List.zipIdx_nil, List.forIn_cons, List.forIn_nil]
    refine wpAny_bind (wpAny_bind (wpAny_onRaise ?_))
    show wpAny _ _ (Builtin.SmallTypes.nextOf (.ref i1) >>= _) _ _ ⟨g0, g, d, tk0, os⟩
    by_cases hlt1 : i < n1
    · refine wpAny_bind (D1.item i _ _ _ hlt1 (D1.over stA1 hs0 S.zf1) fun x1 p1 tk1 hx1 sn1 hp1 => wpAny_pure ?_)
      replace hp1 : Heap.SameBut i1 g0 p1 := hp1
      have hU1 : IsTupOf2 p1 TO a1 a2 := hp1.extBut _ _ S.Ti1 (hs0.extBut _ _ S.TOz hTOA)
      refine wpAny_bind (wpAny_seqItems (s := ⟨p1, g, d, tk1, os⟩) hU1 rfl ?_)
      refine wpAny_bind (updateSeq_IsTupOf2 (s := ⟨p1, g, d, tk1, os⟩) hU1 fun g1 hT1 hs1 => ?_)
      replace hs1 : Heap.SameBut TO p1 g1 := hs1
      refine wpAny_bind (wpAny_letGo (wpAny_pure ?_))
      have hi2 : i = n2 := by omega
      refine wpAny_bind (wpAny_bind (wpAny_onRaise ?_))
      show wpAny _ _ (Builtin.SmallTypes.nextOf (.ref i2) >>= _) _ _ ⟨g1, g, d, tk1, os⟩
      refine wpAny_bind (D2.done ⟨g1, g, d, tk1, os⟩ _ _ (by rw [← hi2]; exact (D2.over (D2.over (D2.over stA2 hs0 S.zf2) hp1 S.sep1_2) hs1 S.Tf2)) fun q e hq he => ?_)
      replace hq : Heap.ExtBut i2 g1 q := hq
      obtain ⟨oe, hoe, hce⟩ := he
      replace hoe : q.get? e = some oe := hoe
      have hzq : IsZipG q z TI TO .ellipsis f1' := hq _ _ S.zi2 (hs1.extBut _ _ S.TOz.symm (hp1.extBut _ _ S.zi1 hz0))
      have hez : e ≠ z := fun x => by subst x; rw [hzq] at hoe; cases hoe; simp at hce
      refine wpAny_setField_rec (s := ⟨q, g, d, tk1, os⟩) hzq (by simp) fun q' _ hq' => ?_
      replace hq' : Heap.SameBut z q q' := hq'
      exact hE q' tk1 e (fun c o cz cT c1 c2 x => hq'.extBut _ _ cz (hq _ _ c2 (hs1.extBut _ _ cT (hp1.extBut _ _ c1 (hs0.extBut _ _ cz (hs00.extBut _ _ cz x)))))) ⟨oe, hq'.extBut _ _ hez hoe, hce⟩
    · have hi1 : i = n1 := by omega
      refine wpAny_bind (D1.done ⟨g0, g, d, tk0, os⟩ _ _ (by rw [← hi1]; exact (D1.over stA1 hs0 S.zf1)) fun q e hq he => ?_)
      replace hq : Heap.ExtBut i1 g0 q := hq
      obtain ⟨oe, hoe, hce⟩ := he
      replace hoe : q.get? e = some oe := hoe
      have hzq : IsZipG q z TI TO .ellipsis f1' := hq _ _ S.zi1 hz0
      have hez : e ≠ z := fun x => by subst x; rw [hzq] at hoe; cases hoe; simp at hce
      refine wpAny_setField_rec (s := ⟨q, g, d, tk0, os⟩) hzq (by simp) fun q' _ hq' => ?_
      replace hq' : Heap.SameBut z q q' := hq'
      exact hE q' tk0 e (fun c o cz cT c1 c2 x => hq'.extBut _ _ cz (hq _ _ c1 (hs0.extBut _ _ cz (hs00.extBut _ _ cz x)))) ⟨oe, hq'.extBut _ _ hez hoe, hce⟩
  | false =>
    rw [if_neg Bool.false_ne_true]
    refine wpAny_bind ?_
    simp only [List.forIn_toArray, List.forIn_cons, List.forIn_nil]
    refine wpAny_bind (wpAny_bind (wpAny_holding ?_))
    show wpAny _ _ (Builtin.SmallTypes.nextOf (.ref i1) >>= _) _ _ ⟨g00, g, d, tk0, os⟩
    by_cases hlt1 : i < n1
    · refine wpAny_bind (D1.item i _ _ _ hlt1 stA1 fun x1 p1 tk1 hx1 sn1 hp1 => wpAny_pure (wpAny_pure ?_))
      replace hp1 : Heap.SameBut i1 g00 p1 := hp1
      have hi2 : i = n2 := by omega
      refine wpAny_bind (wpAny_bind (wpAny_holding ?_))
      show wpAny _ _ (Builtin.SmallTypes.nextOf (.ref i2) >>= _) _ _ ⟨p1, g, d, tk1, os⟩
      refine wpAny_bind (D2.done ⟨p1, g, d, tk1, os⟩ _ _ (by rw [← hi2]; exact D2.over stA2 hp1 S.sep1_2) fun q e hq he => ?_)
      replace hq : Heap.ExtBut i2 p1 q := hq
      exact hE q tk1 e (fun c o cz cT c1 c2 x => hq _ _ c2 (hp1.extBut _ _ c1 (hs00.extBut _ _ cz x))) he
    · have hi1 : i = n1 := by omega
      refine wpAny_bind (D1.done ⟨g00, g, d, tk0, os⟩ _ _ (by rw [← hi1]; exact stA1) fun q e hq he => ?_)
      replace hq : Heap.ExtBut i1 g00 q := hq
      exact hE q tk0 e (fun c o cz cT c1 c2 x => hq _ _ c1 (hs00.extBut _ _ cz x)) he
theorem xz_nextOf {Q : Value → Shared → Prop} (S : ZipSep2 z TI TO i1 i2 fp1 fp2) (D1 : Draws prog w A.in1 i1 fp1 n1 P1 St1) (D2 : Draws prog w A.in1 i2 fp2 n2 P2 St2) (ho : OwnG f0)
    (hz : IsZipG s.heap z TI TO f0 f1) (hTI : IsTupOf2 s.heap TI (.ref i1) (.ref i2)) (hTO : IsTupOf2 s.heap TO a1 a2) (st1 : St1 i s.heap) (st2 : St2 i s.heap) (hlt1 : i < n1) (hlt2 : i < n2)
    (hQ : ∀ x1 x2 h' tk g0 g1 b1 b2, P1 i x1 → P2 i x2 → OwnG g0 → IsZipG h' z TI TO g0 g1 → IsTupOf2 h' TO b1 b2 → St1 (i + 1) h' → St2 (i + 1) h' → IsTupOf2 h' s.heap.objs.size x1 x2 → h'.objs.size = s.heap.objs.size + 1 →
      (∀ c o, c ≠ z → c ≠ TO → c ≠ i1 → c ≠ i2 → s.heap.get? c = some o → h'.get? c = some o) → Q (.ref s.heap.objs.size) { s with heap := h', toks := tk }) :
    wpAny (model prog w) A (Builtin.SmallTypes.nextOf (.ref z)) Q E s := by
  have hT : s.TypeIs (.ref z) "zip" := ⟨_, hz, rfl⟩
  unfold Builtin.SmallTypes.nextOf
  exact wpAny_bind (wpAny_callSpecial?_slot (name := Str.ofString "__next__") hT F.slot_zip_next
    (wpAny_call_entry F.slot_zip_next hT F.entry_zip_next
      (xz_item S D1 D2 ho hz hTI hTO st1 st2 hlt1 hlt2 fun x1 x2 h' tk g0 g1 b1 b2 p1 p2 o1 y1 y2 y3 y4 y5 y6 y7 => wpAny_pure (hQ x1 x2 h' tk g0 g1 b1 b2 p1 p2 o1 y1 y2 y3 y4 y5 y6 y7)) (F.args_zip_next_1 _)))
theorem xz_nextOf_end {Q : Value → Shared → Prop} (S : ZipSep2 z TI TO i1 i2 fp1 fp2) (D1 : Draws prog w A.in1 i1 fp1 n1 P1 St1) (D2 : Draws prog w A.in1 i2 fp2 n2 P2 St2) (ho : OwnG f0)
    (hz : IsZipG s.heap z TI TO f0 f1) (hTI : IsTupOf2 s.heap TI (.ref i1) (.ref i2)) (hTO : IsTupOf2 s.heap TO a1 a2) (st1 : St1 i s.heap) (st2 : St2 i s.heap) (hle1 : i ≤ n1) (hle2 : i ≤ n2) (hend : i = n1 ∨ i = n2)
    (hE : ∀ h' tk e, (∀ c o, c ≠ z → c ≠ TO → c ≠ i1 → c ≠ i2 → s.heap.get? c = some o → h'.get? c = some o) → (∃ o, h'.get? e = some o ∧ o.cls = .type "StopIteration") → E (.ref e) { s with heap := h', toks := tk }) :
    wpAny (model prog w) A (Builtin.SmallTypes.nextOf (.ref z)) Q E s := by
  have hT : s.TypeIs (.ref z) "zip" := ⟨_, hz, rfl⟩
  unfold Builtin.SmallTypes.nextOf
  exact wpAny_bind (wpAny_callSpecial?_slot (name := Str.ofString "__next__") hT F.slot_zip_next
    (wpAny_call_entry F.slot_zip_next hT F.entry_zip_next
      (xz_end S D1 D2 ho hz hTI hTO st1 st2 hle1 hle2 hend hE) (F.args_zip_next_1 _)))
/-- the next item of enumerate over a zip: two new tuples, the pair and (i, pair) -/
theorem xe_item {e : Addr} {old : Value} {Q : Value → Shared → Prop} (S : ZipSep2 z TI TO i1 i2 fp1 fp2) (D1 : Draws prog w A.in1 i1 fp1 n1 P1 St1) (D2 : Draws prog w A.in1 i2 fp2 n2 P2 St2) (ho : OwnG f0)
    (he : IsEnum s.heap e z i old) (hez : e ≠ z) (heT : e ≠ TO) (heI : e ≠ TI) (hef1 : e ∉ fp1) (hef2 : e ∉ fp2)
    (hz : IsZipG s.heap z TI TO f0 f1) (hTI : IsTupOf2 s.heap TI (.ref i1) (.ref i2)) (hTO : IsTupOf2 s.heap TO a1 a2) (st1 : St1 i s.heap) (st2 : St2 i s.heap) (hlt1 : i < n1) (hlt2 : i < n2)
    (hQ : ∀ x1 x2 h' tk tk1 g0 g1 b1 b2, P1 i x1 → P2 i x2 → OwnG g0 → IsEnumOut h' e z ((i : Int) + 1) (.ref s.heap.objs.size) (s.heap.objs.size + 1) → IsZipG h' z TI TO g0 g1 → IsTupOf2 h' TO b1 b2 → St1 (i + 1) h' → St2 (i + 1) h' →
      IsTupOf2 h' s.heap.objs.size x1 x2 → IsTupOf2 h' (s.heap.objs.size + 1) (.int i tk1) (.ref s.heap.objs.size) →
      (∀ c o, c ≠ e → c ≠ z → c ≠ TO → c ≠ i1 → c ≠ i2 → s.heap.get? c = some o → h'.get? c = some o) → Q (.ref (s.heap.objs.size + 1)) { s with heap := h', toks := tk }) :
    wpAny (model prog w) A (Builtin.«enumerate.__next__» ⟨[.ref e], []⟩) (fun fin s' => ∃ v, fin = .done (.ret v) ∧ Q v s') E s := by
  obtain ⟨hp, g, d, tk₀, os⟩ := s
  have hei1 : e ≠ i1 := fun q => hef1 (q ▸ S.mem1)
  have hei2 : e ≠ i2 := fun q => hef2 (q ▸ S.mem2)
  show wpAny _ _ (field (.ref e) 2 >>= _) _ _ _
  refine wpAny_bind (wpAny_field he rfl (x := .ref z) rfl ?_)
  refine wpAny_bind (xz_nextOf S D1 D2 ho hz hTI hTO st1 st2 hlt1 hlt2 fun x1 x2 h1 tk g0 g1 b1 b2 hP1 hP2 hO z1 T1 s1 s2 hN sz1 k1 => ?_)
  replace hN : IsTupOf2 h1 hp.objs.size x1 x2 := hN
  replace sz1 : h1.objs.size = hp.objs.size + 1 := sz1
  replace k1 : ∀ c o, c ≠ z → c ≠ TO → c ≠ i1 → c ≠ i2 → hp.get? c = some o → h1.get? c = some o := k1
  have he1 : IsEnum h1 e z i old := k1 _ _ hez heT hei1 hei2 he
  show wpAny _ _ (field (.ref e) 3 >>= _) _ _ ⟨h1, g, d, tk, os⟩
  refine wpAny_bind (wpAny_field he1 rfl (x := rawInt i) rfl ?_)
  show wpAny _ _ (field (.ref e) 4 >>= _) _ _ ⟨h1, g, d, tk, os⟩
  refine wpAny_bind (wpAny_field he1 rfl (x := .none) rfl ?_)
  show wpAny _ _ (mkInt i >>= _) _ _ ⟨h1, g, d, tk, os⟩
  refine wpAny_bind (wpAny_mkInt ?_)
  show wpAny _ _ (setField (.ref e) 3 (rawInt ((i : Int) + 1)) >>= _) _ _ ⟨h1, g, d, tk + 1, os⟩
  refine wpAny_bind (wpAny_setField_rec he1 (by simp) fun h2 he2 hs2 => ?_)
  replace hs2 : Heap.SameBut e h1 h2 := hs2
  replace he2 : IsEnum h2 e z ((i : Int) + 1) old := he2
  show wpAny _ _ (setField (.ref e) 4 .none >>= _) _ _ ⟨h2, g, d, tk + 1, os⟩
  refine wpAny_bind (wpAny_setField_rec he2 (by simp) fun h3 he3 hs3 => ?_)
  replace hs3 : Heap.SameBut e h2 h3 := hs3
  replace he3 : IsEnum h3 e z ((i : Int) + 1) old := he3
  show wpAny _ _ (newTuple [.int i tk, .ref hp.objs.size] >>= _) _ _ ⟨h3, g, d, tk + 1, os⟩
  refine wpAny_bind (wpAny_newTuple ?_)
  have hsz : h3.objs.size = hp.objs.size + 1 := by rw [hs3.1, hs2.1, sz1]
  have hel : e < hp.objs.size := Heap.lt_size he
  have keep3 : ∀ c o, c ≠ e → h1.get? c = some o → h3.get? c = some o := fun c o ce x => hs3.extBut _ _ ce (hs2.extBut _ _ ce x)
  obtain ⟨h4, hh4⟩ : ∃ h4, h4 = h3.push { cls := .type "tuple", data := .seq #[.int i tk, .ref hp.objs.size] } := ⟨_, rfl⟩
  have keep4 : ∀ c o, c ≠ e → h1.get? c = some o → h4.get? c = some o := fun c o ce x => by rw [hh4]; exact Heap.get?_push_of_some _ (keep3 c o ce x)
  have he4 : IsEnum h4 e z ((i : Int) + 1) old := by rw [hh4]; exact Heap.get?_push_of_some _ he3
  have ht4 : IsTupOf2 h4 (hp.objs.size + 1) (.int i tk) (.ref hp.objs.size) := by rw [hh4, ← hsz]; exact Heap.get?_push_size _ rfl
  show wpAny _ _ (Builtin.SmallTypes.ownedTupleIsFree (.ref e) >>= _) _ _ ⟨h3.push { cls := .type "tuple", data := .seq #[.int i tk, .ref hp.objs.size] }, g, d, tk + 1, os⟩
  rw [← hh4, hsz]
  refine wpAny_bind ?_
  unfold Builtin.SmallTypes.ownedTupleIsFree
  refine wpAny_bind (wpAny_field he4 rfl (x := .none) rfl (wpAny_pure ?_))
  simp only [if_true]
  refine wpAny_bind (wpAny_rule ?_)
  refine wpAny_bind (wpAny_field he4 rfl (x := old) rfl ?_)
  refine wpAny_bind (wpAny_setField_rec he4 (by simp) fun h5 he5 hs5 => ?_)
  replace hs5 : Heap.SameBut e h4 h5 := hs5
  replace he5 : IsEnum h5 e z ((i : Int) + 1) (.ref hp.objs.size) := he5
  show wpAny _ _ (Builtin.SmallTypes.ownedTupleHandOut (.ref e) (.ref (hp.objs.size + 1)) >>= _) _ _ ⟨h5, g, d, tk + 1, os⟩
  refine wpAny_bind ?_
  unfold Builtin.SmallTypes.ownedTupleHandOut
  refine wpAny_bind (wpAny_setField_rec he5 (by simp) fun h6 he6 hs6 => ?_)
  replace hs6 : Heap.SameBut e h5 h6 := hs6
  replace he6 : IsEnumOut h6 e z ((i : Int) + 1) (.ref hp.objs.size) (hp.objs.size + 1) := he6
  refine wpAny_setField_rec he6 (by simp) fun h7 he7 hs7 => ?_
  replace hs7 : Heap.SameBut e h6 h7 := hs7
  replace he7 : IsEnumOut h7 e z ((i : Int) + 1) (.ref hp.objs.size) (hp.objs.size + 1) := he7
  have keep7 : ∀ c o, c ≠ e → h4.get? c = some o → h7.get? c = some o := fun c o ce x => hs7.extBut _ _ ce (hs6.extBut _ _ ce (hs5.extBut _ _ ce x))
  refine wpAny_bind (wpAny_letGo (wpAny_pure ⟨_, rfl, hQ x1 x2 h7 (tk + 1) tk g0 g1 b1 b2 hP1 hP2 hO he7 ?_ ?_ ?_ ?_ ?_ ?_ ?_⟩))
  · exact keep7 _ _ (Ne.symm hez) (keep4 _ _ (Ne.symm hez) z1)
  · exact keep7 _ _ (Ne.symm heT) (keep4 _ _ (Ne.symm heT) T1)
  · exact D1.frame _ _ _ s1 fun b hb o x => keep7 _ _ (fun q => hef1 (q ▸ hb)) (keep4 _ _ (fun q => hef1 (q ▸ hb)) x)
  · exact D2.frame _ _ _ s2 fun b hb o x => keep7 _ _ (fun q => hef2 (q ▸ hb)) (keep4 _ _ (fun q => hef2 (q ▸ hb)) x)
  · exact keep7 _ _ (Nat.ne_of_gt hel) (keep4 _ _ (Nat.ne_of_gt hel) hN)
  · exact keep7 _ _ (Nat.ne_of_gt (Nat.lt_succ_of_lt hel)) ht4
  · exact fun c o ce cz cT c1 c2 x => keep7 _ _ ce (keep4 _ _ ce (k1 c o cz cT c1 c2 x))

theorem xe_pyNext {e : Addr} {old : Value} {Q : Option Value → Shared → Prop} (S : ZipSep2 z TI TO i1 i2 fp1 fp2) (D1 : Draws prog w A.in1.in1 i1 fp1 n1 P1 St1) (D2 : Draws prog w A.in1.in1 i2 fp2 n2 P2 St2) (ho : OwnG f0)
    (he : IsEnum s.heap e z i old) (hez : e ≠ z) (heT : e ≠ TO) (heI : e ≠ TI) (hef1 : e ∉ fp1) (hef2 : e ∉ fp2)
    (hz : IsZipG s.heap z TI TO f0 f1) (hTI : IsTupOf2 s.heap TI (.ref i1) (.ref i2)) (hTO : IsTupOf2 s.heap TO a1 a2) (st1 : St1 i s.heap) (st2 : St2 i s.heap) (hlt1 : i < n1) (hlt2 : i < n2)
    (hQ : ∀ x1 x2 h' tk tk1 g0 g1 b1 b2, P1 i x1 → P2 i x2 → OwnG g0 → IsEnumOut h' e z ((i : Int) + 1) (.ref s.heap.objs.size) (s.heap.objs.size + 1) → IsZipG h' z TI TO g0 g1 → IsTupOf2 h' TO b1 b2 → St1 (i + 1) h' → St2 (i + 1) h' →
      IsTupOf2 h' s.heap.objs.size x1 x2 → IsTupOf2 h' (s.heap.objs.size + 1) (.int i tk1) (.ref s.heap.objs.size) →
      (∀ c o, c ≠ e → c ≠ z → c ≠ TO → c ≠ i1 → c ≠ i2 → s.heap.get? c = some o → h'.get? c = some o) → Q (some (.ref (s.heap.objs.size + 1))) { s with heap := h', toks := tk }) :
    wpAny (model prog w) A (pyNext (.ref e)) Q E s := by
  have hT : s.TypeIs (.ref e) "enumerate" := ⟨_, he, rfl⟩
  unfold pyNext
  exact wpAny_bind (wpAny_attempt (wpAny_callSpecial?_slot (name := Str.ofString "__next__") hT F.slot_enumerate_next
    (wpAny_call_entry F.slot_enumerate_next hT F.entry_enumerate_next
      (xe_item S D1 D2 ho he hez heT heI hef1 hef2 hz hTI hTO st1 st2 hlt1 hlt2 fun x1 x2 h' tk tk1 g0 g1 b1 b2 p1 p2 o1 y1 y2 y3 y4 y5 y6 y7 y8 => wpAny_pure (hQ x1 x2 h' tk tk1 g0 g1 b1 b2 p1 p2 o1 y1 y2 y3 y4 y5 y6 y7 y8)) (F.args_enumerate_next_1 _))))
theorem xe_pyNext_end {e : Addr} {old : Value} {k : Int} {Q : Option Value → Shared → Prop} (S : ZipSep2 z TI TO i1 i2 fp1 fp2) (D1 : Draws prog w A.in1.in1 i1 fp1 n1 P1 St1) (D2 : Draws prog w A.in1.in1 i2 fp2 n2 P2 St2) (ho : OwnG f0)
    (he : IsEnum s.heap e z k old)
    (hz : IsZipG s.heap z TI TO f0 f1) (hTI : IsTupOf2 s.heap TI (.ref i1) (.ref i2)) (hTO : IsTupOf2 s.heap TO a1 a2) (st1 : St1 i s.heap) (st2 : St2 i s.heap) (hle1 : i ≤ n1) (hle2 : i ≤ n2) (hend : i = n1 ∨ i = n2)
    (hQ : ∀ h' tk, (∀ c o, c ≠ z → c ≠ TO → c ≠ i1 → c ≠ i2 → s.heap.get? c = some o → h'.get? c = some o) → Q none { s with heap := h', toks := tk }) :
    wpAny (model prog w) A (pyNext (.ref e)) Q E s := by
  have hT : s.TypeIs (.ref e) "enumerate" := ⟨_, he, rfl⟩
  unfold pyNext
  refine wpAny_bind (wpAny_attempt (wpAny_callSpecial?_slot (name := Str.ofString "__next__") hT F.slot_enumerate_next
    (wpAny_call_entry F.slot_enumerate_next hT F.entry_enumerate_next ?_ (F.args_enumerate_next_1 _))))
  show wpAny _ _ (field (.ref e) 2 >>= _) _ _ _
  refine wpAny_bind (wpAny_field he rfl (x := .ref z) rfl ?_)
  refine wpAny_bind (xz_nextOf_end S D1 D2 ho hz hTI hTO st1 st2 hle1 hle2 hend fun h' tk x hk hx' => ?_)
  obtain ⟨o, hoo, hc⟩ := hx'
  refine wpAny_bind (wpAny_isInstance (T := "StopIteration") (b := true) ⟨o, hoo, hc⟩ isSubtype_stop ?_)
  exact wpAny_pure (hQ _ _ hk)
end
theorem meets_enum_zip (z TI TO : Addr) :
    Meets (Builtin.«enumerate.__new__» ⟨[.type "enumerate", .ref z], []⟩) (fun _ R s => IsZip s.heap z TI TO .none ∧
      R (.ok (.ret (.ref s.heap.objs.size))) { s with heap := s.heap.push { cls := .type "enumerate", data := .fields #[.none, .bool false, .ref z, rawInt 0, .none, .none] } }) :=
  .of_wp fun prog w A R s h => by
    obtain ⟨hp, g, d, tk, os⟩ := s; obtain ⟨hz, h⟩ := h
    have hsub := sub_enumerate
    have q1 : ∀ {A' : Around} {E : Value → Shared → Prop} {Q : Value → Shared → Prop}, Q (.ref z) ⟨hp, g, d, tk, os⟩ → wpAny (model prog w) A' (pyIter (.ref z)) Q E ⟨hp, g, d, tk, os⟩ :=
      fun q => wpAny_pyIter_zip hz q
    wp_walk using q1
    refine wpAny_stack_any fun st => wpAny_pure ?_
    split
    · rename_i c _ _ _ _ _
      cases (c == Value.type "enumerate")
      · wp_walk using q1
        exact ⟨_, rfl, h⟩
      · wp_walk using q1
        exact ⟨_, rfl, h⟩
    · wp_walk using q1
      exact ⟨_, rfl, h⟩
section
variable {prog : Program} {w : World} {A : Around} {E : Value → Shared → Prop} {s : Shared}
theorem call_enum_zip {z TI TO : Addr} {Q : Value → Shared → Prop} (hz : IsZip s.heap z TI TO .none)
    (h : ∀ h', IsEnum h' s.heap.objs.size z 0 .none → h'.objs.size = s.heap.objs.size + 1 → (∀ b o, s.heap.get? b = some o → h'.get? b = some o) → Q (.ref s.heap.objs.size) { s with heap := h' }) :
    wpAny (model prog w) A (call (.type "enumerate") [.ref z]) Q E s := by
  refine callType_new F.called_enumerate (by decide) (F.typeCall_enumerate_1 _) (F.newCall_enumerate_1 _) (fun obj => F.args_object_init_2 obj _) F.entry_enumerate_new
    (meets_enum_zip z TI TO) ⟨hz, ?_⟩
  have he : IsEnum (s.heap.push { cls := .type "enumerate", data := .fields #[.none, .bool false, .ref z, rawInt 0, .none, .none] }) s.heap.objs.size z 0 .none := Heap.get?_push_size _ rfl
  exact ⟨⟨_, he, rfl⟩, h _ he (Heap.size_push ..) fun b o x => Heap.get?_push_of_some _ x⟩
end
end PySem
namespace L2
open PySem PySem.Spec PyProof.Rows
section
variable {X : Cx} {pins : List (Addr × Obj)} {σ : St} {H H' : Hp} {s : Shared} {h' : Heap}
/-- several records of ours have turned, and new objects are laid -/
theorem Inv.turnedGen {t' : Nat} {ch : List Addr} (I : Inv X pins σ H s) (k : ∀ b o, b ∉ ch → s.heap.get? b = some o → h'.get? b = some o) (hf : ∀ b ∈ ch, FpOk X pins H b)
    (old : ∀ b, b < s.heap.objs.size → H' b = H b) (new : ∀ b u, s.heap.objs.size ≤ b → H' b = some u → ObjOk X.prog X.w H' h' b u) : Inv X pins σ H' { s with heap := h', toks := t' } := by
  have lt : ∀ {b u}, H b = some u → b < s.heap.objs.size := fun {b u} e => I.hok.lt e
  have up : ∀ {b u}, H b = some u → H' b = some u := fun {b u} e => (old b (lt e)).trans e
  have nit : ∀ b u, H b = some u → b ∉ ch := fun b u e z => by
    have q := (hf b z).1
    rw [q] at e; cases e
  refine I.step (g' := s.gens) (d' := s.drawn) (ch := ch) (fun b hb => ⟨(hf b hb).2.2.2.1, (hf b hb).2.1, (hf b hb).2.2.2.2.1, (hf b hb).2.2.2.2.2⟩) (fun b o _ _ hc e _ => k b o hc e) (fun b o _ _ hc e _ => ⟨o.slots, k b o hc e⟩)
    (fun b o _ e n => (old b (Heap.lt_size e)).trans n) (fun b o hc e => ⟨o, k b o hc e⟩) (fun b xs e => up e) (fun b o u e => up e) (fun b ps e => ⟨#[], by rw [up e]; simp⟩) (fun m hm => ?_) (fun b u e => ?_) I.bare
  · obtain ⟨o, es, ep, ho, r⟩ := hm
    exact ⟨o, es, ep, k _ o (fun z => (hf _ z).2.1 rfl) ho, r⟩
  · by_cases hb : b < s.heap.objs.size
    · have e' : H b = some u := (old b hb).symm.trans e
      refine (I.hok b u e').stay (fun c v hc q => k c v ?_ q) (fun c q => up q) fun c xs q => up q
      rcases hc with z | z
      · rw [z]; exact nit b u e'
      · exact nit c _ z
    · exact new b u (Nat.le_of_not_lt hb) e
end
/-- two texts sign by sign, each pair of signs with its number: (i, (x, y)), two new tuples -/
def Iez (x y : Str) : It := ⟨fun i _ => i < min x.cps.size y.cps.size,
  fun i H v H' => ∃ T P c d, v = .ref P ∧ H T = none ∧ H P = none ∧ T ≠ P ∧ H' = upd (upd H T (.tup [.str ⟨#[c]⟩, .str ⟨#[d]⟩])) P (.tup [.int (i : Nat), .ref T]) ∧ x.cps[i]? = some c ∧ y.cps[i]? = some d,
  fun i _ => i = min x.cps.size y.cps.size⟩
theorem turn_ez {P : Program} {w : World} {K : PySem.W.Frag} {elts : List Expr} {kk : Nat} {tpos : Pos} {e z TI TO i1 i2 : Addr} {x y : Str} {t1 t2 : Tok} (S : ZipSep2 z TI TO i1 i2 [i1] [i2]) (hez : e ≠ z) (heT : e ≠ TO) (heI : e ≠ TI) (he1 : e ≠ i1) (he2 : e ≠ i2) :
    Turn P w K (.Tuple elts kk tpos) (Iez x y) [e, z, TI, TO, i1, i2] e (fun i h => ∃ f0 f1 a1 a2 old, OwnG f0 ∧ IsEnum h e z i old ∧ IsZipG h z TI TO f0 f1 ∧ IsTupOf2 h TI (.ref i1) (.ref i2) ∧ IsTupOf2 h TO a1 a2 ∧ h.IsStrIter i1 (strIterType x) x t1 i ∧ h.IsStrIter i2 (strIterType y) y t2 i) where
  mem := by simp
  obj := fun i h st c hc => by
    obtain ⟨f0, f1, a1, a2, old, ho, he, hz, hTI, hTO, ⟨o1, q1, _, d1⟩, ⟨o2, q2, _, d2⟩⟩ := st
    have e' : c = e ∨ c = z ∨ c = TI ∨ c = TO ∨ c = i1 ∨ c = i2 := by simpa using hc
    rcases e' with q | q | q | q | q | q
    · rw [q]; exact ⟨_, he, fun v q => nomatch q⟩
    · rw [q]; exact ⟨_, hz, fun v q => nomatch q⟩
    · rw [q]; exact ⟨_, hTI, fun v q => nomatch q⟩
    · rw [q]; exact ⟨_, hTO, fun v q => nomatch q⟩
    · rw [q]; exact ⟨o1, q1, fun v q => by rw [d1] at q; cases q⟩
    · rw [q]; exact ⟨o2, q2, fun v q => by rw [d2] at q; cases q⟩
  keep := fun i h h' st k => by
    obtain ⟨f0, f1, a1, a2, old, ho, he, hz, hTI, hTO, ⟨o1, q1, r1⟩, ⟨o2, q2, r2⟩⟩ := st
    exact ⟨f0, f1, a1, a2, old, ho, k e (by simp) _ he, k z (by simp) _ hz, k TI (by simp) _ hTI, k TO (by simp) _ hTO, ⟨o1, k i1 (by simp) _ q1, r1⟩, ⟨o2, k i2 (by simp) _ q2, r2⟩⟩
  item := by
    intro X hP hw hK hc i pins s σ H E I hf st hg
    subst hP hw hK
    obtain ⟨f0, f1, a1, a2, old, ho, he, hz, hTI, hTO, h1, h2⟩ := st
    have hg' : i < min x.cps.size y.cps.size := hg
    have hel : e < s.heap.objs.size := Heap.lt_size he
    have D1 := Draws.text (prog := X.prog) (w := X.w) (A := X.A.in1.in1) (I.ok.hd hc) i1 x t1
    have D2 := Draws.text (prog := X.prog) (w := X.w) (A := X.A.in1.in1) (I.ok.hd hc) i2 y t2
    refine xe_pyNext S D1 D2 ho he hez heT heI (by simpa using he1) (by simpa using he2) hz hTI hTO h1 h2 (by omega) (by omega) fun x1 x2 h' tk tk1 g0 g1 b1 b2 p1 p2 hO hE hZ hT s1 s2 hN hM hk => ?_
    obtain ⟨c, u, hcx, rfl⟩ := p1
    obtain ⟨d, v, hdy, rfl⟩ := p2
    refine ⟨_, rfl, wpAny_letOwnedTupleGo_enum (s := { s with heap := h', toks := tk }) hE fun h'' he' sb => ?_⟩
    replace sb : Heap.SameBut e h' h'' := sb
    have nT : H s.heap.objs.size = none := I.hok.fresh (Nat.le_refl _)
    have nP : H (s.heap.objs.size + 1) = none := I.hok.fresh (Nat.le_succ _)
    have neTP : s.heap.objs.size ≠ s.heap.objs.size + 1 := Nat.ne_of_lt (Nat.lt_succ_self _)
    have up : ∀ c o, c ≠ e → h'.get? c = some o → h''.get? c = some o := fun c o ce q => (sb.2 c ce).trans q
    have hN2 : IsTupOf2 h'' s.heap.objs.size (.str ⟨#[c]⟩ u) (.str ⟨#[d]⟩ v) := up _ _ (Nat.ne_of_gt hel) hN
    have hM2 : IsTupOf2 h'' (s.heap.objs.size + 1) (.int i tk1) (.ref s.heap.objs.size) := up _ _ (Nat.ne_of_gt (Nat.lt_succ_of_lt hel)) hM
    have I1 : Inv X pins σ (upd (upd H s.heap.objs.size (.tup [.str ⟨#[c]⟩, .str ⟨#[d]⟩])) (s.heap.objs.size + 1) (.tup [.int (i : Nat), .ref s.heap.objs.size])) { s with heap := h'', toks := tk } := by
      refine I.turnedGen (ch := [e, z, TI, TO, i1, i2]) (fun b o hb q => up b o (fun q' => hb (by simp [q'])) (hk b o (fun q' => hb (by simp [q'])) (fun q' => hb (by simp [q'])) (fun q' => hb (by simp [q'])) (fun q' => hb (by simp [q'])) (fun q' => hb (by simp [q'])) q)) hf (fun b hb => ?_) (fun b u' hb q => ?_)
      · rw [upd_ne (Nat.ne_of_lt (Nat.lt_succ_of_lt hb)), upd_ne (Nat.ne_of_lt hb)]
      · by_cases e1 : b = s.heap.objs.size + 1
        · subst e1
          rw [upd_same] at q
          cases q
          exact ⟨by show 2 ≤ sizeLine; decide, [.int i tk1, .ref s.heap.objs.size], .cons ⟨_, rfl⟩ (.cons rfl .nil), ⟨_, hM2, rfl, _, rfl⟩⟩
        · rw [upd_ne e1] at q
          by_cases e2 : b = s.heap.objs.size
          · subst e2
            rw [upd_same] at q
            cases q
            exact ⟨by show 2 ≤ sizeLine; decide, [.str ⟨#[c]⟩ u, .str ⟨#[d]⟩ v], .cons ⟨_, rfl⟩ (.cons ⟨_, rfl⟩ .nil), ⟨_, hN2, rfl, _, rfl⟩⟩
          · rw [upd_ne e2, I.hok.fresh hb] at q
            cases q
    refine ⟨.ref (s.heap.objs.size + 1), _, I1, rfl, ⟨_, _, c, d, rfl, nT, nP, neTP, rfl, hcx, hdy⟩, ⟨g0, g1, b1, b2, .ref s.heap.objs.size, hO, ?_, up _ _ (Ne.symm hez) hZ, up _ _ (Ne.symm heI) (hk _ _ (Ne.symm heI) S.TIz S.TITO S.TIi1 S.TIi2 hTI), up _ _ (Ne.symm heT) hT, ?_, ?_⟩, fun b hb => ?_⟩
    · have e1 : ((i + 1 : Nat) : Int) = (i : Int) + 1 := by omega
      rw [e1]; exact he'
    · obtain ⟨o, q, r⟩ := s1
      exact ⟨o, up _ _ (Ne.symm he1) q, r⟩
    · obtain ⟨o, q, r⟩ := s2
      exact ⟨o, up _ _ (Ne.symm he2) q, r⟩
    · have hlt : b < s.heap.objs.size := by
        have e' : b = e ∨ b = z ∨ b = TI ∨ b = TO ∨ b = i1 ∨ b = i2 := by simpa using hb
        rcases e' with q | q | q | q | q | q
        · rw [q]; exact hel
        · rw [q]; exact Heap.lt_size hz
        · rw [q]; exact Heap.lt_size hTI
        · rw [q]; exact Heap.lt_size hTO
        · rw [q]; obtain ⟨_, q1, _⟩ := h1; exact Heap.lt_size q1
        · rw [q]; obtain ⟨_, q1, _⟩ := h2; exact Heap.lt_size q1
      rw [upd_ne (Nat.ne_of_lt (Nat.lt_succ_of_lt hlt)), upd_ne (Nat.ne_of_lt hlt)]
      exact (hf b hb).1
  done := by
    intro X hP hw hK hc i pins s σ H E I hf st hg
    subst hP hw hK
    obtain ⟨f0, f1, a1, a2, old, ho, he, hz, hTI, hTO, h1, h2⟩ := st
    have hg' : i = min x.cps.size y.cps.size := hg
    have D1 := Draws.text (prog := X.prog) (w := X.w) (A := X.A.in1.in1) (I.ok.hd hc) i1 x t1
    have D2 := Draws.text (prog := X.prog) (w := X.w) (A := X.A.in1.in1) (I.ok.hd hc) i2 y t2
    exact xe_pyNext_end S D1 D2 ho he hz hTI hTO h1 h2 (by omega) (by omega) (by omega) fun h' tk hk => ⟨rfl, I.turnedL (t' := tk) (ch := [e, z, TI, TO, i1, i2]) (fun c o hb q =>
      hk c o (fun q' => hb (by simp [q'])) (fun q' => hb (by simp [q'])) (fun q' => hb (by simp [q'])) (fun q' => hb (by simp [q'])) q) hf⟩
  self := fun A i s Q E st h => let ⟨_, _, _, _, _, _, he, _⟩ := st; wpAny_pyIter_enum he h
/-- enumerate(zip(x, y)) of two texts -/
def iEz (ta : TA) : TI := fun σ H R => ta σ H fun vs H1 => ∃ x y, vs = [.str x, .str y] ∧ R (Iez x y) H1
theorem pi_ez {X : Cx} {e1 e2 : Expr} {ta : TA} {p p2 pos pos2 tpos : Pos} {elts : List Expr} {kk : Nat} (hg : Gl X "enumerate") (hm : X.mg "enumerate" = none) (hg2 : Gl X "zip") (hm2 : X.mg "zip" = none) (ha : PA X [e1, e2] ta)
    (hs2 : starEach [.Call (.Name "zip" p2) [e1, e2] [] pos2] X.env = [(false, eval (.Call (.Name "zip" p2) [e1, e2] [] pos2) X.env)] := by rfl)
    (hs : starEach [e1, e2] X.env = (false, eval e1 X.env) :: starEach [e2] X.env := by rfl) (hpl : (backTo pos2 (starEach [e2] X.env)).any (·.1) = false := by rfl) :
    PI X (.Tuple elts kk tpos) (.Call (.Name "enumerate" p) [.Call (.Name "zip" p2) [e1, e2] [] pos2] [] pos) (iEz ta) := by
  refine ⟨fun pins s σ H R I h => ?_⟩
  refine Call_ (ld_blt I hg hm boot_enumerate ?_)
  refine PyProof.Rows.callWith_type1 ?_ hs2 rfl
  rw [hs2]
  refine Calls.spliced_cons ?_
  refine Call_ (ld_blt I hg2 hm2 PyProof.Rows.boot_zip (PyProof.Rows.callWith_type1 (thn (ha.run pos2 pins s σ H _ I h) fun us s1 ⟨vs, H1, I1, r1, q1⟩ => ?_) hs hpl))
  obtain ⟨x, y, ex, q⟩ := q1
  subst ex
  cases r1 with
  | cons r rr =>
    cases rr with
    | cons r' rr =>
      cases rr
      obtain ⟨t1, rfl⟩ := r
      obtain ⟨t2, rfl⟩ := r'
      refine zip_begins2 (begins_text x t1) (begins_text y t2) trivial trivial fun h' hz hTI hTO g1 g2 hsz hk => ?_
      refine Calls.spliced_nil ?_
      have I2 : Inv X pins σ H1 { s1 with heap := h' } := I1.kept (t' := s1.toks) hk
      refine call_enum_zip (s := { s1 with heap := h' }) hz fun h'' he hsz2 hk2 => ?_
      replace he : IsEnum h'' h'.objs.size (s1.heap.objs.size + 4) 0 .none := he
      replace hk2 : ∀ b o, h'.get? b = some o → h''.get? b = some o := hk2
      refine wpAny_pyIter_enum (s := { s1 with heap := h'' }) he ?_
      have I3 : Inv X pins σ H1 { s1 with heap := h'' } := I1.kept (t' := s1.toks) fun b o q => hk2 b o (hk b o q)
      rw [hsz] at he ⊢
      have S := zip_sep2 (N := s1.heap.objs.size) (fp1 := []) (fp2 := []) (by simp) (by simp)
      refine ⟨s1.heap.objs.size + 5, [s1.heap.objs.size + 5, s1.heap.objs.size + 4, s1.heap.objs.size + 2, s1.heap.objs.size + 3, s1.heap.objs.size, s1.heap.objs.size + 1], _, _, H1, rfl, I3,
        turn_ez (x := x) (y := y) (t1 := t1) (t2 := t2) S (show (s1.heap.objs.size + 5 : Nat) ≠ s1.heap.objs.size + 4 by omega) (show (s1.heap.objs.size + 5 : Nat) ≠ s1.heap.objs.size + 3 by omega) (show (s1.heap.objs.size + 5 : Nat) ≠ s1.heap.objs.size + 2 by omega) (show (s1.heap.objs.size + 5 : Nat) ≠ s1.heap.objs.size by omega) (show (s1.heap.objs.size + 5 : Nat) ≠ s1.heap.objs.size + 1 by omega),
        ⟨.none, .bool false, .none, .none, .none, .inl rfl, he, hk2 _ _ hz, hk2 _ _ hTI, hk2 _ _ hTO, ⟨_, hk2 _ _ g1, rfl, rfl⟩, ⟨_, hk2 _ _ g2, rfl, rfl⟩⟩, fun c hcm => ?_, q⟩
      have hle : s1.heap.objs.size ≤ c := by
        have e' : c = s1.heap.objs.size + 5 ∨ c = s1.heap.objs.size + 4 ∨ c = s1.heap.objs.size + 2 ∨ c = s1.heap.objs.size + 3 ∨ c = s1.heap.objs.size ∨ c = s1.heap.objs.size + 1 := by simpa using hcm
        rcases e' with z | z | z | z | z | z
        · rw [z]; exact Nat.le_add_right _ _
        · rw [z]; exact Nat.le_add_right _ _
        · rw [z]; exact Nat.le_add_right _ _
        · rw [z]; exact Nat.le_add_right _ _
        · rw [z]; exact Nat.le_refl _
        · rw [z]; exact Nat.le_add_right _ _
      exact I1.fpOk hle (I1.hok.fresh hle)
theorem walk_ez {x y : Str} : Walk (Iez x y) (min x.cps.size y.cps.size) (fun _ => True) (fun i H v H' => ∃ T P c d, v = .ref P ∧ H T = none ∧ H P = none ∧ T ≠ P ∧ H' = upd (upd H T (.tup [.str ⟨#[c]⟩, .str ⟨#[d]⟩])) P (.tup [.int (i : Nat), .ref T]) ∧ x.cps[i]? = some c ∧ y.cps[i]? = some d) :=
  ⟨fun _ _ hi _ => hi, fun _ _ => rfl, fun _ _ _ _ _ _ y => y⟩
end L2
set_option Elab.async false
set_option linter.all false
set_option maxRecDepth 100000
set_option maxHeartbeats 4000000
/-! words of our own over the layer: texts as lists of codes, calls by promises -/
namespace XG
open PySem PySem.Spec PyProof.Rows L2 Evl
/-- the text of these codes, as a value -/
abbrev tx (l : List Nat) : V := .str ⟨l.toArray⟩
theorem tx_inj {a b : List Nat} (h : tx a = tx b) : a = b := by
  have e : (⟨a.toArray⟩ : Str) = ⟨b.toArray⟩ := V.str.inj h
  exact SX.S_inj e
theorem tx_eq {a b : List Nat} : (tx a = tx b) = (a = b) := propext ⟨tx_inj, fun e => by rw [e]⟩
theorem slen (l : List Nat) : (⟨l.toArray⟩ : Str).length = l.length := SX.S_len l
/-! ### calls of defs by name -/
/-- a def of the text stands at its name and keeps a promise -/
structure Cal (P : Program) (w : World) (K : PySem.W.Frag) (mg : Str → Option Value) (base : Heap) (CX : CXT) (k : Nat) (x : Str) (ps : List Str) (sp : Sp) (f : Addr) (fd : FuncData) : Prop where
  ok : FnOk P w K mg base CX k f fd ps sp
  at_ : mg x = some (.ref f)
  kp : PySem.W.keepIn K (.ref f) = true
  bd : Binds K fd ps []
section
variable {X : Cx} {CX : CXT} {k : Nat} {x : Str} {ps : List Str} {sp : Sp} {f : Addr} {fd : FuncData} {p pos : Pos} {e : Expr} {es : List Expr} {t : TA}
theorem pe_cal (C : Cal X.prog X.w X.K X.mg X.base CX0 k x ps sp f fd) (hr : Room k X.A) (ha : PA X (e :: es) t) (hg : Gl X x := by rfl) (hdb : (x == ("__debug__" : Str)) = false := by decide)
    (he : starEach (e :: es) X.env = (false, eval e X.env) :: starEach es X.env := by rfl) (hpl : (backTo pos (starEach es X.env)).any (·.1) = false := by rfl) :
    PE X (.Call (.Name x p) (e :: es) [] pos) (tCall sp [] E0 t) := pe_call C.ok hr hg C.at_ C.kp C.bd .nil pass0 ha hdb he hpl
/-- a call of a def that may raise, where it does not -/
theorem pe_calN (C : Cal X.prog X.w X.K X.mg X.base (L2.CX X.prog X.w) k x ps sp f fd) (hr : Room k X.A) (ha : PA X (e :: es) t) (hg : Gl X x := by rfl) (hdb : (x == ("__debug__" : Str)) = false := by decide)
    (he : starEach (e :: es) X.env = (false, eval e X.env) :: starEach es X.env := by rfl) (hpl : (backTo pos (starEach es X.env)).any (·.1) = false := by rfl) :
    PE X (.Call (.Name x p) (e :: es) [] pos) (tCall sp [] E0 t) := pe_call C.ok hr hg C.at_ C.kp C.bd .nil passL ha hdb he hpl
/-- a call whose errors are taken by a try around, or leave the def -/
theorem pe_calS {E : L2.St → XK} (C : Cal X.prog X.w X.K X.mg X.base CX k x ps sp f fd) (hr : Room k X.A) (hx : ∀ σ, PassesAt CX X σ (E σ)) (ha : PA X (e :: es) t) (hg : Gl X x := by rfl) (hdb : (x == ("__debug__" : Str)) = false := by decide)
    (he : starEach (e :: es) X.env = (false, eval e X.env) :: starEach es X.env := by rfl) (hpl : (backTo pos (starEach es X.env)).any (·.1) = false := by rfl) :
    PE X (.Call (.Name x p) (e :: es) [] pos) (tCallS sp E t) := pe_callS C.ok hr hg C.at_ C.kp C.bd hx ha hdb he hpl
end
/-! ### what evaluates to what: texts -/
section
variable {K : PySem.W.Frag} {σ : L2.St} {H : Hp} {te ta tb : TE} {tl th : TO} {a b l : List Nat}
theorem rv_addT (h : a.length + b.length ≤ 100000) : RV (fun x y H Q => ∃ i j, x = V.str i ∧ y = V.str j ∧ i.length + j.length ≤ sizeLine ∧ Q (.str (i ++ j)) H) (tx a) (tx b) H (tx (a ++ b)) := fun H1 _ Q q =>
  ⟨_, _, rfl, rfl, by rw [slen, slen]; exact sz_of h, by rw [show ((⟨a.toArray⟩ : Str) ++ ⟨b.toArray⟩) = ⟨(a ++ b).toArray⟩ from SX.S_cat a b]; exact q H1 (Ex.refl H1)⟩
theorem rv_eqT : RV rEq (tx a) (tx b) H (.bl (decide (a = b))) := fun H1 _ Q q => ⟨rfl, by
  have e : decide (tx a = tx b) = decide (a = b) := by simp only [tx_eq]
  rw [e]; exact q H1 (Ex.refl H1)⟩
theorem rv_neT : RV rNe (tx a) (tx b) H (.bl (!decide (a = b))) := fun H1 _ Q q => ⟨rfl, by
  have e : decide (tx a = tx b) = decide (a = b) := by simp only [tx_eq]
  rw [e]; exact q H1 (Ex.refl H1)⟩
theorem rv_eqI {i j : Int} : RV rEq (.int i) (.int j) H (.bl (decide (i = j))) := fun H1 _ Q q => ⟨rfl, by
  have e : decide (V.int i = V.int j) = decide (i = j) := by simp only [V.int.injEq]
  rw [e]; exact q H1 (Ex.refl H1)⟩
theorem rv_neI {i j : Int} : RV rNe (.int i) (.int j) H (.bl (!decide (i = j))) := fun H1 _ Q q => ⟨rfl, by
  have e : decide (V.int i = V.int j) = decide (i = j) := by simp only [V.int.injEq]
  rw [e]; exact q H1 (Ex.refl H1)⟩
/-- l[lo:hi] -/
def cutL (l : List Nat) (lo hi : Option Int) : List Nat := (l.drop (HT.sIx l.length 0 lo)).take (HT.sIx l.length l.length hi - HT.sIx l.length 0 lo)
theorem cutL_len (l : List Nat) (lo hi : Option Int) : (cutL l lo hi).length ≤ l.length := by
  unfold cutL
  rw [List.length_take, List.length_drop]
  omega
theorem sIx_pos {n d : Nat} {i : Int} (h : 0 ≤ i) : HT.sIx n d (some i) = min i.toNat n := by
  show (if i < 0 then (i + (n : Int)).toNat else min i.toNat n) = min i.toNat n
  rw [if_neg (by omega)]
theorem cutL_none : cutL l none none = l := by
  unfold cutL
  rw [HT.sIx_none, HT.sIx_none, List.drop_zero, Nat.sub_zero, List.take_length]
theorem cutL_to {i : Int} (h : 0 ≤ i) : cutL l none (some i) = l.take i.toNat := by
  unfold cutL
  rw [HT.sIx_none, sIx_pos h, List.drop_zero, Nat.sub_zero]
  by_cases c : i.toNat ≤ l.length
  · rw [Nat.min_eq_left c]
  · rw [Nat.min_eq_right (by omega), List.take_length, List.take_of_length_le (by omega)]
theorem cutL_from {i : Int} (h : 0 ≤ i) : cutL l (some i) none = l.drop i.toNat := by
  unfold cutL
  rw [HT.sIx_none, sIx_pos h]
  by_cases c : i.toNat ≤ l.length
  · rw [Nat.min_eq_left c, List.take_of_length_le (by rw [List.length_drop]; exact Nat.le_refl _)]
  · rw [Nat.min_eq_right (by omega), List.drop_length, List.drop_of_length_le (by omega), List.take_nil]
theorem cutL_mid {i j : Int} (h : 0 ≤ i) (h2 : 0 ≤ j) : cutL l (some i) (some j) = (l.drop i.toNat).take (j.toNat - i.toNat) := by
  unfold cutL
  rw [sIx_pos h, sIx_pos h2]
  by_cases c : i.toNat ≤ l.length
  · rw [Nat.min_eq_left c]
    by_cases c2 : j.toNat ≤ l.length
    · rw [Nat.min_eq_left c2]
    · rw [Nat.min_eq_right (by omega), List.take_of_length_le (by rw [List.length_drop]; exact Nat.le_refl _), List.take_of_length_le (by rw [List.length_drop]; omega)]
  · rw [Nat.min_eq_right (show l.length ≤ i.toNat by omega), List.drop_length, List.drop_of_length_le (show l.length ≤ i.toNat by omega), List.take_nil, List.take_nil]
theorem cutS_tx (lo hi : Option Int) : cutS ⟨l.toArray⟩ lo hi = ⟨(cutL l lo hi).toArray⟩ := by
  unfold cutS cutL
  rw [slen]
theorem ev_sl {lo hi : Option Int} (h : Ev te σ H (tx l)) (h1 : EvO tl σ H lo) (h2 : EvO th σ H hi) (hz : l.length ≤ 100000) : Ev (tSl rSlS te tl th) σ H (tx (cutL l lo hi)) := fun H1 e _ q =>
  h H1 e _ fun H2 e2 => h1 H2 (e.trans e2) _ fun H3 e3 => h2 H3 ((e.trans e2).trans e3) _ fun H4 e4 => ⟨_, rfl, by rw [slen]; exact sz_of hz, by
    rw [cutS_tx]; exact q H4 ((e2.trans e3).trans e4)⟩
theorem ev_rev (h : Ev te σ H (tx l)) (hz : l.length ≤ 100000) : Ev (tRevS te) σ H (tx l.reverse) := fun H1 e _ q =>
  h H1 e _ fun H2 e2 => ⟨_, rfl, by rw [slen]; exact sz_of hz, q H2 e2⟩
theorem rc_lenT (hz : l.length ≤ 100000) : RC (fun xs H Q => ∃ z, xs = [V.str z] ∧ z.length ≤ sizeLine ∧ Q (.int z.length) H) [tx l] H (.int l.length) := fun H1 _ Q q =>
  ⟨_, rfl, by rw [slen]; exact sz_of hz, by rw [slen]; exact q H1 (Ex.refl H1)⟩
theorem rc_max {i j : Int} : RC (fun xs H Q => ∃ i j, xs = [V.int i, V.int j] ∧ Q (.int (if j > i then j else i)) H) [.int i, .int j] H (.int (max i j)) := fun H1 _ Q q => ⟨i, j, rfl, by
  have e : (if j > i then j else i) = max i j := by
    by_cases c : j > i
    · rw [if_pos c]; omega
    · rw [if_neg c]; omega
  rw [e]; exact q H1 (Ex.refl H1)⟩
theorem rc_min {i j : Int} : RC (fun xs H Q => ∃ i j, xs = [V.int i, V.int j] ∧ Q (.int (if j < i then j else i)) H) [.int i, .int j] H (.int (min i j)) := fun H1 _ Q q => ⟨i, j, rfl, by
  have e : (if j < i then j else i) = min i j := by
    by_cases c : j < i
    · rw [if_pos c]; omega
    · rw [if_neg c]; omega
  rw [e]; exact q H1 (Ex.refl H1)⟩
theorem rc_isi {x : V} {n : String} {t : Value} {b : Bool} (ht : ∀ H1, Ex H H1 → TyX K H1 x t) (hk : PySem.W.kitOne K t (.type n) = some b) : RC (rIsi K) [x, .ty n] H (.bl b) := fun H1 e Q q =>
  ⟨x, .ty n, t, .type n, b, rfl, .ty n, ht H1 e, hk, q H1 (Ex.refl H1)⟩
theorem rv_ixT {i : Int} {c : Nat} (h : l.length ≤ 100000) (ha : atI l i = some c) : RV rIxS (tx l) (.int i) H (tx [c]) := fun H1 _ _ q => ⟨_, i, c, rfl, rfl, by rw [slen]; exact sz_of h, ha, q H1 (Ex.refl H1)⟩
theorem joinL_nil : ∀ ls : List (List Nat), TL.joinL [] ls = ls.flatten
  | [] => rfl
  | [p] => by simp [TL.joinL]
  | p :: q :: r => by
    have ih := joinL_nil (q :: r)
    show p ++ ([] ++ TL.joinL [] (q :: r)) = (p :: q :: r).flatten
    rw [ih, List.nil_append]
    rfl
theorem sum_len : ∀ ls : List (List Nat), ((ls.map SX.S).map (·.length)).sum = ls.flatten.length
  | [] => rfl
  | p :: r => by
    have ih := sum_len r
    rw [List.map_cons, List.map_cons, List.sum_cons, List.flatten_cons, List.length_append, ih, SX.S_len]
/-- ''.join(a new list of texts) -/
theorem ev_join0 {ls : List (List Nat)} (h1 : Ev ta σ H (tx [])) (h2 : EvL te σ H (ls.map tx)) (hz : ls.flatten.length ≤ 100000) :
    Ev (tM1 (fun x xs H Q => ∃ a p, ∃ ys : List Str, x = .str a ∧ xs = [.ref p] ∧ (SqL K H p (ys.map V.str) ∨ SqT K H p (ys.map V.str)) ∧ (ys.map (·.length)).sum + ys.length * a.length ≤ 16777216 ∧ Q (.str (Txt.join a ys)) H) ta te) σ H (tx ls.flatten) := fun H1 e Q q =>
  h1 H1 e _ fun H2 e2 => ⟨⟨_, rfl⟩, h2 H2 (e.trans e2) _ fun p H3 hp e3 h3 => ⟨_, p, ls.map SX.S, rfl, rfl, .inl (by
    rw [show (ls.map SX.S).map V.str = ls.map tx from by rw [List.map_map]; rfl]
    exact sq_of h3), by
    rw [sum_len, slen]
    simp only [List.length_nil, Nat.mul_zero]
    omega, by
    rw [show Txt.join (⟨([] : List Nat).toArray⟩) (ls.map SX.S) = SX.S (TL.joinL [] ls) from SX.join_S [] ls, joinL_nil]
    exact q H3 (e2.trans e3)⟩⟩
/-- a chain a op b op' c of two comparisons -/
theorem ev_chain {r r' : R2} {tc : TE} {x y z : V} {p q : Bool} (ha : Ev ta σ H x) (hb : Ev tb σ H y) (hr : RV r x y H (.bl p)) (hc : p = true → Ev tc σ H z) (hr' : p = true → RV r' y z H (.bl q)) : Ev (tChain r r' ta tb tc) σ H (.bl (p && q)) := fun H1 e Q k =>
  ha H1 e _ fun H2 e2 => hb H2 (e.trans e2) _ fun H3 e3 => hr H3 ((e.trans e2).trans e3) _ fun H4 e4 => ⟨p, rfl, by
    cases p with
    | true =>
      show tc σ H4 _
      exact hc rfl H4 (((e.trans e2).trans e3).trans e4) _ fun H5 e5 => hr' rfl H5 ((((e.trans e2).trans e3).trans e4).trans e5) Q fun H6 e6 => k H6 ((((e2.trans e3).trans e4).trans e5).trans e6)
    | false =>
      show Q (.bl false) H4
      exact k H4 ((e2.trans e3).trans e4)⟩
theorem spv {sp : Sp} {vs : List V} {z : V} (h : ∀ H1, Ex H H1 → ∀ Q : VK, RetV z H1 Q → ∀ E, sp vs H1 Q E) : SpV sp vs H z := fun H1 e Q q E => h H1 e Q q E
end

/-! ### from any heap that grows from H0 -/
def Go (H0 : Hp) (t : TS) (D : Ends) (σ : L2.St) : Prop := ∀ H, Ex H0 H → t D σ H
section
variable {K : PySem.W.Frag} {σ : L2.St} {H0 H1 : Hp} {te ta tb : TE} {tt : TT} {t u z : TS} {D : Ends} {v : V} {b : Bool} {i : Nat}
theorem Go.at (h : Go H0 t D σ) : t D σ H0 := h H0 (Ex.refl H0)
theorem go_at {H : Hp} (h : Go H0 t D σ) (e : Ex H0 H) : t D σ H := h H e
theorem Go.mono (e : Ex H0 H1) (h : Go H0 t D σ) : Go H1 t D σ := fun H e2 => h H (e.trans e2)
theorem g_ret (h : Ev te σ H0 v) (q : ∀ H, Ex H0 H → D.rt v H) : Go H0 (tRet te) D σ := fun H e => h H e _ fun H2 e2 => q H2 (e.trans e2)
theorem g_next (q : ∀ H, Ex H0 H → D.nx σ H) : Go H0 tNext D σ := fun H e => q H e
theorem g_asg (h : Ev te σ H0 v) (k : Go H0 z D (σ.set i (some v))) : Go H0 (tSeq (tAsg te (gName i)) z) D σ := fun H e => h H e _ fun H2 e2 => k H2 (e.trans e2)
theorem g_asg1 (h : Ev te σ H0 v) (k : ∀ H, Ex H0 H → D.nx (σ.set i (some v)) H) : Go H0 (tAsg te (gName i)) D σ := fun H e => h H e _ fun H2 e2 => k H2 (e.trans e2)
theorem g_when (h : EvT tt σ H0 b) (h1 : b = true → Go H0 u { D with nx := z D } σ) (h2 : b = false → Go H0 z D σ) : Go H0 (tSeq (tIfS tt u tNext) z) D σ := fun H e => h H e _ fun H2 e2 => by
  cases b with
  | true => exact h1 rfl H2 (e.trans e2)
  | false => exact h2 rfl H2 (e.trans e2)
theorem g_if (h : EvT tt σ H0 b) (h1 : b = true → Go H0 u { D with nx := z D } σ) (h2 : b = false → Go H0 t { D with nx := z D } σ) : Go H0 (tSeq (tIfS tt u t) z) D σ := fun H e => h H e _ fun H2 e2 => by
  cases b with
  | true => exact h1 rfl H2 (e.trans e2)
  | false => exact h2 rfl H2 (e.trans e2)
theorem g_if1 (h : EvT tt σ H0 b) (h1 : b = true → Go H0 u D σ) (h2 : b = false → Go H0 t D σ) : Go H0 (tIfS tt u t) D σ := fun H e => h H e _ fun H2 e2 => by
  cases b with
  | true => exact h1 rfl H2 (e.trans e2)
  | false => exact h2 rfl H2 (e.trans e2)
/-- if c: x = e, told by the value that x has behind it -/
theorem g_ifAsg (h : EvT tt σ H0 b) (h1 : b = true → Ev te σ H0 v) (h2 : b = false → σ.set i (some v) = σ) (k : Go H0 z D (σ.set i (some v))) : Go H0 (tSeq (tIfS tt (tAsg te (gName i)) tNext) z) D σ :=
  g_when h (fun hb => g_asg1 (h1 hb) fun H e => k H e) fun hb => by
    have g := k
    rw [h2 hb] at g
    exact g
theorem g_seq (h : Go H0 t { D with nx := z D } σ) : Go H0 (tSeq t z) D σ := fun H e => h H e
/-- x = a new list, a new tuple: the base moves on to a heap that has it -/
theorem g_asgL {xs : List V} (h : EvL te σ H0 xs) (k : ∀ p H1, Ex H0 H1 → H0 p = none → H1 p = some (.lst xs) → Go H1 z D (σ.set i (some (.ref p)))) : Go H0 (tSeq (tAsg te (gName i)) z) D σ := fun H e => h H e _ fun p H2 hp e2 h2 => k p H2 (e.trans e2) (fresh_back e hp) h2 H2 (Ex.refl H2)
theorem g_asgU {xs : List V} (h : EvU te σ H0 xs) (k : ∀ p H1, Ex H0 H1 → H0 p = none → H1 p = some (.tup xs) → Go H1 z D (σ.set i (some (.ref p)))) : Go H0 (tSeq (tAsg te (gName i)) z) D σ := fun H e => h H e _ fun p H2 hp e2 h2 => k p H2 (e.trans e2) (fresh_back e hp) h2 H2 (Ex.refl H2)
theorem g_retU {xs : List V} (h : EvU te σ H0 xs) (q : ∀ p H, Ex H0 H → H0 p = none → H p = some (.tup xs) → D.rt (.ref p) H) : Go H0 (tRet te) D σ := fun H e => h H e _ fun p H2 hp e2 h2 => q p H2 (e.trans e2) (fresh_back e hp) h2
theorem g_retL {xs : List V} (h : EvL te σ H0 xs) (q : ∀ p H, Ex H0 H → H0 p = none → H p = some (.lst xs) → D.rt (.ref p) H) : Go H0 (tRet te) D σ := fun H e => h H e _ fun p H2 hp e2 h2 => q p H2 (e.trans e2) (fresh_back e hp) h2
/-- a, b, c = t, t a tuple that stands -/
theorem g_un3 {p : Addr} {x y w : V} {i j k : Nat} (h : Ev te σ H0 (.ref p)) (ht : SqT K H0 p [x, y, w]) (kk : Go H0 z D (((σ.set i (some x)).set j (some y)).set k (some w))) :
    Go H0 (tSeq (tAsg te (gTup K 3 (gCons (gName i) (gCons (gName j) (gCons (gName k) gNil))))) z) D σ := fun H e => h H e _ fun H2 e2 => ⟨p, [x, y, w], rfl, ex_t (e.trans e2) ht, rfl, x, [y, w], rfl, y, [w], rfl, w, [], rfl, rfl, kk H2 (e.trans e2)⟩
theorem rc_lenL {p : Addr} {xs : List V} (h : SqL K H0 p xs) : RC (fun xs H Q => ∃ p ys, xs = [V.ref p] ∧ (SqL K H p ys ∨ SqT K H p ys) ∧ Q (.int ys.length) H) [.ref p] H0 (.int xs.length) := fun H1 e Q q => ⟨p, xs, rfl, .inl (ex_l e h), q H1 (Ex.refl H1)⟩
theorem rc_lenU {p : Addr} {xs : List V} (h : SqT K H0 p xs) : RC (fun xs H Q => ∃ p ys, xs = [V.ref p] ∧ (SqL K H p ys ∨ SqT K H p ys) ∧ Q (.int ys.length) H) [.ref p] H0 (.int xs.length) := fun H1 e Q q => ⟨p, xs, rfl, .inr (ex_t e h), q H1 (Ex.refl H1)⟩
/-- the last one of a promise: a value -/
theorem retV {Q : VK} (k : RetV v H0 Q) : ∀ H, Ex H0 H → Q v H := k
end

section
variable {σ : L2.St} {H0 : Hp} {tt : TT} {u z : TS} {D : Ends}
/-- while: W by a number that falls and the slots -/
theorem g_while (W : Nat → L2.St → Prop) (m0 : Nat) (h0 : W m0 σ)
    (hs : ∀ m σ', W m σ' → ∃ b, EvT tt σ' H0 b ∧ (b = true → Go H0 u { D with nx := fun σ2 H2 => Ex H0 H2 ∧ ∃ m', m' < m ∧ W m' σ2, ct := fun σ2 H2 => Ex H0 H2 ∧ ∃ m', m' < m ∧ W m' σ2, bk := z D } σ') ∧ (b = false → Go H0 z D σ')) : Go H0 (tSeq (tWhile tt u) z) D σ := fun H e =>
  ⟨fun m σ' H' => Ex H0 H' ∧ W m σ', ⟨m0, e, h0⟩, fun m σ' H' hw => by
    obtain ⟨e', w'⟩ := hw
    obtain ⟨b, hb, h1, h2⟩ := hs m σ' w'
    refine hb H' e' _ fun H1 e1 => ?_
    cases b with
    | true => exact ⟨_, fun σ2 H2 n => ⟨n.2.choose, n.2.choose_spec.1, n.1, n.2.choose_spec.2⟩, h1 rfl H1 (e'.trans e1)⟩
    | false => exact h2 rfl H1 (e'.trans e1)⟩
end
section
variable {σ : L2.St} {H0 : Hp} {te : TE} {tt : TT} {z : TS} {D : Ends} {i : Nat}
theorem set_same {α : Type} : ∀ {l : List α} {i : Nat} {a : α}, l[i]? = some a → l.set i a = l
  | [], i, a, h => by simp at h
  | x :: r, 0, a, h => by
    have e : x = a := Option.some.inj h
    subst e
    rfl
  | x :: r, i + 1, a, h => congrArg (x :: ·) (set_same (l := r) (i := i) h)
/-- if c: x = e for an int x: what follows is shown for each value that x may have behind it -/
theorem g_ifI {x y : Int} {c : Prop} [Decidable c] (h : EvT tt σ H0 (decide c)) (hx : σ[i]? = some (some (.int x))) (he : c → Ev te σ H0 (.int y)) (k : ∀ n, (c → n = y) → (¬ c → n = x) → Go H0 z D (σ.set i (some (.int n)))) : Go H0 (tSeq (tIfS tt (tAsg te (gName i)) tNext) z) D σ :=
  g_when h (fun hb => g_asg1 (he (of_decide_eq_true hb)) fun H e => k y (fun _ => rfl) (fun hc => absurd (of_decide_eq_true hb) hc) H e) fun hb => by
    have g := k x (fun hc => absurd hc (of_decide_eq_false hb)) (fun _ => rfl)
    rw [set_same hx] at g
    exact g
theorem g_ifV {x y : V} {c : Prop} [Decidable c] (h : EvT tt σ H0 (decide c)) (hx : σ[i]? = some (some x)) (he : c → Ev te σ H0 y) (k : ∀ n, (c → n = y) → (¬ c → n = x) → Go H0 z D (σ.set i (some n))) : Go H0 (tSeq (tIfS tt (tAsg te (gName i)) tNext) z) D σ :=
  g_when h (fun hb => g_asg1 (he (of_decide_eq_true hb)) fun H e => k y (fun _ => rfl) (fun hc => absurd (of_decide_eq_true hb) hc) H e) fun hb => by
    have g := k x (fun hc => absurd hc (of_decide_eq_false hb)) (fun _ => rfl)
    rw [set_same hx] at g
    exact g
end
section
variable {K : PySem.W.Frag} {H : Hp}
theorem dp3 {p : Addr} {a : Int} {g c : List Nat} (h : SqT K H p [.int a, tx g, tx c]) : Dp K H (.ref p) (.tuple [.int a, .str ⟨g.toArray⟩, .str ⟨c.toArray⟩]) :=
  .tup h (.cons (.int a) (.cons (.str _) (.cons (.str _) .nil)))
/-- codes that a text may have -/
def Ok (l : List Nat) : Prop := ∀ c ∈ l, c < 1114112
theorem Ok.nil : Ok [] := fun _ h => nomatch h
theorem Ok.one {c : Nat} (h : c < 1114112) : Ok [c] := fun x hx => by rw [List.mem_singleton.mp hx]; exact h
theorem Ok.app {a b : List Nat} (h1 : Ok a) (h2 : Ok b) : Ok (a ++ b) := fun c hc => (List.mem_append.mp hc).elim (h1 c) (h2 c)
theorem Ok.take {a : List Nat} (h : Ok a) (n : Nat) : Ok (a.take n) := fun c hc => h c (List.mem_of_mem_take hc)
theorem Ok.drop {a : List Nat} (h : Ok a) (n : Nat) : Ok (a.drop n) := fun c hc => h c (List.mem_of_mem_drop hc)
theorem Ok.cut {a : List Nat} (h : Ok a) (lo hi : Option Int) : Ok (cutL a lo hi) := (h.drop _).take _
theorem Ok.str {a : List Nat} (h : Ok a) : PyData.strOk ⟨a.toArray⟩ = true := by
  unfold PyData.strOk
  rw [← Array.all_toList, List.all_eq_true]
  exact fun c hc => decide_eq_true (h c hc)
theorem shaped3 {a : Int} {g c : List Nat} (h1 : Ok g) (h2 : Ok c) : SeqAt.shaped (.tuple [.int a, .str ⟨g.toArray⟩, .str ⟨c.toArray⟩]) = true := by
  unfold SeqAt.shaped
  simp [PyData.canLay0, PyData.canLayAll0, PyData.depth, PyData.depthAll, h1.str, h2.str]
theorem canlay_of {d : PyData} (h : SeqAt.shaped d = true) : d.canLay0 = true := by
  unfold SeqAt.shaped at h
  exact (Bool.and_eq_true_iff.mp h).1
theorem rv_neSame {x y : V} {d : PyData} (h1 : ∀ H1, Ex H H1 → Dp K H1 x d) (h2 : ∀ H1, Ex H H1 → Dp K H1 y d) (hs : SeqAt.shaped d = true) : RV (rNeD K) x y H (.bl false) := fun H1 e Q q =>
  ⟨d, d, h1 H1 e, h2 H1 e, hs, hs, by rw [SeqAt.eqv_refl d (canlay_of hs)]; exact q H1 (Ex.refl H1)⟩
theorem rv_eqSame {x y : V} {d : PyData} (h1 : ∀ H1, Ex H H1 → Dp K H1 x d) (h2 : ∀ H1, Ex H H1 → Dp K H1 y d) (hs : SeqAt.shaped d = true) : RV (rEqD K) x y H (.bl true) := fun H1 e Q q =>
  ⟨d, d, h1 H1 e, h2 H1 e, hs, hs, by rw [SeqAt.eqv_refl d (canlay_of hs)]; exact q H1 (Ex.refl H1)⟩
end
section
variable {X : Cx}
/-- isinstance(e, ..), e the error that the suite holds, its class told in the reading -/
theorem pe_isE {a D : Addr} {oe : Obj} {cls : Value} {d : Option Addr} {pn : List (Addr × Obj)} {p pos : Pos} {e : Expr} {es : List Expr} {t : TA} (C : ExcC X.K D) (hz : Zc cls d oe) (hf : ∃ vs, oe.data = .fields vs) (ha : PA (X.suite a ((a, oe) :: pn)) (e :: es) t) (hm : X.mg "isinstance" = none) (hg : Gl (X.suite a ((a, oe) :: pn)) "isinstance" := by rfl)
    (he : starEach (e :: es) X.env = (false, eval e X.env) :: starEach es X.env := by rfl) (hpl : (backTo pos (starEach es X.env)).any (·.1) = false := by rfl) :
    PE (X.suite a ((a, oe) :: pn)) (.Call (.Name "isinstance" p) (e :: es) [] pos) (fun σ H Q => cls = .ref D ∧ d = none ∧ tCB (rIsE X.K D a) t σ H Q) := by
  refine ⟨fun pins s σ H Q I h => ?_⟩
  obtain ⟨e1, e2, h⟩ := h
  subst e1 e2
  exact (pe_callB (X := X.suite a ((a, oe) :: pn)) (call_isE C hz hf) hg hm (by decide +kernel) ha (he := he) (hpl := hpl)).run pins s σ H Q I h
end
end XG
set_option Elab.async false
set_option linter.all false
set_option maxRecDepth 100000
set_option maxHeartbeats 4000000
/-! words of our own for what changes: lists and dicts that a def makes and fills -/
namespace XG
open PySem PySem.Spec PyProof.Rows L2 Evl
/-- H1 is H0 with o at p -/
structure Mu (H0 : Hp) (p : Addr) (o : HO) (H1 : Hp) : Prop where
  at_ : H1 p = some o
  rest : ∀ a u, a ≠ p → H0 a = some u → H1 a = some u
theorem mu_upd (H0 : Hp) (p : Addr) (o : HO) : Mu H0 p o (upd H0 p o) := ⟨upd_same, fun a u h e => by rw [upd_ne h]; exact e⟩
theorem ex_upd {H0 H : Hp} (e : Ex H0 H) (p : Addr) (o : HO) : Ex (upd H0 p o) (upd H p o) := fun a u h => by
  by_cases c : a = p
  · subst c
    rw [upd_same] at h ⊢
    exact h
  · rw [upd_ne c] at h ⊢
    exact e a u h
/-- what H0 does not know may change -/
theorem Mu.ex {H H0 H1 : Hp} {p : Addr} {o : HO} (m : Mu H0 p o H1) (e : Ex H H0) (h : H p = none) : Ex H H1 := fun a u ha => m.rest a u (ne_of_none ha h) (e a u ha)
theorem ne_at {H : Hp} {p q : Addr} {o : HO} (h : H p = some o) (h2 : H q = none) : p ≠ q := ne_of_none h h2
section
variable {K : PySem.W.Frag} {σ : L2.St} {H0 : Hp} {te ta tb : TE} {tu tz : TS} {D : Ends} {v : V} {i : Nat}
/-- xs.append(e), something behind -/
theorem g_app {l : Addr} {xs : List V} (hl : H0 l = some (.lst xs)) (ha : Ev ta σ H0 (.ref l)) (h : Ev te σ H0 v) (hz : xs.length < 100000) (k : ∀ H1, Mu H0 l (.lst (xs ++ [v])) H1 → Go H1 tz D σ) :
    Go H0 (tSeq (tDrop (tBM K "list" rAppend ta (tCons te tNil))) tz) D σ := fun H e =>
  q_app (e _ _ hl) (fun H1 e1 => ha H1 (e.trans e1)) (fun H1 e1 => h H1 (e.trans e1)) hz fun H1 e1 => k _ (mu_upd H0 l _) _ (ex_upd (e.trans e1) l _)
theorem g_app1 {l : Addr} {xs : List V} (hl : H0 l = some (.lst xs)) (ha : Ev ta σ H0 (.ref l)) (h : Ev te σ H0 v) (hz : xs.length < 100000) (k : ∀ H1, Mu H0 l (.lst (xs ++ [v])) H1 → D.nx σ H1)  :
    Go H0 (tDrop (tBM K "list" rAppend ta (tCons te tNil))) D σ := fun H e =>
  s_app (e _ _ hl) (fun H1 e1 => ha H1 (e.trans e1)) (fun H1 e1 => h H1 (e.trans e1)) hz fun H1 e1 => k _ ⟨upd_same, fun a u hn ha => by rw [upd_ne hn]; exact (e.trans e1) a u ha⟩
theorem g_appU {l : Addr} {xs ys : List V} (hl : H0 l = some (.lst xs)) (ha : Ev ta σ H0 (.ref l)) (h : EvU te σ H0 ys) (hz : xs.length < 100000)
    (k : ∀ p H2, Ex H0 H2 → H0 p = none → H2 p = some (.tup ys) → ∀ H1, Mu H2 l (.lst (xs ++ [.ref p])) H1 → Go H1 tz D σ) :
    Go H0 (tSeq (tDrop (tBM K "list" rAppend ta (tCons te tNil))) tz) D σ := fun H e =>
  q_appU (e _ _ hl) (fun H1 e1 => ha H1 (e.trans e1)) (fun H1 e1 => h H1 (e.trans e1)) hz fun p H1 hp e1 h1 => k p H1 (e.trans e1) (fresh_back e hp) h1 _ (mu_upd H1 l _) _ (Ex.refl _)
theorem g_appU1 {l : Addr} {xs ys : List V} (hl : H0 l = some (.lst xs)) (ha : Ev ta σ H0 (.ref l)) (h : EvU te σ H0 ys) (hz : xs.length < 100000)
    (k : ∀ p H2, Ex H0 H2 → H0 p = none → H2 p = some (.tup ys) → ∀ H1, Mu H2 l (.lst (xs ++ [.ref p])) H1 → D.nx σ H1) :
    Go H0 (tDrop (tBM K "list" rAppend ta (tCons te tNil))) D σ := fun H e =>
  s_appU (e _ _ hl) (fun H1 e1 => ha H1 (e.trans e1)) (fun H1 e1 => h H1 (e.trans e1)) hz fun p H1 hp e1 h1 => k p H1 (e.trans e1) (fresh_back e hp) h1 _ (mu_upd H1 l _)
theorem g_appL {l : Addr} {xs ys : List V} (hl : H0 l = some (.lst xs)) (ha : Ev ta σ H0 (.ref l)) (h : EvL te σ H0 ys) (hz : xs.length < 100000)
    (k : ∀ p H2, Ex H0 H2 → H0 p = none → H2 p = some (.lst ys) → ∀ H1, Mu H2 l (.lst (xs ++ [.ref p])) H1 → Go H1 tz D σ) :
    Go H0 (tSeq (tDrop (tBM K "list" rAppend ta (tCons te tNil))) tz) D σ := fun H e =>
  q_appL (e _ _ hl) (fun H1 e1 => ha H1 (e.trans e1)) (fun H1 e1 => h H1 (e.trans e1)) hz fun p H1 hp e1 h1 => k p H1 (e.trans e1) (fresh_back e hp) h1 _ (mu_upd H1 l _) _ (Ex.refl _)
/-- xs.reverse() -/
theorem g_rev1 {l : Addr} {xs : List V} (hl : H0 l = some (.lst xs)) (ha : Ev ta σ H0 (.ref l)) (k : ∀ H1, Mu H0 l (.lst xs.reverse) H1 → D.nx σ H1) :
    Go H0 (tDrop (tBM0 K "list" rReverse ta)) D σ := fun H e => ha H e _ fun H1 e1 =>
  ⟨Or.inl ⟨rfl, xs, sq_of ((e.trans e1) l _ hl)⟩, l, xs, rfl, rfl, (e.trans e1) l _ hl, k _ ⟨upd_same, fun a u hn ha => by rw [upd_ne hn]; exact (e.trans e1) a u ha⟩⟩
theorem g_rev {l : Addr} {xs : List V} (hl : H0 l = some (.lst xs)) (ha : Ev ta σ H0 (.ref l)) (k : ∀ H1, Mu H0 l (.lst xs.reverse) H1 → Go H1 tz D σ) :
    Go H0 (tSeq (tDrop (tBM0 K "list" rReverse ta)) tz) D σ := fun H e => ha H e _ fun H1 e1 =>
  ⟨Or.inl ⟨rfl, xs, sq_of ((e.trans e1) l _ hl)⟩, l, xs, rfl, rfl, (e.trans e1) l _ hl, k _ (mu_upd H0 l _) _ (ex_upd (e.trans e1) l _)⟩
/-- x = {} -/
theorem g_dnew (k : ∀ p H1, Ex H0 H1 → H0 p = none → H1 p = some (.dK []) → Go H1 tz D (σ.set i (some (.ref p)))) : Go H0 (tSeq (tAsg tDNewK (gName i)) tz) D σ := fun H e p hp =>
  k p _ (e.trans (Ex.new hp)) (fresh_back e hp) upd_same _ (Ex.refl _)
/-- d[k] = v -/
theorem g_dput {d : Addr} {kvs : List (Key × V)} {x : Key} (hd : H0 d = some (.dK kvs)) (hv : Ev te σ H0 v) (ho : Ev ta σ H0 (.ref d)) (hk : Ev tb σ H0 (kV x)) (hz : kvs.length < 100000) (k : ∀ H1, Mu H0 d (.dK (putK kvs x v)) H1 → Go H1 tz D σ) :
    Go H0 (tSeq (sDPut ta tb te) tz) D σ := fun H e => hv H e _ fun H1 e1 => ho H1 (e.trans e1) _ fun H2 e2 => hk H2 ((e.trans e1).trans e2) _ fun H3 e3 =>
  have e4 := ((e.trans e1).trans e2).trans e3
  ⟨d, _, rfl, DPut.k (e4 _ _ hd) (sz_lt hz), k _ (mu_upd H0 d _) _ (ex_upd e4 d _)⟩
theorem g_dput1 {d : Addr} {kvs : List (Key × V)} {x : Key} (hd : H0 d = some (.dK kvs)) (hv : Ev te σ H0 v) (ho : Ev ta σ H0 (.ref d)) (hk : Ev tb σ H0 (kV x)) (hz : kvs.length < 100000) (k : ∀ H1, Mu H0 d (.dK (putK kvs x v)) H1 → D.nx σ H1) :
    Go H0 (sDPut ta tb te) D σ := fun H e => hv H e _ fun H1 e1 => ho H1 (e.trans e1) _ fun H2 e2 => hk H2 ((e.trans e1).trans e2) _ fun H3 e3 =>
  have e4 := ((e.trans e1).trans e2).trans e3
  ⟨d, _, rfl, DPut.k (e4 _ _ hd) (sz_lt hz), k _ ⟨upd_same, fun a u hn ha => by rw [upd_ne hn]; exact e4 a u ha⟩⟩
/-- d[k] = a new tuple -/
theorem g_dputU {d : Addr} {kvs : List (Key × V)} {x : Key} {ys : List V} (hd : H0 d = some (.dK kvs)) (hv : EvU te σ H0 ys) (ho : Ev ta σ H0 (.ref d)) (hk : Ev tb σ H0 (kV x)) (hz : kvs.length < 100000)
    (k : ∀ p H2, Ex H0 H2 → H0 p = none → H2 p = some (.tup ys) → ∀ H1, Mu H2 d (.dK (putK kvs x (.ref p))) H1 → Go H1 tz D σ) :
    Go H0 (tSeq (sDPut ta tb te) tz) D σ := fun H e => hv H e _ fun p H1 hp e1 h1 => ho H1 (e.trans e1) _ fun H2 e2 => hk H2 ((e.trans e1).trans e2) _ fun H3 e3 =>
  have e4 := ((e.trans e1).trans e2).trans e3
  ⟨d, _, rfl, DPut.k (e4 _ _ hd) (sz_lt hz), k p H3 e4 (fresh_back e hp) (e3 _ _ (e2 _ _ h1)) _ (mu_upd H3 d _) _ (Ex.refl _)⟩
theorem g_dputU1 {d : Addr} {kvs : List (Key × V)} {x : Key} {ys : List V} (hd : H0 d = some (.dK kvs)) (hv : EvU te σ H0 ys) (ho : Ev ta σ H0 (.ref d)) (hk : Ev tb σ H0 (kV x)) (hz : kvs.length < 100000)
    (k : ∀ p H2, Ex H0 H2 → H0 p = none → H2 p = some (.tup ys) → ∀ H1, Mu H2 d (.dK (putK kvs x (.ref p))) H1 → D.nx σ H1) :
    Go H0 (sDPut ta tb te) D σ := fun H e => hv H e _ fun p H1 hp e1 h1 => ho H1 (e.trans e1) _ fun H2 e2 => hk H2 ((e.trans e1).trans e2) _ fun H3 e3 =>
  have e4 := ((e.trans e1).trans e2).trans e3
  ⟨d, _, rfl, DPut.k (e4 _ _ hd) (sz_lt hz), k p H3 e4 (fresh_back e hp) (e3 _ _ (e2 _ _ h1)) _ (mu_upd H3 d _)⟩
/-! ### for, by a word of the turn, the slots and the heap -/
theorem g_forR2 {ta : TA} {j : Nat} {lo n : Int} (h : EvA ta σ H0 [.int lo, .int n]) (hn : 0 ≤ lo ∧ lo ≤ 100000 ∧ -100000 ≤ n ∧ n ≤ 100000) (Pv : Nat → L2.St → Hp → Prop) (h0 : ∀ H1, Ex H0 H1 → Pv 0 σ H1)
    (hs : ∀ (i : Nat) σ' H', lo + (i : Int) < n → Pv i σ' H' → Go H' tu { D with nx := Pv (i + 1), ct := Pv (i + 1), bk := tz D } (σ'.set j (some (.int (lo + (i : Int))))))
    (hd : ∀ σ' H', Pv (n - lo).toNat σ' H' → Go H' tz D σ') : Go H0 (tSeq (tFor (iRng2 ta) (gName j) tu) tz) D σ := fun H e =>
  q_forR2 (fun H1 e1 => h H1 (e.trans e1)) hn Pv (fun H1 e1 => h0 H1 (e.trans e1)) (fun i σ' H' hi p => (hs i σ' H' hi p).at) fun σ' H' p => (hd σ' H' p).at
theorem g_forR1 {ta : TA} {j : Nat} {n : Int} (h : EvA ta σ H0 [.int n]) (hn : 0 ≤ n ∧ n ≤ 100000) (Pv : Nat → L2.St → Hp → Prop) (h0 : ∀ H1, Ex H0 H1 → Pv 0 σ H1)
    (hs : ∀ (i : Nat) σ' H', (i : Int) < n → Pv i σ' H' → Go H' tu { D with nx := Pv (i + 1), ct := Pv (i + 1), bk := tz D } (σ'.set j (some (.int (i : Int)))))
    (hd : ∀ σ' H', Pv n.toNat σ' H' → Go H' tz D σ') : Go H0 (tSeq (tFor (iRng1 ta) (gName j) tu) tz) D σ := fun H e =>
  q_forR1 (fun H1 e1 => h H1 (e.trans e1)) hn Pv (fun H1 e1 => h0 H1 (e.trans e1)) (fun i σ' H' hi p => (hs i σ' H' hi p).at) fun σ' H' p => (hd σ' H' p).at
theorem g_forL {a : Addr} {xs : List V} {tl : TE} {j : Nat} (h : Ev tl σ H0 (.ref a)) (hx : SqL K H0 a xs) (Pv : Nat → L2.St → Hp → Prop) (h0 : ∀ H1, Ex H0 H1 → Pv 0 σ H1) (hl : ∀ i σ' H', i ≤ xs.length → Pv i σ' H' → SqL K H' a xs)
    (hs : ∀ i x σ' H', xs[i]? = some x → Pv i σ' H' → Go H' tu { D with nx := Pv (i + 1), ct := Pv (i + 1), bk := tz D } (σ'.set j (some x)))
    (hd : ∀ σ' H', Pv xs.length σ' H' → Go H' tz D σ') : Go H0 (tSeq (tFor (iList K tl) (gName j) tu) tz) D σ := fun H e =>
  q_forLn (fun H1 e1 => h H1 (e.trans e1)) (ex_l e hx) Pv (fun H1 e1 => h0 H1 (e.trans e1)) hl (fun i x σ' H' hi p => (hs i x σ' H' hi p).at) fun σ' H' p => (hd σ' H' p).at
theorem g_forNL {xs : List V} {tl : TE} {j : Nat} (h : EvL tl σ H0 xs) (Pv : Addr → Nat → L2.St → Hp → Prop) (h0 : ∀ p H1, H0 p = none → Ex H0 H1 → H1 p = some (.lst xs) → Pv p 0 σ H1) (hl : ∀ p i σ' H', i ≤ xs.length → Pv p i σ' H' → SqL K H' p xs)
    (hs : ∀ p i x σ' H', xs[i]? = some x → Pv p i σ' H' → Go H' tu { D with nx := Pv p (i + 1), ct := Pv p (i + 1), bk := tz D } (σ'.set j (some x)))
    (hd : ∀ p σ' H', Pv p xs.length σ' H' → Go H' tz D σ') : Go H0 (tSeq (tFor (iList K tl) (gName j) tu) tz) D σ := fun H e =>
  q_forNLn (fun H1 e1 => h H1 (e.trans e1)) Pv (fun p H1 hp e1 h1 => h0 p H1 (fresh_back e hp) (e.trans e1) h1) hl (fun p i x σ' H' hi q => (hs p i x σ' H' hi q).at) fun p σ' H' q => (hd p σ' H' q).at
/-! ### dicts read -/
theorem ev_dget {d : Addr} {kvs : List (Key × V)} {x : Key} (ho : Ev ta σ H0 (.ref d)) (hk : Ev tb σ H0 (kV x)) (hd : Rd H0 d (.dK kvs)) (hx : valV kvs x = some v) : Ev (tDGet ta tb) σ H0 v := fun H1 e Q q =>
  ho H1 e _ fun H2 e2 => hk H2 (e.trans e2) _ fun H3 e3 => ⟨d, v, rfl, .inl ⟨kvs, x, ex_rd ((e.trans e2).trans e3) hd, rfl, hx.symm⟩, q H3 (e2.trans e3)⟩
theorem ev_din {d : Addr} {kvs : List (Key × V)} {x : Key} (hk : Ev tb σ H0 (kV x)) (ho : Ev ta σ H0 (.ref d)) (hd : Rd H0 d (.dK kvs)) : Ev (tDIn tb ta) σ H0 (.bl (valV kvs x).isSome) := fun H1 e Q q =>
  hk H1 e _ fun H2 e2 => ho H2 (e.trans e2) _ fun H3 e3 => ⟨d, _, rfl, .inl ⟨kvs, x, ex_rd ((e.trans e2).trans e3) hd, rfl, rfl⟩, q H3 (e2.trans e3)⟩
theorem ev_dnotin {d : Addr} {kvs : List (Key × V)} {x : Key} (hk : Ev tb σ H0 (kV x)) (ho : Ev ta σ H0 (.ref d)) (hd : Rd H0 d (.dK kvs)) : Ev (tDNotIn tb ta) σ H0 (.bl (!(valV kvs x).isSome)) := fun H1 e Q q =>
  hk H1 e _ fun H2 e2 => ho H2 (e.trans e2) _ fun H3 e3 => ⟨d, _, rfl, .inl ⟨kvs, x, ex_rd ((e.trans e2).trans e3) hd, rfl, rfl⟩, q H3 (e2.trans e3)⟩
end

section
variable {K : PySem.W.Frag} {σ : L2.St} {H0 : Hp} {te ta tb : TE} {tt : TT} {t u z : TS} {D : Ends} {v : V} {b : Bool} {i : Nat}
/-- an if whose branches meet again in A -/
theorem g_whenA (A : L2.St → Hp → Prop) (h : EvT tt σ H0 b) (h1 : b = true → (∀ σ1 H1, A σ1 H1 → z D σ1 H1) → Go H0 u { D with nx := z D } σ) (h2 : b = false → ∀ H1, Ex H0 H1 → A σ H1) (k : ∀ σ1 H1, A σ1 H1 → Go H1 z D σ1) : Go H0 (tSeq (tIfS tt u tNext) z) D σ :=
  g_when h (fun hb => h1 hb fun σ1 H1 a => (k σ1 H1 a).at) fun hb H1 e => (k σ H1 (h2 hb H1 e)).at
theorem g_ifA (A : L2.St → Hp → Prop) (h : EvT tt σ H0 b) (h1 : b = true → (∀ σ1 H1, A σ1 H1 → z D σ1 H1) → Go H0 u { D with nx := z D } σ) (h2 : b = false → (∀ σ1 H1, A σ1 H1 → z D σ1 H1) → Go H0 t { D with nx := z D } σ) (k : ∀ σ1 H1, A σ1 H1 → Go H1 z D σ1) : Go H0 (tSeq (tIfS tt u t) z) D σ :=
  g_if h (fun hb => h1 hb fun σ1 H1 a => (k σ1 H1 a).at) fun hb => h2 hb fun σ1 H1 a => (k σ1 H1 a).at
/-- [a, b, ..][i] -/
theorem ev_ixN {xs : List V} {n : Int} (ha : EvL ta σ H0 xs) (hb : Ev tb σ H0 (.int n)) (hx : atI xs n = some v) : Ev (tOp (rIxL K) ta tb) σ H0 v :=
  ev_opL1 ha (fun H1 e => hb.mono e) fun p H1 hp _ => rv_ixL (sq_of hp) hx
theorem atI_mod {xs : List V} {n : Int} (h : 0 ≤ n) (hx : xs[n.toNat]? = some v) : atI xs n = some v := by
  rw [show n = ((n.toNat : Nat) : Int) by omega]
  exact atI_nat hx
end
theorem given_all (n : Nat) (v : Nat → V) : given n (fun _ => true) v = (List.range n).map v := by
  unfold given
  rw [List.filter_eq_self.mpr (fun _ _ => rfl)]
/-! ### a new dict; lists of whole numbers -/
def EvD (te : TE) (σ : L2.St) (H : Hp) (kvs : List (Key × V)) : Prop := ∀ H1, Ex H H1 → ∀ Q : VK, (∀ p H2, H1 p = none → Ex H1 H2 → H2 p = some (.dK kvs) → Q (.ref p) H2) → te σ H1 Q
/-- a def that gives a new dict -/
def SpD (sp : Sp) (vs : List V) (H : Hp) (kvs : List (Key × V)) : Prop := ∀ H1, Ex H H1 → ∀ Q : VK, (∀ p H2, H1 p = none → Ex H1 H2 → H2 p = some (.dK kvs) → Q (.ref p) H2) → ∀ E : XK, sp vs H1 Q E
section
variable {K : PySem.W.Frag} {σ : L2.St} {H H0 : Hp} {te ta tb : TE} {tz : TS} {D : Ends} {v : V} {i : Nat}
theorem g_asgD {kvs : List (Key × V)} (h : EvD te σ H0 kvs) (k : ∀ p H1, Ex H0 H1 → H0 p = none → H1 p = some (.dK kvs) → Go H1 tz D (σ.set i (some (.ref p)))) : Go H0 (tSeq (tAsg te (gName i)) tz) D σ := fun H e => h H e _ fun p H2 hp e2 h2 => k p H2 (e.trans e2) (fresh_back e hp) h2 H2 (Ex.refl H2)
theorem ed_call {sp : Sp} {dvs vs : List V} {kvs : List (Key × V)} {E : XK} {ta : TA} (h : EvA ta σ H vs) (hs : SpD sp (vs ++ dvs) H kvs) : EvD (tCall sp dvs E ta) σ H kvs := fun H1 e Q q =>
  h H1 e _ fun H2 e2 => hs H2 (e.trans e2) Q (fun p H3 hp e3 h3 => q p H3 (fresh_back e2 hp) (e2.trans e3) h3) E
/-- list(d) -/
theorem el_listD {ta : TA} {a : Addr} {kvs : List (Key × V)} (h : EvA ta σ H [.ref a]) (hd : Rd H a (.dK kvs)) :
    EvL (tCB (fun xs H Q => ∃ (a : Addr) (kvs : List (Key × V)), xs = [.ref a] ∧ Rd H a (.dK kvs) ∧ ∀ p, H p = none → Q (.ref p) (upd H p (.lst (kvs.map fun kv => kV kv.1)))) ta) σ H (kvs.map fun kv => kV kv.1) := fun H1 e Q q =>
  h H1 e _ fun H2 e2 => ⟨a, kvs, rfl, ex_rd (e.trans e2) hd, fun p hp => q p _ (fresh_back e2 hp) (e2.trans (Ex.new hp)) upd_same⟩
/-- dict(d) -/
theorem ed_dictD {ta : TA} {a : Addr} {kvs : List (Key × V)} (h : EvA ta σ H [.ref a]) (hd : Rd H a (.dK kvs)) :
    EvD (tCB (fun xs H Q => ∃ (a : Addr) (kvs : List (Key × V)), xs = [.ref a] ∧ Rd H a (.dK kvs) ∧ ∀ p, H p = none → Q (.ref p) (upd H p (.dK kvs))) ta) σ H kvs := fun H1 e Q q =>
  h H1 e _ fun H2 e2 => ⟨a, kvs, rfl, ex_rd (e.trans e2) hd, fun p hp => q p _ (fresh_back e2 hp) (e2.trans (Ex.new hp)) upd_same⟩
theorem can_ints : ∀ l : List Int, PyData.canLayAll0 (l.map PyData.int) = true
  | [] => rfl
  | a :: r => by
    have ih := can_ints r
    simp [PyData.canLayAll0, PyData.canLay0, ih]
theorem depth_ints : ∀ l : List Int, PyData.depthAll (l.map PyData.int) = 0
  | [] => rfl
  | a :: r => by
    have ih := depth_ints r
    simp [PyData.depthAll, PyData.depth, ih]
theorem shaped_ints (l : List Int) : SeqAt.shaped (.list (l.map PyData.int)) = true := by
  unfold SeqAt.shaped
  simp [PyData.canLay0, PyData.depth, can_ints, depth_ints]
theorem dp_ints : ∀ l : List Int, DpAll K H (l.map V.int) (l.map PyData.int)
  | [] => .nil
  | a :: r => .cons (.int a) (dp_ints r)
theorem dp_intL {p : Addr} {l : List Int} (h : H p = some (.lst (l.map V.int))) : Dp K H (.ref p) (.list (l.map PyData.int)) := .lst (sq_of h) (dp_ints l)
theorem rv_neInts {p q : Addr} {l : List Int} (h1 : H p = some (.lst (l.map V.int))) (h2 : H q = some (.lst (l.map V.int))) : RV (rNeD K) (.ref p) (.ref q) H (.bl false) :=
  rv_neSame (fun H1 e => dp_intL (e _ _ h1)) (fun H1 e => dp_intL (e _ _ h2)) (shaped_ints l)
theorem rv_eqInts {p q : Addr} {l : List Int} (h1 : H p = some (.lst (l.map V.int))) (h2 : H q = some (.lst (l.map V.int))) : RV (rEqD K) (.ref p) (.ref q) H (.bl true) :=
  rv_eqSame (fun H1 e => dp_intL (e _ _ h1)) (fun H1 e => dp_intL (e _ _ h2)) (shaped_ints l)
/-- xs == [] -/
theorem rv_eqNil {p q : Addr} {l : List Int} (h1 : H p = some (.lst (l.map V.int))) (h2 : H q = some (.lst [])) (hl : l ≠ []) : RV (rEqD K) (.ref p) (.ref q) H (.bl false) := fun H1 e Q k =>
  ⟨_, _, dp_intL (e _ _ h1), dp_intL (l := []) (e _ _ h2), shaped_ints l, shaped_ints [], by
    cases l with
    | nil => exact absurd rfl hl
    | cons a r => exact k H1 (Ex.refl H1)⟩
/-- dicts of the same pairs, of flat values -/
theorem rv_neDict {p q : Addr} {kvs : List (Key × V)} (h1 : H p = some (.dK kvs)) (h2 : H q = some (.dK kvs)) (hn : ∀ x ∈ kvs, valV kvs x.1 = some x.2 ∧ flatB x.2 = true) : RV rNeDA (.ref p) (.ref q) H (.bl false) := fun H1 e Q k =>
  ⟨p, q, kvs, kvs, rfl, rfl, e _ _ h1, e _ _ h2, rfl, hn, k H1 (Ex.refl H1)⟩
end
theorem valV_mem : ∀ {kvs : List (Key × V)} {x : Key × V}, (kvs.map (·.1)).Nodup → x ∈ kvs → valV kvs x.1 = some x.2
  | p :: r, x, nd, h => by
    have nd : (p.1 :: r.map (·.1)).Nodup := nd
    obtain ⟨n1, n2⟩ := List.nodup_cons.mp nd
    rcases List.mem_cons.mp h with rfl | h
    · unfold valV
      rw [List.find?_cons_of_pos (by simp)]
      rfl
    · have ne : ¬ p.1 = x.1 := fun e => n1 (by rw [e]; exact List.mem_map.mpr ⟨x, h, rfl⟩)
      have ih := valV_mem n2 h
      unfold valV at ih ⊢
      rw [List.find?_cons_of_neg (by simpa using ne)]
      exact ih
theorem rv_isN {H : Hp} {x : V} {b : Bool} (h : decide (x = V.non) = b) : RV (fun x y H Q => y = V.non ∧ Q (V.bl (decide (x = V.non))) H) x .non H (.bl b) := fun H1 e Q q => ⟨rfl, by rw [h]; exact q H1 (Ex.refl H1)⟩
theorem rv_notN {H : Hp} {x : V} {b : Bool} (h : decide (x = V.non) = b) : RV (fun x y H Q => y = V.non ∧ Q (V.bl (!decide (x = V.non))) H) x .non H (.bl (!b)) := fun H1 e Q q => ⟨rfl, by rw [h]; exact q H1 (Ex.refl H1)⟩
theorem int_nn {i : Int} : decide (V.int i = V.non) = false := decide_eq_false (by intro z; cases z)
theorem ref_nn {p : Addr} : decide (V.ref p = V.non) = false := decide_eq_false (by intro z; cases z)
theorem non_n : decide (V.non = V.non) = true := decide_eq_true rfl
/-! ### a dict locked while it is walked -/
/-- the ends of a statement under a lock -/
def LkD (D : Ends) (d : Addr) (u : HO) (od : Obj) : Ends := ⟨fun σ' H' => H' d = some (.frz od u) ∧ D.nx σ' (upd H' d u), fun v H' => H' d = some (.frz od u) ∧ D.rt v (upd H' d u), fun σ' H' => H' d = some (.frz od u) ∧ D.bk σ' (upd H' d u), fun σ' H' => H' d = some (.frz od u) ∧ D.ct σ' (upd H' d u)⟩
/-- behind the lock all that stood stands -/
theorem Mu.back {H0 L : Hp} {d : Addr} {u o : HO} (m : Mu H0 d o L) (h : H0 d = some u) : Ex H0 (upd L d u) := fun a x e => by
  by_cases c : a = d
  · subst c
    rw [upd_same]
    rw [h] at e
    exact e
  · rw [upd_ne c]
    exact m.rest a x c e
theorem Mu.up {H0 L L1 : Hp} {d : Addr} {o : HO} (m : Mu H0 d o L) (e : Ex L L1) : Mu H0 d o L1 := ⟨e _ _ m.at_, fun a u h z => e _ _ (m.rest a u h z)⟩
theorem Mu.low {H H0 L : Hp} {d : Addr} {o : HO} (m : Mu H0 d o L) (e : Ex H H0) : Mu H d o L := ⟨m.at_, fun a u h z => m.rest a u h (e _ _ z)⟩
theorem ex_lock {H0 H : Hp} (e : Ex H0 H) (d : Addr) (o : HO) : Mu H0 d o (upd H d o) := ⟨upd_same, fun a u h z => by rw [upd_ne h]; exact e _ _ z⟩
section
variable {K : PySem.W.Frag} {σ : L2.St} {H0 : Hp} {te tl tk tv : TE} {t : TT} {tu tz : TS} {D : Ends} {v : V} {i j : Nat} {d : Addr} {kvs : List (Key × V)}
theorem g_forK (hv : ∀ L, Ev tl σ L (.ref d)) (hd : H0 d = some (.dK kvs)) (Pv : Obj → Nat → L2.St → Hp → Prop)
    (h0 : ∀ od L, Mu H0 d (.frz od (.dK kvs)) L → Pv od 0 σ L) (hG : ∀ od i σ' L, Pv od i σ' L → L d = some (.frz od (.dK kvs)))
    (hs : ∀ od i k v σ' L, kvs[i]? = some (k, v) → Pv od i σ' L → Go L tu { LkD D d (.dK kvs) od with nx := Pv od (i + 1), ct := Pv od (i + 1), bk := fun σ2 H2 => H2 d = some (.frz od (.dK kvs)) ∧ tz D σ2 (upd H2 d (.dK kvs)) } (σ'.set j (some (kV k))))
    (hz : ∀ od σ' L, Pv od kvs.length σ' L → Go (upd L d (.dK kvs)) tz D σ') : Go H0 (tSeq (tLock (tFor (iKeys tl) (gName j) tu)) tz) D σ := fun H e =>
  ⟨d, .dK kvs, e _ _ hd, trivial, fun od => hv _ _ (Ex.refl _) _ fun H2 e2 => ⟨d, od, rfl, .inl ⟨kvs, e2 _ _ upd_same, for_it walk_keys (Pv od) (h0 od H2 ((ex_lock e d _).up e2)) (fun i σ' L _ p => hG od i σ' L p)
    (fun i x σ' L L' _ p y => by
      obtain ⟨rfl, k, v, hk, rfl⟩ := y
      exact (hs od i k v σ' L' hk p).at)
    fun σ' L p => ⟨hG od _ σ' L p, (hz od σ' L p).at⟩⟩⟩⟩
theorem el_lockE {u : HO} {xs : List V} (hd : H0 d = some u) (mu : Mut (some u)) (h : ∀ od L, Mu H0 d (.frz od u) L → EvL te σ L xs) : EvL (tLockE te) σ H0 xs := fun H1 e Q q =>
  ⟨d, u, e _ _ hd, mu, fun od => h od _ (ex_lock e d _) _ (Ex.refl _) _ fun p H2 hp e2 h2 =>
    have ne : p ≠ d := fun z => by rw [z, upd_same] at hp; cases hp
    ⟨e2 _ _ upd_same, q p _ (by rw [upd_ne ne] at hp; exact hp) (((ex_lock (Ex.refl H1) d _).up e2).back (e _ _ hd)) (by rw [upd_ne ne]; exact h2)⟩⟩
theorem ev_lockE {u : HO} (hd : H0 d = some u) (mu : Mut (some u)) (h : ∀ od L, Mu H0 d (.frz od u) L → Ev te σ L v) : Ev (tLockE te) σ H0 v := fun H1 e Q q =>
  ⟨d, u, e _ _ hd, mu, fun od => h od _ (ex_lock e d _) _ (Ex.refl _) _ fun H2 e2 =>
    ⟨e2 _ _ upd_same, q _ (((ex_lock (Ex.refl H1) d _).up e2).back (e _ _ hd))⟩⟩
theorem g_lockL {u : HO} {xs : List V} (hd : H0 d = some u) (mu : Mut (some u)) (h : ∀ od L, Mu H0 d (.frz od u) L → EvL te σ L xs) (k : ∀ p H1, Ex H0 H1 → H0 p = none → H1 p = some (.lst xs) → Go H1 tz D (σ.set i (some (.ref p)))) :
    Go H0 (tSeq (tLock (tAsg te (gName i))) tz) D σ := fun H1 e =>
  ⟨d, u, e _ _ hd, mu, fun od => h od _ (ex_lock e d _) _ (Ex.refl _) _ fun p H2 hp e2 h2 =>
    have ne : p ≠ d := fun z => by rw [z, upd_same] at hp; cases hp
    have e3 := ((ex_lock (Ex.refl H1) d _).up e2).back (e _ _ hd)
    ⟨e2 _ _ upd_same, k p _ (e.trans e3) (fresh_back e (by rw [upd_ne ne] at hp; exact hp)) (by rw [upd_ne ne]; exact h2) _ (Ex.refl _)⟩⟩
/-- [e for k in d if t], the dict locked -/
theorem el_lcK {L : Hp} {od : Obj} {vs : List Nat} (f : Nat → Bool) (g : Nat → V) (h : Ev tl σ L (.ref d)) (hL : L d = some (.frz od (.dK kvs))) (hz : kvs.length ≤ 40000) (hw : ∀ x, wipe ((wipe σ vs).set j (some x)) vs = wipe σ vs)
    (ht : ∀ (i : Nat) (k : Key) (v : V) H1, Ex L H1 → kvs[i]? = some (k, v) → EvT t ((wipe σ vs).set j (some (kV k))) H1 (f i)) (he : ∀ (i : Nat) (k : Key) (v : V) H1, Ex L H1 → kvs[i]? = some (k, v) → f i = true → Ev te ((wipe σ vs).set j (some (kV k))) H1 (g i)) :
    EvL (tLc (iKeys tl) (gName j) t te vs) σ L (given kvs.length f g) := fun H0 e Q q => h H0 e _ fun H1 e1 => ⟨d, od, rfl, .inl ⟨kvs, (e.trans e1) _ _ hL, fun Dl hD =>
  lc_it walk_keys (Cw H1 f g Dl) ⟨hD, Ex.new hD, upd_same⟩ (fun i H' _ p => p.2.1 _ _ ((e.trans e1) _ _ hL)) (fun i x H2 H' hi p y => by
    obtain ⟨rfl, k, v, hk, rfl⟩ := y
    exact ⟨hw _, cw_turn p (by omega) (ht i k v H1 (e.trans e1) hk) (fun hf => he i k v H1 (e.trans e1) hk hf)⟩)
    (fun H' p => q Dl H' (fresh_back e1 p.1) (e1.trans p.2.1) p.2.2)⟩⟩
end
/-! ### max and min of a list of whole numbers -/
def maxL : List Int → Int
  | [] => 0
  | [a] => a
  | a :: b :: r => max a (maxL (b :: r))
def minL : List Int → Int
  | [] => 0
  | [a] => a
  | a :: b :: r => min a (minL (b :: r))
theorem maxL_mem : ∀ {l : List Int}, l ≠ [] → maxL l ∈ l
  | [], h => absurd rfl h
  | [a], _ => List.mem_singleton.mpr rfl
  | a :: b :: r, _ => by
    have ih := maxL_mem (l := b :: r) (by simp)
    show max a (maxL (b :: r)) ∈ _
    by_cases c : a ≤ maxL (b :: r)
    · rw [Int.max_eq_right c]
      exact List.mem_cons_of_mem _ ih
    · rw [Int.max_eq_left (by omega)]
      exact List.mem_cons_self
theorem maxL_ge : ∀ {l : List Int} {y : Int}, y ∈ l → y ≤ maxL l
  | [], _, h => nomatch h
  | [a], y, h => by rw [List.mem_singleton.mp h]; exact Int.le_refl _
  | a :: b :: r, y, h => by
    show y ≤ max a (maxL (b :: r))
    rcases List.mem_cons.mp h with rfl | h
    · omega
    · have := maxL_ge h
      omega
theorem maxL_eq {l : List Int} {m : Int} (h : m ∈ l) (h2 : ∀ y ∈ l, y ≤ m) : m = maxL l := by
  have h1 := maxL_ge h
  have h3 := h2 _ (maxL_mem (List.ne_nil_of_mem h))
  omega
theorem minL_mem : ∀ {l : List Int}, l ≠ [] → minL l ∈ l
  | [], h => absurd rfl h
  | [a], _ => List.mem_singleton.mpr rfl
  | a :: b :: r, _ => by
    have ih := minL_mem (l := b :: r) (by simp)
    show min a (minL (b :: r)) ∈ _
    by_cases c : a ≤ minL (b :: r)
    · rw [Int.min_eq_left c]
      exact List.mem_cons_self
    · rw [Int.min_eq_right (by omega)]
      exact List.mem_cons_of_mem _ ih
theorem minL_le : ∀ {l : List Int} {y : Int}, y ∈ l → minL l ≤ y
  | [], _, h => nomatch h
  | [a], y, h => by rw [List.mem_singleton.mp h]; exact Int.le_refl _
  | a :: b :: r, y, h => by
    show min a (minL (b :: r)) ≤ y
    rcases List.mem_cons.mp h with rfl | h
    · omega
    · have := minL_le h
      omega
theorem minL_eq {l : List Int} {m : Int} (h : m ∈ l) (h2 : ∀ y ∈ l, m ≤ y) : m = minL l := by
  have h1 := minL_le h
  have h3 := h2 _ (minL_mem (List.ne_nil_of_mem h))
  omega
section
variable {K : PySem.W.Frag} {σ : L2.St} {H : Hp} {te : TE} {ns : List Int}
theorem ev_maxN (h : EvL te σ H (ns.map V.int)) (hn : ns ≠ []) : Ev (tCB (rMax K) (tCons te tNil)) σ H (.int (maxL ns)) := fun H1 e Q q =>
  h H1 e _ fun p H2 _ e2 hp => ⟨p, ns, rfl, sq_of hp, List.length_pos_iff.mpr hn, fun m h1 h2 => by rw [maxL_eq h1 h2]; exact q H2 e2⟩
theorem ev_minN (h : EvL te σ H (ns.map V.int)) (hn : ns ≠ []) : Ev (tCB (rMin K) (tCons te tNil)) σ H (.int (minL ns)) := fun H1 e Q q =>
  h H1 e _ fun p H2 _ e2 hp => ⟨p, ns, rfl, sq_of hp, List.length_pos_iff.mpr hn, fun m h1 h2 => by rw [minL_eq h1 h2]; exact q H2 e2⟩
end
theorem flat_ints : ∀ l : List Int, (l.map V.int).all flatV = true
  | [] => rfl
  | a :: r => by
    rw [List.map_cons, List.all_cons, flat_ints r]
    rfl
theorem inV_int (i : Int) (l : List Int) : inV (.int i) (l.map V.int) = decide (i ∈ l) := by
  induction l with
  | nil => rfl
  | cons a r ih =>
    unfold inV at ih ⊢
    rw [List.map_cons, List.any_cons, ih]
    show (a == i || decide (i ∈ r)) = _
    by_cases c : i = a
    · subst c
      simp
    · have c' : ¬ a = i := fun z => c z.symm
      simp [c, c']
/-- given by a test on the items of a list -/
theorem given_filter {α : Type} (p : α → Bool) (g : α → V) (l : List α) (f : Nat → Bool) (v : Nat → V) (h : ∀ i x, l[i]? = some x → f i = p x ∧ v i = g x) : given l.length f v = (l.filter p).map g := by
  have q : ∀ n, n ≤ l.length → given n f v = ((l.take n).filter p).map g := by
    intro n
    induction n with
    | zero => intro _; rfl
    | succ n ih =>
      intro hn
      have e : l[n]? = some l[n] := List.getElem?_eq_getElem (by omega)
      obtain ⟨h1, h2⟩ := h n _ e
      have ih' := ih (by omega)
      rw [List.take_add_one, e, List.filter_append, List.map_append]
      show given (n + 1) f v = List.map g (List.filter p (List.take n l)) ++ List.map g (List.filter p [l[n]])
      cases hp : p l[n] with
      | true =>
        rw [given_yes (by rw [h1, hp]), ih', h2, List.filter_cons_of_pos hp]
        rfl
      | false =>
        rw [given_no (by rw [h1, hp]), ih', List.filter_cons_of_neg (by rw [hp]; decide)]
        exact (List.append_nil _).symm
  rw [q l.length (Nat.le_refl _), List.take_length]
theorem given_map {α : Type} (g : α → V) (l : List α) (v : Nat → V) (h : ∀ i x, l[i]? = some x → v i = g x) : given l.length (fun _ => true) v = l.map g := by
  rw [given_filter (fun _ => true) g l _ v fun i x hx => ⟨rfl, h i x hx⟩, List.filter_eq_self.mpr fun _ _ => rfl]
theorem atI_last {α : Type} {xs : List α} {v : α} {i : Nat} (h : xs.length = i + 1) (hv : xs[i]? = some v) : atI xs (-1) = some v := by
  have e : ixN xs.length (-1) = some i := by
    unfold ixN
    rw [h, if_neg (by decide), if_pos (by omega)]
    congr 1
    omega
  unfold atI
  rw [e]
  exact hv
section
variable {σ : L2.St} {H0 : Hp} {tt : TT} {u z : TS} {D : Ends}
/-- while: W by a number that falls, the slots and the heap -/
theorem g_whileH (W : Nat → L2.St → Hp → Prop) (m0 : Nat) (h0 : ∀ H1, Ex H0 H1 → W m0 σ H1)
    (hs : ∀ m σ' H', W m σ' H' → ∃ b, EvT tt σ' H' b ∧ (b = true → Go H' u { D with nx := fun σ2 H2 => ∃ m', m' < m ∧ W m' σ2 H2, ct := fun σ2 H2 => ∃ m', m' < m ∧ W m' σ2 H2, bk := z D } σ') ∧ (b = false → Go H' z D σ')) : Go H0 (tSeq (tWhile tt u) z) D σ := fun H e =>
  q_while W m0 (h0 H e) fun m σ' H' w => by
    obtain ⟨b, h1, h2, h3⟩ := hs m σ' H' w
    exact ⟨b, h1, fun hb H1 e1 => ⟨_, fun σ2 H2 n => n, h2 hb H1 e1⟩, fun hb H1 e1 => h3 hb H1 e1⟩
end
section
variable {σ : L2.St} {H0 : Hp} {ta tb te : TE} {D : Ends} {tz : TS}
/-- d[k] = a new list -/
theorem g_dputL1 {d : Addr} {kvs : List (Key × V)} {x : Key} {ys : List V} (hd : H0 d = some (.dK kvs)) (hv : EvL te σ H0 ys) (ho : Ev ta σ H0 (.ref d)) (hk : Ev tb σ H0 (kV x)) (hz : kvs.length < 100000)
    (k : ∀ p H2, Ex H0 H2 → H0 p = none → H2 p = some (.lst ys) → ∀ H1, Mu H2 d (.dK (putK kvs x (.ref p))) H1 → D.nx σ H1) :
    Go H0 (sDPut ta tb te) D σ := fun H e => hv H e _ fun p H1 hp e1 h1 => ho H1 (e.trans e1) _ fun H2 e2 => hk H2 ((e.trans e1).trans e2) _ fun H3 e3 =>
  have e4 := ((e.trans e1).trans e2).trans e3
  ⟨d, _, rfl, DPut.k (e4 _ _ hd) (sz_lt hz), k p H3 e4 (fresh_back e hp) (e3 _ _ (e2 _ _ h1)) _ (mu_upd H3 d _)⟩
end
theorem valV_none {kvs : List (Key × V)} {k : Key} (h : ¬ k ∈ kvs.map (·.1)) : valV kvs k = none := by
  cases e : valV kvs k with
  | none => rfl
  | some v => exact absurd (valV_in e) h
theorem put_new {kvs : List (Key × V)} {k : Key} {v : V} (h : ¬ k ∈ kvs.map (·.1)) : putK kvs k v = kvs ++ [(k, v)] := putK_new v (valV_none h)
/-- a thing that H does not know changes under the lock -/
theorem Mu.mut {H L L1 : Hp} {d C : Addr} {o u : HO} (m : Mu H d o L) (m2 : Mu L C u L1) (h : H C = none) (ne : d ≠ C) : Mu H d o L1 := ⟨m2.rest _ _ ne m.at_, fun a x ha z => m2.rest _ _ (ne_of_none z h) (m.rest a x ha z)⟩
theorem ne_obj {H : Hp} {p q : Addr} {o u : HO} (h : H p = some o) (h2 : H q = some u) (ne : o ≠ u) : p ≠ q := fun z => by
  rw [z, h2] at h
  exact ne (Option.some.inj h).symm
/-- a def that gives a new tuple -/
def SpU (sp : Sp) (vs : List V) (H : Hp) (xs : List V) : Prop := ∀ H1, Ex H H1 → ∀ Q : VK, (∀ p H2, H1 p = none → Ex H1 H2 → H2 p = some (.tup xs) → Q (.ref p) H2) → ∀ E : XK, sp vs H1 Q E
theorem eu_call {σ : L2.St} {H : Hp} {sp : Sp} {dvs vs xs : List V} {E : XK} {ta : TA} (h : EvA ta σ H vs) (hs : SpU sp (vs ++ dvs) H xs) : EvU (tCall sp dvs E ta) σ H xs := fun H1 e Q q =>
  h H1 e _ fun H2 e2 => hs H2 (e.trans e2) Q (fun p H3 hp e3 h3 => q p H3 (fresh_back e2 hp) (e2.trans e3) h3) E
/-- a text's sign from its end -/
theorem atI_back {α : Type} {l : List α} {i : Nat} {v : α} (h : l.reverse[i]? = some v) : atI l (-1 - (i : Int)) = some v := by
  have hi := (List.getElem?_eq_some_iff.mp h).1
  rw [List.length_reverse] at hi
  have e : ixN l.length (-1 - (i : Int)) = some (l.length - 1 - i) := by
    unfold ixN
    rw [if_neg (by omega), if_pos (by omega)]
    congr 1
    omega
  unfold atI
  rw [e]
  rw [List.getElem?_reverse hi] at h
  exact h
/-! ### what evaluates to something of which R holds -/
def EvX (te : TE) (σ : L2.St) (H : Hp) (R : V → Hp → Prop) : Prop := ∀ H1, Ex H H1 → ∀ Q : VK, (∀ v H2, Ex H1 H2 → R v H2 → Q v H2) → te σ H1 Q
def AvX (ta : TA) (σ : L2.St) (H : Hp) (R : List V → Hp → Prop) : Prop := ∀ H1, Ex H H1 → ∀ Q : List V → Hp → Prop, (∀ vs H2, Ex H1 H2 → R vs H2 → Q vs H2) → ta σ H1 Q
section
variable {K : PySem.W.Frag} {σ : L2.St} {H H0 : Hp} {te ta tb : TE} {tr : TA} {tz : TS} {D : Ends} {v : V} {i : Nat} {R : V → Hp → Prop} {S : List V → Hp → Prop}
theorem ex_of (h : Ev te σ H v) : EvX te σ H (fun x _ => x = v) := fun H1 e Q q => h H1 e Q fun H2 e2 => q v H2 e2 rfl
theorem ex_ofL {xs : List V} (h : EvL te σ H xs) : EvX te σ H (fun x H2 => ∃ p, x = .ref p ∧ H p = none ∧ H2 p = some (.lst xs)) := fun H1 e Q q => h H1 e Q fun p H2 hp e2 h2 => q _ H2 e2 ⟨p, rfl, fresh_back e hp, h2⟩
theorem ex_ofU {xs : List V} (h : EvU te σ H xs) : EvX te σ H (fun x H2 => ∃ p, x = .ref p ∧ H p = none ∧ H2 p = some (.tup xs)) := fun H1 e Q q => h H1 e Q fun p H2 hp e2 h2 => q _ H2 e2 ⟨p, rfl, fresh_back e hp, h2⟩
theorem EvX.mono {H' : Hp} (e : Ex H H') (h : EvX te σ H R) : EvX te σ H' R := fun H1 a Q q => h H1 (e.trans a) Q q
theorem EvX.imp {R' : V → Hp → Prop} (h : EvX te σ H R) (f : ∀ v H1, Ex H H1 → R v H1 → R' v H1) : EvX te σ H R' := fun H1 e Q q => h H1 e Q fun v H2 e2 r => q v H2 e2 (f v H2 (e.trans e2) r)
theorem ax_of {vs : List V} (h : EvA tr σ H vs) : AvX tr σ H (fun x _ => x = vs) := fun H1 e Q q => h H1 e Q fun H2 e2 => q vs H2 e2 rfl
theorem ax_nil : AvX tNil σ H (fun x _ => x = []) := fun H1 e Q q => q [] H1 (Ex.refl H1) rfl
/-- the first one's word holds on; hs: it is kept while the others are made -/
theorem ax_cons (h : EvX te σ H R) (hr : ∀ v H1, Ex H H1 → R v H1 → AvX tr σ H1 S) (up : ∀ v H1 H2, Ex H1 H2 → R v H1 → R v H2) : AvX (tCons te tr) σ H (fun x H2 => ∃ v vs, x = v :: vs ∧ R v H2 ∧ S vs H2) := fun H1 e Q q =>
  h H1 e _ fun v H2 e2 r => hr v H2 (e.trans e2) r H2 (Ex.refl H2) _ fun vs H3 e3 s => q _ H3 (e2.trans e3) ⟨v, vs, rfl, up v H2 H3 e3 r, s⟩
theorem ex_call {sp : Sp} {dvs : List V} {E : XK} (h : AvX tr σ H S) (hs : ∀ vs H1, Ex H H1 → S vs H1 → ∀ Q : VK, (∀ v H2, Ex H1 H2 → R v H2 → Q v H2) → sp (vs ++ dvs) H1 Q E) : EvX (tCall sp dvs E tr) σ H R := fun H1 e Q q =>
  h H1 e _ fun vs H2 e2 s => hs vs H2 (e.trans e2) s Q fun v H3 e3 r => q v H3 (e2.trans e3) r
theorem ex_tup (h : AvX tr σ H S) (hl : ∀ vs H1, S vs H1 → vs.length ≤ 100000) (up : ∀ vs H1 H2, Ex H1 H2 → S vs H1 → S vs H2) : EvX (tTup tr) σ H (fun x H2 => ∃ p vs, x = .ref p ∧ H p = none ∧ H2 p = some (.tup vs) ∧ S vs H2) := fun H1 e Q q =>
  h H1 e _ fun vs H2 e2 s => ⟨sz_of (hl vs H2 s), fun p hp => q _ _ (e2.trans (Ex.new hp)) ⟨p, vs, rfl, fresh_back (e.trans e2) hp, upd_same, up vs _ _ (Ex.new hp) s⟩⟩
theorem g_asgX (h : EvX te σ H0 R) (k : ∀ v H1, Ex H0 H1 → R v H1 → Go H1 tz D (σ.set i (some v))) : Go H0 (tSeq (tAsg te (gName i)) tz) D σ := fun H e => h H e _ fun v H2 e2 r => k v H2 (e.trans e2) r H2 (Ex.refl H2)
theorem g_retX (h : EvX te σ H0 R) (k : ∀ v H1, Ex H0 H1 → R v H1 → D.rt v H1) : Go H0 (tRet te) D σ := fun H e => h H e _ fun v H2 e2 r => k v H2 (e.trans e2) r
theorem g_dputX1 {d : Addr} {kvs : List (Key × V)} {x : Key} (hd : H0 d = some (.dK kvs)) (hv : EvX te σ H0 R) (up : ∀ v H1 H2, Ex H1 H2 → R v H1 → R v H2) (ho : Ev ta σ H0 (.ref d)) (hk : Ev tb σ H0 (kV x)) (hz : kvs.length < 100000)
    (k : ∀ v H2, Ex H0 H2 → R v H2 → ∀ H1, Mu H2 d (.dK (putK kvs x v)) H1 → D.nx σ H1) :
    Go H0 (sDPut ta tb te) D σ := fun H e => hv H e _ fun v H1 e1 r => ho H1 (e.trans e1) _ fun H2 e2 => hk H2 ((e.trans e1).trans e2) _ fun H3 e3 =>
  have e4 := ((e.trans e1).trans e2).trans e3
  ⟨d, _, rfl, DPut.k (e4 _ _ hd) (sz_lt hz), k v H3 e4 (up v _ _ (e2.trans e3) r) _ (mu_upd H3 d _)⟩
end
theorem nd_get {l : List Int} (h : l.Nodup) {i j : Nat} (hi : i < l.length) (hj : j < l.length) (e : l[i] = l[j]) : i = j := by
  rcases Nat.lt_trichotomy i j with c | c | c
  · exact absurd e (List.pairwise_iff_getElem.mp h i j hi hj c)
  · exact c
  · exact absurd e.symm (List.pairwise_iff_getElem.mp h j i hj hi c)
/-! ### tuples stay -/
def Ts (H H' : Hp) : Prop := ∀ a xs, H a = some (.tup xs) → H' a = some (.tup xs)
theorem Ts.of {H H' : Hp} (e : Ex H H') : Ts H H' := fun a xs h => e _ _ h
theorem Ts.mu {H H' : Hp} {p : Addr} {o u : HO} (m : Mu H p o H') (h : H p = some u) (hu : ∀ xs, u ≠ .tup xs) : Ts H H' := fun a xs h2 => m.rest _ _ (ne_obj h2 h fun z => hu xs z.symm) h2
theorem Ts.trans {H H1 H2 : Hp} (a : Ts H H1) (b : Ts H1 H2) : Ts H H2 := fun p xs h => b p xs (a p xs h)
section
variable {K : PySem.W.Frag} {σ : L2.St} {H : Hp} {te tl : TE} {R : Nat → V → Hp → Prop}
/-- [e for x in a new list], e something of which R holds -/
theorem ex_lcNL {xs : List V} {j : Nat} {vs : List Nat} (up : ∀ i v H1 H2, Ts H1 H2 → R i v H1 → R i v H2) (h : EvL tl σ H xs) (hz : xs.length ≤ 40000) (hw : ∀ x, wipe ((wipe σ vs).set j (some x)) vs = wipe σ vs)
    (he : ∀ (i : Nat) (x : V) H1, Ex H H1 → xs[i]? = some x → EvX te ((wipe σ vs).set j (some x)) H1 (R i)) :
    EvX (tLc (iList K tl) (gName j) tYes te vs) σ H (fun v H2 => ∃ p ys, v = .ref p ∧ H p = none ∧ H2 p = some (.lst ys) ∧ ys.length = xs.length ∧ ∀ i y, ys[i]? = some y → R i y H2) := fun H0 e Q q => h H0 e _ fun a H1 ha e1 hx => ⟨a, rfl, ⟨xs, sq_of hx⟩, fun Dl hD =>
  lc_list (xs := xs) (fun i H' => ∃ ys, Ex H1 H' ∧ H' Dl = some (.lst ys) ∧ ys.length = i ∧ ∀ k y, ys[k]? = some y → R k y H') ⟨[], Ex.new hD, upd_same, rfl, fun k y hy => by simp at hy⟩ (fun i H' _ p => sq_of (p.choose_spec.1 a _ hx))
    (fun i x H' hi p => ⟨hw x, by
      obtain ⟨ys, e2, h2, hl, hr⟩ := p
      show te ((wipe σ vs).set j (some x)) H' fun y H4 => ∃ acc, H4 Dl = some (.lst acc) ∧ acc.length < sizeLine ∧ ∃ ys, Ex H1 (upd H4 Dl (.lst (acc ++ [y]))) ∧ upd H4 Dl (.lst (acc ++ [y])) Dl = some (.lst ys) ∧ ys.length = i + 1 ∧ ∀ k z, ys[k]? = some z → R k z (upd H4 Dl (.lst (acc ++ [y])))
      have il := (List.getElem?_eq_some_iff.mp hi).1
      refine he i x H' ((e.trans e1).trans e2) hi H' (Ex.refl H') _ fun y H4 e4 r => ⟨ys, e4 _ _ h2, sz_lt (by omega), ys ++ [y], Ex.mut (e2.trans e4) hD, upd_same, by rw [List.length_append, hl]; rfl, fun k z hz => ?_⟩
      have ts : Ts H4 (upd H4 Dl (.lst (ys ++ [y]))) := Ts.mu (mu_upd H4 Dl _) (e4 _ _ h2) (fun xs z => by cases z)
      by_cases c : k < ys.length
      · rw [List.getElem?_append_left c] at hz
        exact up k z _ _ ((Ts.of e4).trans ts) (hr k z hz)
      · have hk : k = ys.length := by
          have := (List.getElem?_eq_some_iff.mp hz).1
          rw [List.length_append, List.length_singleton] at this
          omega
        rw [hk, List.getElem?_concat_length] at hz
        cases hz
        rw [hk, hl]
        exact up i y _ _ ts r⟩)
    (fun H' p => by
      obtain ⟨ys, e2, h2, hl, hr⟩ := p
      exact q _ H' (e1.trans e2) ⟨Dl, ys, rfl, fresh_back (e.trans e1) hD, h2, hl, hr⟩)⟩
end
/-- sorted -/
def sortI (l : List Int) : List Int := l.mergeSort (fun a b => decide (a ≤ b))
theorem sort_perm (l : List Int) : (sortI l).Perm l := List.mergeSort_perm l _
theorem sort_le (l : List Int) : (sortI l).Pairwise (· ≤ ·) := by
  have := List.pairwise_mergeSort (le := fun (a b : Int) => decide (a ≤ b)) (fun a b c h1 h2 => by simp only [decide_eq_true_eq] at *; omega) (fun a b => by simp only [Bool.or_eq_true, decide_eq_true_eq]; omega) l
  exact this.imp fun h => by simpa using h
theorem sort_one : ∀ {a b : List Int}, a.Perm b → a.Pairwise (· ≤ ·) → b.Pairwise (· ≤ ·) → a = b
  | [], b, p, _, _ => by rw [List.nil_perm.mp p]
  | x :: r, [], p, _, _ => by
    have := p.length_eq
    simp at this
  | x :: r, y :: t, p, h1, h2 => by
    obtain ⟨a1, a2⟩ := List.pairwise_cons.mp h1
    obtain ⟨b1, b2⟩ := List.pairwise_cons.mp h2
    have e : x = y := by
      have m1 : x ∈ y :: t := p.mem_iff.mp List.mem_cons_self
      have m2 : y ∈ x :: r := p.mem_iff.mpr List.mem_cons_self
      rcases List.mem_cons.mp m1 with c | c
      · exact c
      · rcases List.mem_cons.mp m2 with d | d
        · exact d.symm
        · have := b1 x c
          have := a1 y d
          omega
    subst e
    rw [sort_one (List.perm_cons x |>.mp p) a2 b2]
/-- sorted(d) -/
theorem el_sortD {σ : L2.St} {H : Hp} {ta : TA} {a : Addr} {kvs : List (Key × V)} {ks : List Int} (h : EvA ta σ H [.ref a]) (hd : Rd H a (.dK kvs)) (hk : kvs.map (·.1) = ks.map Sum.inl) (hl : ks.length < 64) :
    EvL (tCB (fun xs H Q => ∃ (a : Addr) (kvs : List (Key × V)) (ks : List Int), xs = [.ref a] ∧ Rd H a (.dK kvs) ∧ kvs.map (·.1) = ks.map Sum.inl ∧ ks.length < 64 ∧ ∀ (ys : List Int) (p : Addr), ys.Perm ks → ys.Pairwise (· ≤ ·) → H p = none → Q (.ref p) (upd H p (.lst (ys.map V.int)))) ta) σ H ((sortI ks).map V.int) := fun H1 e Q q =>
  h H1 e _ fun H2 e2 => ⟨a, kvs, ks, rfl, ex_rd (e.trans e2) hd, hk, hl, fun ys p h1 h2 hp => by
    rw [sort_one (h1.trans (sort_perm ks).symm) h2 (sort_le ks)]
    exact q p _ (fresh_back e2 hp) (e2.trans (Ex.new hp)) upd_same⟩
/-- len of a text or a tuple, as it comes -/
def rLenU (K : PySem.W.Frag) : List V → Hp → VK → Prop := fun xs H Q => (∃ z, xs = [V.str z] ∧ z.length ≤ sizeLine ∧ Q (.int z.length) H) ∨ (∃ p ys, xs = [V.ref p] ∧ (SqL K H p ys ∨ SqT K H p ys) ∧ Q (.int ys.length) H)
theorem call_lenU {X : Cx} : CallR X (.builtin "len") (rLenU X.K) := by
  intro pins s σ H xs us Q I r h
  rcases h with h | h
  · exact call_len_str pins s σ H xs us Q I r h
  · exact call_len_seq pins s σ H xs us Q I r h
theorem rc_lenU1 {K : PySem.W.Frag} {H : Hp} {l : List Nat} (hz : l.length ≤ 100000) : RC (rLenU K) [tx l] H (.int l.length) := fun H1 e Q q => .inl ((rc_lenT hz) H1 e Q q)
theorem rc_lenU2 {K : PySem.W.Frag} {H : Hp} {p : Addr} {xs : List V} (h : SqT K H p xs) : RC (rLenU K) [.ref p] H (.int xs.length) := fun H1 e Q q => .inr ((rc_lenU h) H1 e Q q)
theorem ev_opX {σ : L2.St} {H : Hp} {r : R2} {ta tb : TE} {x z : V} {R : V → Hp → Prop} (ha : Ev ta σ H x) (hb : EvX tb σ H R) (hr : ∀ y H1, Ex H H1 → R y H1 → RV r x y H1 z) : Ev (tOp r ta tb) σ H z := fun H1 e Q q =>
  ha H1 e _ fun H2 e2 => hb H2 (e.trans e2) _ fun y H3 e3 ry => hr y H3 ((e.trans e2).trans e3) ry H3 (Ex.refl H3) Q fun H4 e4 => q H4 ((e2.trans e3).trans e4)
section
variable {K : PySem.W.Frag} {σ : L2.St} {H0 : Hp} {tu : TS} {D : Ends}
/-- a for that ends a suite -/
theorem g_forR1L {ta : TA} {j : Nat} {n : Int} (h : EvA ta σ H0 [.int n]) (hn : 0 ≤ n ∧ n ≤ 100000) (Pv : Nat → L2.St → Hp → Prop) (h0 : ∀ H1, Ex H0 H1 → Pv 0 σ H1)
    (hs : ∀ (i : Nat) σ' H', (i : Int) < n → Pv i σ' H' → Go H' tu { D with nx := Pv (i + 1), ct := Pv (i + 1), bk := D.nx } (σ'.set j (some (.int (i : Int)))))
    (hd : ∀ σ' H', Pv n.toNat σ' H' → D.nx σ' H') : Go H0 (tFor (iRng1 ta) (gName j) tu) D σ := fun H e =>
  s_forR1 (fun H1 e1 => h H1 (e.trans e1)) hn Pv (fun H1 e1 => h0 H1 (e.trans e1)) (fun i σ' H' hi p => (hs i σ' H' hi p).at) hd
/-- xs.index(x) of whole numbers, x in it -/
theorem ev_index {te tx' : TE} {b : Addr} {ys : List Int} {k : Int} (ho : Ev te σ H0 (.ref b)) (hx : Ev tx' σ H0 (.int k)) (hb : SqL K H0 b (ys.map V.int)) (hk : k ∈ ys) : Ev (tBM K "list" (rIndex K) te (tCons tx' tNil)) σ H0 (.int ((ys.idxOf k : Nat) : Int)) := fun H2 e2 Q2 q2 =>
  ho H2 e2 _ fun H3 e3 => ⟨Or.inl ⟨rfl, _, ex_l (e2.trans e3) hb⟩, hx H3 (e2.trans e3) _ fun H4 e4 => ⟨b, ys.map V.int, .int k, ys.idxOf k, .int k, rfl, rfl, ex_l ((e2.trans e3).trans e4) hb, rfl, flat_ints ys,
    by rw [List.getElem?_map, List.getElem?_eq_getElem (List.idxOf_lt_length_of_mem hk), List.getElem_idxOf]; rfl,
    by show (k == k) = true; simp,
    fun m z' hm hz => by
      rw [List.getElem?_map] at hz
      obtain ⟨y, hy, rfl⟩ := Option.map_eq_some_iff.mp hz
      show (y == k) = false
      obtain ⟨h1, h2⟩ := List.getElem?_eq_some_iff.mp hy
      have := List.not_of_lt_findIdx (p := fun z => z == k) (xs := ys) hm
      rw [← h2]
      simpa using this,
    q2 H4 (e3.trans e4)⟩⟩
end
/-- (x, a new tuple) -/
theorem ex_pairU {σ : L2.St} {H : Hp} {ta tb : TE} {v : V} {xs : List V} (h1 : Ev ta σ H v) (h2 : EvU tb σ H xs) : EvX (tTup (tCons ta (tCons tb tNil))) σ H (fun x H2 => ∃ p q, x = .ref p ∧ H p = none ∧ H2 p = some (.tup [v, .ref q]) ∧ H2 q = some (.tup xs)) := fun H1 e Q k =>
  h1 H1 e _ fun H2 e2 => h2 H2 (e.trans e2) _ fun r H3 hr e3 h3 => ⟨(show 2 ≤ sizeLine by decide), fun p hp => k _ _ ((e2.trans e3).trans (Ex.new hp)) ⟨p, r, rfl, fresh_back ((e.trans e2).trans e3) hp, upd_same, Ex.new hp _ _ h3⟩⟩
section
variable {σ : L2.St} {H0 : Hp} {te ta tb : TE} {tz : TS} {D : Ends} {R : V → Hp → Prop}
theorem g_dputX {d : Addr} {kvs : List (Key × V)} {x : Key} (hd : H0 d = some (.dK kvs)) (hv : EvX te σ H0 R) (up : ∀ v H1 H2, Ex H1 H2 → R v H1 → R v H2) (ho : Ev ta σ H0 (.ref d)) (hk : Ev tb σ H0 (kV x)) (hz : kvs.length < 100000)
    (k : ∀ v H2, Ex H0 H2 → R v H2 → ∀ H1, Mu H2 d (.dK (putK kvs x v)) H1 → Go H1 tz D σ) :
    Go H0 (tSeq (sDPut ta tb te) tz) D σ := fun H e => hv H e _ fun v H1 e1 r => ho H1 (e.trans e1) _ fun H2 e2 => hk H2 ((e.trans e1).trans e2) _ fun H3 e3 =>
  have e4 := ((e.trans e1).trans e2).trans e3
  ⟨d, _, rfl, DPut.k (e4 _ _ hd) (sz_lt hz), k v H3 e4 (up v _ _ (e2.trans e3) r) _ (mu_upd H3 d _) _ (Ex.refl _)⟩
end
section
variable {K : PySem.W.Frag} {σ : L2.St} {H : Hp} {te tl : TE} {R : Nat → V → Hp → Prop}
/-- .. over a list that stands -/
theorem ex_lcL {a : Addr} {xs : List V} {j : Nat} {vs : List Nat} (up : ∀ i v H1 H2, Ts H1 H2 → R i v H1 → R i v H2) (h : Ev tl σ H (.ref a)) (hx : SqL K H a xs) (hz : xs.length ≤ 40000) (hw : ∀ x, wipe ((wipe σ vs).set j (some x)) vs = wipe σ vs)
    (he : ∀ (i : Nat) (x : V) H1, Ex H H1 → xs[i]? = some x → EvX te ((wipe σ vs).set j (some x)) H1 (R i)) :
    EvX (tLc (iList K tl) (gName j) tYes te vs) σ H (fun v H2 => ∃ p ys, v = .ref p ∧ H p = none ∧ H2 p = some (.lst ys) ∧ ys.length = xs.length ∧ ∀ i y, ys[i]? = some y → R i y H2) := fun H0 e Q q => h H0 e _ fun H1 e1 => ⟨a, rfl, ⟨xs, ex_l (e.trans e1) hx⟩, fun Dl hD =>
  lc_list (xs := xs) (fun i H' => ∃ ys, Ex H1 H' ∧ H' Dl = some (.lst ys) ∧ ys.length = i ∧ ∀ k y, ys[k]? = some y → R k y H') ⟨[], Ex.new hD, upd_same, rfl, fun k y hy => by simp at hy⟩ (fun i H' _ p => ex_l ((e.trans e1).trans p.choose_spec.1) hx)
    (fun i x H' hi p => ⟨hw x, by
      obtain ⟨ys, e2, h2, hl, hr⟩ := p
      show te ((wipe σ vs).set j (some x)) H' fun y H4 => ∃ acc, H4 Dl = some (.lst acc) ∧ acc.length < sizeLine ∧ ∃ ys, Ex H1 (upd H4 Dl (.lst (acc ++ [y]))) ∧ upd H4 Dl (.lst (acc ++ [y])) Dl = some (.lst ys) ∧ ys.length = i + 1 ∧ ∀ k z, ys[k]? = some z → R k z (upd H4 Dl (.lst (acc ++ [y])))
      have il := (List.getElem?_eq_some_iff.mp hi).1
      refine he i x H' ((e.trans e1).trans e2) hi H' (Ex.refl H') _ fun y H4 e4 r => ⟨ys, e4 _ _ h2, sz_lt (by omega), ys ++ [y], Ex.mut (e2.trans e4) hD, upd_same, by rw [List.length_append, hl]; rfl, fun k z hz => ?_⟩
      have ts : Ts H4 (upd H4 Dl (.lst (ys ++ [y]))) := Ts.mu (mu_upd H4 Dl _) (e4 _ _ h2) (fun xs z => by cases z)
      by_cases c : k < ys.length
      · rw [List.getElem?_append_left c] at hz
        exact up k z _ _ ((Ts.of e4).trans ts) (hr k z hz)
      · have hk : k = ys.length := by
          have := (List.getElem?_eq_some_iff.mp hz).1
          rw [List.length_append, List.length_singleton] at this
          omega
        rw [hk, List.getElem?_concat_length] at hz
        cases hz
        rw [hk, hl]
        exact up i y _ _ ts r⟩)
    (fun H' p => by
      obtain ⟨ys, e2, h2, hl, hr⟩ := p
      exact q _ H' (e1.trans e2) ⟨Dl, ys, rfl, fresh_back (e.trans e1) hD, h2, hl, hr⟩)⟩
end
end XG
set_option Elab.async false
set_option linter.all false
set_option maxRecDepth 100000
set_option maxHeartbeats 4000000
namespace PD
open PySem L2 XG Evl
local macro_rules | `(tactic| walk_at "sc") => `(tactic| first | omega | assumption | decide | exact ⟨by decide, by decide, by decide⟩ | (constructor <;> first | omega | assumption | decide))
local macro_rules | `(tactic| walk_at "rv") => `(tactic| first
  | with_reducible exact rv_eqT | with_reducible exact rv_neT | with_reducible exact rv_eqI | with_reducible exact rv_neI
  | ((with_reducible apply rv_addT); walk_at "sc")
  | with_reducible exact rv_I0
  | ((with_reducible apply rv_I); walk_at "sc")
  | assumption)
local macro_rules | `(tactic| walk_at "rc") => `(tactic| first
  | ((with_reducible apply rc_lenT); walk_at "sc") | ((with_reducible apply rc_lenL); assumption) | ((with_reducible apply rc_lenU); assumption) | with_reducible exact rc_max | with_reducible exact rc_min | assumption)
local macro_rules | `(tactic| walk_at "ea") => `(tactic| first
  | with_reducible exact ea_nil
  | ((with_reducible apply ea_cons); (case' h => walk_at "ev"); (case' hr => walk_at "ea")))
local macro_rules | `(tactic| walk_at "eo") => `(tactic| first
  | with_reducible exact eo_none
  | ((with_reducible apply eo_some); walk_at "ev"))
local macro_rules | `(tactic| walk_at "ev") => `(tactic| first
  | assumption
  | ((with_reducible apply ev_var); exact rfl)
  | with_reducible exact ev_c
  | ((with_reducible apply ev_op); (case' ha => walk_at "ev"); (case' hb => walk_at "ev"); (case' hr => walk_at "rv"))
  | ((with_reducible apply ev_un); (case' ha => walk_at "ev"); (case' hr => exact ru_neg))
  | ((with_reducible apply ev_sl); (case' h => walk_at "ev"); (case' h1 => walk_at "eo"); (case' h2 => walk_at "eo"); (case' hz => walk_at "sc"))
  | ((with_reducible apply ev_rev); (case' h => walk_at "ev"); (case' hz => walk_at "sc"))
  | ((with_reducible apply ev_cb); (case' h => walk_at "ea"); (case' hr => walk_at "rc"))
  | ((with_reducible apply ev_call); (case' h => walk_at "ea"); (case' hs => walk_at "call")))
local macro_rules | `(tactic| walk_at "et") => `(tactic| first
  | ((with_reducible apply et_B); walk_at "ev")
  | ((with_reducible apply et_test); walk_at "ev")
  | ((with_reducible apply et_not); walk_at "et"))
local macro_rules | `(tactic| walk_at "s0") => `(tactic| simp only [L2.start, List.map_cons, List.map_nil, List.length_cons, List.length_nil, Nat.reduceAdd, Nat.reduceSub, List.replicate_succ, List.replicate_zero, List.cons_append, List.nil_append])
local macro_rules | `(tactic| walk_at "sg") => `(tactic| try simp only [List.set_cons_zero, List.set_cons_succ])
/-- the builtins that the text calls -/
structure Bt (mg : Str → Option Value) : Prop where
  len : mg "len" = none
  range : mg "range" = none
  max : mg "max" = none
  min : mg "min" = none
  isinstance : mg "isinstance" = none
  str : mg "str" = none
  int : mg "int" = none
  bool : mg "bool" = none
  tuple : mg "tuple" = none
  enumerate : mg "enumerate" = none
  zip : mg "zip" = none
  ValueError : mg "ValueError" = none
  list : mg "list" = none
  dict : mg "dict" = none
  sorted : mg "sorted" = none
  sum : mg "sum" = none
theorem et_yes {σ : L2.St} {H : Hp} : EvT tYes σ H true := fun H1 _ Q q => q H1 (Ex.refl H1)
/-- an own class of errors, as the top has made it -/
structure XC (K : PySem.W.Frag) (mg : Str → Option Value) (x : Str) (C : Addr) : Prop where
  g : mg x = some (.ref C)
  x : PySem.W.excIn K C [.type "ValueError", .type "Exception", .type "BaseException", .type "object"] "ValueError.__new__" = true
  k : PySem.W.keepIn K (.ref C) = true
  b : PySem.W.subIn K (.ref C) (.type "BaseException") = some true
  t : PySem.W.typeIn K (.ref C) = some (.type "type")
  d : PySem.W.hasDictIn K C = true
theorem kit_own {K : PySem.W.Frag} {C : Addr} {T : String} {b : Bool} (hm : PySem.W.kitMeta T = true) (h : PySem.W.subIn K (.ref C) (.type T) = some b) : PySem.W.kitOne K (.ref C) (.type T) = some b := by
  show (if (Value.ref C == Value.type T) = true then some true else if PySem.W.kitMeta T = true then PySem.W.subIn K (.ref C) (.type T) else none) = some b
  rw [if_neg (by intro z; cases (beq_iff_eq.mp z)), if_pos hm, h]
theorem isi_lst {K : PySem.W.Frag} {H : Hp} {p : Addr} {xs : List V} {n : String} {b : Bool} (hp : H p = some (.lst xs)) (h : kitB "list" n = some b) : RC (rIsi K) [.ref p, .ty n] H (.bl b) := rc_isi (t := .type "list") (fun H1 e => .base (.lst (e p _ hp))) (kit_ty h)
/-! ### the script's cells -/
/-- the k-th cell -/
def cell (ns : List Int) (k : Int) : Int := ns.getD k.toNat 0
def spCell (K : PySem.W.Frag) : Sp := fun vs H Q _ => ∃ (a : Addr) (ns : List Int) (k : Int), vs = [.ref a, .int k] ∧ SqL K H a (ns.map V.int) ∧ 0 ≤ k ∧ RetV (.int (cell ns k)) H Q
theorem spv_cell {K : PySem.W.Frag} {H : Hp} {a : Addr} {ns : List Int} {k : Int} (h : SqL K H a (ns.map V.int)) (hk : 0 ≤ k) : SpV (spCell K) [.ref a, .int k] H (.int (cell ns k)) := spv fun H1 e Q q E => ⟨a, ns, k, rfl, ex_l e h, hk, q⟩
/-! ### the signs -/
def signsA : List Nat := [32, 33, 34, 35, 36, 38, 39, 40, 41, 42, 43, 44, 45, 46, 47, 48, 49, 50, 51, 52, 53, 54, 55, 56, 57, 58, 59, 60, 61, 62, 63, 64, 65, 66, 67, 68, 69, 70, 71, 72, 73, 74, 75, 76, 77, 78, 79, 80, 81, 82, 83, 84, 85, 86, 87, 88, 89, 90, 91, 92, 93, 94, 95, 96]
def signsB : List Nat := [97, 98, 99, 100, 101, 102, 103, 104, 105, 106, 107, 108, 109, 110, 111, 112, 113, 114, 115, 116, 117, 118, 119, 120, 121, 122, 123, 124, 125, 126, 10, 9]
def sgn (c : Int) : Nat := (signsA ++ signsB).getD (c % 96).toNat 0
def spSign : Sp := fun vs H Q _ => ∃ c : Int, vs = [.int c] ∧ RetV (tx [sgn c]) H Q
theorem spv_sign {H : Hp} {c : Int} : SpV spSign [.int c] H (tx [sgn c]) := spv fun H1 e Q q E => ⟨c, rfl, q⟩
theorem sgn_lt (c : Int) : sgn c < 1114112 := by
  unfold sgn
  have h : ∀ x ∈ signsA ++ signsB, x < 1114112 := by decide
  rw [List.getD_eq_getElem?_getD]
  cases e : (signsA ++ signsB)[(c % 96).toNat]? with
  | none => decide
  | some x => exact h x (List.mem_of_getElem? e)
/-- the law's text -/
def txt (c : Int) (n : Nat) : List Nat := (List.range n).map fun (k : Nat) => sgn (c + 7 * ((k : Int) / (1 + c % 3)))
theorem txt_len (c : Int) (n : Nat) : (txt c n).length = n := by
  unfold txt
  rw [List.length_map, List.length_range]
def spText : Sp := fun vs H Q _ => ∃ c n : Int, vs = [.int c, .int n] ∧ 0 ≤ n ∧ n ≤ 2000 ∧ RetV (tx (txt c n.toNat)) H Q
theorem spv_text {H : Hp} {c n : Int} (h0 : 0 ≤ n) (h1 : n ≤ 2000) : SpV spText [.int c, .int n] H (tx (txt c n.toNat)) := spv fun H1 e Q q E => ⟨c, n, rfl, h0, h1, q⟩
theorem flat_one (g : Nat → Nat) (l : List Nat) : (l.map fun k => [g k]).flatten = l.map g := by
  induction l with
  | nil => rfl
  | cons a r ih => rw [List.map_cons, List.flatten_cons, ih]; rfl
theorem txt_ok (c : Int) (n : Nat) : Ok (txt c n) := by
  intro x hx
  obtain ⟨k, _, e⟩ := List.mem_map.mp hx
  rw [← e]
  exact sgn_lt _
/-! ### a whole number -/
def spWhole : Sp := fun vs H Q _ => ∃ i : Int, vs = [.int i] ∧ RetV (.bl true) H Q
theorem spv_whole {H : Hp} {i : Int} : SpV spWhole [.int i] H (.bl true) := spv fun H1 e Q q E => ⟨i, rfl, q⟩
theorem isi_int {K : PySem.W.Frag} {H : Hp} {i : Int} {n : String} {b : Bool} (h : kitB "int" n = some b) : RC (rIsi K) [.int i, .ty n] H (.bl b) := rc_isi (t := .type "int") (fun H1 _ => .base (.int i)) (kit_ty h)
theorem isi_str {K : PySem.W.Frag} {H : Hp} {z : Str} {n : String} {b : Bool} (h : kitB "str" n = some b) : RC (rIsi K) [.str z, .ty n] H (.bl b) := rc_isi (t := .type "str") (fun H1 _ => .base (.str z)) (kit_ty h)
/-! ### a change: a tuple of a place and two texts -/
def spChange (K : PySem.W.Frag) : Sp := fun vs H Q _ => ∃ (p : Addr) (a : Int) (g c : List Nat), vs = [.ref p] ∧ H p = some (.tup [.int a, tx g, tx c]) ∧ RetV (.bl true) H Q
theorem spv_change {K : PySem.W.Frag} {H : Hp} {p : Addr} {a : Int} {g c : List Nat} (h : H p = some (.tup [.int a, tx g, tx c])) : SpV (spChange K) [.ref p] H (.bl true) := spv fun H1 e Q q E => ⟨p, a, g, c, rfl, e p _ h, q⟩
theorem isi_tup {K : PySem.W.Frag} {H : Hp} {p : Addr} {xs : List V} {n : String} {b : Bool} (hp : H p = some (.tup xs)) (h : kitB "tuple" n = some b) : RC (rIsi K) [.ref p, .ty n] H (.bl b) := rc_isi (t := .type "tuple") (fun H1 e => .base (.tup (e p _ hp))) (kit_ty h)
/-! ### the next text -/
def nextL (o : List Nat) (c : Int) : List Nat :=
  if c % 5 = 0 then o else
  if c % 5 = 1 then o.take (c / 5 % ((o.length : Int) + 1)).toNat ++ [sgn (c / 5 / ((o.length : Int) + 1))] ++ [sgn (c / 5 / ((o.length : Int) + 1) / 96)] ++ o.drop (c / 5 % ((o.length : Int) + 1)).toNat else
  if c % 5 = 2 then o.take (c / 5 % ((o.length : Int) + 1)).toNat ++ o.drop (c / 5 % ((o.length : Int) + 1) + 1 + c / 5 / ((o.length : Int) + 1) % 3).toNat else
  if c % 5 = 3 then o.take (c / 5 % ((o.length : Int) + 1)).toNat ++ [sgn (c / 5 / ((o.length : Int) + 1))] ++ o.drop (c / 5 % ((o.length : Int) + 1) + 1).toNat else
  txt (c / 5 / ((o.length : Int) + 1)) (c / 5 / ((o.length : Int) + 1) % 9).toNat
theorem nextL_len (o : List Nat) (c : Int) : (nextL o c).length ≤ o.length + 8 := by
  unfold nextL
  have h := Int.emod_lt_of_pos (c / 5 / ((o.length : Int) + 1)) (show (0 : Int) < 9 by decide)
  split
  · omega
  split
  · simp only [List.length_append, List.length_take, List.length_drop, List.length_singleton]; omega
  split
  · simp only [List.length_append, List.length_take, List.length_drop]; omega
  split
  · simp only [List.length_append, List.length_take, List.length_drop, List.length_singleton]; omega
  · rw [txt_len]; omega
theorem nextL_ok {o : List Nat} (h : Ok o) (c : Int) : Ok (nextL o c) := by
  unfold nextL
  split
  · exact h
  split
  · exact (((h.take _).app (Ok.one (sgn_lt _))).app (Ok.one (sgn_lt _))).app (h.drop _)
  split
  · exact (h.take _).app (h.drop _)
  split
  · exact ((h.take _).app (Ok.one (sgn_lt _))).app (h.drop _)
  · exact txt_ok _ _
def spNext : Sp := fun vs H Q _ => ∃ (o : List Nat) (c : Int), vs = [tx o, .int c] ∧ o.length ≤ 5000 ∧ RetV (tx (nextL o c)) H Q
theorem spv_next {H : Hp} {o : List Nat} {c : Int} (h : o.length ≤ 5000) : SpV spNext [tx o, .int c] H (tx (nextL o c)) := spv fun H1 e Q q E => ⟨o, c, rfl, h, q⟩
def turnsL (c : Int) (n : Nat) : List Nat := (List.range n).map fun (k : Nat) => sgn (c / 3 + (k : Int) % (1 + c % 3))
theorem turnsL_len (c : Int) (n : Nat) : (turnsL c n).length = n := by
  unfold turnsL
  rw [List.length_map, List.length_range]
theorem turnsL_ok (c : Int) (n : Nat) : Ok (turnsL c n) := by
  intro x hx
  obtain ⟨k, _, e⟩ := List.mem_map.mp hx
  rw [← e]
  exact sgn_lt _
def spTurns : Sp := fun vs H Q _ => ∃ c n : Int, vs = [.int c, .int n] ∧ 0 ≤ n ∧ n ≤ 2000 ∧ RetV (tx (turnsL c n.toNat)) H Q
theorem spv_turns {H : Hp} {c n : Int} (h0 : 0 ≤ n) (h1 : n ≤ 2000) : SpV spTurns [.int c, .int n] H (tx (turnsL c n.toNat)) := spv fun H1 e Q q E => ⟨c, n, rfl, h0, h1, q⟩
/-! ### how long two texts begin alike -/
def alikeL : List Nat → List Nat → Nat
  | a :: x, b :: y => if a = b then alikeL x y + 1 else 0
  | _, _ => 0
theorem alike_le : ∀ x y : List Nat, alikeL x y ≤ x.length ∧ alikeL x y ≤ y.length
  | [], _ => by simp [alikeL]
  | _ :: _, [] => by simp [alikeL]
  | a :: x, b :: y => by
    have ih := alike_le x y
    simp only [alikeL, List.length_cons]
    split <;> omega
/-- n signs alike: that many and no more than the length -/
theorem alike_iff : ∀ (x y : List Nat) (n : Nat), n ≤ alikeL x y ↔ (n ≤ x.length ∧ n ≤ y.length ∧ x.take n = y.take n)
  | [], y, n => by
    simp only [alikeL, List.length_nil, List.take_nil]
    constructor
    · intro h
      have e : n = 0 := by omega
      subst e
      simp
    · intro h; exact h.1
  | a :: x, [], n => by
    simp only [alikeL, List.length_nil, List.take_nil]
    constructor
    · intro h
      have e : n = 0 := by omega
      subst e
      simp
    · intro h; exact h.2.1
  | a :: x, b :: y, 0 => by simp
  | a :: x, b :: y, n + 1 => by
    have ih := alike_iff x y n
    simp only [alikeL, List.length_cons, List.take_succ_cons, List.cons.injEq]
    by_cases h : a = b
    · rw [if_pos h]
      constructor
      · intro q
        have := ih.mp (by omega)
        exact ⟨by omega, by omega, h, this.2.2⟩
      · intro q
        have := ih.mpr ⟨by omega, by omega, q.2.2.2⟩
        omega
    · rw [if_neg h]
      constructor
      · intro q; omega
      · intro q; exact absurd q.2.2.1 h
theorem alike_take (x y : List Nat) : x.take (alikeL x y) = y.take (alikeL x y) := ((alike_iff x y _).mp (Nat.le_refl _)).2.2
theorem take_more {l : List Nat} {i c : Nat} (h : l[i]? = some c) : l.take (i + 1) = l.take i ++ [c] := by
  obtain ⟨hi, e⟩ := List.getElem?_eq_some_iff.mp h
  rw [List.take_succ, h]
  rfl
theorem alike_at {x y : List Nat} {i c d : Nat} (ht : x.take i = y.take i) (hx : x[i]? = some c) (hy : y[i]? = some d) (hne : c ≠ d) : alikeL x y = i := by
  obtain ⟨hi, _⟩ := List.getElem?_eq_some_iff.mp hx
  obtain ⟨hj, _⟩ := List.getElem?_eq_some_iff.mp hy
  have h1 : i ≤ alikeL x y := (alike_iff x y i).mpr ⟨by omega, by omega, ht⟩
  by_cases h2 : i + 1 ≤ alikeL x y
  · have h3 := ((alike_iff x y (i + 1)).mp h2).2.2
    rw [take_more hx, take_more hy, ht] at h3
    have h4 := List.append_cancel_left h3
    exact absurd (List.cons.inj h4).1 hne
  · omega
theorem alike_all {x y : List Nat} (ht : x.take (min x.length y.length) = y.take (min x.length y.length)) : alikeL x y = min x.length y.length := by
  have h1 := (alike_iff x y (min x.length y.length)).mpr ⟨by omega, by omega, ht⟩
  have h2 := alike_le x y
  omega
/-- at the first place behind they differ -/
theorem alike_ne {x y : List Nat} {c d : Nat} (hx : x[alikeL x y]? = some c) (hy : y[alikeL x y]? = some d) : c ≠ d := by
  intro e
  subst e
  obtain ⟨hi, _⟩ := List.getElem?_eq_some_iff.mp hx
  obtain ⟨hj, _⟩ := List.getElem?_eq_some_iff.mp hy
  have := (alike_iff x y (alikeL x y + 1)).mpr ⟨by omega, by omega, by rw [take_more hx, take_more hy, alike_take]⟩
  omega
def spAlike (K : PySem.W.Frag) : Sp := fun vs H Q _ => ∃ x y : List Nat, vs = [tx x, tx y] ∧ x.length ≤ 20000 ∧ y.length ≤ 20000 ∧ RetV (.int (alikeL x y)) H Q
theorem spv_alike {K : PySem.W.Frag} {H : Hp} {x y : List Nat} (h1 : x.length ≤ 20000) (h2 : y.length ≤ 20000) : SpV (spAlike K) [tx x, tx y] H (.int (alikeL x y)) := spv fun H1 e Q q E => ⟨x, y, rfl, h1, h2, q⟩
/-! ### the change from one text to the other -/
def leftL (x y : List Nat) : Nat := alikeL (x.drop (alikeL x y)).reverse (y.drop (alikeL x y)).reverse
def goneL (x y : List Nat) : List Nat := (x.drop (alikeL x y)).take (x.length - leftL x y - alikeL x y)
def spChangeOf (K : PySem.W.Frag) : Sp := fun vs H Q _ => ∃ x y : List Nat, vs = [tx x, tx y] ∧ x.length ≤ 20000 ∧ y.length ≤ 20000 ∧
  ∀ p H', Ex H H' → H p = none → H' p = some (.tup [.int (alikeL x y), tx (goneL x y), tx ((y.drop (alikeL x y)).take (y.length - leftL x y - alikeL x y))]) → Q (.ref p) H'
theorem left_le (x y : List Nat) : leftL x y ≤ x.length - alikeL x y ∧ leftL x y ≤ y.length - alikeL x y := by
  have h := alike_le (x.drop (alikeL x y)).reverse (y.drop (alikeL x y)).reverse
  simp only [List.length_reverse, List.length_drop] at h
  exact h
/-! ### how many signs may be left -/
/-- the longest end alike -/
def endL (x y : List Nat) : Nat := alikeL x.reverse y.reverse
theorem end_iff (x y : List Nat) (n : Nat) : n ≤ endL x y ↔ (n ≤ x.length ∧ n ≤ y.length ∧ x.drop (x.length - n) = y.drop (y.length - n)) := by
  unfold endL
  rw [alike_iff, List.length_reverse, List.length_reverse, List.take_reverse, List.take_reverse, List.reverse_inj]
theorem left_is (x y : List Nat) : alikeL x y + leftL x y = min (alikeL x y + endL x y) (min x.length y.length) := by
  have ha := alike_le x y
  have hl := left_le x y
  have he := alike_le x.reverse y.reverse
  rw [List.length_reverse, List.length_reverse] at he
  have e1 : ∀ n, n ≤ leftL x y ↔ (n ≤ x.length - alikeL x y ∧ n ≤ y.length - alikeL x y ∧ x.drop (x.length - n) = y.drop (y.length - n)) := by
    intro n
    unfold leftL
    rw [alike_iff, List.length_reverse, List.length_reverse, List.take_reverse, List.take_reverse, List.reverse_inj, List.length_drop, List.length_drop]
    constructor
    · rintro ⟨h1, h2, h3⟩
      rw [List.drop_drop, List.drop_drop, show alikeL x y + (x.length - alikeL x y - n) = x.length - n by omega, show alikeL x y + (y.length - alikeL x y - n) = y.length - n by omega] at h3
      exact ⟨h1, h2, h3⟩
    · rintro ⟨h1, h2, h3⟩
      refine ⟨h1, h2, ?_⟩
      rw [List.drop_drop, List.drop_drop, show alikeL x y + (x.length - alikeL x y - n) = x.length - n by omega, show alikeL x y + (y.length - alikeL x y - n) = y.length - n by omega]
      exact h3
  have a1 := (e1 (leftL x y)).mp (Nat.le_refl _)
  have a2 := (end_iff x y (leftL x y)).mpr ⟨by omega, by omega, a1.2.2⟩
  have b1 := (end_iff x y (min (endL x y) (min x.length y.length - alikeL x y))).mp (by omega)
  have b2 := (e1 (min (endL x y) (min x.length y.length - alikeL x y))).mpr ⟨by omega, by omega, b1.2.2⟩
  have a3 : endL x y ≤ x.length ∧ endL x y ≤ y.length := he
  omega
def spLeftBy : Sp := fun vs H Q _ => ∃ x y : List Nat, vs = [tx x, tx y] ∧ x.length ≤ 5000 ∧ y.length ≤ 5000 ∧ RetV (.int ((alikeL x y + leftL x y : Nat) : Int)) H Q
theorem spv_leftby {H : Hp} {x y : List Nat} (h1 : x.length ≤ 5000) (h2 : y.length ≤ 5000) : SpV spLeftBy [tx x, tx y] H (.int ((alikeL x y + leftL x y : Nat) : Int)) := spv fun H1 e Q q E => ⟨x, y, rfl, h1, h2, q⟩
/-! ### a change leads from one text to the other -/
theorem change_leads (x y : List Nat) : x.take (alikeL x y) ++ (y.drop (alikeL x y)).take (y.length - leftL x y - alikeL x y) ++ x.drop (alikeL x y + (goneL x y).length) = y ∧ (goneL x y).length = x.length - leftL x y - alikeL x y ∧ (x.drop (alikeL x y)).take (goneL x y).length = goneL x y := by
  have ha := alike_le x y
  have hl := left_le x y
  have lg : (goneL x y).length = x.length - leftL x y - alikeL x y := by
    unfold goneL
    rw [List.length_take, List.length_drop]
    omega
  refine ⟨?_, lg, by rw [lg]; rfl⟩
  rw [lg, alike_take x y]
  have e1 : alikeL x y + (x.length - leftL x y - alikeL x y) = x.length - leftL x y := by omega
  rw [e1]
  -- the ends alike
  have e2 : x.drop (x.length - leftL x y) = y.drop (y.length - leftL x y) := by
    have h := alike_take (x.drop (alikeL x y)).reverse (y.drop (alikeL x y)).reverse
    change (x.drop (alikeL x y)).reverse.take (leftL x y) = (y.drop (alikeL x y)).reverse.take (leftL x y) at h
    rw [List.take_reverse, List.take_reverse] at h
    have h2 := List.reverse_inj.mp h
    rw [List.drop_drop, List.drop_drop, List.length_drop, List.length_drop] at h2
    rw [show x.length - leftL x y = alikeL x y + (x.length - alikeL x y - leftL x y) by omega, show y.length - leftL x y = alikeL x y + (y.length - alikeL x y - leftL x y) by omega]
    exact h2
  rw [e2, List.append_assoc]
  have e3 : (y.drop (alikeL x y)).take (y.length - leftL x y - alikeL x y) ++ y.drop (y.length - leftL x y) = y.drop (alikeL x y) := by
    have e4 : y.drop (y.length - leftL x y) = (y.drop (alikeL x y)).drop (y.length - leftL x y - alikeL x y) := by
      rw [List.drop_drop]
      congr 1
      omega
    rw [e4, List.take_append_drop]
  rw [e3, List.take_append_drop]
/-- the last signs of what goes and of what comes differ -/
theorem last_ne (x y : List Nat) (h1 : goneL x y ≠ []) (h2 : (y.drop (alikeL x y)).take (y.length - leftL x y - alikeL x y) ≠ []) :
    ∃ c d, atI (goneL x y) (-1) = some c ∧ atI ((y.drop (alikeL x y)).take (y.length - leftL x y - alikeL x y)) (-1) = some d ∧ c ≠ d := by
  have ha := alike_le x y
  have hl := left_le x y
  have k1 : 0 < x.length - leftL x y - alikeL x y := by
    have := List.length_pos_iff.mpr h1
    unfold goneL at this
    rw [List.length_take, List.length_drop] at this
    omega
  have k2 : 0 < y.length - leftL x y - alikeL x y := by
    have := List.length_pos_iff.mpr h2
    rw [List.length_take, List.length_drop] at this
    omega
  have lastAt : ∀ (z : List Nat) (n : Nat), 0 < n → n ≤ z.length → atI (z.take n) (-1) = z.reverse[z.length - n]? := fun z n h0 hn => by
    have e : (z.take n).length = n := by rw [List.length_take]; omega
    unfold atI
    have e2 : ixN (z.take n).length (-1) = some (n - 1) := by
      rw [e]
      unfold ixN
      rw [if_neg (by omega)]
      first
        | (rw [if_pos (by omega)]; congr 1; omega)
        | (simp; omega)
    rw [e2]
    show (z.take n)[n - 1]? = z.reverse[z.length - n]?
    rw [List.getElem?_take_of_lt (by omega), List.getElem?_reverse (by omega)]
    congr 1
    omega
  have b1 := lastAt (x.drop (alikeL x y)) (x.length - leftL x y - alikeL x y) k1 (by rw [List.length_drop]; omega)
  have b2 := lastAt (y.drop (alikeL x y)) (y.length - leftL x y - alikeL x y) k2 (by rw [List.length_drop]; omega)
  rw [List.length_drop, show x.length - alikeL x y - (x.length - leftL x y - alikeL x y) = leftL x y by omega] at b1
  rw [List.length_drop, show y.length - alikeL x y - (y.length - leftL x y - alikeL x y) = leftL x y by omega] at b2
  have p1 : leftL x y < (x.drop (alikeL x y)).reverse.length := by rw [List.length_reverse, List.length_drop]; omega
  have p2 : leftL x y < (y.drop (alikeL x y)).reverse.length := by rw [List.length_reverse, List.length_drop]; omega
  refine ⟨_, _, b1.trans (List.getElem?_eq_getElem p1), b2.trans (List.getElem?_eq_getElem p2), ?_⟩
  exact alike_ne (x := (x.drop (alikeL x y)).reverse) (y := (y.drop (alikeL x y)).reverse) (List.getElem?_eq_getElem p1) (List.getElem?_eq_getElem p2)
def spLeads (K : PySem.W.Frag) : Sp := fun vs H Q _ => ∃ (x y : List Nat) (p : Addr), vs = [tx x, tx y, .ref p] ∧ x.length ≤ 5000 ∧ y.length ≤ 5000 ∧ H p = some (.tup [.int (alikeL x y), tx (goneL x y), tx ((y.drop (alikeL x y)).take (y.length - leftL x y - alikeL x y))]) ∧ RetV (.bl true) H Q
theorem spv_leads {K : PySem.W.Frag} {H : Hp} {x y : List Nat} {p : Addr} (h1 : x.length ≤ 5000) (h2 : y.length ≤ 5000) (h : H p = some (.tup [.int (alikeL x y), tx (goneL x y), tx ((y.drop (alikeL x y)).take (y.length - leftL x y - alikeL x y))])) : SpV (spLeads K) [tx x, tx y, .ref p] H (.bl true) := spv fun H1 e Q q E => ⟨x, y, p, rfl, h1, h2, e p _ h, q⟩
def spLaw (K : PySem.W.Frag) : Sp := fun vs H Q _ => ∃ (a : Addr) (ns : List Int), vs = [.ref a] ∧ SqL K H a (ns.map V.int) ∧ ns.length ≤ 63 ∧ ∀ H', Q (.bl true) H'
local macro_rules | `(tactic| walk_at "call") => `(tactic| first | assumption | exact spv_cell (by assumption) (by first | decide | omega) | exact spv_sign | exact spv_text (by omega) (by omega) | exact spv_whole | exact spv_change (by assumption) | exact spv_next (by omega) | exact spv_turns (by omega) (by omega) | exact spv_alike (by omega) (by omega))
def top (i : Nat) : Stmt := PySem.Challenge.pw_packdelta_k03_whole_least_change.main.body.getD i (.Pass ⟨0, 0, 0, 0⟩)
abbrev s__law_cell_at : Stmt := top 4
theorem sc__law_cell_at : FnScope ["_law_script", "_law_k"] ["_law_script", "_law_k"] (defScope s__law_cell_at) := ⟨rfl, rfl, rfl, by decide +kernel, rfl, by decide +kernel, by decide +kernel⟩
abbrev s__law_sign_by : Stmt := top 6
theorem sc__law_sign_by : FnScope ["_law_cell", "_law_some"] ["_law_cell"] (defScope s__law_sign_by) := ⟨rfl, rfl, rfl, by decide +kernel, rfl, by decide +kernel, by decide +kernel⟩
abbrev s__law_text_by : Stmt := top 7
theorem sc__law_text_by : FnScope ["_law_cell", "_law_size", "_law_k"] ["_law_cell", "_law_size"] (defScope s__law_text_by) := ⟨rfl, rfl, rfl, by decide +kernel, rfl, by decide +kernel, by decide +kernel⟩
abbrev s__law_whole : Stmt := top 5
theorem sc__law_whole : FnScope ["_law_found"] ["_law_found"] (defScope s__law_whole) := ⟨rfl, rfl, rfl, by decide +kernel, rfl, by decide +kernel, by decide +kernel⟩
abbrev s__law_change : Stmt := top 9
theorem sc__law_change : FnScope ["_law_found"] ["_law_found"] (defScope s__law_change) := ⟨rfl, rfl, rfl, by decide +kernel, rfl, by decide +kernel, by decide +kernel⟩
abbrev s__law_next_text : Stmt := top 8
theorem sc__law_next_text : FnScope ["_law_old", "_law_cell", "_law_way", "_law_at", "_law_left"] ["_law_old", "_law_cell"] (defScope s__law_next_text) := ⟨rfl, rfl, rfl, by decide +kernel, rfl, by decide +kernel, by decide +kernel⟩
abbrev s__law_by_turns : Stmt := top 10
theorem sc__law_by_turns : FnScope ["_law_cell", "_law_size", "_law_many", "_law_k"] ["_law_cell", "_law_size"] (defScope s__law_by_turns) := ⟨rfl, rfl, rfl, by decide +kernel, rfl, by decide +kernel, by decide +kernel⟩
abbrev s__alike : Stmt := top 2
theorem sc__alike : FnScope ["one", "other", "at", "sign", "sign_beside"] ["one", "other"] (defScope s__alike) := ⟨rfl, rfl, rfl, by decide +kernel, rfl, by decide +kernel, by decide +kernel⟩
abbrev s_change_of : Stmt := top 1
theorem sc_change_of : FnScope ["old", "new", "at", "left"] ["old", "new"] (defScope s_change_of) := ⟨rfl, rfl, rfl, by decide +kernel, rfl, by decide +kernel, by decide +kernel⟩
abbrev s__law_left_by : Stmt := top 11
theorem sc__law_left_by : FnScope ["_law_old", "_law_new", "_law_most", "_law_least", "_law_ahead", "_law_behind"] ["_law_old", "_law_new"] (defScope s__law_left_by) := ⟨rfl, rfl, rfl, by decide +kernel, rfl, by decide +kernel, by decide +kernel⟩
abbrev s__law_leads : Stmt := top 12
theorem sc__law_leads : FnScope ["_law_old", "_law_new", "_law_found", "_law_at", "_law_gone", "_law_come"] ["_law_old", "_law_new", "_law_found"] (defScope s__law_leads) := ⟨rfl, rfl, rfl, by decide +kernel, rfl, by decide +kernel, by decide +kernel⟩
abbrev s_law : Stmt := top 13
theorem sc_law : FnScope ["_law_script", "_law_size", "_law_old", "_law_new", "_law_kept", "_law_found", "_law_most"] ["_law_script"] (defScope s_law) := ⟨rfl, rfl, rfl, by decide +kernel, rfl, by decide +kernel, by decide +kernel⟩
section
variable {P : Program} {w : World} {K : PySem.W.Frag} {mg : Str → Option Value} {base : Heap}
theorem ok_cell {f : Addr} {fd : FuncData} (F : Fun K "_law_cell_at" "_law_cell_at" s__law_cell_at f fd) (B : Bt mg) : FnOk P w K mg base CX0 1 f fd ["_law_script", "_law_k"] (spCell K) := by
  refine F.ok sc__law_cell_at (fun vs H Q E h => ?_) (fun cdv A outer s H vs Q E hr h => ?_)
  · obtain ⟨a, ns, k, rfl, _⟩ := h
    rfl
  · obtain ⟨a, ns, k, rfl, hs, hk, q⟩ := h
    refine ⟨_, (pss_cons (ps_if (pt_cmpR op_lt (pv 1) (pe_callB call_len_seq (by rfl) B.len PySem.boot_len (pa_cons (pv 0) pa_nil)) (nomark _)) (pss_one (ps_ret (pe_ix ix_list (pv 0) (pv 1) (fun _ _ => rfl)))) pss_nil)
  (pss_one (ps_ret pe_int))), ?_⟩
    try dsimp only [cxOf, Cx.nox]
    refine Go.at (g_when (b := decide (k < ns.length)) ?_ (fun hb => ?_) fun hb => ?_)
    · refine et_is (a := decide (k < ((ns.map V.int).length : Int))) ?_ (by rw [List.length_map])
      walk_at "et"
    · have hb := of_decide_eq_true hb
      refine g_ret (v := .int (cell ns k)) ?_ q
      refine ev_op (ev_var rfl) (ev_var rfl) (rv_ixL hs ?_)
      rw [show k = ((k.toNat : Nat) : Int) by omega]
      refine atI_nat ?_
      rw [List.getElem?_map, cell, List.getD_eq_getElem?_getD, List.getElem?_eq_getElem (show k.toNat < ns.length by omega)]
      simp only [Int.toNat_natCast, List.getElem?_eq_getElem (show k.toNat < ns.length by omega)]
      rfl
    · have hb := of_decide_eq_false hb
      refine g_ret ev_c fun H1 e1 => ?_
      have z : cell ns k = 0 := by rw [cell, List.getD_eq_getElem?_getD, List.getElem?_eq_none (by omega)]; rfl
      have g := q H1 e1
      rw [z] at g
      exact g
theorem ok_sign {f : Addr} {fd : FuncData} (F : Fun K "_law_sign_by" "_law_sign_by" s__law_sign_by f fd) (B : Bt mg) : FnOk P w K mg base CX0 1 f fd ["_law_cell"] spSign := by
  refine F.ok sc__law_sign_by (fun vs H Q E h => ?_) (fun cdv A outer s H vs Q E hr h => ?_)
  · obtain ⟨c, rfl, _⟩ := h
    rfl
  · obtain ⟨c, rfl, q⟩ := h
    refine ⟨_, (pss_cons (ps_set (i := 1) sc__law_sign_by.nd rfl (Or.inl rfl) pe_str)
  (pss_cons (ps_set (i := 1) sc__law_sign_by.nd rfl (Or.inl rfl) (pe_op op_add_str (pv 1) pe_str))
  (pss_one (ps_ret (pe_ix ix_str (pv 1) (pe_op op_mod (pv 0) pe_int) (fun _ _ => rfl)))))), ?_⟩
    try dsimp only [cxOf, Cx.nox]
    refine Go.at (g_asg (v := tx signsA) (ev_is ev_c (congrArg V.str (by decide +kernel))) (g_asg (v := tx (signsA ++ signsB)) ?_ (g_ret (v := tx [sgn c]) ?_ q)))
    · refine ev_op (y := tx signsB) (ev_var rfl) (ev_is ev_c (congrArg V.str (by decide +kernel))) (rv_addT (by decide))
    · refine ev_op (y := .int (c % 96)) (ev_var rfl) (by walk_at "ev") (rv_ixT (by decide) ?_)
      have h1 : 0 ≤ c % 96 := Int.emod_nonneg c (by decide)
      have h2 : c % 96 < 96 := Int.emod_lt_of_pos c (by decide)
      have hl : (c % 96).toNat < (signsA ++ signsB).length := by rw [show (signsA ++ signsB).length = 96 from by decide]; omega
      rw [show c % 96 = (((c % 96).toNat : Nat) : Int) by omega]
      refine atI_nat ?_
      rw [sgn, List.getD_eq_getElem?_getD, List.getElem?_eq_getElem hl]
      simp only [Int.toNat_natCast, List.getElem?_eq_getElem hl, Option.getD_some]
theorem ok_text {f : Addr} {fd : FuncData} (F : Fun K "_law_text_by" "_law_text_by" s__law_text_by f fd) (B : Bt mg) {f1 : Addr} {fd1 : FuncData} (C__law_sign_by : Cal P w K mg base CX0 1 "_law_sign_by" ["_law_cell"] spSign f1 fd1) : FnOk P w K mg base CX0 2 f fd ["_law_cell", "_law_size"] spText := by
  refine F.ok sc__law_text_by (fun vs H Q E h => ?_) (fun cdv A outer s H vs Q E hr h => ?_)
  · obtain ⟨c, n, rfl, _⟩ := h
    rfl
  · obtain ⟨c, n, rfl, h0, h1, q⟩ := h
    refine ⟨_, (pss_one (ps_ret (pe_join pe_str (pe_lc (own := [("_law_k", 2)]) (g := gName 2) (by rfl) sc__law_text_by.nd (pi_range1 (by rfl) B.range (pa_cons (pv 1) pa_nil)) (blkOk_by (own := [("_law_k", 2)]) (N := ["_law_cell", "_law_size", "_law_k"]) (sc := defScope s__law_text_by) (by decide +kernel)) (fun _ _ _ _ _ => (pg_name (i := 2) sc__law_text_by.nd rfl (Or.inl rfl))) (fun _ _ _ _ _ => pts_nil) (fun _ _ _ _ _ => (pe_cal C__law_sign_by (hr.mono (by decide)) (pa_cons (pe_op op_add (pv 0) (pe_op op_mul pe_int (pe_op op_fdiv (pv 2) (pe_op op_add pe_int (pe_op op_mod (pv 0) pe_int))))) pa_nil))))))), ?_⟩
    try dsimp only [cxOf, Cx.nox]
    have hm : 0 ≤ c % 3 ∧ c % 3 < 3 := ⟨Int.emod_nonneg c (by decide), Int.emod_lt_of_pos c (by decide)⟩
    refine Go.at (g_ret (v := tx (txt c n.toNat)) ?_ q)
    have e1 : txt c n.toNat = ((List.range n.toNat).map fun (k : Nat) => [sgn (c + 7 * ((k : Int) / (1 + c % 3)))]).flatten := (flat_one _ _).symm
    rw [e1]
    refine ev_join0 (ev_is ev_c (congrArg V.str (by decide +kernel))) ?_ (by rw [← e1, txt_len]; omega)
    rw [List.map_map, ← given_all]
    refine el_lcR1 (fun _ => true) _ (ea_cons (ev_var rfl) ea_nil) (by omega) (fun x => rfl) (fun i H1 e hi => et_yes) fun i H1 e hi _ => ?_
    have e2 : c + 7 * ((i : Int) / (1 + c % 3)) = c + 7 * ((i : Int) / (1 + c % 3)) := rfl
    refine ev_call (vs := [.int (c + 7 * ((i : Int) / (1 + c % 3)))]) ?_ spv_sign
    walk_at "ea"
theorem ok_whole {f : Addr} {fd : FuncData} (F : Fun K "_law_whole" "_law_whole" s__law_whole f fd) (B : Bt mg) : FnOk P w K mg base CX0 1 f fd ["_law_found"] spWhole := by
  refine F.ok sc__law_whole (fun vs H Q E h => ?_) (fun cdv A outer s H vs Q E hr h => ?_)
  · obtain ⟨i, rfl, _⟩ := h
    rfl
  · obtain ⟨i, rfl, q⟩ := h
    refine ⟨_, (pss_one (ps_ret (pe_and (pe_callB call_isi (by rfl) B.isinstance (by decide +kernel) (pa_cons (pv 0) (pa_cons (pe_bltn (v := .ty "int") (by rfl) B.int (by decide +kernel) rfl) pa_nil))) (pe_one (pe_not (pe_callB call_isi (by rfl) B.isinstance (by decide +kernel) (pa_cons (pv 0) (pa_cons (pe_bltn (v := .ty "bool") (by rfl) B.bool (by decide +kernel) rfl) pa_nil)))))))), ?_⟩
    try dsimp only [cxOf, Cx.nox]
    refine Go.at (g_ret (v := .bl (true && !false)) (ev_andV (ev_cb (ea_cons (ev_var rfl) (ea_cons ev_c ea_nil)) (isi_int (by decide +kernel))) fun _ => ev_notV (ev_cb (ea_cons (ev_var rfl) (ea_cons ev_c ea_nil)) (isi_int (by decide +kernel)))) q)
theorem ok_change {f : Addr} {fd : FuncData} (F : Fun K "_law_change" "_law_change" s__law_change f fd) (B : Bt mg) {f1 : Addr} {fd1 : FuncData} (C__law_whole : Cal P w K mg base CX0 1 "_law_whole" ["_law_found"] spWhole f1 fd1) : FnOk P w K mg base CX0 2 f fd ["_law_found"] (spChange K) := by
  refine F.ok sc__law_change (fun vs H Q E h => ?_) (fun cdv A outer s H vs Q E hr h => ?_)
  · obtain ⟨p, a, g, c, rfl, _⟩ := h
    rfl
  · obtain ⟨p, a, g, c, rfl, hp, q⟩ := h
    refine ⟨_, (pss_cons (ps_if (PW.pt (pw_or (pt_not (pt_val (pe_callB call_isi (by rfl) B.isinstance (by decide +kernel) (pa_cons (pv 0) (pa_cons (pe_bltn (v := .ty "tuple") (by rfl) B.tuple (by decide +kernel) rfl) pa_nil))))) (pw_or1 (pt_cmpR op_ne (pe_callB call_len_seq (by rfl) B.len PySem.boot_len (pa_cons (pv 0) pa_nil)) pe_int (nomark _))))) (pss_one (ps_ret pe_bl)) pss_nil)
  (pss_one (ps_ret (pe_and (pe_cal C__law_whole (hr.mono (by decide)) (pa_cons (pe_ix ix_tup (pv 0) pe_int (fun _ _ => rfl)) pa_nil)) (pe_and (pe_callB call_isi (by rfl) B.isinstance (by decide +kernel) (pa_cons (pe_ix ix_tup (pv 0) pe_int (fun _ _ => rfl)) (pa_cons (pe_bltn (v := .ty "str") (by rfl) B.str (by decide +kernel) rfl) pa_nil))) (pe_one (pe_callB call_isi (by rfl) B.isinstance (by decide +kernel) (pa_cons (pe_ix ix_tup (pv 0) pe_int (fun _ _ => rfl)) (pa_cons (pe_bltn (v := .ty "str") (by rfl) B.str (by decide +kernel) rfl) pa_nil))))))))), ?_⟩
    try dsimp only [cxOf, Cx.nox]
    have ht : SqT K H p [.int a, tx g, tx c] := st_of hp
    refine Go.at (g_when (b := !true || !decide ((([V.int a, tx g, tx c] : List V).length : Int) = 3)) (et_or (et_not (et_B (ev_cb (ea_cons (ev_var rfl) (ea_cons ev_c ea_nil)) (isi_tup hp (by decide +kernel))))) fun _ => ?_) (fun hb => ?_) fun _ => ?_)
    · exact et_test (ev_op (ev_cb (ea_cons (ev_var rfl) ea_nil) (rc_lenU ht)) ev_c rv_neI)
    · exact absurd hb (by simp)
    · refine g_ret (v := .bl (true && (true && true))) (ev_andV (ev_call (ea_cons (ev_op (ev_var rfl) ev_c (rv_ixT (xs := [.int a, tx g, tx c]) (i := 0) ht rfl)) ea_nil) spv_whole) fun _ => ev_andV ?_ fun _ => ?_) q
      · exact ev_cb (ea_cons (ev_op (ev_var rfl) ev_c (rv_ixT (xs := [.int a, tx g, tx c]) (i := 1) ht rfl)) (ea_cons ev_c ea_nil)) (isi_str (by decide +kernel))
      · exact ev_cb (ea_cons (ev_op (ev_var rfl) ev_c (rv_ixT (xs := [.int a, tx g, tx c]) (i := 2) ht rfl)) (ea_cons ev_c ea_nil)) (isi_str (by decide +kernel))
theorem ok_next {f : Addr} {fd : FuncData} (F : Fun K "_law_next_text" "_law_next_text" s__law_next_text f fd) (B : Bt mg) {f1 f2 : Addr} {fd1 fd2 : FuncData} (C__law_sign_by : Cal P w K mg base CX0 1 "_law_sign_by" ["_law_cell"] spSign f1 fd1) (C__law_text_by : Cal P w K mg base CX0 2 "_law_text_by" ["_law_cell", "_law_size"] spText f2 fd2) : FnOk P w K mg base CX0 3 f fd ["_law_old", "_law_cell"] spNext := by
  refine F.ok sc__law_next_text (fun vs H Q E h => ?_) (fun cdv A outer s H vs Q E hr h => ?_)
  · obtain ⟨o, c, rfl, _⟩ := h
    rfl
  · obtain ⟨o, c, rfl, hl, q⟩ := h
    refine ⟨_, (pss_cons (ps_set (i := 2) sc__law_next_text.nd rfl (Or.inl rfl) (pe_op op_mod (pv 1) pe_int))
  (pss_cons (ps_set (i := 3) sc__law_next_text.nd rfl (Or.inl rfl) (pe_op op_mod (pe_op op_fdiv (pv 1) pe_int) (pe_op op_add (pe_callB call_len_str (by rfl) B.len PySem.boot_len (pa_cons (pv 0) pa_nil)) pe_int)))
  (pss_cons (ps_set (i := 4) sc__law_next_text.nd rfl (Or.inl rfl) (pe_op op_fdiv (pe_op op_fdiv (pv 1) pe_int) (pe_op op_add (pe_callB call_len_str (by rfl) B.len PySem.boot_len (pa_cons (pv 0) pa_nil)) pe_int)))
  (pss_cons (ps_if (pt_cmpR op_eq (pv 2) pe_int (nomark _)) (pss_one (ps_ret (pv 0))) pss_nil)
  (pss_cons (ps_if (pt_cmpR op_eq (pv 2) pe_int (nomark _)) (pss_one (ps_ret (pe_op op_add_str (pe_op op_add_str (pe_op op_add_str (pe_slice sl_str (pv 0) po_none (po_some (pv 3))) (pe_cal C__law_sign_by (hr.mono (by decide)) (pa_cons (pv 4) pa_nil))) (pe_cal C__law_sign_by (hr.mono (by decide)) (pa_cons (pe_op op_fdiv (pv 4) pe_int) pa_nil))) (pe_slice sl_str (pv 0) (po_some (pv 3)) po_none)))) pss_nil)
  (pss_cons (ps_if (pt_cmpR op_eq (pv 2) pe_int (nomark _)) (pss_one (ps_ret (pe_op op_add_str (pe_slice sl_str (pv 0) po_none (po_some (pv 3))) (pe_slice sl_str (pv 0) (po_some (pe_op op_add (pe_op op_add (pv 3) pe_int) (pe_op op_mod (pv 4) pe_int))) po_none)))) pss_nil)
  (pss_cons (ps_if (pt_cmpR op_eq (pv 2) pe_int (nomark _)) (pss_one (ps_ret (pe_op op_add_str (pe_op op_add_str (pe_slice sl_str (pv 0) po_none (po_some (pv 3))) (pe_cal C__law_sign_by (hr.mono (by decide)) (pa_cons (pv 4) pa_nil))) (pe_slice sl_str (pv 0) (po_some (pe_op op_add (pv 3) pe_int)) po_none)))) pss_nil)
  (pss_one (ps_ret (pe_cal C__law_text_by (hr.mono (by decide)) (pa_cons (pv 4) (pa_cons (pe_op op_mod (pv 4) pe_int) pa_nil)))))))))))), ?_⟩
    try dsimp only [cxOf, Cx.nox]
    refine Go.at ?_
    walk_at "s0"
    refine g_asg (v := .int (c % 5)) (by walk_at "ev") ?_
    walk_at "sg"
    refine g_asg (v := .int (c / 5 % ((o.length : Int) + 1))) (by walk_at "ev") ?_
    walk_at "sg"
    refine g_asg (v := .int (c / 5 / ((o.length : Int) + 1))) (by walk_at "ev") ?_
    walk_at "sg"
    have h0 := Int.emod_nonneg (c / 5) (show (o.length : Int) + 1 ≠ 0 by omega)
    have h1 := Int.emod_lt_of_pos (c / 5) (show (0 : Int) < (o.length : Int) + 1 by omega)
    have h3 := Int.emod_nonneg (c / 5 / ((o.length : Int) + 1)) (show (3 : Int) ≠ 0 by decide)
    have h9 := Int.emod_nonneg (c / 5 / ((o.length : Int) + 1)) (show (9 : Int) ≠ 0 by decide)
    have h9' := Int.emod_lt_of_pos (c / 5 / ((o.length : Int) + 1)) (show (0 : Int) < 9 by decide)
    unfold nextL at q
    generalize c / 5 % ((o.length : Int) + 1) = pt at h0 h1 q ⊢
    generalize c / 5 / ((o.length : Int) + 1) = le at h3 h9 h9' q ⊢
    have t1 := cutL_to (l := o) h0
    have t2 := cutL_from (l := o) h0
    have l1 := cutL_len o none (some pt)
    refine g_when (b := decide (c % 5 = 0)) (by walk_at "et") (fun hb => ?_) fun hb => ?_
    · rw [if_pos (of_decide_eq_true hb)] at q
      exact g_ret (ev_var rfl) q
    rw [if_neg (of_decide_eq_false hb)] at q
    refine g_when (b := decide (c % 5 = 1)) (by walk_at "et") (fun hb => ?_) fun hb => ?_
    · rw [if_pos (of_decide_eq_true hb), ← t1, ← t2] at q
      have l2 := cutL_len o (some pt) none
      refine g_ret (ev_op (ev_op (ev_op (ev_sl (ev_var rfl) eo_none (eo_some (ev_var rfl)) (by omega)) (ev_call (by walk_at "ea") spv_sign) (rv_addT (by simp; omega))) (ev_call (by walk_at "ea") spv_sign) (rv_addT (by simp; omega))) (ev_sl (ev_var rfl) (eo_some (ev_var rfl)) eo_none (by omega)) (rv_addT (by simp; omega))) q
    rw [if_neg (of_decide_eq_false hb)] at q
    refine g_when (b := decide (c % 5 = 2)) (by walk_at "et") (fun hb => ?_) fun hb => ?_
    · rw [if_pos (of_decide_eq_true hb), ← t1, ← cutL_from (l := o) (i := pt + 1 + le % 3) (by omega)] at q
      have l2 := cutL_len o (some (pt + 1 + le % 3)) none
      refine g_ret (ev_op (ev_sl (ev_var rfl) eo_none (eo_some (ev_var rfl)) (by omega)) (ev_sl (ev_var rfl) (eo_some (by walk_at "ev")) eo_none (by omega)) (rv_addT (by omega))) q
    rw [if_neg (of_decide_eq_false hb)] at q
    refine g_when (b := decide (c % 5 = 3)) (by walk_at "et") (fun hb => ?_) fun hb => ?_
    · rw [if_pos (of_decide_eq_true hb), ← t1, ← cutL_from (l := o) (i := pt + 1) (by omega)] at q
      have l2 := cutL_len o (some (pt + 1)) none
      refine g_ret (ev_op (ev_op (ev_sl (ev_var rfl) eo_none (eo_some (ev_var rfl)) (by omega)) (ev_call (by walk_at "ea") spv_sign) (rv_addT (by simp; omega))) (ev_sl (ev_var rfl) (eo_some (by walk_at "ev")) eo_none (by omega)) (rv_addT (by simp; omega))) q
    rw [if_neg (of_decide_eq_false hb)] at q
    exact g_ret (ev_call (by walk_at "ea") (spv_text h9 (by omega))) q
theorem ok_turns {f : Addr} {fd : FuncData} (F : Fun K "_law_by_turns" "_law_by_turns" s__law_by_turns f fd) (B : Bt mg) {f1 : Addr} {fd1 : FuncData} (C__law_sign_by : Cal P w K mg base CX0 1 "_law_sign_by" ["_law_cell"] spSign f1 fd1) : FnOk P w K mg base CX0 2 f fd ["_law_cell", "_law_size"] spTurns := by
  refine F.ok sc__law_by_turns (fun vs H Q E h => ?_) (fun cdv A outer s H vs Q E hr h => ?_)
  · obtain ⟨c, n, rfl, _⟩ := h
    rfl
  · obtain ⟨c, n, rfl, h0, h1, q⟩ := h
    refine ⟨_, (pss_cons (ps_set (i := 2) sc__law_by_turns.nd rfl (Or.inr rfl) (pe_op op_add pe_int (pe_op op_mod (pv 0) pe_int)))
  (pss_one (ps_ret (pe_join pe_str (pe_lc (own := [("_law_k", 3)]) (g := gName 3) (by rfl) sc__law_by_turns.nd (pi_range1 (by rfl) B.range (pa_cons (pv 1) pa_nil)) (blkOk_by (own := [("_law_k", 3)]) (N := ["_law_cell", "_law_size", "_law_many", "_law_k"]) (sc := defScope s__law_by_turns) (by decide +kernel)) (fun _ _ _ _ _ => (pg_name (i := 3) sc__law_by_turns.nd rfl (Or.inl rfl))) (fun _ _ _ _ _ => pts_nil) (fun _ _ _ _ _ => (pe_cal C__law_sign_by (hr.mono (by decide)) (pa_cons (pe_op op_add (pe_op op_fdiv (pv 0) pe_int) (pe_op op_mod (pv 3) (pv 2))) pa_nil)))))))), ?_⟩
    try dsimp only [cxOf, Cx.nox]
    have hm : 0 ≤ c % 3 ∧ c % 3 < 3 := ⟨Int.emod_nonneg c (by decide), Int.emod_lt_of_pos c (by decide)⟩
    refine Go.at ?_
    walk_at "s0"
    refine g_asg (v := .int (1 + c % 3)) (by walk_at "ev") ?_
    walk_at "sg"
    refine g_ret (v := tx (turnsL c n.toNat)) ?_ q
    have e1 : turnsL c n.toNat = ((List.range n.toNat).map fun (k : Nat) => [sgn (c / 3 + (k : Int) % (1 + c % 3))]).flatten := (flat_one _ _).symm
    rw [e1]
    refine ev_join0 (ev_is ev_c (congrArg V.str (by decide +kernel))) ?_ (by rw [← e1, turnsL_len]; omega)
    rw [List.map_map, ← given_all]
    refine el_lcR1 (fun _ => true) _ (ea_cons (ev_var rfl) ea_nil) (by omega) (fun x => rfl) (fun i H1 e hi => et_yes) fun i H1 e hi _ => ?_
    refine ev_call (vs := [.int (c / 3 + (i : Int) % (1 + c % 3))]) ?_ spv_sign
    walk_at "ea"
theorem ok_alike {f : Addr} {fd : FuncData} (F : Fun K "_alike" "_alike" s__alike f fd) (B : Bt mg) : FnOk P w K mg base CX0 1 f fd ["one", "other"] (spAlike K) := by
  refine F.ok sc__alike (fun vs H Q E h => ?_) (fun cdv A outer s H vs Q E hr h => ?_)
  · obtain ⟨x, y, rfl, _⟩ := h
    rfl
  · obtain ⟨x, y, rfl, l1, l2, q⟩ := h
    refine ⟨_, (pss_cons (ps_for PassesOwn.never rfl (pi_ez (by rfl) B.enumerate (by rfl) B.zip (pa_cons (pv 0) (pa_cons (pv 1) pa_nil))) (pg_tup rfl (pgs_cons (pg_name (i := 2) sc__alike.nd rfl (Or.inl rfl)) (pgs_cons (pg_tup rfl (pgs_cons (pg_name (i := 3) sc__alike.nd rfl (Or.inl rfl)) (pgs_cons (pg_name (i := 4) sc__alike.nd rfl (Or.inl rfl)) pgs_nil))) pgs_nil)))
   (pss_one (ps_if (pt_cmpR op_ne (pv 3) (pv 4) (nomark _)) (pss_one (ps_ret (pv 2))) pss_nil)))
  (pss_one (ps_ret (pe_callB (call_min2 rfl) (by rfl) B.min (by decide +kernel) (pa_cons (pe_callB call_len_str (by rfl) B.len PySem.boot_len (pa_cons (pv 0) pa_nil)) (pa_cons (pe_callB call_len_str (by rfl) B.len PySem.boot_len (pa_cons (pv 1) pa_nil)) pa_nil)))))), ?_⟩
    try dsimp only [cxOf, Cx.nox]
    refine ⟨_, rfl, _, rfl, _, _, rfl, ?_⟩
    have en : min (⟨x.toArray⟩ : Str).cps.size (⟨y.toArray⟩ : Str).cps.size = min x.length y.length := by simp
    refine for_it walk_ez (fun i σ' H' => Ex H H' ∧ x.take i = y.take i ∧ ∃ a b c : Option V, σ' = [some (tx x), some (tx y), a, b, c]) ⟨Ex.refl H, by simp, none, none, none, rfl⟩ (fun _ _ _ _ _ => trivial) ?_ ?_
    · rintro i v σ' H' H'' hi ⟨e1, ht, a, b, c, rfl⟩ ⟨T, P, cx, cy, rfl, hT, hP, ne, rfl, hx, hy⟩
      have e2 : Ex H' (upd (upd H' T (.tup [.str ⟨#[cx]⟩, .str ⟨#[cy]⟩])) P (.tup [.int (i : Nat), .ref T])) := (Ex.new hT).trans (Ex.new (by rw [upd_ne (Ne.symm ne)]; exact hP))
      have e := e1.trans e2
      have hx' : x[i]? = some cx := by simpa using hx
      have hy' : y[i]? = some cy := by simpa using hy
      refine ⟨P, [.int (i : Nat), .ref T], rfl, SqT.of upd_same, rfl, _, _, rfl, _, _, rfl, ⟨T, [.str ⟨#[cx]⟩, .str ⟨#[cy]⟩], rfl, SqT.of (by rw [upd_ne ne]; exact upd_same), rfl, _, _, rfl, _, _, rfl, rfl, rfl, ?_⟩⟩
      walk_at "sg"
      refine ⟨_, rfl, _, rfl, rfl, _, rfl, ?_⟩
      have ed : decide (V.str ⟨#[cx]⟩ = V.str ⟨#[cy]⟩) = decide (cx = cy) := by
        have : (V.str ⟨#[cx]⟩ = V.str ⟨#[cy]⟩) = (cx = cy) := by simp
        simp only [this]
      rw [ed]
      by_cases hc : cx = cy
      · rw [decide_eq_true hc]
        refine iteF ?_
        exact ⟨e, by rw [take_more hx', take_more hy', ht, hc], _, _, _, rfl⟩
      · rw [decide_eq_false hc]
        refine iteT ?_
        refine ⟨_, rfl, ?_⟩
        have z := alike_at ht hx' hy' hc
        have g := q _ e
        rw [z] at g
        exact g
    · rintro σ' H' ⟨e1, ht, a, b, c, rfl⟩
      rw [en] at ht
      have z := alike_all ht
      have g := q
      rw [z, show ((min x.length y.length : Nat) : Int) = min (x.length : Int) (y.length : Int) by omega] at g
      dsimp only
      refine go_at ?_ e1
      exact g_ret (v := .int (min (x.length : Int) (y.length : Int))) (by walk_at "ev") g
theorem ok_changeof {f : Addr} {fd : FuncData} (F : Fun K "change_of" "change_of" s_change_of f fd) (B : Bt mg) {f1 : Addr} {fd1 : FuncData} (C__alike : Cal P w K mg base CX0 1 "_alike" ["one", "other"] (spAlike K) f1 fd1) : FnOk P w K mg base CX0 2 f fd ["old", "new"] (spChangeOf K) := by
  refine F.ok sc_change_of (fun vs H Q E h => ?_) (fun cdv A outer s H vs Q E hr h => ?_)
  · obtain ⟨x, y, rfl, _⟩ := h
    rfl
  · obtain ⟨x, y, rfl, l1, l2, q⟩ := h
    refine ⟨_, (pss_cons (ps_set (i := 2) sc_change_of.nd rfl (Or.inl rfl) (pe_cal C__alike (hr.mono (by decide)) (pa_cons (pv 0) (pa_cons (pv 1) pa_nil))))
  (pss_cons (ps_set (i := 3) sc_change_of.nd rfl (Or.inl rfl) (pe_cal C__alike (hr.mono (by decide)) (pa_cons (pe_revS (pe_slice sl_str (pv 0) (po_some (pv 2)) po_none)) (pa_cons (pe_revS (pe_slice sl_str (pv 1) (po_some (pv 2)) po_none)) pa_nil))))
  (pss_one (ps_ret (pe_tup (pa_cons (pv 2) (pa_cons (pe_slice sl_str (pv 0) (po_some (pv 2)) (po_some (pe_op op_sub (pe_callB call_len_str (by rfl) B.len PySem.boot_len (pa_cons (pv 0) pa_nil)) (pv 3)))) (pa_cons (pe_slice sl_str (pv 1) (po_some (pv 2)) (po_some (pe_op op_sub (pe_callB call_len_str (by rfl) B.len PySem.boot_len (pa_cons (pv 1) pa_nil)) (pv 3)))) pa_nil)))))))), ?_⟩
    try dsimp only [cxOf, Cx.nox]
    refine Go.at ?_
    walk_at "s0"
    have ha := alike_le x y
    have hl := left_le x y
    have c1 := cutL_from (l := x) (i := (alikeL x y : Int)) (by omega)
    have c2 := cutL_from (l := y) (i := (alikeL x y : Int)) (by omega)
    rw [Int.toNat_natCast] at c1 c2
    refine g_asg (v := .int (alikeL x y)) (ev_call (ea_cons (ev_var rfl) (ea_cons (ev_var rfl) ea_nil)) (spv_alike (by omega) (by omega))) ?_
    walk_at "sg"
    refine g_asg (v := .int (leftL x y)) ?_ ?_
    · unfold leftL
      rw [← c1, ← c2]
      have z1 := cutL_len x (some (alikeL x y : Int)) none
      have z2 := cutL_len y (some (alikeL x y : Int)) none
      exact ev_call (ea_cons (ev_rev (ev_sl (ev_var rfl) (eo_some (ev_var rfl)) eo_none (by omega)) (by omega)) (ea_cons (ev_rev (ev_sl (ev_var rfl) (eo_some (ev_var rfl)) eo_none (by omega)) (by omega)) ea_nil)) (spv_alike (by rw [List.length_reverse]; omega) (by rw [List.length_reverse]; omega))
    walk_at "sg"
    have d1 := cutL_mid (l := x) (i := (alikeL x y : Int)) (j := (x.length : Int) - (leftL x y : Int)) (by omega) (by omega)
    have d2 := cutL_mid (l := y) (i := (alikeL x y : Int)) (j := (y.length : Int) - (leftL x y : Int)) (by omega) (by omega)
    rw [show ((x.length : Int) - (leftL x y : Int)).toNat = x.length - leftL x y by omega, Int.toNat_natCast] at d1
    rw [show ((y.length : Int) - (leftL x y : Int)).toNat = y.length - leftL x y by omega, Int.toNat_natCast] at d2
    unfold goneL at q
    rw [← d1, ← d2] at q
    refine g_retU (eu_tup (ea_cons (ev_var rfl) (ea_cons ?_ (ea_cons ?_ ea_nil))) (by simp)) q
    · exact ev_sl (ev_var rfl) (eo_some (ev_var rfl)) (eo_some (by walk_at "ev")) (by omega)
    · exact ev_sl (ev_var rfl) (eo_some (ev_var rfl)) (eo_some (by walk_at "ev")) (by omega)
theorem ok_leftby {f : Addr} {fd : FuncData} (F : Fun K "_law_left_by" "_law_left_by" s__law_left_by f fd) (B : Bt mg) : FnOk P w K mg base CX0 1 f fd ["_law_old", "_law_new"] spLeftBy := by
  refine F.ok sc__law_left_by (fun vs H Q E h => ?_) (fun cdv A outer s H vs Q E hr h => ?_)
  · obtain ⟨x, y, rfl, _⟩ := h
    rfl
  · obtain ⟨x, y, rfl, l1, l2, q⟩ := h
    refine ⟨_, (pss_cons (ps_set (i := 2) sc__law_left_by.nd rfl (Or.inl rfl) pe_int)
  (pss_cons (ps_set (i := 3) sc__law_left_by.nd rfl (Or.inl rfl) (pe_callB (call_min2 rfl) (by rfl) B.min (by decide +kernel) (pa_cons (pe_callB call_len_str (by rfl) B.len PySem.boot_len (pa_cons (pv 0) pa_nil)) (pa_cons (pe_callB call_len_str (by rfl) B.len PySem.boot_len (pa_cons (pv 1) pa_nil)) pa_nil))))
  (pss_cons (ps_set (i := 4) sc__law_left_by.nd rfl (Or.inl rfl) pe_int)
  (pss_cons (ps_while PassesOwn.never (PW.pt (pw_and (pt_cmpR op_le (pv 4) (pv 3) (nomark _)) (pw_and1 (pt_cmpR op_eq (pe_slice sl_str (pv 0) po_none (po_some (pv 4))) (pe_slice sl_str (pv 1) po_none (po_some (pv 4))) (nomark _)))))
   (pss_cons (ps_set (i := 5) sc__law_left_by.nd rfl (Or.inl rfl) pe_int)
  (pss_cons (ps_while PassesOwn.never (PW.pt (pw_and (pt_cmpR op_le (pe_op op_add (pv 4) (pv 5)) (pv 3) (nomark _)) (pw_and1 (pt_cmpR op_eq (pe_slice sl_str (pv 0) (po_some (pe_op op_sub (pe_callB call_len_str (by rfl) B.len PySem.boot_len (pa_cons (pv 0) pa_nil)) (pv 5))) po_none) (pe_slice sl_str (pv 1) (po_some (pe_op op_sub (pe_callB call_len_str (by rfl) B.len PySem.boot_len (pa_cons (pv 1) pa_nil)) (pv 5))) po_none) (nomark _)))))
   (pss_cons (ps_set (i := 2) sc__law_left_by.nd rfl (Or.inl rfl) (pe_callB (call_max2 rfl) (by rfl) B.max (by decide +kernel) (pa_cons (pv 2) (pa_cons (pe_op op_add (pv 4) (pv 5)) pa_nil))))
  (pss_one (ps_set (i := 5) sc__law_left_by.nd rfl (Or.inl rfl) (pe_op op_add (pv 5) pe_int)))))
  (pss_one (ps_set (i := 4) sc__law_left_by.nd rfl (Or.inl rfl) (pe_op op_add (pv 4) pe_int))))))
  (pss_one (ps_ret (pv 2))))))), ?_⟩
    try dsimp only [cxOf, Cx.nox]
    rw [left_is] at q
    have hA := alike_iff x y
    have hE := end_iff x y
    have ha := alike_le x y
    have he : endL x y ≤ x.length ∧ endL x y ≤ y.length := by
      have := (hE (endL x y)).mp (Nat.le_refl _)
      exact ⟨this.1, this.2.1⟩
    generalize alikeL x y = a at hA ha q
    generalize endL x y = b at hE he q
    obtain ⟨m, hm⟩ : ∃ m, m = min x.length y.length := ⟨_, rfl⟩
    rw [← hm] at q
    refine Go.at ?_
    walk_at "s0"
    refine g_asg (v := .int 0) (by walk_at "ev") ?_
    walk_at "sg"
    refine g_asg (v := .int (m : Int)) (ev_is (v := .int (min (x.length : Int) (y.length : Int))) (by walk_at "ev") (by congr 1; omega)) ?_
    walk_at "sg"
    refine g_asg (v := .int 0) (by walk_at "ev") ?_
    walk_at "sg"
    refine g_while (fun k σ' => ∃ (p M : Nat) (v : Option V), σ' = [some (tx x), some (tx y), some (.int (M : Int)), some (.int (m : Int)), some (.int (p : Int)), v] ∧ k + p = m + 2 ∧ p ≤ a + 1 ∧ M = (if p = 0 then 0 else min (p - 1 + b) m)) (m + 2) ⟨0, 0, none, rfl, by omega, by omega, by simp⟩ ?_
    rintro k σ' ⟨p, M, v, rfl, hk, hp, hM⟩
    have ct1 := cutL_to (l := x) (i := (p : Int)) (by omega)
    have ct2 := cutL_to (l := y) (i := (p : Int)) (by omega)
    rw [Int.toNat_natCast] at ct1 ct2
    refine ⟨decide ((p : Int) ≤ (m : Int)) && decide (cutL x none (some (p : Int)) = cutL y none (some (p : Int))), et_and (by walk_at "et") fun _ => by walk_at "et", fun hb => ?_, fun hb => ?_⟩
    · have hb : p ≤ m ∧ cutL x none (some (p : Int)) = cutL y none (some (p : Int)) := by
        rw [Bool.and_eq_true, decide_eq_true_iff, decide_eq_true_iff] at hb
        exact ⟨by omega, hb.2⟩
      have hpa : p ≤ a := (hA p).mpr ⟨by omega, by omega, by rw [← ct1, ← ct2]; exact hb.2⟩
      refine g_asg (v := .int 0) (by walk_at "ev") ?_
      walk_at "sg"
      refine g_while (fun j σ' => ∃ (s M2 : Nat), σ' = [some (tx x), some (tx y), some (.int (M2 : Int)), some (.int (m : Int)), some (.int (p : Int)), some (.int (s : Int))] ∧ j + s = m + 2 ∧ s ≤ min b (m - p) + 1 ∧ M2 = (if s = 0 then M else max M (p + s - 1))) (m + 2) ⟨0, M, rfl, by omega, by omega, by simp⟩ ?_
      rintro j σ' ⟨s, M2, rfl, hj, hs, hM2⟩
      have lx : (s : Int) ≤ (x.length : Int) → cutL x (some ((x.length : Int) - (s : Int))) none = x.drop (x.length - s) := fun h => by
        rw [cutL_from (by omega)]
        congr 1
        omega
      have ly : (s : Int) ≤ (y.length : Int) → cutL y (some ((y.length : Int) - (s : Int))) none = y.drop (y.length - s) := fun h => by
        rw [cutL_from (by omega)]
        congr 1
        omega
      refine ⟨decide ((p : Int) + (s : Int) ≤ (m : Int)) && decide (cutL x (some ((x.length : Int) - (s : Int))) none = cutL y (some ((y.length : Int) - (s : Int))) none), et_and (by walk_at "et") fun _ => by walk_at "et", fun hb => ?_, fun hb => ?_⟩
      · have hb : p + s ≤ m ∧ cutL x (some ((x.length : Int) - (s : Int))) none = cutL y (some ((y.length : Int) - (s : Int))) none := by
          rw [Bool.and_eq_true, decide_eq_true_iff, decide_eq_true_iff] at hb
          exact ⟨by omega, hb.2⟩
        have hsb : s ≤ b := (hE s).mpr ⟨by omega, by omega, by rw [← lx (by omega), ← ly (by omega)]; exact hb.2⟩
        refine g_asg (v := .int (max (M2 : Int) ((p : Int) + (s : Int)))) (by walk_at "ev") ?_
        walk_at "sg"
        refine g_asg1 (v := .int ((s : Int) + 1)) (by walk_at "ev") fun H1 e1 => ⟨e1, j - 1, by omega, s + 1, max M2 (p + s), ?_, by omega, by omega, ?_⟩
        · simp only [List.set_cons_zero, List.set_cons_succ]
          have z1 : max (M2 : Int) ((p : Int) + (s : Int)) = ((max M2 (p + s) : Nat) : Int) := by omega
          have z2 : (s : Int) + 1 = ((s + 1 : Nat) : Int) := by omega
          rw [z1, z2]
        · rw [if_neg (by omega), hM2]
          split <;> omega
      · -- the inner loop is through: s = min b (m - p) + 1
        have hs2 : s = min b (m - p) + 1 := by
          by_cases c : s ≤ min b (m - p)
          · exfalso
            have h1 := (hE s).mp (by omega)
            rw [decide_eq_true (by omega), lx (by omega), ly (by omega), decide_eq_true h1.2.2] at hb
            cases hb
          · omega
        refine g_asg1 (v := .int ((p : Int) + 1)) (by walk_at "ev") fun H1 e1 => ⟨e1, k - 1, by omega, p + 1, M2, some (.int (s : Int)), ?_, by omega, by omega, ?_⟩
        · simp only [List.set_cons_zero, List.set_cons_succ]
          have z2 : (p : Int) + 1 = ((p + 1 : Nat) : Int) := by omega
          rw [z2]
        · rw [if_neg (by omega), hM2, if_neg (by omega), hM]
          split <;> omega
    · have hp2 : p = a + 1 := by
        by_cases c : p ≤ a
        · exfalso
          have h1 := (hA p).mp c
          rw [decide_eq_true (by omega), ct1, ct2, decide_eq_true h1.2.2] at hb
          cases hb
        · omega
      refine g_ret (v := .int (M : Int)) (by walk_at "ev") ?_
      have z : M = min (a + b) m := by
        rw [hM, if_neg (by omega)]
        congr 1
        omega
      rw [z]
      exact q
theorem ok_leads {f : Addr} {fd : FuncData} (F : Fun K "_law_leads" "_law_leads" s__law_leads f fd) (B : Bt mg) : FnOk P w K mg base CX0 1 f fd ["_law_old", "_law_new", "_law_found"] (spLeads K) := by
  refine F.ok sc__law_leads (fun vs H Q E h => ?_) (fun cdv A outer s H vs Q E hr h => ?_)
  · obtain ⟨x, y, p, rfl, _⟩ := h
    rfl
  · obtain ⟨x, y, p, rfl, l1, l2, hp, q⟩ := h
    refine ⟨_, (pss_cons (ps_set (i := 3) sc__law_leads.nd rfl (Or.inl rfl) (pe_ix ix_tup (pv 2) pe_int (fun _ _ => rfl)))
  (pss_cons (ps_set (i := 4) sc__law_leads.nd rfl (Or.inl rfl) (pe_ix ix_tup (pv 2) pe_int (fun _ _ => rfl)))
  (pss_cons (ps_set (i := 5) sc__law_leads.nd rfl (Or.inl rfl) (pe_ix ix_tup (pv 2) pe_int (fun _ _ => rfl)))
  (pss_cons (ps_if (PW.pt (pw_or (pt_cmpR op_lt (pv 3) pe_int (nomark _)) (pw_or (pt_cmpR op_gt (pe_op op_add (pv 3) (pe_callB call_len_str (by rfl) B.len PySem.boot_len (pa_cons (pv 4) pa_nil))) (pe_callB call_len_str (by rfl) B.len PySem.boot_len (pa_cons (pv 0) pa_nil)) (nomark _)) (pw_or1 (pt_cmpR op_ne (pe_slice sl_str (pv 0) (po_some (pv 3)) (po_some (pe_op op_add (pv 3) (pe_callB call_len_str (by rfl) B.len PySem.boot_len (pa_cons (pv 4) pa_nil))))) (pv 4) (nomark _)))))) (pss_one (ps_ret pe_bl)) pss_nil)
  (pss_cons (ps_if (pt_cmpR op_ne (pe_op op_add_str (pe_op op_add_str (pe_slice sl_str (pv 0) po_none (po_some (pv 3))) (pv 5)) (pe_slice sl_str (pv 0) (po_some (pe_op op_add (pv 3) (pe_callB call_len_str (by rfl) B.len PySem.boot_len (pa_cons (pv 4) pa_nil)))) po_none)) (pv 1) (nomark _)) (pss_one (ps_ret pe_bl)) pss_nil)
  (pss_cons (ps_if (PW.pt (pw_and (pt_cmpR op_lt (pv 3) (pe_callB (call_min2 rfl) (by rfl) B.min (by decide +kernel) (pa_cons (pe_callB call_len_str (by rfl) B.len PySem.boot_len (pa_cons (pv 0) pa_nil)) (pa_cons (pe_callB call_len_str (by rfl) B.len PySem.boot_len (pa_cons (pv 1) pa_nil)) pa_nil))) (nomark _)) (pw_and1 (pt_cmpR op_eq (pe_ix ix_str (pv 0) (pv 3) (fun _ _ => rfl)) (pe_ix ix_str (pv 1) (pv 3) (fun _ _ => rfl)) (nomark _))))) (pss_one (ps_ret pe_bl)) pss_nil)
  (pss_one (ps_ret (pe_or (pe_cmpR op_eq (pv 4) pe_str (nomark _)) (pe_or (pe_cmpR op_eq (pv 5) pe_str (nomark _)) (pe_one (pe_cmpR op_ne (pe_ix ix_str (pv 4) (pe_un un_neg pe_int) (fun _ _ => rfl)) (pe_ix ix_str (pv 5) (pe_un un_neg pe_int) (fun _ _ => rfl)) (nomark _))))))))))))), ?_⟩
    try dsimp only [cxOf, Cx.nox]
    have ha := alike_le x y
    have hl := left_le x y
    have cl := change_leads x y
    have hn := @alike_ne x y
    have la := last_ne x y
    have lc : ((y.drop (alikeL x y)).take (y.length - leftL x y - alikeL x y)).length ≤ y.length := by rw [List.length_take, List.length_drop]; omega
    have ht : SqT K H p [.int (alikeL x y), tx (goneL x y), tx ((y.drop (alikeL x y)).take (y.length - leftL x y - alikeL x y))] := st_of hp
    generalize goneL x y = g at hp cl la ht
    generalize (y.drop (alikeL x y)).take (y.length - leftL x y - alikeL x y) = c at hp cl la ht lc
    generalize alikeL x y = a at ha hl cl hp ht hn
    have lg : g.length ≤ x.length := by omega
    refine Go.at ?_
    walk_at "s0"
    refine g_asg (v := .int a) (ev_op (ev_var rfl) ev_c (rv_ixT (i := 0) ht rfl)) ?_
    walk_at "sg"
    refine g_asg (v := tx g) (ev_op (ev_var rfl) ev_c (rv_ixT (i := 1) ht rfl)) ?_
    walk_at "sg"
    refine g_asg (v := tx c) (ev_op (ev_var rfl) ev_c (rv_ixT (i := 2) ht rfl)) ?_
    walk_at "sg"
    have c1 : cutL x (some (a : Int)) (some ((a : Int) + (g.length : Int))) = g := by
      rw [cutL_mid (by omega) (by omega), Int.toNat_natCast, show ((a : Int) + (g.length : Int)).toNat - a = g.length by omega]
      exact cl.2.2
    have c2 : cutL x none (some (a : Int)) = x.take a := by rw [cutL_to (by omega), Int.toNat_natCast]
    have c3 : cutL x (some ((a : Int) + (g.length : Int))) none = x.drop (a + g.length) := by
      rw [cutL_from (by omega)]
      congr 1
    refine g_when (b := decide ((a : Int) < 0) || (decide ((x.length : Int) < (a : Int) + (g.length : Int)) || !decide (cutL x (some (a : Int)) (some ((a : Int) + (g.length : Int))) = g))) ?_ (fun hb => ?_) fun _ => ?_
    · refine et_or (by walk_at "et") fun _ => et_or (by walk_at "et") fun _ => ?_
      exact et_test (ev_op (ev_sl (ev_var rfl) (eo_some (ev_var rfl)) (eo_some (by walk_at "ev")) (by omega)) (ev_var rfl) rv_neT)
    · exfalso
      rw [decide_eq_false (by omega), decide_eq_false (by omega), decide_eq_true c1] at hb
      cases hb
    refine g_when (b := !decide (cutL x none (some (a : Int)) ++ c ++ cutL x (some ((a : Int) + (g.length : Int))) none = y)) ?_ (fun hb => ?_) fun _ => ?_
    · have z1 := cutL_len x none (some (a : Int))
      have z2 := cutL_len x (some ((a : Int) + (g.length : Int))) none
      exact et_test (ev_op (ev_op (ev_op (ev_sl (ev_var rfl) eo_none (eo_some (ev_var rfl)) (by omega)) (ev_var rfl) (rv_addT (by omega))) (ev_sl (ev_var rfl) (eo_some (by walk_at "ev")) eo_none (by omega)) (rv_addT (by rw [List.length_append]; omega))) (ev_var rfl) rv_neT)
    · exfalso
      rw [c2, c3, decide_eq_true cl.1] at hb
      cases hb
    refine g_when (b := decide ((a : Int) < min (x.length : Int) (y.length : Int)) && false) ?_ (fun hb => ?_) fun _ => ?_
    · refine et_and (by walk_at "et") fun hb => ?_
      have hb := of_decide_eq_true hb
      have p1 : a < x.length := by omega
      have p2 : a < y.length := by omega
      have hne := hn (List.getElem?_eq_getElem p1) (List.getElem?_eq_getElem p2)
      refine et_is (a := decide ([x[a]] = [y[a]])) ?_ (decide_eq_false fun z => hne (List.cons.inj z).1)
      exact et_test (ev_op (ev_op (ev_var rfl) (ev_var rfl) (rv_ixT (by omega) (atI_nat (List.getElem?_eq_getElem p1)))) (ev_op (ev_var rfl) (ev_var rfl) (rv_ixT (by omega) (atI_nat (List.getElem?_eq_getElem p2)))) rv_eqT)
    · rw [Bool.and_false] at hb
      cases hb
    refine g_ret (v := .bl (decide (g = []) || (decide (c = []) || (if g = [] ∨ c = [] then true else true)))) ?_ ?_
    · refine ev_orV (ev_op (y := tx []) (ev_var rfl) (ev_is ev_c (congrArg V.str (by decide +kernel))) rv_eqT) fun h1 => ev_orV (ev_op (y := tx []) (ev_var rfl) (ev_is ev_c (congrArg V.str (by decide +kernel))) rv_eqT) fun h2 => ?_
      obtain ⟨u, v, q1, q2, hne⟩ := la (of_decide_eq_false h1) (of_decide_eq_false h2)
      refine ev_is (v := .bl (!decide ([u] = [v]))) ?_ (by rw [decide_eq_false fun z => hne (List.cons.inj z).1]; simp)
      exact ev_op (ev_op (y := .int (-1)) (ev_var rfl) (ev_un ev_c ru_neg) (rv_ixT (by omega) q1)) (ev_op (y := .int (-1)) (ev_var rfl) (ev_un ev_c ru_neg) (rv_ixT (by omega) q2)) rv_neT
    · have e : (decide (g = []) || (decide (c = []) || (if g = [] ∨ c = [] then true else true))) = true := by simp
      rw [e]
      exact q
theorem ok_law {f : Addr} {fd : FuncData} (F : Fun K "law" "law" s_law f fd) (B : Bt mg)
    {f1 f2 f3 f4 f5 f6 f7 f8 : Addr} {fd1 fd2 fd3 fd4 fd5 fd6 fd7 fd8 : FuncData} (C__law_cell_at : Cal P w K mg base CX0 1 "_law_cell_at" ["_law_script", "_law_k"] (spCell K) f1 fd1) (C__law_text_by : Cal P w K mg base CX0 2 "_law_text_by" ["_law_cell", "_law_size"] spText f2 fd2)
    (C__law_by_turns : Cal P w K mg base CX0 2 "_law_by_turns" ["_law_cell", "_law_size"] spTurns f3 fd3) (C__law_next_text : Cal P w K mg base CX0 3 "_law_next_text" ["_law_old", "_law_cell"] spNext f4 fd4) (C_change_of : Cal P w K mg base CX0 2 "change_of" ["old", "new"] (spChangeOf K) f5 fd5)
    (C__law_change : Cal P w K mg base CX0 2 "_law_change" ["_law_found"] (spChange K) f6 fd6) (C__law_leads : Cal P w K mg base CX0 1 "_law_leads" ["_law_old", "_law_new", "_law_found"] (spLeads K) f7 fd7) (C__law_left_by : Cal P w K mg base CX0 1 "_law_left_by" ["_law_old", "_law_new"] spLeftBy f8 fd8) : FnOk P w K mg base CX0 4 f fd ["_law_script"] (spLaw K) := by
  refine F.ok sc_law (fun vs H Q E h => ?_) (fun cdv A outer s H vs Q E hr h => ?_)
  · obtain ⟨a, ns, rfl, _⟩ := h
    rfl
  · obtain ⟨a, ns, rfl, hs, hlen, q⟩ := h
    refine ⟨_, (pss_cons (ps_set (i := 1) sc_law.nd rfl (Or.inl rfl) (pe_op op_mod (pe_cal C__law_cell_at (hr.mono (by decide)) (pa_cons (pv 0) (pa_cons pe_int pa_nil))) pe_int))
  (pss_cons (ps_if (pt_cmpR op_eq (pe_op op_mod (pe_op op_fdiv (pe_cal C__law_cell_at (hr.mono (by decide)) (pa_cons (pv 0) (pa_cons pe_int pa_nil))) pe_int) pe_int) pe_int (nomark _)) (pss_one (ps_set (i := 1) sc_law.nd rfl (Or.inl rfl) (pe_op op_mod (pe_op op_fdiv (pe_cal C__law_cell_at (hr.mono (by decide)) (pa_cons (pv 0) (pa_cons pe_int pa_nil))) pe_int) pe_int))) pss_nil)
  (pss_cons (ps_if (pt_cmpR op_eq (pe_op op_mod (pe_op op_fdiv (pe_cal C__law_cell_at (hr.mono (by decide)) (pa_cons (pv 0) (pa_cons pe_int pa_nil))) pe_int) pe_int) pe_int (nomark _)) (pss_one (ps_set (i := 1) sc_law.nd rfl (Or.inl rfl) (pe_op op_mod (pe_op op_fdiv (pe_cal C__law_cell_at (hr.mono (by decide)) (pa_cons (pv 0) (pa_cons pe_int pa_nil))) pe_int) pe_int))) pss_nil)
  (pss_cons (ps_set (i := 2) sc_law.nd rfl (Or.inl rfl) (pe_cal C__law_text_by (hr.mono (by decide)) (pa_cons (pe_cal C__law_cell_at (hr.mono (by decide)) (pa_cons (pv 0) (pa_cons pe_int pa_nil))) (pa_cons (pv 1) pa_nil))))
  (pss_cons (ps_if (pt_cmpR op_eq (pe_op op_mod (pe_cal C__law_cell_at (hr.mono (by decide)) (pa_cons (pv 0) (pa_cons pe_int pa_nil))) pe_int) pe_int (nomark _)) (pss_one (ps_set (i := 2) sc_law.nd rfl (Or.inl rfl) (pe_cal C__law_by_turns (hr.mono (by decide)) (pa_cons (pe_cal C__law_cell_at (hr.mono (by decide)) (pa_cons (pv 0) (pa_cons pe_int pa_nil))) (pa_cons (pv 1) pa_nil))))) pss_nil)
  (pss_cons (ps_set (i := 3) sc_law.nd rfl (Or.inl rfl) (pe_cal C__law_next_text (hr.mono (by decide)) (pa_cons (pv 2) (pa_cons (pe_cal C__law_cell_at (hr.mono (by decide)) (pa_cons (pv 0) (pa_cons pe_int pa_nil))) pa_nil))))
  (pss_cons (ps_if (pt_cmpR op_eq (pe_op op_mod (pe_op op_fdiv (pe_cal C__law_cell_at (hr.mono (by decide)) (pa_cons (pv 0) (pa_cons pe_int pa_nil))) pe_int) pe_int) pe_int (nomark _)) (pss_cons (ps_set (i := 4) sc_law.nd rfl (Or.inl rfl) (pv 2))
  (pss_cons (ps_set (i := 2) sc_law.nd rfl (Or.inl rfl) (pv 3))
  (pss_one (ps_set (i := 3) sc_law.nd rfl (Or.inl rfl) (pv 4))))) pss_nil)
  (pss_cons (ps_set (i := 5) sc_law.nd rfl (Or.inl rfl) (pe_cal C_change_of (hr.mono (by decide)) (pa_cons (pv 2) (pa_cons (pv 3) pa_nil))))
  (pss_cons (ps_if (PW.pt (pw_or (pt_not (pt_val (pe_cal C__law_change (hr.mono (by decide)) (pa_cons (pv 5) pa_nil)))) (pw_or1 (pt_not (pt_val (pe_cal C__law_leads (hr.mono (by decide)) (pa_cons (pv 2) (pa_cons (pv 3) (pa_cons (pv 5) pa_nil))))))))) (pss_one (ps_ret pe_bl)) pss_nil)
  (pss_cons (ps_if (pt_cmpR op_gt (pv 1) pe_int (nomark _)) (pss_one (ps_ret pe_bl)) pss_nil)
  (pss_cons (ps_set (i := 6) sc_law.nd rfl (Or.inl rfl) (pe_cal C__law_left_by (hr.mono (by decide)) (pa_cons (pv 2) (pa_cons (pv 3) pa_nil))))
  (pss_one (ps_ret (pe_and (pe_cmpR op_eq (pe_callB call_len_str (by rfl) B.len PySem.boot_len (pa_cons (pe_ix ix_tup (pv 5) pe_int (fun _ _ => rfl)) pa_nil)) (pe_op op_sub (pe_callB call_len_str (by rfl) B.len PySem.boot_len (pa_cons (pv 2) pa_nil)) (pv 6)) (nomark _)) (pe_one (pe_cmpR op_eq (pe_callB call_len_str (by rfl) B.len PySem.boot_len (pa_cons (pe_ix ix_tup (pv 5) pe_int (fun _ _ => rfl)) pa_nil)) (pe_op op_sub (pe_callB call_len_str (by rfl) B.len PySem.boot_len (pa_cons (pv 3) pa_nil)) (pv 6)) (nomark _))))))))))))))))), ?_⟩
    try dsimp only [cxOf, Cx.nox]
    refine Go.at ?_
    walk_at "s0"
    refine g_asg (v := .int (cell ns 0 % 9)) (by walk_at "ev") ?_
    walk_at "sg"
    refine g_ifI (c := cell ns 0 / 9 % 8 = 1) (y := cell ns 0 / 72 % 90) (by walk_at "et") rfl (fun _ => by walk_at "ev") fun n1 y1 y2 => ?_
    walk_at "sg"
    have b1 : 0 ≤ n1 ∧ n1 ≤ 90 := by
      by_cases c : cell ns 0 / 9 % 8 = 1
      · rw [y1 c]; omega
      · rw [y2 c]; omega
    refine g_ifI (c := cell ns 0 / 9 % 8 = 2) (y := cell ns 0 / 72 % 400) (by walk_at "et") rfl (fun _ => by walk_at "ev") fun size y3 y4 => ?_
    walk_at "sg"
    have b2 : 0 ≤ size ∧ size ≤ 399 := by
      by_cases c : cell ns 0 / 9 % 8 = 2
      · rw [y3 c]; omega
      · rw [y4 c]; omega
    clear y1 y2 y3 y4 b1
    refine g_asg (v := tx (txt (cell ns 1) size.toNat)) (by walk_at "ev") ?_
    walk_at "sg"
    refine g_ifV (c := cell ns 3 % 2 = 1) (y := tx (turnsL (cell ns 1) size.toNat)) (by walk_at "et") rfl (fun _ => by walk_at "ev") fun o y1 y2 => ?_
    walk_at "sg"
    obtain ⟨o1, eo, lo⟩ : ∃ o1, o = tx o1 ∧ o1.length = size.toNat := by
      by_cases c : cell ns 3 % 2 = 1
      · exact ⟨_, y1 c, turnsL_len _ _⟩
      · exact ⟨_, y2 c, txt_len _ _⟩
    subst eo
    clear y1 y2
    refine g_asg (v := tx (nextL o1 (cell ns 2))) (by walk_at "ev") ?_
    walk_at "sg"
    have ln := nextL_len o1 (cell ns 2)
    generalize nextL o1 (cell ns 2) = n2 at ln ⊢
    refine (fun (rest : ∀ (x y : List Nat) (kp : Option V), x.length ≤ 1000 → y.length ≤ 1000 → Go H _ _ [some (.ref a), some (.int size), some (tx x), some (tx y), kp, none, none]) => g_when (b := decide (cell ns 3 / 2 % 2 = 1)) (by walk_at "et") (fun hb => ?_) fun hb => rest o1 n2 none (by omega) (by omega)) ?_
    · refine g_asg (v := tx o1) (by walk_at "ev") ?_
      walk_at "sg"
      refine g_asg (v := tx n2) (by walk_at "ev") ?_
      walk_at "sg"
      refine g_asg1 (v := tx o1) (by walk_at "ev") fun H1 e1 => ?_
      exact rest n2 o1 (some (tx o1)) (by omega) (by omega) H1 e1
    intro x y kp lx ly
    intro H1 e1
    refine ⟨_, rfl, _, rfl, ?_⟩
    refine ⟨x, y, rfl, by omega, by omega, fun p H2 e2 _ hp => ?_⟩
    have e3 : Ex H H2 := e1.trans e2
    dsimp only [gName]
    walk_at "sg"
    refine go_at (H0 := H2) ?_ (Ex.refl H2)
    have ha := alike_le x y
    have hl := left_le x y
    have cl := change_leads x y
    have lc : ((y.drop (alikeL x y)).take (y.length - leftL x y - alikeL x y)).length = y.length - leftL x y - alikeL x y := by rw [List.length_take, List.length_drop]; omega
    refine g_when (b := !true || !true) (et_or (et_not (et_B (ev_call (ea_cons (ev_var rfl) ea_nil) (spv_change hp)))) fun _ => et_not (et_B (ev_call (ea_cons (ev_var rfl) (ea_cons (ev_var rfl) (ea_cons (ev_var rfl) ea_nil))) (spv_leads (by omega) (by omega) hp)))) (fun hb => ?_) fun _ => ?_
    · cases hb
    refine g_when (b := decide (89 < size)) (by walk_at "et") (fun _ => g_ret ev_c fun H' _ => q H') fun _ => ?_
    refine g_asg (v := .int ((alikeL x y + leftL x y : Nat) : Int)) (ev_call (ea_cons (ev_var rfl) (ea_cons (ev_var rfl) ea_nil)) (spv_leftby (by omega) (by omega))) ?_
    walk_at "sg"
    have ht : SqT K H2 p _ := st_of hp
    refine g_ret (v := .bl (decide (((goneL x y).length : Int) = (x.length : Int) - ((alikeL x y + leftL x y : Nat) : Int)) && decide ((((y.drop (alikeL x y)).take (y.length - leftL x y - alikeL x y)).length : Int) = (y.length : Int) - ((alikeL x y + leftL x y : Nat) : Int)))) ?_ ?_
    · refine ev_andV ?_ fun _ => ?_
      · exact ev_op (ev_cb (ea_cons (ev_op (ev_var rfl) ev_c (rv_ixT (i := 1) ht rfl)) ea_nil) (rc_lenT (by omega))) (by walk_at "ev") rv_eqI
      · exact ev_op (ev_cb (ea_cons (ev_op (ev_var rfl) ev_c (rv_ixT (i := 2) ht rfl)) ea_nil) (rc_lenT (by omega))) (by walk_at "ev") rv_eqI
    · rw [decide_eq_true (by omega), decide_eq_true (by omega)]
      exact fun H' _ => q H'
end
theorem all_mk {l : PySem.W.OpenLaw} {w : World} {K : PySem.W.Frag} {h : Heap} {mg : Str → Option Value} {fa : Addr} (X : K.In h) (G : h.Ns mainGlobals mg) (hfa : mg "law" = some (.ref fa))
    {f1 : Addr} {od1 an1 : Option Addr} {sl1 : Array (Option Value)} {oc1 kV1 dc1 pm1 cd1 ct1 : Value} {f2 : Addr} {od2 an2 : Option Addr} {sl2 : Array (Option Value)} {oc2 kV2 dc2 pm2 cd2 ct2 : Value} {f3 : Addr} {od3 an3 : Option Addr} {sl3 : Array (Option Value)} {oc3 kV3 dc3 pm3 cd3 ct3 : Value} {f4 : Addr} {od4 an4 : Option Addr} {sl4 : Array (Option Value)} {oc4 kV4 dc4 pm4 cd4 ct4 : Value} {f5 : Addr} {od5 an5 : Option Addr} {sl5 : Array (Option Value)} {oc5 kV5 dc5 pm5 cd5 ct5 : Value} {f6 : Addr} {od6 an6 : Option Addr} {sl6 : Array (Option Value)} {oc6 kV6 dc6 pm6 cd6 ct6 : Value} {f7 : Addr} {od7 an7 : Option Addr} {sl7 : Array (Option Value)} {oc7 kV7 dc7 pm7 cd7 ct7 : Value} {f8 : Addr} {od8 an8 : Option Addr} {sl8 : Array (Option Value)} {oc8 kV8 dc8 pm8 cd8 ct8 : Value} {f9 : Addr} {od9 an9 : Option Addr} {sl9 : Array (Option Value)} {oc9 kV9 dc9 pm9 cd9 ct9 : Value} {f10 : Addr} {od10 an10 : Option Addr} {sl10 : Array (Option Value)} {oc10 kV10 dc10 pm10 cd10 ct10 : Value} {f11 : Addr} {od11 an11 : Option Addr} {sl11 : Array (Option Value)} {oc11 kV11 dc11 pm11 cd11 ct11 : Value} {f12 : Addr} {od12 an12 : Option Addr} {sl12 : Array (Option Value)} {oc12 kV12 dc12 pm12 cd12 ct12 : Value}
    (a1 : PySem.W.nsIn K mainGlobals "_law_cell_at" = some (some (.ref f1)))
    (l1 : K.lookup f1 = some ⟨oc1, od1, .func (PySem.W.fnOf "_law_cell_at" "_law_cell_at" (defArgs s__law_cell_at) (defBody s__law_cell_at) (defScope s__law_cell_at) .none kV1 dc1 pm1 an1 cd1 ct1), sl1⟩)
    (c1 : PySem.W.codeIn K cd1 "_law_cell_at" = true)
    (k1 : PySem.W.keepIn K (.ref f1) = true)
    (a2 : PySem.W.nsIn K mainGlobals "_law_sign_by" = some (some (.ref f2)))
    (l2 : K.lookup f2 = some ⟨oc2, od2, .func (PySem.W.fnOf "_law_sign_by" "_law_sign_by" (defArgs s__law_sign_by) (defBody s__law_sign_by) (defScope s__law_sign_by) .none kV2 dc2 pm2 an2 cd2 ct2), sl2⟩)
    (c2 : PySem.W.codeIn K cd2 "_law_sign_by" = true)
    (k2 : PySem.W.keepIn K (.ref f2) = true)
    (a3 : PySem.W.nsIn K mainGlobals "_law_text_by" = some (some (.ref f3)))
    (l3 : K.lookup f3 = some ⟨oc3, od3, .func (PySem.W.fnOf "_law_text_by" "_law_text_by" (defArgs s__law_text_by) (defBody s__law_text_by) (defScope s__law_text_by) .none kV3 dc3 pm3 an3 cd3 ct3), sl3⟩)
    (c3 : PySem.W.codeIn K cd3 "_law_text_by" = true)
    (k3 : PySem.W.keepIn K (.ref f3) = true)
    (a4 : PySem.W.nsIn K mainGlobals "_law_whole" = some (some (.ref f4)))
    (l4 : K.lookup f4 = some ⟨oc4, od4, .func (PySem.W.fnOf "_law_whole" "_law_whole" (defArgs s__law_whole) (defBody s__law_whole) (defScope s__law_whole) .none kV4 dc4 pm4 an4 cd4 ct4), sl4⟩)
    (c4 : PySem.W.codeIn K cd4 "_law_whole" = true)
    (k4 : PySem.W.keepIn K (.ref f4) = true)
    (a5 : PySem.W.nsIn K mainGlobals "_law_change" = some (some (.ref f5)))
    (l5 : K.lookup f5 = some ⟨oc5, od5, .func (PySem.W.fnOf "_law_change" "_law_change" (defArgs s__law_change) (defBody s__law_change) (defScope s__law_change) .none kV5 dc5 pm5 an5 cd5 ct5), sl5⟩)
    (c5 : PySem.W.codeIn K cd5 "_law_change" = true)
    (k5 : PySem.W.keepIn K (.ref f5) = true)
    (a6 : PySem.W.nsIn K mainGlobals "_law_next_text" = some (some (.ref f6)))
    (l6 : K.lookup f6 = some ⟨oc6, od6, .func (PySem.W.fnOf "_law_next_text" "_law_next_text" (defArgs s__law_next_text) (defBody s__law_next_text) (defScope s__law_next_text) .none kV6 dc6 pm6 an6 cd6 ct6), sl6⟩)
    (c6 : PySem.W.codeIn K cd6 "_law_next_text" = true)
    (k6 : PySem.W.keepIn K (.ref f6) = true)
    (a7 : PySem.W.nsIn K mainGlobals "_law_by_turns" = some (some (.ref f7)))
    (l7 : K.lookup f7 = some ⟨oc7, od7, .func (PySem.W.fnOf "_law_by_turns" "_law_by_turns" (defArgs s__law_by_turns) (defBody s__law_by_turns) (defScope s__law_by_turns) .none kV7 dc7 pm7 an7 cd7 ct7), sl7⟩)
    (c7 : PySem.W.codeIn K cd7 "_law_by_turns" = true)
    (k7 : PySem.W.keepIn K (.ref f7) = true)
    (a8 : PySem.W.nsIn K mainGlobals "_alike" = some (some (.ref f8)))
    (l8 : K.lookup f8 = some ⟨oc8, od8, .func (PySem.W.fnOf "_alike" "_alike" (defArgs s__alike) (defBody s__alike) (defScope s__alike) .none kV8 dc8 pm8 an8 cd8 ct8), sl8⟩)
    (c8 : PySem.W.codeIn K cd8 "_alike" = true)
    (k8 : PySem.W.keepIn K (.ref f8) = true)
    (a9 : PySem.W.nsIn K mainGlobals "change_of" = some (some (.ref f9)))
    (l9 : K.lookup f9 = some ⟨oc9, od9, .func (PySem.W.fnOf "change_of" "change_of" (defArgs s_change_of) (defBody s_change_of) (defScope s_change_of) .none kV9 dc9 pm9 an9 cd9 ct9), sl9⟩)
    (c9 : PySem.W.codeIn K cd9 "change_of" = true)
    (k9 : PySem.W.keepIn K (.ref f9) = true)
    (a10 : PySem.W.nsIn K mainGlobals "_law_left_by" = some (some (.ref f10)))
    (l10 : K.lookup f10 = some ⟨oc10, od10, .func (PySem.W.fnOf "_law_left_by" "_law_left_by" (defArgs s__law_left_by) (defBody s__law_left_by) (defScope s__law_left_by) .none kV10 dc10 pm10 an10 cd10 ct10), sl10⟩)
    (c10 : PySem.W.codeIn K cd10 "_law_left_by" = true)
    (k10 : PySem.W.keepIn K (.ref f10) = true)
    (a11 : PySem.W.nsIn K mainGlobals "_law_leads" = some (some (.ref f11)))
    (l11 : K.lookup f11 = some ⟨oc11, od11, .func (PySem.W.fnOf "_law_leads" "_law_leads" (defArgs s__law_leads) (defBody s__law_leads) (defScope s__law_leads) .none kV11 dc11 pm11 an11 cd11 ct11), sl11⟩)
    (c11 : PySem.W.codeIn K cd11 "_law_leads" = true)
    (k11 : PySem.W.keepIn K (.ref f11) = true)
    (a12 : PySem.W.nsIn K mainGlobals "law" = some (some (.ref f12)))
    (l12 : K.lookup f12 = some ⟨oc12, od12, .func (PySem.W.fnOf "law" "law" (defArgs s_law) (defBody s_law) (defScope s_law) .none kV12 dc12 pm12 an12 cd12 ct12), sl12⟩)
    (c12 : PySem.W.codeIn K cd12 "law" = true)
    (k12 : PySem.W.keepIn K (.ref f12) = true)
    (z_len : PySem.W.nsIn K mainGlobals "len" = some none)
    (z_range : PySem.W.nsIn K mainGlobals "range" = some none)
    (z_max : PySem.W.nsIn K mainGlobals "max" = some none)
    (z_min : PySem.W.nsIn K mainGlobals "min" = some none)
    (z_isinstance : PySem.W.nsIn K mainGlobals "isinstance" = some none)
    (z_str : PySem.W.nsIn K mainGlobals "str" = some none)
    (z_int : PySem.W.nsIn K mainGlobals "int" = some none)
    (z_bool : PySem.W.nsIn K mainGlobals "bool" = some none)
    (z_tuple : PySem.W.nsIn K mainGlobals "tuple" = some none)
    (z_enumerate : PySem.W.nsIn K mainGlobals "enumerate" = some none)
    (z_zip : PySem.W.nsIn K mainGlobals "zip" = some none)
    (z_ValueError : PySem.W.nsIn K mainGlobals "ValueError" = some none)
    (z_list : PySem.W.nsIn K mainGlobals "list" = some none)
    (z_dict : PySem.W.nsIn K mainGlobals "dict" = some none)
    (z_sorted : PySem.W.nsIn K mainGlobals "sorted" = some none)
    (z_sum : PySem.W.nsIn K mainGlobals "sum" = some none) :
    ∃ fd : FuncData, (∀ (s : Shared) (v : Value), BindsTo s fd ⟨[v], []⟩ [("_law_script", v)]) ∧ ∀ base : Heap, K.In base → base.Ns mainGlobals mg → FnOk l.prog w K mg base CX0 4 fa fd ["_law_script"] (spLaw K) := by
  have e := hfa.symm.trans (PySem.W.mg_of X G a12)
  cases e
  have B : Bt mg := ⟨PySem.W.mg_none_of X G z_len, PySem.W.mg_none_of X G z_range, PySem.W.mg_none_of X G z_max, PySem.W.mg_none_of X G z_min, PySem.W.mg_none_of X G z_isinstance, PySem.W.mg_none_of X G z_str, PySem.W.mg_none_of X G z_int, PySem.W.mg_none_of X G z_bool, PySem.W.mg_none_of X G z_tuple, PySem.W.mg_none_of X G z_enumerate, PySem.W.mg_none_of X G z_zip, PySem.W.mg_none_of X G z_ValueError, PySem.W.mg_none_of X G z_list, PySem.W.mg_none_of X G z_dict, PySem.W.mg_none_of X G z_sorted, PySem.W.mg_none_of X G z_sum⟩
  have F1 := fun_mk (st := s__law_cell_at) l1 c1 k1
  have F2 := fun_mk (st := s__law_sign_by) l2 c2 k2
  have F3 := fun_mk (st := s__law_text_by) l3 c3 k3
  have F4 := fun_mk (st := s__law_whole) l4 c4 k4
  have F5 := fun_mk (st := s__law_change) l5 c5 k5
  have F6 := fun_mk (st := s__law_next_text) l6 c6 k6
  have F7 := fun_mk (st := s__law_by_turns) l7 c7 k7
  have F8 := fun_mk (st := s__alike) l8 c8 k8
  have F9 := fun_mk (st := s_change_of) l9 c9 k9
  have F10 := fun_mk (st := s__law_left_by) l10 c10 k10
  have F11 := fun_mk (st := s__law_leads) l11 c11 k11
  have F12 := fun_mk (st := s_law) l12 c12 k12
  refine ⟨PySem.W.fnOf "law" "law" (defArgs s_law) (defBody s_law) (defScope s_law) .none kV12 dc12 pm12 an12 cd12 ct12, fun s v => .of_eq rfl, fun base _ _ => ?_⟩
  have b1 := F1.binds (ps := ["_law_script", "_law_k"]) fun _ _ _ _ _ _ us hl => match us, hl with | [_, _], _ => rfl
  have c_cell : Cal l.prog w K mg base CX0 1 "_law_cell_at" ["_law_script", "_law_k"] (spCell K) _ _ := ⟨ok_cell F1 B, PySem.W.mg_of X G a1, k1, b1⟩
  have b2 := F2.binds (ps := ["_law_cell"]) fun _ _ _ _ _ _ us hl => match us, hl with | [_], _ => rfl
  have c_sign : Cal l.prog w K mg base CX0 1 "_law_sign_by" ["_law_cell"] spSign _ _ := ⟨ok_sign F2 B, PySem.W.mg_of X G a2, k2, b2⟩
  have b3 := F3.binds (ps := ["_law_cell", "_law_size"]) fun _ _ _ _ _ _ us hl => match us, hl with | [_, _], _ => rfl
  have c_text : Cal l.prog w K mg base CX0 2 "_law_text_by" ["_law_cell", "_law_size"] spText _ _ := ⟨ok_text F3 B c_sign, PySem.W.mg_of X G a3, k3, b3⟩
  have b4 := F4.binds (ps := ["_law_found"]) fun _ _ _ _ _ _ us hl => match us, hl with | [_], _ => rfl
  have c_whole : Cal l.prog w K mg base CX0 1 "_law_whole" ["_law_found"] spWhole _ _ := ⟨ok_whole F4 B, PySem.W.mg_of X G a4, k4, b4⟩
  have b5 := F5.binds (ps := ["_law_found"]) fun _ _ _ _ _ _ us hl => match us, hl with | [_], _ => rfl
  have c_change : Cal l.prog w K mg base CX0 2 "_law_change" ["_law_found"] (spChange K) _ _ := ⟨ok_change F5 B c_whole, PySem.W.mg_of X G a5, k5, b5⟩
  have b6 := F6.binds (ps := ["_law_old", "_law_cell"]) fun _ _ _ _ _ _ us hl => match us, hl with | [_, _], _ => rfl
  have c_next : Cal l.prog w K mg base CX0 3 "_law_next_text" ["_law_old", "_law_cell"] spNext _ _ := ⟨ok_next F6 B c_sign c_text, PySem.W.mg_of X G a6, k6, b6⟩
  have b7 := F7.binds (ps := ["_law_cell", "_law_size"]) fun _ _ _ _ _ _ us hl => match us, hl with | [_, _], _ => rfl
  have c_turns : Cal l.prog w K mg base CX0 2 "_law_by_turns" ["_law_cell", "_law_size"] spTurns _ _ := ⟨ok_turns F7 B c_sign, PySem.W.mg_of X G a7, k7, b7⟩
  have b8 := F8.binds (ps := ["one", "other"]) fun _ _ _ _ _ _ us hl => match us, hl with | [_, _], _ => rfl
  have c_alike : Cal l.prog w K mg base CX0 1 "_alike" ["one", "other"] (spAlike K) _ _ := ⟨ok_alike F8 B, PySem.W.mg_of X G a8, k8, b8⟩
  have b9 := F9.binds (ps := ["old", "new"]) fun _ _ _ _ _ _ us hl => match us, hl with | [_, _], _ => rfl
  have c_changeof : Cal l.prog w K mg base CX0 2 "change_of" ["old", "new"] (spChangeOf K) _ _ := ⟨ok_changeof F9 B c_alike, PySem.W.mg_of X G a9, k9, b9⟩
  have b10 := F10.binds (ps := ["_law_old", "_law_new"]) fun _ _ _ _ _ _ us hl => match us, hl with | [_, _], _ => rfl
  have c_leftby : Cal l.prog w K mg base CX0 1 "_law_left_by" ["_law_old", "_law_new"] spLeftBy _ _ := ⟨ok_leftby F10 B, PySem.W.mg_of X G a10, k10, b10⟩
  have b11 := F11.binds (ps := ["_law_old", "_law_new", "_law_found"]) fun _ _ _ _ _ _ us hl => match us, hl with | [_, _, _], _ => rfl
  have c_leads : Cal l.prog w K mg base CX0 1 "_law_leads" ["_law_old", "_law_new", "_law_found"] (spLeads K) _ _ := ⟨ok_leads F11 B, PySem.W.mg_of X G a11, k11, b11⟩
  exact ok_law F12 B c_cell c_text c_turns c_next c_changeof c_change c_leads c_leftby
theorem walk {l : PySem.W.OpenLaw} {q : Program} {loose : List Str} {XP : (Str → Option Value) → Heap → Prop} {YP : World → Heap → Prop} {d : DefRec} {K : Params → PySem.W.Frag} (hn : l.most = some 63) (hdf : d.params.defaults = [])
    (hY : ∀ (w : World) (h : Heap), YP w h → (K w.params).In h)
    (F : ∀ (w : World) (mg : Str → Option Value) (fa : Addr) (h : Heap), (K w.params).In h → h.Ns mainGlobals mg → mg d.name = some (.ref fa) →
      ∃ fd : FuncData, (∀ (s : Shared) (u : Value), BindsTo s fd ⟨[u], []⟩ [("_law_script", u)]) ∧ ∀ base : Heap, (K w.params).In base → base.Ns mainGlobals mg → FnOk l.prog w (K w.params) mg base CX0 4 fa fd ["_law_script"] (spLaw (K w.params))) :
    PySem.W.WalkO q loose XP YP l.row.toRowW d [] (fun f vs => PySem.call f vs) :=
  L2.walk_of (n := 63) (k := 4) (x := "_law_script") (CX := fun _ => CX0) (sp := fun w => spLaw (K w.params)) hn (by decide) hdf ⟨rfl, by decide, by decide⟩ hY F (fun _ _ a ns hl _ hS => ⟨a, ns, rfl, hS, hl, fun _ => rfl⟩) fun _ _ _ _ _ z => z
end PD
open PySem PySem.W PyProof.Rows
set_option maxRecDepth 100000 in
set_option maxHeartbeats 0 in
theorem PySem.Challenge.cw_packdelta_k03_whole_least_change_holds : PySem.Challenge.rw_packdelta_k03_whole_least_change.Holds := by
  w_on; o_law; k_head; (case hw => w_witness2)
  k_fill
  refine PD.walk (l := PySem.Challenge.rw_packdelta_k03_whole_least_change) rfl rfl (fun w h Y => PySem.W.kIn_of Y) ?F
  case F =>
    intro w mg fa h KX G hmg
    refine' PD.all_mk KX G hmg ?a1 ?l1 ?c1 ?k1 ?a2 ?l2 ?c2 ?k2 ?a3 ?l3 ?c3 ?k3 ?a4 ?l4 ?c4 ?k4 ?a5 ?l5 ?c5 ?k5 ?a6 ?l6 ?c6 ?k6 ?a7 ?l7 ?c7 ?k7 ?a8 ?l8 ?c8 ?k8 ?a9 ?l9 ?c9 ?k9 ?a10 ?l10 ?c10 ?k10 ?a11 ?l11 ?c11 ?k11 ?a12 ?l12 ?c12 ?k12 ?z_len ?z_range ?z_max ?z_min ?z_isinstance ?z_str ?z_int ?z_bool ?z_tuple ?z_enumerate ?z_zip ?z_ValueError ?z_list ?z_dict ?z_sorted ?z_sum
    (case a1 => k_is)
    (case l1 => k_is)
    (case c1 => k_is)
    (case k1 => k_is)
    (case a2 => k_is)
    (case l2 => k_is)
    (case c2 => k_is)
    (case k2 => k_is)
    (case a3 => k_is)
    (case l3 => k_is)
    (case c3 => k_is)
    (case k3 => k_is)
    (case a4 => k_is)
    (case l4 => k_is)
    (case c4 => k_is)
    (case k4 => k_is)
    (case a5 => k_is)
    (case l5 => k_is)
    (case c5 => k_is)
    (case k5 => k_is)
    (case a6 => k_is)
    (case l6 => k_is)
    (case c6 => k_is)
    (case k6 => k_is)
    (case a7 => k_is)
    (case l7 => k_is)
    (case c7 => k_is)
    (case k7 => k_is)
    (case a8 => k_is)
    (case l8 => k_is)
    (case c8 => k_is)
    (case k8 => k_is)
    (case a9 => k_is)
    (case l9 => k_is)
    (case c9 => k_is)
    (case k9 => k_is)
    (case a10 => k_is)
    (case l10 => k_is)
    (case c10 => k_is)
    (case k10 => k_is)
    (case a11 => k_is)
    (case l11 => k_is)
    (case c11 => k_is)
    (case k11 => k_is)
    (case a12 => k_is)
    (case l12 => k_is)
    (case c12 => k_is)
    (case k12 => k_is)
    (case z_len => k_is)
    (case z_range => k_is)
    (case z_max => k_is)
    (case z_min => k_is)
    (case z_isinstance => k_is)
    (case z_str => k_is)
    (case z_int => k_is)
    (case z_bool => k_is)
    (case z_tuple => k_is)
    (case z_enumerate => k_is)
    (case z_zip => k_is)
    (case z_ValueError => k_is)
    (case z_list => k_is)
    (case z_dict => k_is)
    (case z_sorted => k_is)
    (case z_sum => k_is)
