import PyProof.Rows.All
import Wide.All
import OpenK.AllK
import Wide.FinOn
import HandS.ForMost
import HandS.ForExc
import HandS.TryMany
import HandS.ExcInit
import HandS.ExcField
import HandS.ExcIs
import HandS.IsInst
import KE.KExcIs
import KE.KOpsOwn
import HandS.OwnEq
import HandS.Wide
import HandS.Gcd
import HandS.TupMul
import HandS.Zip
import HandS.Defaults
import HandS.Walk
import HandS.ClsMeth
import HandS.Codes
import PyProof.StrOps2
import PyProof.ReprRoads
import HandS.HotCalls
import HandS.Iter
import KE.KOwnIter
import KE.KDictIter
import HandS.Conv
import HandS.Dict
import HandS.List
import HandS.ListEq
import KE.KEqDict
import HandS.TupLen
import KE.GoesEnum
import KE.GoesMore
import KE.KAssignIn
import HandS.Star
import HandS.Ends
import HandS.DictComp
import HandS.NoneIn
import HandS.HeadHook3
import PySem.Challenge.RW_ellwarden_k09_expression_text
import KE.IntTextLaws
import HandS.StrMore
import HandS.FStr
import PyProof.StrLawsAffix
import HandS.RaiseOp
import HandS.Deep
import KE.SortData
import HandS.SortRule
set_option Elab.async false
set_option linter.all false
set_option maxRecDepth 100000
set_option maxHeartbeats 4000000
/-! a try with several clauses, each with a name or without -/
namespace Ew
open PySem PySem.Spec PyProof.Rows L2
/-- one clause: what it names, the slot of its name, what its suite asks -/
abbrev Cl1 := Value × Option Nat × (Addr → Value → Option Addr → TS)
/-- behind a suite the slot of its name is empty -/
def Emp : Option Nat → Ends → Ends
  | none, D => D
  | some i, D => ⟨fun t G => D.nx (t.set i none) G, D.rt, fun t G => D.bk (t.set i none) G, fun t G => D.ct (t.set i none) G⟩
def bindAt : Option Nat → Addr → L2.St → L2.St
  | none, _, σ => σ
  | some i, a, σ => σ.set i (some (.ref a))
def wN (K : PySem.W.Frag) (Wo : WX) (D : Ends) : List Cl1 → WX
  | [] => Wo
  | (c, i, ts) :: r => fun cls d σ H => ∃ b, PySem.W.exmOne K cls c = some b ∧ (b = true → ∀ a, H a = none → ts a cls d (Emp i D) (bindAt i a σ) H) ∧ (b = false → wN K Wo D r cls d σ H)
/-- a suite keeps its reading whatever exception it holds -/
def SuiteOk (X : Cx) (sts : List Stmt) (ts : Addr → Value → Option Addr → TS) : Prop := ∀ a oe cls d pn, Zc cls d oe → (∃ vs, oe.data = .fields vs) → PSs (X.suite a ((a, oe) :: pn)) sts (ts a cls d)
inductive HdsN (X : Cx) : List ExceptHandler → List Cl1 → Prop
  | nil : HdsN X [] []
  | pl {x : Str} {c : Value} {ts b sts p q hs l} : Names X x c → SuiteOk X (b :: sts) ts → HdsN X hs l → HdsN X (.ExceptHandler (some (.Name x p)) none (b :: sts) q :: hs) ((c, none, ts) :: l)
  | nm {x n : Str} {i : Nat} {c : Value} {ts b sts p q hs l} : X.N[i]? = some n → X.env.kindOf n = some .local → Names X x c → SuiteOk X (b :: sts) ts → HdsN X hs l → HdsN X (.ExceptHandler (some (.Name x p)) (some n) (b :: sts) q :: hs) ((c, some i, ts) :: l)
section
variable {X : Cx} {pins : List (Addr × Obj)} {σ : L2.St} {H : Hp} {a : Addr} {cls : Value} {d : Option Addr} {D : Ends} {s : Shared} {Wo : WX}
/-- an exception lies at a, looked at by the frame's own handlers -/
structure Caught (X : Cx) (pins : List (Addr × Obj)) (σ : L2.St) (H : Hp) (a : Addr) (cls : Value) (d : Option Addr) (s : Shared) : Prop where
  ok : X.Ok
  st : X.stack = X.env :: X.outer
  fr : X.env.frame = some X.env.locals
  free : H a = none
  rest : ∃ B sI, Inv X pins σ H sI ∧ (∀ b o, sI.heap.get? b = some o → b ∉ frs X.stack → B.get? b = some o) ∧ sI.heap.UpToSlots s.heap ∧ s.os = sI.os ∧ AllBare s.gens ∧ HandSPX.FlyingZ B (X.env :: X.outer) a (Zc cls d) s.heap
theorem Caught.inv (c : Caught X pins σ H a cls d s) : Inv X pins σ H s := by
  obtain ⟨B, sI, J, nb, up, os, ag, fl⟩ := c.rest
  obtain ⟨hp, g, dr, t, o⟩ := s
  exact J.landed nb fl.1 up os ag
theorem Caught.off (c : Caught X pins σ H a cls d s) : a ∉ frs (X.env :: X.outer) := fun hm => by
  obtain ⟨B, sI, J, nb, up, os, ag, fl⟩ := c.rest
  obtain ⟨o, vs, e, z, q⟩ := fl.there
  obtain ⟨_, o', e', w⟩ := fl.2.2.1.mem hm
  obtain rfl := Option.some.inj (e.symm.trans e')
  exact w _ q
theorem Caught.held (c : Caught X pins σ H a cls d s) : ∃ oe, s.heap.get? a = some oe ∧ Zc cls d oe ∧ (∃ vs, oe.data = .fields vs) ∧ Inv (X.suite a ((a, oe) :: (X.pn ++ pins))) [] σ H s := by
  obtain ⟨B, sI, J, nb, up, os, ag, fl⟩ := id c.rest
  obtain ⟨oe, vs, e, z, q⟩ := fl.there
  refine ⟨oe, e, z, ⟨vs, q⟩, c.inv.suite e q c.free (fun h => c.off ?_) fun h => c.off ?_⟩
  · exact List.mem_filterMap.mpr ⟨_, List.mem_cons_self, c.fr.trans (congrArg some h.symm)⟩
  · obtain ⟨y, hy, w⟩ := List.mem_filterMap.mp h
    exact List.mem_filterMap.mpr ⟨y, List.mem_cons_of_mem _ hy, w⟩
/-- the clause's class is looked at -/
theorem Caught.asks (c : Caught X pins σ H a cls d s) {x : Str} {p : Pos} {v : Value} (n : Names X x v) {Q E : Value → Shared → Prop} (q : Q v s) :
    wpAny (model X.prog X.w) (X.A.mark (some (.ref a))) (eval (.Name x p) X.env) Q E s := by
  obtain ⟨oe, _, _, _, S⟩ := c.held
  obtain ⟨g, db, m | ⟨m, v', nn⟩⟩ := n
  · exact ld_glob (X := X.suite a ((a, oe) :: (X.pn ++ pins))) S g m q db
  · exact ld_blt (X := X.suite a ((a, oe) :: (X.pn ++ pins))) S g m v' q nn db
theorem Caught.judged (c : Caught X pins σ H a cls d s) {v : Value} {b : Bool} (h : PySem.W.exmOne X.K cls v = some b) : PySem.W.Looks (model X.prog X.w) s.heap (excMatches (.ref a) v) b := by
  obtain ⟨oe, e, z, _, _⟩ := c.held
  exact PySem.W.exm_one c.inv.kIn (fun _ _ _ _ k q => wpAny_typeOf_ref (k _ _ e) (z.1.symm ▸ q)) h
/-- what behind the suite is left of an end -/
theorem Caught.done (c : Caught X pins σ H a cls d s) {oe : Obj} {i : Option Nat} {f : Flow} {s' : Shared} (hN : X.N.Nodup) {n : Str} (hn : ∀ j, i = some j → X.N[j]? = some n ∧ X.env.kindOf n = some .local)
    (h : SP (X.suite a ((a, oe) :: (X.pn ++ pins))) [] (Emp i D) f s') {p : Pos} :
    (i = none → SP X pins D f s') ∧ (i ≠ none → wpAny (model X.prog X.w) X.A (do bindName X.env n .none; unbindBehindTheSuite X.env n p) (fun _ s7 => SP X pins D f s7) X.xe s') := by
  cases i with
  | none =>
    refine ⟨fun _ => ?_, fun z => absurd rfl z⟩
    cases f <;> first
      | (obtain ⟨σ6, H6, S, q⟩ := h; exact ⟨σ6, H6, S.unsuite c.ok, q⟩)
      | (obtain ⟨v, σ6, H6, S, r, q⟩ := h; exact ⟨v, σ6, H6, S.unsuite c.ok, r, q⟩)
  | some j =>
    obtain ⟨hj, hk⟩ := hn j rfl
    refine ⟨fun z => (nomatch z), fun _ => ?_⟩
    cases f <;> first
      | (obtain ⟨σ6, H6, S, q⟩ := h; exact gone_ok (S.unsuite c.ok) hN hj hk fun s7 J => ⟨_, _, J, q⟩)
      | (obtain ⟨v, σ6, H6, S, r, q⟩ := h; exact gone_ok (S.unsuite c.ok) hN hj hk fun s7 J => ⟨_, _, _, J, r, q⟩)
/-- the clauses, one after the other -/
theorem Caught.handled {pos : Pos} (hN : X.N.Nodup) (tk : Takes X Wo) : ∀ {hs : List ExceptHandler} {l : List Cl1}, HdsN X hs l → ∀ {s : Shared}, Caught X pins σ H a cls d s → wN X.K Wo D l cls d σ H →
    wpAny (model X.prog X.w) X.A (handleBy (.ref a) X.env hs) (SP X pins D) X.xe s
  | _, _, .nil, s, c, w => by
    obtain ⟨B, sI, J, nb, up, os, ag, fl⟩ := id c.rest
    obtain ⟨_, _, _, oe, vs, T, oT, ts', he, hz, hd, h1, hr⟩ := id fl
    refine wpAny_handleBy_nil ?_
    have up2 : wpAny (model X.prog X.w) X.A (setFlight (.ref a) X.env.frame) (fun _ s4 => wpAny (model X.prog X.w) X.A (throw (.ref a) : Sem Flow) (SP X pins D) X.xe s4) X.xe s := by
      obtain ⟨hp, g, dr, t, o⟩ := s
      rw [c.fr]
      refine HandSPX.setFlight_upZ fl fun h4 hh4 u4 => wpAny_throw (tk _ _ ⟨a, B, sI, pins, σ, H, cls, d, rfl, J, nb, up.trans u4, .inr (.inr ?_), c.free, os, ag, w⟩)
      rw [c.st]
      exact hh4
    unfold PySem.passOn
    refine wpAny_bind (wpAny_field he hd h1 ?_)
    rw [if_neg (fun z => by simp at z)]
    first
      | exact wpAny_bind (wpAny_pure (wpAny_bind up2))
      | exact wpAny_bind up2
  | _, _, .pl hc hsu r, s, c, w => by
    obtain ⟨b, e, yes, no⟩ := w
    refine wpAny_handleBy_cons (codeAny_handlers_test (c.asks hc ((c.judged e).here ?_))) (fun q => nomatch q)
    cases b with
    | false => exact Caught.handled (pos := pos) hN tk r c (no rfl)
    | true =>
      refine codeAny_handlers_suite ?_
      obtain ⟨B, sI, J, nb, up, os, ag, fl⟩ := id c.rest
      obtain ⟨hp, g, dr, t, o⟩ := s
      refine HandSPX.lands_againZ fl fun h4 fl4 u4 => ?_
      have c4 : Caught X pins σ H a cls d ⟨h4, g, dr, t, o⟩ := ⟨c.ok, c.st, c.fr, c.free, B, sI, J, nb, up.trans u4, os, ag, fl4⟩
      obtain ⟨oe, _, z, q, S⟩ := c4.held
      exact wpAny_mono ((hsu a oe cls d _ z q).run [] _ _ H _ S (yes rfl a c.free)) (fun f s6 h => (c4.done (i := none) (n := "") (p := pos) hN (fun _ z => (nomatch z)) h).1 rfl) fun _ _ z => z.elim
  | _, _, .nm hi hl hc hsu r, s, c, w => by
    obtain ⟨b, e, yes, no⟩ := w
    refine wpAny_handleBy_cons (codeAny_handlers_test (c.asks hc ((c.judged e).here ?_))) (fun q => nomatch q)
    cases b with
    | false => exact Caught.handled (pos := pos) hN tk r c (no rfl)
    | true =>
      refine codeAny_handlers_suite_as ?_
      obtain ⟨B, sI, J, nb, up, os, ag, fl⟩ := id c.rest
      obtain ⟨hp, g, dr, t, o⟩ := s
      refine HandSPX.lands_againZ fl fun h4 fl4 u4 => ?_
      have c4 : Caught X pins σ H a cls d ⟨h4, g, dr, t, o⟩ := ⟨c.ok, c.st, c.fr, c.free, B, sI, J, nb, up.trans u4, os, ag, fl4⟩
      obtain ⟨oe, _, z, q, S⟩ := c4.held
      refine store_ok (X := X.suite a ((a, oe) :: (X.pn ++ pins))) (v := .ref a) S hN hi (.inl hl) rfl (fun s5 S5 => ?_) (.inr hl)
      exact wpAny_mono ((hsu a oe cls d _ z q).run [] s5 _ H _ S5 (yes rfl a c.free)) (fun f s6 h => (c4.done (i := some _) hN (fun j e => by cases e; exact ⟨hi, hl⟩) h).2 (fun z => (nomatch z))) fun _ _ z => z.elim
/-- try: body / several clauses -/
theorem ps_tryN {body : List Stmt} {h0 : ExceptHandler} {hs : List ExceptHandler} {l : List Cl1} {pos : Pos} {tb : WX → TS} (hst : X.stack = X.env :: X.outer) (hfr : X.env.frame = some X.env.locals) (hN : X.N.Nodup) (tk : Takes X Wo)
    (hb : ∀ (W : WX) (pn : List (Addr × Obj)) (xe : Value → Shared → Prop), Takes (X.tr pn xe) W → PassesOwn (model X.prog X.w) X.A X.env xe → PSs (X.tr pn xe) body (tb W)) (hh : HdsN X (h0 :: hs) l) :
    PS X (.Try body (h0 :: hs) [] [] pos) (fun D σ H => tb (wN X.K Wo D l) D σ H) := ⟨fun pins s σ H D I h => by
  have ok := I.ok
  let xe : Value → Shared → Prop := fun e s₁ => wpAny (model X.prog X.w) X.A (noteFrame e X.env) (fun _ s₂ => wpAny (model X.prog X.w) X.A (setFlight e none) (fun _ s₃ => wpAny (model X.prog X.w) X.A (handleBy e X.env (h0 :: hs)) (SP X pins D) X.xe s₃) X.xe s₂) X.xe s₁
  have tk2 : Takes (X.tr (X.pn ++ pins) xe) (wN X.K Wo D l) := fun u s' ⟨a, B, sI, pins', σ', H', cls, d, e, J', nb, up, sky, na, os, ag, w⟩ => by
    subst e
    have sky2 : Sky B (X.env :: X.outer) a (Zc cls d) X.env.locals s'.heap := by rw [← hst]; exact sky
    obtain ⟨hp, g, dr, t, o⟩ := s'
    refine Sky.land Zc.steady (ok.frames.trans (congrArg some hst)) hfr sky2 fun h3 fl u3 => ?_
    exact Caught.handled (pos := pos) hN tk hh ⟨ok, hst, hfr, na, B, sI, J'.ofTry ok, nb, up.trans u3, os, ag, fl⟩ w
  refine wpAny_Try_except (wpAny_mono ((hb _ _ xe tk2 PassesOwn.looking).run [] s σ H D (I.toTry _) h) (fun f s1 q => ?_) fun _ _ z => z)
  cases f <;> first
    | (obtain ⟨σ', H', J, q⟩ := q; exact wpAny_execs_nil ⟨σ', H', J.ofTry ok, q⟩)
    | (obtain ⟨σ', H', J, q⟩ := q; exact ⟨σ', H', J.ofTry ok, q⟩)
    | (obtain ⟨v, σ', H', J, r, q⟩ := q; exact ⟨v, σ', H', J.ofTry ok, r, q⟩)⟩
end
end Ew

set_option Elab.async false
set_option linter.all false
set_option maxRecDepth 100000
set_option maxHeartbeats 4000000
namespace Ew
open PySem PySem.Spec PyProof.Rows L2
/-- what the text's class D of an error says -/
structure ErrC (K : PySem.W.Frag) (D : Addr) : Prop where
  cl : (PySem.W.clsIn K D).isSome = true
  ga : PySem.W.findIn K (.ref D) "__getattribute__" = some (some (.builtin "BaseException.__getattribute__"))
  gt : PySem.W.findIn K (.ref D) "__getattr__" = some none
  sb : PySem.W.subIn K (.ref D) (.type "BaseException") = some true
  ca : PySem.W.findIn K (.ref D) "__class__" = some (some (.builtin "object.__class__"))
  gg : PySem.W.specialIn K (.builtin "object.__class__") "__get__" = some (some (.builtin "getset_descriptor.__get__"))
  tk : PySem.W.takesIn K (.builtin "object.__class__") = some true
  mo : PySem.W.mroIn K D (.type "object") = some true
section
variable {X : Cx} {a D : Addr} {oe : Obj} {pn : List (Addr × Obj)} {d : Option Addr}
theorem err_kit (C : ErrC X.K D) (hz : Zc (.ref D) d oe) (hf : ∃ vs, oe.data = .fields vs) {pins : List (Addr × Obj)} {σ : L2.St} {H : Hp} {s : Shared} (I : Inv (X.suite a ((a, oe) :: pn)) pins σ H s) (hd : ∀ dd, d = some dd → ∃ o, H dd = some o) :
    ∃ P : Heap → Prop, PySem.W.KitX X.K (.ref a) (.ref D) P ∧ P s.heap := by
  obtain ⟨at_, _⟩ := I.pin (a, oe) (List.mem_append.mpr (.inl List.mem_cons_self))
  obtain ⟨vs, hv⟩ := hf
  obtain ⟨oc, od, oda, osl⟩ := oe
  obtain ⟨h1, h2⟩ := hz
  dsimp only at h1 h2 hv
  subst h1 h2 hv
  cases od with
  | none => exact ⟨_, PySem.W.kitx_exc (od := none) C.cl C.ga C.gt C.sb C.ca C.gg C.tk C.mo, at_, rfl, rfl, trivial⟩
  | some dd =>
    obtain ⟨o, ho⟩ := hd dd rfl
    obtain ⟨u, hu⟩ := objOk_get (I.hok dd o ho)
    exact ⟨_, PySem.W.kitx_exc (od := some u) C.cl C.ga C.gt C.sb C.ca C.gg C.tk C.mo, at_, rfl, rfl, hu⟩
/-- isinstance(e, c) | isinstance(e, (c1, c2, ..)), e the error that the suite holds -/
def rIsErr (K : PySem.W.Frag) (D a : Addr) (d : Option Addr) : List V → Hp → VK → Prop := fun xs H Q => (∀ dd, d = some dd → ∃ o, H dd = some o) ∧
  ((∃ c u b, xs = [.ref a, c] ∧ ClsV c u ∧ PySem.W.kitOne K (.ref D) u = some b ∧ Q (.bl b) H) ∨ (∃ tp cs us b, xs = [.ref a, .ref tp] ∧ H tp = some (.tup cs) ∧ Paired ClsV cs us ∧ PySem.W.kitAny K (.ref D) us = some b ∧ Q (.bl b) H))
theorem call_isErr (C : ErrC X.K D) (hz : Zc (.ref D) d oe) (hf : ∃ vs, oe.data = .fields vs) : CallR (X.suite a ((a, oe) :: pn)) (.builtin "isinstance") (rIsErr X.K D a d) := by
  intro pins s σ H xs us Q I r h
  obtain ⟨hd, h⟩ := h
  obtain ⟨P, Z, p⟩ := err_kit C hz hf I hd
  rcases h with ⟨c, u, b, rfl, k, e, q⟩ | ⟨tp, cs, ws, b, rfl, ht, k, e, q⟩
  · obtain ⟨u1, u2, rfl, r1, r2⟩ := vals2 r
    cases r1
    obtain rfl := k.eq r2
    exact PySem.W.kia_one Z I.kIn p e (fun z => nomatch z) fun t => ⟨.bl b, H, I.tok t, rfl, q⟩
  · obtain ⟨u1, u2, rfl, r1, r2⟩ := vals2 r
    cases r1
    cases r2
    obtain ⟨_, its, rv, ⟨oc, od, dt, sl⟩, g1, g2, n, g3⟩ := (show ObjOk X.prog X.w H s.heap tp (.tup cs) from I.hok tp _ ht)
    dsimp only at g2 g3
    subst g2 g3
    obtain rfl := ClsV.all k rv
    exact PySem.W.kia_tup Z I.kIn p g1 e (fun z => nomatch z) fun t => ⟨.bl b, H, I.tok t, rfl, q⟩
/-- the same, the class told by the reading -/
theorem call_isErrC {cls : Value} (C : ErrC X.K D) (hz : Zc cls d oe) (hf : ∃ vs, oe.data = .fields vs) : CallR (X.suite a ((a, oe) :: pn)) (.builtin "isinstance") (fun xs H Q => cls = .ref D ∧ rIsErr X.K D a d xs H Q) := by
  intro pins s σ H xs us Q I r h
  obtain ⟨e, h⟩ := h
  subst e
  exact call_isErr C hz hf pins s σ H xs us Q I r h
end

/-! ### own operators -/
/-- a method of the class by a name of its own -/
structure OpM (K : PySem.W.Frag) (C : Addr) (name : Str) (f : Addr) : Prop where
  at_ : PySem.W.findIn K (.ref C) name = some (some (.ref f))
  fn : PySem.W.isFn K (.ref f) = true
section
variable {X : Cx} {CX : CXT} {k : Nat} {f C : Addr} {fd : FuncData} {ps : List Str} {sp : Sp} {E : L2.St → XK} {a b : Expr} {ta tb : TE} {pos : Pos}
theorem back_of {pins : List (Addr × Obj)} {σ : L2.St} {Q : VK} {u : Value} {s : Shared} (h : EP X pins σ Q u s) : PySem.W.CmpBack (EP X pins σ Q) u s := by
  obtain ⟨v, H, I, r, q⟩ := id h
  cases v <;> first
    | (cases r; exact h)
    | (obtain ⟨t, rfl⟩ := r; exact h)
theorem ins_at {pins : List (Addr × Obj)} {σ : L2.St} {H : Hp} {s : Shared} {x dx : Addr} {fs : List (Str × V)} (I : Inv X pins σ H s) (e : H x = some (.ins C dx fs)) : ∃ od, PySem.W.InstAt s.heap x (PySem.W.instObj C dx) C (some od) := by
  obtain ⟨mA, J, _⟩ := ins_get I.hok e
  obtain ⟨od, J, _⟩ := J.look
  exact ⟨od, J⟩
def tBinO (C : Addr) (sp : Sp) (E : L2.St → XK) (ta tb : TE) : TE := fun σ H Q => ta σ H fun x H1 => tb σ H1 fun y H2 => ∃ p q dx dy fs gs, x = .ref p ∧ y = .ref q ∧ H2 p = some (.ins C dx fs) ∧ H2 q = some (.ins C dy gs) ∧ sp [x, y] H2 Q (E σ)
/-- a + b and its like, both of one own class -/
theorem pe_binO {op : Operator} (F : FnOk X.prog X.w X.K X.mg X.base CX k f fd ps sp) (hr : Room k X.A) (M : OpM X.K C (PySem.dunder op.info.2) f) (sf : PySem.W.selfFirst X.K C = true) (hb : Binds X.K fd ps []) (hx : ∀ σ, PassesAt CX X σ (E σ))
    (h1 : PE X a ta) (h2 : PE X b tb) : PE X (.BinOp a op b pos) (tBinO C sp E ta tb) := by
  refine ⟨fun pins s σ H Q I h => wpAny_BinOp (bin h1 h2 I h fun v u s2 x y H2 I2 rx ry q => ?_)⟩
  obtain ⟨p, q', dx, dy, fs, gs, rfl, rfl, e1, e2, q⟩ := q
  cases rx
  cases ry
  obtain ⟨o1, J1⟩ := ins_at I2 e1
  obtain ⟨o2, J2⟩ := ins_at I2 e2
  obtain ⟨m, fr⟩ := I2.fr
  exact PySem.W.binop_K fr I2.ok.mod.kin J1 J2.type sf M.at_ M.fn (thn (run_fnS (vs := [.ref p, .ref q']) F hr hb (hx σ) I2 (.cons rfl (.cons rfl .nil)) q) fun _ _ z => back_of z)
def tNegO (C : Addr) (sp : Sp) (E : L2.St → XK) (ta : TE) : TE := fun σ H Q => ta σ H fun x H1 => ∃ p dx fs, x = .ref p ∧ H1 p = some (.ins C dx fs) ∧ sp [x] H1 Q (E σ)
/-- -a of an own class -/
theorem pe_negO (F : FnOk X.prog X.w X.K X.mg X.base CX k f fd ps sp) (hr : Room k X.A) (M : OpM X.K C "__neg__" f) (hb : Binds X.K fd ps []) (hx : ∀ σ, PassesAt CX X σ (E σ))
    (h1 : PE X a ta) : PE X (.UnaryOp .USub a pos) (tNegO C sp E ta) := by
  refine ⟨fun pins s σ H Q I h => UnaryOp_ (thn (h1.run pins s σ H _ I h) fun v s1 ⟨x, H1, I1, r1, q1⟩ => ?_)⟩
  obtain ⟨p, dx, fs, rfl, e1, q⟩ := q1
  cases r1
  obtain ⟨o1, J1⟩ := ins_at I1 e1
  obtain ⟨m, fr⟩ := I1.fr
  exact PySem.W.ksp_neg fr I1.ok.mod.kin J1 M.at_ M.fn (run_fnS (vs := [.ref p]) F hr hb (hx σ) I1 (.cons rfl .nil) q)
/-- what stands to the right of an own ==: another of the class, or a tuple -/
def RhsEq (K : PySem.W.Frag) (C : Addr) (H : Hp) (y : V) : Prop := ∃ q, y = .ref q ∧ ((∃ dy gs, H q = some (.ins C dy gs)) ∨ ∃ ys, SqT K H q ys)
def tEqO (K : PySem.W.Frag) (C : Addr) (sp : Sp) (E : L2.St → XK) (ta tb : TE) : TE := fun σ H Q => ta σ H fun x H1 => tb σ H1 fun y H2 => ∃ p dx fs, x = .ref p ∧ H2 p = some (.ins C dx fs) ∧ RhsEq K C H2 y ∧ sp [x, y] H2 Q (E σ)
theorem pc_eqO (F : FnOk X.prog X.w X.K X.mg X.base CX k f fd ps sp) (hr : Room k X.A) (M : OpM X.K C "__eq__" f) (ht : PySem.W.notFirst X.K C (.type "tuple") = true) (hb : Binds X.K fd ps []) (hx : ∀ σ, PassesAt CX X σ (E σ))
    (h1 : PE X a ta) (h2 : PE X b tb) : PC X .Eq a b (tEqO X.K C sp E ta tb) := by
  refine ⟨fun pins s σ H Q I h => bin h1 h2 I h fun v u s2 x y H2 I2 rx ry q => ?_⟩
  obtain ⟨p, dx, fs, rfl, e1, ⟨q', rfl, r⟩, q⟩ := q
  cases rx
  cases ry
  obtain ⟨o1, J1⟩ := ins_at I2 e1
  obtain ⟨m, fr⟩ := I2.fr
  have run := thn (run_fnS (vs := [.ref p, .ref q']) F hr hb (hx σ) I2 (.cons rfl (.cons rfl .nil)) q) fun _ _ z => back_of z
  show wpAny _ _ (richCompare .Eq (.ref p) (.ref q')) _ _ _
  rcases r with ⟨dy, gs, e2⟩ | ⟨ys, e2⟩
  · obtain ⟨o2, J2⟩ := ins_at I2 e2
    exact PySem.W.cmp_K (op := .Eq) hr.units0 fr I2.ok.mod.kin J1 J2.type (by simp [PySem.W.notFirst]) M.at_ M.fn run
  · obtain ⟨its, rv, ⟨o, ho, hc, _⟩, _⟩ := I2.tuple e2
    exact PySem.W.cmp_K (op := .Eq) hr.units0 fr I2.ok.mod.kin J1 (fun A' Q' E' s' kp z => wpAny_typeOf_ref (kp _ _ ho) (by rw [hc]; exact z)) ht M.at_ M.fn run
end
end Ew

set_option Elab.async false
set_option linter.all false
set_option maxRecDepth 100000
set_option maxHeartbeats 4000000
namespace Ew
open PySem PySem.Spec PyProof.Rows L2
/-! ### a def of the top as it stands behind the top, and its promise -/
section
variable {P : Program} {w : World} {K : PySem.W.Frag} {mg : Str → Option Value} {base : Heap}
structure DefAt (K : PySem.W.Frag) (mg : Str → Option Value) (x : Str) (st : Stmt) (ps : List Str) : Prop where
  ex : ∃ f fd, Fun K x x st f fd ∧ mg x = some (.ref f) ∧ Binds K fd ps []
structure Cl (P : Program) (w : World) (K : PySem.W.Frag) (mg : Str → Option Value) (base : Heap) (k : Nat) (x : Str) (ps : List Str) (sp : Sp) (dvs : List V) : Prop where
  ex : ∃ f fd ds, FnOk P w K mg base (L2.CX P w) k f fd ps sp ∧ mg x = some (.ref f) ∧ PySem.W.keepIn K (.ref f) = true ∧ Binds K fd ps ds ∧ Vals dvs ds
/-- where a body runs -/
abbrev cxB (P : Program) (w : World) (K : PySem.W.Frag) (mg : Str → Option Value) (base : Heap) (N : List Str) (qual : Str) (st : Stmt) (f : Addr) (cdv : Value) (A : Around) (outer : List Env) (s : Shared) (H : Hp) (E : XK) : Cx := cxOf (L2.CX P w) P w K mg base N qual (defScope st) f cdv A outer s H E
def BodyOk (P : Program) (w : World) (K : PySem.W.Frag) (mg : Str → Option Value) (base : Heap) (N : List Str) (qual : Str) (st : Stmt) (k : Nat) (sp : Sp) : Prop :=
  ∀ (f : Addr) (cdv : Value) (A : Around) (outer : List Env) (s : Shared) (H : Hp) (vs : List V) (Q : VK) (E : XK), Room k (cxB P w K mg base N qual st f cdv A outer s H E).A → sp vs H Q E →
    ∃ t, PSs (cxB P w K mg base N qual st f cdv A outer s H E) (defBody st) t ∧ t { nx := fun _ H' => Q .non H', rt := Q } (start N vs) H
theorem DefAt.cl {x : Str} {st : Stmt} {ps N : List Str} {k : Nat} {sp : Sp} (D : DefAt K mg x st ps) (S : FnScope N ps (defScope st)) (len : ∀ vs H Q E, sp vs H Q E → vs.length = ps.length) (h : BodyOk P w K mg base N x st k sp) : Cl P w K mg base (k + 1) x ps sp [] := by
  obtain ⟨f, fd, F, g, b⟩ := D.ex
  exact ⟨f, fd, [], F.okX S len fun cdv A outer s H vs Q E hr hs => h f cdv A outer s H vs Q E hr hs, g, F.kp, b, .nil⟩
/-- a def with defaults -/
structure DefAtD (K : PySem.W.Frag) (mg : Str → Option Value) (x : Str) (st : Stmt) (ps : List Str) (dvs : List V) : Prop where
  ex : ∃ f fd, FunD K x x (defArgs st) (defBody st) (defScope st) dvs [] f fd ∧ mg x = some (.ref f) ∧ ∀ j, j ≤ dvs.length → ∃ ds, Vals (dvs.drop j) ds ∧ Binds K fd ps ds
theorem DefAtD.cl {x : Str} {st : Stmt} {ps N : List Str} {k : Nat} {sp : Sp} {dvs : List V} (D : DefAtD K mg x st ps dvs) (j : Nat) (hj : j ≤ dvs.length) (S : FnScope N ps (defScope st)) (len : ∀ vs H Q E, sp vs H Q E → vs.length = ps.length)
    (h : BodyOk P w K mg base N x st k sp) : Cl P w K mg base (k + 1) x ps sp (dvs.drop j) := by
  obtain ⟨f, fd, F, g, b⟩ := D.ex
  obtain ⟨ds, hd, hb⟩ := b j hj
  exact ⟨f, fd, ds, F.ok S len fun cdv A outer s H vs Q E hr hs => h f cdv A outer s H vs Q E hr hs, g, F.kp, hb, hd⟩
theorem fun_ok {x qual : Str} {st : Stmt} {f : Addr} {fd : FuncData} {ps N : List Str} {k : Nat} {sp : Sp} (F : Fun K x qual st f fd) (S : FnScope N ps (defScope st)) (len : ∀ vs H Q E, sp vs H Q E → vs.length = ps.length) (h : BodyOk P w K mg base N qual st k sp) :
    FnOk P w K mg base (L2.CX P w) (k + 1) f fd ps sp := F.okX S len fun cdv A outer s H vs Q E hr hs => h f cdv A outer s H vs Q E hr hs
end
/-! ### calls -/
section
variable {X : Cx} {k j : Nat} {x m : Str} {ps : List Str} {sp : Sp} {dvs : List V} {e o : Expr} {es : List Expr} {t : TA} {ta : TE} {p pos apos : Pos} {W : WX} {C : Addr}
theorem run_dv {f : Addr} {fd : FuncData} {ds : List Value} {pins : List (Addr × Obj)} {σ : L2.St} {H : Hp} {s : Shared} {Q : VK} {us : List Value} {vs : List V} (F : FnOk X.prog X.w X.K X.mg X.base (L2.CX X.prog X.w) k f fd ps sp) (hr : Room k X.A) (hb : Binds X.K fd ps ds) (hd : Vals dvs ds)
    (tk : Takes X W) (I : Inv X pins σ H s) (r : Vals vs us) (h : sp (vs ++ dvs) H Q (WE W σ)) : wpAny (model X.prog X.w) X.A (call (.ref f) us) (EP X pins σ Q) X.xe s := by
  have r2 := r.append hd
  have hl : (us ++ ds).length = ps.length := by rw [← r2.length]; exact F.len _ _ _ _ h
  refine wpAny_call (codeAny_mono (F.run X.A X.stack s H ⟨us, []⟩ (us ++ ds) (vs ++ dvs) Q (WE W σ) hr I.env0 (hb s us I.kIn hl) r2 h) fun y s' hq => ?_)
  match y, hq with
  | .error e, hq => exact passAt tk σ pins H s e s' I hq
  | .ok (.ret u), hq => exact I.after hq
def tF (sp : Sp) (dvs : List V) (W : WX) (t : TA) : TE := fun σ H Q => t σ H fun vs H1 => sp (vs ++ dvs) H1 Q (WE W σ)
theorem pe_f (c : Cl X.prog X.w X.K X.mg X.base k x ps sp dvs) (tk : Takes X W) (hr : Room j X.A) (hk : k ≤ j) (hg : Gl X x) (ha : PA X (e :: es) t) (hdb : (x == ("__debug__" : Str)) = false := by decide)
    (he : starEach (e :: es) X.env = (false, eval e X.env) :: starEach es X.env := by rfl) (hpl : (backTo pos (starEach es X.env)).any (·.1) = false := by rfl) : PE X (.Call (.Name x p) (e :: es) [] pos) (tF sp dvs W t) := by
  obtain ⟨f, fd, ds, F, hm, hkp, hb, hd⟩ := c.ex
  exact ⟨fun pins s σ H Q I h => wpAny_Call_Name_kw (ld_glob I hg hm (PySem.W.callWith_K (h₀ := X.base) I.ok.mod.kin hkp (thn (ha.run pos pins s σ H _ I h) fun us s1 ⟨vs, H1, I1, r, q⟩ => ⟨I1.kIn, run_dv F (hr.mono hk) hb hd tk I1 r q⟩) he hpl) hdb)⟩
/-- a method of the class at C -/
structure Mt (P : Program) (w : World) (K : PySem.W.Frag) (mg : Str → Option Value) (base : Heap) (k : Nat) (C : Addr) (m : Str) (ps : List Str) (sp : Sp) (dvs : List V) : Prop where
  cl : Cls K C
  ex : ∃ f fd ds, Meth K C m f ∧ FnOk P w K mg base (L2.CX P w) k f fd ps sp ∧ Binds K fd ps ds ∧ Vals dvs ds
def tM (C : Addr) (m : Str) (sp : Sp) (dvs : List V) (W : WX) (ta : TE) (t : TA) : TE := fun σ H Q => ta σ H fun x H1 => ∃ a dx fs, x = .ref a ∧ H1 a = some (.ins C dx fs) ∧ fs.lookup m = none ∧ t σ H1 fun vs H2 => sp (x :: (vs ++ dvs)) H2 Q (WE W σ)
theorem pe_mf {pl : Sem Bool} (c : Mt X.prog X.w X.K X.mg X.base k C m ps sp dvs) (tk : Takes X W) (hr : Room j X.A) (hk : k ≤ j) (he : PE X o ta) (ha : PA X (e :: es) t)
    (hst : starEach (e :: es) X.env = (false, eval e X.env) :: starEach es X.env := by rfl) (hpl : (backTo pos (starEach es X.env)).any (·.1) = false := by rfl)
    (ht : eval (.Call (.Attribute o m apos) (e :: es) [] pos) X.env = (do
      let v ← eval o X.env
      standAt apos.atName
      let (g, first) ← holding [v] (getMethod v m pl)
      callWith pos g first (backTo pos (starEach (e :: es) X.env)) (backToKw pos (keywordEach [] X.env))) := by rfl) :
    PE X (.Call (.Attribute o m apos) (e :: es) [] pos) (tM C m sp dvs W ta t) := by
  obtain ⟨f, fd, ds, hm, F, hb, hd⟩ := c.ex
  refine ⟨fun pins s σ H Q I h => PySem.W.methodCall_KW (pl := pl) (thn (he.run pins s σ H _ I h) fun u s1 ⟨x, H1, I1, rx, a, dx, fs, ex, ea, l, q⟩ => ?_) ht⟩
  subst ex
  obtain rfl : u = Value.ref a := rx
  refine getmeth_ok I1 ea c.cl hm l ?_
  refine PySem.W.callWith_K (h₀ := X.base) I1.ok.mod.kin hm.kp (thn (ha.run pos pins s1 σ H1 _ I1 q) fun us s2 ⟨vs, H2, I2, r, q2⟩ => ⟨I2.kIn, ?_⟩) hst hpl
  exact run_dv (vs := .ref a :: vs) F (hr.mono hk) hb hd tk I2 (.cons rfl r) q2
/-- a new instance of the class x at C -/
structure Mkr (P : Program) (w : World) (K : PySem.W.Frag) (mg : Str → Option Value) (base : Heap) (k : Nat) (x : Str) (C : Addr) (ps : List Str) (sp : Sp) : Prop where
  gC : mg x = some (.ref C)
  ex : ∃ f fd, Mk K C f ∧ FnOk P w K mg base (L2.CX P w) k f fd ps sp ∧ Binds K fd ps []
theorem pe_mkf (c : Mkr X.prog X.w X.K X.mg X.base k x C ps sp) (hr : Room j X.A) (hk : k + 1 ≤ j) (hg : Gl X x) (ha : PA X (e :: es) t) (hdb : (x == ("__debug__" : Str)) = false := by decide)
    (he : starEach (e :: es) X.env = (false, eval e X.env) :: starEach es X.env := by rfl) (hpl : (backTo pos (starEach es X.env)).any (·.1) = false := by rfl) : PE X (.Call (.Name x p) (e :: es) [] pos) (tMake C sp [] E0 t) := by
  obtain ⟨f, fd, M, F, hb⟩ := c.ex
  exact pe_make M F (hr.mono hk) hg c.gC hb .nil passL ha hdb he hpl
/-- an own error made by C(e, ..) -/
structure Mke (P : Program) (w : World) (K : PySem.W.Frag) (mg : Str → Option Value) (base : Heap) (k : Nat) (x : Str) (C : Addr) (ps : List Str) (sp : Sp) : Prop where
  gC : mg x = some (.ref C)
  ox : OexC K C
  ex : ∃ f fd, PySem.W.findIn K (.ref C) "__init__" = some (some (.ref f)) ∧ PySem.W.typeIn K (.ref f) = some (.type "function") ∧ FnOk P w K mg base (L2.CX P w) k f fd ps sp ∧ Binds K fd ps []
theorem pmk_err (c : Mke X.prog X.w X.K X.mg X.base k x C ps sp) (hr : Room j X.A) (hk : k + 1 ≤ j) (hg : Gl X x) (ha : PA X (e :: es) t) (hdb : (x == ("__debug__" : Str)) = false := by decide)
    (he : starEach (e :: es) X.env = (false, eval e X.env) :: starEach es X.env := by rfl) (hpl : (backTo pos (starEach es X.env)).any (·.1) = false := by rfl) : PMk X (.Call (.Name x p) (e :: es) [] pos) (tMkO C sp [] t) := by
  obtain ⟨f, fd, hi, ht, F, hb⟩ := c.ex
  exact pmk_oex c.ox hi ht F (hr.mono hk) hb .nil passL hg c.gC ha hdb he hpl
end
/-! ### what is frozen: F, a part of the heap that stays; m: what may be changed -/
structure Stm (m : Addr → Prop) (F H F' H' : Hp) : Prop where
  ff : Same F F'
  fh : Same F' H'
  hh : ∀ a o, ¬ m a → H a = some o → H' a = some o
  nw : ∀ a, F a = none → H a ≠ none → F' a = none
abbrev Stp := Stm (fun _ => False)
section
variable {m m' : Addr → Prop} {F H F' H' F2 H2 : Hp} {p : Addr} {o : HO}
theorem Stm.refl (h : Same F H) : Stm m F H F H := ⟨Same.refl F, h, fun _ _ _ e => e, fun _ n _ => n⟩
theorem Stm.mono (a : Stm m F H F' H') (h : ∀ x, m x → m' x) : Stm m' F H F' H' := ⟨a.ff, a.fh, fun x o n e => a.hh x o (fun z => n (h x z)) e, a.nw⟩
theorem Stm.any (a : Stp F H F' H') : Stm m F H F' H' := a.mono fun _ z => z.elim
theorem Stm.same (a : Stp F H F' H') : Same H H' := fun x o e => a.hh x o (fun z => z) e
theorem Stm.there (a : Stm m F H F' H') (hm : ∀ x, m x → H x ≠ none → H' x ≠ none) {x : Addr} (h : H x ≠ none) : H' x ≠ none := by
  by_cases q : m x
  · exact hm x q h
  · cases e : H x with
    | none => exact absurd e h
    | some o => rw [a.hh x o q e]; exact fun z => nomatch z
theorem Stm.trans (a : Stm m F H F' H') (b : Stm m F' H' F2 H2) (hm : ∀ x, m x → H x ≠ none → H' x ≠ none) : Stm m F H F2 H2 :=
  ⟨a.ff.trans b.ff, b.fh, fun x o n e => b.hh x o n (a.hh x o n e), fun q n z => b.nw q (a.nw q n z) (a.there hm z)⟩
theorem Stm.transP (a : Stp F H F' H') (b : Stp F' H' F2 H2) : Stp F H F2 H2 := a.trans b fun _ z => z.elim
theorem same_new (h : H p = none) : Same H (upd H p o) := fun b u e => by rw [upd_ne (ne_of_none e h)]; exact e
/-- a new thing is laid, and frozen at once -/
theorem Stm.new (a : Stm m F H F' H') (hp : H' p = none) (h0 : H p = none) : Stm m F H (upd F' p o) (upd H' p o) where
  ff := a.ff.trans (same_new (a.fh.free hp))
  fh := fun b u e => by
    by_cases hb : b = p
    · subst hb; rw [upd_same] at e ⊢; exact e
    · rw [upd_ne hb] at e ⊢; exact a.fh b u e
  hh := fun x u n e => by rw [upd_ne (ne_of_none e h0)]; exact a.hh x u n e
  nw := fun x n z => by rw [upd_ne (fun q => z (by rw [q]; exact h0))]; exact a.nw x n z
/-- a new thing is laid that is to be changed further -/
theorem Stm.raw (a : Stm m F H F' H') (hp : H' p = none) (h0 : H p = none) : Stm m F H F' (upd H' p o) := ⟨a.ff, a.fh.trans (same_new hp), fun x u n e => by rw [upd_ne (ne_of_none e h0)]; exact a.hh x u n e, a.nw⟩
/-- a thing of the def's own is changed -/
theorem Stm.mut (a : Stm m F H F' H') (hf : F' p = none) (h0 : H p = none) : Stm m F H F' (upd H' p o) := ⟨a.ff, fun b u e => by rw [upd_ne (ne_of_none e hf)]; exact a.fh b u e, fun x u n e => by rw [upd_ne (ne_of_none e h0)]; exact a.hh x u n e, a.nw⟩
/-- a thing of the def's own stays from now on -/
theorem Stm.freeze (a : Stm m F H F' H') (hf : F' p = none) (h0 : H p = none) (e : H' p = some o) : Stm m F H (upd F' p o) H' where
  ff := a.ff.trans (same_new hf)
  fh := fun b u q => by
    by_cases hb : b = p
    · subst hb; rw [upd_same] at q; rw [e]; exact q
    · rw [upd_ne hb] at q; exact a.fh b u q
  hh := a.hh
  nw := fun x n z => by rw [upd_ne (fun q => z (by rw [q]; exact h0))]; exact a.nw x n z
/-- fresh now is fresh at the start, where what may change is there -/
theorem Stm.fresh (a : Stm m F H F' H') (hm : ∀ x, m x → H' x ≠ none) {x : Addr} (h : H' x = none) : H x = none := by
  by_cases q : m x
  · exact absurd h (hm x q)
  · cases e : H x with
    | none => rfl
    | some o => rw [a.hh x o q e] at h; cases h
theorem Stm.freshP (a : Stp F H F' H') {x : Addr} (h : H' x = none) : H x = none := a.fresh (fun _ z => z.elim) h
theorem Stm.newP (a : Stp F H F' H') (hp : H' p = none) : Stp F H (upd F' p o) (upd H' p o) := a.new hp (a.freshP hp)
theorem stp_new (h : Same F H) (hp : H p = none) : Stp F H (upd F p o) (upd H p o) := (Stm.refl h).newP hp
end
theorem upT {K : PySem.W.Frag} {H H' : Hp} {a : Addr} {xs : List V} (e : Same H H') (h : SqT K H a xs) : SqT K H' a xs := h.ext e
theorem upL {K : PySem.W.Frag} {H H' : Hp} {a : Addr} {xs : List V} (e : Same H H') (h : SqL K H a xs) : SqL K H' a xs := h.ext e
theorem sq_new {K : PySem.W.Frag} {H : Hp} {p : Addr} {xs : List V} : SqT K (upd H p (.tup xs)) p xs := SqT.of upd_same
/-- what a def promises that changes nothing: a part of the heap stays, the answer stands in it -/
def Pu (F H : Hp) (Q : VK) (post : Hp → V → Prop) : Prop := Same F H ∧ ∀ F' H' v, Stp F H F' H' → post F' v → Q v H'
theorem iteY {c A B : Prop} [Decidable c] (h : c) (x : A) : if c then A else B := by rw [if_pos h]; exact x
theorem iteN {c A B : Prop} [Decidable c] (h : ¬ c) (x : B) : if c then A else B := by rw [if_neg h]; exact x
theorem vint_ne {a b : Int} (h : a ≠ b) : ¬ decide (V.int a = V.int b) = true := fun z => h (V.int.inj (of_decide_eq_true z))
theorem vint_eq {a b : Int} (h : a = b) : decide (V.int a = V.int b) = true := decide_eq_true (congrArg V.int h)
/-! ### // by any divisor but 0 -/
def CDivX (_ j : Int) : Prop := j ≠ 0 ∧ j.natAbs.log2 < 9000
theorem op_fdivX {X : Cx} : OpR X (binaryOp .FloorDiv) (rI CDivX fun i j => .int (i.fdiv j)) := opI fun _ _ _ _ _ _ _ hc q => floordiv_int hc.1 q (.inl (PyProof.noPylong_of_log2 hc.2))
end Ew

set_option Elab.async false
set_option linter.all false
set_option maxRecDepth 100000
set_option maxHeartbeats 4000000
namespace Ew
open PySem PySem.Spec PyProof.Rows L2
/-- an error's __init__ that keeps its one argument (its two) -/
def spI1 (C : Addr) (f : Str) : Sp := fun vs H Q _ => ∃ x v, vs = [.ref x, v] ∧ H x = some (exo x C none) ∧ ∀ dx, H dx = none → dx ≠ x → Q .non (upd (upd H dx (exd dx [(f, v)])) x (exo x C (some dx)))
def spI2 (C : Addr) (f g : Str) : Sp := fun vs H Q _ => ∃ x u v, vs = [.ref x, u, v] ∧ H x = some (exo x C none) ∧
  ∀ dx, H dx = none → dx ≠ x → Q .non (upd (upd (upd H dx (exd dx [(f, u)])) x (exo x C (some dx))) dx (exd dx [(g, v), (f, u)]))
theorem back1 {H : Hp} {a d : Addr} {o1 o2 o3 o4 : HO} (ha : H a = none) (h : d ≠ a) : upd (del (upd (upd (upd H a o1) d o2) a o3) a) d o4 = upd H d o4 := by
  funext b
  by_cases e : b = d
  · subst e; rw [upd_same, upd_same]
  · rw [upd_ne e, upd_ne e]
    by_cases e2 : b = a
    · subst e2; rw [del_same, ha]
    · rw [del_ne e2, upd_ne e2, upd_ne e, upd_ne e2]
theorem back2 {H : Hp} {a d : Addr} {o1 o2 o3 o4 o5 : HO} (ha : H a = none) (h : d ≠ a) : upd (del (upd (upd (upd (upd H a o1) d o2) a o3) d o5) a) d o4 = upd H d o4 := by
  funext b
  by_cases e : b = d
  · subst e; rw [upd_same, upd_same]
  · rw [upd_ne e, upd_ne e]
    by_cases e2 : b = a
    · subst e2; rw [del_same, ha]
    · rw [del_ne e2, upd_ne e, upd_ne e2, upd_ne e, upd_ne e2]
section
variable {X : Cx} {k j : Nat} {x f g : Str} {ps : List Str} {e e2 : Expr} {te te2 : TE} {p pos pos2 : Pos} {W : WX} {C : Addr}
def tR1 (C : Addr) (f : Str) (W : WX) (te : TE) : TS := fun _ σ H => te σ H fun v H1 => ∀ d, H1 d = none → W (.ref C) (some d) σ (upd H1 d (.xd [(f, v)]))
def tR2 (C : Addr) (f g : Str) (W : WX) (te te2 : TE) : TS := fun _ σ H => te σ H fun u H1 => te2 σ H1 fun v H2 => ∀ d, H2 d = none → W (.ref C) (some d) σ (upd H2 d (.xd [(g, v), (f, u)]))
theorem ps_weak {st : Stmt} {t t' : TS} (h : PS X st t) (q : ∀ D σ H, t' D σ H → t D σ H) : PS X st t' := ⟨fun pins s σ H D I z => h.run pins s σ H D I (q D σ H z)⟩
end
/-- te says what it says of more, too -/
def TeMono (te : TE) : Prop := ∀ σ H (Q Q' : VK), (∀ v H', Q v H' → Q' v H') → te σ H Q → te σ H Q'
theorem pe_up {X : Cx} {e : Expr} {te : TE} (h : PE X e te) : PE X e fun σ H Q => ∃ Q', (∀ v H', Q' v H' → Q v H') ∧ te σ H Q' := ⟨fun pins s σ H Q I ⟨Q', q, z⟩ => thn (h.run pins s σ H Q' I z) fun _ _ ⟨v, H', I', r, y⟩ => ⟨v, H', I', r, q v H' y⟩⟩
section
variable {X : Cx} {k j : Nat} {x f g : Str} {ps : List Str} {e e2 : Expr} {te te2 : TE} {p pos pos2 : Pos} {W : WX} {C : Addr}
theorem ps_raise1 (hc : X.calm = true) (tk : Takes X W) (c : Mke X.prog X.w X.K X.mg X.base k x C ps (spI1 C f)) (hr : Room j X.A) (hk : k + 1 ≤ j) (hg : Gl X x) (he : PE X e te) (hdb : (x == ("__debug__" : Str)) = false := by decide)
    (hs : starEach [e] X.env = [(false, eval e X.env)] := by rfl) (hpl : (backTo pos (starEach ([] : List Expr) X.env)).any (·.1) = false := by rfl) : PS X (.Raise (some (.Call (.Name x p) [e] [] pos)) none pos2) (tR1 C f W te) := by
  refine ps_weak (ps_raise hc tk (pmk_err c hr hk hg (pa_cons (pe_up he) pa_nil hs) hdb hs hpl)) fun D σ H h => ⟨_, fun v H1 z => ?_, h⟩
  refine ⟨Nat.le_of_ble_eq_true rfl, fun a ha => ⟨a, v, rfl, upd_same, fun dx n ne => ⟨rfl, dx, [(f, v)], upd_same, ?_, ?_, ?_⟩⟩⟩
  · rw [upd_ne ne, upd_same]
  · rw [upd_ne ne] at n; exact n
  · rw [back1 ha ne]
    rw [upd_ne ne] at n
    exact z dx n
theorem ps_raise2 (hc : X.calm = true) (tk : Takes X W) (c : Mke X.prog X.w X.K X.mg X.base k x C ps (spI2 C f g)) (hr : Room j X.A) (hk : k + 1 ≤ j) (hg : Gl X x) (he : PE X e te) (he2 : PE X e2 te2) (hdb : (x == ("__debug__" : Str)) = false := by decide)
    (hs : starEach [e, e2] X.env = [(false, eval e X.env), (false, eval e2 X.env)] := by rfl) (hs2 : starEach [e2] X.env = [(false, eval e2 X.env)] := by rfl) (hpl : (backTo pos (starEach [e2] X.env)).any (·.1) = false := by rfl) :
    PS X (.Raise (some (.Call (.Name x p) [e, e2] [] pos)) none pos2) (tR2 C f g W te te2) := by
  have hs' : starEach [e, e2] X.env = (false, eval e X.env) :: starEach [e2] X.env := by rw [hs, hs2]
  refine ps_weak (ps_raise hc tk (pmk_err c hr hk hg (pa_cons (pe_up he) (pa_cons (pe_up he2) pa_nil hs2) hs') hdb hs' hpl)) fun D σ H h => ⟨_, fun u H1 y => ⟨_, fun v H2 z => ?_, y⟩, h⟩
  refine ⟨Nat.le_of_ble_eq_true rfl, fun a ha => ⟨a, u, v, rfl, upd_same, fun dx n ne => ⟨rfl, dx, [(g, v), (f, u)], ?_, upd_same, ?_, ?_⟩⟩⟩
  · rw [upd_ne (Ne.symm ne), upd_same]
  · rw [upd_ne ne] at n; exact n
  · rw [back2 ha ne]
    rw [upd_ne ne] at n
    exact z dx n
end
/-- what a def promises of an error that leaves it -/
def Ra (F H : Hp) (E : XK) (C : Addr) (post : Hp → Addr → Prop) : Prop := ∀ F' H' d, Stp F H F' H' → post F' d → E (.ref C) (some d) H'
theorem ty_sqT {K : PySem.W.Frag} {H : Hp} {p : Addr} {xs : List V} (h : SqT K H p xs) : TyX K H (.ref p) (.type "tuple") := by
  rcases h with (h | ⟨o, h⟩) | h
  · exact .base (.tup h)
  · exact .fTuple h
  · obtain ⟨o, its, n, e, c, _⟩ := h
    exact .kTuple e c
theorem ty_sqL {K : PySem.W.Frag} {H : Hp} {p : Addr} {xs : List V} (h : SqL K H p xs) : TyX K H (.ref p) (.type "list") := by
  rcases h with (h | ⟨o, h⟩) | h
  · exact .base (.lst h)
  · exact .base (.frz h)
  · obtain ⟨o, its, n, e, c, _⟩ := h
    exact .kList e c
end Ew

set_option Elab.async false
set_option linter.all false
set_option maxRecDepth 100000
set_option maxHeartbeats 4000000
namespace Ew
open PySem PySem.Spec PyProof.Rows L2
/-- what may be changed (m), and what stays true of it (I) -/
structure Mem (m : Addr → Prop) (I : Hp → Hp → Prop) : Prop where
  there : ∀ {F H x}, I F H → m x → H x ≠ none
  off : ∀ {F H x}, I F H → m x → F x = none
  put : ∀ {F H p o}, I F H → ¬ m p → I F (upd H p o)
  grow : ∀ {F F' H}, I F H → Same F F' → (∀ x, m x → F' x = none) → I F' H
theorem memP : Mem (fun _ => False) (fun _ _ => True) := ⟨fun _ z => z.elim, fun _ z => z.elim, fun _ _ => trivial, fun _ _ _ => trivial⟩
section
variable {m : Addr → Prop} {I : Hp → Hp → Prop} {F H F' H' F2 H2 : Hp} {J : It} {n : Nat} {G : Hp → Prop} {Y : Nat → Hp → V → Hp → Prop}
theorem Stm.then (M : Mem m I) (i : I F' H') (a : Stm m F H F' H') (b : Stm m F' H' F2 H2) : Stm m F H F2 H2 := a.trans b fun _ z _ => M.there i z
/-- a comprehension: each turn gives one item, of which R says what is wanted; the new list is frozen at the end -/
theorem lcM (M : Mem m I) (w : Walk J n G Y) {g : TG} {tt : TT} {te : TE} {vs : List Nat} {σ : L2.St} {D : Addr} {Qd : Hp → Prop} (hf : Same F H) (i0 : I F H) (hD : H D = none) (R : Nat → Hp → V → Prop) (hR : ∀ i F F' y, Same F F' → R i F y → R i F' y)
    (hn : n ≤ 1000000) (hG : ∀ F' H', Same F F' → Same F' H' → G H')
    (hs : ∀ i x F' H' H'' (Kt : VK) (Kn : Hp → Prop), i < n → Stm m F H F' H' → I F' H' → Y i H' x H'' → (∀ y F4 H4, Stm m F' H' F4 H4 → I F4 H4 → R i F4 y → Kt y H4) →
      g x (wipe σ vs) H'' fun σ2 H2 => wipe σ2 vs = wipe σ vs ∧ tt σ2 H2 fun b H3 => if b = true then te σ2 H3 Kt else Kn H3)
    (hd : ∀ F' H' ys, Stm m F H F' H' → I F' H' → F' D = some (.lst ys) → ys.length = n → (∀ j y, ys[j]? = some y → R j F' y) → Qd H') :
    ∃ W : Nat → Nat → Hp → Prop, (∃ k, W 0 k (upd H D (.lst []))) ∧ ∀ i k H, W i k H →
      (J.stop i H ∧ Qd H) ∨ (J.go i H ∧ ∃ Nx : Hp → Prop, (∀ H', Nx H' → ∃ k', k' < k ∧ W (i + 1) k' H') ∧ ∀ x H', J.yld i H x H' → g x (wipe σ vs) H' fun σ2 H2 => wipe σ2 vs = wipe σ vs ∧ tt σ2 H2 fun b H3 =>
        if b = true then te σ2 H3 fun y H4 => ∃ acc, H4 D = some (.lst acc) ∧ acc.length < sizeLine ∧ Nx (upd H4 D (.lst (acc ++ [y]))) else Nx H3) := by
  have nm : ¬ m D := fun z => M.there i0 z hD
  have fD : F D = none := hf.free hD
  refine lc_it w (fun i H' => ∃ F' acc, Stm m F H F' H' ∧ I F' H' ∧ F' D = none ∧ H' D = some (.lst acc) ∧ acc.length = i ∧ ∀ j y, acc[j]? = some y → R j F' y) ?_ ?_ ?_ ?_
  · exact ⟨F, [], (Stm.refl hf).raw hD hD, M.put i0 nm, fD, upd_same, rfl, fun j y z => by simp at z⟩
  · rintro i H' _ ⟨F', acc, s, _⟩
    exact hG F' H' s.ff s.fh
  · rintro i x H' H'' hi ⟨F', acc, s, iv, f', h', hl, hr⟩ y
    refine hs i x F' H' H'' _ _ hi s iv y fun y F4 H4 s4 i4 r4 => ?_
    have f4 : F4 D = none := s4.nw D f' (by rw [h']; exact fun z => nomatch z)
    have h4 : H4 D = some (.lst acc) := s4.hh D _ nm h'
    refine ⟨acc, h4, by rw [sizeLine_eq]; omega, F4, acc ++ [y], (s.then M iv s4).mut f4 hD, M.put i4 nm, f4, upd_same, by rw [List.length_append, hl]; rfl, fun j z hz => ?_⟩
    rcases Nat.lt_or_ge j acc.length with hj | hj
    · rw [List.getElem?_append_left hj] at hz
      exact hR j F' F4 z s4.ff (hr j z hz)
    · rw [List.getElem?_append_right hj] at hz
      have e0 : j - acc.length = 0 := by
        rcases Nat.eq_zero_or_pos (j - acc.length) with h0 | h0
        · exact h0
        · rw [List.getElem?_eq_none (by simp; omega)] at hz; cases hz
      rw [e0] at hz
      cases hz
      have ej : j = i := by omega
      rw [ej]
      exact r4
  · rintro H' ⟨F', acc, s, iv, f', h', hl, hr⟩
    refine hd (upd F' D (.lst acc)) H' acc (s.freeze f' hD h') (M.grow iv (same_new f') fun x hx => ?_) upd_same hl fun j y hy => hR j F' _ y (same_new f') (hr j y hy)
    rw [upd_ne (fun z => nm (by rw [← z]; exact hx))]
    exact M.off iv hx
theorem lc_yes {te : TE} {σ : L2.St} {H : Hp} {Kt : VK} {Kn : Hp → Prop} (h : te σ H Kt) : tYes σ H fun b H3 => if b = true then te σ H3 Kt else Kn H3 := by
  show if true = true then te σ H Kt else Kn H
  rw [if_pos rfl]
  exact h
end
end Ew

set_option Elab.async false
set_option linter.all false
set_option maxRecDepth 100000
set_option maxHeartbeats 4000000
namespace Ew
open PySem PySem.Spec PyProof.Rows L2
/-- a tuple of ints as data -/
def intT (ds : List Int) : PyData := .tuple (ds.map .int)
theorem dpAll_ints {K : PySem.W.Frag} {H : Hp} : ∀ ds : List Int, DpAll K H (ds.map V.int) (ds.map PyData.int)
  | [] => .nil
  | d :: ds => .cons (.int d) (dpAll_ints ds)
theorem dp_ints {K : PySem.W.Frag} {H : Hp} {p : Addr} {ds : List Int} (h : SqT K H p (ds.map V.int)) : Dp K H (.ref p) (intT ds) := .tup h (dpAll_ints ds)
theorem eqvAll_ints : ∀ a b : List Int, PyData.eqvAll (a.map .int) (b.map .int) = decide (a = b)
  | [], [] => rfl
  | [], y :: b => rfl
  | x :: a, [] => rfl
  | x :: a, y :: b => by
    rw [List.map_cons, List.map_cons, PyData.eqvAll, PyData.eqv, eqvAll_ints a b]
    by_cases h : x = y
    · subst h; by_cases h2 : a = b <;> simp [h2]
    · simp [h]
theorem eqv_ints (a b : List Int) : PyData.eqv (intT a) (intT b) = decide (a = b) := by
  unfold intT
  rw [PyData.eqv, eqvAll_ints]
theorem lay_ints : ∀ ds : List Int, PyData.canLayAll0 (ds.map PyData.int) = true
  | [] => by rw [List.map_nil, PyData.canLayAll0]
  | d :: ds => by rw [List.map_cons, PyData.canLayAll0, lay_ints ds, PyData.canLay0, Bool.and_self]
theorem dep_ints : ∀ ds : List Int, PyData.depthAll (ds.map PyData.int) = 0
  | [] => by rw [List.map_nil, PyData.depthAll]
  | d :: ds => by rw [List.map_cons, PyData.depthAll, dep_ints ds, PyData.depth, Nat.max_self]
theorem shaped_ints (ds : List Int) : SeqAt.shaped (intT ds) = true := by
  unfold SeqAt.shaped intT
  rw [PyData.canLay0, lay_ints, PyData.depth, dep_ints]
  rfl
/-! ### ratios -/
/-- at v a pair of ints; a tuple of ints -/
def Rt (K : PySem.W.Frag) (F : Hp) (v : V) (r : Int × Int) : Prop := ∃ p, v = .ref p ∧ SqT K F p [.int r.1, .int r.2]
def Dm (K : PySem.W.Frag) (F : Hp) (v : V) (ds : List Int) : Prop := ∃ p, v = .ref p ∧ SqT K F p (ds.map V.int)
section
variable {K : PySem.W.Frag} {F F' : Hp} {v : V} {r : Int × Int} {ds : List Int}
theorem Rt.up (h : Rt K F v r) (e : Same F F') : Rt K F' v r := by obtain ⟨p, h1, h2⟩ := h; exact ⟨p, h1, upT e h2⟩
theorem Dm.up (h : Dm K F v ds) (e : Same F F') : Dm K F' v ds := by obtain ⟨p, h1, h2⟩ := h; exact ⟨p, h1, upT e h2⟩
theorem Rt.dp (h : Rt K F v r) : Dp K F v (intT [r.1, r.2]) := by obtain ⟨p, rfl, h2⟩ := h; exact dp_ints h2
theorem Dm.dp (h : Dm K F v ds) : Dp K F v (intT ds) := by obtain ⟨p, rfl, h2⟩ := h; exact dp_ints h2
end
/-- the common divisor, with the sign of d -/
def com (n d : Int) : Int := if d < 0 then -((Nat.gcd n.natAbs d.natAbs : Nat) : Int) else ((Nat.gcd n.natAbs d.natAbs : Nat) : Int)
/-- n / d in lowest terms -/
def rat (n d : Int) : Int × Int := (n.fdiv (com n d), d.fdiv (com n d))
/-- size: below 2 ^ b -/
def Sz (b : Nat) (n : Int) : Prop := n.natAbs < 2 ^ b
theorem Sz.mono {a b : Nat} {n : Int} (h : Sz a n) (k : a ≤ b) : Sz b n := Nat.lt_of_lt_of_le h (Nat.pow_le_pow_right (by decide) k)
theorem Sz.log {b : Nat} {n : Int} (h : Sz b n) (h0 : 0 < b) (k : b ≤ 9000) : n.natAbs.log2 < 9000 := Nat.lt_of_lt_of_le (PySem.Flt.log2_lt_of h0 h) k
theorem Sz.mul {a b : Nat} {m n : Int} (h : Sz a m) (k : Sz b n) : Sz (a + b) (m * n) := wide_lt h k
theorem Sz.add {a : Nat} {m n : Int} (h : Sz a m) (k : Sz a n) : Sz (a + 1) (m + n) := by
  unfold Sz at *
  have := Int.natAbs_add_le m n
  rw [Nat.pow_succ]
  omega
theorem Sz.sub {a : Nat} {m n : Int} (h : Sz a m) (k : Sz a n) : Sz (a + 1) (m - n) := by
  unfold Sz at *
  rw [Nat.pow_succ]
  omega
theorem Sz.neg {a : Nat} {m : Int} (h : Sz a m) : Sz a (-m) := by
  unfold Sz at *
  rwa [Int.natAbs_neg]
theorem com_ne {n d : Int} (h : d ≠ 0) : com n d ≠ 0 := by
  have g : 0 < Nat.gcd n.natAbs d.natAbs := Nat.gcd_pos_of_pos_right _ (by omega)
  unfold com
  split <;> omega
theorem com_abs (n d : Int) : (com n d).natAbs = Nat.gcd n.natAbs d.natAbs := by
  unfold com
  split <;> simp
theorem com_sz {n d : Int} {b : Nat} (h0 : d ≠ 0) (h : Sz b d) : Sz b (com n d) := by
  unfold Sz
  rw [com_abs]
  exact Nat.lt_of_le_of_lt (Nat.gcd_le_right _ (by omega)) h
theorem com_dn (n d : Int) : com n d ∣ n := by
  rw [← Int.natAbs_dvd_natAbs, com_abs]
  exact Nat.gcd_dvd_left _ _
theorem com_dd (n d : Int) : com n d ∣ d := by
  rw [← Int.natAbs_dvd_natAbs, com_abs]
  exact Nat.gcd_dvd_right _ _
theorem fdiv_abs {n c : Int} (h : c ∣ n) : (n.fdiv c).natAbs = n.natAbs / c.natAbs := by
  obtain ⟨k, rfl⟩ := h
  by_cases h0 : c = 0
  · subst h0; simp
  · rw [Int.mul_fdiv_cancel_left _ h0, Int.natAbs_mul, Nat.mul_div_cancel_left _ (by omega)]
theorem Sz.fdiv {n c : Int} {b : Nat} (h : Sz b n) (hd : c ∣ n) : Sz b (n.fdiv c) := by
  unfold Sz
  rw [fdiv_abs hd]
  exact Nat.lt_of_le_of_lt (Nat.div_le_self _ _) h
theorem rat_sz {n d : Int} {b : Nat} (h1 : Sz b n) (h2 : Sz b d) : Sz b (rat n d).1 ∧ Sz b (rat n d).2 := ⟨h1.fdiv (com_dn n d), h2.fdiv (com_dd n d)⟩
theorem rat_pos {n d : Int} (h : d ≠ 0) : 0 < (rat n d).2 := by
  show 0 < d.fdiv (com n d)
  have g : 0 < Nat.gcd n.natAbs d.natAbs := Nat.gcd_pos_of_pos_right _ (by omega)
  obtain ⟨k, hk⟩ := com_dd n d
  have hc := com_ne (n := n) h
  have e : d.fdiv (com n d) = k := by
    conv => lhs; lhs; rw [hk]
    rw [Int.mul_fdiv_cancel_left _ hc]
  rw [e]
  unfold com at hk
  split at hk
  · rename_i hd
    rcases Int.lt_trichotomy k 0 with q | q | q
    · have : 0 < -((Nat.gcd n.natAbs d.natAbs : Nat) : Int) * k := Int.mul_pos_of_neg_of_neg (by omega) q
      omega
    · subst q; simp at hk; omega
    · exact q
  · rename_i hd
    rcases Int.lt_trichotomy k 0 with q | q | q
    · have : ((Nat.gcd n.natAbs d.natAbs : Nat) : Int) * k < 0 := Int.mul_neg_of_pos_of_neg (by omega) q
      omega
    · subst q; simp at hk; omega
    · exact q
theorem rat_cop {n d : Int} (h : d ≠ 0) : Nat.gcd (rat n d).1.natAbs (rat n d).2.natAbs = 1 := by
  show Nat.gcd (n.fdiv (com n d)).natAbs (d.fdiv (com n d)).natAbs = 1
  rw [fdiv_abs (com_dn n d), fdiv_abs (com_dd n d), com_abs]
  exact Nat.gcd_div_gcd_div_gcd_of_pos_right (by omega)
end Ew

set_option Elab.async false
set_option linter.all false
set_option maxRecDepth 100000
set_option maxHeartbeats 4000000
namespace Ew
open PySem PySem.Spec PyProof.Rows L2
/-- a static method m of the class at C: what stands at p holds the def at g -/
structure StM (K : PySem.W.Frag) (C : Addr) (mc : Value) (m : Str) (p g : Addr) : Prop where
  rd : ClX.CRead K C mc
  off : PySem.W.findCls K (.ref C) mc m = some (.get (.builtin "staticmethod.__get__") (.ref p) .none (.ref C))
  rc : ∃ rest, PySem.W.recIn K p "staticmethod" = some (.ref g :: rest)
  kp : PySem.W.keepIn K (.ref g) = true
  pg : PySem.W.plainGet K C Str.empty = true
  ic : PySem.W.isClsIn K C = true
  at_ : PySem.W.findIn K (.ref C) m = some (some (.ref p))
  ty : PySem.W.typeIn K (.ref p) = some (.type "staticmethod")
  gt : PySem.W.specialIn K (.ref p) "__get__" = some (some (.builtin "staticmethod.__get__"))
  tk : PySem.W.takesIn K (.ref p) = some false
  cp : PySem.W.copiedNames.contains m = false
section
variable {X : Cx} {pins : List (Addr × Obj)} {σ : L2.St} {H : Hp} {s : Shared} {b C p g : Addr} {mc : Value} {m : Str} {A : Around} {E : Value → Shared → Prop}
theorem sm_off {pl : Sem Bool} {Q : Value × List Value → Shared → Prop} (I : Inv X pins σ H s) (k : StM X.K C mc m p g) (h : ∀ s', Inv X pins σ H s' → Q (.ref g, []) s') : wpAny (model X.prog X.w) A (getMethod (.ref C) m pl) Q E s := by
  obtain ⟨rest, hp⟩ := k.rc
  exact PySem.W.method_cls I.kIn k.rd.ga (PySem.W.cls_bind I.kIn k.rd.rd k.off (wpAny_call (PySem.W.sm_get (s := { s with toks := s.toks + 1 }) I.kIn hp (PySem.W.handed_on rfl (h _ (I.tok _))))))
theorem sm_on {pl : Sem Bool} {ox od : Obj} {Q : Value × List Value → Shared → Prop} (I : Inv X pins σ H s) (J : PySem.W.InstAt s.heap b ox C (some od)) (hl : PySem.W.lookIn m od = some none) (k : StM X.K C mc m p g)
    (h : ∀ s', Inv X pins σ H s' → Q (.ref g, []) s') : wpAny (model X.prog X.w) A (getMethod (.ref b) m pl) Q E s := by
  obtain ⟨rest, hp⟩ := k.rc
  have pg : PySem.W.plainGet X.K C m = true := k.pg
  refine PySem.W.method_usual (r := some (.ref p)) I.kIn J (PySem.W.plainGet_of pg).1 (PySem.W.plainGet_of pg).2 k.at_ ?_ (PySem.W.get_bind I.kIn J (PySem.W.plainGet_of pg).1 (ClX.find_cm k.ic k.at_ k.gt k.tk k.cp hl) (PySem.W.plainGet_of pg).2
    (wpAny_call (PySem.W.sm_get (s := { s with toks := s.toks + 1 }) I.kIn hp (PySem.W.handed_on rfl (h _ (I.tok _))))))
  rw [Option.all_some, k.ty]
  decide +kernel
variable {k j : Nat} {fd : FuncData} {ps : List Str} {sp : Sp} {e o : Expr} {es : List Expr} {t : TA} {ta : TE} {pos apos : Pos} {W : WX}
/-- C.m(e, ..), o.m(e, ..), m a static method -/
structure Sm (P : Program) (w : World) (K : PySem.W.Frag) (mg : Str → Option Value) (base : Heap) (k : Nat) (C : Addr) (m : Str) (ps : List Str) (sp : Sp) : Prop where
  ex : ∃ mc p g fd, StM K C mc m p g ∧ FnOk P w K mg base (L2.CX P w) k g fd ps sp ∧ Binds K fd ps []
def tSm (K : PySem.W.Frag) (C : Addr) (m : Str) (sp : Sp) (W : WX) (ta : TE) (t : TA) : TE := fun σ H Q => ta σ H fun x H1 => (x = .ref C ∨ ∃ b dx fs, x = .ref b ∧ H1 b = some (.ins C dx fs) ∧ fs.lookup m = none) ∧ t σ H1 fun vs H2 => sp vs H2 Q (WE W σ)
theorem pe_sm {pl : Sem Bool} (c : Sm X.prog X.w X.K X.mg X.base k C m ps sp) (tk : Takes X W) (hr : Room j X.A) (hk : k ≤ j) (he : PE X o ta) (ha : PA X (e :: es) t)
    (hst : starEach (e :: es) X.env = (false, eval e X.env) :: starEach es X.env := by rfl) (hpl : (backTo pos (starEach es X.env)).any (·.1) = false := by rfl)
    (ht : eval (.Call (.Attribute o m apos) (e :: es) [] pos) X.env = (do
      let v ← eval o X.env
      standAt apos.atName
      let (g, first) ← holding [v] (getMethod v m pl)
      callWith pos g first (backTo pos (starEach (e :: es) X.env)) (backToKw pos (keywordEach [] X.env))) := by rfl) :
    PE X (.Call (.Attribute o m apos) (e :: es) [] pos) (tSm X.K C m sp W ta t) := by
  obtain ⟨mc, p, g, fd, S, F, hb⟩ := c.ex
  refine ⟨fun pins s σ H Q I h => PySem.W.methodCall_KW (pl := pl) (thn (he.run pins s σ H _ I h) fun u s1 ⟨x, H1, I1, rx, ex, q⟩ => ?_) ht⟩
  have go : ∀ s', Inv X pins σ H1 s' → wpAny (model X.prog X.w) X.A (callWith pos (.ref g) [] (backTo pos (starEach (e :: es) X.env)) (backToKw pos (keywordEach [] X.env))) (EP X pins σ Q) X.xe s' := fun s' I' =>
    PySem.W.callWith_K (h₀ := X.base) I'.ok.mod.kin S.kp (thn (ha.run pos pins s' σ H1 _ I' q) fun us s2 ⟨vs, H2, I2, r, q2⟩ => ⟨I2.kIn, run_dv F (hr.mono hk) hb .nil tk I2 r (by rw [List.append_nil]; exact q2)⟩) hst hpl
  rcases ex with rfl | ⟨b, dx, fs, rfl, eb, l⟩
  · obtain rfl : u = Value.ref C := rx
    exact sm_off I1 S fun s' I' => go s' I'
  · obtain rfl : u = Value.ref b := rx
    obtain ⟨mA, O, rr, _, _, _⟩ := ins_get I1.hok eb
    obtain ⟨od, J, hl⟩ := O.look
    have hn : mA m = none := RelO.none_of (by rw [← l]; exact rr m)
    exact sm_on I1 J (by rw [hl m, hn]) S fun s' I' => go s' I'
end
/-! ### methods as they stand behind the top -/
structure MthAt (K : PySem.W.Frag) (C : Addr) (m q : Str) (st : Stmt) (ps : List Str) : Prop where
  ex : ∃ f fd, Meth K C m f ∧ Fun K m q st f fd ∧ Binds K fd ps []
structure OpAt (K : PySem.W.Frag) (C : Addr) (m x q : Str) (st : Stmt) (ps : List Str) : Prop where
  ex : ∃ f fd, OpM K C m f ∧ Fun K x q st f fd ∧ Binds K fd ps []
structure MkAt (K : PySem.W.Frag) (C : Addr) (q : Str) (st : Stmt) (ps : List Str) : Prop where
  ex : ∃ f fd, Mk K C f ∧ Fun K "__init__" q st f fd ∧ Binds K fd ps []
structure SmAt (K : PySem.W.Frag) (C : Addr) (m q : Str) (st : Stmt) (ps : List Str) : Prop where
  ex : ∃ mc p g fd, StM K C mc m p g ∧ Fun K m q st g fd ∧ Binds K fd ps []
/-- an own operator's method, its promise -/
structure OpC (P : Program) (w : World) (K : PySem.W.Frag) (mg : Str → Option Value) (base : Heap) (k : Nat) (C : Addr) (m : Str) (ps : List Str) (sp : Sp) : Prop where
  sf : PySem.W.selfFirst K C = true
  ex : ∃ f fd, OpM K C m f ∧ FnOk P w K mg base (L2.CX P w) k f fd ps sp ∧ Binds K fd ps []
section
variable {X : Cx} {k j : Nat} {C : Addr} {ps : List Str} {sp : Sp} {e1 e2 : Expr} {ta tb : TE} {pos : Pos} {W : WX}
theorem pe_bop {op : Operator} (c : OpC X.prog X.w X.K X.mg X.base k C (PySem.dunder op.info.2) ps sp) (tk : Takes X W) (hr : Room j X.A) (hk : k ≤ j) (h1 : PE X e1 ta) (h2 : PE X e2 tb) : PE X (.BinOp e1 op e2 pos) (tBinO C sp (WE W) ta tb) := by
  obtain ⟨f, fd, M, F, hb⟩ := c.ex
  exact pe_binO F (hr.mono hk) M c.sf hb (fun σ => passAt tk σ) h1 h2
theorem pe_nop (c : OpC X.prog X.w X.K X.mg X.base k C "__neg__" ps sp) (tk : Takes X W) (hr : Room j X.A) (hk : k ≤ j) (h1 : PE X e1 ta) : PE X (.UnaryOp .USub e1 pos) (tNegO C sp (WE W) ta) := by
  obtain ⟨f, fd, M, F, hb⟩ := c.ex
  exact pe_negO F (hr.mono hk) M hb (fun σ => passAt tk σ) h1
theorem pc_eop (c : OpC X.prog X.w X.K X.mg X.base k C "__eq__" ps sp) (tk : Takes X W) (hr : Room j X.A) (hk : k ≤ j) (ht : PySem.W.notFirst X.K C (.type "tuple") = true) (h1 : PE X e1 ta) (h2 : PE X e2 tb) : PC X .Eq e1 e2 (tEqO X.K C sp (WE W) ta tb) := by
  obtain ⟨f, fd, M, F, hb⟩ := c.ex
  exact pc_eqO F (hr.mono hk) M ht hb (fun σ => passAt tk σ) h1 h2
end
/-- what isinstance asks of an own class -/
structure KiC (K : PySem.W.Frag) (C : Addr) : Prop where
  cl : Cls K C
  ca : PySem.W.findIn K (.ref C) "__class__" = some (some (.builtin "object.__class__"))
  gg : PySem.W.specialIn K (.builtin "object.__class__") "__get__" = some (some (.builtin "getset_descriptor.__get__"))
  tk : PySem.W.takesIn K (.builtin "object.__class__") = some true
  mo : PySem.W.mroIn K C (.type "object") = some true
theorem KiC.ty {K : PySem.W.Frag} {C : Addr} (k : KiC K C) {H : Hp} {x dx : Addr} {fs : List (Str × V)} (h : H x = some (.ins C dx fs)) : TyX K H (.ref x) (.ref C) := .base (.ins h k.cl k.ca k.gg k.tk k.mo)
theorem kit_same {K : PySem.W.Frag} {t : Value} : PySem.W.kitOne K t t = some true := by
  unfold PySem.W.kitOne
  rw [if_pos (beq_self_eq_true t)]
end Ew

set_option Elab.async false
set_option linter.all false
set_option maxRecDepth 100000
set_option maxHeartbeats 4000000
namespace Ew
open PySem PySem.Spec PyProof.Rows L2
open AutoSeq1 (wpAny_loadPart')
open MeetsSeq MeetsSeq2 MeetsSeq3 SeqRoads2
theorem tup_once (l : Addr) (items : Array Value) (n : Nat) (dd : Option Addr) (sl : Array (Option Value)) (u : Tok) :
    Meets (Builtin.«tuple.__mul__» ⟨[.ref l, .int 1 u], []⟩) (fun _ R s => s.heap.get? l = some { cls := .type "tuple", dict := dd, data := .seq items n, slots := sl } ∧ R (.ok (.ret (.ref l))) s) :=
  .of_wp fun prog w A R s h => by
    obtain ⟨hp, g, d, tk, os⟩ := s
    obtain ⟨hl, h⟩ := h
    have f1 := AutoSeq1.idx_int
    wp_walk using wpAny_loadPart' hl
    exact ⟨_, rfl, h⟩
def rRep1 (K : PySem.W.Frag) : R2 := fun x y H Q => ∃ l xs, x = .ref l ∧ y = .int 1 ∧ SqT K H l xs ∧ Q (.ref l) H
theorem op_rep1 {X : Cx} : OpR X (binaryOp .Mult) (rRep1 X.K) := by
  intro pins s σ H x y v u Q I rx ry h
  obtain ⟨l, xs, rfl, rfl, hT, q⟩ := h
  cases rx
  obtain ⟨t, rfl⟩ := ry
  obtain ⟨its, r, ⟨⟨cls, dd, data, sl⟩, ho, hc, n, hd⟩, hs⟩ := I.tuple hT
  dsimp only at hc hd
  subst hc hd
  exact wpAny_binaryOp_repeat_ref (T := "tuple") (U := "int") (by decide) ⟨_, ho, rfl⟩ (fun s' => typeIs_int s' 1 t) noFill_tuple_mul F.fills_int_mul F.slot_int_rmul repeat_tuple F.slot_int_index.lookup
    (call_meets F.slot_int_rmul (typeIs_int s 1 t) F.entry_int_rmul (F.args_int_rmul_2 _ _) (int_rmul_tuple 1 t l its.toArray n dd sl)
      ⟨ho, rfl, ⟨_, ho, rfl⟩, call_meets F.slot_tuple_mul ⟨_, ho, rfl⟩ F.entry_tuple_mul (F.args_tuple_mul_2 _ _) (tup_once l its.toArray n dd sl t) ⟨ho, .ref l, H, I, rfl, q⟩⟩)
theorem op_repA {X : Cx} : OpR X (binaryOp .Mult) (fun x y H Q => rRepT X.K x y H Q ∨ rRep1 X.K x y H Q) := op_repT.or op_rep1
end Ew

set_option Elab.async false
set_option linter.all false
set_option maxRecDepth 100000
set_option maxHeartbeats 4000000
namespace Ew
open PySem PySem.Spec PyProof.Rows L2
/-- data that may be compared: n deep at most -/
structure Fl (n : Nat) (d : PyData) : Prop where
  c : d.canLay0 = true
  d : d.depth ≤ n
structure FlA (n : Nat) (ds : List PyData) : Prop where
  c : PyData.canLayAll0 ds = true
  d : PyData.depthAll ds ≤ n
theorem FlA.nil {n : Nat} : FlA n [] := ⟨by rw [PyData.canLayAll0], by rw [PyData.depthAll]; omega⟩
theorem FlA.cons {n : Nat} {d : PyData} {ds : List PyData} (h : Fl n d) (t : FlA n ds) : FlA n (d :: ds) := ⟨by rw [PyData.canLayAll0, h.c, t.c]; rfl, by rw [PyData.depthAll]; have := h.d; have := t.d; omega⟩
theorem FlA.all {n : Nat} : ∀ {ds : List PyData}, (∀ d ∈ ds, Fl n d) → FlA n ds
  | [], _ => .nil
  | d :: ds, h => .cons (h d List.mem_cons_self) (FlA.all fun x hx => h x (List.mem_cons_of_mem _ hx))
theorem Fl.tup {n : Nat} {ds : List PyData} (h : FlA n ds) : Fl (n + 1) (.tuple ds) := ⟨by rw [PyData.canLay0]; exact h.c, by rw [PyData.depth]; have := h.d; omega⟩
theorem Fl.lst {n : Nat} {ds : List PyData} (h : FlA n ds) : Fl (n + 1) (.list ds) := ⟨by rw [PyData.canLay0]; exact h.c, by rw [PyData.depth]; have := h.d; omega⟩
theorem Fl.int {n : Nat} {i : Int} : Fl n (.int i) := ⟨by rw [PyData.canLay0], by rw [PyData.depth]; omega⟩
theorem Fl.str {n : Nat} {x : Str} (h : PyData.strOk x = true) : Fl n (.str x) := ⟨by rw [PyData.canLay0]; exact h, by rw [PyData.depth]; omega⟩
theorem Fl.sh {n : Nat} {d : PyData} (h : Fl n d) (k : n ≤ 64) : SeqAt.shaped d = true := by
  unfold SeqAt.shaped
  have := h.d
  rw [h.c, decide_eq_true (by omega : d.depth ≤ 64)]
  rfl
theorem fl_ints {n : Nat} (ds : List Int) : Fl (n + 1) (intT ds) := Fl.tup ⟨lay_ints ds, by rw [dep_ints]; omega⟩
/-- a pair of a ratio and a tuple of ints -/
def rowD (s : (Int × Int) × List Int) : PyData := .tuple [intT [s.1.1, s.1.2], intT s.2]
theorem fl_row {n : Nat} (s : (Int × Int) × List Int) : Fl (n + 2) (rowD s) := Fl.tup (.cons (fl_ints _) (.cons (fl_ints _) .nil))
theorem eqv_row (s t : (Int × Int) × List Int) : PyData.eqv (rowD s) (rowD t) = decide (s = t) := by
  unfold rowD
  rw [PyData.eqv, PyData.eqvAll, PyData.eqvAll, PyData.eqvAll, eqv_ints, eqv_ints]
  obtain ⟨⟨a, b⟩, c⟩ := s
  obtain ⟨⟨a', b'⟩, c'⟩ := t
  by_cases h1 : a = a' <;> by_cases h2 : b = b' <;> by_cases h3 : c = c' <;> simp [h1, h2, h3]
def Row (K : PySem.W.Frag) (F : Hp) (v : V) (s : (Int × Int) × List Int) : Prop := ∃ p u w, v = .ref p ∧ SqT K F p [u, w] ∧ Rt K F u s.1 ∧ Dm K F w s.2
theorem Row.up {K : PySem.W.Frag} {F F' : Hp} {v : V} {s : (Int × Int) × List Int} (h : Row K F v s) (e : Same F F') : Row K F' v s := by
  obtain ⟨p, u, w, h1, h2, h3, h4⟩ := h
  exact ⟨p, u, w, h1, upT e h2, h3.up e, h4.up e⟩
theorem Row.dp {K : PySem.W.Frag} {F : Hp} {v : V} {s : (Int × Int) × List Int} (h : Row K F v s) : Dp K F v (rowD s) := by
  obtain ⟨p, u, w, rfl, h2, h3, h4⟩ := h
  exact .tup h2 (.cons h3.dp (.cons h4.dp .nil))
/-- items, each with its own word -/
def Rws (K : PySem.W.Frag) (F : Hp) (xs : List V) (ss : List ((Int × Int) × List Int)) : Prop := xs.length = ss.length ∧ ∀ (i : Nat) x, xs[i]? = some x → ∃ s, ss[i]? = some s ∧ Row K F x s
theorem Rws.up {K : PySem.W.Frag} {F F' : Hp} {xs : List V} {ss : List ((Int × Int) × List Int)} (h : Rws K F xs ss) (e : Same F F') : Rws K F' xs ss := ⟨h.1, fun i x hx => by
  obtain ⟨s, h1, h2⟩ := h.2 i x hx
  exact ⟨s, h1, h2.up e⟩⟩
theorem Rws.nil {K : PySem.W.Frag} {F : Hp} : Rws K F [] [] := ⟨rfl, fun i x h => by simp at h⟩
theorem Rws.snoc {K : PySem.W.Frag} {F : Hp} {xs : List V} {ss : List ((Int × Int) × List Int)} {x : V} {s : (Int × Int) × List Int} (h : Rws K F xs ss) (k : Row K F x s) : Rws K F (xs ++ [x]) (ss ++ [s]) := by
  refine ⟨by simp [h.1], fun i y hy => ?_⟩
  rcases Nat.lt_or_ge i xs.length with hi | hi
  · rw [List.getElem?_append_left hi] at hy
    obtain ⟨t, h1, h2⟩ := h.2 i y hy
    exact ⟨t, by rw [List.getElem?_append_left (by rw [← h.1]; exact hi)]; exact h1, h2⟩
  · rw [List.getElem?_append_right hi] at hy
    have e0 : i - xs.length = 0 := by
      rcases Nat.eq_zero_or_pos (i - xs.length) with h0 | h0
      · exact h0
      · rw [List.getElem?_eq_none (by simp; omega)] at hy; cases hy
    rw [e0] at hy
    cases hy
    refine ⟨s, ?_, k⟩
    rw [List.getElem?_append_right (by rw [← h.1]; exact hi), ← h.1, e0]
    rfl
theorem Rws.dps {K : PySem.W.Frag} {F : Hp} : ∀ {xs : List V} {ss : List ((Int × Int) × List Int)}, Rws K F xs ss → DpAll K F xs (ss.map rowD)
  | [], [], _ => .nil
  | [], s :: ss, h => absurd h.1 (by simp)
  | x :: xs, [], h => absurd h.1 (by simp)
  | x :: xs, s :: ss, h => by
    obtain ⟨t, h1, h2⟩ := h.2 0 x rfl
    cases h1
    exact .cons h2.dp (Rws.dps ⟨by simpa using h.1, fun i y hy => h.2 (i + 1) y hy⟩)
end Ew

set_option Elab.async false
set_option linter.all false
set_option maxRecDepth 100000
set_option maxHeartbeats 4000000
namespace Ew
open PySem PySem.Spec PyProof.Rows L2
open SX (S)
/-- a sign, k times -/
theorem fold_one (c : Nat) : ∀ (m : Nat) (acc : Array Nat), (List.replicate m #[c]).foldl (· ++ ·) acc = acc ++ (List.replicate m c).toArray
  | 0, acc => by simp
  | m + 1, acc => by
    rw [List.replicate_succ, List.foldl_cons, fold_one c m, List.replicate_succ]
    apply Array.ext'
    simp
def rRepC : R2 := fun x y H Q => ∃ (c : Nat) (k : Int), x = .str ⟨#[c]⟩ ∧ y = .int k ∧ 2 ≤ k ∧ k ≤ 100000 ∧ Q (.str (S (List.replicate k.toNat c))) H
theorem op_repC {X : Cx} : OpR X (binaryOp .Mult) rRepC := by
  intro pins s σ H x y v u Q I rx ry h
  obtain ⟨c, k, rfl, rfl, h1, h2, q⟩ := h
  obtain ⟨t, rfl⟩ := rx
  obtain ⟨t', rfl⟩ := ry
  have hl : (⟨#[c]⟩ : Str).length = 1 := rfl
  have e1 : (k == 1) = false := by rw [beq_eq_false_iff_ne]; omega
  refine PySem.P.mul_str ?_ (fun _ _ => ?_) (fun _ _ => ?_) ?_
  · rw [decide_eq_false (by omega), decide_eq_false (by omega)]
    rfl
  · rw [hl]
    have : (1 : Int) ≤ (2 ^ 63 - 1) / k := (Int.le_ediv_iff_mul_le (by omega)).mpr (by omega)
    show ¬ ((1 : Int) > _)
    omega
  · rw [hl]
    unfold PySem.Builtin.Str.tooLong
    rw [decide_eq_false_iff_not, sizeLine_eq]
    omega
  · rw [if_neg (by omega), e1, hl]
    have e2 : ((⟨#[c]⟩ : Str).cps) = #[c] := rfl
    rw [if_neg (by decide), e2, fold_one]
    have e3 : (#[] ++ (List.replicate k.toNat c).toArray : Array Nat) = (List.replicate k.toNat c).toArray := by simp
    rw [e3]
    refine ⟨?_, ⟨.str (S (List.replicate k.toNat c)), H, I.tok _, ⟨_, rfl⟩, q⟩⟩
    show (S (List.replicate k.toNat c)).length ≤ sizeLine
    rw [SX.S_len, List.length_replicate, sizeLine_eq]
    omega
end Ew

set_option Elab.async false
set_option linter.all false
set_option maxRecDepth 100000
set_option maxHeartbeats 4000000
namespace Ew
open PySem PySem.Spec PyProof.Rows L2
/-! ### defs that are asked only where no repr is under way -/
section
variable {P : Program} {w : World} {K : PySem.W.Frag} {mg : Str → Option Value} {base : Heap}
structure FnG (P : Program) (w : World) (K : PySem.W.Frag) (mg : Str → Option Value) (base : Heap) (k : Nat) (f : Addr) (fd : FuncData) (ps : List Str) (sp : Sp) : Prop where
  len : ∀ vs H Q E, sp vs H Q E → vs.length = ps.length
  go : ∀ (A : Around) (outer : List Env) (s : Shared) (H : Hp) (args : Args) (us : List Value) (vs : List V) (Q : VK) (E : XK), A.guards = some [] → Room k A → Env0 P w K mg base A outer s H → BindsTo s fd args (ps.zip us) → Vals vs us → sp vs H Q E →
    codeAny (model P w) A (.call (.ref f) args) (CR (L2.CX P w) outer P w H s Q E) s
def BodyG (P : Program) (w : World) (K : PySem.W.Frag) (mg : Str → Option Value) (base : Heap) (N : List Str) (qual : Str) (st : Stmt) (k : Nat) (sp : Sp) : Prop :=
  ∀ (f : Addr) (cdv : Value) (A : Around) (outer : List Env) (s : Shared) (H : Hp) (vs : List V) (Q : VK) (E : XK), (cxB P w K mg base N qual st f cdv A outer s H E).A.guards = some [] → Room k (cxB P w K mg base N qual st f cdv A outer s H E).A → sp vs H Q E →
    ∃ t, PSs (cxB P w K mg base N qual st f cdv A outer s H E) (defBody st) t ∧ t { nx := fun _ H' => Q .non H', rt := Q } (start N vs) H
theorem fun_gd {x qual : Str} {st : Stmt} {f : Addr} {fd : FuncData} {ps N : List Str} {k : Nat} {sp : Sp} (F : Fun K x qual st f fd) (S : FnScope N ps (defScope st)) (len : ∀ vs H Q E, sp vs H Q E → vs.length = ps.length) (h : BodyG P w K mg base N qual st k sp) :
    FnG P w K mg base (k + 1) f fd ps sp := by
  obtain ⟨oc, od, kV, doc, pm, an, cdv, ct, osl, rfl, lk, hcd⟩ := F.ex
  refine ⟨len, ?_⟩
  intro A outer s H args us vs Q E hg room e0 bind rel ask
  have many := len _ _ _ _ ask
  have kept : ∀ b o, base.get? b = some o → s.heap.get? b = some o := fun b o e => (e0.bs b o e).1
  have KX : K.In s.heap := e0.mod.kin.keeps kept
  have locals_ : ∀ y ∈ ps.zip us, (defScope st).names.lookup y.1 = some .local ∨ ((defScope st).names.lookup y.1 = some .cell ∧ ((cellsFrom (s.heap.objs.size + 1) (defScope st).names []).lookup y.1).isSome = true) := by
    rintro ⟨nm, v⟩ hy
    refine (S.par nm (List.of_mem_zip hy).1).imp id fun q => ⟨q, ?_⟩
    exact PySem.W.cellsFrom_some _ _ _ (.inl q)
  refine codeAny_call_function room.depth (KX _ _ lk) rfl S.co S.gen rfl (PySem.W.codeRec_of KX hcd) (bind _ _ _ _ ?_)
  refine wpAny_newFunctionEnv_cells S.kind locals_ ?_
  rintro env rfl s1 x
  refine ⟨(e0.mod.nolimit.keeps kept).keeps x.toInCall.keep, codeAny_func ?_⟩
  obtain ⟨t, ht, goal⟩ := h f cdv A outer s H vs Q E hg (room.deeper _) ask
  refine wpAny_mono (ht.run [] s1 (start N vs) H _ (inv_start S room.hd e0 many rel x) goal) ?_ (fun e s' z => z)
  intro fl s' end_
  match fl, end_ with
  | .ret u, ⟨v, σ', H', J, rv, q⟩ => exact ⟨v, H', J.os, J.bare, J.base, J.hok, rv, q⟩
  | .next, ⟨σ', H', J, q⟩ => exact ⟨.non, H', J.os, J.bare, J.base, J.hok, rfl, q⟩
  | .brk, ⟨_, _, _, q⟩ => exact q.elim
  | .cont, ⟨_, _, _, q⟩ => exact q.elim
structure ClG (P : Program) (w : World) (K : PySem.W.Frag) (mg : Str → Option Value) (base : Heap) (k : Nat) (x : Str) (ps : List Str) (sp : Sp) : Prop where
  ex : ∃ f fd, FnG P w K mg base k f fd ps sp ∧ mg x = some (.ref f) ∧ PySem.W.keepIn K (.ref f) = true ∧ Binds K fd ps []
theorem DefAt.clG {x : Str} {st : Stmt} {ps N : List Str} {k : Nat} {sp : Sp} (D : DefAt K mg x st ps) (S : FnScope N ps (defScope st)) (len : ∀ vs H Q E, sp vs H Q E → vs.length = ps.length) (h : BodyG P w K mg base N x st k sp) : ClG P w K mg base (k + 1) x ps sp := by
  obtain ⟨f, fd, F, g, b⟩ := D.ex
  exact ⟨f, fd, fun_gd F S len h, g, F.kp, b⟩
end
section
variable {X : Cx} {k j : Nat} {x : Str} {ps : List Str} {sp : Sp} {e : Expr} {es : List Expr} {t : TA} {p pos : Pos} {W : WX}
theorem pe_fG (hg0 : X.A.guards = some []) (c : ClG X.prog X.w X.K X.mg X.base k x ps sp) (tk : Takes X W) (hr : Room j X.A) (hk : k ≤ j) (hg : Gl X x) (ha : PA X (e :: es) t) (hdb : (x == ("__debug__" : Str)) = false := by decide)
    (he : starEach (e :: es) X.env = (false, eval e X.env) :: starEach es X.env := by rfl) (hpl : (backTo pos (starEach es X.env)).any (·.1) = false := by rfl) : PE X (.Call (.Name x p) (e :: es) [] pos) (tF sp [] W t) := by
  obtain ⟨f, fd, F, hm, hkp, hb⟩ := c.ex
  refine ⟨fun pins s σ H Q I h => wpAny_Call_Name_kw (ld_glob I hg hm (PySem.W.callWith_K (h₀ := X.base) I.ok.mod.kin hkp (thn (ha.run pos pins s σ H _ I h) fun us s1 ⟨vs, H1, I1, r, q⟩ => ⟨I1.kIn, ?_⟩) he hpl) hdb)⟩
  have r2 := r.append (.nil : Vals [] [])
  have hl : (us ++ []).length = ps.length := by rw [← r2.length]; exact F.len _ _ _ _ q
  refine wpAny_call (codeAny_mono (F.go X.A X.stack s1 H1 ⟨us, []⟩ (us ++ []) (vs ++ []) Q (WE W σ) hg0 (hr.mono hk) I1.env0 (hb s1 us I1.kIn hl) r2 q) fun y s' hq => ?_)
  match y, hq with
  | .error e, hq => exact passAt tk σ pins H1 s1 e s' I1 hq
  | .ok (.ret u), hq => exact I1.after hq
end
/-- a call without arguments of a def that lets nothing out -/
theorem pe_f0 {X : Cx} {k j : Nat} {x : Str} {ps : List Str} {sp : Sp} {p pos : Pos} (c : Cl X.prog X.w X.K X.mg X.base k x ps sp []) (hr : Room j X.A) (hk : k ≤ j) (hg : Gl X x) (hdb : (x == ("__debug__" : Str)) = false := by decide) : PE X (.Call (.Name x p) [] [] pos) (tCall sp [] E0 tNil) := by
  obtain ⟨f, fd, ds, F, hm, hkp, hb, hd⟩ := c.ex
  cases hd
  exact pe_call0 F (hr.mono hk) hg hm hkp hb .nil passL hdb
/-! ### repr, where none is under way -/
section
variable {X : Cx}
def rReprD (K : PySem.W.Frag) : List V → Hp → VK → Prop := fun xs H Q => (∃ (a : Addr) (d : PyData), xs = [.ref a] ∧ Dp K H (.ref a) d ∧ d.showable = true ∧ d.hasDict = false ∧ d.depth ≤ 60 ∧ d.shown.length ≤ sizeLine ∧ Q (.str d.shown) H) ∨
  (∃ i : Int, xs = [.int i] ∧ i.natAbs.log2 < 1920 ∧ Q (.str (toString i)) H) ∨ (∃ b : Bool, xs = [.bl b] ∧ Q (.str (if b then "True" else "False")) H) ∨ (xs = [.non] ∧ Q (.str "None") H) ∨
  ∃ a : Addr, xs = [.ref a] ∧ H a = some (.dK []) ∧ Q (.str (PyData.dict []).shown) H
/-- the same, closed -/
structure rRepr (K : PySem.W.Frag) (xs : List V) (H : Hp) (Q : VK) : Prop where
  is : rReprD K xs H Q
theorem call_repr (hg : X.A.guards = some []) (hu : X.A.units + 64 < cLine) : CallR X (.builtin "repr") (rRepr X.K) := by
  intro pins s σ H xs us Q I r h
  rcases h.is with ⟨a, d, rfl, hd, h1, h2, h3, h4, q⟩ | ⟨i, rfl, hz, q⟩ | ⟨b, rfl, q⟩ | ⟨rfl, q⟩ | ⟨a, rfl, hd, q⟩
  · obtain ⟨u, rfl, rx⟩ := vals1 r
    obtain ⟨as, rd⟩ := Dp.reads I d _ _ hd rx
    obtain rfl : u = Value.ref a := rx
    exact repr_of_reads' rd h1 (PyData.noDict_hsm h2) hg (by omega) (fun _ _ e => e) (fun h' u' tk hk => ⟨.str d.shown, H, I.kept hk, ⟨_, rfl⟩, q⟩) h4
  · obtain ⟨u, rfl, t, rfl⟩ := vals1 r
    exact PySem.P.repr_of_int hz ⟨.str _, H, I.tok _, ⟨_, rfl⟩, q⟩
  · obtain ⟨u, rfl, rx⟩ := vals1 r
    obtain rfl : u = Value.bool b := rx
    exact PySem.P.repr_of_bool ⟨.str _, H, I.tok _, ⟨_, rfl⟩, q⟩
  · obtain ⟨u, rfl, rx⟩ := vals1 r
    obtain rfl : u = Value.none := rx
    exact PySem.P.repr_of_none ⟨.str _, H, I.tok _, ⟨_, rfl⟩, q⟩
  · obtain ⟨u, rfl, rx⟩ := vals1 r
    obtain rfl : u = Value.ref a := rx
    obtain ⟨_, ns, vs, kv, dd⟩ := dk_of I.hok hd
    cases kv
    obtain ⟨o, n, es, ho, hc, hdat, hes⟩ : ∃ (o : Obj) (n : Nat) (es : Array DictEntry), s.heap.get? a = some o ∧ o.cls = .type "dict" ∧ o.data = .dict es n ∧ es = #[] := by
      obtain ⟨o, es, ep, ho, ex, hdat, _, pr, _⟩ := dd
      refine ⟨o, ep, es, ho, ex.1, hdat, ?_⟩
      have : es.toList = [] := by
        cases e : es.toList with
        | nil => rfl
        | cons y ys => rw [e] at pr; cases pr
      exact Array.toList_eq_nil_iff.mp this
    subst hes
    have rd : Reads s.heap (.ref a) (.dict []) (a :: [] ++ []) := .dict ho hc hdat .nil .nil
    exact repr_of_reads' rd (by decide) (fun _ hm => by simp at hm; rw [hm] at ns; simp at ns) hg (by have : (PyData.dict []).depth = 1 := rfl; omega) (fun _ _ e => e) (fun h' u' tk hk => ⟨.str _, H, I.kept hk, ⟨_, rfl⟩, q⟩) (by decide +kernel)
end
end Ew

set_option Elab.async false
set_option linter.all false
set_option maxRecDepth 100000
set_option maxHeartbeats 4000000
namespace Ew
open PySem PySem.Spec PyProof.Rows L2
/-! ### an own class that is asked by [ ], in, len -/
section
variable {X : Cx} {CX : CXT} {k : Nat} {f C : Addr} {fd : FuncData} {ps : List Str} {sp : Sp} {E : L2.St → XK} {a b : Expr} {ta tb : TE} {pos : Pos}
/-- a call one step further in -/
theorem run_fn1 {pins : List (Addr × Obj)} {σ : L2.St} {H : Hp} {s : Shared} {Q : VK} {us : List Value} {vs : List V} {E0 : XK} (F : FnOk X.prog X.w X.K X.mg X.base CX k f fd ps sp) (hr : Room (k + 1) X.A) (hb : Binds X.K fd ps []) (hx : PassesAt CX X σ E0)
    (I : Inv X pins σ H s) (r : Vals vs us) (h : sp vs H Q E0) : wpAny (model X.prog X.w) X.A.in1 (call (.ref f) us) (EP X pins σ Q) X.xe s := by
  have hl : us.length = ps.length := by rw [← r.length]; exact F.len _ _ _ _ h
  have b := hb s us I.kIn (by rw [List.append_nil]; exact hl)
  rw [List.append_nil] at b
  refine wpAny_call (codeAny_mono (F.run X.A.in1 X.stack s H ⟨us, []⟩ us vs Q E0 hr.in1 I.env0.in1 b r h) fun r s' hq => ?_)
  cases r with
  | error e => exact hx pins H s e s' I hq
  | ok fl =>
    cases fl with
    | ret u => exact I.after hq
    | next => exact False.elim hq
    | brk => exact False.elim hq
    | cont => exact False.elim hq
def tIxO (C : Addr) (sp : Sp) (E : L2.St → XK) (ta tb : TE) : TE := fun σ H Q => ta σ H fun x H1 => tb σ H1 fun y H2 => ∃ p dx fs, x = .ref p ∧ H2 p = some (.ins C dx fs) ∧ sp [x, y] H2 Q (E σ)
/-- o[k], o of an own class -/
theorem pe_ixO (F : FnOk X.prog X.w X.K X.mg X.base CX k f fd ps sp) (hr : Room (k + 1) X.A) (M : OpM X.K C "__getitem__" f) (hf : PySem.W.fnIn X.K f = true) (hb : Binds X.K fd ps []) (hx : ∀ σ, PassesAt CX X σ (E σ)) (h1 : PE X a ta) (h2 : PE X b tb)
    (hsl : ∀ x i, subscripted b true (.ref x) i = runValue (.builtin "lifetime.subscript" ⟨[.ref x, i], []⟩)) : PE X (.Subscript a b pos) (tIxO C sp E ta tb) := by
  refine ⟨fun pins s σ H Q I h => Subscript_ (bin h1 h2 I h fun v u s2 x y H2 I2 rx ry q => ?_)⟩
  obtain ⟨p, dx, fs, rfl, e1, q⟩ := q
  cases rx
  obtain ⟨o1, J1⟩ := ins_at I2 e1
  obtain ⟨m, fr⟩ := I2.fr
  exact PySem.W.sub_K fr I2.ok.mod.kin J1 M.at_ hf M.fn (run_fn1 (vs := [.ref p, y]) F hr hb (hx σ) I2 (.cons rfl (.cons ry .nil)) q) (hsl _ _)
def tInO (C : Addr) (sp : Sp) (neg : Bool) (E : L2.St → XK) (ta tb : TE) : TE := fun σ H Q => ta σ H fun x H1 => tb σ H1 fun y H2 => ∃ p dx fs, y = .ref p ∧ H2 p = some (.ins C dx fs) ∧ sp [y, x] H2 (fun z H3 => ∃ r : Bool, z = .bl r ∧ Q (.bl (if neg = true then !r else r)) H3) (E σ)
theorem pc_inO (F : FnOk X.prog X.w X.K X.mg X.base CX k f fd ps sp) (hr : Room k X.A) (M : OpM X.K C "__contains__" f) (hb : Binds X.K fd ps []) (hx : ∀ σ, PassesAt CX X σ (E σ)) (h1 : PE X a ta) (h2 : PE X b tb) : PC X .In a b (tInO C sp false E ta tb) := by
  refine ⟨fun pins s σ H Q I h => bin h1 h2 I h fun v u s2 x y H2 I2 rx ry q => ?_⟩
  obtain ⟨p, dx, fs, rfl, e1, q⟩ := q
  cases ry
  obtain ⟨o1, J1⟩ := ins_at I2 e1
  obtain ⟨m, fr⟩ := I2.fr
  refine PySem.W.in_K fr I2.ok.mod.kin J1 M.at_ M.fn (thn (run_fnS (vs := [.ref p, x]) F hr hb (hx σ) I2 (.cons rfl (.cons rx .nil)) q) fun w s3 z => ?_)
  obtain ⟨v3, H3, I3, r3, t, rfl, q3⟩ := z
  cases r3
  exact wpAny_truthy_bool ⟨.bl t, H3, I3, rfl, q3⟩
theorem pc_ninO (F : FnOk X.prog X.w X.K X.mg X.base CX k f fd ps sp) (hr : Room k X.A) (M : OpM X.K C "__contains__" f) (hb : Binds X.K fd ps []) (hx : ∀ σ, PassesAt CX X σ (E σ)) (h1 : PE X a ta) (h2 : PE X b tb) : PC X .NotIn a b (tInO C sp true E ta tb) := by
  refine ⟨fun pins s σ H Q I h => bin h1 h2 I h fun v u s2 x y H2 I2 rx ry q => ?_⟩
  obtain ⟨p, dx, fs, rfl, e1, q⟩ := q
  cases ry
  obtain ⟨o1, J1⟩ := ins_at I2 e1
  obtain ⟨m, fr⟩ := I2.fr
  refine PySem.W.notIn_K fr I2.ok.mod.kin J1 M.at_ M.fn (thn (run_fnS (vs := [.ref p, x]) F hr hb (hx σ) I2 (.cons rfl (.cons rx .nil)) q) fun w s3 z => ?_)
  obtain ⟨v3, H3, I3, r3, t, rfl, q3⟩ := z
  cases r3
  exact wpAny_truthy_bool ⟨.bl (!t), H3, I3, rfl, q3⟩
/-- len(o), o of an own class; nothing is let out -/
def rLenO (C : Addr) (sp : Sp) (E0 : XK) : List V → Hp → VK → Prop := fun xs H Q => ∃ p dx fs, xs = [.ref p] ∧ H p = some (.ins C dx fs) ∧ sp [.ref p] H (fun z H3 => ∃ n : Int, z = .int n ∧ 0 ≤ n ∧ n < 2 ^ 63 ∧ Q (.int n) H3) E0
theorem call_lenO {E0 : XK} (F : FnOk X.prog X.w X.K X.mg X.base CX k f fd ps sp) (hr : Room (k + 1) X.A) (M : OpM X.K C "__len__" f) (hb : Binds X.K fd ps []) (hx : ∀ σ, PassesAt CX X σ E0) : CallR X (.builtin "len") (rLenO C sp E0) := by
  intro pins s σ H xs us Q I r h
  obtain ⟨p, dx, fs, rfl, e1, q⟩ := h
  obtain ⟨u, rfl, rx⟩ := vals1 r
  cases rx
  obtain ⟨o1, J1⟩ := ins_at I e1
  obtain ⟨m, fr⟩ := I.fr
  refine PySem.W.len_K fr I.ok.mod.kin J1 M.at_ M.fn (thn (run_fn1 (vs := [.ref p]) F hr hb (hx σ) I (.cons rfl .nil) q) fun w s3 z => ?_)
  obtain ⟨v3, H3, I3, r3, n, rfl, n0, n1, q3⟩ := z
  obtain ⟨t, rfl⟩ := r3
  exact ⟨⟨n0, n1⟩, .int n, H3, I3.tok _, ⟨_, rfl⟩, q3⟩
end
end Ew

set_option Elab.async false
set_option linter.all false
set_option maxRecDepth 100000
set_option maxHeartbeats 4000000
namespace Ew
open PySem PySem.Spec PyProof.Rows L2
/-! ### an own == with anything at its right -/
/-- what stands to the right: another of the class, a list, a tuple, a text, a number, a truth value, None -/
def RhsAny (K : PySem.W.Frag) (C : Addr) (H : Hp) (y : V) : Prop := y = .non ∨ (∃ b, y = .bl b) ∨ (∃ i, y = .int i) ∨ (∃ z, y = .str z) ∨ ∃ q, y = .ref q ∧ ((∃ dy gs, H q = some (.ins C dy gs)) ∨ (∃ ys, SqL K H q ys) ∨ ∃ ys, SqT K H q ys)
/-- none of these kinds comes ahead of the class -/
def NoFirst (K : PySem.W.Frag) (C : Addr) : Prop := ∀ T ∈ (["NoneType", "bool", "int", "str", "list", "tuple"] : List String), PySem.W.notFirst K C (.type T) = true
section
variable {X : Cx} {CX : CXT} {k : Nat} {f C : Addr} {fd : FuncData} {ps : List Str} {sp : Sp} {E : L2.St → XK} {a b : Expr} {ta tb : TE} {pos : Pos}
def tEqA (K : PySem.W.Frag) (C : Addr) (sp : Sp) (E : L2.St → XK) (ta tb : TE) : TE := fun σ H Q => ta σ H fun x H1 => tb σ H1 fun y H2 => ∃ p dx fs, x = .ref p ∧ H2 p = some (.ins C dx fs) ∧ RhsAny K C H2 y ∧ sp [x, y] H2 Q (E σ)
theorem looks_val {M : Model} {h : Heap} {v : Value} {T : String} (ht : ∀ s : Shared, s.TypeIs v T) : PySem.W.Looks M h (typeOf v) (.type T) := fun A Q E s _ z => wpAny_typeOf (ht s) z
theorem pc_eqA (F : FnOk X.prog X.w X.K X.mg X.base CX k f fd ps sp) (hr : Room k X.A) (M : OpM X.K C "__eq__" f) (ht : NoFirst X.K C) (hb : Binds X.K fd ps []) (hx : ∀ σ, PassesAt CX X σ (E σ))
    (h1 : PE X a ta) (h2 : PE X b tb) : PC X .Eq a b (tEqA X.K C sp E ta tb) := by
  refine ⟨fun pins s σ H Q I h => bin h1 h2 I h fun v u s2 x y H2 I2 rx ry q => ?_⟩
  obtain ⟨p, dx, fs, rfl, e1, r, q⟩ := q
  cases rx
  obtain ⟨o1, J1⟩ := ins_at I2 e1
  obtain ⟨m, fr⟩ := I2.fr
  have run := thn (run_fnS (vs := [.ref p, y]) F hr hb (hx σ) I2 (.cons rfl (.cons ry .nil)) q) fun _ _ z => back_of z
  show wpAny _ _ (richCompare .Eq (.ref p) u) _ _ _
  rcases r with rfl | ⟨c, rfl⟩ | ⟨i, rfl⟩ | ⟨z, rfl⟩ | ⟨q', rfl, r⟩
  · obtain rfl : u = Value.none := ry
    exact PySem.W.cmp_K (op := .Eq) hr.units0 fr I2.ok.mod.kin J1 (looks_val fun s => rfl) (ht "NoneType" (by simp)) M.at_ M.fn run
  · obtain rfl : u = Value.bool c := ry
    exact PySem.W.cmp_K (op := .Eq) hr.units0 fr I2.ok.mod.kin J1 (looks_val fun s => rfl) (ht "bool" (by simp)) M.at_ M.fn run
  · obtain ⟨t, rfl⟩ := ry
    exact PySem.W.cmp_K (op := .Eq) hr.units0 fr I2.ok.mod.kin J1 (looks_val fun s => rfl) (ht "int" (by simp)) M.at_ M.fn run
  · obtain ⟨t, rfl⟩ := ry
    exact PySem.W.cmp_K (op := .Eq) hr.units0 fr I2.ok.mod.kin J1 (looks_val fun s => rfl) (ht "str" (by simp)) M.at_ M.fn run
  · cases ry
    rcases r with ⟨dy, gs, e2⟩ | ⟨ys, e2⟩ | ⟨ys, e2⟩
    · obtain ⟨o2, J2⟩ := ins_at I2 e2
      exact PySem.W.cmp_K (op := .Eq) hr.units0 fr I2.ok.mod.kin J1 J2.type (by simp [PySem.W.notFirst]) M.at_ M.fn run
    · obtain ⟨its, rv, ⟨o, n, ho, hc, _⟩, _⟩ := I2.list e2
      exact PySem.W.cmp_K (op := .Eq) hr.units0 fr I2.ok.mod.kin J1 (fun A' Q' E' s' kp z => wpAny_typeOf_ref (kp _ _ ho) (by rw [hc]; exact z)) (ht "list" (by simp)) M.at_ M.fn run
    · obtain ⟨its, rv, ⟨o, ho, hc, _⟩, _⟩ := I2.tuple e2
      exact PySem.W.cmp_K (op := .Eq) hr.units0 fr I2.ok.mod.kin J1 (fun A' Q' E' s' kp z => wpAny_typeOf_ref (kp _ _ ho) (by rw [hc]; exact z)) (ht "tuple" (by simp)) M.at_ M.fn run
end
/-! ### the class's own methods, by their promises -/
structure OwC (P : Program) (w : World) (K : PySem.W.Frag) (mg : Str → Option Value) (base : Heap) (k : Nat) (C : Addr) (m : Str) (ps : List Str) (sp : Sp) : Prop where
  ex : ∃ f fd, OpM K C m f ∧ PySem.W.fnIn K f = true ∧ FnOk P w K mg base (L2.CX P w) k f fd ps sp ∧ Binds K fd ps []
section
variable {X : Cx} {k j : Nat} {C : Addr} {ps : List Str} {sp : Sp} {e1 e2 : Expr} {ta tb : TE} {pos : Pos} {W : WX}
theorem pe_ixC (c : OwC X.prog X.w X.K X.mg X.base k C "__getitem__" ps sp) (tk : Takes X W) (hr : Room j X.A) (hk : k + 1 ≤ j) (h1 : PE X e1 ta) (h2 : PE X e2 tb)
    (hsl : ∀ x i, subscripted e2 true (.ref x) i = runValue (.builtin "lifetime.subscript" ⟨[.ref x, i], []⟩)) : PE X (.Subscript e1 e2 pos) (tIxO C sp (WE W) ta tb) := by
  obtain ⟨f, fd, M, hf, F, hb⟩ := c.ex
  exact pe_ixO F (hr.mono hk) M hf hb (fun σ => passAt tk σ) h1 h2 hsl
theorem pc_inC (c : OwC X.prog X.w X.K X.mg X.base k C "__contains__" ps sp) (tk : Takes X W) (hr : Room j X.A) (hk : k ≤ j) (h1 : PE X e1 ta) (h2 : PE X e2 tb) : PC X .In e1 e2 (tInO C sp false (WE W) ta tb) := by
  obtain ⟨f, fd, M, hf, F, hb⟩ := c.ex
  exact pc_inO F (hr.mono hk) M hb (fun σ => passAt tk σ) h1 h2
theorem pc_ninC (c : OwC X.prog X.w X.K X.mg X.base k C "__contains__" ps sp) (tk : Takes X W) (hr : Room j X.A) (hk : k ≤ j) (h1 : PE X e1 ta) (h2 : PE X e2 tb) : PC X .NotIn e1 e2 (tInO C sp true (WE W) ta tb) := by
  obtain ⟨f, fd, M, hf, F, hb⟩ := c.ex
  exact pc_ninO F (hr.mono hk) M hb (fun σ => passAt tk σ) h1 h2
theorem pc_eqC (c : OwC X.prog X.w X.K X.mg X.base k C "__eq__" ps sp) (ht : NoFirst X.K C) (tk : Takes X W) (hr : Room j X.A) (hk : k ≤ j) (h1 : PE X e1 ta) (h2 : PE X e2 tb) : PC X .Eq e1 e2 (tEqA X.K C sp (WE W) ta tb) := by
  obtain ⟨f, fd, M, hf, F, hb⟩ := c.ex
  exact pc_eqA F (hr.mono hk) M ht hb (fun σ => passAt tk σ) h1 h2
theorem call_lenC (c : OwC X.prog X.w X.K X.mg X.base k C "__len__" ps sp) (hr : Room j X.A) (hk : k + 1 ≤ j) : CallR X (.builtin "len") (rLenO C sp E0) := by
  obtain ⟨f, fd, M, hf, F, hb⟩ := c.ex
  exact call_lenO F (hr.mono hk) M hb fun σ pins H s e s' I h => passL pins σ H s e s' I h
end
end Ew

set_option Elab.async false
set_option linter.all false
set_option maxRecDepth 100000
set_option maxHeartbeats 4000000
namespace Ew
open PySem PySem.Spec PyProof.Rows L2
/-! ### a def that an except suite calls with the error it holds; nothing leaves it but by return -/
section
variable {P : Program} {w : World} {K : PySem.W.Frag} {mg : Str → Option Value} {base : Heap}
/-- the error at a, of the class cls, its dict d -/
abbrev SpE := Addr → Value → Option Addr → Sp
structure FnE (P : Program) (w : World) (K : PySem.W.Frag) (mg : Str → Option Value) (base : Heap) (k : Nat) (f : Addr) (fd : FuncData) (ps : List Str) (sp : SpE) : Prop where
  len : ∀ a cls d vs H Q E, sp a cls d vs H Q E → vs.length = ps.length
  go : ∀ (A : Around) (outer : List Env) (s : Shared) (H : Hp) (args : Args) (us : List Value) (vs : List V) (Q : VK) (E : XK) (a : Addr) (oe : Obj) (cls : Value) (d : Option Addr), A.guards = some [] → A.handled = some (.ref a) → Zc cls d oe → (∃ vs, oe.data = .fields vs) →
    L2H.RoomH k A → L2H.PinOk outer H s (a, oe) → Env0 P w K mg base A outer s H → BindsTo s fd args (ps.zip us) → Vals vs us → sp a cls d vs H Q E → codeAny (model P w) A (.call (.ref f) args) (CR (L2.CX P w) outer P w H s Q E) s
def BodyE (P : Program) (w : World) (K : PySem.W.Frag) (mg : Str → Option Value) (base : Heap) (N : List Str) (qual : Str) (st : Stmt) (k : Nat) (sp : SpE) : Prop :=
  ∀ (f : Addr) (cdv : Value) (A : Around) (outer : List Env) (s : Shared) (H : Hp) (vs : List V) (Q : VK) (E : XK) (a : Addr) (oe : Obj) (cls : Value) (d : Option Addr), (cxB P w K mg base N qual st f cdv A outer s H E).A.guards = some [] → Zc cls d oe → (∃ vs, oe.data = .fields vs) →
    L2H.RoomH k (cxB P w K mg base N qual st f cdv A outer s H E).A → sp a cls d vs H Q E →
    ∃ t, PSs ((cxB P w K mg base N qual st f cdv A outer s H E).suite a [(a, oe)]) (defBody st) t ∧ t { nx := fun _ H' => Q .non H', rt := Q } (start N vs) H
theorem mark_same {A : Around} {h : Option Value} (e : A.handled = h) : A.mark h = A := by
  subst e
  obtain ⟨h, d, fr, g, u⟩ := A
  cases h <;> rfl
theorem fun_hot {x qual : Str} {st : Stmt} {f : Addr} {fd : FuncData} {ps N : List Str} {k : Nat} {sp : SpE} (F : Fun K x qual st f fd) (S : FnScope N ps (defScope st)) (len : ∀ a cls d vs H Q E, sp a cls d vs H Q E → vs.length = ps.length) (h : BodyE P w K mg base N qual st k sp) :
    FnE P w K mg base (k + 1) f fd ps sp := by
  obtain ⟨oc, od, kV, doc, pm, an, cdv, ct, osl, rfl, lk, hcd⟩ := F.ex
  refine ⟨len, ?_⟩
  intro A outer s H args us vs Q E a oe cls d hg hh hz hf room pin e0 bind rel ask
  have many := len _ _ _ _ _ _ _ ask
  have kept : ∀ b o, base.get? b = some o → s.heap.get? b = some o := fun b o e => (e0.bs b o e).1
  have KX : K.In s.heap := e0.mod.kin.keeps kept
  have locals_ : ∀ y ∈ ps.zip us, (defScope st).names.lookup y.1 = some .local ∨ ((defScope st).names.lookup y.1 = some .cell ∧ ((cellsFrom (s.heap.objs.size + 1) (defScope st).names []).lookup y.1).isSome = true) := by
    rintro ⟨nm, v⟩ hy
    refine (S.par nm (List.of_mem_zip hy).1).imp id fun q => ⟨q, ?_⟩
    exact PySem.W.cellsFrom_some _ _ _ (.inl q)
  refine codeAny_call_function room.depth (KX _ _ lk) rfl S.co S.gen rfl (PySem.W.codeRec_of KX hcd) (bind _ _ _ _ ?_)
  refine wpAny_newFunctionEnv_cells S.kind locals_ ?_
  rintro env rfl s1 x
  refine ⟨(e0.mod.nolimit.keeps kept).keeps x.toInCall.keep, codeAny_func ?_⟩
  obtain ⟨t, ht, goal⟩ := h f cdv A outer s H vs Q E a oe cls d hg hz hf (room.deeper _) ask
  have J := L2H.inv_startH (CX := L2.CX P w) (E := E) (f := f) (cd := cdv) (qual := qual) S pin e0 many rel x
  have ok := J.ok
  have I : Inv ((cxB P w K mg base N qual st f cdv A outer s H E).suite a [(a, oe)]) [] (start N vs) H s1 :=
    ⟨⟨ok.mod, ok.kind, ok.glob, ok.blt, ok.above, ok.inj, ok.has, ok.cab, fun z => Bool.noConfusion (show false = true from z), ok.frames, ok.stk, ok.exf, ok.bs, ok.bsz, ok.noex, ok.exfs, ok.funs, ok.frf⟩, J.os, J.bare, J.base, J.loc, J.cell, J.free, J.freeC, J.pin, J.hok, J.len⟩
  have r := ht.run [] s1 (start N vs) H _ I goal
  have same : ((cxB P w K mg base N qual st f cdv A outer s H E).suite a [(a, oe)]).A = (cxB P w K mg base N qual st f cdv A outer s H E).A := mark_same hh
  rw [same] at r
  refine wpAny_mono r ?_ fun e s' z => z.elim
  intro fl s' end_
  match fl, end_ with
  | .ret u, ⟨v, σ', H', J, rv, q⟩ => exact ⟨v, H', J.os, J.bare, J.base, J.hok, rv, q⟩
  | .next, ⟨σ', H', J, q⟩ => exact ⟨.non, H', J.os, J.bare, J.base, J.hok, rfl, q⟩
  | .brk, ⟨_, _, _, q⟩ => exact q.elim
  | .cont, ⟨_, _, _, q⟩ => exact q.elim
structure ClE (P : Program) (w : World) (K : PySem.W.Frag) (mg : Str → Option Value) (base : Heap) (k : Nat) (x : Str) (ps : List Str) (sp : SpE) : Prop where
  ex : ∃ f fd, FnE P w K mg base k f fd ps sp ∧ mg x = some (.ref f) ∧ PySem.W.keepIn K (.ref f) = true ∧ Binds K fd ps []
theorem DefAt.clE {x : Str} {st : Stmt} {ps N : List Str} {k : Nat} {sp : SpE} (D : DefAt K mg x st ps) (S : FnScope N ps (defScope st)) (len : ∀ a cls d vs H Q E, sp a cls d vs H Q E → vs.length = ps.length) (h : BodyE P w K mg base N x st k sp) : ClE P w K mg base (k + 1) x ps sp := by
  obtain ⟨f, fd, F, g, b⟩ := D.ex
  exact ⟨f, fd, fun_hot F S len h, g, F.kp, b⟩
end
section
variable {X : Cx} {k j : Nat} {x : Str} {ps : List Str} {sp : SpE} {e : Expr} {es : List Expr} {t : TA} {p pos : Pos} {a : Addr} {oe : Obj} {cls : Value} {d : Option Addr} {pn : List (Addr × Obj)}
theorem pe_fE (hg0 : X.A.guards = some []) (c : ClE X.prog X.w X.K X.mg X.base k x ps sp) (hz : Zc cls d oe) (hf : ∃ vs, oe.data = .fields vs) (hr : Room j X.A) (hk : k ≤ j) (hg : Gl X x) (ha : PA (X.suite a ((a, oe) :: pn)) (e :: es) t) (hdb : (x == ("__debug__" : Str)) = false := by decide)
    (he : starEach (e :: es) X.env = (false, eval e X.env) :: starEach es X.env := by rfl) (hpl : (backTo pos (starEach es X.env)).any (·.1) = false := by rfl) : PE (X.suite a ((a, oe) :: pn)) (.Call (.Name x p) (e :: es) [] pos) (tCall (sp a cls d) [] E0 t) := by
  obtain ⟨f, fd, F, hm, hkp, hb⟩ := c.ex
  have hr := hr.mono hk
  refine ⟨fun pins s σ H Q I h => wpAny_Call_Name_kw (ld_glob I hg hm (PySem.W.callWith_K (h₀ := X.base) I.ok.mod.kin hkp (thn (ha.run pos pins s σ H _ I h) fun us s1 ⟨vs, H1, I1, r, q⟩ => ⟨I1.kIn, ?_⟩) he hpl) hdb)⟩
  have r2 := r.append (.nil : Vals [] [])
  have hl : (us ++ []).length = ps.length := by rw [← r2.length]; exact F.len _ _ _ _ _ _ _ q
  have P1 := I1.pin (a, oe) (List.mem_append_left _ List.mem_cons_self)
  have pin : L2H.PinOk X.stack H1 s1 (a, oe) := ⟨P1.1, P1.2.1, fun hm => (List.mem_cons.mp (I1.stkSub a hm)).elim P1.2.2.1 P1.2.2.2.1, P1.2.2.2.2⟩
  refine wpAny_call (codeAny_mono (F.go _ X.stack s1 H1 ⟨us, []⟩ (us ++ []) (vs ++ []) Q E0 a oe cls d hg0 rfl hz hf ⟨hr.dp, hr.un⟩ pin I1.env0 (hb s1 us I1.kIn hl) r2 q) fun y s' hq => ?_)
  match y, hq with
  | .error e, hq => exact passL pins σ H1 s1 e s' I1 hq
  | .ok (.ret u), hq => exact I1.after hq
end
end Ew

set_option Elab.async false
set_option linter.all false
set_option maxRecDepth 100000
set_option maxHeartbeats 4000000
namespace Ew
open PySem PySem.Spec PyProof.Rows L2
/-! ### a new instance whose __init__ may let an error out, at the slots where it is made -/
section
variable {X : Cx} {k j : Nat} {x : Str} {C : Addr} {ps : List Str} {sp : Sp} {e : Expr} {es : List Expr} {t : TA} {p pos : Pos} {W : WX}
def tMkW (C : Addr) (sp : Sp) (W : WX) (t : TA) : TE := fun σ H Q => t σ H fun vs H1 => ∀ o d, H1 o = none → H1 d = none → d ≠ o →
  sp (.ref o :: vs) (upd (upd H1 d (.own o)) o (.ins C d [])) (fun v H2 => v = .non ∧ Q (.ref o) H2) (WE W σ)
theorem pe_mkW (c : Mkr X.prog X.w X.K X.mg X.base k x C ps sp) (tk : Takes X W) (hr : Room j X.A) (hk : k + 1 ≤ j) (hg : Gl X x) (ha : PA X (e :: es) t) (hdb : (x == ("__debug__" : Str)) = false := by decide)
    (he : starEach (e :: es) X.env = (false, eval e X.env) :: starEach es X.env := by rfl) (hpl : (backTo pos (starEach es X.env)).any (·.1) = false := by rfl) : PE X (.Call (.Name x p) (e :: es) [] pos) (tMkW C sp W t) := by
  obtain ⟨f, fd, M, F, hb⟩ := c.ex
  have room : Room (k + 1) X.A := hr.mono hk
  refine ⟨fun pins s σ H Q I h => wpAny_Call_Name_kw (ld_glob I hg c.gC (PySem.W.callWith_K (h₀ := X.base) I.ok.mod.kin M.kp (thn (ha.run pos pins s σ H _ I h) fun us s1 z => ?_) he hpl) hdb)⟩
  obtain ⟨vs, H1, J, r, q⟩ := z
  refine ⟨J.kIn, ?_⟩
  have ask := q (s1.heap.objs.size + 1) s1.heap.objs.size (J.hok.fresh (Nat.le_succ _)) (J.hok.fresh (Nat.le_refl _)) (Nat.ne_of_lt (Nat.lt_succ_self _))
  have both : Vals (V.ref (s1.heap.objs.size + 1) :: vs) (Value.ref (s1.heap.objs.size + 1) :: us) := .cons rfl r
  have many : (Value.ref (s1.heap.objs.size + 1) :: us).length = ps.length := both.length ▸ F.len _ _ _ _ ask
  have J2 := Inv.made (C := C) J
  have bind := hb _ (Value.ref (s1.heap.objs.size + 1) :: us) J2.kIn (by rw [List.append_nil]; exact many)
  rw [List.append_nil] at bind
  have go := F.run _ X.stack _ _ ⟨Value.ref (s1.heap.objs.size + 1) :: us, []⟩ _ _ _ _ (room.make C us []) (J2.env0.make C us []) bind both ask
  refine wpAny_call (make_map (f := f) J.kIn M.makes M.init (beq_iff_eq.mp M.fn) (codeAny_mono go fun y s' end_ => ?_))
  match y, end_ with
  | .error e, end_ => exact passAt tk σ pins _ _ e s' J2 end_
  | .ok (.ret u), end_ =>
    obtain ⟨v, H', J3, rv, rfl, q3⟩ := J2.after end_
    exact ⟨rv, .ref _, H', J3, rfl, q3⟩
end
end Ew

set_option Elab.async false
set_option linter.all false
set_option maxRecDepth 100000
set_option maxHeartbeats 4000000
namespace Ew
open PySem PySem.Spec PyProof.Rows L2
/-! ### a walk over an own class whose __iter__ hands iter of a dict of its own -/
/-- what is known behind such a call -/
def KI (outer : List Env) (P : Program) (w : World) (H : Hp) (s : Shared) (d : Addr) (n ep : Nat) (u : Value) (s' : Shared) : Prop :=
  ∃ (it : Addr) (H' : Hp), u = .ref it ∧ H' = H ∧ s'.os = s.os ∧ AllBare s'.gens ∧ Un (frs outer) [] H H' s.heap s'.heap ∧ HOk P w H' s'.heap ∧ H' it = none ∧ s.heap.objs.size ≤ it ∧ s'.heap.IsKeyIter it d 0 n ep
def KR (outer : List Env) (P : Program) (w : World) (H : Hp) (s : Shared) (d : Addr) (n ep : Nat) (r : Result) (s' : Shared) : Prop :=
  match r with
  | .ok (.ret u) => KI outer P w H s d n ep u s'
  | .ok _ => False
  | .error e => L2.CX P w outer H s E0 e s'
section
variable {P : Program} {w : World} {K : PySem.W.Frag} {mg : Str → Option Value} {base : Heap}
structure FnI (P : Program) (w : World) (K : PySem.W.Frag) (mg : Str → Option Value) (base : Heap) (k : Nat) (f : Addr) (fd : FuncData) (C : Addr) (at_ : Str) : Prop where
  go : ∀ (A : Around) (outer : List Env) (s : Shared) (H : Hp) (args : Args) (a dx d : Addr) (fs : List (Str × V)) (o : Obj) (kvs : List (List Key × V)) (es : Array DictEntry) (ep : Nat), Room k A → Env0 P w K mg base A outer s H → BindsTo s fd args ([("self", .ref a)]) →
    H a = some (.ins C dx fs) → fs.lookup at_ = some (.ref d) → H d = some (.frz o (.dT kvs)) → o.data = .dict es ep →
    codeAny (model P w) A (.call (.ref f) args) (KR outer P w H s d kvs.length ep) s
theorem call_iter_dict {prog : Program} {A : Around} {E : Value → Shared → Prop} {s : Shared} {d : Addr} {o : Obj} {es : Array DictEntry} {ep : Nat} {Q : Value → Shared → Prop} (hd : (d == sysModules) = false) (ho : s.heap.get? d = some o) (hc : o.ExactDict) (hdat : o.data = .dict es ep)
    (hQ : Q (.ref s.heap.objs.size) { s with heap := s.heap.push { cls := .type "dict_keyiterator", data := .fields #[.ref d, .int 0 0, .int es.size 0, .int ep 0] } }) : wpAny (model prog w) A (call (.builtin "iter") [.ref d]) Q E s := by
  refine Calls.call_function_entry (by decide +kernel) (by decide +kernel) PySem.W.kdk_entry_iter (PySem.W.kdk_args_iter _) ?_
  unfold Builtin.«iter»
  refine wpAny_bind (m := someArgs "iter" 1 2 _) (wpAny_of_eq (a := [Value.ref d]) (by first | rfl | kernel_rfl!) ?_)
  show wpAny _ _ (pyIter (.ref d) >>= _) _ _ _
  refine wpAny_bind (iter_keys hd ho hc hdat ?_)
  exact wpAny_pure ⟨_, rfl, hQ⟩
theorem fun_it {q : Str} {st : Stmt} {f C : Addr} {fd : FuncData} {N : List Str} {k : Nat} {at_ : Str} {ea : Expr} {np cp rp : Pos} (F : Fun K "__iter__" q st f fd) (S : FnScope N ["self"] (defScope st)) (hb : defBody st = [.Return (some (.Call (.Name "iter" np) [ea] [] cp)) rp]) (hm : mg "iter" = none)
    (he : ∀ (cdv : Value) (A : Around) (outer : List Env) (s : Shared) (H : Hp), ∃ te : TE, PE (cxB P w K mg base N q st f cdv A outer s H E0) ea te ∧ Gl (cxB P w K mg base N q st f cdv A outer s H E0) "iter" ∧
      starEach [ea] (cxB P w K mg base N q st f cdv A outer s H E0).env = (false, eval ea (cxB P w K mg base N q st f cdv A outer s H E0).env) :: starEach [] (cxB P w K mg base N q st f cdv A outer s H E0).env ∧
      ∀ (H1 : Hp) (Q : VK) (a dx d : Addr) (fs : List (Str × V)), H1 a = some (.ins C dx fs) → fs.lookup at_ = some (.ref d) → Q (.ref d) H1 → te (start N [.ref a]) H1 Q) :
    FnI P w K mg base (k + 1) f fd C at_ := by
  obtain ⟨oc, od, kV, doc, pm, an, cdv, ct, osl, rfl, lk, hcd⟩ := F.ex
  refine ⟨?_⟩
  intro A outer s H args a dx d fs o kvs es ep room e0 bind ha hl hd hdat
  have kept : ∀ b o, base.get? b = some o → s.heap.get? b = some o := fun b o e => (e0.bs b o e).1
  have KX : K.In s.heap := e0.mod.kin.keeps kept
  have locals_ : ∀ y ∈ ([("self", Value.ref a)] : List (Str × Value)), (defScope st).names.lookup y.1 = some .local ∨ ((defScope st).names.lookup y.1 = some .cell ∧ ((cellsFrom (s.heap.objs.size + 1) (defScope st).names []).lookup y.1).isSome = true) := by
    rintro ⟨nm, v⟩ hy
    have hn : nm ∈ (["self"] : List Str) := by
      rcases List.mem_cons.mp hy with h | h
      · cases h; exact List.mem_cons_self
      · exact absurd h List.not_mem_nil
    refine (S.par nm hn).imp id fun q => ⟨q, ?_⟩
    exact PySem.W.cellsFrom_some _ _ _ (.inl q)
  refine codeAny_call_function room.depth (KX _ _ lk) rfl S.co S.gen rfl (PySem.W.codeRec_of KX hcd) (bind _ _ _ _ ?_)
  refine wpAny_newFunctionEnv_cells S.kind locals_ ?_
  rintro env rfl s1 x
  refine ⟨(e0.mod.nolimit.keeps kept).keeps x.toInCall.keep, codeAny_func ?_⟩
  obtain ⟨te, hpe, hg, hst, hte⟩ := he cdv A outer s H
  have I1 : Inv (cxB P w K mg base N q st f cdv A outer s H E0) [] (start N [.ref a]) H s1 := inv_start (us := [.ref a]) S room.hd e0 rfl (.cons rfl .nil) x
  have main : wpAny (model P w) (cxB P w K mg base N q st f cdv A outer s H E0).A (execs (defBody st) (cxB P w K mg base N q st f cdv A outer s H E0).env) (fun fl s' => ∃ it, fl = .ret (.ref it) ∧ (∃ σ', Inv (cxB P w K mg base N q st f cdv A outer s H E0) [] σ' H s') ∧ H it = none ∧ s.heap.objs.size ≤ it ∧ s'.heap.IsKeyIter it d 0 kvs.length ep) (cxB P w K mg base N q st f cdv A outer s H E0).xe s1 := by
    rw [hb]
    refine wpAny_execs_cons (thn (wpAny_Return_some (Q := fun fl s' => ∃ it, fl = .ret (.ref it) ∧ (∃ σ', Inv (cxB P w K mg base N q st f cdv A outer s H E0) [] σ' H s') ∧ H it = none ∧ s.heap.objs.size ≤ it ∧ s'.heap.IsKeyIter it d 0 kvs.length ep) (wpAny_Call_Name_kw (ld_blt I1 hg hm (by decide +kernel : bootBuiltins "iter" = some (.builtin "iter")) ?_ (by decide) (by decide)))) ?_)
    · refine PyProof.Rows.callWith_builtin1 (thn ((pa_cons hpe pa_nil (hs := hst)).run cp [] s1 (start N [.ref a]) H (fun vs H1 => vs = [.ref d] ∧ H1 = H) I1 (hte H _ a dx d fs ha hl ⟨rfl, rfl⟩)) fun us s2 z => ?_) hst (by rfl)
      obtain ⟨vs, H1, I2, r2, rfl, rfl⟩ := z
      obtain ⟨u, rfl, ru⟩ := vals1 r2
      obtain rfl : u = Value.ref d := ru
      obtain ⟨hs, hgd, hx, es', ep', hdt, hsz, ent⟩ := I2.frzT hd
      obtain ⟨rfl, rfl⟩ := dict_ep hdat hdt
      refine call_iter_dict hs hgd hx hdt ⟨_, rfl, ⟨_, I2.kept (t' := s2.toks) fun b ob e => Heap.get?_push_of_some _ e⟩, I2.hok.fresh (Nat.le_refl _), ?_, ⟨_, Heap.get?_push_size _ rfl, rfl, ?_⟩⟩
      · exact I2.sz
      · rw [hsz]
        rfl
    · rintro fl s' ⟨it, rfl, h⟩
      exact ⟨it, rfl, h⟩
  refine wpAny_mono main ?_ (fun e s' z => z)
  rintro fl s' ⟨it, rfl, ⟨σ', J⟩, h1, h2, h3⟩
  exact ⟨it, H, rfl, rfl, J.os, J.bare, J.base, J.hok, h1, h2, h3⟩
end
/-- an own class with such an __iter__, its promise -/
structure ItrC (P : Program) (w : World) (K : PySem.W.Frag) (mg : Str → Option Value) (base : Heap) (k : Nat) (C : Addr) (at_ : Str) : Prop where
  ex : ∃ f fd, OpM K C "__iter__" f ∧ FnI P w K mg base k f fd C at_ ∧ Binds K fd ["self"] []
section
variable {X : Cx} {tg e : Expr} {td : TE} {C : Addr} {at_ : Str} {k j : Nat}
def iOwn (C : Addr) (at_ : Str) (td : TE) : TI := fun σ H R => td σ H fun x H1 => ∃ a dx fs d o kvs, x = .ref a ∧ H1 a = some (.ins C dx fs) ∧ fs.lookup at_ = some (.ref d) ∧ H1 d = some (.frz o (.dT kvs)) ∧ R (Itkt d o kvs) H1
/-- for k in o, o of an own class -/
theorem pi_own (c : ItrC X.prog X.w X.K X.mg X.base k C at_) (hr : Room j X.A) (hk : k ≤ j) (he : PE X e td) : PI X tg e (iOwn C at_ td) := by
  obtain ⟨f, fd, M, FI, hb⟩ := c.ex
  refine ⟨fun pins s σ H R I h => thn (he.run pins s σ H _ I h) fun u s1 z => ?_⟩
  obtain ⟨x, H1, I1, rx, a, dx, fs, d, o, kvs, rfl, ha, hl, hd, q⟩ := z
  obtain rfl : u = Value.ref a := rx
  obtain ⟨od, J⟩ := ins_at I1 ha
  obtain ⟨m, fr⟩ := I1.fr
  obtain ⟨hs, hgd, hx, es, ep, hdt, hsz, ent⟩ := I1.frzT hd
  have b := hb s1 [.ref a] I1.kIn (by rfl)
  refine PySem.W.owit_iter fr I1.ok.mod.kin J M.at_ M.fn (wpAny_call (codeAny_mono (FI.go X.A X.stack s1 H1 ⟨[.ref a], []⟩ a dx d fs o kvs es ep (hr.mono hk) I1.env0 b ha hl hd hdt) fun r s' hq => ?_))
  match r, hq with
  | .error e, hq => exact passL pins σ H1 s1 e s' I1 hq
  | .ok (.ret u), hq =>
    obtain ⟨it, H', rfl, rfl, os, bare, un, hok, hn, hz, hit⟩ := hq
    obtain ⟨hh, g, dd, t, os'⟩ := s'
    obtain rfl : os' = s1.os := os
    have J2 := I1.call (h' := hh) (g' := g) (d' := dd) (t' := t) (ch := []) un hok bare (fun b z => absurd z (by simp))
    show PySem.W.OwitIt _ _ _ _ _ _
    unfold PySem.W.OwitIt
    refine wpAny_specialOf hit.typeIs PySem.F.slot_dict_keyiterator_next.lookup ?_
    refine ⟨it, [it], _, Itkt d o kvs, _, rfl, J2, turn_keysT it hdt, hit, fun b hb => ?_, q⟩
    have e : b = it := by simpa using hb
    subst e
    exact I1.fpOk hz hn
end
end Ew

set_option Elab.async false
set_option linter.all false
set_option maxRecDepth 100000
set_option maxHeartbeats 4000000
namespace Ew
open PySem PySem.Spec PyProof.Rows L2
/-! ### list(o), o of an own class with __len__, whose __iter__ hands iter of a dict of its own -/
section
variable {P : Program} {w : World} {A : Around} {E : Value → Shared → Prop} {s : Shared} {K : PySem.W.Frag} {a f C : Addr} {ox : Obj} {od : Option Obj}
/-- the length is asked, and some room is made where it is above 0 -/
theorem own_length {Q : Bool → Shared → Prop} (hK : K.In s.heap) (J : PySem.W.InstAt s.heap a ox C od) (M : OpM K C "__len__" f)
    (h : wpAny (model P w) A (call (.builtin "len") [.ref a]) (fun v s' => ∃ (n : Nat) (t : Tok), v = .int n t ∧ n ≤ sizeLine ∧ Q (n != 0) s') (fun _ _ => False) s) : wpAny (model P w) A (Builtin.List.listLengthHint (.ref a)) Q E s := by
  unfold Builtin.List.listLengthHint
  refine wpAny_bind (wpAny_bind (J.type.here ((PySem.W.looks_findIn hK M.at_).here ?_)))
  refine PySem.W.KFB.if_not rfl ?_
  refine wpAny_ite_split (fun _ => ?_) (fun z => absurd (show (some (Value.ref f)).isSome = true from rfl) z)
  refine wpAny_bind (wpAny_rule ?_)
  refine wpAny_bind (wpAny_attempt (wpAny_mono h (fun v s' hv => ?_) fun e s' he => ?_))
  · obtain ⟨n, t, rfl, hn, q⟩ := hv
    refine wpAny_bind (wpAny_pure ?_)
    have hl : Builtin.List.listTooLong ((n : Nat) : Int).toNat = false := by
      unfold Builtin.List.listTooLong
      simpa using hn
    show wpAny _ _ (if Builtin.List.listTooLong ((n : Nat) : Int).toNat = true then _ else pure (((n : Nat) : Int) != 0)) _ _ _
    rw [if_neg (by rw [hl]; decide)]
    refine wpAny_pure ?_
    have e : (((n : Nat) : Int) != 0) = (n != 0) := by
      rw [Bool.eq_iff_iff]
      simp
    rw [e]
    exact q
  · exact he.elim
end
section
variable {X : Cx} {pins : List (Addr × Obj)} {σ : L2.St} {H : Hp} {s : Shared} {k : Nat} {f : Addr} {fd : FuncData} {ps : List Str} {sp : Sp}
/-- somewhere below the running body -/
structure Low (X : Cx) (k : Nat) (A : Around) : Prop where
  room : Room k A
  fr : A.frames = X.A.frames
theorem Low.env0 {A : Around} (l : Low X k A) (I : Inv X pins σ H s) : Env0 X.prog X.w X.K X.mg X.base A X.stack s H := by
  have e := I.env0
  exact ⟨l.fr.trans e.frames, e.mod, e.bs, e.bsz, e.funs, e.frf, e.hok, e.bare⟩
/-- a call there of a def that lets nothing out -/
theorem run_low {A : Around} {Q : VK} {us : List Value} {vs : List V} {E : Value → Shared → Prop} (F : FnOk X.prog X.w X.K X.mg X.base (L2.CX X.prog X.w) k f fd ps sp) (l : Low X k A) (hb : Binds X.K fd ps [])
    (I : Inv X pins σ H s) (r : Vals vs us) (h : sp vs H Q E0) : wpAny (model X.prog X.w) A (call (.ref f) us) (EP X pins σ Q) E s := by
  have many : us.length = ps.length := r.length ▸ F.len _ _ _ _ h
  have bind := hb s us I.kIn (by rw [List.append_nil]; exact many)
  rw [List.append_nil] at bind
  refine wpAny_call (codeAny_mono (F.run A X.stack s H ⟨us, []⟩ us vs Q E0 l.room (l.env0 I) bind r h) fun y s' end_ => ?_)
  match y, end_ with
  | .error e, ⟨_, _, _, _, _, _, _, _, _, _, _, _, bad⟩ => exact bad.elim
  | .ok (.ret u), end_ => exact I.after end_
end
section
variable {X : Cx} {C : Addr} {at_ : Str} {k j : Nat} {sp : Sp}
/-- the keys of such a dict, off a row of addresses -/
theorem keys_row {H : Hp} : ∀ {kvs : List (List Key × V)} {vs : List Value}, vs.length = kvs.length → (∀ (i : Nat) (k : List Key) (v : V), kvs[i]? = some (k, v) → ∃ b : Addr, vs[i]? = some (Value.ref b) ∧ H b = some (.tup (k.map kV))) →
    ∃ bs, IsKeys H kvs bs ∧ vs = bs.map Value.ref ∧ Vals (bs.map V.ref) vs
  | [], [], _, _ => ⟨[], .nil, rfl, .nil⟩
  | (k, v) :: kvs, u :: vs, hl, h => by
    obtain ⟨b, e, hb⟩ := h 0 k v rfl
    obtain rfl : u = .ref b := Option.some.inj e
    obtain ⟨bs, h1, h2, h3⟩ := keys_row (by simpa using hl) fun i k v e => h (i + 1) k v e
    exact ⟨b :: bs, .cons hb h1, by rw [h2]; rfl, .cons rfl h3⟩
def rListC (C : Addr) (at_ : Str) (sp : Sp) : List V → Hp → VK → Prop := fun xs H Q => ∃ a dx fs d o kvs, xs = [.ref a] ∧ H a = some (.ins C dx fs) ∧ fs.lookup at_ = some (.ref d) ∧ H d = some (.frz o (.dT kvs)) ∧
  (∀ q, H q = none → sp [.ref a] (upd H q (.lst [])) (fun z H3 => ∃ n : Nat, z = .int n ∧ n ≤ sizeLine ∧ H3 = upd H q (.lst [])) E0) ∧ ∀ p bs, H p = none → IsKeys H kvs bs → Q (.ref p) (upd H p (.lst (bs.map V.ref)))
theorem call_listC (hc : X.calm = true) (ci : ItrC X.prog X.w X.K X.mg X.base k C at_) (cl : OwC X.prog X.w X.K X.mg X.base k C "__len__" ["self"] sp) (hr : Room j X.A) (hk : k + 3 ≤ j) : CallR X (.type "list") (rListC C at_ sp) := by
  intro pins s σ H xs us Q I r h
  obtain ⟨a, dx, fs, d, o, kvs, rfl, ha, hl, hd, hlen, q⟩ := h
  obtain ⟨u, rfl, rx⟩ := vals1 r
  obtain rfl : u = Value.ref a := rx
  obtain ⟨fi, fdi, Mi, FI, bi⟩ := ci.ex
  obtain ⟨fl, fdl, Ml, _, FL, bl⟩ := cl.ex
  refine callType_codes (Q₁ := fun obj s₁ => obj = .ref s.heap.objs.size ∧ s₁ = { s with heap := s.heap.push { cls := .type "list", data := .seq #[] } }) PySem.F.called_list (PySem.F.typeCall_list_1 _) PySem.F.entry_list_init (code_list_new _ ⟨rfl, rfl⟩) ?_
  rintro obj s1 ⟨rfl, rfl⟩
  have I1 : Inv X pins σ (upd H s.heap.objs.size (.lst [])) { s with heap := s.heap.push { cls := .type "list", data := .seq #[] } } := I.lnew (its := []) (t' := s.toks) .nil (Nat.zero_le _)
  have free := I.fresh
  have pa : a ≠ s.heap.objs.size := ne_of_none ha free
  have pd : d ≠ s.heap.objs.size := ne_of_none hd free
  obtain ⟨_, its, n, r1, l1, g1⟩ := I1.lstM upd_same
  cases r1
  refine ⟨⟨_, g1, rfl⟩, PySem.F.args_list_init_2 _ _, ?_⟩
  unfold Builtin.«list.__init__»
  refine wpAny_bind (m := Builtin.List.listItems (.ref s.heap.objs.size)) ?_
  unfold Builtin.List.listItems Builtin.List.listUpdate
  refine wpAny_bind (wpAny_seqItems g1 rfl (wpAny_pure (wpAny_bind (wpAny_updateSeq g1 rfl ?_))))
  have I2 := I1.lset (f := fun _ => #[]) (its := []) (its' := []) (ys := []) (t' := s.toks) upd_same g1 rfl .nil (Nat.zero_le _)
  rw [upd_upd] at I2
  refine wpAny_bind (wpAny_letGo ?_)
  obtain ⟨_, its2, n2, r2, l2, g2⟩ := I2.lstM upd_same
  cases r2
  have ha2 : upd H s.heap.objs.size (.lst []) a = some (.ins C dx fs) := by rw [upd_ne pa]; exact ha
  have hd2 : upd H s.heap.objs.size (.lst []) d = some (.frz o (.dT kvs)) := by rw [upd_ne pd]; exact hd
  have hl2 := hlen _ free
  have hp2 : upd H s.heap.objs.size (.lst []) s.heap.objs.size = some (.lst []) := upd_same
  obtain ⟨H2, eH⟩ : ∃ H2, H2 = upd H s.heap.objs.size (.lst []) := ⟨_, rfl⟩
  rw [← eH] at I2 ha2 hd2 hl2 hp2
  obtain ⟨p, ep⟩ : ∃ p, p = s.heap.objs.size := ⟨_, rfl⟩
  rw [← ep] at g2 hp2 pa pd eH free ⊢
  revert I2 g2
  rw [← ep]
  generalize ({ s with heap := (s.heap.push { cls := .type "list", data := .seq #[] }).update p (Obj.mapSeq fun _ => #[]) } : Shared) = s2
  intro I2 g2
  have low : Low X (k + 1) X.A.in1.in1 := ⟨((hr.mono (show k + 1 + 1 + 1 ≤ j by omega)).in1).in1, rfl⟩
  obtain ⟨oa, J⟩ := ins_at I2 ha2
  obtain ⟨m, fr⟩ := I2.fr
  obtain ⟨_, gd, hx, es, ee, hdt, hsz, ent⟩ := I2.frzT hd2
  -- what is left when the iterator is there and the room is made
  have fin : ∀ (it : Addr) (s5 : Shared) (n5 : Nat), FpOk X pins H2 it → it ≠ p → it ≠ d → Inv X pins σ H2 s5 → s5.heap.get? p = some { cls := .type "list", data := .seq #[] n5 } → s5.heap.IsKeyIter it d 0 es.size ee →
      codeAny (model X.prog X.w) X.A.in1 (.builtin "list.extend.loop" ⟨[.ref p, .ref it, .none], []⟩) (wants (fun r s₂ => r = .none ∧ EP X pins σ Q (.ref p) s₂) X.xe) s5 := by
    intro it s5 n5 hf hip hid I5 g5 hit
    obtain ⟨_, gd5, _⟩ := I5.frzT hd2
    have hz : es.size ≤ sizeLine := by
      rw [hsz]
      exact (I5.hok d _ hd2).2.1
    have off : p ∉ [it, d] := fun z => by
      rcases List.mem_cons.mp z with z | z
      · exact hip z.symm
      · exact pd (List.mem_singleton.mp z).symm
    refine codeAny_extend_loopS (walks_raw (A := X.A.in1.in1) (I.ok.hd hc) it d (Ne.symm hid) hdt).toS hz p off .none es.size 0 _ #[] n5 rfl (Nat.zero_le _) ⟨hit, gd5⟩ g5 (ItemsOf.nil _) fun s6 acc n6 mv g6 all => ?_
    obtain ⟨bs, ks, eb, rv⟩ := keys_row (H := H2) (kvs := kvs) (vs := acc.toList) (by rw [Array.length_toList, all.1, hsz]) fun i k v e => by
      obtain ⟨en, b, h1, h2, h3⟩ := ent i k v e
      have hi : i < acc.size := by
        rw [all.1]
        exact (Array.getElem?_eq_some_iff.mp h1).1
      obtain ⟨en', h4, h5⟩ := all.2 i acc[i] (Array.getElem?_eq_getElem hi)
      rw [h1] at h4
      cases h4
      exact ⟨b, by rw [Array.getElem?_toList, Array.getElem?_eq_getElem hi, h5, h2], h3⟩
    have gp := Heap.get?_update_self (fun _ => ({ cls := .type "list", data := .seq acc n6 } : Obj)) g5 rfl
    have J6 := I5.write (x := p) (e := p) (o := .lst (bs.map V.ref)) (t' := s6.toks) (h' := s5.heap.update p fun _ => { cls := .type "list", data := .seq acc n6 }) (by rw [hp2]; exact trivial) (.inl rfl) (fun b o hb e => (Heap.get?_update_other _ _ (Ne.symm hb)).trans e) ⟨_, gp⟩
      ⟨by rw [List.length_map, ← List.length_map (f := Value.ref), ← eb, Array.length_toList, all.1]; exact hz, acc.toList, n6, rv, by rw [Array.toArray_toList]; exact gp⟩
    obtain ⟨f0, f1, f2, f3, f4, f5⟩ := hf
    have J7 := J6.turned (h' := s6.heap) (t' := s6.toks) (it := it) (fun b o hb e => by
      by_cases ebp : b = p
      · subst ebp
        have e' := gp.symm.trans e
        cases e'
        exact g6
      · exact mv.heap b o (fun z => by
          rcases List.mem_cons.mp z with z | z
          · exact ebp z
          · exact hb (List.mem_singleton.mp z)) ((Heap.get?_update_other _ _ (Ne.symm ebp)).symm.trans e)) (by rw [upd_ne hip]; exact f0) f1 f3 f4 f5
    have fin : EP X pins σ Q (.ref p) s6 := by
      rw [Moved.eq_with mv]
      refine ⟨.ref p, _, J7, rfl, ?_⟩
      rw [eH, upd_upd]
      refine q p bs free (Paired.mapP ks fun x b z => ?_)
      have np : b ≠ p := fun e => by
        rw [e, hp2] at z
        cases z
      rwa [eH, upd_ne np] at z
    exact ⟨rfl, fin⟩
  show wpAny _ _ (Builtin.List.listExtendWith (.ref p) (.ref a) .none) _ _ s2
  unfold Builtin.List.listExtendWith
  have no : (Builtin.List.listSameRef (.ref p) (.ref a) || Value.ref C == .type "list" || Value.ref C == .type "tuple") = false := by
    have : Builtin.List.listSameRef (.ref p) (.ref a) = false := by simp [Builtin.List.listSameRef, Ne.symm pa]
    rw [this]
    rfl
  refine wpAny_bind (J.type.here ?_)
  rw [if_neg (by rw [no]; decide)]
  have b := bi s2 [.ref a] I2.kIn (by rfl)
  refine wpAny_bind (PySem.W.owit_iter fr I2.ok.mod.kin J Mi.at_ Mi.fn (wpAny_call (codeAny_mono (FI.go X.A.in1.in1 X.stack s2 H2 ⟨[.ref a], []⟩ a dx d fs o kvs es ee (low.room.mono (Nat.le_succ k)) (low.env0 I2) b ha2 hl hd2 hdt) fun y s3 end_ => ?_)))
  match y, end_ with
  | .error e, ⟨_, _, _, _, _, _, _, _, _, _, _, _, bad⟩ => exact bad.elim
  | .ok (.ret u), ⟨it, H', eu, eH', os, bare, un, hok, hn, hz, hit⟩ =>
    subst eu
    obtain ⟨hh, g, dd, t, os'⟩ := s3
    obtain rfl : os' = s2.os := os
    subst eH'
    have J3 := I2.call (h' := hh) (g' := g) (d' := dd) (t' := t) (ch := []) un hok bare (fun b z => absurd z (by simp))
    unfold PySem.W.OwitIt
    refine wpAny_specialOf hit.typeIs PySem.F.slot_dict_keyiterator_next.lookup ?_
    have hf := I2.fpOk hz hn
    obtain ⟨oi, gi, ci2, di⟩ := id hit
    have J4 := J3.pinned (fp := [it]) (fun b hb => by rw [List.mem_singleton.mp hb]; exact hf) (fun b hb => by rw [List.mem_singleton.mp hb]; exact ⟨oi, gi, fun v z => by rw [di] at z; cases z⟩)
    obtain ⟨ob, J5⟩ := ins_at J4 ha2
    obtain ⟨m4, fr4⟩ := J4.fr
    have ni : it ≠ p := fun z => by rw [z, hp2] at hn; cases hn
    have nd : it ≠ d := fun z => by rw [z, hd2] at hn; cases hn
    refine wpAny_bind (wpAny_holding (own_length J4.kIn J5 Ml (PySem.W.len_K fr4 J4.ok.mod.kin J5 Ml.at_ Ml.fn (thn (run_low (vs := [.ref a]) FL (⟨low.room.in1, low.fr⟩ : Low X k X.A.in1.in1.in1) bl J4 (.cons rfl .nil) hl2) fun v s4 z => ?_))))
    obtain ⟨v4, H4, J6, r4, c, rfl, hc4, eH4⟩ := z
    obtain ⟨tc, rfl⟩ := r4
    subst eH4
    refine ⟨⟨by omega, by have := sizeLine_eq; omega⟩, c, _, rfl, hc4, ?_⟩
    have J7 := J6.unpinned.tok (s4.toks + 1)
    have at_it : s4.heap.get? it = some oi := (J6.pin (it, oi) (List.mem_append_right _ (List.mem_append_right _ (mem_pinsAt List.mem_cons_self gi)))).1
    have hit4 : s4.heap.IsKeyIter it d 0 es.size ee := ⟨oi, at_it, ci2, by rw [hsz]; exact di⟩
    obtain ⟨_, its5, n5, r5, l5, g5⟩ := J7.lstM hp2
    cases r5
    refine wpAny_ite_split (fun _ => ?_) (fun _ => wpAny_pure ⟨plainId_quiet PySem.F.plain_extend_loop _, fin it _ n5 hf ni nd J7 g5 hit4⟩)
    refine wpAny_bind (wpAny_rule (wpAny_bind ?_))
    unfold Builtin.List.listTouch Builtin.List.listUpdate
    refine wpAny_bind (wpAny_updateSeq g5 rfl ?_ (by simp [sizeLine_eq]) (by simp [sizeLine_eq]))
    have J8 := J7.lset (f := (·.push Value.none)) (its' := [Value.none]) (ys := [.non]) (t' := s4.toks + 1) hp2 g5 (by simp) (.cons rfl .nil) (by simp [sizeLine_eq])
    obtain ⟨_, its8, n8, r8, l8, g8⟩ := J8.lstM upd_same
    obtain ⟨u8, rfl, ru8⟩ := r8.one
    refine wpAny_updateSeq g8 rfl ?_ (by simp [sizeLine_eq]) (by simp [sizeLine_eq])
    have J9 := J8.lset (f := (·.pop)) (its := [u8]) (its' := []) (ys := []) (t' := s4.toks + 1) upd_same g8 (by rfl) .nil (Nat.zero_le _)
    have same : upd (upd H4 p (.lst [.non])) p (.lst []) = H4 := by
      rw [upd_upd]
      funext b
      by_cases e : b = p
      · rw [e, upd_same, hp2]
      · rw [upd_ne e]
    rw [same] at J9
    obtain ⟨_, its9, n9, r9, l9, g9⟩ := J9.lstM hp2
    cases r9
    refine wpAny_pure ⟨plainId_quiet PySem.F.plain_extend_loop _, fin it _ n9 hf ni nd J9 g9 ⟨oi, ?_, ci2, by rw [hsz]; exact di⟩⟩
    exact (Heap.get?_update_other _ _ (Ne.symm ni)).trans ((Heap.get?_update_other _ _ (Ne.symm ni)).trans at_it)
end
end Ew

set_option Elab.async false
set_option linter.all false
set_option maxRecDepth 100000
set_option maxHeartbeats 4000000
namespace Ew
open PySem PySem.Spec PyProof.Rows L2
/-! ### two dicts whose keys are tuples, side by side -/
section
variable {P : Program} {w : World} {A : Around} {E : Value → Shared → Prop} {s : Shared}
abbrev Turn1 := Option Bool × PUnit
/-- places asked one after the other, nothing is changed; the first no is the answer -/
theorem ask_places {Q : Turn1 → Shared → Prop} (b : Nat → Bool) (g : Nat → Turn1 → Sem (ForInStep Turn1)) : ∀ l : List Nat,
    (∀ i ∈ l, ∀ R : ForInStep Turn1 → Shared → Prop, R (if b i = true then .yield (none, ()) else .done (some false, ())) s → wpAny (model P w) A (g i (none, ())) R E s) →
    Q (if l.all b = true then (none, ()) else (some false, ())) s → wpAny (model P w) A (forIn l ((none, ()) : Turn1) g) Q E s
  | [], _, q => by
    rw [List.forIn_nil]
    exact wpAny_pure q
  | i :: l, h, q => by
    rw [List.forIn_cons]
    refine wpAny_bind (h i List.mem_cons_self _ ?_)
    rw [List.all_cons] at q
    cases e : b i with
    | false =>
      rw [e] at q
      exact wpAny_pure q
    | true =>
      rw [e] at q
      exact ask_places b g l (fun j hj => h j (List.mem_cons_of_mem _ hj)) q
variable {K : Type} [DecidableEq K] {kd : HeapKind P w K}
/-- what the pair at a place of the one says of the other -/
def sideB (ys : List (K × Addr × Value)) (e : K → Bool) (x : K × Addr × Value) : Bool := (ys.any fun y => decide (y.1 = x.1)) && e x.1
theorem one_of {ys : List (K × Addr × Value)} (hn : (ys.map (·.1)).Nodup) {i j : Nat} {k : K} {p q : Addr × Value} (h1 : ys[i]? = some (k, p)) (h2 : ys[j]? = some (k, q)) : p = q := by
  have e1 : (ys.map (·.1))[i]? = some k := by rw [List.getElem?_map, h1]; rfl
  have e2 : (ys.map (·.1))[j]? = some k := by rw [List.getElem?_map, h2]; rfl
  obtain ⟨hi, _⟩ := List.getElem?_eq_some_iff.mp e1
  have : i = j := (List.getElem?_inj hi hn).mp (e1.trans e2.symm)
  subst this
  exact (Prod.mk.inj (Option.some.inj (h1.symm.trans h2))).2
theorem side_by_side {nm : String} {a b : Addr} {xs ys : List (K × Addr × Value)} {e : K → Bool} {Q : Bool → Shared → Prop} (hu : kd.room A) (ha : (a == sysModules) = false) (hb : (b == sysModules) = false) (da : s.heap.DictOfH kd a xs) (db : s.heap.DictOfH kd b ys)
    (he : ∀ k p q, (k, p) ∈ xs → (k, q) ∈ ys → SeqAt.EqP P w A s p.2 q.2 (e k)) (q : Q (xs.length == ys.length && xs.all (sideB ys e)) s) : wpAny (model P w) A (Builtin.Dict.samePairs nm a b) Q E s := by
  obtain ⟨oa, ea, pa, ga, _, va, la, ka, _⟩ := da
  obtain ⟨ob, eb, pb, gb, _, vb, lb, kb, nb⟩ := db
  have sa : ea.size = xs.length := by rw [← Array.length_toList, la, List.length_map]
  have sb : eb.size = ys.length := by rw [← Array.length_toList, lb, List.length_map]
  simp only [Builtin.Dict.samePairs, Builtin.Dict.showsAll, ha, hb, Bool.false_eq_true, if_false]
  refine wpAny_bind (wpAny_pure (wpAny_bind (wpAny_pure (wpAny_bind (wpAny_dictEntries ga va (wpAny_bind (wpAny_dictEntries gb vb ?_)))))))
  rw [sa, sb]
  by_cases hl : xs.length = ys.length
  · rw [if_neg (by rw [hl]; simp)]
    rw [hl, beq_self_eq_true, Bool.true_and] at q
    refine wpAny_bind (wpAny_dictEpoch ga va (wpAny_bind ?_))
    rw [Std.Legacy.Range.forIn_eq_forIn_range']
    refine ask_places (fun i => (xs[i]?.map (sideB ys e)).getD true) _ _ (fun i hi R r => ?_) ?_
    · have il : i < xs.length := by
        have := List.mem_range'.mp hi
        simp at this
        omega
      obtain ⟨k, p, hx⟩ : ∃ k p, xs[i]? = some (k, p) := ⟨_, _, List.getElem?_eq_getElem il⟩
      have hm := List.mem_of_getElem? hx
      rw [hx] at r
      refine wpAny_bind (wpAny_dictEntries ga va ?_)
      rw [entry_at la, hx]
      refine wpAny_bind (wpAny_holding (wpAny_bind (wpAny_dictFind_heap (k := k) hu (ka _ hm) gb vb lb kb nb (fun no => ?_) fun j q hj => ?_)))
      · have f : sideB ys e (k, p) = false := by
          have n : (ys.any fun y => decide (y.1 = k)) = false := by
            rw [List.any_eq_false]
            rintro ⟨k2, q2⟩ hy
            obtain ⟨j, hj⟩ := List.mem_iff_getElem?.mp hy
            intro z
            obtain rfl : k2 = k := of_decide_eq_true z
            exact no j q2 hj
          rw [sideB, n, Bool.false_and]
        simp only [Option.map_some, Option.getD_some, f, Bool.false_eq_true, if_false] at r
        exact wpAny_pure (wpAny_pure r)
      · have hy := List.mem_of_getElem? hj
        have f : sideB ys e (k, p) = e k := by
          have n : (ys.any fun y => decide (y.1 = k)) = true := List.any_eq_true.mpr ⟨_, hy, decide_eq_true rfl⟩
          rw [sideB, n, Bool.true_and]
        simp only [Option.map_some, Option.getD_some, f] at r
        refine wpAny_bind (wpAny_dictEntries gb vb ?_)
        rw [entry_at lb, hj]
        refine wpAny_holding (he k p q hm hy _ _ ?_)
        cases ek : e k with
        | false =>
          rw [ek] at r
          exact wpAny_pure r
        | true =>
          rw [ek] at r
          refine wpAny_bind (wpAny_dictEpoch ga va ?_)
          rw [if_neg (by simp)]
          exact wpAny_pure r
    · have f : ((List.range' 0 xs.length 1).all fun i => (xs[i]?.map (sideB ys e)).getD true) = xs.all (sideB ys e) := by
        rw [Bool.eq_iff_iff, List.all_eq_true, List.all_eq_true]
        constructor
        · intro h x hx
          obtain ⟨i, hi⟩ := List.mem_iff_getElem?.mp hx
          have il := (List.getElem?_eq_some_iff.mp hi).1
          have := h i (List.mem_range'.mpr ⟨i, il, by simp⟩)
          rw [hi] at this
          exact this
        · intro h i hi
          cases hx : xs[i]? with
          | none => rfl
          | some x => exact h x (List.mem_of_getElem? hx)
      have g : (Std.Legacy.Range.size { start := 0, stop := xs.length, step := 1, step_pos := Nat.one_pos }) = xs.length := by
        simp [Std.Legacy.Range.size]
      rw [g, f]
      cases r : xs.all (sideB ys e) <;> (rw [r] at q; exact wpAny_pure q)
  · rw [if_pos (by simpa using hl)]
    have hf : (xs.length == ys.length) = false := by simpa using hl
    rw [hf, Bool.false_and] at q
    exact wpAny_bind (wpAny_rule (wpAny_pure q))
/-- a == b -/
theorem dd_eq {a b : Addr} {xs ys : List (K × Addr × Value)} {e : K → Bool} {Q : Value → Shared → Prop} (hc : A.units < cLine) (hu : kd.room A.in1) (ha : (a == sysModules) = false) (hb : (b == sysModules) = false) (da : s.heap.DictOfH kd a xs) (db : s.heap.DictOfH kd b ys)
    (he : ∀ k p q, (k, p) ∈ xs → (k, q) ∈ ys → SeqAt.EqP P w A.in1 s p.2 q.2 (e k)) (q : Q (.bool (xs.length == ys.length && xs.all (sideB ys e))) s) : wpAny (model P w) A (richCompare .Eq (.ref a) (.ref b)) Q E s := by
  have ta : s.TypeIs (.ref a) "dict" := da.typeIs
  have tb : s.TypeIs (.ref b) "dict" := db.typeIs
  refine wpAny_richCompare_same_room (op := .Eq) ta tb PySem.F.slot_dict_eq ?_ hc
  refine wpAny_call_entry PySem.F.slot_dict_eq ta PySem.F.entry_dict_eq ?_ (PySem.F.args_dict_eq_2 _ _)
  refine wpAny_bind (m := Builtin.Dict.dictSlotArgs "__eq__" ⟨[.ref a, .ref b], []⟩) (wpAny_bind (wpAny_notOrdered_dict ta (wpAny_pure ?_)))
  refine wpAny_bind (wpAny_isInstance (T := "dict") (b := true) tb PySem.F.sub_dict_dict ?_)
  refine wpAny_bind (m := Builtin.Dict.addrOf (.ref a)) (wpAny_pure (wpAny_bind (m := Builtin.Dict.addrOf (.ref b)) (wpAny_pure (wpAny_bind (side_by_side hu ha hb da db he ?_)))))
  have f : Q (.bool ((xs.length == ys.length && xs.all (sideB ys e)) == true)) s := by
    rw [beq_true]
    exact q
  refine wpAny_pure ⟨_, rfl, ?_, f⟩
  rintro ⟨⟩
end
/-! ### == of two such dicts by what the reading says of them -/
def inB (kb : List (List Key × V)) (e : List Key → Bool) (p : List Key × V) : Bool := (kb.any fun q => decide (q.1 = p.1)) && e p.1
def rEqT (K : PySem.W.Frag) : R2 := fun x y H Q => ∃ a b ka kb e, x = .ref a ∧ y = .ref b ∧ Rd H a (.dT ka) ∧ Rd H b (.dT kb) ∧
  (∀ k v u, (k, v) ∈ ka → (k, u) ∈ kb → ∃ d1 d2, Dp K H v d1 ∧ Dp K H u d2 ∧ SeqAt.shaped d1 = true ∧ SeqAt.shaped d2 = true ∧ PyData.eqv d1 d2 = e k) ∧ Q (.bl (ka.length == kb.length && ka.all (inB kb e))) H
theorem kt_back {H : Hp} {ks : List (List Key × V)} {xs : List (List Key × Addr × Value)} (r : KT H ks xs) : ∀ k p, (k, p) ∈ xs → ∃ v, (k, v) ∈ ks ∧ RelV v p.2 := by
  induction r with
  | nil => exact fun k p h => nomatch h
  | cons h t ih =>
    intro k p m
    rcases List.mem_cons.mp m with z | z
    · subst z
      exact ⟨_, List.mem_cons.mpr (.inl (Prod.ext h.1.symm rfl)), h.2.2⟩
    · obtain ⟨v, hv, rv⟩ := ih k p z
      exact ⟨v, List.mem_cons_of_mem _ hv, rv⟩
theorem kt_len {H : Hp} {ks : List (List Key × V)} {xs : List (List Key × Addr × Value)} (r : KT H ks xs) : xs.length = ks.length := by
  induction r with
  | nil => rfl
  | cons h t ih => rw [List.length_cons, List.length_cons, ih]
theorem kt_any {H : Hp} {ks : List (List Key × V)} {xs : List (List Key × Addr × Value)} (r : KT H ks xs) (k : List Key) : (xs.any fun y => decide (y.1 = k)) = ks.any fun q => decide (q.1 = k) := by
  induction r with
  | nil => rfl
  | cons h t ih => rw [List.any_cons, List.any_cons, ih, h.1]
theorem kt_all {H : Hp} {ka kb : List (List Key × V)} {xs ys : List (List Key × Addr × Value)} (r : KT H ka xs) (t : KT H kb ys) (e : List Key → Bool) : xs.all (sideB ys e) = ka.all (inB kb e) := by
  induction r with
  | nil => rfl
  | cons h _ ih => rw [List.all_cons, List.all_cons, ih, sideB, inB, kt_any t, h.1]
theorem op_eqT {X : Cx} (hu : X.A.units + 65 < cLine) : OpR X (compareOp .Eq) (rEqT X.K) := by
  intro pins s σ H x y v u Q I rx ry h
  obtain ⟨a, b, ka, kb, e, rfl, rfl, ea, eb, he, q⟩ := h
  obtain rfl : v = Value.ref a := rx
  obtain rfl : u = Value.ref b := ry
  obtain ⟨_, na, xs, ra, da⟩ := dt_rd I.hok ea
  obtain ⟨_, nb, ys, rb, db⟩ := dt_rd I.hok eb
  refine dd_eq (e := e) (by omega) (show X.A.in1.units < cLine from ?_) na nb da db (fun k p z hp hz => ?_) ?_
  · show X.A.units + 1 < cLine
    omega
  · obtain ⟨v1, m1, r1⟩ := kt_back ra k p hp
    obtain ⟨v2, m2, r2⟩ := kt_back rb k z hz
    obtain ⟨d1, d2, h1, h2, s1, s2, f⟩ := he k v1 v2 m1 m2
    obtain ⟨as, w1⟩ := Dp.reads I d1 v1 _ h1 r1
    obtain ⟨bs, w2⟩ := Dp.reads I d2 v2 _ h2 r2
    rw [← f]
    exact (PySem.W.keq_at w1 w2 s1 s2 (show X.A.units + 1 + 64 < cLine by omega)).eqP
  · rw [kt_len ra, kt_len rb, kt_all ra rb]
    exact ⟨.bl _, H, I, rfl, q⟩
end Ew

set_option Elab.async false
set_option linter.all false
set_option maxRecDepth 100000
set_option maxHeartbeats 4000000
namespace Ew
open PySem PySem.Spec PyProof.Rows L2
section
variable {X : Cx} {e : Expr} {te : TE}
/-- behind an expression a thing of the def's own is not to be written any more -/
def tKeep (te : TE) : TE := fun σ H Q => te σ H fun v H' => ∃ d u, H' d = some u ∧ Mut (some u) ∧ ∀ o, Q v (upd H' d (.frz o u))
theorem pe_keep (h : PE X e te) : PE X e (tKeep te) := ⟨fun pins s σ H Q I q => thn (h.run pins s σ H _ I q) fun _ _ ⟨v, H', J, r, d, u, hd, mu, k⟩ => by
  obtain ⟨o, J2⟩ := J.lock hd mu
  exact ⟨v, _, J2, r, k o⟩⟩
/-- len of a dict whose keys are tuples, written or not -/
def rLenF : List V → Hp → VK → Prop := fun xs H Q => ∃ p kvs, xs = [.ref p] ∧ Rd H p (.dT kvs) ∧ Q (.int ((kvs.length : Nat) : Int)) H
theorem call_lenF : CallR X (.builtin "len") rLenF := by
  intro pins s σ H xs us Q I r h
  obtain ⟨p, kvs, rfl, hp, q⟩ := h
  obtain ⟨u, rfl, rx⟩ := vals1 r
  obtain rfl : u = Value.ref p := rx
  obtain ⟨z, ns, ys, kt, d⟩ := dt_rd I.hok hp
  have l : ys.length = kvs.length := kt_len kt
  refine call_len_dictH ns d (by have := sizeLine_eq; omega) ?_
  rw [l]
  exact ⟨.int _, H, (I.tok _).tok _, ⟨_, rfl⟩, q⟩
/-- room for what stands a little deeper -/
theorem units5 {k : Nat} {A : Around} (r : Room k A) : A.units + 65 < cLine := by
  have := r.un
  omega
end
end Ew

set_option Elab.async false
set_option linter.all false
set_option maxRecDepth 100000
set_option maxHeartbeats 4000000
namespace Ew
open PySem PySem.Spec PyProof.Rows L2
/-! ### enumerate(a tuple) -/
section
variable {P : Program} {w : World} {A : Around} {E : Value → Shared → Prop} {s : Shared}
theorem enum_new {v : Value} {o : Obj} {G : Heap → Prop} (B : Begins v o G) : Meets (Builtin.«enumerate.__new__» ⟨[.type "enumerate", v], []⟩) (fun _ R s => G s.heap ∧
    R (.ok (.ret (.ref (s.heap.push o).objs.size))) { s with heap := (s.heap.push o).push { cls := .type "enumerate", data := .fields #[.none, .bool false, .ref s.heap.objs.size, rawInt 0, .none, .none] } }) :=
  .of_wp fun P w A R s z => by
    obtain ⟨hp, g, d, tk, os⟩ := s
    obtain ⟨here, q⟩ := z
    have sub := sub_enumerate
    have go : ∀ {A' : Around} {E : Value → Shared → Prop} {Q : Value → Shared → Prop}, Q (.ref hp.objs.size) ⟨hp.push o, g, d, tk, os⟩ → wpAny (model P w) A' (pyIter v) Q E ⟨hp, g, d, tk, os⟩ := fun k => B.iter P w _ _ ⟨hp, g, d, tk, os⟩ _ here k
    wp_walk using go
    refine wpAny_stack_any fun st => wpAny_pure ?_
    split
    · rename_i c _ _ _ _ _
      cases (c == Value.type "enumerate") <;> (wp_walk using go; exact ⟨_, rfl, q⟩)
    · wp_walk using go
      exact ⟨_, rfl, q⟩
theorem enum_call {v : Value} {o : Obj} {G : Heap → Prop} {Q : Value → Shared → Prop} (B : Begins v o G) (here : G s.heap)
    (k : ∀ h', IsEnum h' (s.heap.objs.size + 1) s.heap.objs.size 0 .none → h'.get? s.heap.objs.size = some o → (∀ b u, s.heap.get? b = some u → h'.get? b = some u) → Q (.ref (s.heap.objs.size + 1)) { s with heap := h' }) :
    wpAny (model P w) A (call (.type "enumerate") [v]) Q E s := by
  refine callType_new F.called_enumerate (by decide) (F.typeCall_enumerate_1 _) (F.newCall_enumerate_1 _) (fun obj => F.args_object_init_2 obj _) F.entry_enumerate_new (enum_new B) ⟨here, ?_⟩
  have z : (s.heap.push o).objs.size = s.heap.objs.size + 1 := Heap.size_push ..
  have e := Heap.get?_push_size (s.heap.push o) (o := { cls := .type "enumerate", data := .fields #[.none, .bool false, .ref s.heap.objs.size, rawInt 0, .none, .none] }) rfl
  show _ ∧ _
  rw [z] at e ⊢
  exact ⟨⟨_, e, rfl⟩, k _ e (Heap.get?_push_of_some _ (Heap.get?_push_size _ B.free)) fun b u q => Heap.get?_push_of_some _ (Heap.get?_push_of_some _ q)⟩
end
/-- the tuple at a, each item in a new pair behind its place -/
def IteT (K : PySem.W.Frag) (a : Addr) : It where
  go := fun i H => ∃ (xs : List V) (x : V), SqT K H a xs ∧ xs[i]? = some x
  yld := fun i H v H' => ∃ T x, v = .ref T ∧ H T = none ∧ H' = upd H T (.tup [.int (i : Nat), x]) ∧ ∀ xs, SqT K H a xs → xs[i]? = some x
  stop := fun i H => ∃ xs : List V, SqT K H a xs ∧ i = xs.length
theorem two {c e it : Addr} (h : c ∈ [e, it]) : c = e ∨ c = it := by
  simp only [List.mem_cons, List.not_mem_nil, or_false] at h
  exact h
theorem turn_enumT {P : Program} {w : World} {K : PySem.W.Frag} {elts : List Expr} {kk : Nat} {tpos : Pos} {a e it : Addr} (ne : e ≠ it) (na : a ≠ it) (ea : e ≠ a) :
    Turn P w K (.Tuple elts kk tpos) (IteT K a) [e, it] e (fun i h => (∃ old, IsEnum h e it ((i : Nat) : Int) old) ∧ h.IsTupleIter it a i) where
  mem := List.mem_cons_self
  obj := fun i h st c hc => by
    obtain ⟨⟨_, q1⟩, ⟨o, q2, _, d2⟩⟩ := st
    rcases two hc with rfl | rfl
    · exact ⟨_, q1, fun v e => nomatch e⟩
    · exact ⟨o, q2, fun v e => by rw [d2] at e; cases e⟩
  keep := fun i h h' st k => by
    obtain ⟨⟨x, q1⟩, q2⟩ := st
    exact ⟨⟨x, k _ List.mem_cons_self _ q1⟩, q2.at fun o e => k _ (by simp) o e⟩
  item := by
    intro X hP hw hK hc i pins s σ H E I hf st go
    subst hP hw hK
    obtain ⟨⟨x0, q1⟩, q2⟩ := st
    obtain ⟨xs, x, sx, hx⟩ := go
    obtain ⟨l, r, p, _⟩ := I.tuple sx
    obtain ⟨u, hu, ru⟩ := r.get hx
    have D := Draws.tuple (prog := X.prog) (w := X.w) (A := X.A.in1) (I.ok.hd hc) it a na l.toArray
    have g : i < l.toArray.size := by
      rw [List.size_toArray]
      exact (List.getElem?_eq_some_iff.mp hu).1
    have le := Heap.lt_size q1
    have li : it < s.heap.objs.size := by obtain ⟨_, e, _⟩ := q2; exact Heap.lt_size e
    refine wpAny_pyNext_enum_itemD D q1 ⟨q2, p⟩ g ne (fun z => (List.mem_cons.mp z).elim ne fun z => ea (List.mem_singleton.mp z)) fun v h' tk e1 w1 w2 w3 w4 w5 => ?_
    rw [List.getElem?_toArray, hu] at e1
    cases e1
    refine ⟨_, rfl, wpAny_letOwnedTupleGo_enum (s := { s with heap := h', toks := tk + 1 }) w1 fun h'' w1' sb => ?_⟩
    have nw : h''.get? s.heap.objs.size = some { cls := .type "tuple", data := .seq #[.int i tk, u] } := (sb.2 _ (Nat.ne_of_gt le)).trans w3
    have ob : ObjOk X.prog X.w (upd H s.heap.objs.size (.tup [.int (i : Nat), x])) h'' s.heap.objs.size (.tup [.int (i : Nat), x]) := by
      refine ⟨?_, [.int i tk, u], .cons ⟨_, rfl⟩ (.cons ru .nil), ⟨_, nw, rfl, _, rfl⟩⟩
      show 2 ≤ sizeLine
      decide
    have off : ∀ c o, c ∉ [e, it] → s.heap.get? c = some o → h''.get? c = some o := fun c o hb q => by
      have n : c ≠ e ∧ c ≠ it := ⟨fun q => hb (by simp [q]), fun q => hb (by simp [q])⟩
      exact (sb.2 c n.1).trans (w5 c o n.1 n.2 q)
    have I1 : Inv X pins σ (upd H s.heap.objs.size (.tup [.int (i : Nat), x])) { s with heap := h'', toks := tk + 1 } := I.turnedNew off hf (Nat.le_refl _) ob
    refine ⟨.ref s.heap.objs.size, _, I1, rfl, ⟨_, x, rfl, I.hok.fresh (Nat.le_refl _), rfl, fun ys hl => ?_⟩, ⟨⟨_, w1'⟩, ?_⟩, fun c hcm => ?_⟩
    · rw [I.tuple_inj hl sx]
      exact hx
    · exact w2.1.at fun o q => (sb.2 _ ne.symm).trans q
    · have lt : c < s.heap.objs.size := by
        rcases two hcm with rfl | rfl
        · exact le
        · exact li
      rw [upd_ne (Nat.ne_of_lt lt)]
      exact (hf c hcm).1
  done := by
    intro X hP hw hK hc i pins s σ H E I hf st go
    subst hP hw hK
    obtain ⟨⟨x0, q1⟩, q2⟩ := st
    obtain ⟨xs, sx, hi⟩ := go
    obtain ⟨l, r, p, _⟩ := I.tuple sx
    have el := r.length
    have D := Draws.tuple (prog := X.prog) (w := X.w) (A := X.A.in1) (I.ok.hd hc) it a na l.toArray
    have ez : l.toArray.size = i := by
      rw [List.size_toArray, hi]
      exact el.symm
    refine wpAny_pyNext_enum_endD D q1 (by rw [ez]; exact ⟨q2, p⟩) fun h' k => ⟨rfl, ?_⟩
    exact I.turnedL (ch := [e, it]) (fun c o hb q => k c o (fun z => hb (by simp [z])) q) hf
  self := fun A i s Q E st h => wpAny_pyIter_enum st.1.choose_spec h
def iEnumT (K : PySem.W.Frag) (ta : TA) : TI := fun σ H R => ta σ H fun vs H1 => ∃ a xs, vs = [.ref a] ∧ SqT K H1 a xs ∧ R (IteT K a) H1
theorem pi_enumT {X : Cx} {e : Expr} {ta : TA} {p pos tpos : Pos} {elts : List Expr} {kk : Nat} (hg : Gl X "enumerate") (hm : X.mg "enumerate" = none) (ha : PA X [e] ta) (hs : starEach [e] X.env = [(false, eval e X.env)] := by rfl) :
    PI X (.Tuple elts kk tpos) (.Call (.Name "enumerate" p) [e] [] pos) (iEnumT X.K ta) := by
  refine ⟨fun pins s σ H R I h => Call_ (ld_blt I hg hm boot_enumerate (PyProof.Rows.callWith_type1 (thn (ha.run pos pins s σ H _ I h) fun us s1 z => ?_) hs rfl))⟩
  obtain ⟨vs, H1, I1, r1, a, xs, rfl, sx, q⟩ := z
  obtain ⟨u, rfl, ru⟩ := vals1 r1
  cases ru
  obtain ⟨l, rv, p1, _⟩ := I1.tuple sx
  have la : a < s1.heap.objs.size := by
    obtain ⟨o, e, _⟩ := id p1
    exact Heap.lt_size e
  refine enum_call (begins_tuple a l.toArray) p1 fun h' he hi k => wpAny_pyIter_enum he ?_
  have I2 : Inv X pins σ H1 { s1 with heap := h' } := I1.kept (t' := s1.toks) k
  refine ⟨s1.heap.objs.size + 1, [s1.heap.objs.size + 1, s1.heap.objs.size], _, _, H1, rfl, I2, turn_enumT (a := a) (e := s1.heap.objs.size + 1) (it := s1.heap.objs.size) (Nat.succ_ne_self _) (Nat.ne_of_lt la) (Nat.ne_of_gt (Nat.lt_succ_of_lt la)), ⟨⟨_, he⟩, ⟨_, hi, rfl, rfl⟩⟩, fun b hb => ?_, q⟩
  have le : s1.heap.objs.size ≤ b := by
    rcases two hb with rfl | rfl
    · exact Nat.le_add_right _ _
    · exact Nat.le_refl _
  exact I1.fpOk le (I1.hok.fresh le)
/-- enumerate(a list or a tuple) -/
theorem pi_enumX {X : Cx} {e : Expr} {ta : TA} {p pos tpos : Pos} {elts : List Expr} {kk : Nat} (hg : Gl X "enumerate") (hm : X.mg "enumerate" = none) (ha : PA X [e] ta) (hs : starEach [e] X.env = [(false, eval e X.env)] := by rfl) :
    PI X (.Tuple elts kk tpos) (.Call (.Name "enumerate" p) [e] [] pos) (fun σ H R => iEnum X.K ta σ H R ∨ iEnumT X.K ta σ H R) :=
  ⟨fun pins s σ H R I h => h.elim ((pi_enum hg hm ha hs).run pins s σ H R I) ((pi_enumT hg hm ha hs).run pins s σ H R I)⟩
end Ew

set_option Elab.async false
set_option linter.all false
set_option maxRecDepth 100000
set_option maxHeartbeats 4000000
namespace Ew
open PySem PySem.Spec PyProof.Rows L2
/-! ### an attribute as a target among others -/
section
variable {X : Cx} {o : Expr} {f : Str} {ta : TE} {pos : Pos}
def gFld (K : PySem.W.Frag) (ta : TE) (f : Str) : TG := fun v σ H Q => ta σ H fun x H1 => ∃ a C dx fs, x = .ref a ∧ H1 a = some (.ins C dx fs) ∧ Cls K C ∧ NoAttr K C f ∧ fs.length < 1000 ∧ Q σ (upd H1 a (.ins C dx (putF f v fs)))
theorem pg_fld (ha : PE X o ta) : PG X (.Attribute o f pos) (gFld X.K ta f) := by
  refine ⟨fun pins s σ H v u Q I r h => PySem.W.kas_attr (thn (ha.run pins s σ H _ I h) fun ov s2 ⟨x, H2, I2, rx, z⟩ => ?_)⟩
  obtain ⟨a, C, dx, fs, rfl, ea, c, n, l, q⟩ := z
  obtain rfl : ov = Value.ref a := rx
  exact setattr_ok I2 ea c n l r fun s3 I3 => ⟨σ, _, I3, q⟩
end
/-! ### an instance that is called -/
/-- its class has __call__, with a promise -/
structure ClmC (P : Program) (w : World) (K : PySem.W.Frag) (mg : Str → Option Value) (base : Heap) (k : Nat) (C : Addr) (ps : List Str) (sp : Sp) : Prop where
  ex : ∃ f fd, StX.CallO K C f ∧ FnOk P w K mg base (L2.CX P w) k f fd ps sp ∧ Binds K fd ps []
section
variable {X : Cx} {k j : Nat} {C : Addr} {ps : List Str} {sp : Sp} {e fe : Expr} {es : List Expr} {tf : TE} {t : TA} {pos : Pos} {W : WX}
def tCallI (C : Addr) (sp : Sp) (W : WX) (tf : TE) (t : TA) : TE := fun σ H Q => tf σ H fun y H1 => ∃ a, y = .ref a ∧ t σ H1 fun vs H2 => (∃ dx fs, H2 a = some (.ins C dx fs)) ∧ sp (.ref a :: vs) H2 Q (WE W σ)
theorem pe_callI (c : ClmC X.prog X.w X.K X.mg X.base k C ps sp) (tk : Takes X W) (hr : Room j X.A) (hk : k ≤ j) (hf : PE X fe tf) (ha : PA X (e :: es) t)
    (ht : eval (.Call fe (e :: es) [] pos) X.env = (do callWith pos (← eval fe X.env) [] (backTo pos (starEach (e :: es) X.env)) (backToKw pos (keywordEach [] X.env))) := by rfl)
    (he : starEach (e :: es) X.env = (false, eval e X.env) :: starEach es X.env := by rfl) (hpl : (backTo pos (starEach es X.env)).any (·.1) = false := by rfl) : PE X (.Call fe (e :: es) [] pos) (tCallI C sp W tf t) := by
  obtain ⟨f, fd, cc, F, hb⟩ := c.ex
  refine ⟨fun pins s σ H Q I h => Call_ (thn (hf.run pins s σ H _ I h) fun u s1 ⟨y, H1, I1, ry, a, ey, q⟩ => ?_) ht⟩
  subst ey
  obtain rfl : u = Value.ref a := ry
  refine StX.callO_with (thn (ha.run pos pins s1 σ H1 _ I1 q) fun us s2 ⟨vs, H2, I2, r, ⟨dx, fs, ei⟩, q2⟩ => ?_) he hpl
  obtain ⟨ox, od, J, hd⟩ := StX.insC_at I2 (.inr ⟨dx, fs, ei⟩)
  refine ⟨⟨C, ox, od, J, hd⟩, wpAny_call (PySem.W.kco_code I2.kIn J hd cc.at_ cc.fn cc.fi ?_)⟩
  have many : (Value.ref a :: us).length = ps.length := (Paired.length (show Vals (.ref a :: vs) (.ref a :: us) from .cons rfl r)) ▸ F.len _ _ _ _ q2
  have bind := hb s2 (.ref a :: us) I2.kIn (by rw [List.append_nil]; exact many)
  rw [List.append_nil] at bind
  refine codeAny_mono (F.run X.A X.stack s2 H2 ⟨.ref a :: us, []⟩ (.ref a :: us) (.ref a :: vs) Q (WE W σ) (hr.mono hk) I2.env0 bind (.cons rfl r) q2) fun y s' end_ => ?_
  match y, end_ with
  | .error e, end_ => exact passAt tk σ pins H2 s2 e s' I2 end_
  | .ok (.ret u), end_ => exact I2.after end_
end
/-! ### a new instance, some of its __init__'s values its defaults -/
structure MkrD (P : Program) (w : World) (K : PySem.W.Frag) (mg : Str → Option Value) (base : Heap) (k : Nat) (x : Str) (C : Addr) (ps : List Str) (sp : Sp) (dvs : List V) : Prop where
  gC : mg x = some (.ref C)
  ex : ∃ f fd ds, Mk K C f ∧ FnOk P w K mg base (L2.CX P w) k f fd ps sp ∧ Binds K fd ps ds ∧ Vals dvs ds
section
variable {X : Cx} {k j : Nat} {x : Str} {C : Addr} {ps : List Str} {sp : Sp} {dvs : List V} {e : Expr} {es : List Expr} {t : TA} {p pos : Pos}
theorem pe_mkD (c : MkrD X.prog X.w X.K X.mg X.base k x C ps sp dvs) (hr : Room j X.A) (hk : k + 1 ≤ j) (hg : Gl X x) (ha : PA X (e :: es) t) (hdb : (x == ("__debug__" : Str)) = false := by decide)
    (he : starEach (e :: es) X.env = (false, eval e X.env) :: starEach es X.env := by rfl) (hpl : (backTo pos (starEach es X.env)).any (·.1) = false := by rfl) : PE X (.Call (.Name x p) (e :: es) [] pos) (tMake C sp dvs E0 t) := by
  obtain ⟨f, fd, ds, M, F, hb, hd⟩ := c.ex
  exact pe_make M F (hr.mono hk) hg c.gC hb hd passL ha hdb he hpl
theorem pe_mkD0 (c : MkrD X.prog X.w X.K X.mg X.base k x C ps sp dvs) (hr : Room j X.A) (hk : k + 1 ≤ j) (hg : Gl X x) (hdb : (x == ("__debug__" : Str)) = false := by decide) : PE X (.Call (.Name x p) [] [] pos) (tMake C sp dvs E0 tNil) := by
  obtain ⟨f, fd, ds, M, F, hb, hd⟩ := c.ex
  exact pe_make0 M F (hr.mono hk) hg c.gC hb hd passL hdb
end
/-! ### a method without arguments -/
section
variable {X : Cx} {k j : Nat} {C : Addr} {m : Str} {ps : List Str} {sp : Sp} {o : Expr} {ta : TE} {apos pos : Pos}
theorem pe_mf0 {pl : Sem Bool} (c : Mt X.prog X.w X.K X.mg X.base k C m ps sp []) (hr : Room j X.A) (hk : k ≤ j) (he : PE X o ta)
    (ht : eval (.Call (.Attribute o m apos) [] [] pos) X.env = (do
      let v ← eval o X.env
      standAt apos.atName
      let (g, first) ← holding [v] (getMethod v m pl)
      callWith pos g first (backTo pos (starEach [] X.env)) (backToKw pos (keywordEach [] X.env))) := by rfl) : PE X (.Call (.Attribute o m apos) [] [] pos) (tMeth C m sp [] E0 ta tNil) := by
  obtain ⟨f, fd, ds, M, F, hb, hd⟩ := c.ex
  cases hd
  exact pe_meth0 he c.cl M F (hr.mono hk) hb .nil passL ht
end
/-! ### an own sign with something of a built-in kind at its right -/
section
variable {P : Program} {w : World} {A : Around} {E : Value → Shared → Prop} {s : Shared} {K : PySem.W.Frag} {x C L f : Addr} {hp : Heap} {mo : Str → Option Value} {ox : Obj} {od : Option Obj} {T : String} {op : Operator} {b : Value} {fo ro rc : Option Value} {Q : Value → Shared → Prop}
theorem bin_left (fr : Fr hp L s.heap mo) (kin : K.In hp) (J : PySem.W.InstAt s.heap x ox C od) (ty : PySem.W.Looks (model P w) s.heap (typeOf b) (.type T)) (sf : PySem.W.selfFirst K C = true)
    (M : OpM K C (PySem.dunder op.info.2) f) (hr : PySem.W.findIn K (.ref C) (PySem.dunderR op.info.2) = some none)
    (h1 : PySem.W.findIn K (.type T) (PySem.dunder op.info.2) = some fo) (h2 : PySem.W.findIn K (.type T) (PySem.dunderR op.info.2) = some ro) (sub : PySem.W.subIn K (.type T) (.ref C) = some false)
    (run : wpAny (model P w) A (call (.ref f) [.ref x, b]) (PySem.W.CmpBack Q) E s) : wpAny (model P w) A (binaryOp op (.ref x) b) Q E s := by
  have XX := kin.keeps fr.keep
  obtain ⟨at_, fn⟩ := M
  obtain ⟨cd, rest, own, first⟩ := PySem.W.ksp_first sf
  rcases key : op.info with ⟨sign, nm⟩
  rw [key] at at_ hr h1 h2
  dsimp only at at_ hr h1 h2
  have last := PySem.W.ksp_try XX J at_ fn run
  obtain ⟨hh, gg, dd, tt, os⟩ := s
  have y1 : PySem.W.Looks (model P w) hh (typeOf (.ref x)) (.ref C) := J.type
  have y2 : PySem.W.Looks (model P w) hh (typeOf b) (.type T) := ty
  have y3 : PySem.W.Looks (model P w) hh (fillsNumberSlot (.ref C) nm) true := PySem.W.fills_K XX own first at_
  have y4 : PySem.W.Looks (model P w) hh (fillsNumberSlot (.type T) nm) ((fo.isSome && !isSeqSlot fo) || (ro.isSome && !isSeqSlot ro)) := PySem.W.ksp_fillsT XX h1 h2
  have y5 : PySem.W.Looks (model P w) hh (isSubtype (.type T) (.ref C)) false := PySem.W.looks_subIn XX sub
  have y6 : PySem.W.Looks (model P w) hh (numberSlotInPython (.ref C) nm) true := PySem.W.ksp_inPy XX at_ hr (.inl rfl)
  have y7 : PySem.W.Looks (model P w) hh (numberSlotInPython (.type T) nm) false := PySem.W.Looks.of_pure rfl
  have y8 : PySem.W.Looks (model P w) hh (typeLookup (.type T) (PySem.dunderR nm)) ro := PySem.W.looks_findIn XX h2
  generalize ((fo.isSome && !isSeqSlot fo) || (ro.isSome && !isSeqSlot ro)) = side at y4
  have ne : (Value.ref C == Value.type T) = false := Bool.eq_false_iff.mpr fun z => nomatch beq_iff_eq.mp z
  simp only [binaryOp, key]
  refine wpAny_holding (wpAny_bind ?_)
  unfold binaryOp1
  refine wpAny_bind (y1.at (wpAny_bind (y2.at (wpAny_bind (y3.at ?_)))))
  simp only [ne, Bool.false_eq_true, if_false]
  cases side <;>
  · ksp_lk
    refine wpAny_mono last (fun r s' z => ?_) fun _ _ z => z
    obtain ⟨v, rfl, hv⟩ := z
    ksp_lk
    exact hv
end
section
variable {X : Cx} {CX : CXT} {k j : Nat} {C : Addr} {ps : List Str} {sp : Sp} {a b : Expr} {ta tb : TE} {pos : Pos} {W : WX} {op : Operator}
/-- what an own sign with a tuple at its right wants of the class -/
structure TupR (K : PySem.W.Frag) (C : Addr) (nm : String) : Prop where
  rf : PySem.W.findIn K (.ref C) (PySem.dunderR nm) = some none
  t1 : ∃ fo, PySem.W.findIn K (.type "tuple") (PySem.dunder nm) = some fo
  t2 : ∃ ro, PySem.W.findIn K (.type "tuple") (PySem.dunderR nm) = some ro
  sb : PySem.W.subIn K (.type "tuple") (.ref C) = some false
def tBinT (K : PySem.W.Frag) (C : Addr) (sp : Sp) (E : L2.St → XK) (ta tb : TE) : TE := fun σ H Q => ta σ H fun x H1 => tb σ H1 fun y H2 => ∃ p q dx fs ys, x = .ref p ∧ y = .ref q ∧ H2 p = some (.ins C dx fs) ∧ SqT K H2 q ys ∧ sp [x, y] H2 Q (E σ)
theorem pe_binT (c : OpC X.prog X.w X.K X.mg X.base k C (PySem.dunder op.info.2) ps sp) (R : TupR X.K C op.info.2) (tk : Takes X W) (hr : Room j X.A) (hk : k ≤ j) (h1 : PE X a ta) (h2 : PE X b tb) : PE X (.BinOp a op b pos) (tBinT X.K C sp (WE W) ta tb) := by
  obtain ⟨f, fd, M, F, hb⟩ := c.ex
  obtain ⟨rf, ⟨fo, t1⟩, ⟨ro, t2⟩, sb⟩ := R
  refine ⟨fun pins s σ H Q I h => wpAny_BinOp (bin h1 h2 I h fun v u s2 x y H2 I2 rx ry q => ?_)⟩
  obtain ⟨p, q', dx, fs, ys, rfl, rfl, e1, e2, q⟩ := q
  cases rx
  cases ry
  obtain ⟨o1, J1⟩ := ins_at I2 e1
  obtain ⟨m, fr⟩ := I2.fr
  obtain ⟨its, rv, ⟨o, ho, hc, _⟩, _⟩ := I2.tuple e2
  exact bin_left fr I2.ok.mod.kin J1 (fun A' Q' E' s' kp z => wpAny_typeOf_ref (kp _ _ ho) (by rw [hc]; exact z)) c.sf M rf t1 t2 sb
    (thn (run_fnS (vs := [.ref p, .ref q']) F (hr.mono hk) hb (passAt tk σ) I2 (.cons rfl (.cons rfl .nil)) q) fun _ _ z => back_of z)
end
end Ew

set_option Elab.async false
set_option linter.all false
set_option maxRecDepth 100000
set_option maxHeartbeats 4000000
namespace Ew
open PySem PySem.Spec PyProof.Rows L2
section
variable {P : Program} {w : World} {K : PySem.W.Frag} {mg mb : Str → Option Value} {k : Nat} {fa a : Addr} {fd : FuncData} {x : Str} {sp : Sp} {st : Shared} {vs : List Value} {ns : List Int}
/-- what is needed of the heap in which the law is asked -/
structure Seed (P : Program) (w : World) (K : PySem.W.Frag) (h : Heap) (a : Addr) (ns : List Int) (H : Hp) : Prop where
  only : Only H
  sq : SqL K H a (ns.map V.int)
  ok : HOk P w H h
  lone : ∀ b, H b ≠ none → b = a
  apart : H a ≠ none → K.lookup a = none
theorem seed_of (KX : K.In st.heap) (ha : st.heap.get? a = some { cls := .type "list", data := .seq vs.toArray }) (hi : IntsAre vs ns) (hl : ns.length ≤ sizeLine) : ∃ H, Seed P w K st.heap a ns H := by
  have rv := vals_ints hi
  rcases hk : K.lookup a with _ | o
  · have off : ∀ b, ¬ b = a → (fun b => if b = a then some (HO.frz { cls := .type "list", data := .seq vs.toArray } (.lst (ns.map V.int))) else none) b = none := fun b n => if_neg n
    refine ⟨fun b => if b = a then some (.frz { cls := .type "list", data := .seq vs.toArray } (.lst (ns.map V.int))) else none, ⟨fun b => ?_, .inl (.inr ⟨_, if_pos rfl⟩), fun b u z => ?_, fun b z => ?_, fun _ => hk⟩⟩
    · rcases Classical.em (b = a) with e | e
      · exact .inr ⟨_, _, if_pos e⟩
      · exact .inl (off b e)
    · rcases Classical.em (b = a) with e | e
      · cases (if_pos e).symm.trans z
        rw [e]
        exact ⟨ha, by rw [List.length_map]; exact hl, vs, _, rv, ha⟩
      · cases (off b e).symm.trans z
    · exact Classical.byContradiction fun e => z (off b e)
  · have e := KX a o hk
    rw [ha] at e
    cases e
    refine ⟨fun _ => none, ⟨fun _ => .inl rfl, .inr ⟨_, vs.toArray, _, hk, rfl, rfl, rfl, ?_, by simpa using rv⟩, (fun b u z => nomatch z), (fun b z => absurd rfl z), fun z => absurd rfl z⟩⟩
    rw [List.size_toArray, hi.length]
    exact hl
theorem seed_env {H : Hp} (S : Seed P w K st.heap a ns H) (KX : K.In st.heap) (hns : st.heap.Ns mainGlobals mg) (hb : st.heap.Ns builtinsNs mb) (hbb : ∀ x : Str, x ≠ "__name__" → mb x = bootBuiltins x) (hlim : st.heap.NoLimit) (hg : st.gens = #[])
    (ha : st.heap.get? a = some { cls := .type "list", data := .seq vs.toArray }) : Mod K mg (hidT st.heap H) ∧ Env0 P w K mg (hidT st.heap H) callerA [] st H := by
  have free : ∀ {b : Addr}, ¬ b = a → H b = none := fun {b} n => Classical.byContradiction fun z => n (S.lone b z)
  have seen : ∀ {b : Addr} {m : Str → Option Value}, st.heap.Ns b m → (hidT st.heap H).Ns b m := by
    rintro b m ⟨o, es, ep, e, d, r⟩
    refine ⟨o, es, ep, hidT_get e (free fun q => ?_), d, r⟩
    rw [q, ha] at e
    cases e
    cases (show Data.seq vs.toArray _ = Data.dict es ep from d)
  have kin : K.In (hidT st.heap H) := fun b o e => by
    refine hidT_get (KX b o e) (Classical.byContradiction fun z => ?_)
    have q := S.lone b z
    rw [q] at z e
    rw [S.apart z] at e
    cases e
  obtain ⟨mc, l1, l2⟩ := hlim
  have md : Mod K mg (hidT st.heap H) := ⟨kin, seen hns, ⟨mb, seen hb, hbb⟩, mc, seen l1, l2⟩
  exact ⟨md, ⟨rfl, md, fun b o e => of_hidT e, Nat.le_of_eq (hidT_size _ _), trivial, fun b z => (nomatch z), S.ok, .of_eq hg⟩⟩
theorem law_callG (KX : K.In st.heap) (hns : st.heap.Ns mainGlobals mg) (hb : st.heap.Ns builtinsNs mb) (hbb : ∀ x : Str, x ≠ "__name__" → mb x = bootBuiltins x) (hlim : st.heap.NoLimit) (hg : st.gens = #[])
    (ha : st.heap.get? a = some { cls := .type "list", data := .seq vs.toArray }) (hi : IntsAre vs ns) (hl : ns.length ≤ sizeLine) (hr : Room k callerA)
    (F : ∀ base : Heap, K.In base → base.Ns mainGlobals mg → FnG P w K mg base k fa fd [x] sp) (hbind : ∀ (s : Shared) (u : Value), BindsTo s fd ⟨[u], []⟩ [(x, u)])
    (hsp : ∀ H : Hp, Only H → SqL K H a (ns.map V.int) → sp [.ref a] H (fun v _ => v = .bl true) fun _ _ _ => False) :
    codeAny (model P w) callerA (.call (.ref fa) ⟨[.ref a], []⟩) (fun r s' => r = .ok (.ret (.bool true)) ∧ OldK st.heap s'.heap ∧ s'.os = st.os ∧ AllBare s'.gens) st := by
  obtain ⟨H, S⟩ := seed_of (P := P) (w := w) KX ha hi hl
  obtain ⟨md, env⟩ := seed_env S KX hns hb hbb hlim hg ha
  refine codeAny_mono ((F _ md.kin md.glob).go callerA [] st H ⟨[.ref a], []⟩ [.ref a] [.ref a] _ _ rfl hr env (hbind st (.ref a)) (.cons rfl .nil) (hsp H S.only S.sq)) ?_
  intro r s' got
  match r, got with
  | .error e, got =>
    obtain ⟨_, _, _, _, _, _, _, _, _, _, _, _, z⟩ := got
    exact z.elim
  | .ok (.ret u), ⟨v, H', os, bare, un, hok', r', q⟩ =>
    have q : v = .bl true := q
    subst q
    have r' : u = Value.bool true := r'
    subst r'
    refine ⟨rfl, OldK.of_keep fun b o e => ?_, os, bare⟩
    rcases z : H b with _ | u
    · exact un.keep b o e z (fun y => nomatch y) (by simp)
    · rcases S.only b with y | ⟨ob, xs, y⟩
      · rw [z] at y
        cases y
      · obtain ⟨e1, _⟩ := S.ok b _ y
        obtain ⟨e2, _⟩ := hok' b _ (un.frzs b ob _ y)
        rw [e] at e1
        cases e1
        exact e2
end
theorem walk_G {l : PySem.W.OpenLaw} {n k : Nat} {q : Program} {loose : List Str} {XP : (Str → Option Value) → Heap → Prop} {YP : World → Heap → Prop} {d : DefRec} {K : Params → PySem.W.Frag} {sp : World → Sp} {x : Str}
    (hn : l.most = some n) (hn2 : n ≤ sizeLine) (hdf : d.params.defaults = []) (hr : Room k callerA) (hY : ∀ (w : World) (h : Heap), YP w h → (K w.params).In h)
    (F : ∀ (w : World) (mg : Str → Option Value) (fa : Addr) (h : Heap), (K w.params).In h → h.Ns mainGlobals mg → mg d.name = some (.ref fa) →
      ∃ fd : FuncData, (∀ (s : Shared) (u : Value), BindsTo s fd ⟨[u], []⟩ [(x, u)]) ∧ ∀ base : Heap, (K w.params).In base → base.Ns mainGlobals mg → FnG l.prog w (K w.params) mg base k fa fd [x] (sp w))
    (hsp : ∀ (w : World) (H : Hp) (a : Addr) (ns : List Int), ns.length ≤ n → Only H → SqL (K w.params) H a (ns.map V.int) → sp w [.ref a] H (fun v _ => v = .bl true) fun _ _ _ => False) :
    PySem.W.WalkO q loose XP YP l.row.toRowW d [] (fun f vs => PySem.call f vs) := by
  refine Att.attach_call hn hdf ?_
  intro w s₀ s₁ mg mb fa o pm cd doc a vs ns G Y ho hd hcd hmg hobj hints hlen hg
  obtain ⟨fd, bind, go⟩ := F w mg fa _ (hY w _ Y) G.T.g hmg
  exact law_callG (hY w _ Y) G.T.g G.T.b G.T.builtins G.T.nolimit hg hobj hints (Nat.le_trans hlen hn2) hr go bind fun H o s => hsp w H a ns hlen o s
end Ew

set_option Elab.async false
set_option linter.all false
set_option maxRecDepth 100000
set_option maxHeartbeats 4000000
namespace Ew
open PySem PySem.Spec PyProof.Rows L2
open SX (S)
/-! ### lists or tuples -/
section
variable {X : Cx} {tg l : Expr} {tl : TE}
theorem pi_seq (hl : PE X l tl) : PI X tg l (fun σ H R => iList X.K tl σ H R ∨ iTup X.K tl σ H R) :=
  ⟨fun pins s σ H R I h => h.elim ((pi_list hl).run pins s σ H R I) ((pi_tup hl).run pins s σ H R I)⟩
end
/-- a list or a tuple of xs at v -/
def Sq (K : PySem.W.Frag) (F : Hp) (v : V) (xs : List V) : Prop := ∃ p, v = .ref p ∧ (SqL K F p xs ∨ SqT K F p xs)
theorem Sq.up {K : PySem.W.Frag} {F F' : Hp} {v : V} {xs : List V} (h : Sq K F v xs) (e : Same F F') : Sq K F' v xs := by
  obtain ⟨p, h1, h2⟩ := h
  exact ⟨p, h1, h2.imp (upL e) (upT e)⟩
/-! ### a dict comprehension over anything that walks -/
theorem dc_it {J : It} {n : Nat} {G : Hp → Prop} {Y : Nat → Hp → V → Hp → Prop} (w : Walk J n G Y) {g : TG} {tt : TT} {tk tv : TE} {vs : List Nat} {σ : L2.St} {H1 : Hp} {D : Addr} {Qd : Hp → Prop} (Pv : Nat → Hp → Prop) (h0 : Pv 0 (upd H1 D (.dK []))) (hG : ∀ i H, i ≤ n → Pv i H → G H)
    (hs : ∀ i x H H', i < n → Pv i H → Y i H x H' → g x (wipe σ vs) H' fun σ2 H2 => wipe σ2 vs = wipe σ vs ∧ tt σ2 H2 fun b H3 =>
      if b = true then tk σ2 H3 fun y H4 => tv σ2 H4 fun z H5 => ∃ kvs k, y = kV k ∧ H5 D = some (.dK kvs) ∧ kvs.length < sizeLine ∧ Pv (i + 1) (upd H5 D (.dK (putK kvs k z))) else Pv (i + 1) H3) (hd : ∀ H, Pv n H → Qd H) :
    ∃ W : Nat → Nat → Hp → Prop, (∃ m, W 0 m (upd H1 D (.dK []))) ∧ ∀ i m H, W i m H →
      (J.stop i H ∧ Qd H) ∨ (J.go i H ∧ ∃ Nx : Hp → Prop, (∀ H', Nx H' → ∃ m', m' < m ∧ W (i + 1) m' H') ∧ ∀ x H', J.yld i H x H' → g x (wipe σ vs) H' fun σ2 H2 => wipe σ2 vs = wipe σ vs ∧ tt σ2 H2 fun b H3 =>
        if b = true then tk σ2 H3 fun y H4 => tv σ2 H4 fun z H5 => ∃ kvs k, y = kV k ∧ H5 D = some (.dK kvs) ∧ kvs.length < sizeLine ∧ Nx (upd H5 D (.dK (putK kvs k z))) else Nx H3) := by
  refine ⟨fun i m H => m = n - i ∧ i ≤ n ∧ Pv i H, ⟨n, by simp, Nat.zero_le _, h0⟩, ?_⟩
  rintro i m H ⟨rfl, hi, p⟩
  have q := hG i H hi p
  rcases Nat.lt_or_ge i n with lt | ge
  · exact .inr ⟨w.goes i H lt q, Pv (i + 1), fun H' p' => ⟨n - (i + 1), by omega, rfl, lt, p'⟩, fun x H' y => hs i x H H' lt p (w.yields i H x H' lt q y)⟩
  · obtain rfl : i = n := by omega
    exact .inl ⟨w.stops H q, hd H p⟩
/-! ### a text, k times -/
theorem fold_rep (a : Array Nat) : ∀ (m : Nat) (acc : Array Nat), (List.replicate m a).foldl (· ++ ·) acc = acc ++ (List.replicate m a.toList).flatten.toArray
  | 0, acc => by simp
  | m + 1, acc => by
    rw [List.replicate_succ, List.foldl_cons, fold_rep a m, List.replicate_succ]
    apply Array.ext'
    simp
def rep (k : Nat) (l : List Nat) : List Nat := (List.replicate k l).flatten
theorem rep_len (l : List Nat) : ∀ k, (rep k l).length = k * l.length
  | 0 => by simp [rep]
  | k + 1 => by
    have := rep_len l k
    unfold rep at this ⊢
    rw [List.replicate_succ, List.flatten_cons, List.length_append, this, Nat.succ_mul]
    omega
def rRepS : R2 := fun x y H Q => ∃ (l : List Nat) (k : Int), x = .str (S l) ∧ y = .int k ∧ 1 ≤ k ∧ k ≤ 100000 ∧ l ≠ [] ∧ l.length ≤ 100 ∧ Q (.str (S (rep k.toNat l))) H
theorem op_repS {X : Cx} : OpR X (binaryOp .Mult) rRepS := by
  intro pins s σ H x y v u Q I rx ry h
  obtain ⟨l, k, rfl, rfl, h1, h2, h3, h4, q⟩ := h
  obtain ⟨t, rfl⟩ := rx
  obtain ⟨t', rfl⟩ := ry
  have hl : (S l).length = l.length := SX.S_len l
  have l0 : 0 < l.length := List.length_pos_iff.mpr h3
  have kz : ((k.toNat : Nat) : Int) = k := Int.toNat_of_nonneg (by omega)
  have hb : l.length * k.toNat ≤ 100 * 100000 := Nat.mul_le_mul h4 (by omega)
  refine PySem.P.mul_str ?_ (fun _ _ => ?_) (fun _ _ => ?_) ?_
  · rw [decide_eq_false (by omega), decide_eq_false (by omega)]
    rfl
  · rw [hl]
    have : (l.length : Int) ≤ (2 ^ 63 - 1) / k := (Int.le_ediv_iff_mul_le (by omega)).mpr (by
      have : (l.length : Int) * k = ((l.length * k.toNat : Nat) : Int) := by rw [Int.natCast_mul, kz]
      rw [this]
      omega)
    omega
  · rw [hl]
    unfold PySem.Builtin.Str.tooLong
    rw [decide_eq_false_iff_not, sizeLine_eq]
    omega
  · rw [if_neg (by omega)]
    by_cases e : k = 1
    · subst e
      have er : rep (1 : Int).toNat l = l := by simp [rep]
      rw [er] at q
      rw [if_pos (by rfl)]
      exact ⟨.str (S l), H, I, ⟨_, rfl⟩, q⟩
    · have e1 : (k == 1) = false := by rw [beq_eq_false_iff_ne]; exact e
      have e0 : ((S l).length == 0) = false := by rw [hl, beq_eq_false_iff_ne]; omega
      rw [e1, e0, if_neg (by decide), fold_rep]
      have e3 : (#[] ++ (List.replicate k.toNat (S l).cps.toList).flatten.toArray : Array Nat) = (rep k.toNat l).toArray := by simp [rep]
      rw [e3]
      refine ⟨?_, ⟨.str (S (rep k.toNat l)), H, I.tok _, ⟨_, rfl⟩, q⟩⟩
      show (S (rep k.toNat l)).length ≤ sizeLine
      rw [SX.S_len, rep_len, sizeLine_eq, Nat.mul_comm]
      omega
/-! ### str of a tuple, where no repr is under way; of an int -/
def rStrD (K : PySem.W.Frag) : List V → Hp → VK → Prop := fun xs H Q => ∃ (a : Addr) (d : PyData), xs = [.ref a] ∧ Dp K H (.ref a) d ∧ d.showable = true ∧ d.hasDict = false ∧ d.depth ≤ 50 ∧ d.shown.length ≤ sizeLine ∧ Q (.str d.shown) H
theorem call_strD {X : Cx} (hg : X.A.guards = some []) (hu : X.A.units + 64 < cLine) : CallR X (.type "str") (rStrD X.K) := by
  intro pins s σ H xs us Q I r h
  obtain ⟨a, d, rfl, hd, h1, h2, h3, h4, q⟩ := h
  obtain ⟨u, rfl, rx⟩ := vals1 r
  obtain ⟨as, rd⟩ := Dp.reads I d _ _ hd rx
  obtain rfl : u = Value.ref a := rx
  exact str_of_reads rd h1 (PyData.noDict_hsm h2) hg (by omega) (fun _ _ e => e) (fun h' u' tk hk => ⟨.str d.shown, H, I.kept hk, ⟨_, rfl⟩, q⟩) h4
end Ew

set_option Elab.async false
set_option linter.all false
set_option maxRecDepth 100000
set_option maxHeartbeats 4000000
namespace Ew
open PySem PySem.Spec PyProof.Rows L2
open SX (S)
/-! ### methods: with a row of further values, and without any, that may let an error out -/
section
variable {P : Program} {w : World} {K : PySem.W.Frag} {mg : Str → Option Value} {base : Heap}
/-- def m(a, .., *r) of the class at C, as it stands behind the top -/
structure StarAt (K : PySem.W.Frag) (C : Addr) (m q : Str) (st : Stmt) (ps : List Str) (pv : Str) : Prop where
  ex : ∃ f fd, Meth K C m f ∧ Fun K m q st f fd ∧ ∀ us rest : List Value, us.length = ps.length → bindArgs fd ⟨us ++ rest, []⟩ = (newTuple rest >>= fun t => pure (ps.zip us ++ [(pv, t)]))
/-- a method by the values that it is given -/
structure StrM (P : Program) (w : World) (K : PySem.W.Frag) (mg : Str → Option Value) (base : Heap) (k : Nat) (C : Addr) (m : Str) (sp : Sp) : Prop where
  cl : Cls K C
  ex : ∃ f, Meth K C m f ∧ FnR P w K mg base (L2.CX P w) k f sp
theorem StarAt.mt {C : Addr} {m q : Str} {st : Stmt} {ps N : List Str} {pv : Str} {k : Nat} {sp : Sp} (D : StarAt K C m q st ps pv) (c : Cls K C) (S : FnScope N (ps ++ [pv]) (defScope st)) (h : BodyOk P w K mg base N q st k sp) :
    StrM P w K mg base (k + 1) C m (fun vs H Q E => ∃ ws rest, vs = ws ++ rest ∧ ws.length = ps.length ∧ rest.length ≤ sizeLine ∧ ∀ p, H p = none → sp (ws ++ [V.ref p]) (upd H p (.tup rest)) Q E) := by
  obtain ⟨f, fd, M, F, hb⟩ := D.ex
  obtain ⟨oc, od, kV, doc, pm, an, cdv, ct, osl, rfl, lk, hcd⟩ := F.ex
  exact ⟨c, f, M, StX.fn_star lk hcd S StX.cxUp hb fun A outer s H vs Q E hr hs => h f cdv A outer s H vs Q E hr hs⟩
end
section
variable {X : Cx} {k j : Nat} {C : Addr} {m : Str} {ps : List Str} {sp : Sp} {e o : Expr} {es : List Expr} {t : TA} {ta : TE} {pos apos : Pos} {W : WX}
theorem run_w {f : Addr} {pins : List (Addr × Obj)} {σ : L2.St} {H : Hp} {s : Shared} {Q : VK} {us : List Value} {vs : List V} (F : FnR X.prog X.w X.K X.mg X.base (L2.CX X.prog X.w) k f sp) (tk : Takes X W) (hr : Room k X.A) (I : Inv X pins σ H s) (r : Vals vs us) (h : sp vs H Q (WE W σ)) :
    wpAny (model X.prog X.w) X.A (call (.ref f) us) (EP X pins σ Q) X.xe s := by
  refine wpAny_call (codeAny_mono (F X.A X.stack s H us vs Q (WE W σ) hr I.env0 r h) fun y s' hq => ?_)
  match y, hq with
  | .error e, hq => exact passAt tk σ pins H s e s' I hq
  | .ok (.ret u), hq => exact I.after hq
def tMr (C : Addr) (m : Str) (sp : Sp) (W : WX) (ta : TE) (t : TA) : TE := fun σ H Q => ta σ H fun x H1 => ∃ a dx fs, x = .ref a ∧ H1 a = some (.ins C dx fs) ∧ fs.lookup m = none ∧ t σ H1 fun vs H2 => sp (x :: vs) H2 Q (WE W σ)
theorem pe_mr {pl : Sem Bool} (c : StrM X.prog X.w X.K X.mg X.base k C m sp) (tk : Takes X W) (hr : Room j X.A) (hk : k ≤ j) (he : PE X o ta) (ha : PA X (e :: es) t)
    (hst : starEach (e :: es) X.env = (false, eval e X.env) :: starEach es X.env := by rfl) (hpl : (backTo pos (starEach es X.env)).any (·.1) = false := by rfl)
    (ht : eval (.Call (.Attribute o m apos) (e :: es) [] pos) X.env = (do
      let v ← eval o X.env
      standAt apos.atName
      let (g, first) ← holding [v] (getMethod v m pl)
      callWith pos g first (backTo pos (starEach (e :: es) X.env)) (backToKw pos (keywordEach [] X.env))) := by rfl) :
    PE X (.Call (.Attribute o m apos) (e :: es) [] pos) (tMr C m sp W ta t) := by
  obtain ⟨f, hm, F⟩ := c.ex
  refine ⟨fun pins s σ H Q I h => PySem.W.methodCall_KW (pl := pl) (thn (he.run pins s σ H _ I h) fun u s1 ⟨x, H1, I1, rx, a, dx, fs, ex, ea, l, q⟩ => ?_) ht⟩
  subst ex
  obtain rfl : u = Value.ref a := rx
  refine getmeth_ok I1 ea c.cl hm l ?_
  refine PySem.W.callWith_K (h₀ := X.base) I1.ok.mod.kin hm.kp (thn (ha.run pos pins s1 σ H1 _ I1 q) fun us s2 ⟨vs, H2, I2, r, q2⟩ => ⟨I2.kIn, ?_⟩) hst hpl
  exact run_w (vs := .ref a :: vs) F tk (hr.mono hk) I2 (.cons rfl r) q2
def tMr0 (C : Addr) (m : Str) (sp : Sp) (W : WX) (ta : TE) : TE := fun σ H Q => ta σ H fun x H1 => ∃ a dx fs, x = .ref a ∧ H1 a = some (.ins C dx fs) ∧ fs.lookup m = none ∧ sp [x] H1 Q (WE W σ)
theorem pe_mr0 {pl : Sem Bool} (c : StrM X.prog X.w X.K X.mg X.base k C m sp) (tk : Takes X W) (hr : Room j X.A) (hk : k ≤ j) (he : PE X o ta)
    (ht : eval (.Call (.Attribute o m apos) [] [] pos) X.env = (do
      let v ← eval o X.env
      standAt apos.atName
      let (g, first) ← holding [v] (getMethod v m pl)
      callWith pos g first (backTo pos (starEach [] X.env)) (backToKw pos (keywordEach [] X.env))) := by rfl) :
    PE X (.Call (.Attribute o m apos) [] [] pos) (tMr0 C m sp W ta) := by
  obtain ⟨f, hm, F⟩ := c.ex
  refine ⟨fun pins s σ H Q I h => PySem.W.methodCall_KW (pl := pl) (thn (he.run pins s σ H _ I h) fun u s1 ⟨x, H1, I1, rx, a, dx, fs, ex, ea, l, q⟩ => ?_) ht⟩
  subst ex
  obtain rfl : u = Value.ref a := rx
  refine getmeth_ok I1 ea c.cl hm l ?_
  exact PySem.W.callWith_K0 (first := [.ref a]) I1.kIn hm.kp (wpAny_call (codeAny_mono (F X.A X.stack s1 H1 [.ref a] [.ref a] Q (WE W σ) (hr.mono hk) I1.env0 (.cons rfl .nil) q) fun y s' hq => by
    match y, hq with
    | .error e, hq => exact passAt tk σ pins H1 s1 e s' I1 hq
    | .ok (.ret u), hq => exact I1.after hq))
theorem pe_mw0 {pl : Sem Bool} (c : Mt X.prog X.w X.K X.mg X.base k C m ps sp []) (tk : Takes X W) (hr : Room j X.A) (hk : k ≤ j) (he : PE X o ta)
    (ht : eval (.Call (.Attribute o m apos) [] [] pos) X.env = (do
      let v ← eval o X.env
      standAt apos.atName
      let (g, first) ← holding [v] (getMethod v m pl)
      callWith pos g first (backTo pos (starEach [] X.env)) (backToKw pos (keywordEach [] X.env))) := by rfl) :
    PE X (.Call (.Attribute o m apos) [] [] pos) (tMr0 C m sp W ta) := by
  obtain ⟨f, fd, ds, hm, F, hb, hd⟩ := c.ex
  cases hd
  refine pe_mr0 (k := k) ⟨c.cl, f, hm, ?_⟩ tk hr hk he ht
  have := F.raw hb .nil
  exact this.imp fun vs H Q E z => by rw [List.append_nil]; exact z
end
/-! ### a table of the top whose keys are texts -/
structure Tb (K : PySem.W.Frag) (w : World) (d : Addr) (ks : List Str) : Prop where
  keys : He.dicW K d = some (He.keysIn w.params ks)
theorem Tb.at_ {K : PySem.W.Frag} {w : World} {d : Addr} {ks : List Str} (T : Tb K w d ks) : ∃ es n, KDict K w d es n ∧ es.toList.map He.keyOf = He.keysIn w.params ks := by
  obtain ⟨es, n, D⟩ := He.dicW_ok T.keys
  refine ⟨es, n, D, ?_⟩
  have h := T.keys
  unfold He.dicW at h
  rw [D.at_] at h
  dsimp only at h
  rw [show (decide (("dict" : String) = "dict") && ((#[] : Array (Option Value)).isEmpty && !(d == sysModules))) = true by rw [D.low]; rfl] at h
  exact Option.some.inj h
theorem keys_find {P : Params} {z : Str} : ∀ {l : List DictEntry} {ks : List Str}, l.map He.keyOf = He.keysIn P ks → (l.find? (·.key.isStr z)).isSome = decide (z ∈ ks) ∧ l.any (·.refKey) = false
  | [], [], _ => ⟨rfl, rfl⟩
  | [], k :: ks, h => by cases h
  | e :: l, [], h => by cases h
  | e :: l, k :: ks, h => by
    have h1 : He.keyOf e :: l.map He.keyOf = some (k, PyData.keyHash P k) :: He.keysIn P ks := h
    injection h1 with h2 h3
    obtain ⟨i1, i2⟩ := keys_find (z := z) h3
    obtain ⟨t, q⟩ : ∃ t, e.key = .str k t := by
      unfold He.keyOf at h2
      split at h2
      · rename_i x t q
        obtain ⟨h5, _⟩ := Prod.mk.inj (Option.some.inj h2)
        exact ⟨t, by rw [q, h5]⟩
      · cases h2
    have er : e.refKey = false := by unfold DictEntry.refKey; rw [q]
    have ei : e.key.isStr z = decide (k = z) := by
      rw [q]
      show (k == z) = _
      by_cases c : k = z
      · subst c; simp
      · rw [decide_eq_false c]; exact beq_eq_false_iff_ne.mpr c
    refine ⟨?_, by rw [List.any_cons, er, i2]; rfl⟩
    rw [List.find?_cons, ei]
    by_cases c : k = z
    · subst c
      rw [decide_eq_true rfl]
      simp
    · rw [decide_eq_false c]
      dsimp only
      rw [i1]
      have c' : ¬ z = k := fun y => c y.symm
      by_cases c2 : z ∈ ks <;> simp [c2, c']
theorem Tb.ns {K : PySem.W.Frag} {w : World} {d : Addr} {ks : List Str} (T : Tb K w d ks) (z : Str) : ∃ r, PySem.W.nsIn K d z = some r ∧ r.isSome = decide (z ∈ ks) := by
  obtain ⟨es, n, D, h⟩ := T.at_
  obtain ⟨h1, h2⟩ := keys_find (z := z) h
  unfold PySem.W.nsIn
  rw [D.at_]
  dsimp only
  cases q : es.toList.find? (·.key.isStr z) with
  | some e => rw [q] at h1; exact ⟨_, rfl, h1⟩
  | none => rw [q] at h1; rw [if_neg (by rw [h2]; decide)]; exact ⟨_, rfl, h1⟩
section
variable {X : Cx} {d : Addr} {ks : List Str}
theorem none_in {es : Array DictEntry} {n : Nat} (D : KDict X.K X.w d es n) {h : Heap} (hk : X.K.In h) : ∃ f, h.MapOf (noneKind X.prog X.w) d f ∧ f none = none := by
  refine ⟨fun k => findBy (noneKind X.prog X.w).is es k, ⟨_, es, n, hk _ _ D.at_, ⟨rfl, rfl, rfl⟩, rfl, fun e he => ?_, fun _ => rfl⟩, ?_⟩
  · obtain ⟨x, t, e1, e2⟩ := D.lit.all e (Array.mem_toList_iff.mpr he)
    refine ⟨some (.inr x), ?_, e2⟩
    show keyIs (.inr x) e.key = true
    rw [e1]
    exact PySem.strKind_is X.prog X.w x t
  · have q : (es.find? fun e => nkIs none e.key) = none := by
      rw [Array.find?_eq_none]
      intro e he hq
      obtain ⟨x, t, e1, _⟩ := D.lit.all e (Array.mem_toList_iff.mpr (by simpa using he))
      have := nk_none hq
      rw [e1] at this
      cases this
    show (es.find? fun e => nkIs none e.key).map (·.val) = none
    rw [q]
    rfl
def rInTb (d : Addr) (ks : List Str) : R2 := fun x y H Q => y = .ref d ∧ ((∃ z, x = .str z ∧ Q (.bl (decide (z ∈ ks))) H) ∨ (x = .non ∧ Q (.bl false) H))
theorem op_in_tb (T : Tb X.K X.w d ks) : OpR X (compareOp .In) (rInTb d ks) := by
  intro pins s σ H x y v u Q I rx ry h
  obtain ⟨es, n, D, hks⟩ := T.at_
  obtain ⟨rfl, ⟨z, rfl, q⟩ | ⟨rfl, q⟩⟩ := h
  · obtain ⟨r, e, er⟩ := T.ns z
    exact op_in_kd D pins s σ H _ _ v u Q I rx ry ⟨z, r, rfl, rfl, e, er ▸ q⟩
  · obtain rfl : v = Value.none := rx
    cases ry
    obtain ⟨f, hm, hf⟩ := none_in D I.kIn
    refine wpAny_in_of (show (noneKind X.prog X.w).is none .none = true from rfl) D.low hm ?_
    rw [hf]
    exact ⟨.bl false, H, I.tok _, rfl, q⟩
def rIxTb (K : PySem.W.Frag) (d : Addr) : R2 := fun x y H Q => ∃ (z : Str) (u0 : Value) (v0 : V), x = .ref d ∧ y = .str z ∧ PySem.W.nsIn K d z = some (some u0) ∧ RelV v0 u0 ∧ Q v0 H
theorem ix_tb (T : Tb X.K X.w d ks) : IxR X (rIxTb X.K d) := by
  intro value slice pins s σ H x y v u Q I rx ry h hs
  obtain ⟨es, n, D, hks⟩ := T.at_
  obtain ⟨z, u0, v0, rfl, rfl, e, r, q⟩ := h
  cases rx
  obtain ⟨t, rfl⟩ := ry
  exact tail_any (kd_type D I) PySem.F.slot_dict_getitem.lookup (op_item_kd D pins s σ H (.ref d) (.str z) _ _ Q I rfl ⟨t, rfl⟩ ⟨z, u0, v0, rfl, rfl, e, r, q⟩) hs
end
/-! ### a text so many times, perhaps none -/
def rRepZ : R2 := fun x y H Q => ∃ (l : List Nat) (k : Int), x = .str (S l) ∧ y = .int k ∧ 0 ≤ k ∧ k ≤ 100000 ∧ l ≠ [] ∧ l.length ≤ 100 ∧ Q (.str (S (rep k.toNat l))) H
theorem op_repZ {X : Cx} : OpR X (binaryOp .Mult) rRepZ := by
  intro pins s σ H x y v u Q I rx ry h
  obtain ⟨l, k, rfl, rfl, h1, h2, h3, h4, q⟩ := h
  by_cases h0 : k = 0
  · subst h0
    obtain ⟨t, rfl⟩ := rx
    obtain ⟨t', rfl⟩ := ry
    exact PySem.P.mul_str_none (by decide) (by decide) ⟨.str Str.empty, H, I.tok _, ⟨_, rfl⟩, q⟩
  · exact op_repS pins s σ H _ _ v u Q I rx ry ⟨l, k, rfl, rfl, by omega, h2, h3, h4, q⟩
end Ew

set_option Elab.async false
set_option linter.all false
set_option maxRecDepth 100000
set_option maxHeartbeats 4000000
namespace K09
open PySem PySem.Spec PyProof.Rows L2 Ew
def top (i : Nat) : Stmt := PySem.Challenge.pw_ellwarden_k09_expression_text.main.body.getD i (.Pass ⟨0, 0, 0, 0⟩)
abbrev s__wall : Stmt := (top 1)
abbrev N__wall : List Str := ["k"]
abbrev P__wall : List Str := ["k"]
theorem sc__wall : FnScope N__wall P__wall (defScope s__wall) := ⟨rfl, rfl, rfl, by decide +kernel, rfl, by decide +kernel, by decide +kernel⟩
abbrev s_is_integer : Stmt := (top 3)
abbrev N_is_integer : List Str := ["thing"]
abbrev P_is_integer : List Str := ["thing"]
theorem sc_is_integer : FnScope N_is_integer P_is_integer (defScope s_is_integer) := ⟨rfl, rfl, rfl, by decide +kernel, rfl, by decide +kernel, by decide +kernel⟩
abbrev s_is_tuple_of : Stmt := (top 4)
abbrev N_is_tuple_of : List Str := ["thing", "many"]
abbrev P_is_tuple_of : List Str := ["thing", "many"]
theorem sc_is_tuple_of : FnScope N_is_tuple_of P_is_tuple_of (defScope s_is_tuple_of) := ⟨rfl, rfl, rfl, by decide +kernel, rfl, by decide +kernel, by decide +kernel⟩
abbrev s_BadRatioD_initD : Stmt := inClass (top 7) 0
abbrev N_BadRatioD_initD : List Str := ["self", "text"]
abbrev P_BadRatioD_initD : List Str := ["self", "text"]
theorem sc_BadRatioD_initD : FnScope N_BadRatioD_initD P_BadRatioD_initD (defScope s_BadRatioD_initD) := ⟨rfl, rfl, rfl, by decide +kernel, rfl, by decide +kernel, by decide +kernel⟩
abbrev s_BadLineD_initD : Stmt := inClass (top 8) 0
abbrev N_BadLineD_initD : List Str := ["self", "line", "word"]
abbrev P_BadLineD_initD : List Str := ["self", "line", "word"]
theorem sc_BadLineD_initD : FnScope N_BadLineD_initD P_BadLineD_initD (defScope s_BadLineD_initD) := ⟨rfl, rfl, rfl, by decide +kernel, rfl, by decide +kernel, by decide +kernel⟩
abbrev s_is_ratio : Stmt := (top 12)
abbrev N_is_ratio : List Str := ["thing", "n", "d"]
abbrev P_is_ratio : List Str := ["thing"]
theorem sc_is_ratio : FnScope N_is_ratio P_is_ratio (defScope s_is_ratio) := ⟨rfl, rfl, rfl, by decide +kernel, rfl, by decide +kernel, by decide +kernel⟩
abbrev s_write_ratio : Stmt := (top 13)
abbrev N_write_ratio : List Str := ["a", "n", "d"]
abbrev P_write_ratio : List Str := ["a"]
theorem sc_write_ratio : FnScope N_write_ratio P_write_ratio (defScope s_write_ratio) := ⟨rfl, rfl, rfl, by decide +kernel, rfl, by decide +kernel, by decide +kernel⟩
abbrev s_read_ratio : Stmt := (top 14)
abbrev N_read_ratio : List Str := ["text", "above", "slash", "below", "told"]
abbrev P_read_ratio : List Str := ["text"]
theorem sc_read_ratio : FnScope N_read_ratio P_read_ratio (defScope s_read_ratio) := ⟨rfl, rfl, rfl, by decide +kernel, rfl, by decide +kernel, by decide +kernel⟩
abbrev s_is_whole : Stmt := (top 15)
abbrev N_is_whole : List Str := ["text", "longest"]
abbrev P_is_whole : List Str := ["text", "longest"]
theorem sc_is_whole : FnScope N_is_whole P_is_whole (defScope s_is_whole) := ⟨rfl, rfl, rfl, by decide +kernel, rfl, by decide +kernel, by decide +kernel⟩
abbrev s__is_divisor : Stmt := (top 16)
abbrev N__is_divisor : List Str := ["text"]
abbrev P__is_divisor : List Str := ["text"]
theorem sc__is_divisor : FnScope N__is_divisor P__is_divisor (defScope s__is_divisor) := ⟨rfl, rfl, rfl, by decide +kernel, rfl, by decide +kernel, by decide +kernel⟩
abbrev s__is_digits : Stmt := (top 17)
abbrev N__is_digits : List Str := ["text", "longest", "sign"]
abbrev P__is_digits : List Str := ["text", "longest"]
theorem sc__is_digits : FnScope N__is_digits P__is_digits (defScope s__is_digits) := ⟨rfl, rfl, rfl, by decide +kernel, rfl, by decide +kernel, by decide +kernel⟩
abbrev s_write_expression : Stmt := (top 21)
abbrev N_write_expression : List Str := ["expression", "word", "tightness", "left", "right"]
abbrev P_write_expression : List Str := ["expression"]
theorem sc_write_expression : FnScope N_write_expression P_write_expression (defScope s_write_expression) := ⟨rfl, rfl, rfl, by decide +kernel, rfl, by decide +kernel, by decide +kernel⟩
abbrev s__part : Stmt := (top 22)
abbrev N__part : List Str := ["expression", "least", "words"]
abbrev P__part : List Str := ["expression", "least"]
theorem sc__part : FnScope N__part P__part (defScope s__part) := ⟨rfl, rfl, rfl, by decide +kernel, rfl, by decide +kernel, by decide +kernel⟩
abbrev s__tightness : Stmt := (top 23)
abbrev N__tightness : List Str := ["expression", "word"]
abbrev P__tightness : List Str := ["expression"]
theorem sc__tightness : FnScope N__tightness P__tightness (defScope s__tightness) := ⟨rfl, rfl, rfl, by decide +kernel, rfl, by decide +kernel, by decide +kernel⟩
abbrev s_is_name : Stmt := (top 28)
abbrev N_is_name : List Str := ["thing", "letter"]
abbrev P_is_name : List Str := ["thing"]
theorem sc_is_name : FnScope N_is_name P_is_name (defScope s_is_name) := ⟨rfl, rfl, rfl, by decide +kernel, rfl, by decide +kernel, by decide +kernel⟩
abbrev s_ReaderD_initD : Stmt := inClass (top 32) 0
abbrev N_ReaderD_initD : List Str := ["self", "lines", "line"]
abbrev P_ReaderD_initD : List Str := ["self", "lines"]
theorem sc_ReaderD_initD : FnScope N_ReaderD_initD P_ReaderD_initD (defScope s_ReaderD_initD) := ⟨rfl, rfl, rfl, by decide +kernel, rfl, by decide +kernel, by decide +kernel⟩
abbrev s_Reader_head : Stmt := inClass (top 32) 1
abbrev N_Reader_head : List Str := ["self"]
abbrev P_Reader_head : List Str := ["self"]
theorem sc_Reader_head : FnScope N_Reader_head P_Reader_head (defScope s_Reader_head) := ⟨rfl, rfl, rfl, by decide +kernel, rfl, by decide +kernel, by decide +kernel⟩
abbrev s_Reader_peek : Stmt := inClass (top 32) 2
abbrev N_Reader_peek : List Str := ["self", "row"]
abbrev P_Reader_peek : List Str := ["self"]
theorem sc_Reader_peek : FnScope N_Reader_peek P_Reader_peek (defScope s_Reader_peek) := ⟨rfl, rfl, rfl, by decide +kernel, rfl, by decide +kernel, by decide +kernel⟩
abbrev s_Reader_take : Stmt := inClass (top 32) 3
abbrev N_Reader_take : List Str := ["self", "word"]
abbrev P_Reader_take : List Str := ["self"]
theorem sc_Reader_take : FnScope N_Reader_take P_Reader_take (defScope s_Reader_take) := ⟨rfl, rfl, rfl, by decide +kernel, rfl, by decide +kernel, by decide +kernel⟩
abbrev s_Reader_refuse : Stmt := inClass (top 32) 4
abbrev N_Reader_refuse : List Str := ["self"]
abbrev P_Reader_refuse : List Str := ["self"]
theorem sc_Reader_refuse : FnScope N_Reader_refuse P_Reader_refuse (defScope s_Reader_refuse) := ⟨rfl, rfl, rfl, by decide +kernel, rfl, by decide +kernel, by decide +kernel⟩
abbrev s_Reader_take_word : Stmt := inClass (top 32) 5
abbrev N_Reader_take_word : List Str := ["self", "words"]
abbrev P_Reader_take_word : List Str := ["self", "words"]
theorem sc_Reader_take_word : FnScope N_Reader_take_word P_Reader_take_word (defScope s_Reader_take_word) := ⟨rfl, rfl, rfl, by decide +kernel, rfl, by decide +kernel, by decide +kernel⟩
abbrev s_Reader_take_name : Stmt := inClass (top 32) 6
abbrev N_Reader_take_name : List Str := ["self", "words"]
abbrev P_Reader_take_name : List Str := ["self", "words"]
theorem sc_Reader_take_name : FnScope N_Reader_take_name P_Reader_take_name (defScope s_Reader_take_name) := ⟨rfl, rfl, rfl, by decide +kernel, rfl, by decide +kernel, by decide +kernel⟩
abbrev s_Reader_take_text : Stmt := inClass (top 32) 7
abbrev N_Reader_take_text : List Str := ["self"]
abbrev P_Reader_take_text : List Str := ["self"]
theorem sc_Reader_take_text : FnScope N_Reader_take_text P_Reader_take_text (defScope s_Reader_take_text) := ⟨rfl, rfl, rfl, by decide +kernel, rfl, by decide +kernel, by decide +kernel⟩
abbrev s_Reader_take_integer : Stmt := inClass (top 32) 8
abbrev N_Reader_take_integer : List Str := ["self", "word"]
abbrev P_Reader_take_integer : List Str := ["self"]
theorem sc_Reader_take_integer : FnScope N_Reader_take_integer P_Reader_take_integer (defScope s_Reader_take_integer) := ⟨rfl, rfl, rfl, by decide +kernel, rfl, by decide +kernel, by decide +kernel⟩
abbrev s_Reader_take_number : Stmt := inClass (top 32) 9
abbrev N_Reader_take_number : List Str := ["self"]
abbrev P_Reader_take_number : List Str := ["self"]
theorem sc_Reader_take_number : FnScope N_Reader_take_number P_Reader_take_number (defScope s_Reader_take_number) := ⟨rfl, rfl, rfl, by decide +kernel, rfl, by decide +kernel, by decide +kernel⟩
abbrev s_Reader_has_ratio : Stmt := inClass (top 32) 10
abbrev N_Reader_has_ratio : List Str := ["self"]
abbrev P_Reader_has_ratio : List Str := ["self"]
theorem sc_Reader_has_ratio : FnScope N_Reader_has_ratio P_Reader_has_ratio (defScope s_Reader_has_ratio) := ⟨rfl, rfl, rfl, by decide +kernel, rfl, by decide +kernel, by decide +kernel⟩
abbrev s_Reader_take_ratio : Stmt := inClass (top 32) 11
abbrev N_Reader_take_ratio : List Str := ["self"]
abbrev P_Reader_take_ratio : List Str := ["self"]
theorem sc_Reader_take_ratio : FnScope N_Reader_take_ratio P_Reader_take_ratio (defScope s_Reader_take_ratio) := ⟨rfl, rfl, rfl, by decide +kernel, rfl, by decide +kernel, by decide +kernel⟩
abbrev s_Reader_take_dimension : Stmt := inClass (top 32) 12
abbrev N_Reader_take_dimension : List Str := ["self", "bases"]
abbrev P_Reader_take_dimension : List Str := ["self", "bases"]
theorem sc_Reader_take_dimension : FnScope N_Reader_take_dimension P_Reader_take_dimension (defScope s_Reader_take_dimension) := ⟨rfl, rfl, rfl, by decide +kernel, rfl, by decide +kernel, by decide +kernel⟩
abbrev s_Reader_end_line : Stmt := inClass (top 32) 13
abbrev N_Reader_end_line : List Str := ["self"]
abbrev P_Reader_end_line : List Str := ["self"]
theorem sc_Reader_end_line : FnScope N_Reader_end_line P_Reader_end_line (defScope s_Reader_end_line) := ⟨rfl, rfl, rfl, by decide +kernel, rfl, by decide +kernel, by decide +kernel⟩
abbrev s_Reader_end_lines : Stmt := inClass (top 32) 14
abbrev N_Reader_end_lines : List Str := ["self"]
abbrev P_Reader_end_lines : List Str := ["self"]
theorem sc_Reader_end_lines : FnScope N_Reader_end_lines P_Reader_end_lines (defScope s_Reader_end_lines) := ⟨rfl, rfl, rfl, by decide +kernel, rfl, by decide +kernel, by decide +kernel⟩
abbrev s_take_expression : Stmt := (top 37)
abbrev N_take_expression : List Str := ["reader", "depth", "made", "word"]
abbrev P_take_expression : List Str := ["reader", "depth"]
theorem sc_take_expression : FnScope N_take_expression P_take_expression (defScope s_take_expression) := ⟨rfl, rfl, rfl, by decide +kernel, rfl, by decide +kernel, by decide +kernel⟩
abbrev s__take_product : Stmt := (top 38)
abbrev N__take_product : List Str := ["reader", "depth", "made", "word"]
abbrev P__take_product : List Str := ["reader", "depth"]
theorem sc__take_product : FnScope N__take_product P__take_product (defScope s__take_product) := ⟨rfl, rfl, rfl, by decide +kernel, rfl, by decide +kernel, by decide +kernel⟩
abbrev s__take_part : Stmt := (top 39)
abbrev N__take_part : List Str := ["reader", "depth", "word", "made", "number"]
abbrev P__take_part : List Str := ["reader", "depth"]
theorem sc__take_part : FnScope N__take_part P__take_part (defScope s__take_part) := ⟨rfl, rfl, rfl, by decide +kernel, rfl, by decide +kernel, by decide +kernel⟩
abbrev s_read_expression : Stmt := (top 41)
abbrev N_read_expression : List Str := ["text", "reader", "made"]
abbrev P_read_expression : List Str := ["text"]
theorem sc_read_expression : FnScope N_read_expression P_read_expression (defScope s_read_expression) := ⟨rfl, rfl, rfl, by decide +kernel, rfl, by decide +kernel, by decide +kernel⟩
abbrev s__law_bag_of : Stmt := (top 43)
abbrev N__law_bag_of : List Str := ["_law_script", "_law_mixed", "_law_cell"]
abbrev P__law_bag_of : List Str := ["_law_script"]
theorem sc__law_bag_of : FnScope N__law_bag_of P__law_bag_of (defScope s__law_bag_of) := ⟨rfl, rfl, rfl, by decide +kernel, rfl, by decide +kernel, by decide +kernel⟩
abbrev s__law_pick : Stmt := (top 44)
abbrev N__law_pick : List Str := ["_law_bag", "_law_many", "_law_number", "_law_cell"]
abbrev P__law_pick : List Str := ["_law_bag", "_law_many"]
theorem sc__law_pick : FnScope N__law_pick P__law_pick (defScope s__law_pick) := ⟨rfl, rfl, rfl, by decide +kernel, rfl, by decide +kernel, by decide +kernel⟩
abbrev s__law_choice : Stmt := (top 45)
abbrev N__law_choice : List Str := ["_law_bag", "_law_things"]
abbrev P__law_choice : List Str := ["_law_bag", "_law_things"]
theorem sc__law_choice : FnScope N__law_choice P__law_choice (defScope s__law_choice) := ⟨rfl, rfl, rfl, by decide +kernel, rfl, by decide +kernel, by decide +kernel⟩
abbrev s__law_one_in : Stmt := (top 46)
abbrev N__law_one_in : List Str := ["_law_bag", "_law_many"]
abbrev P__law_one_in : List Str := ["_law_bag", "_law_many"]
theorem sc__law_one_in : FnScope N__law_one_in P__law_one_in (defScope s__law_one_in) := ⟨rfl, rfl, rfl, by decide +kernel, rfl, by decide +kernel, by decide +kernel⟩
abbrev s__law_integer : Stmt := (top 47)
abbrev N__law_integer : List Str := ["_law_thing"]
abbrev P__law_integer : List Str := ["_law_thing"]
theorem sc__law_integer : FnScope N__law_integer P__law_integer (defScope s__law_integer) := ⟨rfl, rfl, rfl, by decide +kernel, rfl, by decide +kernel, by decide +kernel⟩
abbrev s__law_letters_of : Stmt := (top 48)
abbrev N__law_letters_of : List Str := ["_law_bag", "_law_many", "_law_k"]
abbrev P__law_letters_of : List Str := ["_law_bag", "_law_many"]
theorem sc__law_letters_of : FnScope N__law_letters_of P__law_letters_of (defScope s__law_letters_of) := ⟨rfl, rfl, rfl, by decide +kernel, rfl, by decide +kernel, by decide +kernel⟩
abbrev s__law_words_of : Stmt := (top 49)
abbrev N__law_words_of : List Str := ["_law_told"]
abbrev P__law_words_of : List Str := []
theorem sc__law_words_of : FnScope N__law_words_of P__law_words_of (defScope s__law_words_of) := ⟨rfl, rfl, rfl, by decide +kernel, rfl, by decide +kernel, by decide +kernel⟩
abbrev s__law_names_of : Stmt := (top 50)
abbrev N__law_names_of : List Str := ["_law_bag", "_law_many", "_law_taken", "_law_letters", "_law_k", "_law_drawn", "_law_name", "_law_step"]
abbrev P__law_names_of : List Str := ["_law_bag", "_law_many"]
theorem sc__law_names_of : FnScope N__law_names_of P__law_names_of (defScope s__law_names_of) := ⟨rfl, rfl, rfl, by decide +kernel, rfl, by decide +kernel, by decide +kernel⟩
abbrev s__law_gcd : Stmt := (top 51)
abbrev N__law_gcd : List Str := ["_law_a", "_law_b", "_law_first", "_law_second", "_law_rest"]
abbrev P__law_gcd : List Str := ["_law_a", "_law_b"]
theorem sc__law_gcd : FnScope N__law_gcd P__law_gcd (defScope s__law_gcd) := ⟨rfl, rfl, rfl, by decide +kernel, rfl, by decide +kernel, by decide +kernel⟩
abbrev s__law_ratio : Stmt := (top 52)
abbrev N__law_ratio : List Str := ["_law_n", "_law_d", "_law_common"]
abbrev P__law_ratio : List Str := ["_law_n", "_law_d"]
theorem sc__law_ratio : FnScope N__law_ratio P__law_ratio (defScope s__law_ratio) := ⟨rfl, rfl, rfl, by decide +kernel, rfl, by decide +kernel, by decide +kernel⟩
abbrev s__law_number_of : Stmt := (top 53)
abbrev N__law_number_of : List Str := ["_law_bag", "_law_way", "_law_n", "_law_d"]
abbrev P__law_number_of : List Str := ["_law_bag"]
theorem sc__law_number_of : FnScope N__law_number_of P__law_number_of (defScope s__law_number_of) := ⟨rfl, rfl, rfl, by decide +kernel, rfl, by decide +kernel, by decide +kernel⟩
abbrev s__law_unit_word : Stmt := (top 54)
abbrev N__law_unit_word : List Str := ["_law_bag", "_law_names", "_law_text", "_law_k"]
abbrev P__law_unit_word : List Str := ["_law_bag", "_law_names"]
theorem sc__law_unit_word : FnScope N__law_unit_word P__law_unit_word (defScope s__law_unit_word) := ⟨rfl, rfl, rfl, by decide +kernel, rfl, by decide +kernel, by decide +kernel⟩
abbrev s__law_leaf : Stmt := (top 55)
abbrev N__law_leaf : List Str := ["_law_bag", "_law_names", "_law_way", "_law_name"]
abbrev P__law_leaf : List Str := ["_law_bag", "_law_names"]
theorem sc__law_leaf : FnScope N__law_leaf P__law_leaf (defScope s__law_leaf) := ⟨rfl, rfl, rfl, by decide +kernel, rfl, by decide +kernel, by decide +kernel⟩
abbrev s__law_tree_of : Stmt := (top 56)
abbrev N__law_tree_of : List Str := ["_law_bag", "_law_names", "_law_words", "_law_shape", "_law_many", "_law_left", "_law_word", "_law_first"]
abbrev P__law_tree_of : List Str := ["_law_bag", "_law_names", "_law_words", "_law_shape", "_law_many"]
theorem sc__law_tree_of : FnScope N__law_tree_of P__law_tree_of (defScope s__law_tree_of) := ⟨rfl, rfl, rfl, by decide +kernel, rfl, by decide +kernel, by decide +kernel⟩
abbrev s__law_rank_of : Stmt := (top 57)
abbrev N__law_rank_of : List Str := ["_law_tree"]
abbrev P__law_rank_of : List Str := ["_law_tree"]
theorem sc__law_rank_of : FnScope N__law_rank_of P__law_rank_of (defScope s__law_rank_of) := ⟨rfl, rfl, rfl, by decide +kernel, rfl, by decide +kernel, by decide +kernel⟩
abbrev s__law_leaf_text : Stmt := (top 58)
abbrev N__law_leaf_text : List Str := ["_law_tree"]
abbrev P__law_leaf_text : List Str := ["_law_tree"]
theorem sc__law_leaf_text : FnScope N__law_leaf_text P__law_leaf_text (defScope s__law_leaf_text) := ⟨rfl, rfl, rfl, by decide +kernel, rfl, by decide +kernel, by decide +kernel⟩
abbrev s__law_text_of : Stmt := (top 59)
abbrev N__law_text_of : List Str := ["_law_bag", "_law_tree", "_law_most", "_law_rank", "_law_text", "_law_parts", "_law_side", "_law_sign", "_law_extra"]
abbrev P__law_text_of : List Str := ["_law_bag", "_law_tree", "_law_most"]
theorem sc__law_text_of : FnScope N__law_text_of P__law_text_of (defScope s__law_text_of) := ⟨rfl, rfl, rfl, by decide +kernel, rfl, by decide +kernel, by decide +kernel⟩
abbrev s__law_depth_of : Stmt := (top 60)
abbrev N__law_depth_of : List Str := ["_law_text", "_law_depth", "_law_deepest", "_law_word"]
abbrev P__law_depth_of : List Str := ["_law_text"]
theorem sc__law_depth_of : FnScope N__law_depth_of P__law_depth_of (defScope s__law_depth_of) := ⟨rfl, rfl, rfl, by decide +kernel, rfl, by decide +kernel, by decide +kernel⟩
abbrev s__law_same : Stmt := (top 61)
abbrev N__law_same : List Str := ["_law_found", "_law_due", "_law_k"]
abbrev P__law_same : List Str := ["_law_found", "_law_due"]
theorem sc__law_same : FnScope N__law_same P__law_same (defScope s__law_same) := ⟨rfl, rfl, rfl, by decide +kernel, rfl, by decide +kernel, by decide +kernel⟩
abbrev s__law_refused : Stmt := (top 62)
abbrev N__law_refused : List Str := ["_law_text", "_law_place", "e"]
abbrev P__law_refused : List Str := ["_law_text", "_law_place"]
theorem sc__law_refused : FnScope N__law_refused P__law_refused (defScope s__law_refused) := ⟨rfl, rfl, rfl, by decide +kernel, rfl, by decide +kernel, by decide +kernel⟩
abbrev s__law_spoilt_of : Stmt := (top 63)
abbrev N__law_spoilt_of : List Str := ["_law_bag", "_law_text", "_law_words", "_law_many", "_law_gap", "_law_doubled", "_law_behind", "_law_rows"]
abbrev P__law_spoilt_of : List Str := ["_law_bag", "_law_text"]
theorem sc__law_spoilt_of : FnScope N__law_spoilt_of P__law_spoilt_of (defScope s__law_spoilt_of) := ⟨rfl, rfl, rfl, by decide +kernel, rfl, by decide +kernel, by decide +kernel⟩
abbrev s_law : Stmt := (top 64)
abbrev N_law : List Str := ["_law_script", "_law_bag", "_law_names", "_law_words", "_law_tree", "_law_text", "_law_found", "_law_loose", "_law_around", "_law_again", "_law_k", "_law_spoilt"]
abbrev P_law : List Str := ["_law_script"]
theorem sc_law : FnScope N_law P_law (defScope s_law) := ⟨rfl, rfl, rfl, by decide +kernel, rfl, by decide +kernel, by decide +kernel⟩
structure Ad where
  Reader : Addr
  BadRatio : Addr
  BadLine : Addr
  EllError : Addr
  tD : Tok
  tL : Tok
  tN : Tok
  tM : Tok
  tI : Tok
  tP : Tok
  tA : Tok
  aW : Addr
  aO : Addr
  aS : Addr
  aU : Addr
  aR : Addr
/-- an error's own __init__ -/
structure IniAt (K : PySem.W.Frag) (C : Addr) (q : Str) (st : Stmt) (ps : List Str) : Prop where
  ex : ∃ f fd, PySem.W.findIn K (.ref C) "__init__" = some (some (.ref f)) ∧ PySem.W.typeIn K (.ref f) = some (.type "function") ∧ Fun K "__init__" q st f fd ∧ Binds K fd ps []
/-- what the top has written -/
structure Txt (K : PySem.W.Frag) (mg : Str → Option Value) (w : World) (a : Ad) : Prop where
  n_isinstance : mg "isinstance" = none
  n_int : mg "int" = none
  n_bool : mg "bool" = none
  n_tuple : mg "tuple" = none
  n_str : mg "str" = none
  n_len : mg "len" = none
  n_all : mg "all" = none
  n_abs : mg "abs" = none
  n_min : mg "min" = none
  n_max : mg "max" = none
  n_range : mg "range" = none
  n_ValueError : mg "ValueError" = none
  gcd : mg "gcd" = some (.builtin "math.gcd")
  k_DIGITS_ratios : mg "DIGITS_ratios" = some (.str "0123456789" a.tD)
  k_LONGEST_ratios : mg "LONGEST_ratios" = some (.int 400 a.tL)
  k_LETTERS : mg "LETTERS" = some (.str "abcdefghijklmnopqrstuvwxyz" a.tA)
  k_LONGEST_names : mg "LONGEST_names" = some (.int 12 a.tN)
  k_LONGEST_lines : mg "LONGEST_lines" = some (.int 300 a.tM)
  k_DIGITS_lines : mg "DIGITS_lines" = some (.int 30 a.tI)
  k_PARENTHESES : mg "PARENTHESES" = some (.int 40 a.tP)
  k_WORDS : mg "WORDS" = some (.ref a.aW)
  t_WORDS : ∀ H, SqT K H a.aW ((["days", "base", "unit", "device", "feature", "role", "job", "procedure", "takes", "uses", "read", "by", "let", "be", "tell", "in", "judge", "good", "bad", "choose", "passed", "failed", "open", "repeat", "leave", "call", "stop", "end", "size", "offset", "news", "cert", "stand", "jolt", "edition", "strike", "told", "within", "sum", "product", "quotient", "card", "spot", "row", "ground", "nobody"] : List String).map fun x => V.str (Str.ofString x))
  k_OPERATORS : mg "OPERATORS" = some (.ref a.aO)
  t_OPERATORS : ∀ H, SqT K H a.aO [.str "plus", .str "minus", .str "times", .str "over"]
  k_SIGNS : mg "SIGNS" = some (.ref a.aS)
  k_SUMS : mg "SUMS" = some (.ref a.aU)
  k_PRODUCTS : mg "PRODUCTS" = some (.ref a.aR)
  ox_BadRatio : OexC K a.BadRatio
  g_BadRatio : mg "BadRatio" = some (.ref a.BadRatio)
  no_BadRatio_text : PySem.W.findIn K (.ref a.BadRatio) "text" = some none
  i_BadRatio : IniAt K a.BadRatio "BadRatio.__init__" s_BadRatioD_initD P_BadRatioD_initD
  e_BadRatio : ErrC K a.BadRatio
  xf_BadRatio : XfC K a.BadRatio
  kv_BadRatio : PySem.W.kitOne K (.ref a.BadRatio) (.type "ValueError") = some true
  em_BadRatio : PySem.W.exmOne K (.ref a.BadRatio) (.ref a.BadRatio) = some true
  ox_BadLine : OexC K a.BadLine
  g_BadLine : mg "BadLine" = some (.ref a.BadLine)
  no_BadLine_line : PySem.W.findIn K (.ref a.BadLine) "line" = some none
  no_BadLine_word : PySem.W.findIn K (.ref a.BadLine) "word" = some none
  i_BadLine : IniAt K a.BadLine "BadLine.__init__" s_BadLineD_initD P_BadLineD_initD
  e_BadLine : ErrC K a.BadLine
  xf_BadLine : XfC K a.BadLine
  kv_BadLine : PySem.W.kitOne K (.ref a.BadLine) (.type "ValueError") = some true
  ke_BadLine : PySem.W.kitOne K (.ref a.BadLine) (.ref a.EllError) = some true
  kn_BadLine : PySem.W.kitOne K (.ref a.BadLine) (.ref a.BadRatio) = some false
  em_BadLine : PySem.W.exmOne K (.ref a.BadLine) (.ref a.BadLine) = some true
  en_BadLine : PySem.W.exmOne K (.ref a.BadLine) (.ref a.BadRatio) = some false
  g_EllError : mg "EllError" = some (.ref a.EllError)
  tb_SIGNS : Tb K w a.aS ["plus", "minus", "times", "over"]
  tb_SUMS : Tb K w a.aU ["+", "-"]
  tb_PRODUCTS : Tb K w a.aR ["*", "/"]
  v_SIGNS : ∀ p ∈ ([("plus", "+"), ("minus", "-"), ("times", "*"), ("over", "/")] : List (Str × Str)), ∃ t, PySem.W.nsIn K a.aS p.1 = some (some (.str p.2 t))
  v_SUMS : ∀ p ∈ ([("+", "plus"), ("-", "minus")] : List (Str × Str)), ∃ t, PySem.W.nsIn K a.aU p.1 = some (some (.str p.2 t))
  v_PRODUCTS : ∀ p ∈ ([("*", "times"), ("/", "over")] : List (Str × Str)), ∃ t, PySem.W.nsIn K a.aR p.1 = some (some (.str p.2 t))
  g_Reader : mg "Reader" = some (.ref a.Reader)
  cl : Cls K a.Reader
  nR : NoAttr K a.Reader "_rows"
  nL : NoAttr K a.Reader "_line"
  nW : NoAttr K a.Reader "_word"
  i_Reader : MkAt K a.Reader "Reader.__init__" s_ReaderD_initD P_ReaderD_initD
  m_peek : MthAt K a.Reader "peek" "Reader.peek" s_Reader_peek P_Reader_peek
  m_take : MthAt K a.Reader "take" "Reader.take" s_Reader_take P_Reader_take
  m_refuse : MthAt K a.Reader "refuse" "Reader.refuse" s_Reader_refuse P_Reader_refuse
  m_take_text : MthAt K a.Reader "take_text" "Reader.take_text" s_Reader_take_text P_Reader_take_text
  m_take_integer : MthAt K a.Reader "take_integer" "Reader.take_integer" s_Reader_take_integer P_Reader_take_integer
  m_has_ratio : MthAt K a.Reader "has_ratio" "Reader.has_ratio" s_Reader_has_ratio P_Reader_has_ratio
  m_take_ratio : MthAt K a.Reader "take_ratio" "Reader.take_ratio" s_Reader_take_ratio P_Reader_take_ratio
  m_end_line : MthAt K a.Reader "end_line" "Reader.end_line" s_Reader_end_line P_Reader_end_line
  m_take_word : StarAt K a.Reader "take_word" "Reader.take_word" s_Reader_take_word ["self"] "words"
  m_take_name : StarAt K a.Reader "take_name" "Reader.take_name" s_Reader_take_name ["self"] "words"
  d_take_expression : DefAtD K mg "take_expression" s_take_expression P_take_expression [.int 0]
  d__wall : DefAt K mg "_wall" s__wall P__wall
  d_is_integer : DefAt K mg "is_integer" s_is_integer P_is_integer
  d_is_tuple_of : DefAt K mg "is_tuple_of" s_is_tuple_of P_is_tuple_of
  d_is_ratio : DefAt K mg "is_ratio" s_is_ratio P_is_ratio
  d_write_ratio : DefAt K mg "write_ratio" s_write_ratio P_write_ratio
  d_read_ratio : DefAt K mg "read_ratio" s_read_ratio P_read_ratio
  d_is_whole : DefAt K mg "is_whole" s_is_whole P_is_whole
  d__is_divisor : DefAt K mg "_is_divisor" s__is_divisor P__is_divisor
  d__is_digits : DefAt K mg "_is_digits" s__is_digits P__is_digits
  d_write_expression : DefAt K mg "write_expression" s_write_expression P_write_expression
  d__part : DefAt K mg "_part" s__part P__part
  d__tightness : DefAt K mg "_tightness" s__tightness P__tightness
  d_is_name : DefAt K mg "is_name" s_is_name P_is_name
  d__take_product : DefAt K mg "_take_product" s__take_product P__take_product
  d__take_part : DefAt K mg "_take_part" s__take_part P__take_part
  d_read_expression : DefAt K mg "read_expression" s_read_expression P_read_expression
  d__law_bag_of : DefAt K mg "_law_bag_of" s__law_bag_of P__law_bag_of
  d__law_pick : DefAt K mg "_law_pick" s__law_pick P__law_pick
  d__law_choice : DefAt K mg "_law_choice" s__law_choice P__law_choice
  d__law_one_in : DefAt K mg "_law_one_in" s__law_one_in P__law_one_in
  d__law_integer : DefAt K mg "_law_integer" s__law_integer P__law_integer
  d__law_letters_of : DefAt K mg "_law_letters_of" s__law_letters_of P__law_letters_of
  d__law_words_of : DefAt K mg "_law_words_of" s__law_words_of P__law_words_of
  d__law_names_of : DefAt K mg "_law_names_of" s__law_names_of P__law_names_of
  d__law_gcd : DefAt K mg "_law_gcd" s__law_gcd P__law_gcd
  d__law_ratio : DefAt K mg "_law_ratio" s__law_ratio P__law_ratio
  d__law_number_of : DefAt K mg "_law_number_of" s__law_number_of P__law_number_of
  d__law_unit_word : DefAt K mg "_law_unit_word" s__law_unit_word P__law_unit_word
  d__law_leaf : DefAt K mg "_law_leaf" s__law_leaf P__law_leaf
  d__law_tree_of : DefAt K mg "_law_tree_of" s__law_tree_of P__law_tree_of
  d__law_rank_of : DefAt K mg "_law_rank_of" s__law_rank_of P__law_rank_of
  d__law_leaf_text : DefAt K mg "_law_leaf_text" s__law_leaf_text P__law_leaf_text
  d__law_text_of : DefAt K mg "_law_text_of" s__law_text_of P__law_text_of
  d__law_depth_of : DefAt K mg "_law_depth_of" s__law_depth_of P__law_depth_of
  d__law_same : DefAt K mg "_law_same" s__law_same P__law_same
  d__law_refused : DefAt K mg "_law_refused" s__law_refused P__law_refused
  d__law_spoilt_of : DefAt K mg "_law_spoilt_of" s__law_spoilt_of P__law_spoilt_of
  d_law : DefAt K mg "law" s_law P_law
section
variable {P : Program} {w : World} {K : PySem.W.Frag} {mg : Str → Option Value} {base : Heap} {a : Ad}
/-! ### checks -/
/-- not an integer: a bool, or a thing of a type that is none of int's -/
def NoI (K : PySem.W.Frag) (H : Hp) (v : V) : Prop := (∃ b, v = .bl b) ∨ ∃ t, TyX K H v t ∧ PySem.W.kitOne K t (.type "int") = some false
def sp_is_integer (K : PySem.W.Frag) : Sp := fun vs H Q _ => ∃ v, vs = [v] ∧ ((∃ i, v = .int i ∧ Q (.bl true) H) ∨ (NoI K H v ∧ Q (.bl false) H))
theorem c_is_integer (T : Txt K mg w a) : Cl P w K mg base 1 "is_integer" P_is_integer (sp_is_integer K) [] :=
  T.d_is_integer.cl sc_is_integer (fun vs H Q E h => by obtain ⟨i, rfl, _⟩ := h; rfl) fun f cdv A outer s H vs Q E hr h => by
    obtain ⟨v, rfl, h⟩ := h
    refine ⟨_, ((pss_one (ps_ret (pe_and (pe_callB call_isi (by rfl) T.n_isinstance (by decide +kernel) (pa_cons (pv 0) (pa_cons (pe_bltn (v := .ty "int") (by rfl) T.n_int (by decide +kernel) rfl) pa_nil))) (pe_one (pe_not (pe_callB call_isi (by rfl) T.n_isinstance (by decide +kernel) (pa_cons (pv 0) (pa_cons (pe_bltn (v := .ty "bool") (by rfl) T.n_bool (by decide +kernel) rfl) pa_nil))))))))), ?_⟩
    rcases h with ⟨i, rfl, k⟩ | ⟨⟨b, rfl⟩ | ⟨t, ht, hk⟩, k⟩
    · refine ⟨_, rfl, _, _, _, _, true, rfl, .ty _, .base (.int _), kit_ty (by decide +kernel), true, rfl, iteT ?_⟩
      exact ⟨_, rfl, _, _, _, _, false, rfl, .ty _, .base (.int _), kit_ty (by decide +kernel), false, rfl, k⟩
    · refine ⟨_, rfl, _, _, _, _, true, rfl, .ty _, .base (.bl _), kit_ty (by decide +kernel), true, rfl, iteT ?_⟩
      exact ⟨_, rfl, _, _, _, _, true, rfl, .ty _, .base (.bl _), kit_ty (by decide +kernel), true, rfl, k⟩
    · exact ⟨_, rfl, _, _, _, _, false, rfl, .ty _, ht, hk, false, rfl, iteF k⟩
def sp_is_tuple_of (K : PySem.W.Frag) : Sp := fun vs H Q _ => ∃ (v : V) (m : Int), vs = [v, .int m] ∧
  ((∃ p xs, v = .ref p ∧ SqT K H p xs ∧ Q (.bl (decide (V.int xs.length = V.int m))) H) ∨ ∃ t, TyX K H v t ∧ PySem.W.kitOne K t (.type "tuple") = some false ∧ Q (.bl false) H)
theorem c_is_tuple_of (T : Txt K mg w a) : Cl P w K mg base 1 "is_tuple_of" P_is_tuple_of (sp_is_tuple_of K) [] :=
  T.d_is_tuple_of.cl sc_is_tuple_of (fun vs H Q E h => by obtain ⟨i, lo, rfl, _⟩ := h; rfl) fun f cdv A outer s H vs Q E hr h => by
    obtain ⟨v, m, rfl, h⟩ := h
    refine ⟨_, ((pss_one (ps_ret (pe_and (pe_callB call_isi (by rfl) T.n_isinstance (by decide +kernel) (pa_cons (pv 0) (pa_cons (pe_bltn (v := .ty "tuple") (by rfl) T.n_tuple (by decide +kernel) rfl) pa_nil))) (pe_one (pe_cmpR op_eq (pe_callB call_len_seq (by rfl) T.n_len (by decide +kernel) (pa_cons (pv 0) pa_nil)) (pv 1) (nomark _))))))), ?_⟩
    rcases h with ⟨p, xs, rfl, hx, k⟩ | ⟨t, ht, hk, k⟩
    · refine ⟨_, rfl, _, _, _, _, true, rfl, .ty _, ty_sqT hx, kit_ty (by decide +kernel), true, rfl, iteT ?_⟩
      exact ⟨_, rfl, _, _, rfl, .inr hx, _, rfl, rfl, k⟩
    · exact ⟨_, rfl, _, _, _, _, false, rfl, .ty _, ht, hk, false, rfl, iteF k⟩
theorem map_of {α : Type} {xs : List α} {f : α → V} : ∀ {ys : List V}, ys.length = xs.length → (∀ (j : Nat) y, ys[j]? = some y → ∃ x, xs[j]? = some x ∧ y = f x) → ys = xs.map f := by
  induction xs with
  | nil => intro ys h _; simpa using h
  | cons x xs ih =>
    intro ys h q
    cases ys with
    | nil => simp at h
    | cons y ys =>
      obtain ⟨x', hx, hy⟩ := q 0 y rfl
      cases hx
      rw [hy, List.map_cons, ih (by simpa using h) fun j z hz => q (j + 1) z hz]
theorem x_BadRatio (T : Txt K mg w a) : Mke P w K mg base 1 "BadRatio" a.BadRatio P_BadRatioD_initD (spI1 a.BadRatio "text") := by
  obtain ⟨f, fd, hi, ht, F, b⟩ := T.i_BadRatio.ex
  refine ⟨T.g_BadRatio, T.ox_BadRatio, f, fd, hi, ht, fun_ok F sc_BadRatioD_initD (fun vs H Q E h => by obtain ⟨x, v, rfl, _⟩ := h; rfl) fun f cdv A outer s H vs Q E hr h => ?_, b⟩
  obtain ⟨x, v, rfl, hx, k⟩ := h
  exact ⟨_, ((pss_one (ps_ost (pv 0) (pv 1)))), _, rfl, _, rfl, x, a.BadRatio, rfl, T.ox_BadRatio, T.no_BadRatio_text, .inl ⟨hx, fun dx n ne => k dx n ne⟩⟩
theorem x_BadLine (T : Txt K mg w a) : Mke P w K mg base 1 "BadLine" a.BadLine P_BadLineD_initD (spI2 a.BadLine "line" "word") := by
  obtain ⟨f, fd, hi, ht, F, b⟩ := T.i_BadLine.ex
  refine ⟨T.g_BadLine, T.ox_BadLine, f, fd, hi, ht, fun_ok F sc_BadLineD_initD (fun vs H Q E h => by obtain ⟨x, u, v, rfl, _⟩ := h; rfl) fun f cdv A outer s H vs Q E hr h => ?_, b⟩
  obtain ⟨x, u, v, rfl, hx, k⟩ := h
  exact ⟨_, ((pss_cons (ps_ost (pv 0) (pv 1))
 (pss_one (ps_ost (pv 0) (pv 2))))), _, rfl, _, rfl, x, a.BadLine, rfl, T.ox_BadLine, T.no_BadLine_line, .inl ⟨hx, fun dx n ne =>
    ⟨_, rfl, _, rfl, x, a.BadLine, rfl, T.ox_BadLine, T.no_BadLine_word, .inr ⟨dx, _, upd_same, by rw [upd_ne ne, upd_same], Nat.le_of_ble_eq_true rfl, k dx n ne⟩⟩⟩⟩
end
end K09

set_option Elab.async false
set_option linter.all false
set_option maxRecDepth 100000
set_option maxHeartbeats 4000000
namespace K09
open PySem PySem.Spec PyProof.Rows L2 Ew
section
variable {P : Program} {w : World} {K : PySem.W.Frag} {mg : Str → Option Value} {base : Heap} {a : Ad}
/-! ### ratios -/
theorem at0 {x y : V} : atI [x, y] 0 = some x := rfl
theorem at1 {x y : V} : atI [x, y] 1 = some y := rfl
/-- the same where d is not 0 -/
def sp_ratio (K : PySem.W.Frag) : Sp := fun vs H Q _ => ∃ (F : Hp) (n d : Int), vs = [.int n, .int d] ∧ d ≠ 0 ∧ Sz 8000 d ∧ Pu F H Q fun F' v => Rt K F' v (rat n d)
theorem sz1 : Sz 2000 1 := by unfold Sz; exact Nat.one_lt_two_pow (by decide)
theorem mulw {x y : Int} (h : Sz 2000 x) (k : Sz 2000 y) : CMulW x y := wide_mul h k (by decide) (by decide) (by decide)
/-- a pair that may be none of a ratio -/
def sp_is_ratio (K : PySem.W.Frag) : Sp := fun vs H Q _ => ∃ v : V, vs = [v] ∧ ((∃ t, TyX K H v t ∧ PySem.W.kitOne K t (.type "tuple") = some false ∧ Q (.bl false) H) ∨ (∃ p xs, v = .ref p ∧ SqT K H p xs ∧ xs.length ≠ 2 ∧ Q (.bl false) H) ∨
  (∃ p x y, v = .ref p ∧ SqT K H p [x, y] ∧ NoI K H x ∧ Q (.bl false) H) ∨ (∃ (p : Addr) (n : Int) (y : V), v = .ref p ∧ SqT K H p [.int n, y] ∧ NoI K H y ∧ Q (.bl false) H) ∨
  ∃ (n d : Int), Rt K H v (n, d) ∧ Q (.bl (decide (1 ≤ d) && decide (Nat.gcd n.natAbs d.natAbs = 1))) H)
theorem c_is_ratio (T : Txt K mg w a) : Cl P w K mg base 2 "is_ratio" P_is_ratio (sp_is_ratio K) [] :=
  T.d_is_ratio.cl sc_is_ratio (fun vs H Q E h => by obtain ⟨v, rfl, _⟩ := h; rfl) fun f cdv A outer s H vs Q E hr h => by
    obtain ⟨v, rfl, h⟩ := h
    refine ⟨_, ((pss_cons (ps_if (pt_not (pt_val (pe_f (c_is_tuple_of T) (takes_of rfl rfl rfl rfl) hr (by decide) rfl (pa_cons (pv 0) (pa_cons pe_int pa_nil)))))
 (pss_one (ps_ret pe_bl))
 pss_nil)
 (pss_cons (ps_asg (pv 0) (pg_tup rfl (pgs_cons (pg_name (i := 1) sc_is_ratio.nd rfl (Or.inl rfl)) (pgs_cons (pg_name (i := 2) sc_is_ratio.nd rfl (Or.inl rfl)) pgs_nil))))
 (pss_one (ps_ret (pe_and (pe_f (c_is_integer T) (takes_of rfl rfl rfl rfl) hr (by decide) rfl (pa_cons (pv 1) pa_nil)) (pe_and (pe_f (c_is_integer T) (takes_of rfl rfl rfl rfl) hr (by decide) rfl (pa_cons (pv 2) pa_nil)) (pe_and (pe_cmpR op_ge (pv 2) pe_int (nomark _)) (pe_one (pe_cmpR op_eq (pe_callBfun cr_gcd (by rfl) T.gcd (pa_cons (pv 1) (pa_cons (pv 2) pa_nil))) pe_int (nomark _))))))))))), ?_⟩
    rcases h with ⟨t, ht, hk, k⟩ | ⟨p, xs, rfl, hp, hl, k⟩ | ⟨p, x, y, rfl, hp, hx, k⟩ | ⟨p, n, y, rfl, hp, hy, k⟩ | ⟨n, d, ⟨p, rfl, hp⟩, k⟩
    · exact ⟨_, rfl, _, _, rfl, .inr ⟨t, ht, hk, _, rfl, iteT k⟩⟩
    · refine ⟨_, rfl, _, _, rfl, .inl ⟨p, xs, rfl, hp, _, rfl, ?_⟩⟩
      rw [decide_eq_false (fun z => hl (by have := V.int.inj z; omega))]
      exact iteT k
    · refine ⟨_, rfl, _, _, rfl, .inl ⟨p, _, rfl, hp, true, rfl, iteF ?_⟩⟩
      refine ⟨_, rfl, p, _, rfl, hp, rfl, _, _, rfl, _, _, rfl, rfl, ?_⟩
      exact ⟨_, rfl, _, rfl, .inr ⟨hx, _, rfl, iteF k⟩⟩
    · refine ⟨_, rfl, _, _, rfl, .inl ⟨p, _, rfl, hp, true, rfl, iteF ?_⟩⟩
      refine ⟨_, rfl, p, _, rfl, hp, rfl, _, _, rfl, _, _, rfl, rfl, ?_⟩
      exact ⟨_, rfl, _, rfl, .inl ⟨_, rfl, _, rfl, iteT ⟨_, rfl, _, rfl, .inr ⟨hy, _, rfl, iteF k⟩⟩⟩⟩
    · refine ⟨_, rfl, _, _, rfl, .inl ⟨p, _, rfl, hp, true, rfl, iteF ?_⟩⟩
      refine ⟨_, rfl, p, _, rfl, hp, rfl, _, _, rfl, _, _, rfl, rfl, ?_⟩
      refine ⟨_, rfl, _, rfl, .inl ⟨_, rfl, _, rfl, iteT ⟨_, rfl, _, rfl, .inl ⟨_, rfl, _, rfl, iteT ?_⟩⟩⟩⟩
      refine ⟨_, rfl, _, _, rfl, rfl, _, rfl, ?_⟩
      cases e : decide (1 ≤ d) with
      | false => exact iteF (by rw [e] at k; exact k)
      | true =>
        refine iteT ⟨_, rfl, _, rfl, _, _, rfl, rfl, ?_⟩
        rw [e] at k
        have : decide (V.int (Nat.gcd n.natAbs d.natAbs : Nat) = V.int 1) = decide (Nat.gcd n.natAbs d.natAbs = 1) := by
          by_cases h : Nat.gcd n.natAbs d.natAbs = 1
          · simp [h]
          · rw [decide_eq_false h, decide_eq_false]
            intro z
            have := V.int.inj z
            omega
        rw [this]
        exact k
end
end K09

set_option Elab.async false
set_option linter.all false
set_option maxRecDepth 100000
set_option maxHeartbeats 4000000
namespace K09
open PySem PySem.Spec PyProof.Rows L2 Ew
/-! ### the law's bag -/
theorem _root_.Ew.Stm.touch {m : Addr → Prop} {F H F' H' : Hp} {p : Addr} {o : HO} (a : Stm m F H F' H') (hm : m p) (hf : F' p = none) : Stm m F H F' (upd H' p o) :=
  ⟨a.ff, fun b u e => by rw [upd_ne (ne_of_none e hf)]; exact a.fh b u e, fun x u n e => by rw [upd_ne (fun z => n (by rw [z]; exact hm))]; exact a.hh x u n e, a.nw⟩
def bk (la : Addr) (at_ rest mixed count : Int) : List (Key × V) := [(.inr "cells", .ref la), (.inr "at", .int at_), (.inr "rest", .int rest), (.inr "mixed", .int mixed), (.inr "count", .int count)]
def Bag (K : PySem.W.Frag) (b : Addr) (F H : Hp) : Prop := F b = none ∧ ∃ (la : Addr) (ns : List Int) (at_ rest mixed count : Int), 0 ≤ at_ ∧ ns.length ≤ 1000 ∧ SqL K F la (ns.map V.int) ∧ H b = some (.dK (bk la at_ rest mixed count))
theorem memB (K : PySem.W.Frag) (b : Addr) : Mem (fun x => x = b) (Bag K b) where
  there := fun ⟨_, _, _, _, _, _, _, _, _, _, h⟩ z => by rw [z, h]; exact fun q => nomatch q
  off := fun ⟨h, _⟩ z => by rw [z]; exact h
  put := fun ⟨h, la, ns, at_, rest, mixed, count, h1, h2, h3, h4⟩ n => ⟨h, la, ns, at_, rest, mixed, count, h1, h2, h3, by rw [upd_ne (fun z => n z.symm)]; exact h4⟩
  grow := fun ⟨h, la, ns, at_, rest, mixed, count, h1, h2, h3, h4⟩ e k => ⟨k _ rfl, la, ns, at_, rest, mixed, count, h1, h2, upL e h3, h4⟩
section
variable {H : Hp} {b la : Addr} {at_ rest mixed count n : Int}
theorem dg_c (h : H b = some (.dK (bk la at_ rest mixed count))) : DGet H b (.str "cells") (some (.ref la)) := .inl ⟨_, .inr "cells", .inl h, rfl, rfl⟩
theorem dg_a (h : H b = some (.dK (bk la at_ rest mixed count))) : DGet H b (.str "at") (some (.int at_)) := .inl ⟨_, .inr "at", .inl h, rfl, rfl⟩
theorem dg_r (h : H b = some (.dK (bk la at_ rest mixed count))) : DGet H b (.str "rest") (some (.int rest)) := .inl ⟨_, .inr "rest", .inl h, rfl, rfl⟩
theorem dg_m (h : H b = some (.dK (bk la at_ rest mixed count))) : DGet H b (.str "mixed") (some (.int mixed)) := .inl ⟨_, .inr "mixed", .inl h, rfl, rfl⟩
theorem dg_n (h : H b = some (.dK (bk la at_ rest mixed count))) : DGet H b (.str "count") (some (.int count)) := .inl ⟨_, .inr "count", .inl h, rfl, rfl⟩
theorem dp_a (h : H b = some (.dK (bk la at_ rest mixed count))) : DPut H b (.str "at") (.int n) (upd H b (.dK (bk la n rest mixed count))) := .inl ⟨_, .inr "at", h, rfl, Nat.lt_of_le_of_lt (by decide : 5 ≤ 1000) (by decide), rfl⟩
theorem dp_r (h : H b = some (.dK (bk la at_ rest mixed count))) : DPut H b (.str "rest") (.int n) (upd H b (.dK (bk la at_ n mixed count))) := .inl ⟨_, .inr "rest", h, rfl, Nat.lt_of_le_of_lt (by decide : 5 ≤ 1000) (by decide), rfl⟩
theorem dp_m (h : H b = some (.dK (bk la at_ rest mixed count))) : DPut H b (.str "mixed") (.int n) (upd H b (.dK (bk la at_ rest n count))) := .inl ⟨_, .inr "mixed", h, rfl, Nat.lt_of_le_of_lt (by decide : 5 ≤ 1000) (by decide), rfl⟩
theorem dp_n (h : H b = some (.dK (bk la at_ rest mixed count))) : DPut H b (.str "count") (.int n) (upd H b (.dK (bk la at_ rest mixed n))) := .inl ⟨_, .inr "count", h, rfl, Nat.lt_of_le_of_lt (by decide : 5 ≤ 1000) (by decide), rfl⟩
end
section
variable {P : Program} {w : World} {K : PySem.W.Frag} {mg : Str → Option Value} {base : Heap} {a : Ad}
theorem log_sz {j : Int} (h : Sz 8000 j) : j.natAbs.log2 < 9000 := h.log (by decide) (by decide)
theorem atI_int {α : Type} {xs : List α} {i : Int} {x : α} (h0 : 0 ≤ i) (h1 : i < xs.length) (h : xs[i.toNat]? = some x) : atI xs i = some x := by
  unfold atI
  unfold ixN
  rw [if_pos h0, if_pos h1]
  exact h
theorem seq_with {t u : TS} {D : Ends} {σ : L2.St} {H : Hp} (Pv : L2.St → Hp → Prop) (h1 : ∀ u', (∀ σ H, Pv σ H → u' D σ H) → tSeq t u' D σ H) (h2 : ∀ σ H, Pv σ H → u D σ H) : tSeq t u D σ H := h1 u h2
def sp__law_pick (K : PySem.W.Frag) : Sp := fun vs H Q _ => ∃ (F : Hp) (b : Addr) (many : Int), vs = [.ref b, .int many] ∧ Bag K b F H ∧ Same F H ∧ 0 < many ∧ Sz 8000 many ∧
  ∀ H' (i : Int), Stm (fun x => x = b) F H F H' → Bag K b F H' → 0 ≤ i → i < many → Q (.int i) H'
theorem c__law_pick (T : Txt K mg w a) : Cl P w K mg base 1 "_law_pick" P__law_pick (sp__law_pick K) [] :=
  T.d__law_pick.cl sc__law_pick (fun vs H Q E h => by obtain ⟨F, b, many, rfl, _⟩ := h; rfl) fun f cdv A outer s H vs Q E hr h => by
    obtain ⟨F, b, many, rfl, ⟨fb, la, ns, at_, rest, mixed, count, h0, hn, hl, hb⟩, hf, hm, hz, k⟩ := h
    have hz := log_sz hz
    have ok : ∀ (x : Int), 0 ≤ x % many ∧ x % many < many := fun x => ⟨Int.emod_nonneg _ (by omega), Int.emod_lt_of_pos _ hm⟩
    refine ⟨_, ((pss_cons (ps_dput (hu_of hr) (pv 0) pe_str (pe_op op_add (pe_dget (hu_of hr) (pv 0) pe_str (fun _ _ => rfl)) pe_int) rfl)
 (pss_cons (ps_if (pt_cmpR op_gt (pe_dget (hu_of hr) (pv 0) pe_str (fun _ _ => rfl)) pe_int (nomark _))
 (pss_cons (ps_set (i := 2) sc__law_pick.nd rfl (Or.inl rfl) (pe_dget (hu_of hr) (pv 0) pe_str (fun _ _ => rfl)))
 (pss_cons (ps_dput (hu_of hr) (pv 0) pe_str (pe_op op_fdivW (pv 2) (pv 1)) rfl)
 (pss_one (ps_ret (pe_op op_mod (pe_callTy call_int1 (by rfl) T.n_int (by decide +kernel) (pa_cons (pv 2) pa_nil)) (pv 1))))))
 pss_nil)
 (pss_cons (ps_set (i := 3) sc__law_pick.nd rfl (Or.inl rfl) pe_int)
 (pss_cons (ps_if (pt_cmpR op_lt (pe_dget (hu_of hr) (pv 0) pe_str (fun _ _ => rfl)) (pe_callB call_len_seq (by rfl) T.n_len (by decide +kernel) (pa_cons (pe_dget (hu_of hr) (pv 0) pe_str (fun _ _ => rfl)) pa_nil)) (nomark _))
 (pss_cons (ps_set (i := 3) sc__law_pick.nd rfl (Or.inl rfl) (pe_ix ix_list (pe_dget (hu_of hr) (pv 0) pe_str (fun _ _ => rfl)) (pe_dget (hu_of hr) (pv 0) pe_str (fun _ _ => rfl)) (fun _ _ => rfl)))
 (pss_cons (ps_dput (hu_of hr) (pv 0) pe_str (pe_op op_add (pe_dget (hu_of hr) (pv 0) pe_str (fun _ _ => rfl)) pe_int) rfl)
 (pss_one (ps_if (pt_cmpR op_ge (pv 3) (pe_op op_pow pe_int pe_int) (nomark _))
 (pss_cons (ps_dput (hu_of hr) (pv 0) pe_str (pe_op op_fdivW (pv 3) (pv 1)) rfl)
 (pss_one (ps_ret (pe_op op_mod (pe_callTy call_int1 (by rfl) T.n_int (by decide +kernel) (pa_cons (pv 3) pa_nil)) (pv 1)))))
 pss_nil))))
 pss_nil)
 (pss_cons (ps_set (i := 2) sc__law_pick.nd rfl (Or.inl rfl) (pe_op op_mod (pe_callTy call_int1 (by rfl) T.n_int (by decide +kernel) (pa_cons (pe_op op_add (pe_op op_add (pe_op op_mul (pv 3) pe_int) (pe_op op_mul (pe_dget (hu_of hr) (pv 0) pe_str (fun _ _ => rfl)) pe_int)) (pe_op op_mul (pe_dget (hu_of hr) (pv 0) pe_str (fun _ _ => rfl)) pe_int)) pa_nil)) pe_int))
 (pss_cons (ps_set (i := 2) sc__law_pick.nd rfl (Or.inl rfl) (pe_op op_mod (pe_callTy call_int1 (by rfl) T.n_int (by decide +kernel) (pa_cons (pe_op op_add (pe_op op_mul (pv 2) pe_int) pe_int) pa_nil)) pe_int))
 (pss_cons (ps_dput (hu_of hr) (pv 0) pe_str (pe_op op_mod (pe_callTy call_int1 (by rfl) T.n_int (by decide +kernel) (pa_cons (pv 2) pa_nil)) pe_int) rfl)
 (pss_one (ps_ret (pe_op op_mod (pe_callTy call_int1 (by rfl) T.n_int (by decide +kernel) (pa_cons (pe_op op_fdiv (pv 2) pe_int) pa_nil)) (pv 1)))))))))))), ?_⟩
    refine ⟨_, rfl, b, _, rfl, dg_n hb, _, _, rfl, rfl, _, rfl, b, _, rfl, dp_n hb, ?_⟩
    have s1 : Stm (fun x => x = b) F H F (upd H b (.dK (bk la at_ rest mixed (count + 1)))) := Stm.touch (Stm.refl hf) rfl fb
    generalize hH1 : upd H b (.dK (bk la at_ rest mixed (count + 1))) = H1 at s1
    have hb1 : H1 b = some (.dK (bk la at_ rest mixed (count + 1))) := by rw [← hH1]; exact upd_same
    refine ⟨_, rfl, b, _, rfl, dg_r hb1, _, _, rfl, rfl, _, rfl, ?_⟩
    refine ite2 (fun e => ?_) (fun e => ?_)
    · refine ⟨_, rfl, b, _, rfl, dg_r hb1, ?_⟩
      refine ⟨_, rfl, _, rfl, _, _, rfl, rfl, ⟨hm, hz⟩, _, rfl, b, _, rfl, dp_r hb1, ?_⟩
      refine ⟨_, rfl, .inl ⟨_, rfl, _, rfl, _, _, rfl, rfl, hm, ?_⟩⟩
      exact k _ _ (s1.touch rfl fb) ⟨fb, la, ns, at_, _, mixed, _, h0, hn, hl, upd_same⟩ (ok _).1 (ok _).2
    · refine seq_with (fun σ2 H2 => σ2 = L2.start N__law_pick [.ref b, .int many] ∧ H1 = H2) (fun u hu => hu _ _ ⟨rfl, rfl⟩) ?_
      rintro _ _ ⟨rfl, rfl⟩
      refine seq_with (fun σ2 H2 => σ2 = [some (.ref b), some (.int many), none, some (.int 0)] ∧ H1 = H2) (fun u hu => hu _ _ ⟨rfl, rfl⟩) ?_
      rintro _ _ ⟨rfl, rfl⟩
      refine seq_with (fun σ2 H2 => ∃ cell at2, σ2 = [some (.ref b), some (.int many), none, some (.int cell)] ∧ Stm (fun x => x = b) F H F H2 ∧ 0 ≤ at2 ∧ H2 b = some (.dK (bk la at2 rest mixed (count + 1)))) (fun u hu => ?_) ?_
      · refine ⟨_, rfl, b, _, rfl, dg_a hb1, _, rfl, b, _, rfl, dg_c hb1, la, _, rfl, .inl (upL s1.fh hl), _, _, rfl, rfl, _, rfl, ?_⟩
        refine ite2 (fun e2 => ?_) (fun e2 => ?_)
        · have lt : at_.toNat < ns.length := by
            have := of_decide_eq_true e2
            rw [List.length_map] at this
            omega
          refine ⟨_, rfl, b, _, rfl, dg_c hb1, _, rfl, b, _, rfl, dg_a hb1, la, _, _, .int ns[at_.toNat], rfl, rfl, upL s1.fh hl, ?_, ?_⟩
          · exact atI_int h0 (by rw [List.length_map]; omega) (by rw [List.getElem?_map, List.getElem?_eq_getElem lt]; rfl)
          refine ⟨_, rfl, b, _, rfl, dg_a hb1, _, _, rfl, rfl, _, rfl, b, _, rfl, dp_a hb1, ?_⟩
          have s2 := s1.touch (p := b) (o := .dK (bk la (at_ + 1) rest mixed (count + 1))) rfl fb
          generalize hH2 : upd _ b (.dK (bk la (at_ + 1) rest mixed (count + 1))) = H2 at s2
          have hb2 : H2 b = some (.dK (bk la (at_ + 1) rest mixed (count + 1))) := by rw [← hH2]; exact upd_same
          refine ⟨_, rfl, _, _, rfl, rfl, ⟨by decide, by decide, by decide⟩, _, _, rfl, rfl, _, rfl, ?_⟩
          refine ite2 (fun e => ?_) (fun e => ?_)
          · refine ⟨_, rfl, _, rfl, _, _, rfl, rfl, ⟨hm, hz⟩, _, rfl, b, _, rfl, dp_r hb2, ?_⟩
            refine ⟨_, rfl, .inl ⟨_, rfl, _, rfl, _, _, rfl, rfl, hm, ?_⟩⟩
            exact k _ _ (s2.touch rfl fb) ⟨fb, la, ns, _, _, mixed, _, by omega, hn, hl, upd_same⟩ (ok _).1 (ok _).2
          · exact hu _ _ ⟨_, _, rfl, s2, by omega, hb2⟩
        · exact hu _ _ ⟨_, _, rfl, s1, h0, hb1⟩
      · rintro _ H2 ⟨cell, at2, rfl, s2, h2, hb2⟩
        have cm : ∀ i j : Int, -(2 ^ 64) < j → j < 2 ^ 64 → CMul i j := fun i j h1 h2 => .inr ⟨h1, h2⟩
        refine ⟨_, rfl, _, _, rfl, rfl, cm _ _ (by decide) (by decide), _, rfl, b, _, rfl, dg_m hb2, _, _, rfl, rfl, cm _ _ (by decide) (by decide), _, _, rfl, rfl, _, rfl, b, _, rfl, dg_n hb2, _, _, rfl, rfl, cm _ _ (by decide) (by decide), _, _, rfl, rfl, .inl ⟨_, rfl, _, _, rfl, rfl, (by decide : (0 : Int) < 2147483647), ?_⟩⟩
        refine ⟨_, rfl, _, _, rfl, rfl, cm _ _ (by decide) (by decide), _, _, rfl, rfl, .inl ⟨_, rfl, _, _, rfl, rfl, (by decide : (0 : Int) < 2147483647), ?_⟩⟩
        refine ⟨_, rfl, .inl ⟨_, rfl, _, _, rfl, rfl, (by decide : (0 : Int) < 1000003), _, rfl, b, _, rfl, dp_m hb2, ?_⟩⟩
        refine ⟨_, rfl, _, _, rfl, rfl, ⟨by decide, by decide⟩, .inl ⟨_, rfl, _, rfl, _, _, rfl, rfl, hm, ?_⟩⟩
        exact k _ _ (s2.touch rfl fb) ⟨fb, la, ns, _, _, _, _, h2, hn, hl, upd_same⟩ (ok _).1 (ok _).2
end
end K09

set_option Elab.async false
set_option linter.all false
set_option maxRecDepth 100000
set_option maxHeartbeats 4000000
namespace K09
open PySem PySem.Spec PyProof.Rows L2 Ew
abbrev Sb (b : Addr) := Stm (fun x => x = b)
section
variable {P : Program} {w : World} {K : PySem.W.Frag} {mg : Str → Option Value} {base : Heap} {a : Ad}
/-- what a choice is made of -/
def Things (K : PySem.W.Frag) (F H : Hp) (b : Addr) (u : V) (xs : List V) : Prop := (∃ p, u = .ref p ∧ SqL K F p xs) ∨ (∃ p, u = .ref p ∧ p ≠ b ∧ H p = some (.lst xs)) ∨ (∃ z : Str, u = .str z ∧ z.length ≤ sizeLine ∧ xs = z.cps.toList.map fun c => V.str ⟨#[c]⟩) ∨ ∃ p, u = .ref p ∧ ∀ F' H', Sb b F H F' H' → SqT K H' p xs
theorem sz_len {n : Nat} (h : n ≤ 1000) : Sz 8000 (n : Int) := by
  unfold Sz
  have : (2 : Nat) ^ 10 ≤ 2 ^ 8000 := Nat.pow_le_pow_right (by decide) (by decide)
  have e : (2 : Nat) ^ 10 = 1024 := by decide
  omega
def sp__law_choice (K : PySem.W.Frag) : Sp := fun vs H Q _ => ∃ (F : Hp) (b : Addr) (u : V) (xs : List V), vs = [.ref b, u] ∧ Things K F H b u xs ∧ xs ≠ [] ∧ xs.length ≤ 1000 ∧ Bag K b F H ∧ Same F H ∧
  ∀ H' x (i : Nat), Sb b F H F H' → Bag K b F H' → xs[i]? = some x → Q x H'
theorem c__law_choice (T : Txt K mg w a) : Cl P w K mg base 2 "_law_choice" P__law_choice (sp__law_choice K) [] :=
  T.d__law_choice.cl sc__law_choice (fun vs H Q E h => by obtain ⟨F, b, u, xs, rfl, _⟩ := h; rfl) fun f cdv A outer s H vs Q E hr h => by
    obtain ⟨F, b, u, xs, rfl, ht, h0, hl, hB, hf, k⟩ := h
    refine ⟨_, ((pss_one (ps_ret (pe_ix ix_seq (pv 1) (pe_f (c__law_pick T) (takes_of rfl rfl rfl rfl) hr (by decide) rfl (pa_cons (pv 0) (pa_cons (pe_callB (call_len_seq.or call_len_str) (by rfl) T.n_len (by decide +kernel) (pa_cons (pv 1) pa_nil)) pa_nil))) (fun _ _ => rfl))))), ?_⟩
    have l0 : 0 < xs.length := List.length_pos_iff.mpr h0
    have get : ∀ (i : Int) (h1 : 0 ≤ i) (h2 : i < (xs.length : Int)), atI xs i = some (xs[i.toNat]'((Int.toNat_lt h1).mpr h2)) := fun i h1 h2 => atI_int h1 h2 (List.getElem?_eq_getElem _)
    have fin : ∀ H' (i : Int) (h1 : 0 ≤ i) (h2 : i < (xs.length : Int)), Sb b F H F H' → Bag K b F H' → Q (xs[i.toNat]'((Int.toNat_lt h1).mpr h2)) H' := fun H' i h1 h2 s1 B1 => k H' _ i.toNat s1 B1 (List.getElem?_eq_getElem _)
    rcases ht with ⟨p, rfl, hp⟩ | ⟨p, rfl, nb, hp⟩ | ⟨z, rfl, hz, rfl⟩ | ⟨p, rfl, hp⟩
    · refine ⟨_, rfl, _, rfl, _, rfl, .inl ⟨p, xs, rfl, .inl (upL hf hp), F, b, _, rfl, hB, hf, by omega, sz_len hl, fun H' i s1 B1 h1 h2 => ?_⟩⟩
      exact .inl ⟨p, xs, i, _, rfl, rfl, upL s1.fh hp, get i h1 h2, fin H' i h1 h2 s1 B1⟩
    · refine ⟨_, rfl, _, rfl, _, rfl, .inl ⟨p, xs, rfl, .inl (SqL.of hp), F, b, _, rfl, hB, hf, by omega, sz_len hl, fun H' i s1 B1 h1 h2 => ?_⟩⟩
      exact .inl ⟨p, xs, i, _, rfl, rfl, SqL.of (s1.hh p _ nb hp), get i h1 h2, fin H' i h1 h2 s1 B1⟩
    · have zl : z.length = z.cps.size := rfl
      have xl : (z.cps.toList.map fun c => V.str ⟨#[c]⟩).length = z.cps.size := by rw [List.length_map, Array.length_toList]
      rw [xl] at l0 hl
      refine ⟨_, rfl, _, rfl, _, rfl, .inr ⟨z, rfl, hz, F, b, _, rfl, hB, hf, by rw [zl]; omega, sz_len (by rw [zl]; exact hl), fun H' i s1 B1 h1 h2 => ?_⟩⟩
      rw [zl] at h2
      have lt : i.toNat < z.cps.toList.length := by rw [Array.length_toList]; omega
      refine .inr (.inr ⟨z, i, z.cps.toList[i.toNat]'lt, rfl, rfl, hz, atI_int h1 (by rw [Array.length_toList]; exact h2) (List.getElem?_eq_getElem _), ?_⟩)
      have := fin H' i h1 (by rw [xl]; exact h2) s1 B1
      rw [List.getElem_map] at this
      exact this
    · refine ⟨_, rfl, _, rfl, _, rfl, .inl ⟨p, xs, rfl, .inr (hp F H (Stm.refl hf)), F, b, _, rfl, hB, hf, by omega, sz_len hl, fun H' i s1 B1 h1 h2 => ?_⟩⟩
      exact .inr (.inl ⟨p, xs, i, _, rfl, rfl, hp F H' s1, get i h1 h2, fin H' i h1 h2 s1 B1⟩)
theorem c__law_integer (T : Txt K mg w a) : Cl P w K mg base 1 "_law_integer" P__law_integer (sp_is_integer K) [] :=
  T.d__law_integer.cl sc__law_integer (fun vs H Q E h => by obtain ⟨i, rfl, _⟩ := h; rfl) fun f cdv A outer s H vs Q E hr h => by
    obtain ⟨v, rfl, h⟩ := h
    refine ⟨_, ((pss_one (ps_ret (pe_and (pe_callB call_isi (by rfl) T.n_isinstance (by decide +kernel) (pa_cons (pv 0) (pa_cons (pe_bltn (v := .ty "int") (by rfl) T.n_int (by decide +kernel) rfl) pa_nil))) (pe_one (pe_not (pe_callB call_isi (by rfl) T.n_isinstance (by decide +kernel) (pa_cons (pv 0) (pa_cons (pe_bltn (v := .ty "bool") (by rfl) T.n_bool (by decide +kernel) rfl) pa_nil))))))))), ?_⟩
    rcases h with ⟨i, rfl, k⟩ | ⟨⟨b, rfl⟩ | ⟨t, ht, hk⟩, k⟩
    · refine ⟨_, rfl, _, _, _, _, true, rfl, .ty _, .base (.int _), kit_ty (by decide +kernel), true, rfl, iteT ?_⟩
      exact ⟨_, rfl, _, _, _, _, false, rfl, .ty _, .base (.int _), kit_ty (by decide +kernel), false, rfl, k⟩
    · refine ⟨_, rfl, _, _, _, _, true, rfl, .ty _, .base (.bl _), kit_ty (by decide +kernel), true, rfl, iteT ?_⟩
      exact ⟨_, rfl, _, _, _, _, true, rfl, .ty _, .base (.bl _), kit_ty (by decide +kernel), true, rfl, k⟩
    · exact ⟨_, rfl, _, _, _, _, false, rfl, .ty _, ht, hk, false, rfl, iteF k⟩
def mu3 (σ : L2.St) : Nat := match σ[3]? with | some (some (V.int y)) => y.toNat | _ => 0
def sp__law_gcd : Sp := fun vs H Q _ => ∃ n d : Int, vs = [.int n, .int d] ∧ Q (.int (Nat.gcd n.natAbs d.natAbs : Nat)) H
theorem c__law_gcd (T : Txt K mg w a) : Cl P w K mg base 1 "_law_gcd" P__law_gcd sp__law_gcd [] :=
  T.d__law_gcd.cl sc__law_gcd (fun vs H Q E h => by obtain ⟨n, d, rfl, _⟩ := h; rfl) fun f cdv A outer s H vs Q E hr h => by
    obtain ⟨n, d, rfl, k⟩ := h
    refine ⟨_, ((pss_cons (ps_set (i := 2) sc__law_gcd.nd rfl (Or.inl rfl) (pe_callB call_abs (by rfl) T.n_abs (by decide +kernel) (pa_cons (pv 0) pa_nil)))
 (pss_cons (ps_set (i := 3) sc__law_gcd.nd rfl (Or.inl rfl) (pe_callB call_abs (by rfl) T.n_abs (by decide +kernel) (pa_cons (pv 1) pa_nil)))
 (pss_cons (ps_while (passes_of rfl) (pt_cmpR op_gt (pv 3) pe_int (nomark _))
 (pss_cons (ps_set (i := 4) sc__law_gcd.nd rfl (Or.inl rfl) (pe_op op_mod (pe_callTy call_int1 (by rfl) T.n_int (by decide +kernel) (pa_cons (pv 2) pa_nil)) (pv 3)))
 (pss_cons (ps_set (i := 2) sc__law_gcd.nd rfl (Or.inl rfl) (pv 3))
 (pss_one (ps_set (i := 3) sc__law_gcd.nd rfl (Or.inl rfl) (pv 4))))))
 (pss_one (ps_ret (pv 2))))))), ?_⟩
    have ab : ∀ i : Int, (if i < 0 then -i else i) = (i.natAbs : Int) := fun i => by split <;> omega
    refine ⟨_, rfl, _, rfl, ?_⟩
    rw [ab]
    refine ⟨_, rfl, _, rfl, ?_⟩
    rw [ab]
    refine while_by (fun σ' H' => H' = H ∧ ∃ (x y : Nat) (r : Option V), σ' = [some (.int n), some (.int d), some (.int x), some (.int y), r] ∧ Nat.gcd x y = Nat.gcd n.natAbs d.natAbs)
      (fun σ' _ => mu3 σ') ⟨rfl, _, _, none, rfl, rfl⟩ ?_ ?_
    · rintro _ _ ⟨rfl, x, y, r, rfl, hg⟩
      refine ⟨_, rfl, _, _, rfl, rfl, _, rfl, ?_⟩
      refine ite2 (fun e => ?_) (fun e => ?_)
      · have hy : 0 < y := by have := of_decide_eq_true e; omega
        refine ⟨_, rfl, .inl ⟨_, rfl, _, rfl, _, _, rfl, rfl, (by omega : (0 : Int) < y), ?_⟩⟩
        refine ⟨_, rfl, ?_⟩
        refine ⟨_, rfl, ⟨rfl, y, x % y, some (.int ((x % y : Nat) : Int)), by rw [Int.natCast_emod]; rfl, ?_⟩, ?_⟩
        · rw [← hg, Nat.gcd_comm y, Nat.gcd_comm x y]
          exact (Nat.gcd_rec y x).symm
        · show ((x : Int) % (y : Int)).toNat < ((y : Int)).toNat
          have := Nat.mod_lt x hy
          rw [← Int.natCast_emod]
          omega
      · have hy : y = 0 := by
          rcases Nat.eq_zero_or_pos y with h | h
          · exact h
          · exact absurd (decide_eq_true (by omega)) e
        subst hy
        rw [Nat.gcd_zero_right] at hg
        exact ⟨_, rfl, by rw [hg]; exact k⟩
    · rintro σ' H' Q1 Q2 q h
      obtain ⟨v, e1, i, j, e2, e3, c, e4, q'⟩ := h
      exact ⟨v, e1, i, j, e2, e3, c, e4, q _ _ q'⟩
def sp_rat (K : PySem.W.Frag) : Sp := sp_ratio K
theorem com_pos {n d : Int} (h : 0 < d) : com n d = ((Nat.gcd n.natAbs d.natAbs : Nat) : Int) := by unfold com; rw [if_neg (by omega)]
theorem com_neg {n d : Int} (h0 : d ≠ 0) (h : ¬ 0 < d) : com n d = 0 - ((Nat.gcd n.natAbs d.natAbs : Nat) : Int) := by unfold com; rw [if_pos (by omega)]; omega
theorem c__law_ratio (T : Txt K mg w a) : Cl P w K mg base 2 "_law_ratio" P__law_ratio (sp_ratio K) [] :=
  T.d__law_ratio.cl sc__law_ratio (fun vs H Q E h => by obtain ⟨F, n, d, rfl, _⟩ := h; rfl) fun f cdv A outer s H vs Q E hr h => by
    obtain ⟨F, n, d, rfl, h0, hz, hf, k⟩ := h
    refine ⟨_, ((pss_cons (ps_set (i := 2) sc__law_ratio.nd rfl (Or.inl rfl) (pe_ifExp (pt_cmpR op_gt (pv 1) pe_int (nomark _)) (pe_f (c__law_gcd T) (takes_of rfl rfl rfl rfl) hr (by decide) rfl (pa_cons (pv 0) (pa_cons (pv 1) pa_nil))) (pe_op op_sub pe_int (pe_f (c__law_gcd T) (takes_of rfl rfl rfl rfl) hr (by decide) rfl (pa_cons (pv 0) (pa_cons (pv 1) pa_nil))))))
 (pss_one (ps_ret (pe_tup (pa_cons (pe_op op_fdivX (pv 0) (pv 2)) (pa_cons (pe_op op_fdivX (pv 1) (pv 2)) pa_nil))))))), ?_⟩
    have cd : ∀ i : Int, CDivX i (com n d) := fun i => ⟨com_ne h0, (com_sz h0 hz).log (by decide) (by decide)⟩
    have fin : ∀ c : Int, c = com n d → (tRet (tTup (tCons (tOp (rI CDivX fun i j => .int (i.fdiv j)) (tVar 0) (tVar 2)) (tCons (tOp (rI CDivX fun i j => .int (i.fdiv j)) (tVar 1) (tVar 2)) tNil)))) { nx := fun _ H' => Q .non H', rt := Q } [some (.int n), some (.int d), some (.int c)] H := by
      rintro c rfl
      refine ⟨_, rfl, _, rfl, _, _, rfl, rfl, cd _, _, rfl, _, rfl, _, _, rfl, rfl, cd _, by show 2 ≤ sizeLine; decide, fun p hp => ?_⟩
      exact k _ _ _ (stp_new hf hp) ⟨p, rfl, sq_new⟩
    refine ⟨_, rfl, _, _, rfl, rfl, _, rfl, ?_⟩
    refine ite2 (fun e => ?_) (fun e => ?_)
    · exact ⟨_, rfl, _, rfl, _, _, rfl, fin _ (com_pos (of_decide_eq_true e)).symm⟩
    · exact ⟨_, rfl, _, rfl, _, _, rfl, _, _, rfl, rfl, fin _ (com_neg h0 fun z => e (decide_eq_true z)).symm⟩
/-- a ratio in lowest terms -/
def Low (r : Int × Int) : Prop := 1 ≤ r.2 ∧ Nat.gcd r.1.natAbs r.2.natAbs = 1
theorem low_rat {n d : Int} (h : d ≠ 0) : Low (rat n d) := ⟨rat_pos h, rat_cop h⟩
end
section
variable {K : PySem.W.Frag} {b p : Addr} {F H F' H' F2 H2 : Hp} {o : HO}
theorem newB (s : Sb b F H F' H') (B : Bag K b F' H') (hp : H' p = none) : Sb b F H (upd F' p o) (upd H' p o) ∧ Bag K b (upd F' p o) (upd H' p o) := by
  have nb : ¬ p = b := fun z => (memB K b).there B z hp
  have h0 : H p = none := s.fresh (fun x z => (memB K b).there B z) hp
  refine ⟨s.new hp h0, (memB K b).grow ((memB K b).put B nb) (same_new (s.fh.free hp)) fun x z => ?_⟩
  rw [upd_ne (fun q => nb (by rw [← q]; exact z))]
  exact (memB K b).off B z
theorem seqB (s : Sb b F H F' H') (B : Bag K b F' H') (s2 : Sb b F' H' F2 H2) : Sb b F H F2 H2 := s.then (memB K b) B s2
theorem pureB (s : Sb b F H F' H') (B : Bag K b F' H') (s2 : Stp F' H' F2 H2) : Sb b F H F2 H2 ∧ Bag K b F2 H2 := by
  refine ⟨seqB s B s2.any, ?_⟩
  obtain ⟨h, la, ns, at_, rest, mixed, count, h1, h2, h3, h4⟩ := B
  exact ⟨s2.nw b h (by rw [h4]; exact fun q => nomatch q), la, ns, at_, rest, mixed, count, h1, h2, upL s2.ff h3, s2.same b _ h4⟩
end
theorem sz_of {b : Nat} {n : Int} (k : Nat) (h : n.natAbs < 2 ^ k) (hk : k ≤ b) : Sz b n := Nat.lt_of_lt_of_le h (Nat.pow_le_pow_right (by decide) hk)
end K09

set_option Elab.async false
set_option linter.all false
set_option maxRecDepth 100000
set_option maxHeartbeats 4000000
namespace K09
open PySem PySem.Spec PyProof.Rows L2 Ew
open SX (S)
def wordL : List (List Nat) := (["days", "base", "unit", "device", "feature", "role", "job", "procedure", "takes", "uses", "read", "by", "let", "be", "tell", "in", "judge", "good", "bad", "choose", "passed", "failed", "open", "repeat", "leave", "call", "stop", "end", "size", "offset", "news", "cert", "stand", "jolt", "edition", "strike", "told", "within", "sum", "product", "quotient", "card", "spot", "row", "ground", "nobody"] : List String).map fun x => x.toList.map Char.toNat
theorem e32 : (" " : Str) = S [32] := by decide +kernel
theorem e0 : ("" : Str) = S [] := by decide +kernel
/-- a row of texts -/
def tsL (ns : List (List Nat)) : List V := ns.map fun l => V.str (S l)
theorem inV_ts (n : List Nat) (ns : List (List Nat)) : inV (.str (S n)) (tsL ns) = decide (n ∈ ns) := by
  unfold inV tsL
  rw [List.any_map]
  induction ns with
  | nil => rfl
  | cons m r ih =>
    rw [List.any_cons, ih]
    show (S m == S n || _) = _
    rw [SX.S_beq_eq]
    by_cases h : m = n
    · subst h; simp
    · have h' : ¬ n = m := fun z => h z.symm
      simp [h, h']
theorem flat_ts (ns : List (List Nat)) : (tsL ns).all flatV = true := by
  unfold tsL
  rw [List.all_map, List.all_eq_true]
  intro _ _
  rfl
theorem join_flat : ∀ l : List (List Nat), TL.joinL [] l = l.flatten
  | [] => rfl
  | [p] => by simp [TL.joinL]
  | p :: q :: r => by
    show p ++ ([] ++ TL.joinL [] (q :: r)) = _
    rw [join_flat (q :: r)]
    simp
def Lt (n : List Nat) : Prop := ∀ c ∈ n, 97 ≤ c ∧ c ≤ 122
/-! ### names drawn -/
structure Nm (n : List Nat) : Prop where
  lt : Lt n
  ne : n ≠ []
  le : n.length ≤ 12
  nw : n ∉ wordL
def Nams (ns : List (List Nat)) : Prop := ns.Nodup ∧ ∀ n ∈ ns, Nm n
def alt (d : List Nat) (k s : Nat) : List Nat := d.take 2 ++ List.replicate (s + 1) 122 ++ [97 + k] ++ [97]
def nth (d : List Nat) (k : Nat) : Nat → List Nat
  | 0 => d
  | s + 1 => alt d k s
def Al6 (n : List Nat) (k : Nat) : Prop := n.length ≤ 6 ∨ ∃ p, n = p ++ [97 + k] ++ [97]
structure Nm8 (n : List Nat) : Prop where
  lt : Lt n
  ne : n ≠ []
  le : n.length ≤ 8
theorem alt_len (d : List Nat) (k s : Nat) : (alt d k s).length = (d.take 2).length + (s + 3) := by
  unfold alt
  simp
theorem alt_lt {d : List Nat} (h : Lt d) {k : Nat} (hk : k < 26) (s : Nat) : Lt (alt d k s) := by
  unfold alt
  intro c hc
  simp only [List.mem_append, List.mem_singleton, List.mem_replicate] at hc
  rcases hc with ((hc | hc) | hc) | hc
  · exact h c (List.mem_of_mem_take hc)
  · omega
  · omega
  · omega
theorem alt_nw (d : List Nat) (k s : Nat) : alt d k s ∉ wordL := by
  have key : ∀ x ∈ wordL, x.getLast? ≠ some 97 := by decide +kernel
  intro h
  refine key _ h ?_
  unfold alt
  rw [List.getLast?_append]
  rfl
theorem nth_nm {d : List Nat} (h : Lt d) (h0 : d ≠ []) (h6 : d.length ≤ 6) {k : Nat} (hk : k < 26) {i : Nat} (hi : i ≤ 4) : Nm8 (nth d k i) ∧ Al6 (nth d k i) k := by
  cases i with
  | zero => exact ⟨⟨h, h0, by show d.length ≤ 8; omega⟩, .inl h6⟩
  | succ s =>
    have hl := alt_len d k s
    have : (d.take 2).length ≤ 2 := by rw [List.length_take]; omega
    refine ⟨⟨alt_lt h hk s, ?_, by show (alt d k s).length ≤ 8; omega⟩, .inr ⟨_, rfl⟩⟩
    intro z
    have z : alt d k s = [] := z
    rw [z] at hl
    simp at hl
/-- the fifth name is new -/
theorem fifth {d : List Nat} (h0 : d ≠ []) {k : Nat} {ns : List (List Nat)} (hn : ∀ (i : Nat) n, ns[i]? = some n → Al6 n i) (hk : ns.length = k) : nth d k 4 ∉ wordL ++ ns := by
  intro h
  rcases List.mem_append.mp h with h | h
  · exact alt_nw d k 3 h
  · obtain ⟨i, hi⟩ := List.getElem?_of_mem h
    have lt : i < ns.length := (List.getElem?_eq_some_iff.mp hi).1
    rcases hn i _ hi with q | ⟨p, q⟩
    · have q : (alt d k 3).length ≤ 6 := q
      rw [alt_len] at q
      have : 0 < d.length := List.length_pos_iff.mpr h0
      rw [List.length_take] at q
      omega
    · have q : alt d k 3 = p ++ [97 + i] ++ [97] := q
      unfold alt at q
      have q2 := List.append_inj' q rfl
      have q3 := List.append_inj' q2.1 rfl
      have := q3.2
      simp at this
      omega
theorem letter_at : ∀ n : Fin 26, atI ("abcdefghijklmnopqrstuvwxyz" : Str).cps.toList ((n.val : Nat) : Int) = some (97 + n.val) := by decide +kernel
theorem letter_i {i : Int} (h0 : 0 ≤ i) (h1 : i < 26) : atI ("abcdefghijklmnopqrstuvwxyz" : Str).cps.toList i = some (97 + i.toNat) := by
  have := letter_at ⟨i.toNat, by omega⟩
  have e : ((i.toNat : Nat) : Int) = i := by omega
  dsimp only at this
  rw [e] at this
  exact this
theorem cut_from (xs : List V) {i : Nat} (h : i ≤ xs.length) : cutV xs (some (i : Int)) none = xs.drop i := by
  have e1 : HT.sIx xs.length 0 (some (i : Int)) = i := by rw [HT.sIx_nat]; omega
  have e2 : HT.sIx xs.length xs.length none = xs.length := rfl
  unfold cutV
  rw [e1, e2]
  exact List.take_of_length_le (by rw [List.length_drop]; omega)
def wl : List Nat := TL.joinL [32] wordL
theorem words_txt : (("days base unit device feature role job procedure takes uses read by let be tell in judge good bad choose " : Str) ++ "passed failed open repeat leave call stop end size offset news cert stand jolt edition strike told ") ++ "within sum product quotient card spot row ground nobody" = S wl := by decide +kernel
theorem words_split : Txt.split (S wl) (S [32]) = wordL.map S := by
  rw [SX.split_S (by simp) (by simp)]
  unfold wl
  rw [SX.spl_join (by decide) (by decide +kernel)]
section
variable {P : Program} {w : World} {K : PySem.W.Frag} {mg : Str → Option Value} {base : Heap} {a : Ad}
def sp__law_words_of : Sp := fun vs H Q _ => vs = [] ∧ ∀ p, H p = none → Q (.ref p) (upd H p (.lst (tsL wordL)))
theorem c__law_words_of (T : Txt K mg w a) : Cl P w K mg base 1 "_law_words_of" P__law_words_of sp__law_words_of [] :=
  T.d__law_words_of.cl sc__law_words_of (fun vs H Q E h => by obtain ⟨rfl, _⟩ := h; rfl) fun f cdv A outer s H vs Q E hr h => by
    obtain ⟨rfl, k⟩ := h
    refine ⟨_, ((pss_cons (ps_set (i := 0) sc__law_words_of.nd rfl (Or.inl rfl) pe_str)
 (pss_cons (ps_set (i := 0) sc__law_words_of.nd rfl (Or.inl rfl) (pe_op op_add_str (pv 0) pe_str))
 (pss_one (ps_ret (pe_m1 PySem.F.slot_str_split PySem.F.type_str_split mt_split (pe_op op_add_str (pv 0) pe_str) pe_str)))))), ?_⟩
    refine ⟨_, rfl, _, _, rfl, rfl, by decide +kernel, _, rfl, _, _, rfl, rfl, by decide +kernel, ⟨_, rfl⟩, _, _, rfl, rfl, by decide +kernel, by decide +kernel, fun p hp => ?_⟩
    rw [words_txt, e32, words_split, List.map_map]
    exact k p hp
def sp__law_letters_of (K : PySem.W.Frag) : Sp := fun vs H Q _ => ∃ (F : Hp) (b : Addr) (many : Int), vs = [.ref b, .int many] ∧ Bag K b F H ∧ Same F H ∧ 0 ≤ many ∧ many ≤ 100 ∧
  ∀ F' H' L, Sb b F H F' H' → Bag K b F' H' → L.length = many.toNat → Lt L → Q (.str (S L)) H'
theorem txts_of : ∀ {ys : List V}, (∀ (j : Nat) y, ys[j]? = some y → ∃ c : Nat, y = V.str (S [c]) ∧ 97 ≤ c ∧ c ≤ 122) → ∃ L : List Nat, ys = (L.map fun c => S [c]).map V.str ∧ Lt L
  | [], _ => ⟨[], rfl, fun c h => by cases h⟩
  | y :: ys, h => by
    obtain ⟨c, rfl, h1⟩ := h 0 y rfl
    obtain ⟨L, rfl, h2⟩ := txts_of fun j z hz => h (j + 1) z hz
    exact ⟨c :: L, rfl, fun x hx => by rcases List.mem_cons.mp hx with rfl | hx; exact h1; exact h2 x hx⟩
theorem join_ones (L : List Nat) : Txt.join "" (L.map fun c => S [c]) = S L := by
  have : (L.map fun c => S [c]) = (L.map fun c => [c]).map S := by rw [List.map_map]; rfl
  rw [this, e0, SX.join_S, join_flat]
  congr 1
  induction L with
  | nil => rfl
  | cons c r ih => simp [ih]
theorem c__law_letters_of (T : Txt K mg w a) : Cl P w K mg base 2 "_law_letters_of" P__law_letters_of (sp__law_letters_of K) [] :=
  T.d__law_letters_of.cl sc__law_letters_of (fun vs H Q E h => by obtain ⟨F, b, m, rfl, _⟩ := h; rfl) fun f cdv A outer s H vs Q E hr h => by
    obtain ⟨F, b, many, rfl, hB, hf, m0, m1, k⟩ := h
    refine ⟨_, ((pss_one (ps_ret (pe_m1 PySem.F.slot_str_join PySem.F.type_str_join mt_join pe_str (pe_lc (own := [("_law_k", 2)]) (g := (gName 2)) (by rfl) sc__law_letters_of.nd (pi_range1 (by rfl) T.n_range (pa_cons (pv 1) pa_nil)) (blkOk_by (own := [("_law_k", 2)]) (N := N__law_letters_of) (sc := defScope s__law_letters_of) (by decide +kernel)) (fun _ _ _ _ _ => (pg_name (i := 2) sc__law_letters_of.nd rfl (Or.inl rfl) (hf := .inr rfl))) (fun _ _ _ _ _ => pts_nil) (fun _ _ _ _ _ => (pe_ix (r := rIxS) ix_str pe_str (pe_f (c__law_pick T) takes0 hr (by decide) rfl (pa_cons (pv 0) (pa_cons pe_int pa_nil))) (fun _ _ => rfl)))))))), ?_⟩
    refine ⟨⟨_, rfl⟩, _, rfl, _, rfl, by omega, by omega, fun D hD => ?_⟩
    refine lcM (memB K b) walk_range hf hB hD (fun i _ y => ∃ c : Nat, y = V.str (S [c]) ∧ 97 ≤ c ∧ c ≤ 122) (fun _ _ _ _ _ z => z) (by omega) (fun F' H' e1 e2 => trivial) ?_ ?_
    · rintro j y F2 H2 H'' Kt Kn hi s2 B2 ⟨rfl, rfl⟩ kk
      refine ⟨rfl, lc_yes ⟨_, rfl, F2, b, _, rfl, B2, s2.fh, by decide, sz_of 5 (by decide) (by decide), fun H3 t s3 B3 t0 t1 => ?_⟩⟩
      exact ⟨_, _, _, rfl, rfl, by decide +kernel, letter_i t0 t1, kk _ _ _ s3 B3 ⟨97 + t.toNat, rfl, by omega, by omega⟩⟩
    · intro F2 H2 ys s2 B2 hD' hy hr'
      obtain ⟨L, rfl, hL⟩ := txts_of hr'
      rw [List.length_map, List.length_map] at hy
      refine ⟨_, D, (L.map fun c => S [c]), rfl, rfl, .inl (SqL.of (s2.fh D _ hD')), ?_, ?_⟩
      · have : ((L.map fun c => S [c]).map (·.length)).sum ≤ L.length := by
          clear hD' hr' hy hL
          induction L with
          | nil => simp
          | cons c r ih => rw [List.map_cons, List.map_cons, List.sum_cons, List.length_cons]; show 1 + _ ≤ _; omega
        rw [List.length_map]
        show _ + _ * 0 ≤ _
        omega
      · rw [join_ones]
        exact k F2 H2 L s2 B2 hy hL
end
end K09

set_option Elab.async false
set_option linter.all false
set_option maxRecDepth 100000
set_option maxHeartbeats 4000000
namespace K09
open PySem PySem.Spec PyProof.Rows L2 Ew
open SX (S)
section
variable {P : Program} {w : World} {K : PySem.W.Frag} {mg : Str → Option Value} {base : Heap} {a : Ad}
/-- names so far -/
structure Sof (ns : List (List Nat)) : Prop where
  nd : ns.Nodup
  nm : ∀ n ∈ ns, Nm8 n ∧ n ∉ wordL
  al : ∀ (i : Nat) n, ns[i]? = some n → Al6 n i
theorem Sof.snoc {ns : List (List Nat)} (h : Sof ns) {n : List Nat} (h1 : Nm8 n) (h2 : Al6 n ns.length) (h3 : n ∉ wordL ++ ns) : Sof (ns ++ [n]) := by
  rw [List.mem_append, not_or] at h3
  refine ⟨?_, fun m hm => ?_, fun i m hm => ?_⟩
  · rw [List.nodup_append]
    refine ⟨h.nd, by simp, fun x hx y hy => ?_⟩
    rw [List.mem_singleton] at hy
    subst hy
    exact fun z => h3.2 (z ▸ hx)
  · rcases List.mem_append.mp hm with hm | hm
    · exact h.nm m hm
    · rw [List.mem_singleton] at hm
      subst hm
      exact ⟨h1, h3.1⟩
  · rcases Nat.lt_or_ge i ns.length with hi | hi
    · rw [List.getElem?_append_left hi] at hm
      exact h.al i m hm
    · rw [List.getElem?_append_right hi] at hm
      have e : i - ns.length = 0 := by
        rcases Nat.eq_zero_or_pos (i - ns.length) with h0 | h0
        · exact h0
        · rw [List.getElem?_eq_none (by simp; omega)] at hm; cases hm
      rw [e] at hm
      cases hm
      rw [show i = ns.length by omega]
      exact h2
theorem Sof.nams {ns : List (List Nat)} (h : Sof ns) : Nams ns := ⟨h.nd, fun n hn => by
  obtain ⟨h1, h2⟩ := h.nm n hn
  exact ⟨h1.lt, h1.ne, Nat.le_trans h1.le (by decide), h2⟩⟩
def sp__law_names_of (K : PySem.W.Frag) : Sp := fun vs H Q _ => ∃ (F : Hp) (b : Addr) (many : Int), vs = [.ref b, .int many] ∧ Bag K b F H ∧ Same F H ∧ 0 ≤ many ∧ many ≤ 20 ∧
  ∀ F' H' p ns, Sb b F H F' H' → Bag K b F' H' → F' p = none → H p = none → p ≠ b → H' p = some (.lst (tsL ns)) → ns.length = many.toNat → Nams ns → Q (.ref p) H'
theorem tsL_app (a b : List (List Nat)) : tsL (a ++ b) = tsL a ++ tsL b := by unfold tsL; rw [List.map_append]
theorem tsL_len (a : List (List Nat)) : (tsL a).length = a.length := by simp [tsL]
theorem ez : ("z" : Str) = S [122] := by decide +kernel
theorem wordL_len : wordL.length = 46 := by decide +kernel
theorem c__law_names_of (T : Txt K mg w a) : Cl P w K mg base 3 "_law_names_of" P__law_names_of (sp__law_names_of K) [] :=
  T.d__law_names_of.cl sc__law_names_of (fun vs H Q E h => by obtain ⟨F, b, m, rfl, _⟩ := h; rfl) fun f cdv A outer s H vs Q E hr h => by
    obtain ⟨F, b, many, rfl, hB, hf, m0, m1, k⟩ := h
    refine ⟨_, ((pss_cons (ps_set (i := 2) sc__law_names_of.nd rfl (Or.inl rfl) (pe_f0 (c__law_words_of T) hr (by decide) rfl))
 (pss_cons (ps_set (i := 3) sc__law_names_of.nd rfl (Or.inl rfl) pe_str)
 (pss_cons (ps_for (passes_of rfl) rfl (pi_range1 (by rfl) T.n_range (pa_cons (pv 1) pa_nil)) (pg_name (i := 4) sc__law_names_of.nd rfl (Or.inl rfl))
 (pss_cons (ps_set (i := 5) sc__law_names_of.nd rfl (Or.inl rfl) (pe_f (c__law_letters_of T) (takes_of rfl rfl rfl rfl) hr (by decide) rfl (pa_cons (pv 0) (pa_cons (pe_op op_add pe_int (pe_f (c__law_pick T) (takes_of rfl rfl rfl rfl) hr (by decide) rfl (pa_cons (pv 0) (pa_cons pe_int pa_nil)))) pa_nil))))
 (pss_cons (ps_set (i := 6) sc__law_names_of.nd rfl (Or.inl rfl) (pv 5))
 (pss_cons (ps_for (passes_of rfl) rfl (pi_range1 (by rfl) T.n_range (pa_cons pe_int pa_nil)) (pg_name (i := 7) sc__law_names_of.nd rfl (Or.inl rfl))
 (pss_cons (ps_if (pt_cmpR op_notIn_seq (pv 6) (pv 2) (by rfl))
 (pss_one ps_break)
 pss_nil)
 (pss_one (ps_set (i := 6) sc__law_names_of.nd rfl (Or.inl rfl) (pe_op op_add_str (pe_op op_add_str (pe_op op_add_str (pe_slice C8.sl_txt (pv 5) po_none (po_some pe_int)) (pe_op op_repS pe_str (pe_op op_add (pv 7) pe_int))) (pe_ix ix_str (pv 3) (pe_op op_mod (pe_callTy call_int1 (by rfl) T.n_int (by decide +kernel) (pa_cons (pv 4) pa_nil)) pe_int) (fun _ _ => rfl))) (pe_ix ix_str (pv 3) (pe_op op_mod (pe_callTy call_int1 (by rfl) T.n_int (by decide +kernel) (pa_cons (pe_op op_fdiv (pv 4) pe_int) pa_nil)) pe_int) (fun _ _ => rfl)))))))
 (pss_one (ps_expr (pe_bm PySem.F.plainAttrs_list PySem.F.slot_list_append PySem.F.type_list_append mt_append (pv 2) (pa_cons (pv 6) pa_nil))))))))
 (pss_one (ps_ret (pe_slice sl_list (pv 2) (po_some (pe_callB call_len_seq (by rfl) T.n_len (by decide +kernel) (pa_cons (pe_f0 (c__law_words_of T) hr (by decide) rfl) pa_nil))) po_none))))))), ?_⟩
    refine ⟨rfl, fun L hL => ?_⟩
    have nLb : ¬ L = b := fun z => (memB K b).there hB z hL
    have s0 : Sb b F H F (upd H L (.lst (tsL wordL))) := (Stm.refl hf).raw hL hL
    have B0 : Bag K b F (upd H L (.lst (tsL wordL))) := (memB K b).put hB nLb
    have fL : F L = none := hf.free hL
    refine ⟨_, rfl, many, rfl, by omega, by omega, ?_⟩
    refine for_range (lo := 0) (n := many.toNat) (fun i σ' H' => ∃ F' ns c4 c5 c6 c7, σ' = [some (.ref b), some (.int many), some (.ref L), some (.str "abcdefghijklmnopqrstuvwxyz"), c4, c5, c6, c7] ∧ Sb b F H F' H' ∧ Bag K b F' H' ∧ F' L = none ∧ H' L = some (.lst (tsL (wordL ++ ns))) ∧ ns.length = i ∧ Sof ns) ?_ ?_ ?_
    · exact ⟨F, [], none, none, none, none, rfl, s0, B0, fL, by rw [upd_same, List.append_nil], rfl, ⟨by simp, fun n h => by (cases h), fun i n h => by simp at h⟩⟩
    · rintro i _ H1 hi ⟨F1, ns, c4, c5, c6, c7, rfl, s1, B1, f1, h1, hn, sof⟩
      refine ⟨_, rfl, _, rfl, F1, b, _, rfl, B1, s1.fh, by decide, sz_of 3 (by decide) (by decide), fun H2 x s2 B2 x0 x1 => ?_⟩
      refine ⟨_, _, rfl, rfl, F1, b, _, rfl, B2, s2.fh, by omega, by omega, fun F3 H3 d s3 B3 hd hlt => ?_⟩
      have h2 : H2 L = some (.lst (tsL (wordL ++ ns))) := s2.hh L _ nLb h1
      have h3 : H3 L = some (.lst (tsL (wordL ++ ns))) := s3.hh L _ nLb h2
      have f3 : F3 L = none := s3.nw L f1 (by rw [h2]; exact fun z => nomatch z)
      have s3 := seqB s1 B1 (seqB s2 B2 s3)
      have d6 : d.length ≤ 6 := by omega
      have d0 : d ≠ [] := fun z => by rw [z] at hd; simp at hd; omega
      refine ⟨_, rfl, ?_⟩
      refine seq_with (fun σ' H' => ([some (V.ref b), some (.int many), some (.ref L), some (.str "abcdefghijklmnopqrstuvwxyz"), some (.int (0 + (i : Int))), some (.str (S d)), some (.str (S d)), c7] : List (Option V)) = σ' ∧ H3 = H') (fun u hu => hu _ _ ⟨rfl, rfl⟩) ?_
      rintro _ _ ⟨rfl, rfl⟩
      refine seq_with (fun σ' H' => ∃ n c7, ([some (V.ref b), some (.int many), some (.ref L), some (.str "abcdefghijklmnopqrstuvwxyz"), some (.int (0 + (i : Int))), some (.str (S d)), some (.str (S n)), c7] : List (Option V)) = σ' ∧ H3 = H' ∧ n ∉ wordL ++ ns ∧ Nm8 n ∧ Al6 n i) (fun u hu => ?_) ?_
      · refine ⟨9, rfl, by decide, by decide, ?_⟩
        have five : ∀ j, (∀ l, l < j → nth d i l ∈ wordL ++ ns) → j ≤ 4 := fun j hj => by
          rcases Nat.lt_or_ge 4 j with h | h
          · exact absurd (hj 4 h) (fifth d0 sof.al hn)
          · exact h
        refine for_range (lo := 0) (n := 9) (fun j σ' H' => ∃ c7, ([some (V.ref b), some (.int many), some (.ref L), some (.str "abcdefghijklmnopqrstuvwxyz"), some (.int (0 + (i : Int))), some (.str (S d)), some (.str (S (nth d i j))), c7] : List (Option V)) = σ' ∧ H3 = H' ∧ ∀ l, l < j → nth d i l ∈ wordL ++ ns) ?_ ?_ ?_
        · exact ⟨c7, rfl, rfl, fun l hl => absurd hl (Nat.not_lt_zero _)⟩
        · rintro j _ _ hj ⟨c7, rfl, rfl, hl⟩
          refine ⟨_, rfl, _, rfl, L, tsL (wordL ++ ns), rfl, .inl (SqL.of h3), rfl, flat_ts _, _, rfl, ?_⟩
          rw [if_pos rfl, inV_ts]
          have j4 := five j hl
          by_cases hm : nth d i j ∈ wordL ++ ns
          · refine iteN (by rw [decide_eq_true hm]; decide) ?_
            have j3 : j + 1 ≤ 4 := five (j + 1) fun l h => by
              rcases Nat.lt_or_ge l j with q | q
              · exact hl l q
              · rw [show l = j by omega]; exact hm
            have dl : (d.take 2).length ≤ 2 := by rw [List.length_take]; omega
            refine ⟨_, rfl, _, rfl, _, rfl, by rw [SX.S_len, sizeLine_eq]; omega, ?_⟩
            rw [SX.slice_to (by decide), show (2 : Int).toNat = 2 from rfl]
            refine ⟨_, rfl, _, _, rfl, rfl, [122], _, (congrArg V.str ez), rfl, by omega, by omega, by simp, by simp, ?_⟩
            refine ⟨_, _, rfl, rfl, by rw [SX.S_len, SX.S_len, rep_len, sizeLine_eq]; simp; omega, ?_⟩
            refine ⟨_, rfl, _, rfl, .inl ⟨_, rfl, _, _, rfl, rfl, (by decide : (0 : Int) < 26), ?_⟩⟩
            refine ⟨_, _, _, rfl, rfl, by decide +kernel, letter_i (Int.emod_nonneg _ (by decide)) (Int.emod_lt_of_pos _ (by decide)), ?_⟩
            refine ⟨_, _, rfl, rfl, ?_, ?_⟩
            · rw [PySem.Str.length_append, SX.S_len, SX.S_len, rep_len, sizeLine_eq]; show _ + 1 ≤ _; simp; omega
            refine ⟨_, rfl, _, rfl, _, _, rfl, rfl, ⟨by decide, by decide⟩, .inl ⟨_, rfl, _, _, rfl, rfl, (by decide : (0 : Int) < 26), ?_⟩⟩
            refine ⟨_, _, _, rfl, rfl, by decide +kernel, letter_i (Int.emod_nonneg _ (by decide)) (Int.emod_lt_of_pos _ (by decide)), ?_⟩
            refine ⟨_, _, rfl, rfl, ?_, ?_⟩
            · rw [PySem.Str.length_append, PySem.Str.length_append, SX.S_len, SX.S_len, rep_len, sizeLine_eq]; show _ + 1 + 1 ≤ _; simp; omega
            refine ⟨some (.int (0 + (j : Int))), ?_, rfl, fun l h => ?_⟩
            · have e1 : (S (d.take 2) ++ S (rep ((0 + (j : Int)) + 1).toNat [122]) ++ (⟨#[97 + ((0 + (i : Int)) % 26).toNat]⟩ : Str) ++ (⟨#[97 + ((0 + (i : Int)) / 26 % 26).toNat]⟩ : Str)) = S (nth d i (j + 1)) := by
                have x1 : ((0 + (i : Int)) % 26).toNat = i := by omega
                have x2 : ((0 + (i : Int)) / 26 % 26).toNat = 0 := by omega
                have x3 : ((0 + (j : Int)) + 1).toNat = j + 1 := by omega
                rw [x1, x2, x3]
                show S (d.take 2) ++ S (rep (j + 1) [122]) ++ S [97 + i] ++ S [97] = S (alt d i j)
                rw [SX.S_cat, SX.S_cat, SX.S_cat]
                have er : rep (j + 1) [122] = List.replicate (j + 1) 122 := List.flatten_replicate_singleton
                rw [er]
                rfl
              exact congrArg (fun x => ([some (V.ref b), some (.int many), some (.ref L), some (.str "abcdefghijklmnopqrstuvwxyz"), some (.int (0 + (i : Int))), some (.str (S d)), some (.str x), some (.int (0 + (j : Int)))] : List (Option V))) e1.symm
            · rcases Nat.lt_or_ge l j with q | q
              · exact hl l q
              · rw [show l = j by omega]; exact hm
          · refine iteY (by rw [decide_eq_false hm]; rfl) ?_
            obtain ⟨g1, g2⟩ := nth_nm hlt d0 d6 (k := i) (by omega) j4
            exact hu _ _ ⟨_, _, rfl, rfl, hm, g1, g2⟩
        · rintro _ _ ⟨c7, rfl, rfl, hl⟩
          exact absurd (five 9 hl) (by decide)
      rintro _ _ ⟨n, c7', rfl, rfl, hm, g1, g2⟩
      refine ⟨_, rfl, .inl ⟨rfl, _, SqL.of h3⟩, _, rfl, L, _, _, rfl, rfl, h3, ?_, ?_⟩
      · rw [tsL_len, List.length_append, sizeLine_eq, wordL_len]; omega
      · refine ⟨F3, ns ++ [n], _, _, _, _, rfl, s3.mut f3 hL, (memB K b).put B3 nLb, f3, ?_, by simp [hn], sof.snoc g1 (by rw [hn]; exact g2) hm⟩
        rw [upd_same, ← List.append_assoc, tsL_app (wordL ++ ns)]
        rfl
    · rintro _ H1 ⟨F1, ns, c4, c5, c6, c7, rfl, s1, B1, f1, h1, hn, sof⟩
      refine ⟨_, rfl, rfl, fun p hp => ?_⟩
      obtain ⟨s2, B2⟩ := newB (o := .lst (tsL wordL)) s1 B1 hp
      have nLp : L ≠ p := fun z => by rw [z, hp] at h1; cases h1
      refine ⟨p, _, rfl, .inl (SqL.of upd_same), _, rfl, L, _, rfl, SqL.of (by rw [upd_ne nLp]; exact h1), fun q hq => ?_⟩
      have nqb : ¬ q = b := fun z => (memB K b).there B2 z hq
      have h0q : H q = none := s2.fresh (fun x z => (memB K b).there B2 z) hq
      have s3 := s2.raw (o := .lst (tsL ns)) hq h0q
      have B3 : Bag K b _ (upd _ q (.lst (tsL ns))) := (memB K b).put B2 nqb
      have ec : cutV (tsL (wordL ++ ns)) (some ((tsL wordL).length : Int)) none = tsL ns := by
        rw [cut_from _ (by rw [tsL_len, tsL_len, List.length_append]; omega), tsL_app, List.drop_left]
      rw [ec]
      exact k _ _ q ns s3 B3 (s2.fh.free hq) h0q nqb upd_same hn sof.nams
end
end K09

set_option Elab.async false
set_option linter.all false
set_option maxRecDepth 100000
set_option maxHeartbeats 4000000
namespace K09
open PySem PySem.Spec PyProof.Rows L2 Ew
open SX (S)
/-! ### figures -/
def isFig (c : Nat) : Bool := decide (48 ≤ c) && decide (c ≤ 57)
theorem fig_mem (c : Nat) : decide (c ∈ [48, 49, 50, 51, 52, 53, 54, 55, 56, 57]) = isFig c := by
  unfold isFig
  by_cases h : c ∈ [48, 49, 50, 51, 52, 53, 54, 55, 56, 57]
  · rw [decide_eq_true h]
    simp at h
    rw [decide_eq_true (by omega : 48 ≤ c), decide_eq_true (by omega : c ≤ 57)]
    rfl
  · rw [decide_eq_false h]
    simp at h
    by_cases h1 : 48 ≤ c
    · rw [decide_eq_true h1, decide_eq_false (by omega : ¬ c ≤ 57)]
      rfl
    · rw [decide_eq_false h1]
      rfl
theorem fig_in (c : Nat) : (!(Builtin.Str.occurrences ("0123456789" : Str) ⟨#[c]⟩ 0 ("0123456789" : Str).length 1).isEmpty) = isFig c := by
  have e : ("0123456789" : Str) = S [48, 49, 50, 51, 52, 53, 54, 55, 56, 57] := by decide +kernel
  rw [e]
  exact (SX.in_one _ c).trans (fig_mem c)
def isDig (n : Nat) (L : List Nat) : Bool := decide (1 ≤ L.length) && (decide (L.length ≤ n) && (!decide (L.head? = some 48) && L.all isFig))
theorem S_at {L : List Nat} {i : Nat} {c : Nat} (h : L[i]? = some c) : atI (S L).cps.toList (i : Int) = some c := atI_nat h
section
variable {P : Program} {w : World} {K : PySem.W.Frag} {mg : Str → Option Value} {base : Heap} {a : Ad}
def sp__is_digits : Sp := fun vs H Q _ => ∃ (F : Hp) (L : List Nat) (n : Nat), vs = [.str (S L), .int (n : Nat)] ∧ L.length ≤ 100000 ∧ Pu F H Q fun _ v => v = .bl (isDig n L)
theorem c__is_digits (T : Txt K mg w a) : Cl P w K mg base 1 "_is_digits" P__is_digits sp__is_digits [] :=
  T.d__is_digits.cl sc__is_digits (fun vs H Q E h => by obtain ⟨F, L, n, rfl, _⟩ := h; rfl) fun f cdv A outer s H vs Q E hr h => by
    obtain ⟨F, L, n, rfl, hl, hf, k⟩ := h
    have sl : (S L).length = L.length := SX.S_len L
    refine ⟨_, ((pss_cons (ps_if (PW.pt (pw_or (pt_not (pt_chain op_le op_le pe_int (pe_callB call_len_str (by rfl) T.n_len (by decide +kernel) (pa_cons (pv 0) pa_nil)) (pv 1))) (pw_or1 (pt_cmpR op_eq (pe_ix ix_str (pv 0) pe_int (fun _ _ => rfl)) pe_str (nomark _)))))
 (pss_one (ps_ret pe_bl))
 pss_nil)
 (pss_one (ps_ret (pe_callB (cr_all rfl) (by rfl) T.n_all (by decide +kernel) (pa_cons (pe_lc (own := [("sign", 2)]) (g := (gName 2)) (by rfl) sc__is_digits.nd (pi_str (pv 0)) (blkOk_by (own := [("sign", 2)]) (N := N__is_digits) (sc := defScope s__is_digits) (by decide +kernel)) (fun _ _ _ _ _ => (pg_name (i := 2) sc__is_digits.nd rfl (Or.inl rfl) (hf := .inr rfl))) (fun _ _ _ _ _ => pts_nil) (fun _ _ _ _ _ => (pe_cmpR op_in_str (pv 2) (pe_glob (by rfl) T.k_DIGITS_ratios ⟨_, rfl⟩ (v := .str "0123456789")) (by rfl)))) pa_nil)))))), ?_⟩
    refine ⟨_, rfl, S L, rfl, by rw [sl, sizeLine_eq]; omega, _, _, rfl, rfl, _, rfl, ?_⟩
    rw [sl]
    by_cases h1 : 1 ≤ L.length
    · refine iteY (decide_eq_true (by omega)) ⟨_, rfl, _, _, rfl, rfl, _, rfl, ?_⟩
      by_cases h2 : L.length ≤ n
      · rw [decide_eq_true (by omega : (L.length : Int) ≤ (n : Int))]
        refine iteF ?_
        obtain ⟨c, r, rfl⟩ : ∃ c r, L = c :: r := by
          cases L with
          | nil => simp at h1
          | cons c r => exact ⟨c, r, rfl⟩
        refine ⟨_, rfl, S (c :: r), _, c, rfl, rfl, by rw [sl, sizeLine_eq]; omega, S_at (i := 0) rfl, rfl, _, rfl, ?_⟩
        have e0 : decide (V.str ⟨#[c]⟩ = V.str ("0" : Str)) = decide ((c :: r).head? = some 48) := by
          have e : ("0" : Str) = ⟨#[48]⟩ := by decide +kernel
          rw [e]
          by_cases h : c = 48
          · subst h; simp
          · simp [h]
        rw [e0]
        cases e : decide ((c :: r).head? = some 48) with
        | true =>
          refine iteT (k F H _ (.refl hf) ?_)
          unfold isDig
          rw [e]
          simp
        | false =>
          refine iteF ⟨_, rfl, S (c :: r), rfl, fun D hD => ?_⟩
          refine lcM memP walk_str hf trivial hD (fun i _ y => ∃ d, (c :: r)[i]? = some d ∧ y = V.bl (isFig d)) (fun _ _ _ _ _ z => z) (by show (c :: r).length ≤ _; omega) (fun F' H' e1 e2 => trivial) ?_ ?_
          · rintro i x F' H' H'' Kt Kn hi s1 _ ⟨rfl, d, hd, rfl⟩ kk
            refine ⟨rfl, lc_yes ⟨_, rfl, _, _, rfl, rfl, ?_⟩⟩
            rw [fig_in]
            exact kk _ _ _ (.refl s1.fh) trivial ⟨d, by simpa using hd, rfl⟩
          · intro F' H' ys s1 _ hD' hy hr'
            have hy : ys.length = (c :: r).length := hy
            obtain rfl := map_of hy hr'
            refine ⟨D, (c :: r).map isFig, rfl, SqL.of (by rw [List.map_map]; exact s1.fh D _ hD'), ?_⟩
            refine k _ _ _ s1 ?_
            unfold isDig
            rw [e, List.all_map, decide_eq_true h1, decide_eq_true h2]
            rfl
      · rw [decide_eq_false (by omega : ¬ (L.length : Int) ≤ (n : Int))]
        refine iteT (k F H _ (.refl hf) ?_)
        unfold isDig
        rw [decide_eq_false h2]
        simp
    · refine iteN (by rw [decide_eq_false (by omega)]; exact fun z => nomatch z) ⟨_, rfl, ?_⟩
      refine iteT (k F H _ (.refl hf) ?_)
      unfold isDig
      rw [decide_eq_false h1]
      rfl
end
end K09

set_option Elab.async false
set_option linter.all false
set_option maxRecDepth 100000
set_option maxHeartbeats 4000000
namespace K09
open PySem PySem.Spec PyProof.Rows L2 Ew
open SX (S)
theorem S_dec (L M : List Nat) : decide (V.str (S L) = V.str (S M)) = decide (L = M) := by
  by_cases h : L = M
  · subst h; simp
  · rw [decide_eq_false h, decide_eq_false]
    intro z
    exact h (SX.S_inj (V.str.inj z))
def dropNeg : List Nat → List Nat
  | 45 :: r => r
  | l => l
theorem rmp (L : List Nat) : Txt.removeprefix (S L) "-" = S (dropNeg L) := by
  have e : ("-" : Str) = S [45] := by decide +kernel
  rw [e, StrLaws.removeprefix_eq, StrLaws.subAt_eq, SX.S_len, SX.S_len]
  cases L with
  | nil => rfl
  | cons c r =>
    have t : ((S (c :: r)).cps.toList.drop 0).take [45].length = [c] := rfl
    have u : (S [45]).cps.toList = [45] := rfl
    rw [t, u]
    by_cases h : c = 45
    · subst h
      rw [if_pos (by simp)]
      show S (((45 :: r).drop 1).take ((45 :: r).length - 1)) = S r
      simp
    · rw [if_neg (by simp [h])]
      have : dropNeg (c :: r) = c :: r := by
        unfold dropNeg
        split
        · rename_i h2; injection h2 with h3 _; exact absurd h3 h
        · rfl
      rw [this]
def isDv (L : List Nat) : Bool := isDig 400 L && !decide (L = [49])
def isWh (n : Nat) (L : List Nat) : Bool := decide (L = [48]) || isDig n (dropNeg L)
section
variable {P : Program} {w : World} {K : PySem.W.Frag} {mg : Str → Option Value} {base : Heap} {a : Ad}
theorem c__is_divisor (T : Txt K mg w a) : Cl P w K mg base 2 "_is_divisor" P__is_divisor (fun vs H Q _ => ∃ (F : Hp) (L : List Nat), vs = [.str (S L)] ∧ L.length ≤ 100000 ∧ Pu F H Q fun _ v => v = .bl (isDv L)) [] :=
  T.d__is_divisor.cl sc__is_divisor (fun vs H Q E h => by obtain ⟨F, L, rfl, _⟩ := h; rfl) fun f cdv A outer s H vs Q E hr h => by
    obtain ⟨F, L, rfl, hl, hf, k⟩ := h
    refine ⟨_, ((pss_one (ps_ret (pe_and (pe_f (c__is_digits T) (takes_of rfl rfl rfl rfl) hr (by decide) rfl (pa_cons (pv 0) (pa_cons (pe_glob (by rfl) T.k_LONGEST_ratios ⟨_, rfl⟩ (v := .int 400)) pa_nil))) (pe_one (pe_cmpR op_ne (pv 0) pe_str (nomark _))))))), ?_⟩
    refine ⟨_, rfl, F, L, 400, rfl, hl, hf, fun F1 H1 v s1 e => ⟨_, e, ?_⟩⟩
    unfold isDv at k
    cases d : isDig 400 L with
    | false => exact iteF (k F1 H1 _ s1 (by rw [d]; rfl))
    | true =>
      refine iteT ⟨_, rfl, rfl, ?_⟩
      have e1 : ("1" : Str) = S [49] := by decide +kernel
      rw [e1, S_dec]
      exact k F1 H1 _ s1 (by rw [d]; rfl)
theorem c_is_whole (T : Txt K mg w a) : Cl P w K mg base 2 "is_whole" P_is_whole (fun vs H Q _ => ∃ (F : Hp) (L : List Nat) (n : Nat), vs = [.str (S L), .int (n : Nat)] ∧ L.length ≤ 100000 ∧ Pu F H Q fun _ v => v = .bl (isWh n L)) [] :=
  T.d_is_whole.cl sc_is_whole (fun vs H Q E h => by obtain ⟨F, L, n, rfl, _⟩ := h; rfl) fun f cdv A outer s H vs Q E hr h => by
    obtain ⟨F, L, n, rfl, hl, hf, k⟩ := h
    refine ⟨_, ((pss_cons (ps_if (pt_cmpR op_eq (pv 0) pe_str (nomark _))
 (pss_one (ps_ret pe_bl))
 pss_nil)
 (pss_one (ps_ret (pe_f (c__is_digits T) (takes_of rfl rfl rfl rfl) hr (by decide) rfl (pa_cons (pe_m1 PySem.F.slot_str_removeprefix PySem.F.type_str_removeprefix mt_removeprefix (pv 0) pe_str) (pa_cons (pv 1) pa_nil))))))), ?_⟩
    refine ⟨_, rfl, rfl, _, rfl, ?_⟩
    have e0 : ("0" : Str) = S [48] := by decide +kernel
    rw [e0, S_dec]
    unfold isWh at k
    cases d : decide (L = [48]) with
    | true => exact iteT (k F H _ (.refl hf) (by rw [d]; rfl))
    | false =>
      refine iteF ⟨_, rfl, ⟨_, rfl⟩, _, _, rfl, rfl, by rw [SX.S_len, sizeLine_eq]; omega, ?_⟩
      rw [rmp]
      have dl : (dropNeg L).length ≤ L.length := by
        unfold dropNeg
        split
        · simp
        · exact Nat.le_refl _
      exact ⟨_, rfl, F, dropNeg L, n, rfl, by omega, hf, fun F1 H1 v s1 e => k F1 H1 v s1 (by rw [e, d]; rfl)⟩
theorem txt_len {i : Int} (h : i.natAbs.log2 < 1920) : (Str.ofString (toString i)).length ≤ 1921 := by
  rw [PySem.ofString_length]
  exact int_text_length_le (k := 1920) (by decide) h
/-! ### a ratio as a text -/
def sp_write_ratio (K : PySem.W.Frag) : Sp := fun vs H Q _ => ∃ (u : V) (r : Int × Int), vs = [u] ∧ Rt K H u r ∧ r.1.natAbs.log2 < 1920 ∧ r.2.natAbs.log2 < 1920 ∧ Q (.str (if r.2 = 1 then Str.ofString (toString r.1) else Str.empty ++ Str.ofString (toString r.1) ++ "/" ++ Str.ofString (toString r.2))) H
theorem c_write_ratio (T : Txt K mg w a) : Cl P w K mg base 1 "write_ratio" P_write_ratio (sp_write_ratio K) [] :=
  T.d_write_ratio.cl sc_write_ratio (fun vs H Q E h => by obtain ⟨F, L, rfl, _⟩ := h; rfl) fun f cdv A outer s H vs Q E hr h => by
    obtain ⟨u, r, rfl, ⟨p, rfl, hp⟩, z1, z2, k⟩ := h
    refine ⟨_, ((pss_cons (ps_asg (pv 0) (pg_tup rfl (pgs_cons (pg_name (i := 1) sc_write_ratio.nd rfl (Or.inl rfl)) (pgs_cons (pg_name (i := 2) sc_write_ratio.nd rfl (Or.inl rfl)) pgs_nil))))
 (pss_one (ps_ret (pe_ifExp (pt_cmpR op_eq (pv 2) pe_int (nomark _)) (pe_callTy call_str_int (by rfl) T.n_str (by decide +kernel) (pa_cons (pv 1) pa_nil)) (pe_joined (.cons (pe_fmt (pv 1)) (.cons pe_str (.cons (pe_fmt (pv 2)) .nil))))))))), ?_⟩
    refine ⟨_, rfl, p, _, rfl, hp, rfl, _, _, rfl, _, _, rfl, rfl, ?_⟩
    refine ⟨_, rfl, rfl, _, rfl, ?_⟩
    by_cases h : r.2 = 1
    · rw [if_pos h] at k
      exact iteY (vint_eq h) ⟨_, rfl, _, rfl, z1, k⟩
    · rw [if_neg h] at k
      refine iteN (vint_ne h) ⟨_, rfl, .inr ⟨_, rfl, z1, _, rfl, ?_, _, rfl, ?_, _, rfl, .inr ⟨_, rfl, z2, _, rfl, ?_, k⟩⟩⟩
      · rw [PySem.Str.length_append, sizeLine_eq]; have := txt_len z1; show 0 + _ ≤ _; omega
      · rw [PySem.Str.length_append, PySem.Str.length_append, sizeLine_eq]; have := txt_len z1; show 0 + _ + 1 ≤ _; omega
      · rw [PySem.Str.length_append, PySem.Str.length_append, PySem.Str.length_append, sizeLine_eq]; have := txt_len z1; have := txt_len z2; show 0 + _ + 1 + _ ≤ _; omega
end
end K09

set_option Elab.async false
set_option linter.all false
set_option maxRecDepth 100000
set_option maxHeartbeats 4000000
namespace K09
open PySem PySem.Spec PyProof.Rows L2 Ew
open SX (S)
open NumText (digitsVal AllDigits)
def cut (L : List Nat) : List Nat × Option (List Nat) := match TL.par [47] [] L with | some (p, q) => (p, some q) | none => (L, none)
def wholeVal : List Nat → Int
  | 45 :: r => -((digitsVal r : Nat) : Int)
  | l => ((digitsVal l : Nat) : Int)
/-- what a text of a ratio is worth -/
def rdVal (L : List Nat) : Option (Int × Int) :=
  if isWh 400 (cut L).1 = true then
    match (cut L).2 with
    | none => some (wholeVal (cut L).1, 1)
    | some v => if (isDv v && (decide (1 ≤ ((digitsVal v : Nat) : Int)) && decide (Nat.gcd (wholeVal (cut L).1).natAbs ((digitsVal v : Nat) : Int).natAbs = 1))) = true then some (wholeVal (cut L).1, ((digitsVal v : Nat) : Int)) else none
  else none
theorem dig_parts {L : List Nat} (h : isDig 400 L = true) : 1 ≤ L.length ∧ L.length ≤ 400 ∧ L.head? ≠ some 48 ∧ AllDigits L := by
  unfold isDig at h
  rw [Bool.and_eq_true, Bool.and_eq_true, Bool.and_eq_true] at h
  obtain ⟨h1, h2, h3, h4⟩ := h
  refine ⟨of_decide_eq_true h1, of_decide_eq_true h2, ?_, fun c hc => ?_⟩
  · intro z
    rw [decide_eq_true z] at h3
    cases h3
  · have := List.all_eq_true.mp h4 c hc
    unfold isFig at this
    rw [Bool.and_eq_true] at this
    exact ⟨of_decide_eq_true this.1, of_decide_eq_true this.2⟩
theorem dig_all {L : List Nat} (h : AllDigits L) : L.all (fun c => decide (48 ≤ c) && decide (c ≤ 57)) = true := by
  rw [List.all_eq_true]
  intro c hc
  have := h c hc
  rw [decide_eq_true this.1, decide_eq_true this.2]
  rfl
theorem int_dig {L : List Nat} (h : isDig 400 L = true) : intText? (S L) = some ((digitsVal L : Nat) : Int) := by
  obtain ⟨h1, h2, h3, h4⟩ := dig_parts h
  exact SX.int_S (dig_all h4) (fun z => by rw [z] at h1; simp at h1) (by omega)
theorem wh_len {L : List Nat} (h : isWh 400 L = true) : L.length ≤ 401 := by
  unfold isWh at h
  rw [Bool.or_eq_true] at h
  rcases h with h | h
  · rw [of_decide_eq_true h]; decide
  · obtain ⟨h1, h2, _⟩ := dig_parts h
    unfold dropNeg at h2
    split at h2
    · rw [List.length_cons]; omega
    · omega
theorem int_wh {L : List Nat} (h : isWh 400 L = true) : intText? (S L) = some (wholeVal L) := by
  have hl := wh_len h
  unfold isWh at h
  rw [Bool.or_eq_true] at h
  rcases h with h | h
  · rw [of_decide_eq_true h]
    exact SX.int_S (by decide) (by decide) (by decide)
  · unfold dropNeg at h
    split at h
    · rename_i r
      obtain ⟨h1, h2, h3, h4⟩ := dig_parts h
      exact PySem.intText_neg (x := S (45 :: r)) rfl h4 (fun z => by rw [z] at h1; simp at h1) (by rw [SX.S_len]; omega)
    · rename_i hne
      rw [int_dig h]
      unfold wholeVal
      split
      · rename_i r
        exact absurd rfl (hne r)
      · rfl
theorem slash_cases : ∀ L : List Nat, 47 ∉ L ∨ ∃ u q, L = u ++ ([47] ++ q) ∧ 47 ∉ u
  | [] => .inl (by simp)
  | c :: L => by
    by_cases h : c = 47
    · subst h
      exact .inr ⟨[], L, rfl, by simp⟩
    · rcases slash_cases L with k | ⟨u, q, k, n⟩
      · exact .inl (by simp; exact ⟨fun z => h z.symm, k⟩)
      · exact .inr ⟨c :: u, q, by rw [k]; rfl, by simp; exact ⟨fun z => h z.symm, n⟩⟩
theorem cut_no {L : List Nat} (h : 47 ∉ L) : cut L = (L, none) := by
  unfold cut
  rw [SX.par_head_none h]
theorem cut_yes {u q : List Nat} (h : 47 ∉ u) : cut (u ++ ([47] ++ q)) = (u, some q) := by
  unfold cut
  rw [SX.par_head q h]
theorem par_len {L u q : List Nat} (h : TL.par [47] [] L = some (u, q)) : L.length = u.length + (1 + q.length) := by
  rcases slash_cases L with k | ⟨u', q', rfl, n⟩
  · rw [SX.par_head_none k] at h
    cases h
  · rw [SX.par_head q' n] at h
    cases h
    simp
    omega
section
variable {P : Program} {w : World} {K : PySem.W.Frag} {mg : Str → Option Value} {base : Heap} {a : Ad}
def sp_read_ratio (K : PySem.W.Frag) (a : Ad) : Sp := fun vs H Q E => ∃ (F : Hp) (v : V), vs = [v] ∧ Same F H ∧
  ((∃ L, v = .str (S L) ∧ L.length ≤ 100000 ∧ (∀ r, rdVal L = some r → ∀ F' H' z, Stp F H F' H' → Rt K F' z r → Q z H') ∧ (rdVal L = none → Ra F H E a.BadRatio fun F' d => F' d = some (.xd [("text", v)]))) ∨
   ∃ t, TyX K H v t ∧ PySem.W.kitOne K t (.type "str") = some false ∧ Ra F H E a.BadRatio fun F' d => F' d = some (.xd [("text", v)]))
theorem c_read_ratio (T : Txt K mg w a) : Cl P w K mg base 3 "read_ratio" P_read_ratio (sp_read_ratio K a) [] :=
  T.d_read_ratio.cl sc_read_ratio (fun vs H Q E h => by obtain ⟨F, v, rfl, _⟩ := h; rfl) fun f cdv A outer s H vs Q E hr h => by
    obtain ⟨F, v, rfl, hf, h⟩ := h
    refine ⟨_, ((pss_cons (ps_if (pt_not (pt_val (pe_callB call_isi (by rfl) T.n_isinstance (by decide +kernel) (pa_cons (pv 0) (pa_cons (pe_bltn (v := .ty "str") (by rfl) T.n_str (by decide +kernel) rfl) pa_nil)))))
 (pss_one (ps_raise1 rfl (takes_of rfl rfl rfl rfl) (x_BadRatio T) hr (by decide) rfl (pv 0)))
 pss_nil)
 (pss_cons (ps_asg (pe_m1 PySem.F.slot_str_partition PySem.F.type_str_partition mt_partition (pv 0) pe_str) (pg_tup rfl (pgs_cons (pg_name (i := 1) sc_read_ratio.nd rfl (Or.inl rfl)) (pgs_cons (pg_name (i := 2) sc_read_ratio.nd rfl (Or.inl rfl)) (pgs_cons (pg_name (i := 3) sc_read_ratio.nd rfl (Or.inl rfl)) pgs_nil)))))
 (pss_cons (ps_if (PW.pt (pw_or (pt_not (pt_val (pe_f (c_is_whole T) (takes_of rfl rfl rfl rfl) hr (by decide) rfl (pa_cons (pv 1) (pa_cons (pe_glob (by rfl) T.k_LONGEST_ratios ⟨_, rfl⟩ (v := .int 400)) pa_nil))))) (pw_or1 (PW.pt (pw_and (pt_cmpR op_ne (pv 2) pe_str (nomark _)) (pw_and1 (pt_not (pt_val (pe_f (c__is_divisor T) (takes_of rfl rfl rfl rfl) hr (by decide) rfl (pa_cons (pv 3) pa_nil))))))))))
 (pss_one (ps_raise1 rfl (takes_of rfl rfl rfl rfl) (x_BadRatio T) hr (by decide) rfl (pv 0)))
 pss_nil)
 (pss_cons (ps_set (i := 4) sc_read_ratio.nd rfl (Or.inl rfl) (pe_tup (pa_cons (pe_callTy call_int_str (by rfl) T.n_int (by decide +kernel) (pa_cons (pv 1) pa_nil)) (pa_cons (pe_ifExp (pt_cmpR op_ne (pv 2) pe_str (nomark _)) (pe_callTy call_int_str (by rfl) T.n_int (by decide +kernel) (pa_cons (pv 3) pa_nil)) pe_int) pa_nil))))
 (pss_cons (ps_if (pt_not (pt_val (pe_f (c_is_ratio T) (takes_of rfl rfl rfl rfl) hr (by decide) rfl (pa_cons (pv 4) pa_nil))))
 (pss_one (ps_raise1 rfl (takes_of rfl rfl rfl rfl) (x_BadRatio T) hr (by decide) rfl (pv 0)))
 pss_nil)
 (pss_one (ps_ret (pv 4))))))))), ?_⟩
    rcases h with ⟨L, rfl, hl, k, kn⟩ | ⟨t, ht, hk, kn⟩
    · refine ⟨_, rfl, _, _, _, _, true, rfl, .ty _, .base (.str _), kit_ty (by decide +kernel), true, rfl, iteF ?_⟩
      refine ⟨_, rfl, ⟨_, rfl⟩, _, _, rfl, rfl, by decide +kernel, by rw [SX.S_len, sizeLine_eq]; omega, fun p hp => ?_⟩
      have e47 : ("/" : Str) = S [47] := by decide +kernel
      rcases hpar : TL.par [47] [] L with _ | ⟨u, q⟩
      · have hcut : cut L = (L, none) := by unfold cut; rw [hpar]
        have hpt : Txt.partition (S L) "/" = (S L, S [], S []) := by rw [e47]; exact SX.partition_none (by decide) hpar
        rw [hpt]
        have s1 := stp_new (o := .tup [.str (S L), .str (S []), .str (S [])]) hf hp
        refine ⟨p, _, rfl, sq_new, rfl, _, _, rfl, _, _, rfl, _, _, rfl, rfl, ?_⟩
        refine ⟨_, rfl, _, L, 400, rfl, hl, s1.fh, fun F2 H2 v2 s2 e2 => ⟨_, e2, ?_⟩⟩
        have s2 := s1.transP s2
        unfold rdVal at k kn
        rw [hcut] at k kn
        cases hw : isWh 400 L with
        | false =>
          refine iteT ⟨_, rfl, fun d hd => ?_⟩
          exact kn (by rw [hw]; rfl) _ _ d (s2.newP hd) upd_same
        | true =>
          have hll := wh_len hw
          refine iteF ⟨_, rfl, rfl, _, rfl, iteN (by show ¬ (!decide (V.str (S ([] : List Nat)) = V.str ("" : Str))) = true; decide +kernel) (iteF ?_)⟩
          refine ⟨_, rfl, _, _, rfl, int_wh hw, by rw [SX.S_len]; omega, _, rfl, rfl, _, rfl, iteN (by show ¬ (!decide (V.str (S ([] : List Nat)) = V.str ("" : Str))) = true; decide +kernel) ?_⟩
          refine ⟨by show 2 ≤ sizeLine; decide, fun q hq => ?_⟩
          have s3 := s2.newP (o := .tup [.int (wholeVal L), .int 1]) hq
          refine ⟨_, rfl, _, rfl, .inr (.inr (.inr (.inr ⟨wholeVal L, 1, ⟨q, rfl, sq_new⟩, true, ?_, iteF ?_⟩)))⟩
          · simp
          · exact ⟨_, rfl, k (wholeVal L, 1) (by rw [hw]; rfl) _ _ _ s3 ⟨q, rfl, sq_new⟩⟩
      · have hcut : cut L = (u, some q) := by unfold cut; rw [hpar]
        have hpt : Txt.partition (S L) "/" = (S u, S [47], S q) := by rw [e47]; exact SX.partition_some (by decide) hpar
        rw [hpt]
        have hlen : u.length ≤ 100000 ∧ q.length ≤ 100000 := by have := par_len hpar; omega
        have s1 := stp_new (o := .tup [.str (S u), .str (S [47]), .str (S q)]) hf hp
        refine ⟨p, _, rfl, sq_new, rfl, _, _, rfl, _, _, rfl, _, _, rfl, rfl, ?_⟩
        refine ⟨_, rfl, _, u, 400, rfl, hlen.1, s1.fh, fun F2 H2 v2 s2 e2 => ⟨_, e2, ?_⟩⟩
        have s2 := s1.transP s2
        unfold rdVal at k kn
        rw [hcut] at k kn
        dsimp only at k kn
        cases hw : isWh 400 u with
        | false =>
          refine iteT ⟨_, rfl, fun d hd => ?_⟩
          exact kn (by rw [hw]; rfl) _ _ d (s2.newP hd) upd_same
        | true =>
          have hll := wh_len hw
          rw [hw, if_pos rfl] at k kn
          refine iteF ⟨_, rfl, rfl, _, rfl, iteY (by show (!decide (V.str (S [47]) = V.str ("" : Str))) = true; decide +kernel) ?_⟩
          refine ⟨_, rfl, F2, q, rfl, hlen.2, s2.fh, fun F3 H3 v3 s3 e3 => ⟨_, e3, ?_⟩⟩
          have s3 := s2.transP s3
          cases hv : isDv q with
          | false =>
            refine iteT ⟨_, rfl, fun d hd => ?_⟩
            exact kn (by rw [hv]; rfl) _ _ d (s3.newP hd) upd_same
          | true =>
            have hd : isDig 400 q = true := by unfold isDv at hv; rw [Bool.and_eq_true] at hv; exact hv.1
            obtain ⟨_, d2, _⟩ := dig_parts hd
            rw [hv, Bool.true_and] at k kn
            refine iteF ?_
            refine ⟨_, rfl, _, _, rfl, int_wh hw, by rw [SX.S_len]; omega, _, rfl, rfl, _, rfl, iteY (by show (!decide (V.str (S [47]) = V.str ("" : Str))) = true; decide +kernel) ?_⟩
            refine ⟨_, rfl, _, _, rfl, int_dig hd, by rw [SX.S_len]; omega, by show 2 ≤ sizeLine; decide, fun x hx => ?_⟩
            have s4 := s3.newP (o := .tup [.int (wholeVal u), .int (digitsVal q : Nat)]) hx
            refine ⟨_, rfl, _, rfl, .inr (.inr (.inr (.inr ⟨wholeVal u, ((digitsVal q : Nat) : Int), ⟨x, rfl, sq_new⟩, _, rfl, ?_⟩)))⟩
            cases hc : (decide (1 ≤ ((digitsVal q : Nat) : Int)) && decide (Nat.gcd (wholeVal u).natAbs ((digitsVal q : Nat) : Int).natAbs = 1)) with
            | true =>
              refine iteF ⟨_, rfl, k (wholeVal u, ((digitsVal q : Nat) : Int)) (by rw [hc]; rfl) _ _ _ s4 ⟨x, rfl, sq_new⟩⟩
            | false =>
              refine iteT ⟨_, rfl, fun d hd => ?_⟩
              exact kn (by rw [hc]; rfl) _ _ d (s4.newP hd) upd_same
    · exact ⟨_, rfl, _, _, _, _, false, rfl, .ty _, ht, hk, false, rfl, iteT ⟨_, rfl, fun d hd => kn _ _ d (stp_new hf hd) upd_same⟩⟩
end
end K09

set_option Elab.async false
set_option linter.all false
set_option maxRecDepth 100000
set_option maxHeartbeats 4000000
namespace K09
open PySem PySem.Spec PyProof.Rows L2 Ew
open SX (S)
/-! ### names -/
def isLow (c : Nat) : Bool := decide (97 ≤ c) && decide (c ≤ 122)
theorem low_mem (c : Nat) : decide (c ∈ [97, 98, 99, 100, 101, 102, 103, 104, 105, 106, 107, 108, 109, 110, 111, 112, 113, 114, 115, 116, 117, 118, 119, 120, 121, 122]) = isLow c := by
  unfold isLow
  by_cases h : 97 ≤ c ∧ c ≤ 122
  · rw [decide_eq_true h.1, decide_eq_true h.2, decide_eq_true]
    · rfl
    · simp
      omega
  · rw [decide_eq_false (by simp; omega)]
    by_cases h1 : 97 ≤ c
    · rw [decide_eq_true h1, decide_eq_false (by omega : ¬ c ≤ 122)]
      rfl
    · rw [decide_eq_false h1]
      rfl
theorem low_in (c : Nat) : (!(Builtin.Str.occurrences ("abcdefghijklmnopqrstuvwxyz" : Str) ⟨#[c]⟩ 0 ("abcdefghijklmnopqrstuvwxyz" : Str).length 1).isEmpty) = isLow c := by
  have e : ("abcdefghijklmnopqrstuvwxyz" : Str) = S [97, 98, 99, 100, 101, 102, 103, 104, 105, 106, 107, 108, 109, 110, 111, 112, 113, 114, 115, 116, 117, 118, 119, 120, 121, 122] := by decide +kernel
  rw [e]
  exact (SX.in_one _ c).trans (low_mem c)
def isNm (L : List Nat) : Bool := decide (1 ≤ L.length) && (decide (L.length ≤ 12) && (L.all isLow && !decide (L ∈ wordL)))
section
variable {P : Program} {w : World} {K : PySem.W.Frag} {mg : Str → Option Value} {base : Heap} {a : Ad}
theorem words_at (T : Txt K mg w a) (H : Hp) : SqT K H a.aW (tsL wordL) := by
  refine Eq.mp (congrArg (SqT K H a.aW) ?_) (T.t_WORDS H)
  unfold tsL wordL
  rw [List.map_map]
  refine List.map_congr_left fun x hx => ?_
  simp only [List.mem_cons, List.not_mem_nil, or_false] at hx
  repeat (first
    | (rcases hx with rfl | hx; · exact congrArg V.str (by decide +kernel))
    | (subst hx; exact congrArg V.str (by decide +kernel)))
def sp_is_name (K : PySem.W.Frag) : Sp := fun vs H Q _ => ∃ (F : Hp) (v : V), vs = [v] ∧ Same F H ∧ ((∃ L, v = .str (S L) ∧ L.length ≤ 100000 ∧ ∀ F' H', Stp F H F' H' → Q (.bl (isNm L)) H') ∨ ∃ t, TyX K H v t ∧ PySem.W.kitOne K t (.type "str") = some false ∧ Q (.bl false) H)
theorem c_is_name (T : Txt K mg w a) : Cl P w K mg base 1 "is_name" P_is_name (sp_is_name K) [] :=
  T.d_is_name.cl sc_is_name (fun vs H Q E h => by obtain ⟨F, v, rfl, _⟩ := h; rfl) fun f cdv A outer s H vs Q E hr h => by
    obtain ⟨F, v, rfl, hf, h⟩ := h
    refine ⟨_, ((pss_cons (ps_if (PW.pt (pw_or (pt_not (pt_val (pe_callB call_isi (by rfl) T.n_isinstance (by decide +kernel) (pa_cons (pv 0) (pa_cons (pe_bltn (v := .ty "str") (by rfl) T.n_str (by decide +kernel) rfl) pa_nil))))) (pw_or1 (pt_not (pt_chain op_le op_le pe_int (pe_callB call_len_str (by rfl) T.n_len (by decide +kernel) (pa_cons (pv 0) pa_nil)) (pe_glob (by rfl) T.k_LONGEST_names ⟨_, rfl⟩ (v := .int 12)))))))
 (pss_one (ps_ret pe_bl))
 pss_nil)
 (pss_one (ps_ret (pe_and (pe_callB (cr_all rfl) (by rfl) T.n_all (by decide +kernel) (pa_cons (pe_lc (own := [("letter", 1)]) (g := (gName 1)) (by rfl) sc_is_name.nd (pi_str (pv 0)) (blkOk_by (own := [("letter", 1)]) (N := N_is_name) (sc := defScope s_is_name) (by decide +kernel)) (fun _ _ _ _ _ => (pg_name (i := 1) sc_is_name.nd rfl (Or.inl rfl) (hf := .inr rfl))) (fun _ _ _ _ _ => pts_nil) (fun _ _ _ _ _ => (pe_cmpR op_in_str (pv 1) (pe_glob (by rfl) T.k_LETTERS ⟨_, rfl⟩ (v := .str "abcdefghijklmnopqrstuvwxyz")) (by rfl)))) pa_nil)) (pe_one (pe_cmpR op_notIn_seq (pv 0) (pe_glob (by rfl) T.k_WORDS rfl (v := .ref a.aW)) (by rfl)))))))), ?_⟩
    rcases h with ⟨L, rfl, hl, k⟩ | ⟨t, ht, hk, k⟩
    · refine ⟨_, rfl, _, _, _, _, true, rfl, .ty _, .base (.str _), kit_ty (by decide +kernel), true, rfl, iteF ?_⟩
      have sl : (S L).length = L.length := SX.S_len L
      refine ⟨_, rfl, S L, rfl, by rw [sl, sizeLine_eq]; omega, _, _, rfl, rfl, _, rfl, ?_⟩
      rw [sl]
      by_cases h1 : 1 ≤ L.length
      · refine iteY (decide_eq_true (by omega)) ⟨_, _, rfl, rfl, _, rfl, ?_⟩
        by_cases h2 : L.length ≤ 12
        · rw [decide_eq_true (by omega : (L.length : Int) ≤ 12)]
          refine iteF ?_
          refine ⟨_, rfl, S L, rfl, fun D hD => ?_⟩
          refine lcM memP walk_str hf trivial hD (fun i _ y => ∃ d, L[i]? = some d ∧ y = V.bl (isLow d)) (fun _ _ _ _ _ z => z) (by show L.length ≤ _; omega) (fun F' H' e1 e2 => trivial) ?_ ?_
          · rintro i x F' H' H'' Kt Kn hi s1 _ ⟨rfl, d, hd, rfl⟩ kk
            refine ⟨rfl, lc_yes ⟨_, rfl, _, _, rfl, rfl, ?_⟩⟩
            rw [low_in]
            exact kk _ _ _ (.refl s1.fh) trivial ⟨d, by simpa using hd, rfl⟩
          · intro F' H' ys s1 _ hD' hy hr'
            have hy : ys.length = L.length := hy
            obtain rfl := map_of hy hr'
            refine ⟨D, L.map isLow, rfl, SqL.of (by rw [List.map_map]; exact s1.fh D _ hD'), ?_⟩
            have hall : (L.map isLow).all id = L.all isLow := by rw [List.all_map]; rfl
            rw [hall]
            refine ⟨_, rfl, ?_⟩
            cases c : L.all isLow with
            | false =>
              refine iteF ?_
              have e : isNm L = false := by unfold isNm; rw [c]; simp
              exact e ▸ k _ _ s1
            | true =>
              refine iteT ⟨_, rfl, a.aW, tsL wordL, rfl, .inr (words_at T H'), rfl, flat_ts _, ?_⟩
              rw [if_pos rfl, inV_ts]
              have e : isNm L = !decide (L ∈ wordL) := by unfold isNm; rw [c, decide_eq_true h1, decide_eq_true h2]; simp
              exact e ▸ k _ _ s1
        · rw [decide_eq_false (by omega : ¬ (L.length : Int) ≤ 12)]
          refine iteT ?_
          have e : isNm L = false := by unfold isNm; rw [decide_eq_false h2]; simp
          exact e ▸ k F H (.refl hf)
      · refine iteN (by rw [decide_eq_false (by omega)]; exact fun z => nomatch z) ⟨_, rfl, ?_⟩
        refine iteT ?_
        have e : isNm L = false := by unfold isNm; rw [decide_eq_false h1]; simp
        exact e ▸ k F H (.refl hf)
    · exact ⟨_, rfl, _, _, _, _, false, rfl, .ty _, ht, hk, false, rfl, iteT k⟩
end
end K09

set_option Elab.async false
set_option linter.all false
set_option maxRecDepth 100000
set_option maxHeartbeats 4000000
namespace K09
open PySem PySem.Spec PyProof.Rows L2 Ew
open SX (S)
theorem gn {i : Nat} {x : V} {σ : L2.St} {H : Hp} {R : L2.St → Hp → Prop} (h : R (σ.set i (some x)) H) : gName i x σ H R := h
theorem nxt {D : Ends} {σ : L2.St} {H : Hp} (h : D.nx σ H) : tNext D σ H := h
theorem seq_asg {te : TE} {g : TG} {u : TS} {D : Ends} {σ : L2.St} {H : Hp} (h : te σ H fun v H1 => g v σ H1 fun σ2 H2 => u D σ2 H2) : tSeq (tAsg te g) u D σ H := h
/-! ### expressions -/
inductive Op
  | plus | minus | times | over
  deriving DecidableEq
inductive Tr
  | amt (r : Int × Int) (u : List Nat)
  | siz (n : List Nat)
  | off (n : List Nat) (i : Int)
  | nam (n : List Nat)
  | bin (o : Op) (l r : Tr)
def Op.w : Op → Str
  | .plus => "plus" | .minus => "minus" | .times => "times" | .over => "over"
def Op.rk : Op → Nat
  | .plus => 1 | .minus => 1 | .times => 2 | .over => 2
/-- the sign's figure -/
def Op.sg : Op → Nat
  | .plus => 43 | .minus => 45 | .times => 42 | .over => 47
def Tr.w : Tr → Str
  | .amt _ _ => "amount" | .siz _ => "size" | .off _ _ => "offset" | .nam _ => "name" | .bin o _ _ => o.w
def Tr.rk : Tr → Nat
  | .bin o _ _ => o.rk | _ => 3
inductive TrV (K : PySem.W.Frag) (H : Hp) : V → Tr → Prop
  | amt {p : Addr} {q : V} {r : Int × Int} {u : List Nat} (h : SqT K H p [.str "amount", q, .str (S u)]) (hr : Rt K H q r) : TrV K H (.ref p) (.amt r u)
  | siz {p : Addr} {n : List Nat} (h : SqT K H p [.str "size", .str (S n)]) : TrV K H (.ref p) (.siz n)
  | off {p : Addr} {n : List Nat} {i : Int} (h : SqT K H p [.str "offset", .str (S n), .int i]) : TrV K H (.ref p) (.off n i)
  | nam {p : Addr} {n : List Nat} (h : SqT K H p [.str "name", .str (S n)]) : TrV K H (.ref p) (.nam n)
  | bin {p : Addr} {o : Op} {u v : V} {l r : Tr} (h : SqT K H p [.str o.w, u, v]) (hl : TrV K H u l) (hr : TrV K H v r) : TrV K H (.ref p) (.bin o l r)
section
variable {K : PySem.W.Frag} {H H' : Hp} {v : V} {t : Tr}
theorem TrV.up (h : TrV K H v t) (e : Same H H') : TrV K H' v t := by
  induction h with
  | amt h hr => exact .amt (upT e h) (hr.up e)
  | siz h => exact .siz (upT e h)
  | off h => exact .off (upT e h)
  | nam h => exact .nam (upT e h)
  | bin h _ _ il ir => exact .bin (upT e h) il ir
theorem TrV.hd (h : TrV K H v t) : ∃ p xs, v = .ref p ∧ SqT K H p (.str t.w :: xs) := by
  cases h with
  | amt h hr => exact ⟨_, _, rfl, h⟩
  | siz h => exact ⟨_, _, rfl, h⟩
  | off h => exact ⟨_, _, rfl, h⟩
  | nam h => exact ⟨_, _, rfl, h⟩
  | bin h _ _ => exact ⟨_, _, rfl, h⟩
end
theorem at0c {x : V} {xs : List V} : atI (x :: xs) 0 = some x := by
  have e : ixN (x :: xs).length 0 = some 0 := by
    unfold ixN
    rw [if_pos (Int.le_refl 0), if_pos (by rw [List.length_cons]; omega)]
    rfl
  unfold atI
  rw [e]
  rfl
theorem i4_plus : inV (.str "plus") [.str "plus", .str "minus", .str "times", .str "over"] = true := by decide +kernel
theorem i4_minus : inV (.str "minus") [.str "plus", .str "minus", .str "times", .str "over"] = true := by decide +kernel
theorem i4_times : inV (.str "times") [.str "plus", .str "minus", .str "times", .str "over"] = true := by decide +kernel
theorem i4_over : inV (.str "over") [.str "plus", .str "minus", .str "times", .str "over"] = true := by decide +kernel
theorem i4_amount : inV (.str "amount") [.str "plus", .str "minus", .str "times", .str "over"] = false := by decide +kernel
theorem i4_size : inV (.str "size") [.str "plus", .str "minus", .str "times", .str "over"] = false := by decide +kernel
theorem i4_offset : inV (.str "offset") [.str "plus", .str "minus", .str "times", .str "over"] = false := by decide +kernel
theorem i4_name : inV (.str "name") [.str "plus", .str "minus", .str "times", .str "over"] = false := by decide +kernel
theorem i2_plus : inV (.str "plus") [.str "times", .str "over"] = false := by decide +kernel
theorem i2_minus : inV (.str "minus") [.str "times", .str "over"] = false := by decide +kernel
theorem i2_times : inV (.str "times") [.str "times", .str "over"] = true := by decide +kernel
theorem i2_over : inV (.str "over") [.str "times", .str "over"] = true := by decide +kernel
theorem i2_amount : inV (.str "amount") [.str "times", .str "over"] = false := by decide +kernel
theorem i2_size : inV (.str "size") [.str "times", .str "over"] = false := by decide +kernel
theorem i2_offset : inV (.str "offset") [.str "times", .str "over"] = false := by decide +kernel
theorem i2_name : inV (.str "name") [.str "times", .str "over"] = false := by decide +kernel
theorem op_in4 (t : Tr) : inV (.str t.w) [.str "plus", .str "minus", .str "times", .str "over"] = decide (t.rk ≠ 3) := by
  cases t with
  | amt r u => exact i4_amount
  | siz n => exact i4_size
  | off n i => exact i4_offset
  | nam n => exact i4_name
  | bin o l r => cases o with
    | plus => exact i4_plus
    | minus => exact i4_minus
    | times => exact i4_times
    | over => exact i4_over
theorem op_in2 (t : Tr) : inV (.str t.w) [.str "times", .str "over"] = decide (t.rk = 2) := by
  cases t with
  | amt r u => exact i2_amount
  | siz n => exact i2_size
  | off n i => exact i2_offset
  | nam n => exact i2_name
  | bin o l r => cases o with
    | plus => exact i2_plus
    | minus => exact i2_minus
    | times => exact i2_times
    | over => exact i2_over
theorem Tr.rk_le (t : Tr) : t.rk = 1 ∨ t.rk = 2 ∨ t.rk = 3 := by
  cases t with
  | bin o l r => cases o with
    | plus => exact .inl rfl
    | minus => exact .inl rfl
    | times => exact .inr (.inl rfl)
    | over => exact .inr (.inl rfl)
  | _ => exact .inr (.inr rfl)
section
variable {P : Program} {w : World} {K : PySem.W.Frag} {mg : Str → Option Value} {base : Heap} {a : Ad}
def sp__tightness (K : PySem.W.Frag) : Sp := fun vs H Q _ => ∃ (v : V) (t : Tr), vs = [v] ∧ TrV K H v t ∧ ∀ H', Same H H' → Q (.int (t.rk : Nat)) H'
theorem c__tightness (T : Txt K mg w a) : Cl P w K mg base 1 "_tightness" P__tightness (sp__tightness K) [] :=
  T.d__tightness.cl sc__tightness (fun vs H Q E h => by obtain ⟨v, t, rfl, _⟩ := h; rfl) fun f cdv A outer s H vs Q E hr h => by
    obtain ⟨v, t, rfl, hv, k⟩ := h
    obtain ⟨p, xs, rfl, hp⟩ := hv.hd
    refine ⟨_, ((pss_cons (ps_set (i := 1) sc__tightness.nd rfl (Or.inl rfl) (pe_ix ix_tup (pv 0) pe_int (fun _ _ => rfl)))
 (pss_cons (ps_if (pt_cmpR op_notIn_seq (pv 1) (pe_glob (by rfl) T.k_OPERATORS rfl (v := .ref a.aO)) (by rfl))
 (pss_one (ps_ret pe_int))
 pss_nil)
 (pss_one (ps_ret (pe_ifExp (pt_cmpR op_in_seq (pv 1) (pe_tup (pa_cons pe_str (pa_cons pe_str pa_nil))) (by rfl)) pe_int pe_int)))))), ?_⟩
    refine ⟨_, rfl, p, _, _, _, rfl, rfl, hp, at0c, ?_⟩
    refine gn ?_
    refine ⟨_, rfl, a.aO, _, rfl, .inr (T.t_OPERATORS H), rfl, rfl, _, rfl, ?_⟩
    rw [if_pos rfl, op_in4]
    rcases t.rk_le with h | h | h
    · rw [h] at k ⊢
      refine iteF ?_
      refine ⟨_, rfl, by show 2 ≤ sizeLine; decide, fun q hq => ⟨q, _, rfl, .inr sq_new, rfl, rfl, _, rfl, ?_⟩⟩
      rw [if_neg (by decide), op_in2, h]
      exact iteF (k _ (same_new hq))
    · rw [h] at k ⊢
      refine iteF ?_
      refine ⟨_, rfl, by show 2 ≤ sizeLine; decide, fun q hq => ⟨q, _, rfl, .inr sq_new, rfl, rfl, _, rfl, ?_⟩⟩
      rw [if_neg (by decide), op_in2, h]
      exact iteT (k _ (same_new hq))
    · rw [h]
      rw [h] at k
      exact iteT (k H (.refl _))
end
end K09

set_option Elab.async false
set_option linter.all false
set_option maxRecDepth 100000
set_option maxHeartbeats 4000000
namespace K09
open PySem PySem.Spec PyProof.Rows L2 Ew
open SX (S)
/-! ### tokens, and what the parser does with them -/
abbrev Tk := List Nat
def LP : Tk := [40]
def RP : Tk := [41]
def wSz : Tk := [115, 105, 122, 101]
def wOf : Tk := [111, 102, 102, 115, 101, 116]
def Op.tk (o : Op) : Tk := [o.sg]
theorem low_of {n : Tk} (h : isNm n = true) : ∃ c r, n = c :: r ∧ 97 ≤ c ∧ c ≤ 122 ∧ ∀ x ∈ n, 97 ≤ x ∧ x ≤ 122 := by
  unfold isNm at h
  rw [Bool.and_eq_true, Bool.and_eq_true, Bool.and_eq_true] at h
  obtain ⟨h1, _, h3, _⟩ := h
  have al : ∀ x ∈ n, 97 ≤ x ∧ x ≤ 122 := fun x hx => by
    have := List.all_eq_true.mp h3 x hx
    unfold isLow at this
    rw [Bool.and_eq_true] at this
    exact ⟨of_decide_eq_true this.1, of_decide_eq_true this.2⟩
  cases n with
  | nil => exact absurd (of_decide_eq_true h1) (by decide)
  | cons c r => exact ⟨c, r, rfl, (al c List.mem_cons_self).1, (al c List.mem_cons_self).2, al⟩
theorem rd_no {c : Nat} {r : Tk} (h : 47 ∉ c :: r) (h1 : isFig c = false) (h2 : c ≠ 45) : rdVal (c :: r) = none := by
  unfold rdVal
  rw [cut_no h]
  dsimp only
  have e : isWh 400 (c :: r) = false := by
    unfold isWh
    have e1 : decide (c :: r = [48]) = false := by
      rw [decide_eq_false]
      intro z
      injection z with z1 _
      subst z1
      revert h1
      decide
    have e2 : dropNeg (c :: r) = c :: r := by
      unfold dropNeg
      split
      · rename_i z
        injection z with z1 _
        exact absurd z1 h2
      · rfl
    rw [e1, e2]
    unfold isDig
    rw [List.all_cons, h1]
    simp
  rw [e]
  rfl
theorem rd_nil : rdVal [] = none := by
  unfold rdVal
  rw [cut_no (by simp)]
  rfl
theorem rd_nm {n : Tk} (h : isNm n = true) : rdVal n = none := by
  obtain ⟨c, r, rfl, h1, h2, al⟩ := low_of h
  refine rd_no (fun z => ?_) ?_ (by omega)
  · have := al 47 z
    omega
  · unfold isFig
    rw [decide_eq_false (by omega : ¬ c ≤ 57)]
    simp
theorem rd_LP : rdVal LP = none := rd_no (by decide) (by decide) (by decide)
theorem rd_RP : rdVal RP = none := rd_no (by decide) (by decide) (by decide)
theorem rd_sz : rdVal wSz = none := rd_no (by decide) (by decide) (by decide)
theorem rd_of : rdVal wOf = none := rd_no (by decide) (by decide) (by decide)
theorem nm_sz : isNm wSz = false := by decide +kernel
theorem nm_of : isNm wOf = false := by decide +kernel
theorem nm_LP : isNm LP = false := by decide +kernel
theorem nm_RP : isNm RP = false := by decide +kernel
theorem nm_nil : isNm [] = false := by decide +kernel
inductive Job
  | part | prod | pl (t : Tr) | expr | el (t : Tr)
/-- job J at word i, d more parentheses deep at most: the tree and where it ends, or none and the word that is refused -/
inductive Pr (ws : List Tk) : Job → Nat → Nat → Option Tr → Nat → Prop
  | par {d i j t} : ws[i]? = some LP → Pr ws .expr d (i + 1) (some t) j → ws[j]? = some RP → Pr ws .part (d + 1) i (some t) (j + 1)
  | parI {d i j} : ws[i]? = some LP → Pr ws .expr d (i + 1) none j → Pr ws .part (d + 1) i none j
  | parN {d i j t} : ws[i]? = some LP → Pr ws .expr d (i + 1) (some t) j → ws[j]? ≠ some RP → Pr ws .part (d + 1) i none j
  | amt {d i w r u} : ws[i]? = some w → rdVal w = some r → ws[i + 1]? = some u → u ≠ [] → Pr ws .part d i (some (.amt r u)) (i + 2)
  | amtN {d i w r} : ws[i]? = some w → rdVal w = some r → (ws[i + 1]? = none ∨ ws[i + 1]? = some []) → Pr ws .part d i none (i + 1)
  | siz {d i n} : ws[i]? = some wSz → ws[i + 1]? = some n → isNm n = true → Pr ws .part d i (some (.siz n)) (i + 2)
  | sizN {d i} : ws[i]? = some wSz → (∀ n, ws[i + 1]? = some n → isNm n = false) → Pr ws .part d i none (i + 1)
  | off {d i n z} : ws[i]? = some wOf → ws[i + 1]? = some n → isNm n = true → ws[i + 2]? = some z → isWh 30 z = true → Pr ws .part d i (some (.off n (wholeVal z))) (i + 3)
  | offN {d i} : ws[i]? = some wOf → (∀ n, ws[i + 1]? = some n → isNm n = false) → Pr ws .part d i none (i + 1)
  | offM {d i n} : ws[i]? = some wOf → ws[i + 1]? = some n → isNm n = true → (∀ z, ws[i + 2]? = some z → isWh 30 z = false) → Pr ws .part d i none (i + 2)
  | nam {d i n} : ws[i]? = some n → isNm n = true → Pr ws .part d i (some (.nam n)) (i + 1)
  | namN {d i} : (∀ w, ws[i]? = some w → rdVal w = none ∧ isNm w = false ∧ w ≠ wSz ∧ w ≠ wOf ∧ w ≠ LP) → Pr ws .part d i none i
  | prod {d i j k t r} : Pr ws .part d i (some t) j → Pr ws (.pl t) d j r k → Pr ws .prod d i r k
  | prodN {d i j} : Pr ws .part d i none j → Pr ws .prod d i none j
  | plE {d i t} : (∀ w, ws[i]? = some w → w ≠ Op.times.tk ∧ w ≠ Op.over.tk) → Pr ws (.pl t) d i (some t) i
  | plG {d i j k t u r} {o : Op} : o.rk = 2 → ws[i]? = some o.tk → Pr ws .part d (i + 1) (some u) j → Pr ws (.pl (.bin o t u)) d j r k → Pr ws (.pl t) d i r k
  | plN {d i j t} {o : Op} : o.rk = 2 → ws[i]? = some o.tk → Pr ws .part d (i + 1) none j → Pr ws (.pl t) d i none j
  | expr {d i j k t r} : Pr ws .prod d i (some t) j → Pr ws (.el t) d j r k → Pr ws .expr d i r k
  | exprN {d i j} : Pr ws .prod d i none j → Pr ws .expr d i none j
  | elE {d i t} : (∀ w, ws[i]? = some w → w ≠ Op.plus.tk ∧ w ≠ Op.minus.tk) → Pr ws (.el t) d i (some t) i
  | elG {d i j k t u r} {o : Op} : o.rk = 1 → ws[i]? = some o.tk → Pr ws .prod d (i + 1) (some u) j → Pr ws (.el (.bin o t u)) d j r k → Pr ws (.el t) d i r k
  | elN {d i j t} {o : Op} : o.rk = 1 → ws[i]? = some o.tk → Pr ws .prod d (i + 1) none j → Pr ws (.el t) d i none j
theorem Pr.mono {ws : List Tk} {J : Job} {d i j : Nat} {r : Option Tr} (h : Pr ws J d i r j) : i ≤ j := by
  induction h <;> omega
/-! ### texts of trees -/
inductive Lf : Tr → List Tk → Prop
  | amt {w r u} : rdVal w = some r → u ≠ [] → Lf (.amt r u) [w, u]
  | siz {n} : isNm n = true → Lf (.siz n) [wSz, n]
  | off {n z k} : isNm n = true → isWh 30 z = true → wholeVal z = k → Lf (.off n k) [wOf, n, z]
  | nam {n} : isNm n = true → Lf (.nam n) [n]
/-- words that tell t, at level k (1: a sum, 2: a product, 3: a part), d parentheses deep -/
inductive Gr : Nat → Nat → Tr → List Tk → Prop
  | leaf {t us} : Lf t us → Gr 3 0 t us
  | par {d t us} : Gr 1 d t us → Gr 3 (d + 1) t (LP :: (us ++ [RP]))
  | up2 {d t us} : Gr 3 d t us → Gr 2 d t us
  | up1 {d t us} : Gr 2 d t us → Gr 1 d t us
  | bin2 {d e l r ul ur} {o : Op} : o.rk = 2 → Gr 2 d l ul → Gr 3 e r ur → Gr 2 (max d e) (.bin o l r) (ul ++ o.tk :: ur)
  | bin1 {d e l r ul ur} {o : Op} : o.rk = 1 → Gr 1 d l ul → Gr 2 e r ur → Gr 1 (max d e) (.bin o l r) (ul ++ o.tk :: ur)
def At (ws : List Tk) (i : Nat) (us : List Tk) : Prop := ∀ (n : Nat) x, us[n]? = some x → ws[i + n]? = some x
theorem At.app {ws : List Tk} {i : Nat} {a b : List Tk} (h : At ws i (a ++ b)) : At ws i a ∧ At ws (i + a.length) b := by
  refine ⟨fun n x hx => h n x ?_, fun n x hx => ?_⟩
  · have l : n < a.length := (List.getElem?_eq_some_iff.mp hx).1
    rw [List.getElem?_append_left l]
    exact hx
  · have := h (a.length + n) x (by rw [List.getElem?_append_right (Nat.le_add_right _ _), Nat.add_sub_cancel_left]; exact hx)
    rw [← this, Nat.add_assoc]
theorem At.cons {ws : List Tk} {i : Nat} {x : Tk} {b : List Tk} (h : At ws i (x :: b)) : ws[i]? = some x ∧ At ws (i + 1) b := by
  refine ⟨h 0 x rfl, fun n y hy => ?_⟩
  have := h (n + 1) y (by rw [List.getElem?_cons_succ]; exact hy)
  rw [← this]
  congr 1
  omega
theorem At.pre {ws us post : List Tk} (e : ws = us ++ post) : At ws 0 us := fun n x hx => by
  rw [e, Nat.zero_add, List.getElem?_append_left (List.getElem?_eq_some_iff.mp hx).1]
  exact hx
def NoPr (ws : List Tk) (i : Nat) : Prop := ∀ w, ws[i]? = some w → w ≠ Op.times.tk ∧ w ≠ Op.over.tk
def NoSu (ws : List Tk) (i : Nat) : Prop := ∀ w, ws[i]? = some w → w ≠ Op.plus.tk ∧ w ≠ Op.minus.tk
theorem NoPr.of {ws : List Tk} {i : Nat} {x : Tk} (h : ws[i]? = some x) (k : x ≠ Op.times.tk ∧ x ≠ Op.over.tk) : NoPr ws i := fun w hw => by
  rw [h] at hw
  cases hw
  exact k
theorem NoSu.of {ws : List Tk} {i : Nat} {x : Tk} (h : ws[i]? = some x) (k : x ≠ Op.plus.tk ∧ x ≠ Op.minus.tk) : NoSu ws i := fun w hw => by
  rw [h] at hw
  cases hw
  exact k
theorem tk_sum {o : Op} (h : o.rk = 1) : o.tk ≠ Op.times.tk ∧ o.tk ≠ Op.over.tk := by
  cases o <;> first | (exact ⟨by decide, by decide⟩) | (exact absurd h (by decide))
def Mo (ws : List Tk) : Nat → Nat → Tr → List Tk → Prop
  | 3, d, t, us => ∀ e i, d ≤ e → At ws i us → Pr ws .part e i (some t) (i + us.length)
  | 2, d, t, us => ∀ e i, d ≤ e → At ws i us → ∀ r m, Pr ws (.pl t) e (i + us.length) r m → Pr ws .prod e i r m
  | 1, d, t, us => ∀ e i, d ≤ e → At ws i us → NoPr ws (i + us.length) → ∀ r m, Pr ws (.el t) e (i + us.length) r m → Pr ws .expr e i r m
  | _, _, _, _ => True
theorem gr_main {ws : List Tk} {k d : Nat} {t : Tr} {us : List Tk} (h : Gr k d t us) : Mo ws k d t us := by
  induction h with
  | leaf h =>
    intro e i _ ha
    cases h with
    | amt h1 h2 =>
      obtain ⟨a0, ha⟩ := ha.cons
      obtain ⟨a1, _⟩ := ha.cons
      exact .amt a0 h1 a1 h2
    | siz h1 =>
      obtain ⟨a0, ha⟩ := ha.cons
      obtain ⟨a1, _⟩ := ha.cons
      exact .siz a0 a1 h1
    | off h1 h2 h3 =>
      obtain ⟨a0, ha⟩ := ha.cons
      obtain ⟨a1, ha⟩ := ha.cons
      obtain ⟨a2, _⟩ := ha.cons
      subst h3
      exact .off a0 a1 h1 a2 h2
    | nam h1 => exact .nam ha.cons.1 h1
  | @par d t us h ih =>
    intro e i hd ha
    obtain ⟨a0, ha⟩ := ha.cons
    obtain ⟨a1, a2⟩ := ha.app
    have a3 := a2.cons.1
    obtain ⟨e', rfl⟩ : ∃ e', e = e' + 1 := ⟨e - 1, by omega⟩
    have g := ih e' (i + 1) (by omega) a1 (.of a3 ⟨by decide, by decide⟩) (some t) _ (.elE (NoSu.of a3 ⟨by decide, by decide⟩))
    have := Pr.par a0 g a3
    have el : i + (LP :: (us ++ [RP])).length = i + 1 + us.length + 1 := by simp; omega
    rw [el]
    exact this
  | up2 h ih => intro e i hd ha r m hp; exact .prod (ih e i hd ha) hp
  | up1 h ih => intro e i hd ha hn r m hp; exact .expr (ih e i hd ha _ _ (.plE hn)) hp
  | @bin2 d f l r ul ur o ho hl hr il ir =>
    intro e i hd ha q m hp
    obtain ⟨a1, ha⟩ := ha.app
    obtain ⟨a2, a3⟩ := ha.cons
    have el : i + (ul ++ o.tk :: ur).length = i + ul.length + 1 + ur.length := by simp; omega
    rw [el] at hp
    exact il e i (by omega) a1 q m (.plG ho a2 (ir e _ (by omega) a3) hp)
  | @bin1 d f l r ul ur o ho hl hr il ir =>
    intro e i hd ha hn q m hp
    obtain ⟨a1, ha⟩ := ha.app
    obtain ⟨a2, a3⟩ := ha.cons
    have el : i + (ul ++ o.tk :: ur).length = i + ul.length + 1 + ur.length := by simp; omega
    rw [el] at hp hn
    exact il e i (by omega) a1 (.of a2 (tk_sum ho)) q m (.elG ho a2 (ir e _ (by omega) a3 _ _ (.plE hn)) hp)
/-- a sign behind, and nothing that it could bind -/
theorem gr_kill {ws : List Tk} {d e i m : Nat} {t : Tr} {us : List Tk} (h : Gr 1 d t us) (hd : d ≤ e) (ha : At ws i us) (k : ∀ t', Pr ws (.pl t') e (i + us.length) none m) : Pr ws .expr e i none m := by
  cases h with
  | up1 h => exact .exprN (gr_main h e i hd ha none m (k _))
  | @bin1 d f l r ul ur o ho hl hr =>
    obtain ⟨a1, ha⟩ := ha.app
    obtain ⟨a2, a3⟩ := ha.cons
    have el : i + (ul ++ o.tk :: ur).length = i + ul.length + 1 + ur.length := by simp; omega
    rw [el] at k
    exact gr_main hl e i (by omega) a1 (.of a2 (tk_sum ho)) none m (.elN ho a2 (gr_main hr e _ (by omega) a3 none m (k _)))
/-- an empty word put in -/
def Ga (ws : List Tk) : Nat → Nat → Tr → List Tk → Prop
  | 3, d, _, us => ∀ e i a b, d ≤ e → us = a ++ b → b ≠ [] → At ws i a → ws[i + a.length]? = some [] → Pr ws .part e i none (i + a.length)
  | 2, d, _, us => ∀ e i a b, d ≤ e → us = a ++ b → b ≠ [] → At ws i a → ws[i + a.length]? = some [] → ∃ r, Pr ws .prod e i r (i + a.length)
  | 1, d, _, us => ∀ e i a b, d ≤ e → us = a ++ b → b ≠ [] → At ws i a → ws[i + a.length]? = some [] → ∃ r, Pr ws .expr e i r (i + a.length)
  | _, _, _, _ => True
theorem namE {ws : List Tk} {d i : Nat} (h : ws[i]? = some []) : Pr ws .part d i none i := .namN fun w hw => by
  rw [h] at hw
  cases hw
  exact ⟨rd_nil, nm_nil, by decide, by decide, by decide⟩
theorem nopE {ws : List Tk} {i : Nat} (h : ws[i]? = some []) : NoPr ws i := .of h ⟨by decide, by decide⟩
theorem nosE {ws : List Tk} {i : Nat} (h : ws[i]? = some []) : NoSu ws i := .of h ⟨by decide, by decide⟩
theorem nmE {ws : List Tk} {i : Nat} (h : ws[i]? = some []) : ∀ n, ws[i]? = some n → isNm n = false := fun n hn => by
  rw [h] at hn
  cases hn
  exact nm_nil
theorem whE {ws : List Tk} {i : Nat} (h : ws[i]? = some []) : ∀ n, ws[i]? = some n → isWh 30 n = false := fun n hn => by
  rw [h] at hn
  cases hn
  decide
theorem split_at {ul ur a b : List Tk} {x : Tk} (h : ul ++ x :: ur = a ++ b) : (∃ b', ul = a ++ b' ∧ b' ≠ []) ∨ a = ul ∨ ∃ a', a = ul ++ x :: a' ∧ ur = a' ++ b := by
  induction ul generalizing a with
  | nil =>
    cases a with
    | nil => exact .inr (.inl rfl)
    | cons y a =>
      rw [List.nil_append, List.cons_append] at h
      injection h with h1 h2
      subst h1
      exact .inr (.inr ⟨a, rfl, h2⟩)
  | cons z ul ih =>
    cases a with
    | nil => exact .inl ⟨z :: ul, rfl, by simp⟩
    | cons y a =>
      rw [List.cons_append, List.cons_append] at h
      injection h with h1 h2
      subst h1
      rcases ih h2 with ⟨b', e, n⟩ | e | ⟨a', e, k⟩
      · exact .inl ⟨b', by rw [e]; rfl, n⟩
      · exact .inr (.inl (by rw [e]))
      · exact .inr (.inr ⟨a', by rw [e]; rfl, k⟩)
theorem gr_gap {ws : List Tk} {k d : Nat} {t : Tr} {us : List Tk} (h : Gr k d t us) : Ga ws k d t us := by
  induction h with
  | leaf h =>
    intro e i a b _ hab hb ha hg
    cases a with
    | nil => exact namE hg
    | cons x a =>
      obtain ⟨a0, hw⟩ := ha.cons
      clear ha
      cases h with
      | @amt w r u h1 h2 =>
        injection hab with e1 e2
        subst e1
        cases a with
        | nil => exact .amtN a0 h1 (.inr hg)
        | cons y a =>
          injection e2 with e3 e4
          cases a with
          | nil => exact absurd e4.symm hb
          | cons z a => cases e4
      | siz h1 =>
        injection hab with e1 e2
        subst e1
        cases a with
        | nil => exact .sizN a0 (nmE hg)
        | cons y a =>
          injection e2 with e3 e4
          cases a with
          | nil => exact absurd e4.symm hb
          | cons z a => cases e4
      | off h1 h2 h3 =>
        injection hab with e1 e2
        subst e1
        cases a with
        | nil => exact .offN a0 (nmE hg)
        | cons y a =>
          injection e2 with e3 e4
          subst e3
          obtain ⟨a1, _⟩ := hw.cons
          cases a with
          | nil => exact .offM a0 a1 h1 (whE hg)
          | cons z a =>
            injection e4 with e5 e6
            cases a with
            | nil => exact absurd e6.symm hb
            | cons y2 a => cases e6
      | nam h1 =>
        injection hab with e1 e2
        cases a with
        | nil => exact absurd e2.symm hb
        | cons y a => cases e2
  | @par d t us h ih =>
    intro e i a b hd hab hb ha hg
    cases a with
    | nil => exact namE hg
    | cons x a =>
      injection hab with e1 e2
      subst e1
      obtain ⟨a0, ha⟩ := ha.cons
      have el : i + (LP :: a).length = i + 1 + a.length := by simp; omega
      rw [el] at hg ⊢
      obtain ⟨e', rfl⟩ : ∃ e', e = e' + 1 := ⟨e - 1, by omega⟩
      rcases split_at e2 with ⟨b', e3, n⟩ | e3 | ⟨a', e3, e4⟩
      · obtain ⟨r, hr⟩ := ih e' (i + 1) a b' (by omega) e3 n ha hg
        cases r with
        | none => exact .parI a0 hr
        | some t' => exact .parN a0 hr (by rw [hg]; decide)
      · subst e3
        exact .parN a0 (gr_main h e' (i + 1) (by omega) ha (nopE hg) (some t) _ (.elE (nosE hg))) (by rw [hg]; decide)
      · cases a' with
        | nil => exact absurd e4.symm hb
        | cons y a' => cases e4
  | up2 h ih => intro e i a b hd hab hb ha hg; exact ⟨none, .prodN (ih e i a b hd hab hb ha hg)⟩
  | up1 h ih =>
    intro e i a b hd hab hb ha hg
    obtain ⟨r, hr⟩ := ih e i a b hd hab hb ha hg
    cases r with
    | none => exact ⟨none, .exprN hr⟩
    | some t' => exact ⟨some t', .expr hr (.elE (nosE hg))⟩
  | @bin2 d f l r ul ur o ho hl hr il ir =>
    intro e i a b hd hab hb ha hg
    rcases split_at hab with ⟨b', e3, n⟩ | e3 | ⟨a', e3, e4⟩
    · exact il e i a b' (by omega) e3 n ha hg
    · subst e3
      exact ⟨some l, gr_main hl e i (by omega) ha (some l) _ (.plE (nopE hg))⟩
    · subst e3
      obtain ⟨a1, ha⟩ := ha.app
      obtain ⟨a2, a3⟩ := ha.cons
      have el : i + (ul ++ o.tk :: a').length = i + ul.length + 1 + a'.length := by simp; omega
      rw [el] at hg ⊢
      exact ⟨none, gr_main hl e i (by omega) a1 none _ (.plN ho a2 (ir e _ a' b (by omega) e4 hb a3 hg))⟩
  | @bin1 d f l r ul ur o ho hl hr il ir =>
    intro e i a b hd hab hb ha hg
    rcases split_at hab with ⟨b', e3, n⟩ | e3 | ⟨a', e3, e4⟩
    · exact il e i a b' (by omega) e3 n ha hg
    · subst e3
      exact ⟨some l, gr_main hl e i (by omega) ha (nopE hg) (some l) _ (.elE (nosE hg))⟩
    · subst e3
      obtain ⟨a1, ha⟩ := ha.app
      obtain ⟨a2, a3⟩ := ha.cons
      have el : i + (ul ++ o.tk :: a').length = i + ul.length + 1 + a'.length := by simp; omega
      rw [el] at hg ⊢
      obtain ⟨q, hq⟩ := ir e _ a' b (by omega) e4 hb a3 hg
      cases q with
      | none => exact ⟨none, gr_main hl e i (by omega) a1 (.of a2 (tk_sum ho)) none _ (.elN ho a2 hq)⟩
      | some u => exact ⟨some (.bin o l u), gr_main hl e i (by omega) a1 (.of a2 (tk_sum ho)) _ _ (.elG ho a2 hq (.elE (nosE hg)))⟩
/-! ### how deep the parentheses stand, and how many words there are -/
def dpS (s : Int × Int) (w : Tk) : Int × Int :=
  let c1 := if w = LP then s.1 + 1 else s.1
  let c2 := if w = RP then c1 - 1 else c1
  (c2, if c2 > s.2 then c2 else s.2)
theorem dp_no {w : Tk} {c m : Int} (h1 : w ≠ LP) (h2 : w ≠ RP) (h : c ≤ m) : dpS (c, m) w = (c, m) := by
  unfold dpS
  dsimp only
  rw [if_neg h1, if_neg h2, if_neg (by omega)]
theorem nm_no {n : Tk} (h : isNm n = true) : n ≠ LP ∧ n ≠ RP := ⟨fun z => (by rw [z, nm_LP] at h; cases h), fun z => (by rw [z, nm_RP] at h; cases h)⟩
theorem rd_no2 {n : Tk} {r : Int × Int} (h : rdVal n = some r) : n ≠ LP ∧ n ≠ RP := ⟨fun z => (by rw [z, rd_LP] at h; cases h), fun z => (by rw [z, rd_RP] at h; cases h)⟩
theorem wh_no {n : Tk} (h : isWh 30 n = true) : n ≠ LP ∧ n ≠ RP := ⟨fun z => (by rw [z] at h; revert h; decide), fun z => (by rw [z] at h; revert h; decide)⟩
theorem tk_no (o : Op) : o.tk ≠ LP ∧ o.tk ≠ RP := by cases o <;> exact ⟨by decide, by decide⟩
/-- no leaf's unit is a parenthesis -/
inductive NoPar : Tr → Prop
  | amt {r u} : u ≠ LP → u ≠ RP → NoPar (.amt r u)
  | siz {n} : NoPar (.siz n)
  | off {n k} : NoPar (.off n k)
  | nam {n} : NoPar (.nam n)
  | bin {o l r} : NoPar l → NoPar r → NoPar (.bin o l r)
theorem gr_deep {k d : Nat} {t : Tr} {us : List Tk} (h : Gr k d t us) : NoPar t → ∀ c m : Int, c ≤ m → us.foldl dpS (c, m) = (c, max m (c + d)) := by
  induction h with
  | leaf h =>
    intro hp c m hc
    have e : ((c, m) : Int × Int) = (c, max m (c + (0 : Nat))) := by congr 1; omega
    rw [← e]
    cases h with
    | amt h1 h2 =>
      cases hp with
      | amt p1 p2 =>
        rw [List.foldl_cons, dp_no (rd_no2 h1).1 (rd_no2 h1).2 hc, List.foldl_cons, dp_no p1 p2 hc]
        rfl
    | siz h1 =>
      rw [List.foldl_cons, dp_no (by decide) (by decide) hc, List.foldl_cons, dp_no (nm_no h1).1 (nm_no h1).2 hc]
      rfl
    | off h1 h2 h3 =>
      rw [List.foldl_cons, dp_no (by decide) (by decide) hc, List.foldl_cons, dp_no (nm_no h1).1 (nm_no h1).2 hc, List.foldl_cons, dp_no (wh_no h2).1 (wh_no h2).2 hc]
      rfl
    | nam h1 =>
      rw [List.foldl_cons, dp_no (nm_no h1).1 (nm_no h1).2 hc]
      rfl
  | @par d t us h ih =>
    intro hp c m hc
    rw [List.foldl_cons, List.foldl_append]
    have e1 : dpS (c, m) LP = (c + 1, max m (c + 1)) := by
      unfold dpS
      dsimp only
      rw [if_pos rfl, if_neg (by decide)]
      congr 1
      split <;> omega
    rw [e1, ih hp _ _ (by omega), List.foldl_cons]
    have e2 : ∀ c2 m2 : Int, c2 ≤ m2 → dpS (c2, m2) RP = (c2 - 1, m2) := fun c2 m2 h2 => by
      unfold dpS
      dsimp only
      rw [if_neg (by decide : ¬ RP = LP), if_pos rfl, if_neg (by omega)]
    rw [e2 _ _ (by omega), List.foldl_nil]
    congr 1
    · omega
    · omega
  | up2 h ih => exact ih
  | up1 h ih => exact ih
  | @bin2 d f l r ul ur o ho hl hr il ir =>
    intro hp c m hc
    cases hp with
    | bin p1 p2 =>
      rw [List.foldl_append, il p1 c m hc, List.foldl_cons, dp_no (tk_no o).1 (tk_no o).2 (by omega), ir p2 _ _ (by omega)]
      congr 1
      omega
  | @bin1 d f l r ul ur o ho hl hr il ir =>
    intro hp c m hc
    cases hp with
    | bin p1 p2 =>
      rw [List.foldl_append, il p1 c m hc, List.foldl_cons, dp_no (tk_no o).1 (tk_no o).2 (by omega), ir p2 _ _ (by omega)]
      congr 1
      omega
theorem Gr.low {k d : Nat} {t : Tr} {us : List Tk} (h : Gr k d t us) : Gr 1 d t us := by
  cases h with
  | leaf h => exact .up1 (.up2 (.leaf h))
  | par h => exact .up1 (.up2 (.par h))
  | up2 h => exact .up1 (.up2 h)
  | up1 h => exact .up1 h
  | bin2 a b c => exact .up1 (.bin2 a b c)
  | bin1 a b c => exact .bin1 a b c
theorem Gr.two {k d : Nat} {t : Tr} {us : List Tk} (h : Gr k d t us) (hk : 2 ≤ k) : Gr 2 d t us := by
  cases h with
  | leaf h => exact .up2 (.leaf h)
  | par h => exact .up2 (.par h)
  | up2 h => exact .up2 h
  | up1 h => exact absurd hk (by decide)
  | bin2 a b c => exact .bin2 a b c
  | bin1 a b c => exact absurd hk (by decide)
theorem Gr.len {k d : Nat} {t : Tr} {us : List Tk} (h : Gr k d t us) : 1 ≤ us.length := by
  induction h with
  | leaf h => cases h <;> simp
  | par h ih => simp
  | up2 h ih => exact ih
  | up1 h ih => exact ih
  | bin2 a b c ib ic => simp; omega
  | bin1 a b c ib ic => simp; omega
/-- k pairs of parentheses around -/
def wrap (k : Nat) (us : List Tk) : List Tk := List.replicate k LP ++ (us ++ List.replicate k RP)
theorem wrap_succ (k : Nat) (us : List Tk) : wrap (k + 1) us = LP :: (wrap k us ++ [RP]) := by
  unfold wrap
  rw [List.replicate_succ, List.cons_append, List.append_assoc, List.append_assoc, ← List.replicate_succ']
theorem gr_wrap {d : Nat} {t : Tr} {us : List Tk} (h : Gr 1 d t us) : ∀ k : Nat, Gr 1 (d + k) t (wrap k us)
  | 0 => by unfold wrap; simpa using h
  | k + 1 => by rw [wrap_succ]; exact .up1 (.up2 (.par (gr_wrap h k)))
theorem wrap_len (k : Nat) (us : List Tk) : (wrap k us).length = us.length + 2 * k := by
  unfold wrap
  simp
  omega
end K09

set_option Elab.async false
set_option linter.all false
set_option maxRecDepth 100000
set_option maxHeartbeats 4000000
namespace K09
open PySem PySem.Spec PyProof.Rows L2 Ew
open SX (S)
open NumText (digitsVal AllDigits)
/-! ### an integer as a row of figures -/
def intL (i : Int) : List Nat := if i < 0 then 45 :: TL.numL i.natAbs else TL.numL i.natAbs
theorem S_int (i : Int) : Str.ofString (toString i) = S (intL i) := by
  unfold intL
  by_cases h : i < 0
  · rw [if_pos h, PyProof.Rows.toString_neg h, PySem.Str.ofString_eq_toList, String.toList_append, List.map_append]
    have e : (0 : Int) - i = ((i.natAbs : Nat) : Int) := by omega
    have e2 := SX.num_S i.natAbs
    rw [PySem.Str.ofString_eq_toList] at e2
    have e3 : (toString ((i.natAbs : Nat) : Int)).toList.map Char.toNat = TL.numL i.natAbs := SX.S_inj e2
    rw [e, e3]
    rfl
  · rw [if_neg h]
    obtain ⟨n, rfl⟩ := Int.eq_ofNat_of_zero_le (by omega : 0 ≤ i)
    exact SX.num_S n
theorem numL_head : ∀ n : Nat, 1 ≤ n → ∃ c r, TL.numL n = c :: r ∧ 49 ≤ c ∧ c ≤ 57 := by
  intro n
  induction n using Nat.strongRecOn with
  | _ n ih =>
    intro h
    by_cases h1 : n < 10
    · exact ⟨_, [], TL.numL_lt h1, by omega, by omega⟩
    · obtain ⟨c, r, e, k⟩ := ih (n / 10) (by omega) (by omega)
      exact ⟨c, r ++ [48 + n % 10], by rw [TL.numL_step (by omega), e]; rfl, k⟩
theorem dig_num {n k : Nat} (h1 : 1 ≤ n) (hk : 0 < k) (h : n < 10 ^ k) : isDig k (TL.numL n) = true := by
  obtain ⟨c, r, e, k1, k2⟩ := numL_head n h1
  have l := TL.numL_len hk h
  have al : (TL.numL n).all isFig = true := List.all_eq_true.mpr fun x hx => by
    have := TL.numL_digits n x hx
    unfold isFig
    rw [decide_eq_true this.1, decide_eq_true this.2]
    rfl
  unfold isDig
  rw [al, decide_eq_true l, e, decide_eq_true (by simp), decide_eq_false (by simp; omega)]
  rfl
theorem dropNeg_num (n : Nat) : dropNeg (TL.numL n) = TL.numL n := by
  unfold dropNeg
  split
  · rename_i r e
    have := TL.numL_digits n 45 (by rw [e]; exact List.mem_cons_self)
    omega
  · rfl
theorem wh_int {i : Int} {k : Nat} (hk : 0 < k) (h : i.natAbs < 10 ^ k) : isWh k (intL i) = true := by
  unfold isWh intL
  by_cases h0 : i = 0
  · subst h0
    rw [if_neg (by decide)]
    have : TL.numL (0 : Int).natAbs = [48] := TL.numL_lt (by decide)
    rw [this]
    rfl
  · by_cases h1 : i < 0
    · rw [if_pos h1]
      show (_ || isDig k (TL.numL i.natAbs)) = true
      rw [dig_num (by omega) hk h, Bool.or_true]
    · rw [if_neg h1, dropNeg_num, dig_num (by omega) hk h, Bool.or_true]
theorem val_int (i : Int) : wholeVal (intL i) = i := by
  unfold intL
  by_cases h1 : i < 0
  · rw [if_pos h1]
    show -((digitsVal (TL.numL i.natAbs) : Nat) : Int) = i
    rw [TL.numL_val]
    omega
  · rw [if_neg h1]
    unfold wholeVal
    split
    · rename_i r e
      have := TL.numL_digits i.natAbs 45 (by rw [e]; exact List.mem_cons_self)
      omega
    · rw [TL.numL_val]
      omega
theorem int_free (i : Int) {c : Nat} (h : c < 45 ∨ 57 < c ∨ c = 47) : c ∉ intL i := by
  unfold intL
  split
  · rw [List.mem_cons, not_or]
    exact ⟨by omega, TL.numL_free (by omega)⟩
  · exact TL.numL_free (by omega)
theorem int_len {i : Int} {k : Nat} (hk : 0 < k) (h : i.natAbs < 10 ^ k) : (intL i).length ≤ k + 1 := by
  have := TL.numL_len hk h
  unfold intL
  split
  · rw [List.length_cons]; omega
  · omega
/-! ### a ratio as a text -/
def ratT (r : Int × Int) : Tk := if r.2 = 1 then intL r.1 else intL r.1 ++ ([47] ++ intL r.2)
structure RtOk (r : Int × Int) : Prop where
  low : Low r
  s1 : r.1.natAbs < 10 ^ 400
  s2 : r.2.natAbs < 10 ^ 400
theorem rd_rat {r : Int × Int} (h : RtOk r) : rdVal (ratT r) = some r := by
  obtain ⟨⟨l1, l2⟩, s1, s2⟩ := h
  have f1 : 47 ∉ intL r.1 := int_free _ (.inr (.inr rfl))
  unfold ratT
  by_cases h1 : r.2 = 1
  · rw [if_pos h1]
    unfold rdVal
    rw [cut_no f1]
    dsimp only
    rw [if_pos (wh_int (by decide) s1), val_int]
    rw [← h1]
  · rw [if_neg h1]
    unfold rdVal
    rw [cut_yes f1]
    dsimp only
    have e2 : intL r.2 = TL.numL r.2.natAbs := by unfold intL; rw [if_neg (by omega)]
    rw [if_pos (wh_int (by decide) s1), val_int, e2, TL.numL_val]
    have e3 : ((r.2.natAbs : Nat) : Int) = r.2 := by omega
    rw [e3]
    have d : isDv (TL.numL r.2.natAbs) = true := by
      unfold isDv
      rw [dig_num (by omega) (by decide) s2, decide_eq_false]
      · rfl
      · intro z
        have : TL.numL r.2.natAbs = TL.numL 1 := by rw [z]; exact (TL.numL_lt (n := 1) (by decide)).symm
        have := TL.numL_inj this
        omega
    rw [d, decide_eq_true l1, decide_eq_true l2]
    rfl
theorem rat_words {r : Int × Int} (h : RtOk r) : 32 ∉ ratT r ∧ (ratT r).length ≤ 1000 := by
  unfold ratT
  have l1 := int_len (by decide) h.s1
  have l2 := int_len (by decide) h.s2
  split
  · exact ⟨int_free _ (.inl (by decide)), by omega⟩
  · refine ⟨?_, by rw [List.length_append, List.length_append, List.length_singleton]; omega⟩
    rw [List.mem_append, List.mem_append, List.mem_singleton, not_or, not_or]
    exact ⟨int_free _ (.inl (by decide)), by decide, int_free _ (.inl (by decide))⟩
/-! ### the words of a tree -/
inductive TrOk : Tr → Prop
  | amt {r u} : RtOk r → u ≠ [] → 32 ∉ u → u.length ≤ 300 → u ≠ LP → u ≠ RP → TrOk (.amt r u)
  | siz {n} : isNm n = true → TrOk (.siz n)
  | off {n k} : isNm n = true → k.natAbs ≤ 1000 → TrOk (.off n k)
  | nam {n} : isNm n = true → TrOk (.nam n)
  | bin {o l r} : TrOk l → TrOk r → TrOk (.bin o l r)
theorem TrOk.noPar {t : Tr} (h : TrOk t) : NoPar t := by
  induction h with
  | amt _ _ _ _ a b => exact .amt a b
  | siz _ => exact .siz
  | off _ _ => exact .off
  | nam _ => exact .nam
  | bin _ _ a b => exact .bin a b
def lfT : Tr → List Tk
  | .amt r u => [ratT r, u]
  | .siz n => [wSz, n]
  | .off n k => [wOf, n, intL k]
  | .nam n => [n]
  | .bin _ _ _ => []
def side (us : List Tk) (rk k : Nat) : List Tk := if rk < k then LP :: (us ++ [RP]) else us
def toks : Tr → List Tk
  | .bin o l r => side (toks l) l.rk o.rk ++ o.tk :: side (toks r) r.rk (o.rk + 1)
  | t => lfT t
def ops : Tr → Nat
  | .bin _ l r => ops l + ops r + 1
  | _ => 0
/-- the words with needless parentheses -/
inductive Tx : Tr → List Tk → Prop
  | leaf {t} (k : Nat) : t.rk = 3 → k ≤ 2 → Tx t (wrap k (lfT t))
  | bin {o l r ul ur} (k : Nat) : Tx l ul → Tx r ur → k ≤ 2 → Tx (.bin o l r) (wrap k (side ul l.rk o.rk ++ o.tk :: side ur r.rk (o.rk + 1)))
theorem wrap0 (us : List Tk) : wrap 0 us = us := by unfold wrap; simp
theorem Op.rk3 (o : Op) : o.rk ≠ 3 := by cases o <;> decide
theorem tx_toks : ∀ t : Tr, Tx t (toks t)
  | .bin o l r => (by have h := Tx.bin (o := o) 0 (tx_toks l) (tx_toks r) (Nat.zero_le _); rw [wrap0] at h; exact h)
  | .amt r u => (by have h := Tx.leaf (t := .amt r u) 0 rfl (Nat.zero_le _); rw [wrap0] at h; exact h)
  | .siz n => (by have h := Tx.leaf (t := .siz n) 0 rfl (Nat.zero_le _); rw [wrap0] at h; exact h)
  | .off n k => (by have h := Tx.leaf (t := .off n k) 0 rfl (Nat.zero_le _); rw [wrap0] at h; exact h)
  | .nam n => (by have h := Tx.leaf (t := .nam n) 0 rfl (Nat.zero_le _); rw [wrap0] at h; exact h)
theorem lf_of {t : Tr} (h : TrOk t) (h3 : t.rk = 3) : Lf t (lfT t) := by
  cases h with
  | amt a b _ _ _ _ => exact .amt (rd_rat a) b
  | siz a => exact .siz a
  | off a b => exact .off a (wh_int (by decide) (Nat.lt_of_le_of_lt b (by decide))) (val_int _)
  | nam a => exact .nam a
  | bin _ _ => exact absurd h3 (Op.rk3 _)
theorem Gr.down {k j d : Nat} {t : Tr} {us : List Tk} (h : Gr k d t us) (hj : j ≤ k) (h1 : 1 ≤ j) (h3 : j ≤ 2 ∨ j = k) : Gr j d t us := by
  rcases h3 with h3 | rfl
  · rcases (by omega : j = 1 ∨ j = 2) with rfl | rfl
    · exact h.low
    · exact h.two hj
  · exact h
theorem Gr.lev {k d : Nat} {t : Tr} {us : List Tk} (h : Gr k d t us) : 1 ≤ k ∧ k ≤ 3 := by cases h <;> decide
theorem gr_side {d k : Nat} {t : Tr} {us : List Tk} (h : Gr t.rk d t us) (hk : 1 ≤ k) (h3 : k ≤ 3) : ∃ e, e ≤ d + 1 ∧ Gr k e t (side us t.rk k) := by
  unfold side
  by_cases c : t.rk < k
  · rw [if_pos c]
    exact ⟨d + 1, Nat.le_refl _, (Gr.par h.low).down h3 hk (by omega)⟩
  · rw [if_neg c]
    exact ⟨d, by omega, h.down (by omega) hk (by rcases t.rk_le with q | q | q <;> omega)⟩
theorem gr_wrapk {d : Nat} {t : Tr} {us : List Tk} {j : Nat} (h : Gr j d t us) (k : Nat) : Gr j (d + k) t (wrap k us) := by
  cases k with
  | zero => rw [wrap0]; exact h
  | succ k =>
    rw [wrap_succ]
    have := Gr.par (gr_wrap h.low k)
    have l := h.lev
    exact (by show Gr j (d + k + 1) t _; exact this.down l.2 l.1 (by omega))
theorem side_len (us : List Tk) (a b : Nat) : (side us a b).length ≤ us.length + 2 := by
  unfold side
  split <;> simp
theorem tx_gr {t : Tr} {us : List Tk} (h : Tx t us) (ok : TrOk t) : (∃ d, d ≤ 3 * ops t + 2 ∧ Gr t.rk d t us) ∧ us.length ≤ 7 + 16 * ops t := by
  induction h with
  | @leaf t k h3 hk =>
    refine ⟨⟨0 + k, by omega, gr_wrapk (by rw [h3]; exact .leaf (lf_of ok h3)) k⟩, ?_⟩
    rw [wrap_len]
    cases ok with
    | amt _ _ _ _ _ _ => simp [lfT]; omega
    | siz _ => simp [lfT]; omega
    | off _ _ => simp [lfT]; omega
    | nam _ => simp [lfT]; omega
    | bin _ _ => exact absurd h3 (Op.rk3 _)
  | @bin o l r ul ur k hl hr hk il ir =>
    cases ok with
    | bin okl okr =>
      obtain ⟨⟨dl, bl, gl⟩, nl⟩ := il okl
      obtain ⟨⟨dr, br, gr⟩, nr⟩ := ir okr
      have ork : o.rk = 1 ∨ o.rk = 2 := by cases o <;> simp [Op.rk]
      obtain ⟨el, bl2, gl2⟩ := gr_side gl (k := o.rk) (by omega) (by omega)
      obtain ⟨er, br2, gr2⟩ := gr_side gr (k := o.rk + 1) (by omega) (by omega)
      have g : Gr o.rk (max el er) (.bin o l r) (side ul l.rk o.rk ++ o.tk :: side ur r.rk (o.rk + 1)) := by
        rcases ork with h | h
        · rw [h] at gl2 gr2 ⊢; exact .bin1 h gl2 gr2
        · rw [h] at gl2 gr2 ⊢; exact .bin2 h gl2 gr2
      refine ⟨⟨max el er + k, ?_, gr_wrapk g k⟩, ?_⟩
      · show _ ≤ 3 * (ops l + ops r + 1) + 2
        omega
      · rw [wrap_len, List.length_append, List.length_cons]
        have := side_len ul l.rk o.rk
        have := side_len ur r.rk (o.rk + 1)
        show _ ≤ 7 + 16 * (ops l + ops r + 1)
        omega
/-- words that a text can hold -/
def Wds (us : List Tk) : Prop := ∀ w ∈ us, 32 ∉ w ∧ w.length ≤ 1000
theorem Wds.app {a b : List Tk} (h : Wds a) (k : Wds b) : Wds (a ++ b) := fun w hw => by
  rcases List.mem_append.mp hw with h1 | h1
  · exact h w h1
  · exact k w h1
theorem Wds.cons {a : Tk} {b : List Tk} (h : 32 ∉ a ∧ a.length ≤ 1000) (k : Wds b) : Wds (a :: b) := fun w hw => by
  rcases List.mem_cons.mp hw with rfl | h1
  · exact h
  · exact k w h1
theorem Wds.nil : Wds [] := fun w hw => by cases hw
theorem wd_LP : 32 ∉ LP ∧ LP.length ≤ 1000 := by decide
theorem wd_RP : 32 ∉ RP ∧ RP.length ≤ 1000 := by decide
theorem wd_op (o : Op) : 32 ∉ o.tk ∧ o.tk.length ≤ 1000 := by cases o <;> decide
theorem wd_nm {n : Tk} (h : isNm n = true) : 32 ∉ n ∧ n.length ≤ 1000 := by
  obtain ⟨c, r, e, _, _, al⟩ := low_of h
  refine ⟨fun z => by have := al 32 z; omega, ?_⟩
  unfold isNm at h
  rw [Bool.and_eq_true, Bool.and_eq_true] at h
  have := of_decide_eq_true h.2.1
  omega
theorem Wds.wrap {us : List Tk} (h : Wds us) : ∀ k : Nat, Wds (wrap k us)
  | 0 => by rw [wrap0]; exact h
  | k + 1 => by rw [wrap_succ]; exact .cons wd_LP ((Wds.wrap h k).app (.cons wd_RP .nil))
theorem Wds.side {us : List Tk} (h : Wds us) (a b : Nat) : Wds (side us a b) := by
  unfold K09.side
  split
  · exact .cons wd_LP (h.app (.cons wd_RP .nil))
  · exact h
theorem tx_wds {t : Tr} {us : List Tk} (h : Tx t us) (ok : TrOk t) : Wds us := by
  induction h with
  | @leaf t k h3 hk =>
    refine Wds.wrap ?_ k
    cases ok with
    | amt a _ b c _ _ => exact .cons (rat_words a) (.cons ⟨b, by omega⟩ .nil)
    | siz a => exact .cons (by decide) (.cons (wd_nm a) .nil)
    | @off n k a b =>
      have := int_len (i := k) (k := 30) (by decide) (Nat.lt_of_le_of_lt b (by decide))
      exact .cons (by decide) (.cons (wd_nm a) (.cons ⟨int_free _ (.inl (by decide)), by omega⟩ .nil))
    | nam a => exact .cons (wd_nm a) .nil
    | bin _ _ => exact absurd h3 (Op.rk3 _)
  | @bin o l r ul ur k hl hr hk il ir =>
    cases ok with
    | bin okl okr => exact Wds.wrap (((il okl).side _ _).app (.cons (wd_op o) ((ir okr).side _ _))) k
/-! ### words joined -/
abbrev J (us : List Tk) : List Nat := TL.joinL [32] us
theorem J_cons {w : Tk} : ∀ {us : List Tk}, us ≠ [] → J (w :: us) = w ++ 32 :: J us
  | [], h => absurd rfl h
  | _ :: _, _ => rfl
theorem J_app : ∀ {us vs : List Tk}, us ≠ [] → vs ≠ [] → J (us ++ vs) = J us ++ 32 :: J vs
  | [], _, h, _ => absurd rfl h
  | [w], vs, _, h => by show J (w :: vs) = _; rw [J_cons h]; rfl
  | w :: x :: us, vs, _, h => by
    have e : J (w :: x :: us) = w ++ 32 :: J (x :: us) := rfl
    rw [e, List.cons_append, J_cons (by simp), J_app (by simp) h]
    simp
theorem J_par {us : List Tk} (h : us ≠ []) : J (LP :: (us ++ [RP])) = [40, 32] ++ J us ++ [32, 41] := by
  rw [J_cons (by simp), J_app h (by simp)]
  show [40] ++ 32 :: (J us ++ 32 :: [41]) = _
  simp
theorem J_op {us vs : List Tk} {o : Tk} (h : us ≠ []) (k : vs ≠ []) : J (us ++ o :: vs) = J us ++ ([32] ++ o ++ [32]) ++ J vs := by
  rw [J_app h (by simp), J_cons k]
  simp
theorem wrap_ne {us : List Tk} (h : us ≠ []) (k : Nat) : wrap k us ≠ [] := by
  cases k with
  | zero => rw [wrap0]; exact h
  | succ k => rw [wrap_succ]; simp
theorem rep_succ (k : Nat) (x : List Nat) : rep (k + 1) x = x ++ rep k x := by unfold rep; rw [List.replicate_succ, List.flatten_cons]
theorem rep_succ' (k : Nat) (x : List Nat) : rep (k + 1) x = rep k x ++ x := by unfold rep; rw [List.replicate_succ', List.flatten_append]; simp
theorem J_wrap {us : List Tk} (h : us ≠ []) : ∀ k : Nat, J (wrap k us) = rep k [40, 32] ++ J us ++ rep k [32, 41]
  | 0 => by rw [wrap0]; show _ = [] ++ _ ++ []; simp
  | k + 1 => by
    rw [wrap_succ, J_par (wrap_ne h k), J_wrap h k, rep_succ, rep_succ']
    simp
theorem J_len {us : List Tk} (h : Wds us) : (J us).length ≤ 1001 * us.length := by
  induction us with
  | nil => exact Nat.le_refl _
  | cons w us ih =>
    have hw := (h w List.mem_cons_self).2
    have hi := ih fun x hx => h x (List.mem_cons_of_mem _ hx)
    cases us with
    | nil => show w.length ≤ _; simp; omega
    | cons x us =>
      rw [J_cons (by simp), List.length_append, List.length_cons, List.length_cons]
      omega
theorem J_spl {us : List Tk} (h : Wds us) (hn : us ≠ []) : TL.spl [32] 0 [] (J us) = us := SX.spl_join hn fun w hw => (h w hw).1
theorem split_J {us : List Tk} (h : Wds us) (hn : us ≠ []) : Txt.split (S (J us)) " " = us.map S := by
  rw [e32, SX.split_S (by decide) (by decide), J_spl h hn]
end K09

set_option Elab.async false
set_option linter.all false
set_option maxRecDepth 100000
set_option maxHeartbeats 4000000
namespace K09
open PySem PySem.Spec PyProof.Rows L2 Ew
open SX (S)
/-! ### the reader -/
structure UsOk (us : List Tk) : Prop where
  n : us.length ≤ 250
  w : ∀ w ∈ us, w.length ≤ 1000
theorem UsOk.at {us : List Tk} (h : UsOk us) {i : Nat} {w : Tk} (e : us[i]? = some w) : w.length ≤ 1000 := h.w w (List.mem_of_getElem? e)
def wv : Option Tk → V
  | none => .non
  | some w => .str (S w)
structure Rdr (K : PySem.W.Frag) (a : Ad) (r : Addr) (us : List Tk) (i : Nat) (F H : Hp) : Prop where
  ok : UsOk us
  ex : ∃ R W dx, H r = some (.ins a.Reader dx [("_rows", .ref R), ("_line", .int 0), ("_word", .int (i : Nat))]) ∧ SqL K F R [.ref W] ∧ SqL K F W (tsL us)
  fr : F r = none
  fh : Same F H
section
variable {P : Program} {w : World} {K : PySem.W.Frag} {mg : Str → Option Value} {base : Heap} {a : Ad}
theorem ts_at {us : List Tk} {i : Nat} {w : Tk} (h : us[i]? = some w) : atI (tsL us) (i : Int) = some (.str (S w)) := atI_nat (by unfold tsL; rw [List.getElem?_map, h]; rfl)
def sp_peek (K : PySem.W.Frag) (a : Ad) : Sp := fun vs H Q _ => ∃ (F : Hp) (r : Addr) (us : List Tk) (i : Nat), vs = [.ref r] ∧ Rdr K a r us i F H ∧ Q (wv us[i]?) H
theorem m_Reader_peek (T : Txt K mg w a) : Mt P w K mg base 1 a.Reader "peek" P_Reader_peek (sp_peek K a) [] := by
  obtain ⟨f, fd, M, F, b⟩ := T.m_peek.ex
  refine ⟨T.cl, f, fd, [], M, fun_ok F sc_Reader_peek (fun vs H Q E h => by obtain ⟨F, r, us, i, rfl, _⟩ := h; rfl) fun f cdv A outer s H vs Q E hr h => ?_, b, .nil⟩
  obtain ⟨F, r, us, i, rfl, ⟨ok, ⟨R, W, dx, hx, hR, hW⟩, fr, hf⟩, k⟩ := h
  refine ⟨_, ((pss_cons (ps_set (i := 1) sc_Reader_peek.nd rfl (Or.inl rfl) (pe_ifExp (pt_cmpR op_lt (pe_fld (pv 0) rfl) (pe_callB call_len_seq (by rfl) T.n_len (by decide +kernel) (pa_cons (pe_fld (pv 0) rfl) pa_nil)) (nomark _)) (pe_ix ix_list (pe_fld (pv 0) rfl) (pe_fld (pv 0) rfl) (fun _ _ => rfl)) (pe_lst pa_nil)))
 (pss_one (ps_ret (pe_ifExp (pt_cmpR op_lt (pe_fld (pv 0) rfl) (pe_callB (call_min2 rfl) (by rfl) T.n_min (by decide +kernel) (pa_cons (pe_callB call_len_seq (by rfl) T.n_len (by decide +kernel) (pa_cons (pv 1) pa_nil)) (pa_cons (pe_glob (by rfl) T.k_LONGEST_lines ⟨_, rfl⟩ (v := .int 300)) pa_nil))) (nomark _)) (pe_ix ix_list (pv 1) (pe_fld (pv 0) rfl) (fun _ _ => rfl)) pe_non))))), ?_⟩
  refine ⟨_, rfl, r, _, dx, _, _, rfl, hx, T.cl, T.nL, rfl, _, rfl, r, _, dx, _, _, rfl, hx, T.cl, T.nR, rfl, R, _, rfl, .inl (upL hf hR), _, _, rfl, rfl, _, rfl, iteT ?_⟩
  refine ⟨_, rfl, r, _, dx, _, _, rfl, hx, T.cl, T.nR, rfl, _, rfl, r, _, dx, _, _, rfl, hx, T.cl, T.nL, rfl, R, _, 0, .ref W, rfl, rfl, upL hf hR, rfl, ?_⟩
  refine ⟨_, rfl, r, _, dx, _, _, rfl, hx, T.cl, T.nW, rfl, _, rfl, W, _, rfl, .inl (upL hf hW), _, _, rfl, _, _, rfl, rfl, _, rfl, ?_⟩
  have lt : (tsL us).length = us.length := tsL_len us
  have ln := ok.n
  have e1 : (if (300 : Int) < ((tsL us).length : Int) then (300 : Int) else ((tsL us).length : Int)) = (us.length : Int) := by rw [lt, if_neg (by omega)]
  rw [e1]
  rcases Nat.lt_or_ge i us.length with h | h
  · have e : us[i]? = some us[i] := List.getElem?_eq_getElem h
    rw [e] at k
    refine iteY (decide_eq_true (by omega)) ?_
    exact ⟨_, rfl, _, rfl, r, _, dx, _, _, rfl, hx, T.cl, T.nW, rfl, W, _, _, _, rfl, rfl, upL hf hW, ts_at e, k⟩
  · rw [List.getElem?_eq_none h] at k
    exact iteN (by rw [decide_eq_false (by omega)]; exact fun z => nomatch z) k
def sp_take (K : PySem.W.Frag) (a : Ad) : Sp := fun vs H Q _ => ∃ (F : Hp) (r : Addr) (us : List Tk) (i : Nat), vs = [.ref r] ∧ Rdr K a r us i F H ∧ ∀ H', Sb r F H F H' → Rdr K a r us (i + 1) F H' → Q (wv us[i]?) H'
theorem m_Reader_take (T : Txt K mg w a) : Mt P w K mg base 2 a.Reader "take" P_Reader_take (sp_take K a) [] := by
  obtain ⟨f, fd, M, F, b⟩ := T.m_take.ex
  refine ⟨T.cl, f, fd, [], M, fun_ok F sc_Reader_take (fun vs H Q E h => by obtain ⟨F, r, us, i, rfl, _⟩ := h; rfl) fun f cdv A outer s H vs Q E hr h => ?_, b, .nil⟩
  obtain ⟨F, r, us, i, rfl, h, k⟩ := h
  obtain ⟨R, W, dx, hx, hR, hW⟩ := id h.ex
  refine ⟨_, ((pss_cons (ps_set (i := 1) sc_Reader_take.nd rfl (Or.inl rfl) (pe_mf0 (m_Reader_peek T) hr (by decide) (pv 0)))
 (pss_cons (ps_fldaug (pv 0) pe_int in_add)
 (pss_one (ps_ret (pv 1)))))), ?_⟩
  refine ⟨_, rfl, r, dx, _, rfl, hx, rfl, F, r, us, i, rfl, h, ?_⟩
  refine ⟨_, rfl, r, a.Reader, dx, _, _, rfl, hx, T.cl, T.nW, rfl, _, _, rfl, rfl, dx, _, hx, Nat.le_of_ble_eq_true rfl, ?_⟩
  refine ⟨_, rfl, k _ ⟨.refl F, fun b u e => ?_, fun x o n e => ?_, fun x e _ => e⟩ ⟨h.ok, ⟨R, W, dx, upd_same, hR, hW⟩, h.fr, fun b u e => ?_⟩⟩
  · rw [upd_ne (ne_of_none e h.fr)]; exact h.fh b u e
  · rw [upd_ne n]; exact e
  · rw [upd_ne (ne_of_none e h.fr)]; exact h.fh b u e
/-- what is told where word i is refused -/
def No (a : Ad) (r : Addr) (i : Nat) (F H : Hp) (E : XK) : Prop := ∀ F' H' d, Sb r F H F' H' → F' d = some (.xd [("word", .int (i : Nat)), ("line", .int 0)]) → E (.ref a.BadLine) (some d) H'
def sp_refuse (K : PySem.W.Frag) (a : Ad) : Sp := fun vs H Q E => ∃ (F : Hp) (r : Addr) (us : List Tk) (i : Nat), vs = [.ref r] ∧ Rdr K a r us i F H ∧ No a r i F H E
theorem m_Reader_refuse (T : Txt K mg w a) : Mt P w K mg base 3 a.Reader "refuse" P_Reader_refuse (sp_refuse K a) [] := by
  obtain ⟨f, fd, M, F, b⟩ := T.m_refuse.ex
  refine ⟨T.cl, f, fd, [], M, fun_ok F sc_Reader_refuse (fun vs H Q E h => by obtain ⟨F, r, us, i, rfl, _⟩ := h; rfl) fun f cdv A outer s H vs Q E hr h => ?_, b, .nil⟩
  obtain ⟨F, r, us, i, rfl, h, k⟩ := h
  obtain ⟨R, W, dx, hx, hR, hW⟩ := id h.ex
  refine ⟨_, ((pss_one (ps_raise2 rfl (takes_of rfl rfl rfl rfl) (x_BadLine T) hr (by decide) rfl (pe_fld (pv 0) rfl) (pe_fld (pv 0) rfl)))), ?_⟩
  refine ⟨_, rfl, r, a.Reader, dx, _, _, rfl, hx, T.cl, T.nL, rfl, _, rfl, r, a.Reader, dx, _, _, rfl, hx, T.cl, T.nW, rfl, fun d hd => ?_⟩
  exact k _ _ d ((Stm.refl h.fh).new hd hd) upd_same
end
end K09

set_option Elab.async false
set_option linter.all false
set_option maxRecDepth 100000
set_option maxHeartbeats 4000000
namespace K09
open PySem PySem.Spec PyProof.Rows L2 Ew
open SX (S)
section
variable {K : PySem.W.Frag} {a : Ad} {r : Addr} {us : List Tk} {i : Nat} {F H F' H' F2 H2 : Hp}
theorem Rdr.upS (h : Rdr K a r us i F H) (s : Stp F H F' H') : Rdr K a r us i F' H' := by
  obtain ⟨ok, ⟨R, W, dx, hx, hR, hW⟩, fr, hf⟩ := h
  exact ⟨ok, ⟨R, W, dx, s.same _ _ hx, upL s.ff hR, upL s.ff hW⟩, s.nw r fr (by rw [hx]; exact fun z => nomatch z), s.fh⟩
theorem Rdr.ne (h : Rdr K a r us i F H) : H r ≠ none := by
  obtain ⟨R, W, dx, hx, _, _⟩ := h.ex
  rw [hx]
  exact fun z => nomatch z
theorem Rdr.seq (h : Rdr K a r us i F' H') (s : Sb r F H F' H') (t : Sb r F' H' F2 H2) : Sb r F H F2 H2 := s.trans t fun x hx _ => by
  subst hx
  exact h.ne
theorem No.up {E : XK} {m : Nat} (k : No a r i F H E) (h : Rdr K a r us m F2 H2) (s : Sb r F H F2 H2) {j : Nat} (hj : j = i) : No a r j F2 H2 E := fun F' H' d t e => k F' H' d (h.seq s t) (hj ▸ e)
theorem Rdr.lay (h : Rdr K a r us i F H) {p : Addr} {o : HO} (hp : H p = none) : Stp F H (upd F p o) (upd H p o) := stp_new h.fh hp
end
def has : Option Tk → List Tk → Bool
  | none, _ => false
  | some w, xs => decide (w ∈ xs)
theorem inV_wv (o : Option Tk) (xs : List Tk) : inV (wv o) (tsL xs) = has o xs := by
  cases o with
  | some w => exact inV_ts w xs
  | none =>
    show inV .non (tsL xs) = false
    unfold inV tsL
    rw [List.any_map]
    induction xs with
    | nil => rfl
    | cons x xs ih => rw [List.any_cons, ih]; rfl
theorem flat_wv (o : Option Tk) : flatV (wv o) = true := by cases o <;> rfl
theorem non_ty {K : PySem.W.Frag} {H : Hp} : TyX K H .non (.type "NoneType") := .base .non
theorem wh_400 {z : Tk} (h : isWh 30 z = true) : isWh 400 z = true := by
  unfold isWh at h ⊢
  rw [Bool.or_eq_true] at h ⊢
  refine h.imp id fun h => ?_
  unfold isDig at h ⊢
  rw [Bool.and_eq_true, Bool.and_eq_true] at h ⊢
  refine ⟨h.1, ?_, h.2.2⟩
  have := of_decide_eq_true h.2.1
  exact decide_eq_true (by omega)
section
variable {P : Program} {w : World} {K : PySem.W.Frag} {mg : Str → Option Value} {base : Heap} {a : Ad}
theorem StrM.imp {k : Nat} {C : Addr} {m : Str} {sp sp' : Sp} (c : StrM P w K mg base k C m sp) (h : ∀ vs H Q E, sp' vs H Q E → sp vs H Q E) : StrM P w K mg base k C m sp' := by
  obtain ⟨cl, f, M, F⟩ := c
  exact ⟨cl, f, M, F.imp h⟩
/-! ### one of some words -/
def sp_word (K : PySem.W.Frag) (a : Ad) : Sp := fun vs H Q E => ∃ (F : Hp) (r p : Addr) (us xs : List Tk) (i : Nat), vs = [.ref r, .ref p] ∧ SqT K F p (tsL xs) ∧ Rdr K a r us i F H ∧
  (∀ w, us[i]? = some w → w ∈ xs → ∀ F' H', Sb r F H F' H' → Rdr K a r us (i + 1) F' H' → Q (.str (S w)) H') ∧ ((∀ w, us[i]? = some w → w ∉ xs) → No a r i F H E)
def sp_take_word (K : PySem.W.Frag) (a : Ad) : Sp := fun vs H Q E => ∃ (F : Hp) (r : Addr) (us : List Tk) (x : Tk) (i : Nat), vs = [.ref r, .str (S x)] ∧ Rdr K a r us i F H ∧
  (us[i]? = some x → ∀ F' H', Sb r F H F' H' → Rdr K a r us (i + 1) F' H' → Q (.str (S x)) H') ∧ (us[i]? ≠ some x → No a r i F H E)
theorem m_Reader_take_word (T : Txt K mg w a) : StrM P w K mg base 5 a.Reader "take_word" (sp_take_word K a) := by
  refine StrM.imp (T.m_take_word.mt (k := 4) (sp := sp_word K a) T.cl sc_Reader_take_word fun f cdv A outer s H vs Q E hr h => ?_) fun vs H Q E h => ?_
  · obtain ⟨F, r, p, us, xs, i, rfl, hp, h, k1, k2⟩ := h
    obtain ⟨R, W, dx, hx, hR, hW⟩ := id h.ex
    refine ⟨_, ((pss_cons (ps_if (pt_cmpR op_notIn_seq (pe_mf0 (m_Reader_peek T) hr (by decide) (pv 0)) (pv 1) (by rfl))
 (pss_one (ps_expr (pe_mw0 (m_Reader_refuse T) (takes_of rfl rfl rfl rfl) hr (by decide) (pv 0))))
 pss_nil)
 (pss_one (ps_ret (pe_mf0 (m_Reader_take T) hr (by decide) (pv 0)))))), ?_⟩
    refine ⟨_, rfl, r, dx, _, rfl, hx, rfl, F, r, us, i, rfl, h, _, rfl, p, _, rfl, .inr (upT h.fh hp), flat_wv _, flat_ts _, _, rfl, ?_⟩
    rw [if_pos rfl, inV_wv]
    cases e : us[i]? with
    | none =>
      refine iteT ?_
      exact ⟨_, rfl, r, dx, _, rfl, hx, rfl, F, r, us, i, rfl, h, k2 fun w hw => by rw [e] at hw; cases hw⟩
    | some u =>
      by_cases hm : u ∈ xs
      · refine iteN (by show ¬ (!decide (u ∈ xs)) = true; rw [decide_eq_true hm]; decide) ?_
        refine ⟨_, rfl, r, dx, _, rfl, hx, rfl, F, r, us, i, rfl, h, fun H1 s1 h1 => ?_⟩
        rw [e]
        exact k1 u e hm F H1 s1 h1
      · refine iteY (by show (!decide (u ∈ xs)) = true; rw [decide_eq_false hm]; rfl) ?_
        exact ⟨_, rfl, r, dx, _, rfl, hx, rfl, F, r, us, i, rfl, h, k2 fun w hw => by rw [e] at hw; cases hw; exact hm⟩
  · obtain ⟨F, r, us, x, i, rfl, h, k1, k2⟩ := h
    refine ⟨[.ref r], [.str (S x)], rfl, rfl, by show 1 ≤ sizeLine; rw [sizeLine_eq]; decide, fun p hp => ?_⟩
    have s0 := h.lay (o := .tup [.str (S x)]) hp
    have h0 := h.upS s0
    refine ⟨_, r, p, us, [x], i, rfl, SqT.of upd_same, h0, fun w hw hm F' H' s1 h1 => ?_, fun hn => ?_⟩
    · rw [List.mem_singleton] at hm
      subst hm
      exact k1 hw F' H' (h0.seq s0.any s1) h1
    · exact (k2 fun z => hn x z List.mem_cons_self).up h0 s0.any rfl
/-! ### a name -/
def sp_name (K : PySem.W.Frag) (a : Ad) : Sp := fun vs H Q E => ∃ (F : Hp) (r p : Addr) (us : List Tk) (i : Nat), vs = [.ref r, .ref p] ∧ SqT K F p [] ∧ Rdr K a r us i F H ∧
  (∀ n, us[i]? = some n → isNm n = true → ∀ F' H', Sb r F H F' H' → Rdr K a r us (i + 1) F' H' → Q (.str (S n)) H') ∧ ((∀ n, us[i]? = some n → isNm n = false) → No a r i F H E)
def sp_take_name (K : PySem.W.Frag) (a : Ad) : Sp := fun vs H Q E => ∃ (F : Hp) (r : Addr) (us : List Tk) (i : Nat), vs = [.ref r] ∧ Rdr K a r us i F H ∧
  (∀ n, us[i]? = some n → isNm n = true → ∀ F' H', Sb r F H F' H' → Rdr K a r us (i + 1) F' H' → Q (.str (S n)) H') ∧ ((∀ n, us[i]? = some n → isNm n = false) → No a r i F H E)
theorem m_Reader_take_name (T : Txt K mg w a) : StrM P w K mg base 5 a.Reader "take_name" (sp_take_name K a) := by
  refine StrM.imp (T.m_take_name.mt (k := 4) (sp := sp_name K a) T.cl sc_Reader_take_name fun f cdv A outer s H vs Q E hr h => ?_) fun vs H Q E h => ?_
  · obtain ⟨F, r, p, us, i, rfl, hp, h, k1, k2⟩ := h
    obtain ⟨R, W, dx, hx, hR, hW⟩ := id h.ex
    refine ⟨_, ((pss_cons (ps_if (PW.pt (pw_and (pt_cmpR op_notIn_seq (pe_mf0 (m_Reader_peek T) hr (by decide) (pv 0)) (pv 1) (by rfl)) (pw_and1 (pt_not (pt_val (pe_f (c_is_name T) (takes_of rfl rfl rfl rfl) hr (by decide) rfl (pa_cons (pe_mf0 (m_Reader_peek T) hr (by decide) (pv 0)) pa_nil)))))))
 (pss_one (ps_expr (pe_mw0 (m_Reader_refuse T) (takes_of rfl rfl rfl rfl) hr (by decide) (pv 0))))
 pss_nil)
 (pss_one (ps_ret (pe_mf0 (m_Reader_take T) hr (by decide) (pv 0)))))), ?_⟩
    refine ⟨_, rfl, r, dx, _, rfl, hx, rfl, F, r, us, i, rfl, h, _, rfl, p, [], rfl, .inr (upT h.fh hp), flat_wv _, rfl, _, rfl, ?_⟩
    have e0 : (if (true : Bool) = true then !inV (wv us[i]?) [] else inV (wv us[i]?) []) = true := rfl
    rw [e0]
    refine iteT ⟨_, rfl, r, dx, _, rfl, hx, rfl, F, r, us, i, rfl, h, ?_⟩
    cases e : us[i]? with
    | none =>
      refine ⟨F, .non, rfl, h.fh, .inr ⟨_, non_ty, kit_ty (by decide +kernel), _, rfl, iteT ?_⟩⟩
      exact ⟨_, rfl, r, dx, _, rfl, hx, rfl, F, r, us, i, rfl, h, k2 fun w hw => by rw [e] at hw; cases hw⟩
    | some u =>
      refine ⟨F, _, rfl, h.fh, .inl ⟨u, rfl, by have := h.ok.at e; omega, fun F1 H1 s1 => ⟨_, rfl, ?_⟩⟩⟩
      have h1 := h.upS s1
      have hx1 := s1.same _ _ hx
      cases c : isNm u with
      | false =>
        refine iteT ?_
        refine ⟨_, rfl, r, dx, _, rfl, hx1, rfl, F1, r, us, i, rfl, h1, (k2 fun w hw => ?_).up h1 s1.any rfl⟩
        rw [e] at hw
        cases hw
        exact c
      | true =>
        refine iteF ?_
        refine ⟨_, rfl, r, dx, _, rfl, hx1, rfl, F1, r, us, i, rfl, h1, fun H2 s2 h2 => ?_⟩
        rw [e]
        exact k1 u e c F1 H2 (h1.seq s1.any s2) h2
  · obtain ⟨F, r, us, i, rfl, h, k1, k2⟩ := h
    refine ⟨[.ref r], [], rfl, rfl, Nat.zero_le _, fun p hp => ?_⟩
    have s0 := h.lay (o := .tup []) hp
    have h0 := h.upS s0
    exact ⟨_, r, p, us, i, rfl, SqT.of upd_same, h0, fun w hw hm F' H' s1 h1 => k1 w hw hm F' H' (h0.seq s0.any s1) h1, fun hn => (k2 hn).up h0 s0.any rfl⟩
/-! ### a text -/
def sp_take_text (K : PySem.W.Frag) (a : Ad) : Sp := fun vs H Q E => ∃ (F : Hp) (r : Addr) (us : List Tk) (i : Nat), vs = [.ref r] ∧ Rdr K a r us i F H ∧
  (∀ u, us[i]? = some u → u ≠ [] → ∀ F' H', Sb r F H F' H' → Rdr K a r us (i + 1) F' H' → Q (.str (S u)) H') ∧ (us[i]? = none ∨ us[i]? = some [] → No a r i F H E)
theorem m_Reader_take_text (T : Txt K mg w a) : Mt P w K mg base 4 a.Reader "take_text" P_Reader_take_text (sp_take_text K a) [] := by
  obtain ⟨f, fd, M, F, b⟩ := T.m_take_text.ex
  refine ⟨T.cl, f, fd, [], M, fun_ok F sc_Reader_take_text (fun vs H Q E h => by obtain ⟨F, r, us, i, rfl, _⟩ := h; rfl) fun f cdv A outer s H vs Q E hr h => ?_, b, .nil⟩
  obtain ⟨F, r, us, i, rfl, h, k1, k2⟩ := h
  obtain ⟨R, W, dx, hx, hR, hW⟩ := id h.ex
  refine ⟨_, ((pss_cons (ps_if (pt_cmpR op_in_seq (pe_mf0 (m_Reader_peek T) hr (by decide) (pv 0)) (pe_tup (pa_cons pe_non (pa_cons pe_str pa_nil))) (by rfl))
 (pss_one (ps_expr (pe_mw0 (m_Reader_refuse T) (takes_of rfl rfl rfl rfl) hr (by decide) (pv 0))))
 pss_nil)
 (pss_one (ps_ret (pe_mf0 (m_Reader_take T) hr (by decide) (pv 0)))))), ?_⟩
  refine ⟨_, rfl, r, dx, _, rfl, hx, rfl, F, r, us, i, rfl, h, by show 2 ≤ sizeLine; decide, fun p hp => ?_⟩
  have s0 := h.lay (o := .tup [.non, .str ""]) hp
  have h0 := h.upS s0
  have hx0 := s0.same _ _ hx
  refine ⟨p, _, rfl, .inr (SqT.of upd_same), flat_wv _, rfl, _, rfl, ?_⟩
  have ee : inV (wv us[i]?) [.non, .str ""] = (match us[i]? with | none => true | some u => decide (u = [])) := by
    cases us[i]? with
    | none => rfl
    | some u =>
      show (false || (("" : Str) == S u || false)) = decide (u = [])
      rw [e0, SX.S_beq_eq]
      by_cases c : u = [] <;> simp [c, Ne.symm]
  rw [if_neg (by decide), ee]
  cases e : us[i]? with
  | none =>
    exact iteT ⟨_, rfl, r, dx, _, rfl, hx0, rfl, _, r, us, i, rfl, h0, (k2 (.inl e)).up h0 s0.any rfl⟩
  | some u =>
    dsimp only
    by_cases c : u = []
    · subst c
      exact iteY (decide_eq_true rfl) ⟨_, rfl, r, dx, _, rfl, hx0, rfl, _, r, us, i, rfl, h0, (k2 (.inr e)).up h0 s0.any rfl⟩
    · refine iteN (by rw [decide_eq_false c]; decide) ⟨_, rfl, r, dx, _, rfl, hx0, rfl, _, r, us, i, rfl, h0, fun H2 s2 h2 => ?_⟩
      rw [e]
      exact k1 u e c _ H2 (h0.seq s0.any s2) h2
/-! ### an integer -/
def sp_take_integer (K : PySem.W.Frag) (a : Ad) : Sp := fun vs H Q E => ∃ (F : Hp) (r : Addr) (us : List Tk) (i : Nat), vs = [.ref r] ∧ Rdr K a r us i F H ∧
  (∀ z, us[i]? = some z → isWh 30 z = true → ∀ F' H', Sb r F H F' H' → Rdr K a r us (i + 1) F' H' → Q (.int (wholeVal z)) H') ∧ ((∀ z, us[i]? = some z → isWh 30 z = false) → No a r i F H E)
theorem m_Reader_take_integer (T : Txt K mg w a) : Mt P w K mg base 4 a.Reader "take_integer" P_Reader_take_integer (sp_take_integer K a) [] := by
  obtain ⟨f, fd, M, F, b⟩ := T.m_take_integer.ex
  refine ⟨T.cl, f, fd, [], M, fun_ok F sc_Reader_take_integer (fun vs H Q E h => by obtain ⟨F, r, us, i, rfl, _⟩ := h; rfl) fun f cdv A outer s H vs Q E hr h => ?_, b, .nil⟩
  obtain ⟨F, r, us, i, rfl, h, k1, k2⟩ := h
  obtain ⟨R, W, dx, hx, hR, hW⟩ := id h.ex
  refine ⟨_, ((pss_cons (ps_set (i := 1) sc_Reader_take_integer.nd rfl (Or.inl rfl) (pe_mf0 (m_Reader_peek T) hr (by decide) (pv 0)))
 (pss_cons (ps_if (PW.pt (pw_or (pt_cmpR op_isN (pv 1) pe_non (nomark _)) (pw_or1 (pt_not (pt_val (pe_f (c_is_whole T) (takes_of rfl rfl rfl rfl) hr (by decide) rfl (pa_cons (pv 1) (pa_cons (pe_glob (by rfl) T.k_DIGITS_lines ⟨_, rfl⟩ (v := .int 30)) pa_nil))))))))
 (pss_one (ps_expr (pe_mw0 (m_Reader_refuse T) (takes_of rfl rfl rfl rfl) hr (by decide) (pv 0))))
 pss_nil)
 (pss_one (ps_ret (pe_callTy call_int_str (by rfl) T.n_int (by decide +kernel) (pa_cons (pe_mf0 (m_Reader_take T) hr (by decide) (pv 0)) pa_nil))))))), ?_⟩
  refine ⟨_, rfl, r, dx, _, rfl, hx, rfl, F, r, us, i, rfl, h, ?_⟩
  cases e : us[i]? with
  | none =>
    refine ⟨_, rfl, rfl, true, rfl, iteT ?_⟩
    exact ⟨_, rfl, r, dx, _, rfl, hx, rfl, F, r, us, i, rfl, h, k2 fun w hw => by rw [e] at hw; cases hw⟩
  | some u =>
    refine ⟨_, rfl, rfl, false, rfl, iteF ⟨_, rfl, F, u, 30, rfl, by have := h.ok.at e; omega, h.fh, fun F1 H1 v s1 ev => ⟨_, ev, ?_⟩⟩⟩
    have h1 := h.upS s1
    have hx1 := s1.same _ _ hx
    cases c : isWh 30 u with
    | false =>
      refine iteT ⟨_, rfl, r, dx, _, rfl, hx1, rfl, F1, r, us, i, rfl, h1, (k2 fun w hw => ?_).up h1 s1.any rfl⟩
      rw [e] at hw
      cases hw
      exact c
    | true =>
      refine iteF ⟨_, rfl, r, dx, _, rfl, hx1, rfl, F1, r, us, i, rfl, h1, fun H2 s2 h2 => ?_⟩
      rw [e]
      exact ⟨_, _, rfl, int_wh (wh_400 c), by rw [SX.S_len]; have := wh_len (wh_400 c); omega, k1 u e c _ H2 (h1.seq s1.any s2) h2⟩
/-! ### a ratio -/
def rdO (o : Option Tk) : Bool := match o with | none => false | some w => (rdVal w).isSome
def sp_has_ratio (K : PySem.W.Frag) (a : Ad) : Sp := fun vs H Q _ => ∃ (F : Hp) (r : Addr) (us : List Tk) (i : Nat), vs = [.ref r] ∧ Rdr K a r us i F H ∧ ∀ F' H', Stp F H F' H' → Q (.bl (rdO us[i]?)) H'
theorem m_Reader_has_ratio (T : Txt K mg w a) : Mt P w K mg base 4 a.Reader "has_ratio" P_Reader_has_ratio (sp_has_ratio K a) [] := by
  obtain ⟨f, fd, M, F, b⟩ := T.m_has_ratio.ex
  refine ⟨T.cl, f, fd, [], M, fun_ok F sc_Reader_has_ratio (fun vs H Q E h => by obtain ⟨F, r, us, i, rfl, _⟩ := h; rfl) fun f cdv A outer s H vs Q E hr h => ?_, b, .nil⟩
  obtain ⟨F, r, us, i, rfl, h, k⟩ := h
  obtain ⟨R, W, dx, hx, hR, hW⟩ := id h.ex
  refine ⟨_, ((pss_cons (ps_tryN rfl rfl sc_Reader_has_ratio.nd (takes_of rfl rfl rfl rfl)
 (fun W pn xe tk tkp => (pss_one (ps_expr (pe_f (c_read_ratio T) tk hr (by decide) rfl (pa_cons (pe_mf0 (m_Reader_peek T) hr (by decide) (pv 0)) pa_nil)))))
 (.pl ⟨rfl, by decide, .inl T.g_BadRatio⟩ (fun xa oe cls d pn hz hf => (pss_one (ps_ret pe_bl))) .nil))
 (pss_one (ps_ret pe_bl)))), ?_⟩
  refine ⟨_, rfl, r, dx, _, rfl, hx, rfl, F, r, us, i, rfl, h, ?_⟩
  cases e : us[i]? with
  | none =>
    rw [e] at k
    exact ⟨F, .non, rfl, h.fh, .inr ⟨_, non_ty, kit_ty (by decide +kernel), fun F1 H1 d s1 _ => ⟨true, T.em_BadRatio, fun _ ea hea => k F1 H1 s1, fun z => nomatch z⟩⟩⟩
  | some u =>
    rw [e] at k
    refine ⟨F, _, rfl, h.fh, .inl ⟨u, rfl, by have := h.ok.at e; omega, fun q hq F1 H1 z s1 hz => ?_, fun hn F1 H1 d s1 _ => ⟨true, T.em_BadRatio, fun _ ea hea => ?_, fun z => nomatch z⟩⟩⟩
    · have er : rdO (some u) = true := by show (rdVal u).isSome = true; rw [hq]; rfl
      exact er ▸ k F1 H1 s1
    · have er : rdO (some u) = false := by show (rdVal u).isSome = false; rw [hn]; rfl
      exact er ▸ k F1 H1 s1
def sp_take_ratio (K : PySem.W.Frag) (a : Ad) : Sp := fun vs H Q E => ∃ (F : Hp) (r : Addr) (us : List Tk) (u : Tk) (q : Int × Int) (i : Nat), vs = [.ref r] ∧ Rdr K a r us i F H ∧ us[i]? = some u ∧ rdVal u = some q ∧
  ∀ F' H' z, Sb r F H F' H' → Rdr K a r us (i + 1) F' H' → Rt K F' z q → Q z H'
theorem m_Reader_take_ratio (T : Txt K mg w a) : Mt P w K mg base 5 a.Reader "take_ratio" P_Reader_take_ratio (sp_take_ratio K a) [] := by
  obtain ⟨f, fd, M, F, b⟩ := T.m_take_ratio.ex
  refine ⟨T.cl, f, fd, [], M, fun_ok F sc_Reader_take_ratio (fun vs H Q E h => by obtain ⟨F, r, us, u, q, i, rfl, _⟩ := h; rfl) fun f cdv A outer s H vs Q E hr h => ?_, b, .nil⟩
  obtain ⟨F, r, us, u, q, i, rfl, h, e, hq, k⟩ := h
  obtain ⟨R, W, dx, hx, hR, hW⟩ := id h.ex
  refine ⟨_, ((pss_cons (ps_if (pt_not (pt_val (pe_mf0 (m_Reader_has_ratio T) hr (by decide) (pv 0))))
 (pss_one (ps_expr (pe_mw0 (m_Reader_refuse T) (takes_of rfl rfl rfl rfl) hr (by decide) (pv 0))))
 pss_nil)
 (pss_one (ps_ret (pe_f (c_read_ratio T) (takes_of rfl rfl rfl rfl) hr (by decide) rfl (pa_cons (pe_mf0 (m_Reader_take T) hr (by decide) (pv 0)) pa_nil)))))), ?_⟩
  refine ⟨_, rfl, r, dx, _, rfl, hx, rfl, F, r, us, i, rfl, h, fun F1 H1 s1 => ⟨_, rfl, ?_⟩⟩
  have h1 := h.upS s1
  have hx1 := s1.same _ _ hx
  have er : rdO us[i]? = true := by rw [e]; show (rdVal u).isSome = true; rw [hq]; rfl
  rw [er]
  refine iteF ⟨_, rfl, r, dx, _, rfl, hx1, rfl, F1, r, us, i, rfl, h1, fun H2 s2 h2 => ?_⟩
  rw [e]
  refine ⟨F1, _, rfl, h2.fh, .inl ⟨u, rfl, by have := h.ok.at e; omega, fun q' hq' F3 H3 z s3 hz => ?_, fun hn => ?_⟩⟩
  · rw [hq] at hq'
    cases hq'
    exact k F3 H3 z (h2.seq (h1.seq s1.any s2) s3.any) (h2.upS s3) hz
  · rw [hq] at hn
    cases hn
/-! ### the end of the line -/
def sp_end_line (K : PySem.W.Frag) (a : Ad) : Sp := fun vs H Q E => ∃ (F : Hp) (r : Addr) (us : List Tk) (i : Nat), vs = [.ref r] ∧ Rdr K a r us i F H ∧ (us.length ≤ i → ∀ H', Sb r F H F H' → Q .non H') ∧ (i < us.length → No a r i F H E)
theorem m_Reader_end_line (T : Txt K mg w a) : Mt P w K mg base 4 a.Reader "end_line" P_Reader_end_line (sp_end_line K a) [] := by
  obtain ⟨f, fd, M, F, b⟩ := T.m_end_line.ex
  refine ⟨T.cl, f, fd, [], M, fun_ok F sc_Reader_end_line (fun vs H Q E h => by obtain ⟨F, r, us, i, rfl, _⟩ := h; rfl) fun f cdv A outer s H vs Q E hr h => ?_, b, .nil⟩
  obtain ⟨F, r, us, i, rfl, h, k1, k2⟩ := h
  obtain ⟨R, W, dx, hx, hR, hW⟩ := id h.ex
  refine ⟨_, ((pss_cons (ps_if (pt_cmpR op_lt (pe_fld (pv 0) rfl) (pe_callB call_len_seq (by rfl) T.n_len (by decide +kernel) (pa_cons (pe_ix ix_list (pe_fld (pv 0) rfl) (pe_fld (pv 0) rfl) (fun _ _ => rfl)) pa_nil)) (nomark _))
 (pss_one (ps_expr (pe_mw0 (m_Reader_refuse T) (takes_of rfl rfl rfl rfl) hr (by decide) (pv 0))))
 pss_nil)
 (pss_cons (ps_fldaug (pv 0) pe_int in_add)
 (pss_one (ps_fld (pv 0) pe_int rfl))))), ?_⟩
  have lt : (tsL us).length = us.length := tsL_len us
  refine ⟨_, rfl, r, _, dx, _, _, rfl, hx, T.cl, T.nW, rfl, _, rfl, r, _, dx, _, _, rfl, hx, T.cl, T.nR, rfl, _, rfl, r, _, dx, _, _, rfl, hx, T.cl, T.nL, rfl, R, _, 0, .ref W, rfl, rfl, upL h.fh hR, rfl, W, _, rfl, .inl (upL h.fh hW), _, _, rfl, rfl, _, rfl, ?_⟩
  rw [lt]
  rcases Nat.lt_or_ge i us.length with c | c
  · exact iteY (decide_eq_true (by omega)) ⟨_, rfl, r, dx, _, rfl, hx, rfl, F, r, us, i, rfl, h, k2 c⟩
  · refine iteN (by rw [decide_eq_false (by omega)]; exact fun z => nomatch z) ?_
    refine ⟨_, rfl, r, a.Reader, dx, _, _, rfl, hx, T.cl, T.nL, rfl, _, _, rfl, rfl, dx, _, hx, Nat.le_of_ble_eq_true rfl, ?_⟩
    refine ⟨_, rfl, r, a.Reader, dx, _, rfl, upd_same, T.cl, T.nW, Nat.le_of_ble_eq_true rfl, ?_⟩
    refine k1 c _ ⟨.refl F, fun b u e => ?_, fun x o n e => ?_, fun x e _ => e⟩
    · rw [upd_ne (ne_of_none e h.fr), upd_ne (ne_of_none e h.fr)]; exact h.fh b u e
    · rw [upd_ne n, upd_ne n]; exact e
end
end K09

set_option Elab.async false
set_option linter.all false
set_option maxRecDepth 100000
set_option maxHeartbeats 4000000
namespace K09
open PySem PySem.Spec PyProof.Rows L2 Ew
open SX (S)
/-! ### the parser -/
def Res (K : PySem.W.Frag) (a : Ad) (r : Addr) (us : List Tk) (F H : Hp) (Q : VK) (E : XK) : Option Tr → Nat → Prop
  | some t, j => ∀ F' H' v, Sb r F H F' H' → Rdr K a r us j F' H' → TrV K F' v t → Q v H'
  | none, j => No a r j F H E
def sp_job (K : PySem.W.Frag) (a : Ad) (J : Job) (n : Nat) : Sp := fun vs H Q E => ∃ (F : Hp) (r : Addr) (us : List Tk) (d i : Nat) (res : Option Tr) (j : Nat), vs = [.ref r, .int (40 - (d : Int))] ∧ d < n ∧ Rdr K a r us i F H ∧ Pr us J d i res j ∧ Res K a r us F H Q E res j
theorem dec_wv (o : Option Tk) (x : Tk) : decide (wv o = V.str (S x)) = decide (o = some x) := by
  cases o with
  | none => rw [decide_eq_false (fun z => nomatch z), decide_eq_false (fun z => nomatch z)]
  | some u =>
    show decide (V.str (S u) = V.str (S x)) = _
    rw [S_dec]
    by_cases h : u = x
    · subst h; simp
    · rw [decide_eq_false h, decide_eq_false (fun z => h (Option.some.inj z))]
theorem scal_wv (o : Option Tk) (x : Str) : scal (wv o) (.str x) = true := by cases o <;> rfl
theorem eLP : ("(" : Str) = S LP := by decide +kernel
theorem eRP : (")" : Str) = S RP := by decide +kernel
theorem eSz : ("size" : Str) = S wSz := by decide +kernel
theorem eOf : ("offset" : Str) = S wOf := by decide +kernel
theorem dpt (r : Addr) (d : Nat) : [V.ref r, V.int (40 - ((d + 1 : Nat) : Int) + 1)] ++ [] = [V.ref r, V.int (40 - (d : Int))] := by
  rw [List.append_nil, show (40 - ((d + 1 : Nat) : Int) + 1) = 40 - (d : Int) by omega]
section
variable {P : Program} {w : World} {K : PySem.W.Frag} {mg : Str → Option Value} {base : Heap} {a : Ad}
theorem c__take_part (T : Txt K mg w a) {n L : Nat} (hL : 6 ≤ L) (ih : Cl P w K mg base L "take_expression" P_take_expression (sp_job K a .expr n) []) : Cl P w K mg base (L + 1) "_take_part" P__take_part (sp_job K a .part (n + 1)) [] :=
  T.d__take_part.cl sc__take_part (fun vs H Q E h => by obtain ⟨F, r, us, d, i, res, j, rfl, _⟩ := h; rfl) fun f cdv A outer s H vs Q E hr h => by
    obtain ⟨F, r, us, d, i, res, j, rfl, hd, h, hp, k⟩ := h
    obtain ⟨R, W, dx, hx, hR, hW⟩ := id h.ex
    refine ⟨_, ((pss_cons (ps_set (i := 2) sc__take_part.nd rfl (Or.inl rfl) (pe_mf0 (m_Reader_peek T) hr (by omega) (pv 0)))
 (pss_cons (ps_if (PW.pt (pw_and (pt_cmpR op_eq (pv 2) pe_str (nomark _)) (pw_and1 (pt_cmpR op_lt (pv 1) (pe_glob (by rfl) T.k_PARENTHESES ⟨_, rfl⟩ (v := .int 40)) (nomark _)))))
 (pss_cons (ps_expr (pe_mf0 (m_Reader_take T) hr (by omega) (pv 0)))
 (pss_cons (ps_set (i := 3) sc__take_part.nd rfl (Or.inl rfl) (pe_f ih (takes_of rfl rfl rfl rfl) hr (by omega) rfl (pa_cons (pv 0) (pa_cons (pe_op op_add (pv 1) pe_int) pa_nil))))
 (pss_cons (ps_expr (pe_mr (m_Reader_take_word T) (takes_of rfl rfl rfl rfl) hr (by omega) (pv 0) (pa_cons pe_str pa_nil)))
 (pss_one (ps_ret (pv 3))))))
 pss_nil)
 (pss_cons (ps_if (pt_val (pe_mf0 (m_Reader_has_ratio T) hr (by omega) (pv 0)))
 (pss_cons (ps_set (i := 4) sc__take_part.nd rfl (Or.inl rfl) (pe_mw0 (m_Reader_take_ratio T) (takes_of rfl rfl rfl rfl) hr (by omega) (pv 0)))
 (pss_one (ps_ret (pe_tup (pa_cons pe_str (pa_cons (pv 4) (pa_cons (pe_mw0 (m_Reader_take_text T) (takes_of rfl rfl rfl rfl) hr (by omega) (pv 0)) pa_nil)))))))
 pss_nil)
 (pss_cons (ps_if (pt_cmpR op_eq (pv 2) pe_str (nomark _))
 (pss_one (ps_ret (pe_tup (pa_cons (pe_mf0 (m_Reader_take T) hr (by omega) (pv 0)) (pa_cons (pe_mr0 (m_Reader_take_name T) (takes_of rfl rfl rfl rfl) hr (by omega) (pv 0)) pa_nil)))))
 pss_nil)
 (pss_cons (ps_if (pt_cmpR op_eq (pv 2) pe_str (nomark _))
 (pss_one (ps_ret (pe_tup (pa_cons (pe_mf0 (m_Reader_take T) hr (by omega) (pv 0)) (pa_cons (pe_mr0 (m_Reader_take_name T) (takes_of rfl rfl rfl rfl) hr (by omega) (pv 0)) (pa_cons (pe_mw0 (m_Reader_take_integer T) (takes_of rfl rfl rfl rfl) hr (by omega) (pv 0)) pa_nil))))))
 pss_nil)
 (pss_one (ps_ret (pe_tup (pa_cons pe_str (pa_cons (pe_mr0 (m_Reader_take_name T) (takes_of rfl rfl rfl rfl) hr (by omega) (pv 0)) pa_nil))))))))))), ?_⟩
    refine ⟨_, rfl, r, dx, _, rfl, hx, rfl, F, r, us, i, rfl, h, ?_⟩
    refine ⟨_, rfl, scal_wv _ _, _, rfl, ?_⟩
    rw [eLP, dec_wv]
    cases hp with
    | @par d i j t e0 he e1 =>
      rw [decide_eq_true e0]
      refine iteT ⟨_, rfl, _, _, rfl, rfl, _, rfl, iteY (decide_eq_true (by omega)) ?_⟩
      refine ⟨_, rfl, r, dx, _, rfl, hx, rfl, F, r, us, i, rfl, h, fun H1 s1 h1 => ?_⟩
      refine ⟨_, rfl, _, rfl, _, _, rfl, rfl, F, r, us, d, i + 1, some t, j, dpt r d, by omega, h1, he, fun F2 H2 v2 s2 h2 tv => ?_⟩
      obtain ⟨R2, W2, dx2, hx2, _, _⟩ := id h2.ex
      refine ⟨_, rfl, r, dx2, _, rfl, hx2, rfl, F2, r, us, RP, j, congrArg (fun z => [V.ref r, V.str z]) eRP, h2, fun _ F3 H3 s3 h3 => ?_, fun z => absurd e1 z⟩
      exact ⟨_, rfl, k F3 H3 v2 (h2.seq (h1.seq s1 s2) s3) h3 (tv.up s3.ff)⟩
    | @parI d i j e0 he =>
      rw [decide_eq_true e0]
      refine iteT ⟨_, rfl, _, _, rfl, rfl, _, rfl, iteY (decide_eq_true (by omega)) ?_⟩
      refine ⟨_, rfl, r, dx, _, rfl, hx, rfl, F, r, us, i, rfl, h, fun H1 s1 h1 => ?_⟩
      exact ⟨_, rfl, _, rfl, _, _, rfl, rfl, F, r, us, d, i + 1, none, j, dpt r d, by omega, h1, he, No.up k h1 s1 rfl⟩
    | @parN d i j t e0 he e1 =>
      rw [decide_eq_true e0]
      refine iteT ⟨_, rfl, _, _, rfl, rfl, _, rfl, iteY (decide_eq_true (by omega)) ?_⟩
      refine ⟨_, rfl, r, dx, _, rfl, hx, rfl, F, r, us, i, rfl, h, fun H1 s1 h1 => ?_⟩
      refine ⟨_, rfl, _, rfl, _, _, rfl, rfl, F, r, us, d, i + 1, some t, j, dpt r d, by omega, h1, he, fun F2 H2 v2 s2 h2 tv => ?_⟩
      obtain ⟨R2, W2, dx2, hx2, _, _⟩ := id h2.ex
      exact ⟨_, rfl, r, dx2, _, rfl, hx2, rfl, F2, r, us, RP, j, congrArg (fun z => [V.ref r, V.str z]) eRP, h2, fun z => absurd z e1, fun _ => No.up k h2 (h1.seq s1 s2) rfl⟩
    | @amt d i w q u e0 hq e1 hu =>
      rw [decide_eq_false (fun z => by rw [e0] at z; injection z with z; rw [z, rd_LP] at hq; cases hq)]
      refine iteF ⟨_, rfl, r, dx, _, rfl, hx, rfl, F, r, us, i, rfl, h, fun F1 H1 s1 => ⟨_, rfl, ?_⟩⟩
      have h1 := h.upS s1
      have hx1 := s1.same _ _ hx
      have er : rdO us[i]? = true := by rw [e0]; show (rdVal w).isSome = true; rw [hq]; rfl
      rw [er]
      refine iteT ⟨_, rfl, r, dx, _, rfl, hx1, rfl, F1, r, us, w, q, i, rfl, h1, e0, hq, fun F2 H2 z s2 h2 hz => ?_⟩
      obtain ⟨R2, W2, dx2, hx2, _, _⟩ := id h2.ex
      have t2 := h1.seq s1.any s2
      refine ⟨_, rfl, _, rfl, r, dx2, _, rfl, hx2, rfl, F2, r, us, i + 1, rfl, h2, fun u' eu' _ F3 H3 s3 h3 => ?_, fun z => ?_⟩
      · rw [e1] at eu'
        cases eu'
        refine ⟨by show 3 ≤ sizeLine; decide, fun p hp => ?_⟩
        have s4 := h3.lay (o := .tup [.str "amount", z, .str (S u)]) hp
        exact k _ _ _ (h3.seq (h2.seq t2 s3) s4.any) (h3.upS s4) (.amt (SqT.of upd_same) ((hz.up s3.ff).up s4.ff))
      · rw [e1] at z
        rcases z with z | z
        · cases z
        · cases z; exact absurd rfl hu
    | @amtN d i w q e0 hq e1 =>
      rw [decide_eq_false (fun z => by rw [e0] at z; injection z with z; rw [z, rd_LP] at hq; cases hq)]
      refine iteF ⟨_, rfl, r, dx, _, rfl, hx, rfl, F, r, us, i, rfl, h, fun F1 H1 s1 => ⟨_, rfl, ?_⟩⟩
      have h1 := h.upS s1
      have hx1 := s1.same _ _ hx
      have er : rdO us[i]? = true := by rw [e0]; show (rdVal w).isSome = true; rw [hq]; rfl
      rw [er]
      refine iteT ⟨_, rfl, r, dx, _, rfl, hx1, rfl, F1, r, us, w, q, i, rfl, h1, e0, hq, fun F2 H2 z s2 h2 hz => ?_⟩
      obtain ⟨R2, W2, dx2, hx2, _, _⟩ := id h2.ex
      have t2 := h1.seq s1.any s2
      refine ⟨_, rfl, _, rfl, r, dx2, _, rfl, hx2, rfl, F2, r, us, i + 1, rfl, h2, fun u' eu' hu' F3 H3 s3 h3 => ?_, fun z => No.up k h2 t2 rfl⟩
      rcases e1 with e1 | e1
      · rw [e1] at eu'; cases eu'
      · rw [e1] at eu'; cases eu'; exact absurd rfl hu' 
    | @siz d i n e0 e1 hn =>
      rw [decide_eq_false (by rw [e0]; decide)]
      refine iteF ⟨_, rfl, r, dx, _, rfl, hx, rfl, F, r, us, i, rfl, h, fun F1 H1 s1 => ⟨_, rfl, ?_⟩⟩
      have h1 := h.upS s1
      have hx1 := s1.same _ _ hx
      have er : rdO us[i]? = false := by rw [e0]; show (rdVal wSz).isSome = false; rw [rd_sz]; rfl
      rw [er]
      refine iteF ⟨_, rfl, scal_wv _ _, _, rfl, ?_⟩
      rw [eSz, dec_wv]
      rw [decide_eq_true e0]
      refine iteT ⟨_, rfl, r, dx, _, rfl, hx1, rfl, F1, r, us, i, rfl, h1, fun H2 s2 h2 => ?_⟩
      obtain ⟨R2, W2, dx2, hx2, _, _⟩ := id h2.ex
      have t2 := h1.seq s1.any s2
      rw [e0]
      refine ⟨_, rfl, r, dx2, _, rfl, hx2, rfl, F1, r, us, i + 1, rfl, h2, fun n' en' _ F3 H3 s3 h3 => ?_, fun z => by rw [z n e1] at hn; cases hn⟩
      rw [e1] at en'
      cases en'
      refine ⟨by show 2 ≤ sizeLine; decide, fun p hp => ?_⟩
      have s4 := h3.lay (o := .tup [.str (S wSz), .str (S n)]) hp
      exact k _ _ _ (h3.seq (h2.seq t2 s3) s4.any) (h3.upS s4) (.siz (by rw [eSz]; exact SqT.of upd_same))
    | @sizN d i e0 hn =>
      rw [decide_eq_false (by rw [e0]; decide)]
      refine iteF ⟨_, rfl, r, dx, _, rfl, hx, rfl, F, r, us, i, rfl, h, fun F1 H1 s1 => ⟨_, rfl, ?_⟩⟩
      have h1 := h.upS s1
      have hx1 := s1.same _ _ hx
      have er : rdO us[i]? = false := by rw [e0]; show (rdVal wSz).isSome = false; rw [rd_sz]; rfl
      rw [er]
      refine iteF ⟨_, rfl, scal_wv _ _, _, rfl, ?_⟩
      rw [eSz, dec_wv]
      rw [decide_eq_true e0]
      refine iteT ⟨_, rfl, r, dx, _, rfl, hx1, rfl, F1, r, us, i, rfl, h1, fun H2 s2 h2 => ?_⟩
      obtain ⟨R2, W2, dx2, hx2, _, _⟩ := id h2.ex
      have t2 := h1.seq s1.any s2
      rw [e0]
      refine ⟨_, rfl, r, dx2, _, rfl, hx2, rfl, F1, r, us, i + 1, rfl, h2, fun n' en' hn' F3 H3 s3 h3 => ?_, fun z => No.up k h2 t2 rfl⟩
      rw [hn n' en'] at hn'; cases hn'
    | @off d i n z e0 e1 hn e2 hz =>
      rw [decide_eq_false (by rw [e0]; decide)]
      refine iteF ⟨_, rfl, r, dx, _, rfl, hx, rfl, F, r, us, i, rfl, h, fun F1 H1 s1 => ⟨_, rfl, ?_⟩⟩
      have h1 := h.upS s1
      have hx1 := s1.same _ _ hx
      have er : rdO us[i]? = false := by rw [e0]; show (rdVal wOf).isSome = false; rw [rd_of]; rfl
      rw [er]
      refine iteF ⟨_, rfl, scal_wv _ _, _, rfl, ?_⟩
      rw [eSz, dec_wv]
      rw [decide_eq_false (by rw [e0]; decide)]
      refine iteF ⟨_, rfl, scal_wv _ _, _, rfl, ?_⟩
      rw [eOf, dec_wv, decide_eq_true e0]
      refine iteT ⟨_, rfl, r, dx, _, rfl, hx1, rfl, F1, r, us, i, rfl, h1, fun H2 s2 h2 => ?_⟩
      obtain ⟨R2, W2, dx2, hx2, _, _⟩ := id h2.ex
      have t2 := h1.seq s1.any s2
      rw [e0]
      refine ⟨_, rfl, r, dx2, _, rfl, hx2, rfl, F1, r, us, i + 1, rfl, h2, fun n' en' _ F3 H3 s3 h3 => ?_, fun z => by rw [z n e1] at hn; cases hn⟩
      rw [e1] at en'
      cases en'
      obtain ⟨R3, W3, dx3, hx3, _, _⟩ := id h3.ex
      have t3 := h2.seq t2 s3
      refine ⟨_, rfl, r, dx3, _, rfl, hx3, rfl, F3, r, us, i + 1 + 1, rfl, h3, fun z' ez' _ F4 H4 s4 h4 => ?_, fun y => by rw [y z e2] at hz; cases hz⟩
      rw [e2] at ez'
      cases ez'
      refine ⟨by show 3 ≤ sizeLine; decide, fun p hp => ?_⟩
      have s5 := h4.lay (o := .tup [.str (S wOf), .str (S n), .int (wholeVal z)]) hp
      exact k _ _ _ (h4.seq (h3.seq t3 s4) s5.any) (h4.upS s5) (.off (by rw [eOf]; exact SqT.of upd_same))
    | @offN d i e0 hn =>
      rw [decide_eq_false (by rw [e0]; decide)]
      refine iteF ⟨_, rfl, r, dx, _, rfl, hx, rfl, F, r, us, i, rfl, h, fun F1 H1 s1 => ⟨_, rfl, ?_⟩⟩
      have h1 := h.upS s1
      have hx1 := s1.same _ _ hx
      have er : rdO us[i]? = false := by rw [e0]; show (rdVal wOf).isSome = false; rw [rd_of]; rfl
      rw [er]
      refine iteF ⟨_, rfl, scal_wv _ _, _, rfl, ?_⟩
      rw [eSz, dec_wv]
      rw [decide_eq_false (by rw [e0]; decide)]
      refine iteF ⟨_, rfl, scal_wv _ _, _, rfl, ?_⟩
      rw [eOf, dec_wv, decide_eq_true e0]
      refine iteT ⟨_, rfl, r, dx, _, rfl, hx1, rfl, F1, r, us, i, rfl, h1, fun H2 s2 h2 => ?_⟩
      obtain ⟨R2, W2, dx2, hx2, _, _⟩ := id h2.ex
      have t2 := h1.seq s1.any s2
      rw [e0]
      refine ⟨_, rfl, r, dx2, _, rfl, hx2, rfl, F1, r, us, i + 1, rfl, h2, fun n' en' hn' F3 H3 s3 h3 => ?_, fun z => No.up k h2 t2 rfl⟩
      rw [hn n' en'] at hn'; cases hn'
    | @offM d i n e0 e1 hn hz =>
      rw [decide_eq_false (by rw [e0]; decide)]
      refine iteF ⟨_, rfl, r, dx, _, rfl, hx, rfl, F, r, us, i, rfl, h, fun F1 H1 s1 => ⟨_, rfl, ?_⟩⟩
      have h1 := h.upS s1
      have hx1 := s1.same _ _ hx
      have er : rdO us[i]? = false := by rw [e0]; show (rdVal wOf).isSome = false; rw [rd_of]; rfl
      rw [er]
      refine iteF ⟨_, rfl, scal_wv _ _, _, rfl, ?_⟩
      rw [eSz, dec_wv]
      rw [decide_eq_false (by rw [e0]; decide)]
      refine iteF ⟨_, rfl, scal_wv _ _, _, rfl, ?_⟩
      rw [eOf, dec_wv, decide_eq_true e0]
      refine iteT ⟨_, rfl, r, dx, _, rfl, hx1, rfl, F1, r, us, i, rfl, h1, fun H2 s2 h2 => ?_⟩
      obtain ⟨R2, W2, dx2, hx2, _, _⟩ := id h2.ex
      have t2 := h1.seq s1.any s2
      rw [e0]
      refine ⟨_, rfl, r, dx2, _, rfl, hx2, rfl, F1, r, us, i + 1, rfl, h2, fun n' en' _ F3 H3 s3 h3 => ?_, fun z => by rw [z n e1] at hn; cases hn⟩
      rw [e1] at en'
      cases en'
      obtain ⟨R3, W3, dx3, hx3, _, _⟩ := id h3.ex
      have t3 := h2.seq t2 s3
      refine ⟨_, rfl, r, dx3, _, rfl, hx3, rfl, F3, r, us, i + 1 + 1, rfl, h3, fun z' ez' hz' F4 H4 s4 h4 => ?_, fun z => No.up k h3 t3 rfl⟩
      rw [hz z' ez'] at hz'; cases hz'
    | @nam d i n e0 hn =>
      rw [decide_eq_false (fun z => by rw [e0] at z; injection z with z; rw [z, nm_LP] at hn; cases hn)]
      refine iteF ⟨_, rfl, r, dx, _, rfl, hx, rfl, F, r, us, i, rfl, h, fun F1 H1 s1 => ⟨_, rfl, ?_⟩⟩
      have h1 := h.upS s1
      have hx1 := s1.same _ _ hx
      have er : rdO us[i]? = false := by rw [e0]; show (rdVal n).isSome = false; rw [rd_nm hn]; rfl
      rw [er]
      refine iteF ⟨_, rfl, scal_wv _ _, _, rfl, ?_⟩
      rw [eSz, dec_wv]
      rw [decide_eq_false (fun z => by rw [e0] at z; injection z with z; rw [z, nm_sz] at hn; cases hn)]
      refine iteF ⟨_, rfl, scal_wv _ _, _, rfl, ?_⟩
      rw [eOf, dec_wv, decide_eq_false (fun z => by rw [e0] at z; injection z with z; rw [z, nm_of] at hn; cases hn)]
      refine iteF ⟨_, rfl, r, dx, _, rfl, hx1, rfl, F1, r, us, i, rfl, h1, fun n' en' _ F3 H3 s3 h3 => ?_, fun z => by rw [z n e0] at hn; cases hn⟩
      rw [e0] at en'
      cases en'
      refine ⟨by show 2 ≤ sizeLine; decide, fun p hp => ?_⟩
      have s4 := h3.lay (o := .tup [.str "name", .str (S n)]) hp
      exact k _ _ _ (h3.seq (h1.seq s1.any s3) s4.any) (h3.upS s4) (.nam (SqT.of upd_same))
    | @namN d i hw =>
      rw [decide_eq_false (fun z => (hw _ z).2.2.2.2 rfl)]
      refine iteF ⟨_, rfl, r, dx, _, rfl, hx, rfl, F, r, us, i, rfl, h, fun F1 H1 s1 => ⟨_, rfl, ?_⟩⟩
      have h1 := h.upS s1
      have hx1 := s1.same _ _ hx
      have er : rdO us[i]? = false := by cases e : us[i]? with | none => rfl | some u => (show (rdVal u).isSome = false; rw [(hw u e).1]; rfl)
      rw [er]
      refine iteF ⟨_, rfl, scal_wv _ _, _, rfl, ?_⟩
      rw [eSz, dec_wv]
      rw [decide_eq_false (fun z => (hw _ z).2.2.1 rfl)]
      refine iteF ⟨_, rfl, scal_wv _ _, _, rfl, ?_⟩
      rw [eOf, dec_wv, decide_eq_false (fun z => (hw _ z).2.2.2.1 rfl)]
      refine iteF ⟨_, rfl, r, dx, _, rfl, hx1, rfl, F1, r, us, i, rfl, h1, fun n' en' hn' F3 H3 s3 h3 => ?_, fun z => No.up k h1 s1.any rfl⟩
      rw [(hw n' en').2.1] at hn'; cases hn'
end
end K09

set_option Elab.async false
set_option linter.all false
set_option maxRecDepth 100000
set_option maxHeartbeats 4000000
namespace K09
open PySem PySem.Spec PyProof.Rows L2 Ew
open SX (S)
/-! ### products and sums -/
def muR (r : Addr) (H : Hp) : Nat := match H r with
  | some (.ins _ _ [_, _, (_, .int i)]) => 300 - i.toNat
  | _ => 0
theorem muR_at {r C dx : Addr} {H : Hp} {x y : Str × V} {f : Str} {i : Nat} (h : H r = some (.ins C dx [x, y, (f, .int (i : Nat))])) : muR r H = 300 - i := by
  unfold muR
  rw [h]
  rfl
theorem tb_2 {u : Tk} : decide (S u ∈ (["*", "/"] : List Str)) = decide (u = Op.times.tk ∨ u = Op.over.tk) := by
  have e1 : ("*" : Str) = S Op.times.tk := by decide +kernel
  have e2 : ("/" : Str) = S Op.over.tk := by decide +kernel
  rw [e1, e2]
  refine decide_eq_decide.mpr ⟨fun h => ?_, fun h => ?_⟩
  · rcases List.mem_cons.mp h with h | h
    · exact .inl (SX.S_inj h)
    · exact .inr (SX.S_inj (List.mem_singleton.mp h))
  · rcases h with rfl | rfl
    · exact List.mem_cons_self
    · exact List.mem_cons_of_mem _ List.mem_cons_self
theorem tb_1 {u : Tk} : decide (S u ∈ (["+", "-"] : List Str)) = decide (u = Op.plus.tk ∨ u = Op.minus.tk) := by
  have e1 : ("+" : Str) = S Op.plus.tk := by decide +kernel
  have e2 : ("-" : Str) = S Op.minus.tk := by decide +kernel
  rw [e1, e2]
  refine decide_eq_decide.mpr ⟨fun h => ?_, fun h => ?_⟩
  · rcases List.mem_cons.mp h with h | h
    · exact .inl (SX.S_inj h)
    · exact .inr (SX.S_inj (List.mem_singleton.mp h))
  · rcases h with rfl | rfl
    · exact List.mem_cons_self
    · exact List.mem_cons_of_mem _ List.mem_cons_self
theorem tbY_2 {o : Op} (h : o.rk = 2) : decide (S o.tk ∈ (["*", "/"] : List Str)) = true := by
  rw [tb_2]
  cases o with
  | plus => exact absurd h (by decide)
  | minus => exact absurd h (by decide)
  | times => decide
  | over => decide
theorem tbY_1 {o : Op} (h : o.rk = 1) : decide (S o.tk ∈ (["+", "-"] : List Str)) = true := by
  rw [tb_1]
  cases o with
  | plus => decide
  | minus => decide
  | times => exact absurd h (by decide)
  | over => exact absurd h (by decide)
section
variable {P : Program} {w : World} {K : PySem.W.Frag} {mg : Str → Option Value} {base : Heap} {a : Ad}

theorem _take_product_tk (T : Txt K mg w a) {o : Op} (h : o.rk = 2) : ∃ t, PySem.W.nsIn K a.aR (S o.tk) = some (some (.str o.w t)) := by
  cases o with
  | plus => exact absurd h (by decide)
  | minus => exact absurd h (by decide)
  | times =>
    have e1 : ("*" : Str) = S Op.times.tk := by decide +kernel
    obtain ⟨t, q⟩ := T.v_PRODUCTS ("*", "times") List.mem_cons_self
    exact ⟨t, by rw [← e1]; exact q⟩
  | over =>
    have e1 : ("/" : Str) = S Op.over.tk := by decide +kernel
    obtain ⟨t, q⟩ := T.v_PRODUCTS ("/", "over") (List.mem_cons_of_mem _ List.mem_cons_self)
    exact ⟨t, by rw [← e1]; exact q⟩
theorem c__take_product (T : Txt K mg w a) {n L : Nat} (hL : 6 ≤ L) (ih : Cl P w K mg base L "_take_part" P__take_part (sp_job K a .part n) []) : Cl P w K mg base (L + 1) "_take_product" P__take_product (sp_job K a .prod n) [] :=
  T.d__take_product.cl sc__take_product (fun vs H Q E h => by obtain ⟨F, r, us, d, i, res, j, rfl, _⟩ := h; rfl) fun f cdv A outer s H vs Q E hr h => by
    obtain ⟨F, r, us, d, i, res, j, rfl, hd, h, hp, k⟩ := h
    refine ⟨_, ((pss_cons (ps_set (i := 2) sc__take_product.nd rfl (Or.inl rfl) (pe_f ih (takes_of rfl rfl rfl rfl) hr (by omega) rfl (pa_cons (pv 0) (pa_cons (pv 1) pa_nil))))
 (pss_cons (ps_while (passes_of rfl) (pt_cmpR (op_in_tb T.tb_PRODUCTS) (pe_mf0 (m_Reader_peek T) hr (by omega) (pv 0)) (pe_glob (by rfl) T.k_PRODUCTS rfl (v := .ref a.aR)) (by rfl))
 (pss_cons (ps_set (i := 3) sc__take_product.nd rfl (Or.inl rfl) (pe_ix (ix_tb T.tb_PRODUCTS) (pe_glob (by rfl) T.k_PRODUCTS rfl (v := .ref a.aR)) (pe_mf0 (m_Reader_take T) hr (by omega) (pv 0)) (fun _ _ => rfl)))
 (pss_one (ps_set (i := 2) sc__take_product.nd rfl (Or.inl rfl) (pe_tup (pa_cons (pv 3) (pa_cons (pv 2) (pa_cons (pe_f ih (takes_of rfl rfl rfl rfl) hr (by omega) rfl (pa_cons (pv 0) (pa_cons (pv 1) pa_nil))) pa_nil))))))))
 (pss_one (ps_ret (pv 2)))))), ?_⟩
    cases hp with
    | @prodN d i j hp => exact ⟨_, rfl, _, rfl, F, r, us, d, i, none, j, rfl, hd, h, hp, k⟩
    | @prod d i m j t res hp hl =>
      refine ⟨_, rfl, _, rfl, F, r, us, d, i, some t, m, rfl, hd, h, hp, fun F1 H1 v1 s1 h1 tv1 => ?_⟩
      refine while_by (fun σ' H' => ∃ F' t v c3 i, σ' = [some (.ref r), some (.int (40 - (d : Int))), some v, c3] ∧ Sb r F H F' H' ∧ Rdr K a r us i F' H' ∧ TrV K F' v t ∧ Pr us (.pl t) d i res j) (fun _ H' => muR r H') ⟨F1, t, v1, none, m, rfl, s1, h1, tv1, hl⟩ ?_ ?_
      · rintro _ H2 ⟨F2, t, v, c3, i, rfl, s2, h2, tv, hl⟩
        obtain ⟨R, W, dx, hx, hR, hW⟩ := id h2.ex
        refine ⟨_, rfl, r, dx, _, rfl, hx, rfl, F2, r, us, i, rfl, h2, rfl, ?_⟩
        cases hl with
        | plE hn =>
          cases e : us[j]? with
          | none => exact .inr ⟨rfl, _, rfl, iteF ⟨_, rfl, k F2 H2 v s2 h2 tv⟩⟩
          | some u =>
            refine .inl ⟨_, rfl, _, rfl, iteN ?_ ⟨_, rfl, k F2 H2 v s2 h2 tv⟩⟩
            rw [tb_2, decide_eq_false]
            · decide
            · rintro (z | z)
              · exact (hn u e).1 z
              · exact (hn u e).2 z
        | @plG _ _ m2 _ _ t2 _ o ho e0 hp2 hl2 =>
          have mu2 : muR r H2 = 300 - i := muR_at hx
          have il : i < us.length := (List.getElem?_eq_some_iff.mp e0).1
          have un := h2.ok.n
          rw [e0]
          refine .inl ⟨_, rfl, _, rfl, iteY (tbY_2 ho) ?_⟩
          refine ⟨_, rfl, r, dx, _, rfl, hx, rfl, F2, r, us, i, rfl, h2, fun H3 s3 h3 => ?_⟩
          obtain ⟨tk0, hns⟩ := _take_product_tk T ho
          rw [e0]
          refine ⟨_, _, .str o.w, rfl, rfl, hns, ⟨tk0, rfl⟩, ?_⟩
          refine ⟨_, rfl, _, rfl, _, rfl, _, rfl, F2, r, us, d, i + 1, some t2, m2, rfl, hd, h3, hp2, fun F4 H4 v4 s4 h4 tv4 => ?_⟩
          refine ⟨by show 3 ≤ sizeLine; decide, fun p hpn => ?_⟩
          have s5 := h4.lay (o := .tup [.str o.w, v, v4]) hpn
          have h5 := h4.upS s5
          have t5 := h4.seq (h3.seq (h2.seq s2 s3) s4) s5.any
          refine ⟨⟨_, _, _, _, m2, rfl, t5, h5, .bin (SqT.of upd_same) ((tv.up s4.ff).up s5.ff) (tv4.up s5.ff), hl2⟩, ?_⟩
          obtain ⟨R5, W5, dx5, hx5, _, _⟩ := id h5.ex
          rw [muR_at hx5, mu2]
          have := hp2.mono
          omega
        | @plN _ _ _ _ o ho e0 hp2 =>
          rw [e0]
          refine .inl ⟨_, rfl, _, rfl, iteY (tbY_2 ho) ?_⟩
          refine ⟨_, rfl, r, dx, _, rfl, hx, rfl, F2, r, us, i, rfl, h2, fun H3 s3 h3 => ?_⟩
          obtain ⟨tk0, hns⟩ := _take_product_tk T ho
          rw [e0]
          refine ⟨_, _, .str o.w, rfl, rfl, hns, ⟨tk0, rfl⟩, ?_⟩
          exact ⟨_, rfl, _, rfl, _, rfl, _, rfl, F2, r, us, d, i + 1, none, j, rfl, hd, h3, hp2, No.up k h3 (h2.seq s2 s3) rfl⟩
      · rintro σ' H' Q1 Q2 q ⟨v, e1, r', dx, fs, e2, e3, e4, F', r2, us2, i2, e5, e6, e7, e8⟩
        refine ⟨v, e1, r', dx, fs, e2, e3, e4, F', r2, us2, i2, e5, e6, e7, ?_⟩
        rcases e8 with ⟨z, e9, b, e10, qq⟩ | ⟨e9, b, e10, qq⟩
        · exact .inl ⟨z, e9, b, e10, q _ _ qq⟩
        · exact .inr ⟨e9, b, e10, q _ _ qq⟩

theorem take_expression_tk (T : Txt K mg w a) {o : Op} (h : o.rk = 1) : ∃ t, PySem.W.nsIn K a.aU (S o.tk) = some (some (.str o.w t)) := by
  cases o with
  | times => exact absurd h (by decide)
  | over => exact absurd h (by decide)
  | plus =>
    have e1 : ("+" : Str) = S Op.plus.tk := by decide +kernel
    obtain ⟨t, q⟩ := T.v_SUMS ("+", "plus") List.mem_cons_self
    exact ⟨t, by rw [← e1]; exact q⟩
  | minus =>
    have e1 : ("-" : Str) = S Op.minus.tk := by decide +kernel
    obtain ⟨t, q⟩ := T.v_SUMS ("-", "minus") (List.mem_cons_of_mem _ List.mem_cons_self)
    exact ⟨t, by rw [← e1]; exact q⟩
theorem c_take_expression (T : Txt K mg w a) {n L : Nat} (hL : 6 ≤ L) (ih : Cl P w K mg base L "_take_product" P__take_product (sp_job K a .prod n) []) (q : Nat) (hq : q ≤ 1) : Cl P w K mg base (L + 1) "take_expression" P_take_expression (sp_job K a .expr n) (([.int 0] : List V).drop q) :=
  T.d_take_expression.cl q hq sc_take_expression (fun vs H Q E h => by obtain ⟨F, r, us, d, i, res, j, rfl, _⟩ := h; rfl) fun f cdv A outer s H vs Q E hr h => by
    obtain ⟨F, r, us, d, i, res, j, rfl, hd, h, hp, k⟩ := h
    refine ⟨_, ((pss_cons (ps_set (i := 2) sc_take_expression.nd rfl (Or.inl rfl) (pe_f ih (takes_of rfl rfl rfl rfl) hr (by omega) rfl (pa_cons (pv 0) (pa_cons (pv 1) pa_nil))))
 (pss_cons (ps_while (passes_of rfl) (pt_cmpR (op_in_tb T.tb_SUMS) (pe_mf0 (m_Reader_peek T) hr (by omega) (pv 0)) (pe_glob (by rfl) T.k_SUMS rfl (v := .ref a.aU)) (by rfl))
 (pss_cons (ps_set (i := 3) sc_take_expression.nd rfl (Or.inl rfl) (pe_ix (ix_tb T.tb_SUMS) (pe_glob (by rfl) T.k_SUMS rfl (v := .ref a.aU)) (pe_mf0 (m_Reader_take T) hr (by omega) (pv 0)) (fun _ _ => rfl)))
 (pss_one (ps_set (i := 2) sc_take_expression.nd rfl (Or.inl rfl) (pe_tup (pa_cons (pv 3) (pa_cons (pv 2) (pa_cons (pe_f ih (takes_of rfl rfl rfl rfl) hr (by omega) rfl (pa_cons (pv 0) (pa_cons (pv 1) pa_nil))) pa_nil))))))))
 (pss_one (ps_ret (pv 2)))))), ?_⟩
    cases hp with
    | @exprN d i j hp => exact ⟨_, rfl, _, rfl, F, r, us, d, i, none, j, rfl, hd, h, hp, k⟩
    | @expr d i m j t res hp hl =>
      refine ⟨_, rfl, _, rfl, F, r, us, d, i, some t, m, rfl, hd, h, hp, fun F1 H1 v1 s1 h1 tv1 => ?_⟩
      refine while_by (fun σ' H' => ∃ F' t v c3 i, σ' = [some (.ref r), some (.int (40 - (d : Int))), some v, c3] ∧ Sb r F H F' H' ∧ Rdr K a r us i F' H' ∧ TrV K F' v t ∧ Pr us (.el t) d i res j) (fun _ H' => muR r H') ⟨F1, t, v1, none, m, rfl, s1, h1, tv1, hl⟩ ?_ ?_
      · rintro _ H2 ⟨F2, t, v, c3, i, rfl, s2, h2, tv, hl⟩
        obtain ⟨R, W, dx, hx, hR, hW⟩ := id h2.ex
        refine ⟨_, rfl, r, dx, _, rfl, hx, rfl, F2, r, us, i, rfl, h2, rfl, ?_⟩
        cases hl with
        | elE hn =>
          cases e : us[j]? with
          | none => exact .inr ⟨rfl, _, rfl, iteF ⟨_, rfl, k F2 H2 v s2 h2 tv⟩⟩
          | some u =>
            refine .inl ⟨_, rfl, _, rfl, iteN ?_ ⟨_, rfl, k F2 H2 v s2 h2 tv⟩⟩
            rw [tb_1, decide_eq_false]
            · decide
            · rintro (z | z)
              · exact (hn u e).1 z
              · exact (hn u e).2 z
        | @elG _ _ m2 _ _ t2 _ o ho e0 hp2 hl2 =>
          have mu2 : muR r H2 = 300 - i := muR_at hx
          have il : i < us.length := (List.getElem?_eq_some_iff.mp e0).1
          have un := h2.ok.n
          rw [e0]
          refine .inl ⟨_, rfl, _, rfl, iteY (tbY_1 ho) ?_⟩
          refine ⟨_, rfl, r, dx, _, rfl, hx, rfl, F2, r, us, i, rfl, h2, fun H3 s3 h3 => ?_⟩
          obtain ⟨tk0, hns⟩ := take_expression_tk T ho
          rw [e0]
          refine ⟨_, _, .str o.w, rfl, rfl, hns, ⟨tk0, rfl⟩, ?_⟩
          refine ⟨_, rfl, _, rfl, _, rfl, _, rfl, F2, r, us, d, i + 1, some t2, m2, rfl, hd, h3, hp2, fun F4 H4 v4 s4 h4 tv4 => ?_⟩
          refine ⟨by show 3 ≤ sizeLine; decide, fun p hpn => ?_⟩
          have s5 := h4.lay (o := .tup [.str o.w, v, v4]) hpn
          have h5 := h4.upS s5
          have t5 := h4.seq (h3.seq (h2.seq s2 s3) s4) s5.any
          refine ⟨⟨_, _, _, _, m2, rfl, t5, h5, .bin (SqT.of upd_same) ((tv.up s4.ff).up s5.ff) (tv4.up s5.ff), hl2⟩, ?_⟩
          obtain ⟨R5, W5, dx5, hx5, _, _⟩ := id h5.ex
          rw [muR_at hx5, mu2]
          have := hp2.mono
          omega
        | @elN _ _ _ _ o ho e0 hp2 =>
          rw [e0]
          refine .inl ⟨_, rfl, _, rfl, iteY (tbY_1 ho) ?_⟩
          refine ⟨_, rfl, r, dx, _, rfl, hx, rfl, F2, r, us, i, rfl, h2, fun H3 s3 h3 => ?_⟩
          obtain ⟨tk0, hns⟩ := take_expression_tk T ho
          rw [e0]
          refine ⟨_, _, .str o.w, rfl, rfl, hns, ⟨tk0, rfl⟩, ?_⟩
          exact ⟨_, rfl, _, rfl, _, rfl, _, rfl, F2, r, us, d, i + 1, none, j, rfl, hd, h3, hp2, No.up k h3 (h2.seq s2 s3) rfl⟩
      · rintro σ' H' Q1 Q2 q ⟨v, e1, r', dx, fs, e2, e3, e4, F', r2, us2, i2, e5, e6, e7, e8⟩
        refine ⟨v, e1, r', dx, fs, e2, e3, e4, F', r2, us2, i2, e5, e6, e7, ?_⟩
        rcases e8 with ⟨z, e9, b, e10, qq⟩ | ⟨e9, b, e10, qq⟩
        · exact .inl ⟨z, e9, b, e10, q _ _ qq⟩
        · exact .inr ⟨e9, b, e10, q _ _ qq⟩
end
end K09

set_option Elab.async false
set_option linter.all false
set_option maxRecDepth 100000
set_option maxHeartbeats 4000000
namespace K09
open PySem PySem.Spec PyProof.Rows L2 Ew
open SX (S)
section
variable {K : PySem.W.Frag} {a : Ad} {r : Addr} {F H F1 H1 F' H' : Hp}
theorem sb_off (s0 : Stp F H F1 H1) (s : Sb r F1 H1 F' H') (hr : H r = none) : Stp F H F' H' :=
  ⟨s0.ff.trans s.ff, s.fh, fun x o _ e => s.hh x o (fun z => by have z : x = r := z; rw [z, hr] at e; cases e) (s0.hh x o (fun z => z) e), fun x n z => s.nw x (s0.nw x n z) (by
    cases e : H x with
    | none => exact absurd e z
    | some o => rw [s0.same _ _ e]; exact fun y => nomatch y)⟩
end
theorem map_ts (us : List Tk) : (us.map S).map V.str = tsL us := by unfold tsL; rw [List.map_map]; rfl
section
variable {P : Program} {w : World} {K : PySem.W.Frag} {mg : Str → Option Value} {base : Heap} {a : Ad}
theorem c_expr_n (T : Txt K mg w a) : ∀ n q : Nat, q ≤ 1 → Cl P w K mg base (3 * n + 6) "take_expression" P_take_expression (sp_job K a .expr n) (([.int 0] : List V).drop q) := by
  intro n
  induction n with
  | zero =>
    intro q hq
    refine T.d_take_expression.cl q hq sc_take_expression (fun vs H Q E h => by obtain ⟨F, r, us, d, i, res, j, rfl, _⟩ := h; rfl) fun f cdv A outer s H vs Q E hr h => ?_
    obtain ⟨F, r, us, d, i, res, j, _, hd, _⟩ := h
    exact absurd hd (Nat.not_lt_zero _)
  | succ n ih => exact fun q hq => c_take_expression T (L := 3 * n + 8) (by omega) (c__take_product T (L := 3 * n + 7) (by omega) (c__take_part T (L := 3 * n + 6) (by omega) (ih 1 (Nat.le_refl _)))) q hq
theorem c_expr (T : Txt K mg w a) : Cl P w K mg base 129 "take_expression" P_take_expression (sp_job K a .expr 41) [.int 0] := c_expr_n T 41 0 (by decide)
/-! ### Reader([text]) -/
def sp_init (K : PySem.W.Frag) (a : Ad) : Sp := fun vs H Q _ => ∃ (F : Hp) (x dx l : Addr) (us : List Tk), vs = [.ref x, .ref l] ∧ H x = some (.ins a.Reader dx []) ∧ F x = none ∧ SqL K F l [.str (S (J us))] ∧ UsOk us ∧ Wds us ∧ us ≠ [] ∧ Same F H ∧
  ∀ F' H', Sb x F H F' H' → Rdr K a x us 0 F' H' → Q .non H'
theorem mk_Reader (T : Txt K mg w a) : Mkr P w K mg base 1 "Reader" a.Reader P_ReaderD_initD (sp_init K a) := by
  obtain ⟨f, fd, M, F, b⟩ := T.i_Reader.ex
  refine ⟨T.g_Reader, f, fd, M, fun_ok F sc_ReaderD_initD (fun vs H Q E h => by obtain ⟨F, x, dx, l, us, rfl, _⟩ := h; rfl) fun f cdv A outer s H vs Q E hr h => ?_, b⟩
  obtain ⟨F, x, dx, l, us, rfl, hx, fx, hl, ok, wd, ne, hf, k⟩ := h
  refine ⟨_, ((pss_cons (ps_fld (pv 0) (pe_lc (own := [("line", 2)]) (g := (gName 2)) (by rfl) sc_ReaderD_initD.nd (pi_list (pv 1)) (blkOk_by (own := [("line", 2)]) (N := N_ReaderD_initD) (sc := defScope s_ReaderD_initD) (by decide +kernel)) (fun _ _ _ _ _ => (pg_name (i := 2) sc_ReaderD_initD.nd rfl (Or.inl rfl) (hf := .inr rfl))) (fun _ _ _ _ _ => pts_nil) (fun _ _ _ _ _ => (pe_m1 PySem.F.slot_str_split PySem.F.type_str_split mt_split (pv 2) pe_str))) rfl)
 (pss_cons (ps_fld (pv 0) pe_int rfl)
 (pss_one (ps_fld (pv 0) pe_int rfl))))), ?_⟩
  refine ⟨_, rfl, l, rfl, ⟨_, upL hf hl⟩, fun D hD => ?_⟩
  have jl : (J us).length ≤ 251000 := by have := J_len wd; have := ok.n; omega
  refine lcM memP (walk_list (xs := [.str (S (J us))])) hf trivial hD (fun i F y => ∃ W, y = .ref W ∧ SqL K F W (tsL us)) (fun i F F' y e ⟨W, h1, h2⟩ => ⟨W, h1, upL e h2⟩) (by show 1 ≤ 1000000; decide) (fun F' H' e1 e2 => upL e2 (upL e1 hl)) ?_ ?_
  · rintro i x F' H' H'' Kt Kn hi s1 _ ⟨eH, hxx⟩ kk
    subst eH
    have ex : x = .str (S (J us)) := by
      cases i with
      | zero => cases hxx; rfl
      | succ i => simp at hxx
    subst ex
    refine ⟨rfl, lc_yes ⟨_, rfl, ⟨_, rfl⟩, _, _, rfl, rfl, by decide +kernel, by rw [SX.S_len, sizeLine_eq]; omega, fun p hp => ?_⟩⟩
    rw [split_J wd ne, map_ts]
    exact kk _ _ _ (stp_new s1.fh hp) trivial ⟨p, rfl, SqL.of upd_same⟩
  · intro F' H' ys s1 _ hD' hy hr'
    have hy : ys.length = 1 := hy
    obtain ⟨y, rfl⟩ : ∃ y, ys = [y] := by
      cases ys with
      | nil => simp at hy
      | cons y ys =>
        cases ys with
        | nil => exact ⟨y, rfl⟩
        | cons z ys => simp at hy
    obtain ⟨W, rfl, hW⟩ := hr' 0 y rfl
    have hx' := s1.same _ _ hx
    have fx' : F' x = none := s1.nw x fx (by rw [hx]; exact fun z => nomatch z)
    refine ⟨_, rfl, x, a.Reader, dx, _, rfl, hx', T.cl, T.nR, Nat.le_of_ble_eq_true rfl, ?_⟩
    refine ⟨_, rfl, x, a.Reader, dx, _, rfl, upd_same, T.cl, T.nL, Nat.le_of_ble_eq_true rfl, ?_⟩
    refine ⟨_, rfl, x, a.Reader, dx, _, rfl, upd_same, T.cl, T.nW, Nat.le_of_ble_eq_true rfl, ?_⟩
    have ne3 : ∀ {b : Addr} {o1 o2 o3 : HO}, b ≠ x → upd (upd (upd H' x o1) x o2) x o3 b = H' b := fun h => by rw [upd_ne h, upd_ne h, upd_ne h]
    have fh' : ∀ {o1 o2 o3 : HO}, Same F' (upd (upd (upd H' x o1) x o2) x o3) := fun b u e => by rw [ne3 (ne_of_none e fx')]; exact s1.fh b u e
    exact k F' _ ⟨s1.ff, fh', fun b o n e => by rw [ne3 n]; exact s1.same _ _ e, s1.nw⟩ ⟨ok, ⟨D, W, dx, upd_same, SqL.of hD', hW⟩, fx', fh'⟩
def sp_read (K : PySem.W.Frag) (a : Ad) : Sp := fun vs H Q E => ∃ (F : Hp) (us : List Tk) (res : Option Tr) (j : Nat), vs = [.str (S (J us))] ∧ us ≠ [] ∧ UsOk us ∧ Wds us ∧ Pr us .expr 40 0 res j ∧ Same F H ∧
  (∀ t, res = some t → us.length ≤ j → ∀ F' H' v, Stp F H F' H' → TrV K F' v t → Q v H') ∧ ((res = none ∨ j < us.length) → Ra F H E a.BadLine fun F' d => F' d = some (.xd [("word", .int (j : Nat)), ("line", .int 0)]))
theorem c_read_expression (T : Txt K mg w a) : Cl P w K mg base 130 "read_expression" P_read_expression (sp_read K a) [] :=
  T.d_read_expression.cl sc_read_expression (fun vs H Q E h => by obtain ⟨F, us, res, j, rfl, _⟩ := h; rfl) fun f cdv A outer s H vs Q E hr h => by
    obtain ⟨F, us, res, j, rfl, ne, ok, wd, hp, hf, k1, k2⟩ := h
    refine ⟨_, ((pss_cons (ps_set (i := 1) sc_read_expression.nd rfl (Or.inl rfl) (pe_mkf (mk_Reader T) hr (by decide) rfl (pa_cons (pe_lst (pa_cons (pv 0) pa_nil)) pa_nil)))
 (pss_cons (ps_set (i := 2) sc_read_expression.nd rfl (Or.inl rfl) (pe_f (c_expr T) (takes_of rfl rfl rfl rfl) hr (by decide) rfl (pa_cons (pv 1) pa_nil)))
 (pss_cons (ps_expr (pe_mw0 (m_Reader_end_line T) (takes_of rfl rfl rfl rfl) hr (by decide) (pv 1)))
 (pss_one (ps_ret (pv 2))))))), ?_⟩
    refine ⟨_, rfl, by show 1 ≤ sizeLine; decide, fun l hl => fun o d ho hd nd => ?_⟩
    have s1 := stp_new (o := .lst [.str (S (J us))]) hf hl
    have o0 : H o = none := s1.freshP ho
    have fo : (upd F l (.lst [.str (S (J us))])) o = none := s1.fh.free ho
    have ho' : (upd (upd H l (.lst [.str (S (J us))])) d (.own o)) o = none := by rw [upd_ne (Ne.symm nd)]; exact ho
    have s2 : Stp F H (upd F l (.lst [.str (S (J us))])) (upd (upd (upd H l (.lst [.str (S (J us))])) d (.own o)) o (.ins a.Reader d [])) := (s1.raw hd (s1.freshP hd)).raw ho' o0
    refine ⟨_, o, d, l, us, rfl, upd_same, fo, SqL.of upd_same, ok, wd, ne, s2.fh, fun F3 H3 s3 h3 => ⟨rfl, ?_⟩⟩
    have t3 := sb_off s2 s3 o0
    have up : ∀ {F' H' : Hp}, Sb o F3 H3 F' H' → Stp F H F' H' := fun s => sb_off s2 (h3.seq s3 s) o0
    refine ⟨_, rfl, F3, o, us, 40, 0, res, j, rfl, by decide, h3, hp, ?_⟩
    cases res with
    | none => exact fun F' H' d' s e => k2 (.inl rfl) F' H' d' (up s) e
    | some t =>
      intro F4 H4 v s4 h4 tv
      obtain ⟨R, W, dx, hx, _, _⟩ := id h4.ex
      refine ⟨_, rfl, o, dx, _, rfl, hx, rfl, F4, o, us, j, rfl, h4, fun hj H5 s5 => ?_, fun hj F' H' d' s e => k2 (.inr hj) F' H' d' (up (h4.seq s4 s)) e⟩
      exact ⟨_, rfl, k1 t rfl hj F4 H5 v (up (h4.seq s4 s5)) tv⟩
end
end K09

set_option Elab.async false
set_option linter.all false
set_option maxRecDepth 100000
set_option maxHeartbeats 4000000
namespace K09
open PySem PySem.Spec PyProof.Rows L2 Ew
open SX (S)
/-! ### an expression written -/
theorem cat_len {x y : Str} {m n : Nat} (h : x.length ≤ m) (k : y.length ≤ n) : (x ++ y).length ≤ m + n := by rw [PySem.Str.length_append]; omega
theorem S_le {l : List Nat} {n : Nat} (h : l.length ≤ n) : (S l).length ≤ n := by rw [SX.S_len]; exact h
theorem le_line {x : Str} {n : Nat} (h : x.length ≤ n) (k : n ≤ 16777216) : x.length ≤ sizeLine := by rw [sizeLine_eq]; omega
theorem em_len : Str.empty.length ≤ 0 := Nat.le_refl _
theorem emS : Str.empty = S [] := rfl
theorem log_of {i : Int} {k : Nat} (h : i.natAbs < 10 ^ 400) : i.natAbs.log2 < 1920 := by
  have h2 : (10 : Nat) ^ 400 < 2 ^ 1920 := by decide +kernel
  by_cases h0 : i.natAbs = 0
  · rw [h0]; decide
  · exact (Nat.log2_lt h0).mpr (Nat.lt_trans h h2)
theorem wr_rat (r : Int × Int) : (if r.2 = 1 then Str.ofString (toString r.1) else Str.empty ++ Str.ofString (toString r.1) ++ "/" ++ Str.ofString (toString r.2)) = S (ratT r) := by
  have e : ("/" : Str) = S [47] := by decide +kernel
  unfold ratT
  split
  · exact S_int _
  · rw [S_int, S_int, e, emS, SX.S_cat, SX.S_cat, SX.S_cat]
    simp
theorem tx_words {t : Tr} {us : List Tk} (h : Tx t us) (ok : TrOk t) : us ≠ [] := fun z => by
  obtain ⟨⟨d, _, g⟩, _⟩ := tx_gr h ok
  have := g.len
  rw [z] at this
  simp at this
theorem jt_len {t : Tr} (ok : TrOk t) {n : Nat} (h : ops t ≤ n) : (J (toks t)).length ≤ 1001 * (7 + 16 * n) := by
  have h1 := (tx_gr (tx_toks t) ok).2
  have h2 := J_len (tx_wds (tx_toks t) ok)
  have : 1001 * (toks t).length ≤ 1001 * (7 + 16 * n) := Nat.mul_le_mul_left _ (by omega)
  omega
theorem J_side {us : List Tk} (h : us ≠ []) (a b : Nat) : J (side us a b) = if a < b then [40, 32] ++ J us ++ [32, 41] else J us := by
  unfold side
  split
  · exact J_par h
  · rfl
theorem side_ne {us : List Tk} (h : us ≠ []) (a b : Nat) : side us a b ≠ [] := by
  unfold side
  split
  · simp
  · exact h
theorem js_len {t : Tr} (ok : TrOk t) (k : Nat) {n : Nat} (h : ops t ≤ n) : (J (side (toks t) t.rk k)).length ≤ 1001 * (7 + 16 * n) + 4 := by
  rw [J_side (tx_words (tx_toks t) ok)]
  have := jt_len ok h
  split
  · simp; omega
  · omega
section
variable {P : Program} {w : World} {K : PySem.W.Frag} {mg : Str → Option Value} {base : Heap} {a : Ad}
def sp_write (K : PySem.W.Frag) (n : Nat) : Sp := fun vs H Q _ => ∃ (v : V) (t : Tr), vs = [v] ∧ TrV K H v t ∧ TrOk t ∧ ops t < n ∧ n ≤ 100 ∧ ∀ H', Same H H' → Q (.str (S (J (toks t)))) H'
def sp_part (K : PySem.W.Frag) (n : Nat) : Sp := fun vs H Q _ => ∃ (v : V) (t : Tr) (k : Nat), vs = [v, .int (k : Nat)] ∧ TrV K H v t ∧ TrOk t ∧ ops t < n ∧ n ≤ 100 ∧ ∀ H', Same H H' → Q (.str (S (J (side (toks t) t.rk k)))) H'
theorem c__part (T : Txt K mg w a) {n L : Nat} (hL : 2 ≤ L) (ih : Cl P w K mg base L "write_expression" P_write_expression (sp_write K n) []) : Cl P w K mg base (L + 1) "_part" P__part (sp_part K n) [] :=
  T.d__part.cl sc__part (fun vs H Q E h => by obtain ⟨v, t, k, rfl, _⟩ := h; rfl) fun f cdv A outer s H vs Q E hr h => by
    obtain ⟨v, t, k, rfl, hv, ok, hn, n100, q⟩ := h
    refine ⟨_, ((pss_cons (ps_set (i := 2) sc__part.nd rfl (Or.inl rfl) (pe_f ih (takes_of rfl rfl rfl rfl) hr (by omega) rfl (pa_cons (pv 0) pa_nil)))
 (pss_one (ps_ret (pe_ifExp (pt_cmpR op_ge (pe_f (c__tightness T) (takes_of rfl rfl rfl rfl) hr (by omega) rfl (pa_cons (pv 0) pa_nil)) (pv 1) (nomark _)) (pv 2) (pe_joined (.cons pe_str (.cons (pe_fmt (pv 2)) (.cons pe_str .nil))))))))), ?_⟩
    refine ⟨_, rfl, v, t, rfl, hv, ok, hn, n100, fun H1 e1 => ?_⟩
    refine ⟨_, rfl, v, t, rfl, hv.up e1, fun H2 e2 => ⟨_, rfl, _, _, rfl, rfl, _, rfl, ?_⟩⟩
    have ne := tx_words (tx_toks t) ok
    have jl := jt_len ok (n := 100) (by omega)
    rw [J_side ne] at q
    by_cases c : t.rk < k
    · rw [if_pos c] at q
      refine iteN (by rw [decide_eq_false (by omega)]; exact fun z => nomatch z) ?_
      have l0 : (Str.empty ++ ("( " : Str)).length ≤ 0 + 2 := cat_len em_len (by decide)
      have l1 : (Str.empty ++ ("( " : Str) ++ S (J (toks t))).length ≤ 0 + 2 + 1001 * (7 + 16 * 100) := cat_len l0 (S_le jl)
      refine ⟨_, rfl, le_line l0 (by decide), _, rfl, .inl ⟨_, rfl, le_line (S_le jl) (by decide), _, rfl, le_line l1 (by decide), _, rfl, le_line (cat_len l1 (by decide : (" )" : Str).length ≤ 2)) (by decide), ?_⟩⟩
      have e1' : ("( " : Str) = S [40, 32] := by decide +kernel
      have e2' : (" )" : Str) = S [32, 41] := by decide +kernel
      have := q H2 (e1.trans e2)
      rw [← SX.S_cat, ← SX.S_cat, ← e1', ← e2'] at this
      exact this
    · rw [if_neg c] at q
      exact iteY (decide_eq_true (by omega)) ⟨_, rfl, q H2 (e1.trans e2)⟩
theorem sgn_at (T : Txt K mg w a) (o : Op) : ∃ t, PySem.W.nsIn K a.aS o.w = some (some (.str (S o.tk) t)) := by
  cases o with
  | plus =>
    have e1 : ("+" : Str) = S Op.plus.tk := by decide +kernel
    obtain ⟨t, q⟩ := T.v_SIGNS ("plus", "+") (by simp)
    exact ⟨t, e1 ▸ q⟩
  | minus =>
    have e1 : ("-" : Str) = S Op.minus.tk := by decide +kernel
    obtain ⟨t, q⟩ := T.v_SIGNS ("minus", "-") (by simp)
    exact ⟨t, e1 ▸ q⟩
  | times =>
    have e1 : ("*" : Str) = S Op.times.tk := by decide +kernel
    obtain ⟨t, q⟩ := T.v_SIGNS ("times", "*") (by simp)
    exact ⟨t, e1 ▸ q⟩
  | over =>
    have e1 : ("/" : Str) = S Op.over.tk := by decide +kernel
    obtain ⟨t, q⟩ := T.v_SIGNS ("over", "/") (by simp)
    exact ⟨t, e1 ▸ q⟩
theorem w_not (o : Op) : decide (V.str o.w = V.str "amount") = false ∧ decide (V.str o.w = V.str "size") = false ∧ decide (V.str o.w = V.str "offset") = false ∧ decide (V.str o.w = V.str "name") = false := by
  cases o <;> exact ⟨by decide +kernel, by decide +kernel, by decide +kernel, by decide +kernel⟩
theorem c_write_expression (T : Txt K mg w a) {n L : Nat} (hL : 2 ≤ L) (ih : Cl P w K mg base L "_part" P__part (sp_part K n) []) : Cl P w K mg base (L + 1) "write_expression" P_write_expression (sp_write K (n + 1)) [] :=
  T.d_write_expression.cl sc_write_expression (fun vs H Q E h => by obtain ⟨v, t, rfl, _⟩ := h; rfl) fun f cdv A outer s H vs Q E hr h => by
    obtain ⟨v, t, rfl, hv, ok, hn, n100, q⟩ := h
    refine ⟨_, ((pss_cons (ps_set (i := 1) sc_write_expression.nd rfl (Or.inl rfl) (pe_ix ix_tup (pv 0) pe_int (fun _ _ => rfl)))
 (pss_cons (ps_if (pt_cmpR op_eq (pv 1) pe_str (nomark _))
 (pss_one (ps_ret (pe_joined (.cons (pe_fmt (pe_f (c_write_ratio T) (takes_of rfl rfl rfl rfl) hr (by omega) rfl (pa_cons (pe_ix ix_tup (pv 0) pe_int (fun _ _ => rfl)) pa_nil))) (.cons pe_str (.cons (pe_fmt (pe_ix ix_tup (pv 0) pe_int (fun _ _ => rfl))) .nil))))))
 pss_nil)
 (pss_cons (ps_if (pt_cmpR op_eq (pv 1) pe_str (nomark _))
 (pss_one (ps_ret (pe_joined (.cons pe_str (.cons (pe_fmt (pe_ix ix_tup (pv 0) pe_int (fun _ _ => rfl))) .nil)))))
 pss_nil)
 (pss_cons (ps_if (pt_cmpR op_eq (pv 1) pe_str (nomark _))
 (pss_one (ps_ret (pe_joined (.cons pe_str (.cons (pe_fmt (pe_ix ix_tup (pv 0) pe_int (fun _ _ => rfl))) (.cons pe_str (.cons (pe_fmt (pe_ix ix_tup (pv 0) pe_int (fun _ _ => rfl))) .nil)))))))
 pss_nil)
 (pss_cons (ps_if (pt_cmpR op_eq (pv 1) pe_str (nomark _))
 (pss_one (ps_ret (pe_ix ix_tup (pv 0) pe_int (fun _ _ => rfl))))
 pss_nil)
 (pss_cons (ps_set (i := 2) sc_write_expression.nd rfl (Or.inl rfl) (pe_f (c__tightness T) (takes_of rfl rfl rfl rfl) hr (by omega) rfl (pa_cons (pv 0) pa_nil)))
 (pss_cons (ps_set (i := 3) sc_write_expression.nd rfl (Or.inl rfl) (pe_f ih (takes_of rfl rfl rfl rfl) hr (by omega) rfl (pa_cons (pe_ix ix_tup (pv 0) pe_int (fun _ _ => rfl)) (pa_cons (pv 2) pa_nil))))
 (pss_cons (ps_set (i := 4) sc_write_expression.nd rfl (Or.inl rfl) (pe_f ih (takes_of rfl rfl rfl rfl) hr (by omega) rfl (pa_cons (pe_ix ix_tup (pv 0) pe_int (fun _ _ => rfl)) (pa_cons (pe_op op_add (pv 2) pe_int) pa_nil))))
 (pss_one (ps_ret (pe_joined (.cons (pe_fmt (pv 3)) (.cons pe_str (.cons (pe_fmt (pe_ix (ix_tb T.tb_SIGNS) (pe_glob (by rfl) T.k_SIGNS rfl (v := .ref a.aS)) (pv 1) (fun _ _ => rfl))) (.cons pe_str (.cons (pe_fmt (pv 4)) .nil))))))))))))))))), ?_⟩
    cases hv with
    | @amt p z r u hp hz =>
      refine ⟨_, rfl, p, _, _, _, rfl, rfl, hp, at0c, ?_⟩
      refine ⟨_, rfl, rfl, _, rfl, iteY (by decide +kernel) ?_⟩
      cases ok with
      | amt a1 a2 a3 a4 a5 a6 =>
        refine ⟨_, rfl, p, _, 1, z, rfl, rfl, hp, rfl, z, r, rfl, hz, log_of (k := 0) a1.s1, log_of (k := 0) a1.s2, ?_⟩
        rw [wr_rat]
        have l0 : (S (ratT r)).length ≤ 1000 := S_le (rat_words a1).2
        have l1 : (Str.empty ++ S (ratT r)).length ≤ 0 + 1000 := cat_len em_len l0
        have l2 : (Str.empty ++ S (ratT r) ++ (" " : Str)).length ≤ 0 + 1000 + 1 := cat_len l1 (by decide)
        have l3 : (S u).length ≤ 300 := S_le a4
        refine .inl ⟨_, rfl, le_line l0 (by decide), _, rfl, le_line l1 (by decide), _, rfl, le_line l2 (by decide), _, rfl, p, _, 2, _, rfl, rfl, hp, rfl, .inl ⟨_, rfl, le_line l3 (by decide), _, rfl, le_line (cat_len l2 l3) (by decide), ?_⟩⟩
        have := q H (.refl _)
        have e : S (J (toks (.amt r u))) = Str.empty ++ S (ratT r) ++ " " ++ S u := by
          show S (ratT r ++ ([32] ++ u)) = _
          rw [e32, emS, SX.S_cat, SX.S_cat, SX.S_cat]
          simp
        rw [e] at this
        exact this
    | @siz p m hp =>
      refine ⟨_, rfl, p, _, _, _, rfl, rfl, hp, at0c, ?_⟩
      refine ⟨_, rfl, rfl, _, rfl, iteN (by decide +kernel) ?_⟩
      refine ⟨_, rfl, rfl, _, rfl, iteY (by decide +kernel) ?_⟩
      cases ok with
      | siz hm =>
        have l0 : (Str.empty ++ ("size " : Str)).length ≤ 0 + 5 := cat_len em_len (by decide)
        have l1 : (S m).length ≤ 1000 := S_le (wd_nm hm).2
        refine ⟨_, rfl, le_line l0 (by decide), _, rfl, p, _, 1, _, rfl, rfl, hp, rfl, .inl ⟨_, rfl, le_line l1 (by decide), _, rfl, le_line (cat_len l0 l1) (by decide), ?_⟩⟩
        have := q H (.refl _)
        have e : S (J (toks (.siz m))) = Str.empty ++ "size " ++ S m := by
          have e1 : ("size " : Str) = S (wSz ++ [32]) := by decide +kernel
          show S (wSz ++ ([32] ++ m)) = _
          rw [e1, emS, SX.S_cat, SX.S_cat]
          simp
        rw [e] at this
        exact this
    | @off p m i hp =>
      refine ⟨_, rfl, p, _, _, _, rfl, rfl, hp, at0c, ?_⟩
      refine ⟨_, rfl, rfl, _, rfl, iteN (by decide +kernel) ?_⟩
      refine ⟨_, rfl, rfl, _, rfl, iteN (by decide +kernel) ?_⟩
      refine ⟨_, rfl, rfl, _, rfl, iteY (by decide +kernel) ?_⟩
      cases ok with
      | off hm hi =>
        have l0 : (Str.empty ++ ("offset " : Str)).length ≤ 0 + 7 := cat_len em_len (by decide)
        have l1 : (S m).length ≤ 1000 := S_le (wd_nm hm).2
        have l2 : (Str.empty ++ ("offset " : Str) ++ S m).length ≤ 0 + 7 + 1000 := cat_len l0 l1
        have l3 : (Str.empty ++ ("offset " : Str) ++ S m ++ (" " : Str)).length ≤ 0 + 7 + 1000 + 1 := cat_len l2 (by decide)
        have li : i.natAbs.log2 < 1920 := log_of (k := 0) (Nat.lt_of_le_of_lt hi (by decide +kernel))
        have l4 : (Str.ofString (toString i)).length ≤ 1921 := txt_len li
        refine ⟨_, rfl, le_line l0 (by decide), _, rfl, p, _, 1, _, rfl, rfl, hp, rfl, .inl ⟨_, rfl, le_line l1 (by decide), _, rfl, le_line l2 (by decide), _, rfl, le_line l3 (by decide), _, rfl, p, _, 2, _, rfl, rfl, hp, rfl, .inr ⟨_, rfl, li, _, rfl, le_line (cat_len l3 l4) (by decide), ?_⟩⟩⟩
        have := q H (.refl _)
        have e : S (J (toks (.off m i))) = Str.empty ++ "offset " ++ S m ++ " " ++ Str.ofString (toString i) := by
          have e1 : ("offset " : Str) = S (wOf ++ [32]) := by decide +kernel
          show S (wOf ++ ([32] ++ (m ++ ([32] ++ intL i)))) = _
          rw [e1, e32, S_int, emS, SX.S_cat, SX.S_cat, SX.S_cat, SX.S_cat]
          simp
        rw [e] at this
        exact this
    | @nam p m hp =>
      refine ⟨_, rfl, p, _, _, _, rfl, rfl, hp, at0c, ?_⟩
      refine ⟨_, rfl, rfl, _, rfl, iteN (by decide +kernel) ?_⟩
      refine ⟨_, rfl, rfl, _, rfl, iteN (by decide +kernel) ?_⟩
      refine ⟨_, rfl, rfl, _, rfl, iteN (by decide +kernel) ?_⟩
      refine ⟨_, rfl, rfl, _, rfl, iteY (by decide +kernel) ?_⟩
      exact ⟨_, rfl, p, _, 1, _, rfl, rfl, hp, rfl, q H (.refl _)⟩
    | @bin p o x y l r hp hl hr' =>
      obtain ⟨w1, w2, w3, w4⟩ := w_not o
      refine ⟨_, rfl, p, _, _, _, rfl, rfl, hp, at0c, ?_⟩
      refine ⟨_, rfl, rfl, _, rfl, iteN (by rw [w1]; decide) ?_⟩
      refine ⟨_, rfl, rfl, _, rfl, iteN (by rw [w2]; decide) ?_⟩
      refine ⟨_, rfl, rfl, _, rfl, iteN (by rw [w3]; decide) ?_⟩
      refine ⟨_, rfl, rfl, _, rfl, iteN (by rw [w4]; decide) ?_⟩
      cases ok with
      | bin okl okr =>
        have hn : ops l + ops r + 1 < n + 1 := hn
        refine ⟨_, rfl, .ref p, .bin o l r, rfl, .bin hp hl hr', fun H1 e1 => ?_⟩
        have hp1 := upT e1 hp
        refine ⟨_, rfl, p, _, 1, x, rfl, rfl, hp1, rfl, _, rfl, x, l, o.rk, rfl, hl.up e1, okl, by omega, by omega, fun H2 e2 => ?_⟩
        have e12 := e1.trans e2
        have hp2 := upT e12 hp
        refine ⟨_, rfl, p, _, 2, y, rfl, rfl, hp2, rfl, _, rfl, _, _, rfl, rfl, y, r, o.rk + 1, rfl, hr'.up e12, okr, by omega, by omega, fun H3 e3 => ?_⟩
        have e13 := e12.trans e3
        obtain ⟨tk0, hs⟩ := sgn_at T o
        have jl := js_len okl o.rk (n := 100) (by omega)
        have jr := js_len okr (o.rk + 1) (n := 100) (by omega)
        have lo : o.tk.length ≤ 1 := by cases o <;> decide
        have l1 : (Str.empty ++ S (J (side (toks l) l.rk o.rk))).length ≤ 0 + (1001 * (7 + 16 * 100) + 4) := cat_len em_len (S_le jl)
        have l2 : (Str.empty ++ S (J (side (toks l) l.rk o.rk)) ++ (" " : Str)).length ≤ 0 + (1001 * (7 + 16 * 100) + 4) + 1 := cat_len l1 (by decide)
        have l3 := cat_len l2 (S_le lo)
        have l4 := cat_len l3 (by decide : (" " : Str).length ≤ 1)
        have l5 := cat_len l4 (S_le jr)
        refine ⟨_, rfl, .inl ⟨_, rfl, le_line (S_le jl) (by decide), _, rfl, le_line l1 (by decide), _, rfl, le_line l2 (by decide), _, rfl, _, _, .str (S o.tk), rfl, rfl, hs, ⟨tk0, rfl⟩, .inl ⟨_, rfl, le_line (S_le lo) (by decide), _, rfl, le_line l3 (by decide), _, rfl, le_line l4 (by decide), _, rfl, .inl ⟨_, rfl, le_line (S_le jr) (by decide), _, rfl, le_line l5 (by decide), ?_⟩⟩⟩⟩
        have := q H3 e13
        have e : S (J (toks (.bin o l r))) = Str.empty ++ S (J (side (toks l) l.rk o.rk)) ++ " " ++ S o.tk ++ " " ++ S (J (side (toks r) r.rk (o.rk + 1))) := by
          show S (J (side (toks l) l.rk o.rk ++ o.tk :: side (toks r) r.rk (o.rk + 1))) = _
          rw [J_op (side_ne (tx_words (tx_toks l) okl) _ _) (side_ne (tx_words (tx_toks r) okr) _ _), e32, emS, SX.S_cat, SX.S_cat, SX.S_cat, SX.S_cat, SX.S_cat]
          simp
        rw [e] at this
        exact this
theorem c_write_n (T : Txt K mg w a) : ∀ n : Nat, Cl P w K mg base (2 * n + 3) "write_expression" P_write_expression (sp_write K n) [] := by
  intro n
  induction n with
  | zero =>
    refine T.d_write_expression.cl sc_write_expression (fun vs H Q E h => by obtain ⟨v, t, rfl, _⟩ := h; rfl) fun f cdv A outer s H vs Q E hr h => ?_
    obtain ⟨v, t, rfl, hv, ok, hn, _⟩ := h
    exact absurd hn (Nat.not_lt_zero _)
  | succ n ih => exact c_write_expression T (L := 2 * n + 4) (by omega) (c__part T (L := 2 * n + 3) (by omega) ih)
end
end K09

set_option Elab.async false
set_option linter.all false
set_option maxRecDepth 100000
set_option maxHeartbeats 4000000
namespace K09
open PySem PySem.Spec PyProof.Rows L2 Ew
open SX (S)
section
variable {K : PySem.W.Frag} {b p : Addr} {F H F' H' : Hp} {o : HO}
theorem rawB (s : Sb b F H F' H') (B : Bag K b F' H') (hp : H' p = none) : Sb b F H F' (upd H' p o) ∧ Bag K b F' (upd H' p o) := by
  have nb : ¬ p = b := fun z => (memB K b).there B z hp
  exact ⟨s.raw hp (s.fresh (fun x z => (memB K b).there B z) hp), (memB K b).put B nb⟩
theorem mutB (s : Sb b F H F' H') (B : Bag K b F' H') (hf : F' p = none) (h0 : H p = none) (nb : p ≠ b) : Sb b F H F' (upd H' p o) ∧ Bag K b F' (upd H' p o) := ⟨s.mut hf h0, (memB K b).put B nb⟩
theorem freezeB (s : Sb b F H F' H') (B : Bag K b F' H') (hf : F' p = none) (h0 : H p = none) (nb : p ≠ b) (e : H' p = some o) : Sb b F H (upd F' p o) H' ∧ Bag K b (upd F' p o) H' := by
  refine ⟨s.freeze hf h0 e, (memB K b).grow B (same_new hf) fun x z => ?_⟩
  rw [upd_ne (fun q => nb (by rw [← q]; exact z))]
  exact (memB K b).off B z
theorem nbB (B : Bag K b F' H') (hp : H' p = none) : p ≠ b := fun z => (memB K b).there B z hp
end
theorem S_at_i {L : List Nat} {i : Nat} {x : V} {xs : List V} (h : xs[i]? = some x) : True := trivial
section
variable {P : Program} {w : World} {K : PySem.W.Frag} {mg : Str → Option Value} {base : Heap} {a : Ad}
def sp__law_one_in (K : PySem.W.Frag) : Sp := fun vs H Q _ => ∃ (F : Hp) (b : Addr) (many : Int), vs = [.ref b, .int many] ∧ Bag K b F H ∧ Same F H ∧ 0 < many ∧ Sz 8000 many ∧
  ∀ H' (c : Bool), Sb b F H F H' → Bag K b F H' → Q (.bl c) H'
theorem c__law_one_in (T : Txt K mg w a) : Cl P w K mg base 2 "_law_one_in" P__law_one_in (sp__law_one_in K) [] :=
  T.d__law_one_in.cl sc__law_one_in (fun vs H Q E h => by obtain ⟨F, b, u, rfl, _⟩ := h; rfl) fun f cdv A outer s H vs Q E hr h => by
    obtain ⟨F, b, many, rfl, hB, hf, h0, hz, k⟩ := h
    refine ⟨_, ((pss_one (ps_ret (pe_cmpR op_eq (pe_f (c__law_pick T) (takes_of rfl rfl rfl rfl) hr (by decide) rfl (pa_cons (pv 0) (pa_cons (pv 1) pa_nil))) pe_int (nomark _))))), ?_⟩
    exact ⟨_, rfl, _, rfl, F, b, _, rfl, hB, hf, h0, hz, fun H' i s1 B1 h1 h2 => ⟨rfl, k H' _ s1 B1⟩⟩
/-! ### a number -/
theorem fdiv_le {n c : Int} (h : c ∣ n) : (n.fdiv c).natAbs ≤ n.natAbs := by
  rw [fdiv_abs h]
  exact Nat.div_le_self _ _
theorem rt_rat {n d : Int} (h : 1 ≤ d) (h1 : n.natAbs < 10 ^ 400) (h2 : d.natAbs < 10 ^ 400) : RtOk (rat n d) :=
  ⟨low_rat (by omega), Nat.lt_of_le_of_lt (fdiv_le (com_dn n d)) h1, Nat.lt_of_le_of_lt (fdiv_le (com_dd n d)) h2⟩
theorem sz_ten {d : Int} (h : d.natAbs < 10 ^ 400) : Sz 8000 d := by
  have h2 : (10 : Nat) ^ 400 < 2 ^ 1920 := by decide +kernel
  exact sz_of 1920 (Nat.lt_trans h h2) (by decide)
theorem nine : intText? (S (rep 400 [57])) = some (10 ^ 400 - 1 : Int) := by
  rw [SX.int_S (by decide +kernel) (by decide +kernel) (by decide +kernel)]
  have : NumText.digitsVal (rep 400 [57]) = 10 ^ 400 - 1 := by decide +kernel
  rw [this]
  decide +kernel
theorem ten : intText? (S ([49] ++ rep 399 [48])) = some (10 ^ 399 : Int) := by
  rw [SX.int_S (by decide +kernel) (by decide +kernel) (by decide +kernel)]
  have : NumText.digitsVal ([49] ++ rep 399 [48]) = 10 ^ 399 := by decide +kernel
  rw [this]
  decide +kernel
theorem ten1 : intText? (("1" : Str) ++ S (rep (399 : Int).toNat [48])) = some (10 ^ 399 : Int) ∧ (("1" : Str) ++ S (rep (399 : Int).toNat [48])).length ≤ 640 := by
  have e1 : ("1" : Str) = S [49] := by decide +kernel
  rw [e1, SX.S_cat]
  exact ⟨ten, by rw [SX.S_len]; decide +kernel⟩
theorem p400 (n : Int) (h0 : 0 ≤ n) (h1 : n < 1000) : ((10 : Int) ^ 400 - 1 - n).natAbs < 10 ^ 400 := by
  have : (10 : Int) ^ 400 = ((10 ^ 400 : Nat) : Int) := by decide +kernel
  have h2 : 1000 < (10 : Nat) ^ 400 := by decide +kernel
  rw [this]
  omega
theorem p399 (n : Int) (h0 : 0 ≤ n) (h1 : n < 1000) : 1 ≤ (10 : Int) ^ 399 + n ∧ ((10 : Int) ^ 399 + n).natAbs < 10 ^ 400 := by
  have : (10 : Int) ^ 399 = ((10 ^ 399 : Nat) : Int) := by decide +kernel
  have h2 : (10 : Nat) ^ 399 + 1000 < 10 ^ 400 := by decide +kernel
  have h3 : 1000 < (10 : Nat) ^ 399 := by decide +kernel
  rw [this]
  omega
theorem p30 (n : Int) (h0 : 0 ≤ n) (h1 : n < 1000) : (0 - (10 : Int) ^ 30 + n).natAbs < 10 ^ 400 := by
  have : (10 : Int) ^ 30 = ((10 ^ 30 : Nat) : Int) := by decide +kernel
  have h2 : (10 : Nat) ^ 30 + 1000 < 10 ^ 400 := by decide +kernel
  rw [this]
  omega
def sp__law_number_of (K : PySem.W.Frag) : Sp := fun vs H Q _ => ∃ (F : Hp) (b : Addr), vs = [.ref b] ∧ Bag K b F H ∧ Same F H ∧ ∀ F' H' v r, Sb b F H F' H' → Bag K b F' H' → Rt K F' v r → RtOk r → Q v H'
theorem c__law_number_of (T : Txt K mg w a) : Cl P w K mg base 3 "_law_number_of" P__law_number_of (sp__law_number_of K) [] :=
  T.d__law_number_of.cl sc__law_number_of (fun vs H Q E h => by obtain ⟨F, b, rfl, _⟩ := h; rfl) fun f cdv A outer s H vs Q E hr h => by
    obtain ⟨F, b, rfl, hB, hf, k⟩ := h
    refine ⟨_, ((pss_cons (ps_set (i := 1) sc__law_number_of.nd rfl (Or.inl rfl) (pe_f (c__law_pick T) (takes_of rfl rfl rfl rfl) hr (by decide) rfl (pa_cons (pv 0) (pa_cons pe_int pa_nil))))
 (pss_cons (ps_set (i := 2) sc__law_number_of.nd rfl (Or.inl rfl) (pe_op op_sub (pe_f (c__law_pick T) (takes_of rfl rfl rfl rfl) hr (by decide) rfl (pa_cons (pv 0) (pa_cons pe_int pa_nil))) pe_int))
 (pss_cons (ps_set (i := 3) sc__law_number_of.nd rfl (Or.inl rfl) (pe_op op_add pe_int (pe_f (c__law_pick T) (takes_of rfl rfl rfl rfl) hr (by decide) rfl (pa_cons (pv 0) (pa_cons pe_int pa_nil)))))
 (pss_cons (ps_if (pt_cmpR op_eq (pv 1) pe_int (nomark _))
 (pss_one (ps_set (i := 2) sc__law_number_of.nd rfl (Or.inl rfl) pe_int))
 pss_nil)
 (pss_cons (ps_if (pt_cmpR op_eq (pv 1) pe_int (nomark _))
 (pss_cons (ps_set (i := 2) sc__law_number_of.nd rfl (Or.inl rfl) (pe_op op_sub (pe_callTy call_int_str (by rfl) T.n_int (by decide +kernel) (pa_cons (pe_op op_repZ pe_str pe_int) pa_nil)) (pe_f (c__law_pick T) (takes_of rfl rfl rfl rfl) hr (by decide) rfl (pa_cons (pv 0) (pa_cons pe_int pa_nil)))))
 (pss_one (ps_set (i := 3) sc__law_number_of.nd rfl (Or.inl rfl) (pe_op op_add (pe_callTy call_int_str (by rfl) T.n_int (by decide +kernel) (pa_cons (pe_op op_add_str pe_str (pe_op op_repZ pe_str pe_int)) pa_nil)) (pe_f (c__law_pick T) (takes_of rfl rfl rfl rfl) hr (by decide) rfl (pa_cons (pv 0) (pa_cons pe_int pa_nil)))))))
 pss_nil)
 (pss_cons (ps_if (pt_cmpR op_eq (pv 1) pe_int (nomark _))
 (pss_one (ps_set (i := 2) sc__law_number_of.nd rfl (Or.inl rfl) (pe_op op_add (pe_op op_sub pe_int (pe_op op_pow pe_int pe_int)) (pe_f (c__law_pick T) (takes_of rfl rfl rfl rfl) hr (by decide) rfl (pa_cons (pv 0) (pa_cons pe_int pa_nil))))))
 pss_nil)
 (pss_one (ps_ret (pe_f (c__law_ratio T) (takes_of rfl rfl rfl rfl) hr (by decide) rfl (pa_cons (pv 2) (pa_cons (pv 3) pa_nil)))))))))))), ?_⟩
    refine ⟨_, rfl, F, b, _, rfl, hB, hf, by decide, sz_of 4 (by decide) (by decide), fun H1 way s1 B1 w0 w1 => ?_⟩
    refine ⟨_, rfl, F, b, _, rfl, B1, s1.fh, by decide, sz_of 11 (by decide) (by decide), fun H2 n s2 B2 n0 n1 => ⟨_, _, rfl, rfl, ?_⟩⟩
    refine ⟨_, rfl, F, b, _, rfl, B2, s2.fh, by decide, sz_of 4 (by decide) (by decide), fun H3 d s3 B3 d0 d1 => ⟨_, _, rfl, rfl, ?_⟩⟩
    have s3 := seqB s1 B1 (seqB s2 B2 s3)
    have big : 2000 < (10 : Nat) ^ 400 := by decide +kernel
    have fin : ∀ (n d : Int) (H3 : Hp), Sb b F H F H3 → Bag K b F H3 → n.natAbs < 10 ^ 400 → 1 ≤ d → d.natAbs < 10 ^ 400 → sp_ratio K ([.int n, .int d] ++ []) H3 Q E := fun n d H3 s3 B3 h1 h2 h3 =>
      ⟨F, n, d, rfl, by omega, sz_ten h3, s3.fh, fun F4 H4 v s4 hv => by
        obtain ⟨s5, B5⟩ := pureB s3 B3 s4
        exact k F4 H4 v _ s5 B5 hv (rt_rat h2 h1 h3)⟩
    rcases (by omega : way = 0 ∨ way = 1 ∨ way = 2 ∨ 3 ≤ way) with rfl | rfl | rfl | hw
    · refine ⟨_, rfl, rfl, _, rfl, iteY (vint_eq rfl) ?_⟩
      refine ⟨_, rfl, rfl, _, rfl, iteN (vint_ne (by decide)) ?_⟩
      refine ⟨_, rfl, rfl, _, rfl, iteN (vint_ne (by decide)) ?_⟩
      exact ⟨_, rfl, _, rfl, fin _ _ _ s3 B3 (by decide +kernel) (by omega) (by omega)⟩
    · refine ⟨_, rfl, rfl, _, rfl, iteN (vint_ne (by decide)) ?_⟩
      refine ⟨_, rfl, rfl, _, rfl, iteY (vint_eq rfl) ?_⟩
      have e9 : ("9" : Str) = S [57] := by decide +kernel
      have e1 : ("1" : Str) = S [49] := by decide +kernel
      have e00 : ("0" : Str) = S [48] := by decide +kernel
      refine ⟨[57], 400, congrArg V.str e9, rfl, by decide, by decide, by decide, by decide, _, _, rfl, nine, by rw [SX.S_len]; decide +kernel, ?_⟩
      refine ⟨_, rfl, F, b, _, rfl, B3, s3.fh, by decide, sz_of 10 (by decide) (by decide), fun H4 m s4 B4 m0 m1 => ⟨_, _, rfl, rfl, ?_⟩⟩
      refine ⟨[48], 399, congrArg V.str e00, rfl, by decide, by decide, by decide, by decide, _, _, rfl, rfl, by rw [e1, SX.S_len, SX.S_len, sizeLine_eq]; decide +kernel, _, _, rfl, ten1.1, ten1.2, ?_⟩
      refine ⟨_, rfl, F, b, _, rfl, B4, s4.fh, by decide, sz_of 10 (by decide) (by decide), fun H5 m2 s5 B5 m20 m21 => ⟨_, _, rfl, rfl, ?_⟩⟩
      refine ⟨_, rfl, rfl, _, rfl, iteN (vint_ne (by decide)) ?_⟩
      have p := p399 m2 m20 m21
      exact ⟨_, rfl, _, rfl, fin _ _ _ (seqB s3 B3 (seqB s4 B4 s5)) B5 (p400 m m0 m1) p.1 p.2⟩
    · refine ⟨_, rfl, rfl, _, rfl, iteN (vint_ne (by decide)) ?_⟩
      refine ⟨_, rfl, rfl, _, rfl, iteN (vint_ne (by decide)) ?_⟩
      refine ⟨_, rfl, rfl, _, rfl, iteY (vint_eq rfl) ?_⟩
      refine ⟨_, _, rfl, rfl, ⟨by decide, by decide, by decide⟩, _, _, rfl, rfl, _, rfl, F, b, _, rfl, B3, s3.fh, by decide, sz_of 10 (by decide) (by decide), fun H4 m s4 B4 m0 m1 => ⟨_, _, rfl, rfl, ?_⟩⟩
      exact ⟨_, rfl, _, rfl, fin _ _ _ (seqB s3 B3 s4) B4 (p30 m m0 m1) (by omega) (by omega)⟩
    · refine ⟨_, rfl, rfl, _, rfl, iteN (vint_ne (by omega)) ?_⟩
      refine ⟨_, rfl, rfl, _, rfl, iteN (vint_ne (by omega)) ?_⟩
      refine ⟨_, rfl, rfl, _, rfl, iteN (vint_ne (by omega)) ?_⟩
      exact ⟨_, rfl, _, rfl, fin _ _ _ s3 B3 (by omega) (by omega) (by omega)⟩
end
end K09

set_option Elab.async false
set_option linter.all false
set_option maxRecDepth 100000
set_option maxHeartbeats 4000000
namespace K09
open PySem PySem.Spec PyProof.Rows L2 Ew
open SX (S)
/-- the list of names -/
structure NmL (F : Hp) (p : Addr) (ns : List Tk) : Prop where
  at_ : F p = some (.lst (tsL ns))
  ne : ns ≠ []
  le : ns.length ≤ 50
  nm : ∀ n ∈ ns, isNm n = true
theorem NmL.up {F F' : Hp} {p : Addr} {ns : List Tk} (h : NmL F p ns) (e : Same F F') : NmL F' p ns := ⟨e _ _ h.at_, h.ne, h.le, h.nm⟩
theorem ts_get {ns : List Tk} {i : Nat} {x : V} (h : (tsL ns)[i]? = some x) : ∃ n, n ∈ ns ∧ x = .str (S n) := by
  unfold tsL at h
  rw [List.getElem?_map] at h
  cases e : ns[i]? with
  | none => rw [e] at h; cases h
  | some n => rw [e] at h; cases h; exact ⟨n, List.mem_of_getElem? e, rfl⟩
/-- a unit's text -/
structure Ut (u : Tk) : Prop where
  hd : ∃ c r, u = c :: r ∧ (c = 49 ∨ 97 ≤ c ∧ c ≤ 122)
  no : 32 ∉ u
theorem Ut.nm {n : Tk} (h : isNm n = true) : Ut n := by
  obtain ⟨c, r, e, h1, h2, al⟩ := low_of h
  exact ⟨⟨c, r, e, .inr ⟨h1, h2⟩⟩, fun z => by have := al 32 z; omega⟩
theorem Ut.app {u x : Tk} (h : Ut u) (k : 32 ∉ x) : Ut (u ++ x) := by
  obtain ⟨c, r, e, hc⟩ := h.hd
  refine ⟨⟨c, r ++ x, by rw [e]; rfl, hc⟩, ?_⟩
  rw [List.mem_append, not_or]
  exact ⟨h.no, k⟩
theorem nm_len {n : Tk} (h : isNm n = true) : n.length ≤ 12 := by
  unfold isNm at h
  rw [Bool.and_eq_true, Bool.and_eq_true] at h
  exact of_decide_eq_true h.2.1
theorem Ut.ok {r : Int × Int} {u : Tk} (h : Ut u) (hr : RtOk r) (hl : u.length ≤ 300) : TrOk (.amt r u) := by
  obtain ⟨c, q, e, hc⟩ := h.hd
  refine .amt hr (by rw [e]; simp) h.no hl (fun z => ?_) (fun z => ?_)
  · rw [e] at z
    injection z with z _
    omega
  · rw [e] at z
    injection z with z _
    omega
def uOps : List Tk := [[42], [47]]
def uExp : List Tk := [[], [94, 50], [94, 51], [94, 45, 51], [94, 45, 49]]
theorem uOps_ts : ([.str "*", .str "/"] : List V) = tsL uOps := by
  have e1 : ("*" : Str) = S [42] := by decide +kernel
  have e2 : ("/" : Str) = S [47] := by decide +kernel
  rw [e1, e2]
  rfl
theorem uExp_ts : ([.str "", .str "^2", .str "^3", .str "^-3", .str "^-1"] : List V) = tsL uExp := by
  have e1 : ("^2" : Str) = S [94, 50] := by decide +kernel
  have e2 : ("^3" : Str) = S [94, 51] := by decide +kernel
  have e3 : ("^-3" : Str) = S [94, 45, 51] := by decide +kernel
  have e4 : ("^-1" : Str) = S [94, 45, 49] := by decide +kernel
  rw [e0, e1, e2, e3, e4]
  rfl
theorem uOps_ok : ∀ x ∈ uOps, x.length ≤ 1 ∧ 32 ∉ x := by decide
theorem uExp_ok : ∀ x ∈ uExp, x.length ≤ 3 ∧ 32 ∉ x := by decide
def long1 : Tk := [97, 98, 99, 100, 101, 102, 103, 104, 105, 106, 107, 108]
def long2 : Tk := [47, 97, 98, 99, 100, 101, 102, 103, 104, 105, 106, 107, 108, 42, 97, 98, 99, 100, 101, 102, 103, 104, 105, 106, 107, 108]
theorem eL1 : ("abcdefghijkl" : Str) = S long1 := by decide +kernel
theorem eL2 : ("/abcdefghijkl*abcdefghijkl" : Str) = S long2 := by decide +kernel
section
variable {P : Program} {w : World} {K : PySem.W.Frag} {mg : Str → Option Value} {base : Heap} {a : Ad}
def sp__law_unit_word (K : PySem.W.Frag) : Sp := fun vs H Q _ => ∃ (F : Hp) (b p : Addr) (ns : List Tk), vs = [.ref b, .ref p] ∧ Bag K b F H ∧ Same F H ∧ NmL F p ns ∧
  ∀ F' H' u, Sb b F H F' H' → Bag K b F' H' → Ut u → u.length ≤ 300 → Q (.str (S u)) H'
theorem c__law_unit_word (T : Txt K mg w a) : Cl P w K mg base 3 "_law_unit_word" P__law_unit_word (sp__law_unit_word K) [] :=
  T.d__law_unit_word.cl sc__law_unit_word (fun vs H Q E h => by obtain ⟨F, b, p, ns, rfl, _⟩ := h; rfl) fun f cdv A outer s H vs Q E hr h => by
    obtain ⟨F, b, p, ns, rfl, hB, hf, hn, k⟩ := h
    refine ⟨_, ((pss_cons (ps_set (i := 2) sc__law_unit_word.nd rfl (Or.inl rfl) (pe_f (c__law_choice T) (takes_of rfl rfl rfl rfl) hr (by decide) rfl (pa_cons (pv 0) (pa_cons (pe_op op_cat (pv 1) (pe_lst (pa_cons pe_str pa_nil))) pa_nil))))
 (pss_cons (ps_if (pt_val (pe_f (c__law_one_in T) (takes_of rfl rfl rfl rfl) hr (by decide) rfl (pa_cons (pv 0) (pa_cons pe_int pa_nil))))
 (pss_one (ps_ret (pe_op op_add_str pe_str (pe_op op_repZ pe_str pe_int))))
 pss_nil)
 (pss_cons (ps_for (passes_of rfl) rfl (pi_range1 (by rfl) T.n_range (pa_cons (pe_f (c__law_pick T) (takes_of rfl rfl rfl rfl) hr (by decide) rfl (pa_cons (pv 0) (pa_cons pe_int pa_nil))) pa_nil)) (pg_name (i := 3) sc__law_unit_word.nd rfl (Or.inl rfl))
 (pss_cons (ps_set (i := 2) sc__law_unit_word.nd rfl (Or.inl rfl) (pe_op op_add_str (pe_op op_add_str (pv 2) (pe_f (c__law_choice T) (takes_of rfl rfl rfl rfl) hr (by decide) rfl (pa_cons (pv 0) (pa_cons (pe_lst (pa_cons pe_str (pa_cons pe_str pa_nil))) pa_nil)))) (pe_f (c__law_choice T) (takes_of rfl rfl rfl rfl) hr (by decide) rfl (pa_cons (pv 0) (pa_cons (pv 1) pa_nil)))))
 (pss_one (ps_set (i := 2) sc__law_unit_word.nd rfl (Or.inl rfl) (pe_op op_add_str (pv 2) (pe_f (c__law_choice T) (takes_of rfl rfl rfl rfl) hr (by decide) rfl (pa_cons (pv 0) (pa_cons (pe_lst (pa_cons pe_str (pa_cons pe_str (pa_cons pe_str (pa_cons pe_str (pa_cons pe_str pa_nil)))))) pa_nil))))))))
 (pss_one (ps_ret (pv 2))))))), ?_⟩
    refine ⟨_, rfl, _, rfl, by show 1 ≤ sizeLine; decide, fun l hl => ?_⟩
    obtain ⟨s1, B1⟩ := rawB (o := .lst [.str "1"]) (Stm.refl hf) hB hl
    have hp1 := s1.fh _ _ hn.at_
    have nl : (tsL ns).length ≤ 50 := by rw [tsL_len]; exact hn.le
    refine ⟨p, l, tsL ns, [.str "1"], rfl, rfl, hp1, upd_same, by rw [sizeLine_eq]; show _ + 1 ≤ _; omega, fun l2 hl2 => ?_⟩
    obtain ⟨s2, B2⟩ := rawB (o := .lst (tsL ns ++ [.str "1"])) s1 B1 hl2
    have e1 : ("1" : Str) = S [49] := by decide +kernel
    have ex : tsL ns ++ [V.str "1"] = tsL (ns ++ [[49]]) := by rw [tsL_app, e1]; rfl
    rw [ex] at s2 B2 ⊢
    refine ⟨F, b, .ref l2, tsL (ns ++ [[49]]), rfl, .inr (.inl ⟨l2, rfl, nbB B1 hl2, upd_same⟩), by unfold tsL; simp, by rw [tsL_len, List.length_append]; show _ + 1 ≤ _; have := hn.le; omega, B2, s2.fh, fun H3 x i s3 B3 hx => ?_⟩
    have t3 := seqB s2 B2 s3
    obtain ⟨u, hu, rfl⟩ := ts_get hx
    have uu : Ut u ∧ u.length ≤ 12 := by
      rcases List.mem_append.mp hu with h | h
      · exact ⟨.nm (hn.nm u h), nm_len (hn.nm u h)⟩
      · rw [List.mem_singleton] at h
        subst h
        exact ⟨⟨⟨49, [], rfl, .inl rfl⟩, by decide⟩, by decide⟩
    refine gn ?_
    refine ⟨_, rfl, F, b, _, rfl, B3, t3.fh, by decide, sz_of 4 (by decide) (by decide), fun H4 c s4 B4 => ⟨c, rfl, ?_⟩⟩
    have t4 := seqB t3 B3 s4
    cases c with
    | true =>
      refine iteT ⟨long2, 7, congrArg V.str eL2, rfl, by decide, by decide, by decide, by decide, _, _, rfl, rfl, ?_, ?_⟩
      · rw [eL1, SX.S_len, SX.S_len, sizeLine_eq]; decide +kernel
      · have := k F H4 (long1 ++ rep 7 long2) t4 B4 ⟨⟨97, _, rfl, .inr (by decide)⟩, by decide +kernel⟩ (by decide +kernel)
        rw [← SX.S_cat, ← eL1] at this
        exact this
    | false =>
      refine iteF ⟨_, rfl, F, b, _, rfl, B4, t4.fh, by decide, sz_of 4 (by decide) (by decide), fun H5 m s5 B5 m0 m1 => ⟨m, rfl, by omega, by omega, ?_⟩⟩
      have t5 := seqB t4 B4 s5
      refine for_range (lo := 0) (n := m.toNat) (fun i σ' H' => ∃ F' u c3, σ' = [some (.ref b), some (.ref p), some (.str (S u)), c3] ∧ Sb b F H F' H' ∧ Bag K b F' H' ∧ Ut u ∧ u.length ≤ 12 + 20 * i) ?_ ?_ ?_
      · exact ⟨F, u, none, rfl, t5, B5, uu.1, by omega⟩
      · rintro i _ H6 hi ⟨F6, v, c3, rfl, t6, B6, hv, lv⟩
        have hn6 := hn.up t6.ff
        refine ⟨_, rfl, _, rfl, by show 2 ≤ sizeLine; decide, fun l7 hl7 => ?_⟩
        obtain ⟨t7, B7⟩ := rawB (o := .lst [.str "*", .str "/"]) t6 B6 hl7
        refine ⟨F6, b, .ref l7, tsL uOps, rfl, .inr (.inl ⟨l7, rfl, nbB B6 hl7, by rw [upd_same, uOps_ts]⟩), by decide, by decide, B7, t7.fh, fun H8 x8 i8 s8 B8 hx8 => ?_⟩
        have t8 := seqB t7 B7 s8
        obtain ⟨o, ho, rfl⟩ := ts_get hx8
        have ho := uOps_ok o ho
        refine ⟨_, _, rfl, rfl, by rw [SX.S_len, SX.S_len, sizeLine_eq]; omega, _, rfl, _, rfl, F6, b, .ref p, tsL ns, rfl, .inl ⟨p, rfl, SqL.of hn6.at_⟩, by intro z; have := tsL_len ns; rw [z] at this; exact hn.ne (List.length_eq_zero_iff.mp this.symm), by omega, B8, t8.fh, fun H9 x9 i9 s9 B9 hx9 => ?_⟩
        have t9 := seqB t8 B8 s9
        obtain ⟨n, hnn, rfl⟩ := ts_get hx9
        have nn := hn.nm n hnn
        have nnl := nm_len nn
        refine ⟨_, _, rfl, rfl, by rw [PySem.Str.length_append, SX.S_len, SX.S_len, SX.S_len, sizeLine_eq]; omega, ?_⟩
        refine ⟨_, rfl, _, rfl, by show 5 ≤ sizeLine; decide, fun l10 hl10 => ?_⟩
        obtain ⟨t10, B10⟩ := rawB (o := .lst [.str "", .str "^2", .str "^3", .str "^-3", .str "^-1"]) t9 B9 hl10
        refine ⟨F6, b, .ref l10, tsL uExp, rfl, .inr (.inl ⟨l10, rfl, nbB B9 hl10, by rw [upd_same, uExp_ts]⟩), by decide, by decide, B10, t10.fh, fun H11 x11 i11 s11 B11 hx11 => ?_⟩
        have t11 := seqB t10 B10 s11
        obtain ⟨e, he, rfl⟩ := ts_get hx11
        have he := uExp_ok e he
        refine ⟨_, _, rfl, rfl, by rw [PySem.Str.length_append, PySem.Str.length_append, SX.S_len, SX.S_len, SX.S_len, SX.S_len, sizeLine_eq]; omega, ?_⟩
        refine ⟨F6, v ++ o ++ n ++ e, some (.int (0 + (i : Int))), ?_, t11, B11, ((hv.app ho.2).app (Ut.nm nn).no).app he.2, ?_⟩
        · rw [← SX.S_cat, ← SX.S_cat, ← SX.S_cat]
          rfl
        · rw [List.length_append, List.length_append, List.length_append]; omega
      · rintro _ H6 ⟨F6, v, c3, rfl, t6, B6, hv, lv⟩
        exact ⟨_, rfl, k F6 H6 v t6 B6 hv (by omega)⟩
/-! ### a leaf -/
def sp__law_leaf (K : PySem.W.Frag) : Sp := fun vs H Q _ => ∃ (F : Hp) (b p : Addr) (ns : List Tk), vs = [.ref b, .ref p] ∧ Bag K b F H ∧ Same F H ∧ NmL F p ns ∧
  ∀ F' H' v t, Sb b F H F' H' → Bag K b F' H' → TrV K F' v t → TrOk t → ops t = 0 → Q v H'
theorem c__law_leaf (T : Txt K mg w a) : Cl P w K mg base 4 "_law_leaf" P__law_leaf (sp__law_leaf K) [] :=
  T.d__law_leaf.cl sc__law_leaf (fun vs H Q E h => by obtain ⟨F, b, p, ns, rfl, _⟩ := h; rfl) fun f cdv A outer s H vs Q E hr h => by
    obtain ⟨F, b, p, ns, rfl, hB, hf, hn, k⟩ := h
    refine ⟨_, ((pss_cons (ps_set (i := 2) sc__law_leaf.nd rfl (Or.inl rfl) (pe_f (c__law_pick T) (takes_of rfl rfl rfl rfl) hr (by decide) rfl (pa_cons (pv 0) (pa_cons pe_int pa_nil))))
 (pss_cons (ps_set (i := 3) sc__law_leaf.nd rfl (Or.inl rfl) (pe_f (c__law_choice T) (takes_of rfl rfl rfl rfl) hr (by decide) rfl (pa_cons (pv 0) (pa_cons (pv 1) pa_nil))))
 (pss_cons (ps_if (pt_cmpR op_eq (pv 2) pe_int (nomark _))
 (pss_one (ps_ret (pe_tup (pa_cons pe_str (pa_cons (pv 3) pa_nil)))))
 pss_nil)
 (pss_cons (ps_if (pt_cmpR op_eq (pv 2) pe_int (nomark _))
 (pss_one (ps_ret (pe_tup (pa_cons pe_str (pa_cons (pv 3) (pa_cons (pe_f (c__law_choice T) (takes_of rfl rfl rfl rfl) hr (by decide) rfl (pa_cons (pv 0) (pa_cons (pe_lst (pa_cons (pe_un un_neg pe_int) (pa_cons (pe_un un_neg pe_int) (pa_cons pe_int (pa_cons pe_int (pa_cons pe_int (pa_cons (pe_op op_sub (pe_f (c__law_pick T) (takes_of rfl rfl rfl rfl) hr (by decide) rfl (pa_cons (pv 0) (pa_cons pe_int pa_nil))) pe_int) pa_nil))))))) pa_nil))) pa_nil))))))
 pss_nil)
 (pss_cons (ps_if (pt_cmpR op_eq (pv 2) pe_int (nomark _))
 (pss_one (ps_ret (pe_tup (pa_cons pe_str (pa_cons (pv 3) pa_nil)))))
 pss_nil)
 (pss_one (ps_ret (pe_tup (pa_cons pe_str (pa_cons (pe_f (c__law_number_of T) (takes_of rfl rfl rfl rfl) hr (by decide) rfl (pa_cons (pv 0) pa_nil)) (pa_cons (pe_f (c__law_unit_word T) (takes_of rfl rfl rfl rfl) hr (by decide) rfl (pa_cons (pv 0) (pa_cons (pv 1) pa_nil))) pa_nil)))))))))))), ?_⟩
    have nl : (tsL ns).length ≤ 50 := by rw [tsL_len]; exact hn.le
    have nne : tsL ns ≠ [] := by intro z; have := tsL_len ns; rw [z] at this; exact hn.ne (List.length_eq_zero_iff.mp this.symm)
    refine ⟨_, rfl, F, b, _, rfl, hB, hf, by decide, sz_of 4 (by decide) (by decide), fun H1 way s1 B1 w0 w1 => ?_⟩
    refine ⟨_, rfl, _, rfl, F, b, .ref p, tsL ns, rfl, .inl ⟨p, rfl, SqL.of hn.at_⟩, nne, by omega, B1, s1.fh, fun H2 x i s2 B2 hx => ?_⟩
    have t2 := seqB s1 B1 s2
    obtain ⟨n, hnn, rfl⟩ := ts_get hx
    have nn := hn.nm n hnn
    rcases (by omega : way = 0 ∨ way = 1 ∨ way = 2 ∨ 3 ≤ way) with rfl | rfl | rfl | hw
    · refine ⟨_, rfl, rfl, _, rfl, iteY (vint_eq rfl) ?_⟩
      refine ⟨_, rfl, by show 2 ≤ sizeLine; decide, fun q hq => ?_⟩
      obtain ⟨t3, B3⟩ := newB (o := .tup [.str "size", .str (S n)]) t2 B2 hq
      exact k _ _ _ _ t3 B3 (.siz (SqT.of upd_same)) (.siz nn) rfl
    · refine ⟨_, rfl, rfl, _, rfl, iteN (vint_ne (by decide)) ?_⟩
      refine ⟨_, rfl, rfl, _, rfl, iteY (vint_eq rfl) ?_⟩
      refine ⟨_, rfl, _, rfl, _, rfl, _, rfl, _, rfl, F, b, _, rfl, B2, t2.fh, by decide, sz_of 11 (by decide) (by decide), fun H3 m s3 B3 m0 m1 => ⟨_, _, rfl, rfl, by show 6 ≤ sizeLine; decide, fun l hl => ?_⟩⟩
      have t3 := seqB t2 B2 s3
      obtain ⟨t4, B4⟩ := rawB (o := .lst [.int (-1000), .int (-1), .int 0, .int 1, .int 1000, .int (m - 1000)]) t3 B3 hl
      refine ⟨F, b, .ref l, [.int (-1000), .int (-1), .int 0, .int 1, .int 1000, .int (m - 1000)], rfl, .inr (.inl ⟨l, rfl, nbB B3 hl, upd_same⟩), by simp, by show 6 ≤ 1000; decide, B4, t4.fh, fun H5 x5 i5 s5 B5 hx5 => ?_⟩
      have t5 := seqB t4 B4 s5
      have hi : ∃ j : Int, x5 = .int j ∧ j.natAbs ≤ 1000 := by
        match i5, hx5 with
        | 0, h => cases h; exact ⟨_, rfl, by decide⟩
        | 1, h => cases h; exact ⟨_, rfl, by decide⟩
        | 2, h => cases h; exact ⟨_, rfl, by decide⟩
        | 3, h => cases h; exact ⟨_, rfl, by decide⟩
        | 4, h => cases h; exact ⟨_, rfl, by decide⟩
        | 5, h => cases h; exact ⟨_, rfl, by omega⟩
        | i + 6, h => simp at h
      obtain ⟨j, rfl, hj⟩ := hi
      refine ⟨by show 3 ≤ sizeLine; decide, fun q hq => ?_⟩
      obtain ⟨t6, B6⟩ := newB (o := .tup [.str "offset", .str (S n), .int j]) t5 B5 hq
      exact k _ _ _ _ t6 B6 (.off (SqT.of upd_same)) (.off nn hj) rfl
    · refine ⟨_, rfl, rfl, _, rfl, iteN (vint_ne (by decide)) ?_⟩
      refine ⟨_, rfl, rfl, _, rfl, iteN (vint_ne (by decide)) ?_⟩
      refine ⟨_, rfl, rfl, _, rfl, iteY (vint_eq rfl) ?_⟩
      refine ⟨_, rfl, by show 2 ≤ sizeLine; decide, fun q hq => ?_⟩
      obtain ⟨t3, B3⟩ := newB (o := .tup [.str "name", .str (S n)]) t2 B2 hq
      exact k _ _ _ _ t3 B3 (.nam (SqT.of upd_same)) (.nam nn) rfl
    · refine ⟨_, rfl, rfl, _, rfl, iteN (vint_ne (by omega)) ?_⟩
      refine ⟨_, rfl, rfl, _, rfl, iteN (vint_ne (by omega)) ?_⟩
      refine ⟨_, rfl, rfl, _, rfl, iteN (vint_ne (by omega)) ?_⟩
      refine ⟨_, rfl, F, b, rfl, B2, t2.fh, fun F3 H3 z r s3 B3 hz hr3 => ?_⟩
      have t3 := seqB t2 B2 s3
      refine ⟨_, rfl, _, rfl, F3, b, p, ns, rfl, B3, t3.fh, hn.up t3.ff, fun F4 H4 u s4 B4 hu lu => ?_⟩
      have t4 := seqB t3 B3 s4
      refine ⟨by show 3 ≤ sizeLine; decide, fun q hq => ?_⟩
      obtain ⟨t5, B5⟩ := newB (o := .tup [.str "amount", z, .str (S u)]) t4 B4 hq
      exact k _ _ _ _ t5 B5 (.amt (SqT.of upd_same) ((hz.up s4.ff).up (same_new (t4.fh.free hq)))) (hu.ok hr3 lu) rfl
end
end K09

set_option Elab.async false
set_option linter.all false
set_option maxRecDepth 100000
set_option maxHeartbeats 4000000
namespace K09
open PySem PySem.Spec PyProof.Rows L2 Ew
open SX (S)
section
variable {P : Program} {w : World} {K : PySem.W.Frag} {mg : Str → Option Value} {base : Heap} {a : Ad}
/-! ### a tree -/
structure OpL (K : PySem.W.Frag) (F : Hp) (q : Addr) (os : List Op) : Prop where
  at_ : SqL K F q (os.map fun o => V.str o.w)
  ne : os ≠ []
  le : os.length ≤ 10
theorem OpL.up {F F' : Hp} {q : Addr} {os : List Op} (h : OpL K F q os) (e : Same F F') : OpL K F' q os := ⟨upL e h.at_, h.ne, h.le⟩
theorem op_get {os : List Op} {i : Nat} {x : V} (h : (os.map fun o => V.str o.w)[i]? = some x) : ∃ o : Op, x = .str o.w := by
  rw [List.getElem?_map] at h
  cases e : os[i]? with
  | none => rw [e] at h; cases h
  | some o => rw [e] at h; cases h; exact ⟨o, rfl⟩
def sp_tree (K : PySem.W.Frag) (n : Nat) : Sp := fun vs H Q _ => ∃ (F : Hp) (b p q : Addr) (ns : List Tk) (os : List Op) (shape : Int) (many : Nat), vs = [.ref b, .ref p, .ref q, .int shape, .int (many : Nat)] ∧ Bag K b F H ∧ Same F H ∧ NmL F p ns ∧ OpL K F q os ∧ 0 ≤ shape ∧ shape < 3 ∧ many < n ∧ n ≤ 100 ∧
  ∀ F' H' v t, Sb b F H F' H' → Bag K b F' H' → TrV K F' v t → TrOk t → ops t = many → Q v H'
theorem c__law_tree_of (T : Txt K mg w a) {n L : Nat} (hL : 4 ≤ L) (ih : Cl P w K mg base L "_law_tree_of" P__law_tree_of (sp_tree K n) []) : Cl P w K mg base (L + 1) "_law_tree_of" P__law_tree_of (sp_tree K (n + 1)) [] :=
  T.d__law_tree_of.cl sc__law_tree_of (fun vs H Q E h => by obtain ⟨F, b, p, q, ns, os, sh, m, rfl, _⟩ := h; rfl) fun f cdv A outer s H vs Q E hr h => by
    obtain ⟨F, b, p, q, ns, os, shape, many, rfl, hB, hf, hn, ho, h0, h3, hm, n100, k⟩ := h
    refine ⟨_, ((pss_cons (ps_if (pt_cmpR op_eq (pv 4) pe_int (nomark _))
 (pss_one (ps_ret (pe_f (c__law_leaf T) (takes_of rfl rfl rfl rfl) hr (by omega) rfl (pa_cons (pv 0) (pa_cons (pv 1) pa_nil)))))
 pss_nil)
 (pss_cons (ps_set (i := 5) sc__law_tree_of.nd rfl (Or.inl rfl) (pe_ix ix_list (pe_lst (pa_cons (pe_f (c__law_pick T) (takes_of rfl rfl rfl rfl) hr (by omega) rfl (pa_cons (pv 0) (pa_cons (pv 4) pa_nil))) (pa_cons (pe_op op_sub (pv 4) pe_int) (pa_cons pe_int pa_nil)))) (pv 3) (fun _ _ => rfl)))
 (pss_cons (ps_set (i := 6) sc__law_tree_of.nd rfl (Or.inl rfl) (pe_f (c__law_choice T) (takes_of rfl rfl rfl rfl) hr (by omega) rfl (pa_cons (pv 0) (pa_cons (pv 2) pa_nil))))
 (pss_cons (ps_set (i := 7) sc__law_tree_of.nd rfl (Or.inl rfl) (pe_f ih (takes_of rfl rfl rfl rfl) hr (by omega) rfl (pa_cons (pv 0) (pa_cons (pv 1) (pa_cons (pv 2) (pa_cons (pv 3) (pa_cons (pv 5) pa_nil)))))))
 (pss_one (ps_ret (pe_tup (pa_cons (pv 6) (pa_cons (pv 7) (pa_cons (pe_f ih (takes_of rfl rfl rfl rfl) hr (by omega) rfl (pa_cons (pv 0) (pa_cons (pv 1) (pa_cons (pv 2) (pa_cons (pv 3) (pa_cons (pe_op op_sub (pe_op op_sub (pv 4) pe_int) (pv 5)) pa_nil)))))) pa_nil))))))))))), ?_⟩
    by_cases mz : many = 0
    · subst mz
      refine ⟨_, rfl, rfl, _, rfl, iteY (vint_eq rfl) ?_⟩
      exact ⟨_, rfl, _, rfl, F, b, p, ns, rfl, hB, hf, hn, k⟩
    · refine ⟨_, rfl, rfl, _, rfl, iteN (vint_ne (by omega)) ?_⟩
      refine ⟨_, rfl, _, rfl, F, b, _, rfl, hB, hf, by omega, sz_len (by omega), fun H1 i s1 B1 i0 i1 => ⟨_, rfl, _, _, rfl, rfl, by show 3 ≤ sizeLine; decide, fun l hl => ?_⟩⟩
      obtain ⟨s2, B2⟩ := rawB (o := .lst [.int i, .int ((many : Int) - 1), .int 0]) s1 B1 hl
      have hat : ∃ j : Nat, j < many ∧ atI [V.int i, .int ((many : Int) - 1), .int 0] shape = some (.int (j : Int)) := by
        rcases (by omega : shape = 0 ∨ shape = 1 ∨ shape = 2) with rfl | rfl | rfl
        · exact ⟨i.toNat, by omega, by rw [show ((i.toNat : Nat) : Int) = i by omega]; rfl⟩
        · exact ⟨many - 1, by omega, by rw [show ((many - 1 : Nat) : Int) = (many : Int) - 1 by omega]; rfl⟩
        · exact ⟨0, by omega, rfl⟩
      obtain ⟨j, jm, hat⟩ := hat
      refine ⟨_, rfl, l, _, shape, .int (j : Int), rfl, rfl, SqL.of upd_same, hat, ?_⟩
      refine ⟨_, rfl, _, rfl, F, b, .ref q, _, rfl, .inl ⟨q, rfl, ho.at_⟩, by intro z; exact ho.ne (List.map_eq_nil_iff.mp z), by rw [List.length_map]; have := ho.le; omega, B2, s2.fh, fun H3 x i3 s3 B3 hx => ?_⟩
      have t3 := seqB s2 B2 s3
      obtain ⟨o, rfl⟩ := op_get hx
      refine ⟨_, rfl, _, rfl, _, rfl, _, rfl, _, rfl, F, b, p, q, ns, os, shape, j, rfl, B3, t3.fh, hn, ho, h0, h3, by omega, by omega, fun F4 H4 v1 l1 s4 B4 tv1 ok1 op1 => ?_⟩
      have t4 := seqB t3 B3 s4
      refine ⟨_, rfl, _, rfl, _, rfl, _, rfl, _, rfl, _, rfl, _, rfl, _, _, rfl, rfl, _, rfl, _, _, rfl, rfl, F4, b, p, q, ns, os, shape, many - 1 - j, ?_, B4, t4.fh, hn.up t4.ff, ho.up t4.ff, h0, h3, by omega, by omega, fun F5 H5 v2 r1 s5 B5 tv2 ok2 op2 => ?_⟩
      · rw [show (((many - 1 - j : Nat) : Nat) : Int) = (many : Int) - 1 - (j : Int) by omega]
        rfl
      have t5 := seqB t4 B4 s5
      refine ⟨by show 3 ≤ sizeLine; decide, fun x hx => ?_⟩
      obtain ⟨t6, B6⟩ := newB (o := .tup [.str o.w, v1, v2]) t5 B5 hx
      have e6 := same_new (o := .tup [.str o.w, v1, v2]) (t5.fh.free hx)
      exact k _ _ _ (.bin o l1 r1) t6 B6 (.bin (SqT.of upd_same) ((tv1.up s5.ff).up e6) (tv2.up e6)) (.bin ok1 ok2) (by show ops l1 + ops r1 + 1 = many; omega)
theorem c_tree_n (T : Txt K mg w a) : ∀ n : Nat, Cl P w K mg base (n + 4) "_law_tree_of" P__law_tree_of (sp_tree K n) [] := by
  intro n
  induction n with
  | zero =>
    refine T.d__law_tree_of.cl sc__law_tree_of (fun vs H Q E h => by obtain ⟨F, b, p, q, ns, os, sh, m, rfl, _⟩ := h; rfl) fun f cdv A outer s H vs Q E hr h => ?_
    obtain ⟨F, b, p, q, ns, os, sh, m, _, _, _, _, _, _, _, hm, _⟩ := h
    exact absurd hm (Nat.not_lt_zero _)
  | succ n ih => exact c__law_tree_of T (L := n + 4) (by omega) ih
/-! ### its rank, a leaf's text -/
def sp__law_rank_of (K : PySem.W.Frag) : Sp := fun vs H Q _ => ∃ (v : V) (t : Tr), vs = [v] ∧ TrV K H v t ∧ Q (.int (t.rk : Nat)) H
theorem rk_w (t : Tr) : (decide (V.str t.w = V.str "plus") || decide (V.str t.w = V.str "minus")) = decide (t.rk = 1) ∧ (decide (V.str t.w = V.str "times") || decide (V.str t.w = V.str "over")) = decide (t.rk = 2) := by
  cases t with
  | amt r u => exact ⟨(by decide +kernel : (decide (V.str "amount" = V.str "plus") || decide (V.str "amount" = V.str "minus")) = decide ((3 : Nat) = 1)), (by decide +kernel : (decide (V.str "amount" = V.str "times") || decide (V.str "amount" = V.str "over")) = decide ((3 : Nat) = 2))⟩
  | siz n => exact ⟨(by decide +kernel : (decide (V.str "size" = V.str "plus") || decide (V.str "size" = V.str "minus")) = decide ((3 : Nat) = 1)), (by decide +kernel : (decide (V.str "size" = V.str "times") || decide (V.str "size" = V.str "over")) = decide ((3 : Nat) = 2))⟩
  | off n i => exact ⟨(by decide +kernel : (decide (V.str "offset" = V.str "plus") || decide (V.str "offset" = V.str "minus")) = decide ((3 : Nat) = 1)), (by decide +kernel : (decide (V.str "offset" = V.str "times") || decide (V.str "offset" = V.str "over")) = decide ((3 : Nat) = 2))⟩
  | nam n => exact ⟨(by decide +kernel : (decide (V.str "name" = V.str "plus") || decide (V.str "name" = V.str "minus")) = decide ((3 : Nat) = 1)), (by decide +kernel : (decide (V.str "name" = V.str "times") || decide (V.str "name" = V.str "over")) = decide ((3 : Nat) = 2))⟩
  | bin o l r => cases o with
    | plus => exact ⟨(by decide +kernel : (decide (V.str "plus" = V.str "plus") || decide (V.str "plus" = V.str "minus")) = decide ((1 : Nat) = 1)), (by decide +kernel : (decide (V.str "plus" = V.str "times") || decide (V.str "plus" = V.str "over")) = decide ((1 : Nat) = 2))⟩
    | minus => exact ⟨(by decide +kernel : (decide (V.str "minus" = V.str "plus") || decide (V.str "minus" = V.str "minus")) = decide ((1 : Nat) = 1)), (by decide +kernel : (decide (V.str "minus" = V.str "times") || decide (V.str "minus" = V.str "over")) = decide ((1 : Nat) = 2))⟩
    | times => exact ⟨(by decide +kernel : (decide (V.str "times" = V.str "plus") || decide (V.str "times" = V.str "minus")) = decide ((2 : Nat) = 1)), (by decide +kernel : (decide (V.str "times" = V.str "times") || decide (V.str "times" = V.str "over")) = decide ((2 : Nat) = 2))⟩
    | over => exact ⟨(by decide +kernel : (decide (V.str "over" = V.str "plus") || decide (V.str "over" = V.str "minus")) = decide ((2 : Nat) = 1)), (by decide +kernel : (decide (V.str "over" = V.str "times") || decide (V.str "over" = V.str "over")) = decide ((2 : Nat) = 2))⟩
theorem c__law_rank_of (T : Txt K mg w a) : Cl P w K mg base 1 "_law_rank_of" P__law_rank_of (sp__law_rank_of K) [] :=
  T.d__law_rank_of.cl sc__law_rank_of (fun vs H Q E h => by obtain ⟨v, t, rfl, _⟩ := h; rfl) fun f cdv A outer s H vs Q E hr h => by
    obtain ⟨v, t, rfl, hv, k⟩ := h
    obtain ⟨p, xs, rfl, hp⟩ := hv.hd
    obtain ⟨r1, r2⟩ := rk_w t
    refine ⟨_, ((pss_cons (ps_if (PW.pt (pw_or (pt_cmpR op_eq (pe_ix ix_tup (pv 0) pe_int (fun _ _ => rfl)) pe_str (nomark _)) (pw_or1 (pt_cmpR op_eq (pe_ix ix_tup (pv 0) pe_int (fun _ _ => rfl)) pe_str (nomark _)))))
 (pss_one (ps_ret pe_int))
 pss_nil)
 (pss_cons (ps_if (PW.pt (pw_or (pt_cmpR op_eq (pe_ix ix_tup (pv 0) pe_int (fun _ _ => rfl)) pe_str (nomark _)) (pw_or1 (pt_cmpR op_eq (pe_ix ix_tup (pv 0) pe_int (fun _ _ => rfl)) pe_str (nomark _)))))
 (pss_one (ps_ret pe_int))
 pss_nil)
 (pss_one (ps_ret pe_int))))), ?_⟩
    refine ⟨_, rfl, p, _, _, _, rfl, rfl, hp, at0c, rfl, _, rfl, ?_⟩
    cases e1 : decide (V.str t.w = V.str "plus") with
    | true =>
      rw [e1] at r1
      have rk1 : t.rk = 1 := of_decide_eq_true r1.symm
      rw [rk1] at k
      exact iteT k
    | false =>
      refine iteF ⟨_, rfl, p, _, _, _, rfl, rfl, hp, at0c, rfl, _, rfl, ?_⟩
      rw [e1] at r1
      cases e2 : decide (V.str t.w = V.str "minus") with
      | true =>
        rw [e2] at r1
        have rk1 : t.rk = 1 := of_decide_eq_true r1.symm
        rw [rk1] at k
        exact iteT k
      | false =>
        rw [e2] at r1
        have n1 : t.rk ≠ 1 := of_decide_eq_false r1.symm
        refine iteF ⟨_, rfl, p, _, _, _, rfl, rfl, hp, at0c, rfl, _, rfl, ?_⟩
        cases e3 : decide (V.str t.w = V.str "times") with
        | true =>
          rw [e3] at r2
          have rk1 : t.rk = 2 := of_decide_eq_true r2.symm
          rw [rk1] at k
          exact iteT k
        | false =>
          refine iteF ⟨_, rfl, p, _, _, _, rfl, rfl, hp, at0c, rfl, _, rfl, ?_⟩
          rw [e3] at r2
          cases e4 : decide (V.str t.w = V.str "over") with
          | true =>
            rw [e4] at r2
            have rk1 : t.rk = 2 := of_decide_eq_true r2.symm
            rw [rk1] at k
            exact iteT k
          | false =>
            rw [e4] at r2
            have n2 : t.rk ≠ 2 := of_decide_eq_false r2.symm
            have rk3 : t.rk = 3 := by rcases t.rk_le with h | h | h <;> first | exact absurd h n1 | exact absurd h n2 | exact h
            rw [rk3] at k
            exact iteF k
def sp__law_leaf_text (K : PySem.W.Frag) : Sp := fun vs H Q _ => ∃ (v : V) (t : Tr), vs = [v] ∧ TrV K H v t ∧ TrOk t ∧ t.rk = 3 ∧ Q (.str (S (J (lfT t)))) H
theorem c__law_leaf_text (T : Txt K mg w a) : Cl P w K mg base 1 "_law_leaf_text" P__law_leaf_text (sp__law_leaf_text K) [] :=
  T.d__law_leaf_text.cl sc__law_leaf_text (fun vs H Q E h => by obtain ⟨v, t, rfl, _⟩ := h; rfl) fun f cdv A outer s H vs Q E hr h => by
    obtain ⟨v, t, rfl, hv, ok, h3, k⟩ := h
    refine ⟨_, ((pss_cons (ps_if (pt_cmpR op_eq (pe_ix ix_tup (pv 0) pe_int (fun _ _ => rfl)) pe_str (nomark _))
 (pss_one (ps_ret (pe_ix ix_tup (pv 0) pe_int (fun _ _ => rfl))))
 pss_nil)
 (pss_cons (ps_if (pt_cmpR op_eq (pe_ix ix_tup (pv 0) pe_int (fun _ _ => rfl)) pe_str (nomark _))
 (pss_one (ps_ret (pe_op op_add_str pe_str (pe_ix ix_tup (pv 0) pe_int (fun _ _ => rfl)))))
 pss_nil)
 (pss_cons (ps_if (pt_cmpR op_eq (pe_ix ix_tup (pv 0) pe_int (fun _ _ => rfl)) pe_str (nomark _))
 (pss_one (ps_ret (pe_op op_add_str (pe_op op_add_str (pe_op op_add_str pe_str (pe_ix ix_tup (pv 0) pe_int (fun _ _ => rfl))) pe_str) (pe_callTy call_str_int (by rfl) T.n_str (by decide +kernel) (pa_cons (pe_ix ix_tup (pv 0) pe_int (fun _ _ => rfl)) pa_nil)))))
 pss_nil)
 (pss_cons (ps_if (pt_cmpR op_eq (pe_ix ix_tup (pe_ix ix_tup (pv 0) pe_int (fun _ _ => rfl)) pe_int (fun _ _ => rfl)) pe_int (nomark _))
 (pss_one (ps_ret (pe_op op_add_str (pe_op op_add_str (pe_callTy call_str_int (by rfl) T.n_str (by decide +kernel) (pa_cons (pe_ix ix_tup (pe_ix ix_tup (pv 0) pe_int (fun _ _ => rfl)) pe_int (fun _ _ => rfl)) pa_nil)) pe_str) (pe_ix ix_tup (pv 0) pe_int (fun _ _ => rfl)))))
 pss_nil)
 (pss_one (ps_ret (pe_op op_add_str (pe_op op_add_str (pe_op op_add_str (pe_op op_add_str (pe_callTy call_str_int (by rfl) T.n_str (by decide +kernel) (pa_cons (pe_ix ix_tup (pe_ix ix_tup (pv 0) pe_int (fun _ _ => rfl)) pe_int (fun _ _ => rfl)) pa_nil)) pe_str) (pe_callTy call_str_int (by rfl) T.n_str (by decide +kernel) (pa_cons (pe_ix ix_tup (pe_ix ix_tup (pv 0) pe_int (fun _ _ => rfl)) pe_int (fun _ _ => rfl)) pa_nil))) pe_str) (pe_ix ix_tup (pv 0) pe_int (fun _ _ => rfl)))))))))), ?_⟩
    cases hv with
    | @nam p m hp =>
      refine ⟨_, rfl, p, _, _, _, rfl, rfl, hp, at0c, rfl, _, rfl, iteY (by decide +kernel) ?_⟩
      exact ⟨_, rfl, p, _, 1, _, rfl, rfl, hp, rfl, k⟩
    | @siz p m hp =>
      refine ⟨_, rfl, p, _, _, _, rfl, rfl, hp, at0c, rfl, _, rfl, iteN (by decide +kernel) ?_⟩
      refine ⟨_, rfl, p, _, _, _, rfl, rfl, hp, at0c, rfl, _, rfl, iteY (by decide +kernel) ?_⟩
      cases ok with
      | siz hm =>
        have lm : (S m).length ≤ 1000 := S_le (wd_nm hm).2
        refine ⟨_, rfl, p, _, 1, _, rfl, rfl, hp, rfl, _, _, rfl, rfl, by rw [sizeLine_eq]; show 5 + _ ≤ _; omega, ?_⟩
        have e1 : ("size " : Str) = S (wSz ++ [32]) := by decide +kernel
        rw [e1, SX.S_cat, List.append_assoc]
        exact k
    | @off p m i hp =>
      refine ⟨_, rfl, p, _, _, _, rfl, rfl, hp, at0c, rfl, _, rfl, iteN (by decide +kernel) ?_⟩
      refine ⟨_, rfl, p, _, _, _, rfl, rfl, hp, at0c, rfl, _, rfl, iteN (by decide +kernel) ?_⟩
      refine ⟨_, rfl, p, _, _, _, rfl, rfl, hp, at0c, rfl, _, rfl, iteY (by decide +kernel) ?_⟩
      cases ok with
      | off hm hi =>
        have lm : (S m).length ≤ 1000 := S_le (wd_nm hm).2
        have li : i.natAbs.log2 < 1920 := log_of (k := 0) (Nat.lt_of_le_of_lt hi (by decide +kernel))
        have l4 : (Str.ofString (toString i)).length ≤ 1921 := txt_len li
        refine ⟨_, rfl, p, _, 1, _, rfl, rfl, hp, rfl, _, _, rfl, rfl, by rw [sizeLine_eq]; show 7 + _ ≤ _; omega, _, _, rfl, rfl, by rw [PySem.Str.length_append, sizeLine_eq]; show 7 + _ + 1 ≤ _; omega, _, rfl, p, _, 2, _, rfl, rfl, hp, rfl, _, rfl, li, _, _, rfl, rfl, by rw [PySem.Str.length_append, PySem.Str.length_append, sizeLine_eq]; show 7 + _ + 1 + _ ≤ _; omega, ?_⟩
        have e1 : ("offset " : Str) = S (wOf ++ [32]) := by decide +kernel
        rw [e1, e32, S_int, SX.S_cat, SX.S_cat, SX.S_cat, List.append_assoc, List.append_assoc, List.append_assoc]
        exact k
    | @amt p z r u hp hz =>
      refine ⟨_, rfl, p, _, _, _, rfl, rfl, hp, at0c, rfl, _, rfl, iteN (by decide +kernel) ?_⟩
      refine ⟨_, rfl, p, _, _, _, rfl, rfl, hp, at0c, rfl, _, rfl, iteN (by decide +kernel) ?_⟩
      refine ⟨_, rfl, p, _, _, _, rfl, rfl, hp, at0c, rfl, _, rfl, iteN (by decide +kernel) ?_⟩
      obtain ⟨q, rfl, hq⟩ := hz
      refine ⟨_, rfl, p, _, 1, _, rfl, rfl, hp, rfl, q, _, 1, _, rfl, rfl, hq, rfl, rfl, _, rfl, ?_⟩
      cases ok with
      | amt a1 a2 a3 a4 a5 a6 =>
        have z1 : r.1.natAbs.log2 < 1920 := log_of (k := 0) a1.s1
        have z2 : r.2.natAbs.log2 < 1920 := log_of (k := 0) a1.s2
        have l1 := txt_len z1
        have lu : (S u).length ≤ 300 := S_le a4
        have l2 := txt_len z2
        have er := wr_rat r
        by_cases h1 : r.2 = 1
        · refine iteY (vint_eq h1) ⟨_, rfl, p, _, 1, _, rfl, rfl, hp, rfl, q, _, 0, _, rfl, rfl, hq, rfl, _, rfl, z1, _, _, rfl, rfl, by rw [sizeLine_eq]; show _ + 1 ≤ _; omega, _, rfl, p, _, 2, _, rfl, rfl, hp, rfl, _, _, rfl, rfl, by rw [PySem.Str.length_append, sizeLine_eq]; show _ + 1 + _ ≤ _; omega, ?_⟩
          rw [if_pos h1] at er
          rw [er, e32, SX.S_cat, SX.S_cat, List.append_assoc]
          exact k
        · refine iteN (vint_ne h1) ⟨_, rfl, p, _, 1, _, rfl, rfl, hp, rfl, q, _, 0, _, rfl, rfl, hq, rfl, _, rfl, z1, _, _, rfl, rfl, by rw [sizeLine_eq]; show _ + 1 ≤ _; omega, _, rfl, p, _, 1, _, rfl, rfl, hp, rfl, q, _, 1, _, rfl, rfl, hq, rfl, _, rfl, z2, _, _, rfl, rfl, by rw [PySem.Str.length_append, sizeLine_eq]; show _ + 1 + _ ≤ _; omega, _, _, rfl, rfl, by rw [PySem.Str.length_append, PySem.Str.length_append, sizeLine_eq]; show _ + 1 + _ + 1 ≤ _; omega, _, rfl, p, _, 2, _, rfl, rfl, hp, rfl, _, _, rfl, rfl, by rw [PySem.Str.length_append, PySem.Str.length_append, PySem.Str.length_append, sizeLine_eq]; show _ + 1 + _ + 1 + _ ≤ _; omega, ?_⟩
          rw [if_neg h1] at er
          have eE : Str.empty ++ Str.ofString (toString r.1) = Str.ofString (toString r.1) := by rw [S_int, emS, SX.S_cat]; rfl
          rw [eE] at er
          rw [er, e32, SX.S_cat, SX.S_cat, List.append_assoc]
          exact k
    | @bin p o x y l r hp hl hr' => exact absurd h3 (Op.rk3 _)
end
end K09

set_option Elab.async false
set_option linter.all false
set_option maxRecDepth 100000
set_option maxHeartbeats 4000000
namespace K09
open PySem PySem.Spec PyProof.Rows L2 Ew
open SX (S)
theorem eLPs : ("( " : Str) = S [40, 32] := by decide +kernel
theorem eRPs : (" )" : Str) = S [32, 41] := by decide +kernel
def sgL (o : Op) : List Nat := [32] ++ o.tk ++ [32]
def sgD : List (Key × V) := [(.inr "plus", .str " + "), (.inr "minus", .str " - "), (.inr "times", .str " * "), (.inr "over", .str " / ")]
theorem sg_get {H : Hp} {d : Addr} (h : H d = some (.dK sgD)) (o : Op) : DGet H d (.str o.w) (some (.str (S (sgL o)))) := by
  have e1 : (" + " : Str) = S (sgL .plus) := by decide +kernel
  have e2 : (" - " : Str) = S (sgL .minus) := by decide +kernel
  have e3 : (" * " : Str) = S (sgL .times) := by decide +kernel
  have e4 : (" / " : Str) = S (sgL .over) := by decide +kernel
  cases o with
  | plus => exact e1 ▸ .inl ⟨_, .inr "plus", .inl h, rfl, rfl⟩
  | minus => exact e2 ▸ .inl ⟨_, .inr "minus", .inl h, rfl, rfl⟩
  | times => exact e3 ▸ .inl ⟨_, .inr "times", .inl h, rfl, rfl⟩
  | over => exact e4 ▸ .inl ⟨_, .inr "over", .inl h, rfl, rfl⟩
section
variable {P : Program} {w : World} {K : PySem.W.Frag} {mg : Str → Option Value} {base : Heap} {a : Ad}
def sp_text (K : PySem.W.Frag) (n : Nat) : Sp := fun vs H Q _ => ∃ (F : Hp) (b : Addr) (v : V) (t : Tr) (most : Nat), vs = [.ref b, v, .int (most : Nat)] ∧ Bag K b F H ∧ Same F H ∧ TrV K F v t ∧ TrOk t ∧ ops t < n ∧ n ≤ 100 ∧ most ≤ 2 ∧
  ∀ F' H' us, Sb b F H F' H' → Bag K b F' H' → Tx t us → (most = 0 → us = toks t) → Q (.str (S (J us))) H'
theorem c__law_text_of (T : Txt K mg w a) {n L : Nat} (hL : 3 ≤ L) (ih : Cl P w K mg base L "_law_text_of" P__law_text_of (sp_text K n) []) : Cl P w K mg base (L + 1) "_law_text_of" P__law_text_of (sp_text K (n + 1)) [] :=
  T.d__law_text_of.cl sc__law_text_of (fun vs H Q E h => by obtain ⟨F, b, v, t, m, rfl, _⟩ := h; rfl) fun f cdv A outer s H vs Q E hr h => by
    obtain ⟨F, b, v, t, most, rfl, hB, hf, hv, ok, hn, n100, hm, k⟩ := h
    refine ⟨_, ((pss_cons (ps_set (i := 3) sc__law_text_of.nd rfl (Or.inl rfl) (pe_f (c__law_rank_of T) (takes_of rfl rfl rfl rfl) hr (by omega) rfl (pa_cons (pv 1) pa_nil)))
 (pss_cons (ps_if (pt_cmpR op_eq (pv 3) pe_int (nomark _))
 (pss_one (ps_set (i := 4) sc__law_text_of.nd rfl (Or.inl rfl) (pe_f (c__law_leaf_text T) (takes_of rfl rfl rfl rfl) hr (by omega) rfl (pa_cons (pv 1) pa_nil))))
 (pss_cons (ps_set (i := 5) sc__law_text_of.nd rfl (Or.inl rfl) (pe_lst (pa_cons pe_str (pa_cons pe_str pa_nil))))
 (pss_cons (ps_for (passes_of rfl) rfl (pi_range1 (by rfl) T.n_range (pa_cons pe_int pa_nil)) (pg_name (i := 6) sc__law_text_of.nd rfl (Or.inl rfl))
 (pss_cons (ps_asg (pe_f ih (takes_of rfl rfl rfl rfl) hr (by omega) rfl (pa_cons (pv 0) (pa_cons (pe_ix ix_tup (pv 1) (pe_op op_add pe_int (pv 6)) (fun _ _ => rfl)) (pa_cons (pv 2) pa_nil)))) (pg_sub (pv 5) (pv 6) set_list))
 (pss_one (ps_if (pt_cmpR op_lt (pe_f (c__law_rank_of T) (takes_of rfl rfl rfl rfl) hr (by omega) rfl (pa_cons (pe_ix ix_tup (pv 1) (pe_op op_add pe_int (pv 6)) (fun _ _ => rfl)) pa_nil)) (pe_op op_add (pv 3) (pv 6)) (nomark _))
 (pss_one (ps_asg (pe_op op_add_str (pe_op op_add_str pe_str (pe_ix ix_list (pv 5) (pv 6) (fun _ _ => rfl))) pe_str) (pg_sub (pv 5) (pv 6) set_list)))
 pss_nil))))
 (pss_cons (ps_set (i := 7) sc__law_text_of.nd rfl (Or.inl rfl) (pe_dget (hu_of hr) (pe_disp (pps_cons pe_str pe_str (pps_cons pe_str pe_str (pps_cons pe_str pe_str (pps_cons pe_str pe_str pps_nil)))) (by rfl) (by rfl) (fun z => by cases z) (by decide)) (pe_ix ix_tup (pv 1) pe_int (fun _ _ => rfl)) (fun _ _ => rfl)))
 (pss_one (ps_set (i := 4) sc__law_text_of.nd rfl (Or.inl rfl) (pe_op op_add_str (pe_op op_add_str (pe_ix ix_list (pv 5) pe_int (fun _ _ => rfl)) (pv 7)) (pe_ix ix_list (pv 5) pe_int (fun _ _ => rfl)))))))))
 (pss_cons (ps_set (i := 8) sc__law_text_of.nd rfl (Or.inl rfl) pe_int)
 (pss_cons (ps_if (pt_cmpR op_gt (pv 2) pe_int (nomark _))
 (pss_one (ps_set (i := 8) sc__law_text_of.nd rfl (Or.inl rfl) (pe_f (c__law_pick T) (takes_of rfl rfl rfl rfl) hr (by omega) rfl (pa_cons (pv 0) (pa_cons (pe_op op_add (pv 2) pe_int) pa_nil)))))
 pss_nil)
 (pss_one (ps_ret (pe_op op_add_str (pe_op op_add_str (pe_op op_repZ pe_str (pv 8)) (pv 4)) (pe_op op_repZ pe_str (pv 8)))))))))), ?_⟩
    refine ⟨_, rfl, v, t, rfl, hv.up hf, gn ?_⟩
    dsimp only
    refine seq_with (fun σ' H' => ∃ F' us c5 c6 c7 c8, ([some (.ref b), some v, some (.int (most : Nat)), some (.int (t.rk : Nat)), some (.str (S (J us))), c5, c6, c7, c8] : List (Option V)) = σ' ∧ Sb b F H F' H' ∧ Bag K b F' H' ∧ (∀ k, k ≤ 2 → Tx t (wrap k us)) ∧ us ≠ [] ∧ Wds us ∧ us.length ≤ 7 + 16 * ops t ∧ (most = 0 → us = toks t)) (fun u hu => ?_) ?_
    · by_cases r3 : t.rk = 3
      · refine ⟨_, rfl, rfl, _, rfl, iteY (vint_eq (by omega)) ?_⟩
        refine ⟨_, rfl, v, t, rfl, hv.up hf, ok, r3, hu _ _ ⟨F, lfT t, _, _, _, _, rfl, Stm.refl hf, hB, fun k hk => .leaf k r3 hk, ?_, ?_, ?_, fun _ => ?_⟩⟩
        · have := tx_words (.leaf 0 r3 (by decide)) ok
          rwa [wrap0] at this
        · have := tx_wds (.leaf 0 r3 (by decide)) ok
          rwa [wrap0] at this
        · have := (tx_gr (.leaf 0 r3 (by decide)) ok).2
          rwa [wrap0] at this
        · cases hv with
          | bin _ _ _ => exact absurd r3 (Op.rk3 _)
          | _ => rfl
      · refine ⟨_, rfl, rfl, _, rfl, iteN (vint_ne (by omega)) ?_⟩
        cases hv with
        | @bin p o x y l r hp hvl hvr =>
          cases ok with
          | bin okl okr =>
            have hn' : ops l + ops r + 1 < n + 1 := hn
            refine ⟨by show 2 ≤ sizeLine; decide, fun L hL => ?_⟩
            obtain ⟨s1, B1⟩ := rawB (o := .lst [.str "", .str ""]) (Stm.refl hf) hB hL
            have nL := nbB hB hL
            refine ⟨2, rfl, by decide, by decide, ?_⟩
            refine for_range (lo := 0) (n := 2) (fun i σ' H' => ∃ F' c4 c6 c7, σ' = [some (.ref b), some (.ref p), some (.int (most : Nat)), some (.int (o.rk : Nat)), c4, some (.ref L), c6, c7, none] ∧ Sb b F H F' H' ∧ Bag K b F' H' ∧ F' L = none ∧
              ((i = 0 ∧ H' L = some (.lst [.str "", .str ""])) ∨ (i = 1 ∧ ∃ ul a0 a1, H' L = some (.lst [a0, a1]) ∧ Tx l ul ∧ (most = 0 → ul = toks l) ∧ a0 = V.str (S (J (side ul l.rk (o.rk + 0))))) ∨
               (i = 2 ∧ ∃ ul ur a0 a1, H' L = some (.lst [a0, a1]) ∧ Tx l ul ∧ (most = 0 → ul = toks l) ∧ a0 = V.str (S (J (side ul l.rk (o.rk + 0)))) ∧ Tx r ur ∧ (most = 0 → ur = toks r) ∧ a1 = V.str (S (J (side ur r.rk (o.rk + 1))))))) ?_ ?_ ?_
            · exact ⟨F, none, none, none, rfl, s1, B1, hf.free hL, .inl ⟨rfl, upd_same⟩⟩
            · rintro i _ H2 hi ⟨F2, c4, c6, c7, rfl, s2, B2, f2L, hq⟩
              rcases hq with ⟨rfl, h2L⟩ | ⟨rfl, ul0, a0, a1, h2L, hx0, hz0, ea⟩ | ⟨rfl, _⟩
              · obtain ⟨a1, ha1⟩ : ∃ a1 : V, a1 = .str "" := ⟨_, rfl⟩
                have h2L : H2 L = some (.lst [.str "", a1]) := by rw [ha1]; exact h2L
                have opl : ops l < n := by have : ops l + ops r + 1 < n + 1 := hn; omega
                refine ⟨_, rfl, _, rfl, _, rfl, _, _, rfl, rfl, p, _, _, x, rfl, rfl, upT s2.fh (upT s2.ff hp), rfl, _, rfl, F2, b, x, l, most, rfl, B2, s2.fh, hvl.up s2.ff, okl, opl, by omega, hm, fun F3 H3 us s3 B3 hx hz => ?_⟩
                have t3 := seqB s2 B2 s3
                have h3L := s3.hh L _ nL h2L
                have f3L : F3 L = none := s3.nw L f2L (by rw [h2L]; exact fun z => nomatch z)
                refine ⟨_, rfl, _, rfl, L, _, _, 0, rfl, rfl, h3L, rfl, ?_⟩
                obtain ⟨t4, B4⟩ := mutB (o := .lst [.str (S (J us)), a1]) t3 B3 f3L hL nL
                refine ⟨_, rfl, _, rfl, _, _, rfl, rfl, p, _, _, x, rfl, rfl, upT t4.fh (upT t4.ff hp), rfl, x, l, rfl, (hvl.up t4.ff).up t4.fh, _, rfl, _, rfl, _, _, rfl, rfl, _, _, rfl, rfl, _, rfl, ?_⟩
                have une := tx_words hx okl
                have ul := (tx_gr hx okl).2
                have jl : (J us).length ≤ 1001 * (7 + 16 * 100) := Nat.le_trans (J_len (tx_wds hx okl)) (Nat.mul_le_mul_left _ (by omega))
                have jS : (S (J us)).length ≤ 1001 * (7 + 16 * 100) := S_le jl
                by_cases c : l.rk < o.rk + 0
                · refine iteY (decide_eq_true (by show ((l.rk : Nat) : Int) < ((o.rk : Nat) : Int) + (0 + (0 : Nat)); omega)) ?_
                  refine ⟨_, rfl, _, rfl, L, _, _, .str (S (J us)), rfl, rfl, SqL.of upd_same, rfl, _, _, rfl, rfl, by rw [sizeLine_eq]; show 2 + (S (J us)).length ≤ _; omega, _, _, rfl, rfl, by rw [PySem.Str.length_append, sizeLine_eq]; show 2 + (S (J us)).length + 2 ≤ _; omega, ?_⟩
                  refine ⟨_, rfl, _, rfl, L, _, _, 0, rfl, rfl, upd_same, rfl, ?_⟩
                  obtain ⟨t5, B5⟩ := mutB (o := .lst [.str (("( " : Str) ++ S (J us) ++ " )"), a1]) t4 B4 f3L hL nL
                  have es : (("( " : Str) ++ S (J us) ++ " )") = S (J (side us l.rk (o.rk + 0))) := by
                    rw [J_side une, if_pos c, eLPs, eRPs, SX.S_cat, SX.S_cat]
                  exact ⟨F3, _, _, _, rfl, t5, B5, f3L, .inr (.inl ⟨rfl, us, _, a1, upd_same, hx, hz, congrArg V.str es⟩)⟩
                · refine iteN (by rw [decide_eq_false (by show ¬ ((l.rk : Nat) : Int) < ((o.rk : Nat) : Int) + (0 + (0 : Nat)); omega)]; exact fun z => nomatch z) ?_
                  have es : S (J us) = S (J (side us l.rk (o.rk + 0))) := by
                    rw [J_side une, if_neg c]
                  exact ⟨F3, _, _, _, rfl, t4, B4, f3L, .inr (.inl ⟨rfl, us, _, a1, upd_same, hx, hz, congrArg V.str es⟩)⟩
              · skip
                have opl : ops r < n := by have : ops l + ops r + 1 < n + 1 := hn; omega
                refine ⟨_, rfl, _, rfl, _, rfl, _, _, rfl, rfl, p, _, _, y, rfl, rfl, upT s2.fh (upT s2.ff hp), rfl, _, rfl, F2, b, y, r, most, rfl, B2, s2.fh, hvr.up s2.ff, okr, opl, by omega, hm, fun F3 H3 us s3 B3 hx hz => ?_⟩
                have t3 := seqB s2 B2 s3
                have h3L := s3.hh L _ nL h2L
                have f3L : F3 L = none := s3.nw L f2L (by rw [h2L]; exact fun z => nomatch z)
                refine ⟨_, rfl, _, rfl, L, _, _, 1, rfl, rfl, h3L, rfl, ?_⟩
                obtain ⟨t4, B4⟩ := mutB (o := .lst [a0, .str (S (J us))]) t3 B3 f3L hL nL
                refine ⟨_, rfl, _, rfl, _, _, rfl, rfl, p, _, _, y, rfl, rfl, upT t4.fh (upT t4.ff hp), rfl, y, r, rfl, (hvr.up t4.ff).up t4.fh, _, rfl, _, rfl, _, _, rfl, rfl, _, _, rfl, rfl, _, rfl, ?_⟩
                have une := tx_words hx okr
                have ul := (tx_gr hx okr).2
                have jl : (J us).length ≤ 1001 * (7 + 16 * 100) := Nat.le_trans (J_len (tx_wds hx okr)) (Nat.mul_le_mul_left _ (by omega))
                have jS : (S (J us)).length ≤ 1001 * (7 + 16 * 100) := S_le jl
                by_cases c : r.rk < o.rk + 1
                · refine iteY (decide_eq_true (by show ((r.rk : Nat) : Int) < ((o.rk : Nat) : Int) + (0 + (1 : Nat)); omega)) ?_
                  refine ⟨_, rfl, _, rfl, L, _, _, .str (S (J us)), rfl, rfl, SqL.of upd_same, rfl, _, _, rfl, rfl, by rw [sizeLine_eq]; show 2 + (S (J us)).length ≤ _; omega, _, _, rfl, rfl, by rw [PySem.Str.length_append, sizeLine_eq]; show 2 + (S (J us)).length + 2 ≤ _; omega, ?_⟩
                  refine ⟨_, rfl, _, rfl, L, _, _, 1, rfl, rfl, upd_same, rfl, ?_⟩
                  obtain ⟨t5, B5⟩ := mutB (o := .lst [a0, .str (("( " : Str) ++ S (J us) ++ " )")]) t4 B4 f3L hL nL
                  have es : (("( " : Str) ++ S (J us) ++ " )") = S (J (side us r.rk (o.rk + 1))) := by
                    rw [J_side une, if_pos c, eLPs, eRPs, SX.S_cat, SX.S_cat]
                  exact ⟨F3, _, _, _, rfl, t5, B5, f3L, .inr (.inr ⟨rfl, ul0, us, _, _, upd_same, hx0, hz0, ea, hx, hz, congrArg V.str es⟩)⟩
                · refine iteN (by rw [decide_eq_false (by show ¬ ((r.rk : Nat) : Int) < ((o.rk : Nat) : Int) + (0 + (1 : Nat)); omega)]; exact fun z => nomatch z) ?_
                  have es : S (J us) = S (J (side us r.rk (o.rk + 1))) := by
                    rw [J_side une, if_neg c]
                  exact ⟨F3, _, _, _, rfl, t4, B4, f3L, .inr (.inr ⟨rfl, ul0, us, _, _, upd_same, hx0, hz0, ea, hx, hz, congrArg V.str es⟩)⟩
              · exact absurd hi (by decide)
            · rintro _ H2 ⟨F2, c4, c6, c7, rfl, s2, B2, f2L, hq⟩
              rcases hq with ⟨z, _⟩ | ⟨z, _⟩ | ⟨_, ul, ur, a0, a1, h2L, hxl, hzl, rfl, hxr, hzr, rfl⟩
              · exact absurd z (by decide)
              · exact absurd z (by decide)
              · intro d hd
                obtain ⟨s3, B3⟩ := rawB (o := .dK []) s2 B2 hd
                refine ⟨upd_same, sgD, rfl, by show 4 ≤ 15; decide, ?_⟩
                have nd : L ≠ d := fun z => by rw [z, hd] at h2L; cases h2L
                have f2d : F2 d = none := s2.fh.free hd
                have h0d : H d = none := s2.fresh (fun x z => (memB K b).there B2 z) hd
                obtain ⟨s4, B4⟩ := mutB (o := .dK sgD) s3 B3 f2d h0d (nbB B2 hd)
                have h4L : (upd (upd H2 d (.dK [])) d (.dK sgD)) L = some (.lst [V.str (S (J (side ul l.rk (o.rk + 0)))), V.str (S (J (side ur r.rk (o.rk + 1))))]) := by rw [upd_ne nd, upd_ne nd]; exact h2L
                have g1 := tx_words hxl okl
                have g2 := tx_words hxr okr
                have w1 := tx_wds hxl okl
                have w2 := tx_wds hxr okr
                have e1 := (tx_gr hxl okl).2
                have e2 := (tx_gr hxr okr).2
                have ws1 := w1.side l.rk (o.rk + 0)
                have ws2 := w2.side r.rk (o.rk + 1)
                have n1 := side_len ul l.rk (o.rk + 0)
                have n2 := side_len ur r.rk (o.rk + 1)
                have j1 : (S (J (side ul l.rk (o.rk + 0)))).length ≤ 1001 * (9 + 16 * 100) := S_le (Nat.le_trans (J_len ws1) (Nat.mul_le_mul_left _ (by omega)))
                have j2 : (S (J (side ur r.rk (o.rk + 1)))).length ≤ 1001 * (9 + 16 * 100) := S_le (Nat.le_trans (J_len ws2) (Nat.mul_le_mul_left _ (by omega)))
                have j3 : (S (sgL o)).length ≤ 3 := S_le (by cases o <;> decide)
                refine ⟨_, rfl, p, _, _, _, rfl, rfl, upT s4.fh (upT s4.ff hp), at0c, d, _, rfl, sg_get upd_same o, ?_⟩
                refine ⟨_, rfl, L, _, 0, _, rfl, rfl, SqL.of h4L, rfl, _, rfl, _, _, rfl, rfl, by rw [sizeLine_eq]; omega, _, rfl, L, _, 1, _, rfl, rfl, SqL.of h4L, rfl, _, _, rfl, rfl, by rw [PySem.Str.length_append, sizeLine_eq]; omega, ?_⟩
                have eJ : S (J (side ul l.rk (o.rk + 0))) ++ S (sgL o) ++ S (J (side ur r.rk (o.rk + 1))) = S (J (side ul l.rk o.rk ++ o.tk :: side ur r.rk (o.rk + 1))) := by
                  rw [J_op (side_ne g1 _ _) (side_ne g2 _ _), SX.S_cat, SX.S_cat]
                  rfl
                refine hu _ _ ⟨F2, side ul l.rk o.rk ++ o.tk :: side ur r.rk (o.rk + 1), some (.ref L), c6, some (.str (S (sgL o))), none, ?_, s4, B4, fun k hk => .bin k hxl hxr hk, by simp, ws1.app (.cons (wd_op o) ws2), ?_, fun z => ?_⟩
                · rw [← eJ]
                  rfl
                · rw [List.length_append, List.length_cons]
                  have n1 := side_len ul l.rk o.rk
                  show _ ≤ 7 + 16 * (ops l + ops r + 1)
                  omega
                · rw [hzl z, hzr z]
                  rfl
        | amt _ _ => exact absurd rfl r3
        | siz _ => exact absurd rfl r3
        | off _ => exact absurd rfl r3
        | nam _ => exact absurd rfl r3
    · rintro _ H2 ⟨F2, us, c5, c6, c7, c8, rfl, s2, B2, htx, une, uwd, ulen, uz⟩
      have jl : (J us).length ≤ 1001 * (7 + 16 * 100) := Nat.le_trans (J_len uwd) (Nat.mul_le_mul_left _ (by omega))
      have jS : (S (J us)).length ≤ 1001 * (7 + 16 * 100) := S_le jl
      refine gn ?_
      dsimp only
      refine seq_with (fun σ' H' => ∃ j : Nat, ([some (.ref b), some v, some (.int (most : Nat)), some (.int (t.rk : Nat)), some (.str (S (J us))), c5, c6, c7, some (.int (j : Nat))] : List (Option V)) = σ' ∧ Sb b F H F2 H' ∧ Bag K b F2 H' ∧ j ≤ 2 ∧ (most = 0 → j = 0)) (fun u hu => ?_) ?_
      · refine ⟨_, rfl, _, _, rfl, rfl, _, rfl, ?_⟩
        by_cases c : 0 < most
        · refine iteY (decide_eq_true (by omega)) ?_
          refine ⟨_, rfl, _, rfl, _, _, rfl, rfl, F2, b, _, rfl, B2, s2.fh, by omega, sz_of 3 (by omega) (by decide), fun H3 e s3 B3 e0' e1' => ?_⟩
          obtain ⟨j, rfl⟩ : ∃ j : Nat, e = j := ⟨e.toNat, by omega⟩
          exact hu _ _ ⟨j, rfl, seqB s2 B2 s3, B3, by omega, fun z => by omega⟩
        · refine iteN (by rw [decide_eq_false (by omega)]; exact fun z => nomatch z) ?_
          exact hu _ _ ⟨0, rfl, s2, B2, by omega, fun z => rfl⟩
      · rintro _ H3 ⟨j, rfl, s3, B3, hj, jz⟩
        have lr : ∀ x : List Nat, x.length = 2 → (S (rep (j : Int).toNat x)).length ≤ 4 := fun x hx => S_le (by rw [rep_len, hx]; omega)
        have l1 := lr [40, 32] rfl
        have l2 := lr [32, 41] rfl
        refine ⟨_, rfl, [40, 32], (j : Int), congrArg V.str eLPs, rfl, by omega, by omega, by decide, by decide, _, rfl, _, _, rfl, rfl, by rw [sizeLine_eq]; omega, _, rfl, [32, 41], (j : Int), congrArg V.str eRPs, rfl, by omega, by omega, by decide, by decide, _, _, rfl, rfl, by rw [PySem.Str.length_append, sizeLine_eq]; omega, ?_⟩
        have := k F2 H3 (wrap j us) s3 B3 (htx j hj) (fun z => by rw [jz z, wrap0]; exact uz z)
        rw [J_wrap une, ← SX.S_cat, ← SX.S_cat] at this
        exact this
theorem c_text_n (T : Txt K mg w a) : ∀ n : Nat, Cl P w K mg base (n + 4) "_law_text_of" P__law_text_of (sp_text K n) [] := by
  intro n
  induction n with
  | zero =>
    refine T.d__law_text_of.cl sc__law_text_of (fun vs H Q E h => by obtain ⟨F, b, v, t, m, rfl, _⟩ := h; rfl) fun f cdv A outer s H vs Q E hr h => ?_
    obtain ⟨F, b, v, t, m, _, _, _, _, _, hn, _⟩ := h
    exact absurd hn (Nat.not_lt_zero _)
  | succ n ih => exact c__law_text_of T (L := n + 4) (by omega) ih
end
end K09

set_option Elab.async false
set_option linter.all false
set_option maxRecDepth 100000
set_option maxHeartbeats 4000000
namespace Ew
open PySem PySem.Spec PyProof.Rows L2
open PySem.W (EachIs AllAlike Sortable dataLe dataKind SortsAt)
/-! ### sorted of keys that are tuples -/
def keyD : Key → PyData
  | .inl n => .int n
  | .inr s => .str s
def keyP (k : List Key) : PyData := .tuple (k.map keyD)
/-- keys, and where each stands -/
abbrev KAs := List (List Key × Addr)
def srt (ps : KAs) : KAs := ps.mergeSort (dataLe false fun q => keyP q.1)
def refsOf (ps : KAs) : List V := ps.map fun q => V.ref q.2
theorem dp_keys {K : PySem.W.Frag} {H : Hp} : ∀ k : List Key, DpAll K H (k.map kV) (k.map keyD)
  | [] => .nil
  | .inl n :: k => .cons (.int n) (dp_keys k)
  | .inr s :: k => .cons (.str s) (dp_keys k)
theorem dp_key {K : PySem.W.Frag} {H : Hp} {b : Addr} {k : List Key} (h : SqT K H b (k.map kV)) : Dp K H (.ref b) (keyP k) := .tup h (dp_keys k)
theorem depth_keys : ∀ k : List Key, PyData.depthAll (k.map keyD) = 0
  | [] => by rw [List.map_nil, PyData.depthAll]
  | .inl n :: k => by rw [List.map_cons, PyData.depthAll, depth_keys k]; rfl
  | .inr s :: k => by rw [List.map_cons, PyData.depthAll, depth_keys k]; rfl
theorem depth_key (k : List Key) : (keyP k).depth ≤ 1 := by
  unfold keyP
  rw [PyData.depth, depth_keys]
  exact Nat.le_refl _
theorem each_refs {R : Value → List Key × Addr → Prop} : ∀ {vs : List Value} {ps : KAs}, vs = ps.map (fun q => Value.ref q.2) → (∀ q ∈ ps, R (.ref q.2) q) → EachIs R vs ps
  | _, [], rfl, _ => .nil
  | _, q :: ps, rfl, h => .cons (h q List.mem_cons_self) (each_refs rfl fun x hx => h x (List.mem_cons_of_mem _ hx))
theorem refs_each : ∀ {vs : List Value} {ps : KAs}, EachIs (fun v q => v = Value.ref q.2) vs ps → Vals (refsOf ps) vs
  | _, _, .nil => .nil
  | _, _, .cons rfl h => .cons rfl (refs_each h)
theorem refs_vals : ∀ {ps : KAs} {us : List Value}, Vals (refsOf ps) us → us = ps.map fun q => Value.ref q.2
  | [], _, .nil => rfl
  | q :: ps, _, .cons rfl h => by rw [refs_vals h]; rfl
section
variable {X : Cx}
/-- sorted(xs), xs a list of such tuples -/
def rSortL (K : PySem.W.Frag) : List V → Hp → VK → Prop := fun vs H Q => ∃ (a : Addr) (ps : KAs), vs = [V.ref a] ∧ SqL K H a (refsOf ps) ∧ (∀ q ∈ ps, SqT K H q.2 (q.1.map kV)) ∧ AllAlike (ps.map fun q => keyP q.1) ∧ Sortable (ps.map fun q => keyP q.1) ∧
  ∀ p, H p = none → Q (.ref p) (upd H p (.lst (refsOf (srt ps))))
theorem call_sortL (hu : X.A.units + 64 < cLine) : CallR X (.builtin "sorted") (rSortL X.K) := by
  intro pins s σ H vs us Q I r h
  obtain ⟨a, ps, rfl, hs, hx, hal, hk, q⟩ := h
  obtain ⟨its, rv, hl, hz⟩ := I.list hs
  obtain ⟨u, rfl, ru⟩ := vals1 r
  obtain rfl : u = Value.ref a := ru
  have ei := refs_vals rv
  have lz : ps.length ≤ sizeLine := by unfold refsOf at hz; rwa [List.length_map] at hz
  have rd : ∀ q ∈ ps, ∃ as, Reads s.heap (.ref q.2) (keyP q.1) as := fun q hq => Dp.reads I _ _ _ (dp_key (hx q hq)) rfl
  refine PySem.W.sorted_data (R := fun v q => v = Value.ref q.2) (enc := fun q : List Key × Addr => keyP q.1) hl.isList (each_refs ei fun _ _ => rfl) (each_refs ei fun q hq => rd q hq) hal hk lz (fun b _ => ?_) fun out ho hR => ?_
  · have := depth_key b.1
    show X.A.units + 2 + (keyP b.1).depth < cLine
    omega
  · obtain ⟨n, hn⟩ := sortedAll_at s.heap its out.toArray
    refine ⟨.ref _, upd H (s.heap.objs.size + 1) (.lst (refsOf (srt ps))), I.laid (t' := s.toks) (fun b o e => sortedAll_old e) (Nat.le_succ _) ⟨?_, out, n, refs_each hR, hn⟩, rfl, q _ (I.hok.fresh (Nat.le_succ _))⟩
    unfold refsOf srt
    rw [List.length_map, List.length_mergeSort]
    exact lz
end
/-! ### the keys of a dict, collected -/
section
variable {P : Program} {w : World} {A : Around} {E : Value → Shared → Prop} {s : Shared} {d : Addr} {o : Obj} {es : Array DictEntry} {ep : Nat}
theorem collect_keys {R : List Value → Shared → Prop} (hh : A.handled = none) (lo : (d == sysModules) = false) (hx : o.ExactDict) (hd : o.data = .dict es ep) (ho : s.heap.get? d = some o) (hn : es.size ≤ sizeLine)
    (h : ∀ (h' : Heap) (tk : Nat) (vs : List Value), (∀ b u, s.heap.get? b = some u → h'.get? b = some u) → s.heap.objs.size ≤ h'.objs.size → vs.length = es.size → (∀ (i : Nat) v, vs[i]? = some v → ∃ en : DictEntry, es[i]? = some en ∧ v = en.key) → R vs { s with heap := h', toks := tk }) :
    wpAny (model P w) A (collect (.ref d)) R E s := by
  have below : d < s.heap.objs.size := Heap.lt_size ho
  unfold collect
  refine wpAny_bind
    (wpAny_runValue (codeAny_builtin PySem.F.entry_proto_collect ?_))
  rw [Around.under_plainId
    PySem.F.plain_proto_collect _]
  show wpAny _ A.in1 (newList [] >>= fun l => again (.builtin "list.__iadd__" ⟨[l, .ref d], []⟩)) _ _ s
  refine wpAny_bind
    (wpAny_newObj_type (wpAny_pure ⟨plainId_quiet PySem.F.plain_list_iadd _, codeAny_builtin PySem.F.entry_list_iadd ?_⟩))
  rw [Around.under_plainId
    PySem.F.plain_list_iadd _]
  have at0 : (s.heap.push { cls := .type "list", data := .seq ([] : List Value).toArray }).get? s.heap.objs.size = some { cls := .type "list", data := .seq #[] } := Heap.get?_push_size _ rfl
  show wpAny _ A.in1 (Builtin.List.listExtendWith (.ref s.heap.objs.size) (.ref d) (.ref s.heap.objs.size)) _ _ _
  have run := PySem.W.kdl_extend (prog := P) (w := w) (A := A) (s := { s with heap := s.heap.push { cls := .type "list", data := .seq ([] : List Value).toArray } })
    (R := fun (q : Result) (s' : Shared) => ∃ (h' : Heap) (tk : Nat) (acc : Array Value) (c : Nat), q = .ok (.ret (.ref s.heap.objs.size)) ∧ s' = { s with heap := h', toks := tk } ∧
      (∀ b u, s.heap.get? b = some u → h'.get? b = some u) ∧ h'.get? s.heap.objs.size = some { cls := .type "list", dict := none, data := .seq acc c, slots := #[] } ∧ ItemsOf (fun i v => ∃ en : DictEntry, es[i]? = some en ∧ v = en.key) acc es.size)
    (kdl_raw (prog := P) (w := w) lo hx hd) hh (Heap.get?_push_of_some _ ho) s.heap.objs.size (Nat.ne_of_gt below) (Nat.ne_of_gt below) (.ref s.heap.objs.size) 0 at0
    (fun h' tk acc c k e it => ⟨h', tk, acc, c, rfl, rfl, fun b u z => k b u (Nat.ne_of_lt (Heap.lt_size z)) (Heap.get?_push_of_some _ z), e, it⟩) hn
  have fin : ∀ (q : Result) (s' : Shared), (∃ (h' : Heap) (tk : Nat) (acc : Array Value) (c : Nat), q = .ok (.ret (.ref s.heap.objs.size)) ∧ s' = { s with heap := h', toks := tk } ∧
      (∀ b u, s.heap.get? b = some u → h'.get? b = some u) ∧ h'.get? s.heap.objs.size = some { cls := .type "list", dict := none, data := .seq acc c, slots := #[] } ∧ ItemsOf (fun i v => ∃ en : DictEntry, es[i]? = some en ∧ v = en.key) acc es.size) →
      q = .ok (.ret (.ref s.heap.objs.size)) ∧ wpAny (model P w) A (do let o ← load s.heap.objs.size; match o.data with | .seq xs _ => pure xs.toList | _ => unsupported "internal:collect") R E s' := by
    rintro q s' ⟨h', tk, acc, c, rfl, rfl, k, e, it⟩
    refine ⟨rfl, wpAny_bind (wpAny_load e (wpAny_pure ?_))⟩
    exact h h' tk acc.toList k (Nat.le_of_lt (Heap.lt_size e)) (by rw [Array.length_toList]; exact it.1) fun i v z => it.2 i v (by rw [← Array.getElem?_toList]; exact z)
  refine wpAny_mono run (fun f s' z => ?_) fun e s' z => ?_
  · cases f with
    | done f =>
      have y := fin _ s' z
      cases y.1
      exact y.2
    | again c =>
      refine ⟨z.1, codeAny_mono z.2 fun q s2 y => ?_⟩
      have y2 := fin _ s2 y
      cases y2.1
      exact y2.2
  · obtain ⟨_, _, _, _, e, _⟩ := z
    cases e
end
/-! ### a new list of such tuples, sorted -/
section
variable {P : Program} {w : World} {A : Around} {E : Value → Shared → Prop} {s : Shared}
theorem sort_fresh {vs : List Value} {ps : KAs} {Q : Value → Shared → Prop} (hv : vs = ps.map fun q => Value.ref q.2) (rd : ∀ q ∈ ps, ∃ as, Reads s.heap (.ref q.2) (keyP q.1) as) (hal : AllAlike (ps.map fun q => keyP q.1)) (hk : Sortable (ps.map fun q => keyP q.1))
    (hL : ps.length ≤ sizeLine) (hu : A.units + 3 < cLine) (h : ∀ (h' : Heap) (out : List Value) (n : Nat), Vals (refsOf (srt ps)) out → (∀ b u, s.heap.get? b = some u → h'.get? b = some u) → h'.get? s.heap.objs.size = some (seqObj "list" out.toArray n) → Q .none { s with heap := h' }) :
    wpAny (model P w) A (call (.builtin "list.sort") [.ref s.heap.objs.size]) Q E { s with heap := s.heap.push (seqObj "list" vs.toArray 0) } := by
  have ho : (s.heap.push (seqObj "list" vs.toArray 0)).get? s.heap.objs.size = some (seqObj "list" vs.toArray 0) := Heap.get?_push_size _ rfl
  have old : ∀ b u, s.heap.get? b = some u → (s.heap.push (seqObj "list" vs.toArray 0)).get? b = some u := fun b u e => Heap.get?_push_of_some _ e
  generalize s.heap.push (seqObj "list" vs.toArray 0) = H1 at ho old ⊢
  have rd1 : EachIs (fun v q => ∃ as, Reads (PySem.W.sortingHeap H1 s.heap.objs.size vs) v (keyP q.1) as) vs ps := each_refs hv fun q hq => by
    obtain ⟨as, r⟩ := rd q hq
    exact ⟨as, PyProof.Rows.Reads.keeps (fun b u e => PySem.W.sortingHeap_old (Nat.ne_of_lt (Heap.lt_size e)) (old b u e)) r⟩
  have e0 : EachIs (fun v q => v = Value.ref q.2) vs ps := each_refs hv fun _ _ => rfl
  have srtAt : SortsAt P w A.in1 { s with heap := PySem.W.sortingHeap H1 s.heap.objs.size vs } (dataKind (PySem.W.sortingHeap H1 s.heap.objs.size vs) (ps.map fun q => keyP q.1)) vs :=
    SortsAt.data (s := { s with heap := PySem.W.sortingHeap H1 s.heap.objs.size vs })
      (PySem.W.each_map (R := fun v d => ∃ as, Reads (PySem.W.sortingHeap H1 s.heap.objs.size vs) v d as) (fun q : List Key × Addr => keyP q.1) rd1) hal hk fun d hd => by
        obtain ⟨q, _, rfl⟩ := List.mem_map.mp hd
        have := depth_key q.1
        show A.units + 1 + (keyP q.1).depth < cLine
        omega
  refine wpAny_call_entry slot_list_sort ⟨_, ho, rfl⟩ entry_list_sort
    (PySem.W.list_sort_vals ho srtAt (by rw [e0.length]; exact hL) ⟨.none, rfl, ?_⟩) (args_list_sort _)
  obtain ⟨n, hn⟩ := sortedHeap_at (vs := vs) (out := (PySem.W.sortVals (dataKind (PySem.W.sortingHeap H1 s.heap.objs.size vs) (ps.map fun q => keyP q.1)) false vs vs).toArray) ho
  refine h _ _ n (refs_each (PySem.W.sortVals_data false e0 rd1 hal)) (fun b u e => ?_) hn
  rw [sortedHeap_old (Nat.ne_of_lt (Heap.lt_size e)) (Heap.lt_size (old b u e))]
  exact old b u e
end
/-! ### sorted of such a dict -/
section
variable {X : Cx}
theorem keys_alike {H : Hp} : ∀ {kvs : List (List Key × V)} {bs : List Addr}, IsKeys H kvs bs → ((kvs.map (·.1)).zip bs).map (·.1) = kvs.map (·.1) ∧ ((kvs.map (·.1)).zip bs).map (·.2) = bs ∧ ∀ q ∈ (kvs.map (·.1)).zip bs, H q.2 = some (.tup (q.1.map kV))
  | _, _, .nil => ⟨rfl, rfl, fun q h => by cases h⟩
  | c :: kvs, b :: bs, .cons h t => by
    obtain ⟨h1, h2, h3⟩ := keys_alike t
    rw [List.map_cons, List.zip_cons_cons]
    refine ⟨by rw [List.map_cons, h1], by rw [List.map_cons, h2], fun q hq => ?_⟩
    rcases List.mem_cons.mp hq with rfl | hq
    · exact h
    · exact h3 q hq
def rSortD : List V → Hp → VK → Prop := fun vs H Q => ∃ (d : Addr) (kvs : List (List Key × V)), vs = [.ref d] ∧ H d = some (.dT kvs) ∧ AllAlike (kvs.map fun c => keyP c.1) ∧ Sortable (kvs.map fun c => keyP c.1) ∧
  ∀ p bs, H p = none → IsKeys H kvs bs → Q (.ref p) (upd H p (.lst (refsOf (srt ((kvs.map (·.1)).zip bs)))))
theorem call_sortD (hc : X.calm = true) (hu : X.A.units + 64 < cLine) : CallR X (.builtin "sorted") rSortD := by
  intro pins s σ H vs us Q I r h
  obtain ⟨d, kvs, rfl, hd, hal, hk, q⟩ := h
  obtain ⟨u, rfl, rx⟩ := r.one
  cases rx
  obtain ⟨z, hs, ks, pr, o, es, ep, ho, hx, hdt, he, hn⟩ := dt_of I.hok hd
  have l1 : es.size = ks.length := size_of_entries he
  have l2 : kvs.length = ks.length := Paired.length pr
  have ik := isKeys_of pr
  obtain ⟨k1, k2, k3⟩ := keys_alike ik
  generalize eB : ks.map (fun x => x.2.1) = bs at ik k1 k2 k3
  refine Calls.call_function_entry kind_sorted plain_sorted
    entry_sorted (args_sorted1 _) ?_
  unfold Builtin.«sorted»
  refine wpAny_bind (m := checkCount "sorted" 1 1 _)
    (wpAny_pure (wpAny_bind (collect_keys (A := X.A.in1) (show X.A.in1.handled = none from I.ok.hd hc) hs hx hdt ho (by omega) fun h' tk vs kp big vl it => ?_)))
  have ev : vs = ((kvs.map (·.1)).zip bs).map fun q => Value.ref q.2 := by
    have : ((kvs.map (·.1)).zip bs).map (fun q => Value.ref q.2) = (((kvs.map (·.1)).zip bs).map (·.2)).map Value.ref := by rw [List.map_map]; rfl
    rw [this, k2, ← eB, List.map_map]
    apply List.ext_getElem?
    intro j
    rw [List.getElem?_map]
    cases hj : vs[j]? with
    | none =>
      have h1 := List.getElem?_eq_none_iff.mp hj
      rw [List.getElem?_eq_none (by omega)]
      all_goals rfl
    | some v =>
      obtain ⟨en, hen, hv⟩ := it j v hj
      have qe := entry_at he j
      rw [hen] at qe
      cases hb : ks[j]? with
      | none =>
        rw [hb] at qe
        exact nomatch (show some en = none from qe)
      | some b =>
        rw [hb] at qe
        have e2 : en = entryOfKey (tupleKind (mixKind X.prog X.w)) b := Option.some.inj qe
        rw [hv, e2]
        all_goals rfl
  have hz : ((kvs.map (·.1)).zip bs).length = kvs.length := by rw [← List.length_map (f := (·.1)), k1, List.length_map]
  have el : vs.length = kvs.length := by rw [ev, List.length_map, hz]
  refine wpAny_bind (wpAny_newList ?_ (by omega))
  have al2 : ((kvs.map (·.1)).zip bs).map (fun q => keyP q.1) = kvs.map fun c => keyP c.1 := by
    have : ((kvs.map (·.1)).zip bs).map (fun q => keyP q.1) = (((kvs.map (·.1)).zip bs).map (·.1)).map keyP := by rw [List.map_map]; rfl
    rw [this, k1, List.map_map]
    rfl
  have rd : ∀ q ∈ (kvs.map (·.1)).zip bs, ∃ as, Reads h' (.ref q.2) (keyP q.1) as := fun q hq => by
    obtain ⟨as, r⟩ := Dp.reads I _ _ _ (dp_key (SqT.of (k3 q hq))) rfl
    exact ⟨as, PyProof.Rows.Reads.keeps kp r⟩
  refine wpAny_bind (wpAny_holding (sort_fresh (s := { s with heap := h', toks := tk }) ev rd (by rw [al2]; exact hal) (by rw [al2]; exact hk) (by omega) (by show X.A.units + 1 + 3 < cLine; omega) fun h2 out n rv kp2 at2 => ?_))
  refine wpAny_pure ⟨_, rfl, .ref h'.objs.size, upd H h'.objs.size (.lst (refsOf (srt ((kvs.map (·.1)).zip bs)))), ?_, rfl, q _ bs (I.hok.fresh ?_) ik⟩
  · refine I.laid (t' := tk) (fun b u e => kp2 b u (kp b u e)) ?_ ⟨?_, out, n, rv, at2⟩
    · exact big
    · unfold refsOf srt
      rw [List.length_map, List.length_mergeSort]
      omega
  · exact big
end
end Ew

set_option Elab.async false
set_option linter.all false
set_option maxRecDepth 100000
set_option maxHeartbeats 4000000
namespace K09
open PySem PySem.Spec PyProof.Rows L2 Ew
open SX (S)
section
variable {P : Program} {w : World} {K : PySem.W.Frag} {mg : Str → Option Value} {base : Heap} {a : Ad}
theorem cE__law_integer (T : Txt K mg w a) : ClE P w K mg base 1 "_law_integer" P__law_integer (fun _ _ _ => sp_is_integer K) :=
  T.d__law_integer.clE sc__law_integer (fun ea cls d vs H Q E h => by obtain ⟨i, rfl, _⟩ := h; rfl) fun f cdv A outer s H vs Q E ea oe cls d hgd hz hf hr h => by
    obtain ⟨v, rfl, h⟩ := h
    refine ⟨_, ((pss_one (ps_ret (pe_and (pe_callB call_isi (by rfl) T.n_isinstance (by decide +kernel) (pa_cons (pv 0) (pa_cons (pe_bltn (v := .ty "int") (by rfl) T.n_int (by decide +kernel) rfl) pa_nil))) (pe_one (pe_not (pe_callB call_isi (by rfl) T.n_isinstance (by decide +kernel) (pa_cons (pv 0) (pa_cons (pe_bltn (v := .ty "bool") (by rfl) T.n_bool (by decide +kernel) rfl) pa_nil))))))))), ?_⟩
    rcases h with ⟨i, rfl, k⟩ | ⟨⟨b, rfl⟩ | ⟨t, ht, hk⟩, k⟩
    · refine ⟨_, rfl, _, _, _, _, true, rfl, .ty _, .base (.int _), kit_ty (by decide +kernel), true, rfl, iteT ?_⟩
      exact ⟨_, rfl, _, _, _, _, false, rfl, .ty _, .base (.int _), kit_ty (by decide +kernel), false, rfl, k⟩
    · refine ⟨_, rfl, _, _, _, _, true, rfl, .ty _, .base (.bl _), kit_ty (by decide +kernel), true, rfl, iteT ?_⟩
      exact ⟨_, rfl, _, _, _, _, true, rfl, .ty _, .base (.bl _), kit_ty (by decide +kernel), true, rfl, k⟩
    · exact ⟨_, rfl, _, _, _, _, false, rfl, .ty _, ht, hk, false, rfl, iteF k⟩
/-! ### how deep a text is -/
def sp__law_depth_of (K : PySem.W.Frag) : Sp := fun vs H Q _ => ∃ (F : Hp) (us : List Tk), vs = [.str (S (J us))] ∧ Wds us ∧ us ≠ [] ∧ us.length ≤ 1000 ∧ Same F H ∧ ∀ F' H', Stp F H F' H' → Q (.int (us.foldl dpS (0, 0)).2) H'
theorem take_fold {us : List Tk} {i : Nat} {u : Tk} (h : us[i]? = some u) (s : Int × Int) : (us.take (i + 1)).foldl dpS s = dpS ((us.take i).foldl dpS s) u := by
  have : us.take (i + 1) = us.take i ++ [u] := by
    rw [List.take_add_one, h]
    rfl
  rw [this, List.foldl_append]
  rfl
theorem c__law_depth_of (T : Txt K mg w a) : Cl P w K mg base 1 "_law_depth_of" P__law_depth_of (sp__law_depth_of K) [] :=
  T.d__law_depth_of.cl sc__law_depth_of (fun vs H Q E h => by obtain ⟨F, us, rfl, _⟩ := h; rfl) fun f cdv A outer s H vs Q E hr h => by
    obtain ⟨F, us, rfl, wd, ne, n1000, hf, k⟩ := h
    refine ⟨_, ((pss_cons (ps_set (i := 1) sc__law_depth_of.nd rfl (Or.inl rfl) pe_int)
 (pss_cons (ps_set (i := 2) sc__law_depth_of.nd rfl (Or.inl rfl) pe_int)
 (pss_cons (ps_for (passes_of rfl) rfl (pi_list (pe_m1 PySem.F.slot_str_split PySem.F.type_str_split mt_split (pv 0) pe_str)) (pg_name (i := 3) sc__law_depth_of.nd rfl (Or.inl rfl))
 (pss_cons (ps_if (pt_cmpR op_eq (pv 3) pe_str (nomark _))
 (pss_one (ps_set (i := 1) sc__law_depth_of.nd rfl (Or.inl rfl) (pe_op op_add (pv 1) pe_int)))
 pss_nil)
 (pss_cons (ps_if (pt_cmpR op_eq (pv 3) pe_str (nomark _))
 (pss_one (ps_set (i := 1) sc__law_depth_of.nd rfl (Or.inl rfl) (pe_op op_sub (pv 1) pe_int)))
 pss_nil)
 (pss_one (ps_set (i := 2) sc__law_depth_of.nd rfl (Or.inl rfl) (pe_callB (call_max2 rfl) (by rfl) T.n_max (by decide +kernel) (pa_cons (pv 2) (pa_cons (pv 1) pa_nil))))))))
 (pss_one (ps_ret (pv 2))))))), ?_⟩
    have jl : (J us).length ≤ 1001 * 1000 := Nat.le_trans (J_len wd) (Nat.mul_le_mul_left _ n1000)
    refine ⟨_, rfl, ⟨_, rfl⟩, _, _, rfl, rfl, by decide +kernel, by rw [SX.S_len, sizeLine_eq]; omega, fun l hl => ?_⟩
    rw [split_J wd ne, map_ts]
    have s1 := stp_new (o := .lst (tsL us)) hf hl
    refine ⟨l, rfl, ⟨_, SqL.of upd_same⟩, ?_⟩
    obtain ⟨H1, eH1⟩ : ∃ H1, H1 = upd H l (.lst (tsL us)) := ⟨_, rfl⟩
    have h1 : H1 l = some (.lst (tsL us)) := by rw [eH1, upd_same]
    rw [← eH1] at s1 ⊢
    have cp : (" " : Str) = (" " : Str) := rfl
    refine for_list (xs := tsL us) (fun i σ' H' => ∃ c m c3, ([some (.str (S (J us))), some (.int c), some (.int m), c3] : List (Option V)) = σ' ∧ H1 = H' ∧ (us.take i).foldl dpS (0, 0) = (c, m)) ⟨0, 0, none, rfl, rfl, rfl⟩ (fun i σ' H' _ q => by obtain ⟨c, m, c3, _, rfl, _⟩ := q; exact SqL.of h1) ?_ ?_
    · rintro i x _ _ hx ⟨c, m, c3, rfl, rfl, hq⟩
      obtain ⟨u, hu, rfl⟩ : ∃ u, us[i]? = some u ∧ x = .str (S u) := by
        unfold tsL at hx
        rw [List.getElem?_map] at hx
        cases e : us[i]? with
        | none => rw [e] at hx; cases hx
        | some u => rw [e] at hx; cases hx; exact ⟨u, rfl, rfl⟩
      refine gn ?_
      dsimp only
      refine seq_with (fun σ' H' => ([some (.str (S (J us))), some (.int (if u = LP then c + 1 else c)), some (.int m), some (.str (S u))] : List (Option V)) = σ' ∧ H1 = H') (fun g hg => ?_) ?_
      · refine ⟨_, rfl, rfl, _, rfl, ?_⟩
        rw [eLP, S_dec]
        by_cases e : u = LP
        · rw [if_pos e] at hg
          exact iteY (decide_eq_true e) ⟨_, rfl, _, _, rfl, rfl, hg _ _ ⟨rfl, rfl⟩⟩
        · rw [if_neg e] at hg
          exact iteN (by rw [decide_eq_false e]; decide) (hg _ _ ⟨rfl, rfl⟩)
      rintro _ _ ⟨rfl, rfl⟩
      refine seq_with (fun σ' H' => ([some (.str (S (J us))), some (.int (if u = RP then (if u = LP then c + 1 else c) - 1 else (if u = LP then c + 1 else c))), some (.int m), some (.str (S u))] : List (Option V)) = σ' ∧ H1 = H') (fun g hg => ?_) ?_
      · refine ⟨_, rfl, rfl, _, rfl, ?_⟩
        rw [eRP, S_dec]
        by_cases e : u = RP
        · rw [if_pos e] at hg
          exact iteY (decide_eq_true e) ⟨_, rfl, _, _, rfl, rfl, hg _ _ ⟨rfl, rfl⟩⟩
        · rw [if_neg e] at hg
          exact iteN (by rw [decide_eq_false e]; decide) (hg _ _ ⟨rfl, rfl⟩)
      rintro _ _ ⟨rfl, rfl⟩
      refine ⟨_, rfl, _, rfl, _, _, rfl, ?_⟩
      refine ⟨_, _, _, rfl, rfl, ?_⟩
      rw [take_fold hu, hq]
      rfl
    · rintro _ _ ⟨c, m, c3, rfl, rfl, hq⟩
      rw [tsL_len, List.take_length] at hq
      refine ⟨_, rfl, ?_⟩
      have := k _ _ s1
      rw [hq] at this
      exact this
end
/-! ### the same data -/
def Ex (K : PySem.W.Frag) (H : Hp) : Nat → V → V → Prop
  | 0, _, _ => False
  | n + 1, u, v => (∃ i : Int, u = .int i ∧ v = .int i) ∨ (∃ z : Str, u = .str z ∧ v = .str z) ∨ ∃ (p q : Addr) (xs ys : List V), u = .ref p ∧ v = .ref q ∧ SqT K H p xs ∧ SqT K H q ys ∧ xs.length ≤ 1000 ∧ Paired (Ex K H n) xs ys
theorem sq_one {K : PySem.W.Frag} {H : Hp} {p : Addr} {xs ys : List V} (h : SqT K H p xs) (k : SqT K H p ys) : True := trivial
theorem ex_of {K : PySem.W.Frag} {H : Hp} {t : Tr} : ∀ {u v : V} {n : Nat}, TrV K H u t → TrV K H v t → ops t ≤ n → Ex K H (n + 3) u v := by
  induction t with
  | amt r u =>
    intro x y n h1 h2 _
    cases h1 with
    | amt h1 r1 =>
      cases h2 with
      | amt h2 r2 =>
        obtain ⟨p1, rfl, q1⟩ := r1
        obtain ⟨p2, rfl, q2⟩ := r2
        exact .inr (.inr ⟨_, _, _, _, rfl, rfl, h1, h2, by show 3 ≤ 1000; decide, .cons (.inr (.inl ⟨_, rfl, rfl⟩)) (.cons (.inr (.inr ⟨_, _, _, _, rfl, rfl, q1, q2, by show 2 ≤ 1000; decide, .cons (.inl ⟨_, rfl, rfl⟩) (.cons (.inl ⟨_, rfl, rfl⟩) .nil)⟩)) (.cons (.inr (.inl ⟨_, rfl, rfl⟩)) .nil))⟩)
  | siz m =>
    intro x y n h1 h2 _
    cases h1 with
    | siz h1 =>
      cases h2 with
      | siz h2 => exact .inr (.inr ⟨_, _, _, _, rfl, rfl, h1, h2, by show 2 ≤ 1000; decide, .cons (.inr (.inl ⟨_, rfl, rfl⟩)) (.cons (.inr (.inl ⟨_, rfl, rfl⟩)) .nil)⟩)
  | off m i =>
    intro x y n h1 h2 _
    cases h1 with
    | off h1 =>
      cases h2 with
      | off h2 => exact .inr (.inr ⟨_, _, _, _, rfl, rfl, h1, h2, by show 3 ≤ 1000; decide, .cons (.inr (.inl ⟨_, rfl, rfl⟩)) (.cons (.inr (.inl ⟨_, rfl, rfl⟩)) (.cons (.inl ⟨_, rfl, rfl⟩) .nil))⟩)
  | nam m =>
    intro x y n h1 h2 _
    cases h1 with
    | nam h1 =>
      cases h2 with
      | nam h2 => exact .inr (.inr ⟨_, _, _, _, rfl, rfl, h1, h2, by show 2 ≤ 1000; decide, .cons (.inr (.inl ⟨_, rfl, rfl⟩)) (.cons (.inr (.inl ⟨_, rfl, rfl⟩)) .nil)⟩)
  | bin o l r il ir =>
    intro x y n h1 h2 hn
    have hn : ops l + ops r + 1 ≤ n := hn
    obtain ⟨m, rfl⟩ : ∃ m, n = m + 1 := ⟨n - 1, by omega⟩
    cases h1 with
    | bin h1 l1 r1 =>
      cases h2 with
      | bin h2 l2 r2 => exact .inr (.inr ⟨_, _, _, _, rfl, rfl, h1, h2, by show 3 ≤ 1000; decide, .cons (.inr (.inl ⟨_, rfl, rfl⟩)) (.cons (il l1 l2 (by omega)) (.cons (ir r1 r2 (by omega)) .nil))⟩)
section
variable {P : Program} {w : World} {K : PySem.W.Frag} {mg : Str → Option Value} {base : Heap} {a : Ad}
def sp_same (K : PySem.W.Frag) (n : Nat) : Sp := fun vs H Q _ => ∃ (u v : V), vs = [u, v] ∧ Ex K H n u v ∧ Q (.bl true) H
theorem c__law_same (T : Txt K mg w a) : ∀ n : Nat, Cl P w K mg base (n + 2) "_law_same" P__law_same (sp_same K n) [] := by
  intro n
  induction n with
  | zero =>
    refine T.d__law_same.cl sc__law_same (fun vs H Q E h => by obtain ⟨u, v, rfl, _⟩ := h; rfl) fun f cdv A outer s H vs Q E hr h => ?_
    obtain ⟨u, v, rfl, h, k⟩ := h
    exact h.elim
  | succ n ih =>
    refine T.d__law_same.cl sc__law_same (fun vs H Q E h => by obtain ⟨u, v, rfl, _⟩ := h; rfl) fun f cdv A outer s H vs Q E hr h => ?_
    obtain ⟨u, v, rfl, h, k⟩ := h
    refine ⟨_, ((pss_cons (ps_if (pt_val (pe_callB call_isi (by rfl) T.n_isinstance (by decide +kernel) (pa_cons (pv 1) (pa_cons (pe_bltn (v := .ty "tuple") (by rfl) T.n_tuple (by decide +kernel) rfl) pa_nil))))
 (pss_cons (ps_if (PW.pt (pw_or (pt_not (pt_val (pe_callB call_isi (by rfl) T.n_isinstance (by decide +kernel) (pa_cons (pv 0) (pa_cons (pe_bltn (v := .ty "tuple") (by rfl) T.n_tuple (by decide +kernel) rfl) pa_nil))))) (pw_or1 (pt_cmpR op_ne (pe_callB call_len_seq (by rfl) T.n_len (by decide +kernel) (pa_cons (pv 0) pa_nil)) (pe_callB call_len_seq (by rfl) T.n_len (by decide +kernel) (pa_cons (pv 1) pa_nil)) (nomark _)))))
 (pss_one (ps_ret pe_bl))
 pss_nil)
 (pss_cons (ps_for (passes_of rfl) rfl (pi_range1 (by rfl) T.n_range (pa_cons (pe_callB call_len_seq (by rfl) T.n_len (by decide +kernel) (pa_cons (pv 1) pa_nil)) pa_nil)) (pg_name (i := 2) sc__law_same.nd rfl (Or.inl rfl))
 (pss_one (ps_if (pt_not (pt_val (pe_f ih (takes_of rfl rfl rfl rfl) hr (Nat.le_refl _) rfl (pa_cons (pe_ix ix_tup (pv 0) (pv 2) (fun _ _ => rfl)) (pa_cons (pe_ix ix_tup (pv 1) (pv 2) (fun _ _ => rfl)) pa_nil)))))
 (pss_one (ps_ret pe_bl))
 pss_nil)))
 (pss_one (ps_ret pe_bl))))
 pss_nil)
 (pss_cons (ps_if (pt_val (pe_callB call_isi (by rfl) T.n_isinstance (by decide +kernel) (pa_cons (pv 1) (pa_cons (pe_bltn (v := .ty "str") (by rfl) T.n_str (by decide +kernel) rfl) pa_nil))))
 (pss_one (ps_ret (pe_and (pe_callB call_isi (by rfl) T.n_isinstance (by decide +kernel) (pa_cons (pv 0) (pa_cons (pe_bltn (v := .ty "str") (by rfl) T.n_str (by decide +kernel) rfl) pa_nil))) (pe_one (pe_cmpR op_eq (pv 0) (pv 1) (nomark _))))))
 pss_nil)
 (pss_one (ps_ret (pe_and (pe_f (c__law_integer T) (takes_of rfl rfl rfl rfl) hr (by omega) rfl (pa_cons (pv 0) pa_nil)) (pe_one (pe_cmpR op_eq (pv 0) (pv 1) (nomark _))))))))), ?_⟩
    rcases h with ⟨i, rfl, rfl⟩ | ⟨z, rfl, rfl⟩ | ⟨p, q, xs, ys, rfl, rfl, hx, hy, big, pr⟩
    · refine ⟨_, rfl, _, _, _, _, false, rfl, .ty _, .base (.int _), kit_ty (by decide +kernel), false, rfl, iteF ?_⟩
      refine ⟨_, rfl, _, _, _, _, false, rfl, .ty _, .base (.int _), kit_ty (by decide +kernel), false, rfl, iteF ?_⟩
      refine ⟨_, rfl, _, rfl, .inl ⟨_, rfl, true, rfl, iteT ?_⟩⟩
      refine ⟨_, rfl, _, rfl, rfl, ?_⟩
      rw [decide_eq_true rfl]
      exact k
    · refine ⟨_, rfl, _, _, _, _, false, rfl, .ty _, .base (.str _), kit_ty (by decide +kernel), false, rfl, iteF ?_⟩
      refine ⟨_, rfl, _, _, _, _, true, rfl, .ty _, .base (.str _), kit_ty (by decide +kernel), true, rfl, iteT ?_⟩
      refine ⟨_, rfl, _, _, _, _, true, rfl, .ty _, .base (.str _), kit_ty (by decide +kernel), true, rfl, iteT ?_⟩
      refine ⟨_, rfl, _, rfl, rfl, ?_⟩
      rw [decide_eq_true rfl]
      exact k
    · have len := Paired.length pr
      refine ⟨_, rfl, _, _, _, _, true, rfl, .ty _, ty_sqT hy, kit_ty (by decide +kernel), true, rfl, iteT ?_⟩
      refine ⟨_, rfl, _, _, _, _, true, rfl, .ty _, ty_sqT hx, kit_ty (by decide +kernel), true, rfl, iteF ?_⟩
      refine ⟨_, rfl, p, xs, rfl, .inr hx, _, rfl, q, ys, rfl, .inr hy, rfl, _, rfl, ?_⟩
      refine iteN (by simp [len]) ?_
      refine ⟨_, rfl, q, ys, rfl, .inr hy, _, rfl, by omega, by omega, ?_⟩
      refine for_it walk_range (fun j σ' H' => ∃ c2, σ' = [some (.ref p), some (.ref q), c2] ∧ H' = H) ?_ (fun _ _ _ _ _ => trivial) ?_ ?_
      · exact ⟨none, rfl, rfl⟩
      · rintro j _ _ H3 _ hj ⟨c2, rfl, rfl⟩ ⟨rfl, rfl⟩
        have hjl : j < ys.length := by omega
        obtain ⟨x, hxj⟩ : ∃ x, xs[j]? = some x := ⟨_, List.getElem?_eq_getElem (by omega)⟩
        obtain ⟨y, hyj, hxy⟩ := paired_get pr hxj
        have e0 : ((0 : Int) + (j : Int)).toNat = j := by omega
        refine ⟨_, rfl, _, rfl, p, _, _, x, rfl, rfl, hx, atI_int (by omega) (by omega) (by rw [e0]; exact hxj), _, rfl, _, rfl, q, _, _, y, rfl, rfl, hy, atI_int (by omega) (by omega) (by rw [e0]; exact hyj), x, y, rfl, hxy, true, rfl, iteF ?_⟩
        exact ⟨_, rfl, rfl⟩
      · rintro _ H3 ⟨c2, rfl, rfl⟩
        exact k
end
end K09

set_option Elab.async false
set_option linter.all false
set_option maxRecDepth 100000
set_option maxHeartbeats 4000000
namespace K09
open PySem PySem.Spec PyProof.Rows L2 Ew
open SX (S)
/-- a text that is refused at word j -/
structure Bad (us : List Tk) (j : Nat) : Prop where
  ne : us ≠ []
  ok : UsOk us
  wd : Wds us
  pr : ∃ res, Pr us .expr 40 0 res j ∧ (res = none ∨ j < us.length)
section
variable {P : Program} {w : World} {K : PySem.W.Frag} {mg : Str → Option Value} {base : Heap} {a : Ad}
def sp__law_refused (K : PySem.W.Frag) : Sp := fun vs H Q _ => ∃ (F : Hp) (us : List Tk) (j : Nat), vs = [.str (S (J us)), .int (j : Nat)] ∧ Bad us j ∧ Same F H ∧ ∀ F' H', Stp F H F' H' → Q (.bl true) H'
theorem c__law_refused (T : Txt K mg w a) : ClG P w K mg base 131 "_law_refused" P__law_refused (sp__law_refused K) :=
  T.d__law_refused.clG sc__law_refused (fun vs H Q E h => by obtain ⟨F, us, j, rfl, _⟩ := h; rfl) fun f cdv A outer s H vs Q E hgd hr h => by
    obtain ⟨F, us, j, rfl, ⟨ne, ok, wd, res, hp, hres⟩, hf, k⟩ := h
    refine ⟨_, ((pss_cons (ps_tryN rfl rfl sc__law_refused.nd (takes_of rfl rfl rfl rfl)
 (fun W pn xe tk tkp => (pss_one (ps_expr (pe_f (c_read_expression T) tk hr (by decide) rfl (pa_cons (pv 0) pa_nil)))))
 (.nm (i := 2) rfl rfl ⟨rfl, by decide, .inl T.g_BadLine⟩ (fun xa oe cls d pn hz hf => (pss_cons (ps_if (PW.pt (pw_or (pt_not (pt_val (pe_callB (call_isErrC T.e_BadLine hz hf) (by rfl) T.n_isinstance (by decide +kernel) (pa_cons (pv 2) (pa_cons (pe_glob (v := .ref a.EllError) rfl T.g_EllError rfl) pa_nil))))) (pw_or (pt_not (pt_val (pe_callB (call_isErrC T.e_BadLine hz hf) (by rfl) T.n_isinstance (by decide +kernel) (pa_cons (pv 2) (pa_cons (pe_bltn (v := .ty "ValueError") (by rfl) T.n_ValueError (by decide +kernel) rfl) pa_nil))))) (pw_or1 (pt_val (pe_callB (call_isErrC T.e_BadLine hz hf) (by rfl) T.n_isinstance (by decide +kernel) (pa_cons (pv 2) (pa_cons (pe_glob (v := .ref a.BadRatio) rfl T.g_BadRatio rfl) pa_nil))))))))
 (pss_one (ps_ret pe_bl))
 pss_nil)
 (pss_one (ps_ret (pe_and (pe_fE hgd (cE__law_integer T) hz hf hr (by decide) rfl (pa_cons (pe_xf T.xf_BadLine T.no_BadLine_line hz hf (pv 2)) pa_nil)) (pe_and (pe_cmpR op_eq (pe_xf T.xf_BadLine T.no_BadLine_line hz hf (pv 2)) pe_int (nomark _)) (pe_and (pe_fE hgd (cE__law_integer T) hz hf hr (by decide) rfl (pa_cons (pe_xf T.xf_BadLine T.no_BadLine_word hz hf (pv 2)) pa_nil)) (pe_one (pe_cmpR op_eq (pe_xf T.xf_BadLine T.no_BadLine_word hz hf (pv 2)) (pv 1) (nomark _)))))))))) (.pl ⟨rfl, by decide, .inl T.g_EllError⟩ (fun xa oe cls d pn hz hf => (pss_one (ps_ret pe_bl))) .nil)))
 (pss_one (ps_ret pe_bl)))), ?_⟩
    refine ⟨_, rfl, F, us, res, j, rfl, ne, ok, wd, hp, hf, fun t et hj => ?_, fun _ F' H' d s1 hd => ?_⟩
    · rcases hres with h | h
      · rw [h] at et; cases et
      · omega
    · have hd1 := s1.fh _ _ hd
      refine ⟨true, T.em_BadLine, fun _ ea hea => ?_, fun z => nomatch z⟩
      refine ⟨_, rfl, rfl, fun d' z => ⟨_, by cases z; exact hd1⟩, .inl ⟨_, _, true, rfl, .own _, T.ke_BadLine, true, rfl, iteF ?_⟩⟩
      refine ⟨_, rfl, rfl, fun d' z => ⟨_, by cases z; exact hd1⟩, .inl ⟨_, _, true, rfl, .ty _, T.kv_BadLine, true, rfl, iteF ?_⟩⟩
      refine ⟨_, rfl, rfl, fun d' z => ⟨_, by cases z; exact hd1⟩, .inl ⟨_, _, false, rfl, .own _, T.kn_BadLine, false, rfl, iteF ?_⟩⟩
      refine ⟨_, rfl, rfl, rfl, d, _, .int 0, rfl, hd1, rfl, .int 0, rfl, .inl ⟨_, rfl, true, rfl, iteT ?_⟩⟩
      refine ⟨_, rfl, rfl, rfl, d, _, .int 0, rfl, hd1, rfl, rfl, true, rfl, iteT ?_⟩
      refine ⟨_, rfl, rfl, rfl, d, _, .int (j : Nat), rfl, hd1, rfl, .int (j : Nat), rfl, .inl ⟨_, rfl, true, rfl, iteT ?_⟩⟩
      refine ⟨_, rfl, rfl, rfl, d, _, .int (j : Nat), rfl, hd1, rfl, _, rfl, rfl, ?_⟩
      rw [decide_eq_true rfl]
      exact k F' H' s1
end
end K09

set_option Elab.async false
set_option linter.all false
set_option maxRecDepth 100000
set_option maxHeartbeats 4000000
namespace K09
open PySem PySem.Spec PyProof.Rows L2 Ew
open SX (S)
/-! ### spoilt texts -/
/-- a good text, not too deep and not too long -/
structure Good (t : Tr) (us : List Tk) : Prop where
  gr : ∃ d, d ≤ 39 ∧ Gr 1 d t us
  len : us.length ≤ 240
  wd : Wds us
theorem Good.ne {t : Tr} {us : List Tk} (h : Good t us) : us ≠ [] := fun z => by
  obtain ⟨d, _, g⟩ := h.gr
  have := g.len
  rw [z] at this
  simp at this
theorem us_ok {us : List Tk} (h : Wds us) (k : us.length ≤ 250) : UsOk us := ⟨k, fun w hw => (h w hw).2⟩
theorem get_end {us : List Tk} {x : Tk} : (us ++ [x])[us.length]? = some x := by simp
theorem get_out {us : List Tk} {i : Nat} (h : us.length ≤ i) : us[i]? = none := List.getElem?_eq_none h
theorem at_pre {us vs : List Tk} : At (us ++ vs) 0 us := At.pre rfl
theorem bad_behind {t : Tr} {us : List Tk} (h : Good t us) {x : Tk} (hx : 32 ∉ x ∧ x.length ≤ 1000) (h1 : x ≠ Op.times.tk ∧ x ≠ Op.over.tk) (h2 : x ≠ Op.plus.tk ∧ x ≠ Op.minus.tk) : Bad (us ++ [x]) us.length := by
  obtain ⟨d, hd, g⟩ := h.gr
  have w := h.wd.app (.cons hx .nil)
  have l := h.len
  refine ⟨by simp, us_ok w (by simp; omega), w, some t, ?_, .inr (by simp)⟩
  have e : (us ++ [x])[0 + us.length]? = some x := by rw [Nat.zero_add]; exact get_end
  have := gr_main g 40 0 (by omega) at_pre (.of e h1) (some t) _ (.elE (NoSu.of e h2))
  rw [Nat.zero_add] at this
  exact this
theorem namO {ws : List Tk} {d i : Nat} (h : ws[i]? = none) : Pr ws .part d i none i := .namN fun w hw => by rw [h] at hw; cases hw
theorem bad_sign {t : Tr} {us : List Tk} (h : Good t us) (o : Op) : Bad (us ++ [o.tk]) (us.length + 1) := by
  obtain ⟨d, hd, g⟩ := h.gr
  have w := h.wd.app (.cons (wd_op o) .nil)
  have l := h.len
  refine ⟨by simp, us_ok w (by simp; omega), w, none, ?_, .inl rfl⟩
  have e : (us ++ [o.tk])[0 + us.length]? = some o.tk := by rw [Nat.zero_add]; exact get_end
  have e2 : (us ++ [o.tk])[0 + us.length + 1]? = none := get_out (by simp)
  have ek : o.rk = 1 ∨ o.rk = 2 := by cases o <;> simp [Op.rk]
  have : Pr (us ++ [o.tk]) .expr 40 0 none (0 + us.length + 1) := by
    rcases ek with ek | ek
    · exact gr_main g 40 0 (by omega) at_pre (.of e (tk_sum ek)) none _ (.elN ek e (.prodN (namO e2)))
    · exact gr_kill g (by omega) at_pre fun t' => .plN ek e (namO e2)
  rw [Nat.zero_add] at this
  exact this
theorem bad_open {t : Tr} {us : List Tk} (h : Good t us) : Bad (LP :: us) (us.length + 1) := by
  obtain ⟨d, hd, g⟩ := h.gr
  have w := Wds.cons wd_LP h.wd
  have l := h.len
  refine ⟨by simp, us_ok w (by simp; omega), w, none, ?_, .inl rfl⟩
  have e2 : (LP :: us)[0 + 1 + us.length]? = none := get_out (by simp; omega)
  have ha : At (LP :: us) (0 + 1) us := fun n x hx => by
    rw [Nat.zero_add, Nat.add_comm, List.getElem?_cons_succ]
    exact hx
  have g1 := gr_main g 39 (0 + 1) hd ha (fun w hw => by rw [e2] at hw; cases hw) (some t) _ (.elE (fun w hw => by rw [e2] at hw; cases hw))
  have := Pr.exprN (Pr.prodN (Pr.parN (ws := LP :: us) (d := 39) (i := 0) rfl g1 (by rw [e2]; exact fun z => nomatch z)))
  rw [show 0 + 1 + us.length = us.length + 1 by omega] at this
  exact this
theorem bad_gap {t : Tr} {us : List Tk} (h : Good t us) {g : Nat} (hg : g ≤ us.length) : Bad (us.take g ++ [[]] ++ us.drop g) g := by
  by_cases e : g = us.length
  · subst e
    rw [List.take_length, List.drop_length, List.append_nil]
    exact bad_behind h (by decide) (by decide) (by decide)
  · obtain ⟨d, hd, gg⟩ := h.gr
    have lt : (us.take g).length = g := by rw [List.length_take]; omega
    have ld : (us.drop g).length = us.length - g := List.length_drop
    have wt : Wds (us.take g) := fun w hw => h.wd w (List.mem_of_mem_take hw)
    have wdr : Wds (us.drop g) := fun w hw => h.wd w (List.mem_of_mem_drop hw)
    have w := (wt.app (.cons (by decide : 32 ∉ ([] : Tk) ∧ ([] : Tk).length ≤ 1000) .nil)).app wdr
    have l := h.len
    have ll : (us.take g ++ [[]] ++ us.drop g).length = us.length + 1 := by rw [List.length_append, List.length_append, lt, ld]; show g + 1 + _ = _; omega
    have ha : At (us.take g ++ [[]] ++ us.drop g) 0 (us.take g) := by rw [List.append_assoc]; exact at_pre
    have hq : (us.take g ++ [[]] ++ us.drop g)[0 + (us.take g).length]? = some [] := by
      rw [Nat.zero_add, List.append_assoc, List.getElem?_append_right (Nat.le_refl _), Nat.sub_self]
      rfl
    obtain ⟨r, hr⟩ := gr_gap gg 40 0 (us.take g) (us.drop g) (by omega) (List.take_append_drop g us).symm (fun z => by rw [z] at ld; simp at ld; omega) ha hq
    rw [Nat.zero_add, lt] at hr
    exact ⟨by simp, us_ok w (by omega), w, r, hr, .inr (by omega)⟩
theorem bad_front {t : Tr} {us : List Tk} (h : Good t us) : Bad ([45] :: us) 0 := by
  have w := Wds.cons (by decide : 32 ∉ ([45] : Tk) ∧ ([45] : Tk).length ≤ 1000) h.wd
  have l := h.len
  refine ⟨by simp, us_ok w (by simp; omega), w, none, .exprN (.prodN (.namN fun w hw => ?_)), .inl rfl⟩
  cases hw
  refine ⟨?_, by decide, by decide, by decide, by decide⟩
  unfold rdVal
  rw [cut_no (by decide)]
  rfl
theorem bad_empty : Bad [[]] 0 := ⟨by simp, us_ok (.cons (by decide) .nil) (by decide), .cons (by decide) .nil, none, .exprN (.prodN (namE rfl)), .inl rfl⟩
theorem cut_to (xs : List V) (i : Nat) : cutV xs none (some (i : Int)) = xs.take i := by
  unfold cutV
  rw [HT.sIx_none, HT.sIx_nat, List.drop_zero, Nat.sub_zero]
  by_cases q : i ≤ xs.length
  · rw [Nat.min_eq_left q]
  · rw [Nat.min_eq_right (by omega), List.take_length, List.take_of_length_le (by omega)]
theorem ts_take (us : List Tk) (i : Nat) : (tsL us).take i = tsL (us.take i) := by unfold tsL; rw [List.map_take]
theorem ts_drop (us : List Tk) (i : Nat) : (tsL us).drop i = tsL (us.drop i) := by unfold tsL; rw [List.map_drop]
theorem sum_len {us : List Tk} (h : Wds us) : ((us.map S).map (·.length)).sum ≤ 1000 * us.length := by
  induction us with
  | nil => exact Nat.le_refl _
  | cons w us ih =>
    have h1 := (h w List.mem_cons_self).2
    have h2 := ih fun x hx => h x (List.mem_cons_of_mem _ hx)
    rw [List.map_cons, List.map_cons, List.sum_cons, List.length_cons, SX.S_len]
    omega
def behL : List Tk := [[41], wSz, [120], [103, 111, 111, 100], [55], [40], [88]]
theorem behL_ts : ([.str ")", .str "size", .str "x", .str "good", .str "7", .str "(", .str "X"] : List V) = tsL behL := by
  have e1 : (")" : Str) = S [41] := by decide +kernel
  have e3 : ("x" : Str) = S [120] := by decide +kernel
  have e4 : ("good" : Str) = S [103, 111, 111, 100] := by decide +kernel
  have e5 : ("7" : Str) = S [55] := by decide +kernel
  have e6 : ("(" : Str) = S [40] := by decide +kernel
  have e7 : ("X" : Str) = S [88] := by decide +kernel
  rw [e1, eSz, e3, e4, e5, e6, e7]
  rfl
theorem behL_ok : ∀ x ∈ behL, (32 ∉ x ∧ x.length ≤ 1000) ∧ (x ≠ Op.times.tk ∧ x ≠ Op.over.tk) ∧ (x ≠ Op.plus.tk ∧ x ≠ Op.minus.tk) := by decide
theorem opL_ts : ([.str "+", .str "-", .str "*", .str "/"] : List V) = tsL [Op.plus.tk, Op.minus.tk, Op.times.tk, Op.over.tk] := by
  have e1 : ("+" : Str) = S Op.plus.tk := by decide +kernel
  have e2 : ("-" : Str) = S Op.minus.tk := by decide +kernel
  have e3 : ("*" : Str) = S Op.times.tk := by decide +kernel
  have e4 : ("/" : Str) = S Op.over.tk := by decide +kernel
  rw [e1, e2, e3, e4]
  rfl
theorem opL_ok : ∀ x ∈ [Op.plus.tk, Op.minus.tk, Op.times.tk, Op.over.tk], ∃ o : Op, x = o.tk := by
  intro x hx
  simp at hx
  rcases hx with rfl | rfl | rfl | rfl
  · exact ⟨.plus, rfl⟩
  · exact ⟨.minus, rfl⟩
  · exact ⟨.times, rfl⟩
  · exact ⟨.over, rfl⟩
/-- a pair of a spoilt text and its word -/
def BadV (K : PySem.W.Frag) (F : Hp) (v : V) : Prop := ∃ p us j, v = .ref p ∧ SqT K F p [.str (S (J us)), .int (j : Nat)] ∧ Bad us j
theorem BadV.up {K : PySem.W.Frag} {F F' : Hp} {v : V} (h : BadV K F v) (e : Same F F') : BadV K F' v := by
  obtain ⟨p, us, j, h1, h2, h3⟩ := h
  exact ⟨p, us, j, h1, upT e h2, h3⟩
theorem BadV.mk {K : PySem.W.Frag} {F : Hp} {p : Addr} {x : Str} {us : List Tk} {j : Nat} {i : Int} (h : Bad us j) (ex : x = S (J us)) (ei : i = (j : Int)) : BadV K (upd F p (.tup [.str x, .int i])) (.ref p) := ⟨p, us, j, rfl, by rw [← ex, ← ei]; exact sq_new, h⟩
section
variable {K : PySem.W.Frag} {b p : Addr} {F H F' H' : Hp}
theorem lay {x : Str} {i : Int} {us : List Tk} {j : Nat} (s : Sb b F H F' H') (B : Bag K b F' H') (hp : H' p = none) (h : Bad us j) (ex : x = S (J us)) (ei : i = (j : Int)) :
    ∃ F2 H2, H2 = upd H' p (.tup [.str x, .int i]) ∧ Sb b F H F2 H2 ∧ Bag K b F2 H2 ∧ BadV K F2 (.ref p) ∧ Same F' F2 ∧ Same H' H2 := by
  obtain ⟨s2, B2⟩ := newB (o := .tup [.str x, .int i]) s B hp
  exact ⟨_, _, rfl, s2, B2, .mk h ex ei, same_new (s.fh.free hp), same_new hp⟩
theorem raws {o : HO} (s : Sb b F H F' H') (B : Bag K b F' H') (hp : H' p = none) : ∃ H2, H2 = upd H' p o ∧ Sb b F H F' H2 ∧ Bag K b F' H2 ∧ H2 p = some o ∧ Same H' H2 := by
  obtain ⟨s2, B2⟩ := rawB (o := o) s B hp
  exact ⟨_, rfl, s2, B2, upd_same, same_new hp⟩
end
theorem jx {us : List Tk} (h : us ≠ []) (x : Tk) : S (J us) ++ " " ++ S x = S (J (us ++ [x])) := by
  have e : J [x] = x := rfl
  rw [e32, SX.S_cat, SX.S_cat, J_app h (by simp), e]
  simp
theorem jo {us : List Tk} (h : us ≠ []) : ("( " : Str) ++ S (J us) = S (J (LP :: us)) := by
  rw [eLPs, SX.S_cat, J_cons h]
  rfl
theorem jm {us : List Tk} (h : us ≠ []) : ("- " : Str) ++ S (J us) = S (J ([45] :: us)) := by
  have e : ("- " : Str) = S [45, 32] := by decide +kernel
  rw [e, SX.S_cat, J_cons h]
  rfl
theorem jc {us : List Tk} (h : us ≠ []) : S (J us) ++ " )" = S (J (us ++ [RP])) := by
  rw [eRPs, SX.S_cat, J_app h (by simp)]
  rfl
section
variable {P : Program} {w : World} {K : PySem.W.Frag} {mg : Str → Option Value} {base : Heap} {a : Ad}
def sp__law_spoilt_of (K : PySem.W.Frag) : Sp := fun vs H Q _ => ∃ (F : Hp) (b : Addr) (t : Tr) (us : List Tk), vs = [.ref b, .str (S (J us))] ∧ Good t us ∧ Bag K b F H ∧ Same F H ∧ ∀ F' H' v, Sb b F H F' H' → Bag K b F' H' → BadV K F' v → Q v H'
theorem c__law_spoilt_of (T : Txt K mg w a) : Cl P w K mg base 3 "_law_spoilt_of" P__law_spoilt_of (sp__law_spoilt_of K) [] :=
  T.d__law_spoilt_of.cl sc__law_spoilt_of (fun vs H Q E h => by obtain ⟨F, b, t, us, rfl, _⟩ := h; rfl) fun f cdv A outer s H vs Q E hr h => by
    obtain ⟨F, b, t, us, rfl, hg, hB, hf, k⟩ := h
    refine ⟨_, ((pss_cons (ps_set (i := 2) sc__law_spoilt_of.nd rfl (Or.inl rfl) (pe_m1 PySem.F.slot_str_split PySem.F.type_str_split mt_split (pv 1) pe_str))
 (pss_cons (ps_set (i := 3) sc__law_spoilt_of.nd rfl (Or.inl rfl) (pe_callB call_len_seq (by rfl) T.n_len (by decide +kernel) (pa_cons (pv 2) pa_nil)))
 (pss_cons (ps_set (i := 4) sc__law_spoilt_of.nd rfl (Or.inl rfl) (pe_f (c__law_pick T) (takes_of rfl rfl rfl rfl) hr (by decide) rfl (pa_cons (pv 0) (pa_cons (pe_op op_add (pv 3) pe_int) pa_nil))))
 (pss_cons (ps_set (i := 5) sc__law_spoilt_of.nd rfl (Or.inl rfl) (pe_m1 PySem.F.slot_str_join PySem.F.type_str_join mt_join pe_str (pe_op op_cat (pe_op op_cat (pe_slice sl_list (pv 2) po_none (po_some (pv 4))) (pe_lst (pa_cons pe_str pa_nil))) (pe_slice sl_list (pv 2) (po_some (pv 4)) po_none))))
 (pss_cons (ps_set (i := 6) sc__law_spoilt_of.nd rfl (Or.inl rfl) (pe_f (c__law_choice T) (takes_of rfl rfl rfl rfl) hr (by decide) rfl (pa_cons (pv 0) (pa_cons (pe_lst (pa_cons pe_str (pa_cons pe_str (pa_cons pe_str (pa_cons pe_str (pa_cons pe_str (pa_cons pe_str (pa_cons pe_str pa_nil)))))))) pa_nil))))
 (pss_cons (ps_set (i := 7) sc__law_spoilt_of.nd rfl (Or.inl rfl) (pe_lst (pa_cons (pe_tup (pa_cons (pe_op op_add_str (pe_op op_add_str (pv 1) pe_str) (pv 6)) (pa_cons (pv 3) pa_nil))) (pa_cons (pe_tup (pa_cons (pe_op op_add_str (pe_op op_add_str (pv 1) pe_str) (pe_f (c__law_choice T) (takes_of rfl rfl rfl rfl) hr (by decide) rfl (pa_cons (pv 0) (pa_cons (pe_lst (pa_cons pe_str (pa_cons pe_str (pa_cons pe_str (pa_cons pe_str pa_nil))))) pa_nil)))) (pa_cons (pe_op op_add (pv 3) pe_int) pa_nil))) pa_nil))))
 (pss_cons (ps_set (i := 7) sc__law_spoilt_of.nd rfl (Or.inl rfl) (pe_op op_cat (pv 7) (pe_lst (pa_cons (pe_tup (pa_cons (pe_op op_add_str pe_str (pv 1)) (pa_cons (pe_op op_add (pv 3) pe_int) pa_nil))) (pa_cons (pe_tup (pa_cons (pv 5) (pa_cons (pv 4) pa_nil))) (pa_cons (pe_tup (pa_cons (pe_op op_add_str pe_str (pv 1)) (pa_cons pe_int pa_nil))) (pa_cons (pe_tup (pa_cons (pe_op op_add_str (pv 1) pe_str) (pa_cons (pv 3) pa_nil))) (pa_cons (pe_tup (pa_cons pe_str (pa_cons pe_int pa_nil))) pa_nil))))))))
 (pss_one (ps_ret (pe_f (c__law_choice T) (takes_of rfl rfl rfl rfl) hr (by decide) rfl (pa_cons (pv 0) (pa_cons (pv 7) pa_nil))))))))))))), ?_⟩
    have ul := hg.len
    have une := hg.ne
    have jl : (J us).length ≤ 1001 * 240 := Nat.le_trans (J_len hg.wd) (Nat.mul_le_mul_left _ ul)
    have jS : (S (J us)).length ≤ 1001 * 240 := S_le jl
    refine ⟨_, rfl, ⟨_, rfl⟩, _, _, rfl, rfl, by decide +kernel, by rw [SX.S_len, sizeLine_eq]; omega, fun l hl => ?_⟩
    rw [split_J hg.wd une, map_ts]
    obtain ⟨s1, B1⟩ := newB (o := .lst (tsL us)) (Stm.refl hf) hB hl
    have tl := tsL_len us
    refine ⟨_, rfl, l, _, rfl, .inl (SqL.of upd_same), ?_⟩
    rw [tl]
    refine ⟨_, rfl, _, rfl, _, _, rfl, rfl, _, b, _, rfl, B1, s1.fh, by omega, sz_len (n := us.length + 1) (by omega), fun H2 gi s2 B2 g0 g1 => ?_⟩
    obtain ⟨g, rfl⟩ : ∃ g : Nat, gi = g := ⟨gi.toNat, by omega⟩
    have t2 := seqB s1 B1 s2
    have h2l : H2 l = some (.lst (tsL us)) := t2.fh _ _ upd_same
    have raw : ∀ {H' : Hp} {p : Addr} {o : HO}, Sb b F H (upd F l (.lst (tsL us))) H' → Bag K b (upd F l (.lst (tsL us))) H' → H' p = none → ∃ H'', H'' = upd H' p o ∧ Sb b F H (upd F l (.lst (tsL us))) H'' ∧ Bag K b (upd F l (.lst (tsL us))) H'' ∧ H'' p = some o ∧ Same H' H'' := fun s' B' hp => by
      obtain ⟨s3, B3⟩ := rawB (o := _) s' B' hp
      exact ⟨_, rfl, s3, B3, upd_same, same_new hp⟩
    have lt : (tsL (us.take g)).length ≤ 240 := by rw [tsL_len, List.length_take]; omega
    have ld : (tsL (us.drop g)).length ≤ 240 := by rw [tsL_len, List.length_drop]; omega
    refine ⟨⟨_, rfl⟩, _, rfl, _, rfl, _, rfl, l, _, rfl, SqL.of h2l, fun l3 hl3 => ?_⟩
    rw [cut_to, ts_take]
    obtain ⟨H3, e3, s3, B3, g3, u3⟩ := raw (o := .lst (tsL (us.take g))) t2 B2 hl3
    rw [← e3]
    refine ⟨by show 1 ≤ sizeLine; decide, fun l4 hl4 => ?_⟩
    obtain ⟨H4, e4, s4, B4, g4, u4⟩ := raw (o := .lst [.str ""]) s3 B3 hl4
    rw [← e4]
    refine ⟨l3, l4, _, _, rfl, rfl, u4 _ _ g3, g4, by rw [sizeLine_eq]; show _ + 1 ≤ _; omega, fun l5 hl5 => ?_⟩
    obtain ⟨H5, e5, s5, B5, g5, u5⟩ := raw (o := .lst (tsL (us.take g) ++ [.str ""])) s4 B4 hl5
    rw [← e5]
    refine ⟨_, rfl, _, rfl, _, rfl, l, _, rfl, SqL.of (s5.fh _ _ upd_same), fun l6 hl6 => ?_⟩
    rw [cut_from _ (by rw [tl]; omega), ts_drop]
    obtain ⟨H6, e6, s6, B6, g6, u6⟩ := raw (o := .lst (tsL (us.drop g))) s5 B5 hl6
    rw [← e6]
    refine ⟨l5, l6, _, _, rfl, rfl, u6 _ _ g5, g6, by rw [List.length_append, sizeLine_eq]; show _ + 1 + _ ≤ _; omega, fun l7 hl7 => ?_⟩
    obtain ⟨H7, e7, s7, B7, g7, u7⟩ := raw (o := .lst (tsL (us.take g) ++ [.str ""] ++ tsL (us.drop g))) s6 B6 hl7
    rw [← e7]
    have hgl : g ≤ us.length := by omega
    have bg := bad_gap hg hgl
    have ey : tsL (us.take g) ++ [.str ""] ++ tsL (us.drop g) = ((us.take g ++ [[]] ++ us.drop g).map S).map V.str := by
      rw [map_ts, tsL_app, tsL_app, e0]
      rfl
    have lw : (us.take g ++ [[]] ++ us.drop g).length ≤ 250 := bg.ok.n
    refine ⟨_, l7, (us.take g ++ [[]] ++ us.drop g).map S, rfl, rfl, .inl (SqL.of (by rw [← ey]; exact g7)), ?_, ?_⟩
    · have := sum_len bg.wd
      rw [List.length_map]
      show _ + _ * 1 ≤ _
      omega
    have ej : Txt.join " " ((us.take g ++ [[]] ++ us.drop g).map S) = S (J (us.take g ++ [[]] ++ us.drop g)) := by rw [e32, SX.join_S]
    rw [ej]
    -- what stands behind
    refine ⟨_, rfl, by show 7 ≤ sizeLine; decide, fun l8 hl8 => ?_⟩
    obtain ⟨H8, e8, s8, B8, g8, u8⟩ := raw (o := .lst [.str ")", .str "size", .str "x", .str "good", .str "7", .str "(", .str "X"]) s7 B7 hl8
    rw [← e8]
    refine ⟨_, b, .ref l8, tsL behL, rfl, .inr (.inl ⟨l8, rfl, nbB B7 hl8, by rw [← behL_ts]; exact g8⟩), by decide, by decide, B8, s8.fh, fun H9 x9 i9 s9 B9 hx9 => ?_⟩
    have t9 := seqB s8 B8 s9
    obtain ⟨x, hx, rfl⟩ := ts_get hx9
    obtain ⟨xw, x1, x2⟩ := behL_ok x hx
    have lx : (S x).length ≤ 1000 := S_le xw.2
    refine ⟨_, rfl, _, _, rfl, rfl, by rw [sizeLine_eq]; show (S (J us)).length + 1 ≤ _; omega, _, rfl, _, _, rfl, rfl, by rw [PySem.Str.length_append, sizeLine_eq]; show (S (J us)).length + 1 + _ ≤ _; omega, _, rfl, by show 2 ≤ sizeLine; decide, fun p1 hp1 => ?_⟩
    obtain ⟨F10, H10, e10, s10, B10, v1, f10, u10⟩ := lay t9 B9 hp1 (bad_behind hg xw x1 x2) (jx une x) rfl
    rw [← e10]
    refine ⟨_, rfl, _, _, rfl, rfl, by rw [sizeLine_eq]; show (S (J us)).length + 1 ≤ _; omega, _, rfl, by show 4 ≤ sizeLine; decide, fun l11 hl11 => ?_⟩
    obtain ⟨H11, e11, s11, B11, g11, u11⟩ := raws (o := .lst [.str "+", .str "-", .str "*", .str "/"]) s10 B10 hl11
    rw [← e11]
    refine ⟨F10, b, .ref l11, tsL [Op.plus.tk, Op.minus.tk, Op.times.tk, Op.over.tk], rfl, .inr (.inl ⟨l11, rfl, nbB B10 hl11, by rw [← opL_ts]; exact g11⟩), by decide, by decide, B11, s11.fh, fun H12 x12 i12 s12 B12 hx12 => ?_⟩
    have t12 := seqB s11 B11 s12
    obtain ⟨y, hy, rfl⟩ := ts_get hx12
    obtain ⟨o, rfl⟩ := opL_ok y hy
    have lo : (S o.tk).length ≤ 1 := S_le (by cases o <;> decide)
    refine ⟨_, _, rfl, rfl, by rw [PySem.Str.length_append, sizeLine_eq]; show (S (J us)).length + 1 + _ ≤ _; omega, _, rfl, _, _, rfl, rfl, by show 2 ≤ sizeLine; decide, fun p2 hp2 => ?_⟩
    obtain ⟨F13, H13, e13, s13, B13, v2, f13, u13⟩ := lay (i := (us.length : Int) + 1) t12 B12 hp2 (bad_sign hg o) (jx une o.tk) rfl
    dsimp only
    rw [← e13]
    have v1 := v1.up f13
    refine ⟨by show 2 ≤ sizeLine; decide, fun r1 hr1 => ?_⟩
    obtain ⟨H14, e14, s14, B14, g14, u14⟩ := raws (o := .lst [.ref p1, .ref p2]) s13 B13 hr1
    rw [← e14]
    have nr1 : r1 ≠ b := nbB B13 hr1
    -- the five others
    refine ⟨_, rfl, _, rfl, _, _, rfl, rfl, by rw [sizeLine_eq]; show 2 + (S (J us)).length ≤ _; omega, _, rfl, _, _, rfl, rfl, by show 2 ≤ sizeLine; decide, fun p3 hp3 => ?_⟩
    obtain ⟨F15, H15, e15, s15, B15, v3, f15, u15⟩ := lay (i := (us.length : Int) + 1) s14 B14 hp3 (bad_open hg) (jo une) rfl
    dsimp only
    rw [← e15]
    have v1 := v1.up f15
    have v2 := v2.up f15
    refine ⟨_, rfl, _, rfl, by show 2 ≤ sizeLine; decide, fun p4 hp4 => ?_⟩
    obtain ⟨F16, H16, e16, s16, B16, v4, f16, u16⟩ := lay s15 B15 hp4 bg rfl rfl
    rw [← e16]
    have v1 := v1.up f16
    have v2 := v2.up f16
    have v3 := v3.up f16
    refine ⟨_, rfl, _, _, rfl, rfl, by rw [sizeLine_eq]; show 2 + (S (J us)).length ≤ _; omega, by show 2 ≤ sizeLine; decide, fun p5 hp5 => ?_⟩
    obtain ⟨F17, H17, e17, s17, B17, v5, f17, u17⟩ := lay (i := (0 : Int)) s16 B16 hp5 (bad_front hg) (jm une) rfl
    rw [← e17]
    have v1 := v1.up f17
    have v2 := v2.up f17
    have v3 := v3.up f17
    have v4 := v4.up f17
    refine ⟨_, rfl, _, _, rfl, rfl, by rw [sizeLine_eq]; show (S (J us)).length + 2 ≤ _; omega, _, rfl, by show 2 ≤ sizeLine; decide, fun p6 hp6 => ?_⟩
    obtain ⟨F18, H18, e18, s18, B18, v6, f18, u18⟩ := lay s17 B17 hp6 (bad_behind hg wd_RP (by decide) (by decide)) (jc une) rfl
    rw [← e18]
    have v1 := v1.up f18
    have v2 := v2.up f18
    have v3 := v3.up f18
    have v4 := v4.up f18
    have v5 := v5.up f18
    refine ⟨by show 2 ≤ sizeLine; decide, fun p7 hp7 => ?_⟩
    obtain ⟨F19, H19, e19, s19, B19, v7, f19, u19⟩ := lay (i := (0 : Int)) s18 B18 hp7 bad_empty e0 rfl
    rw [← e19]
    have v1 := v1.up f19
    have v2 := v2.up f19
    have v3 := v3.up f19
    have v4 := v4.up f19
    have v5 := v5.up f19
    have v6 := v6.up f19
    refine ⟨by show 5 ≤ sizeLine; decide, fun r2 hr2 => ?_⟩
    obtain ⟨H20, e20, s20, B20, g20, u20⟩ := raws (o := .lst [.ref p3, .ref p4, .ref p5, .ref p6, .ref p7]) s19 B19 hr2
    rw [← e20]
    have g1 : H20 r1 = some (.lst [.ref p1, .ref p2]) := u20 _ _ (u19 _ _ (u18 _ _ (u17 _ _ (u16 _ _ (u15 _ _ g14)))))
    refine ⟨r1, r2, _, _, rfl, rfl, g1, g20, by show 7 ≤ sizeLine; decide, fun r3 hr3 => ?_⟩
    obtain ⟨H21, e21, s21, B21, g21, u21⟩ := raws (o := .lst ([.ref p1, .ref p2] ++ [.ref p3, .ref p4, .ref p5, .ref p6, .ref p7])) s20 B20 hr3
    rw [← e21]
    refine ⟨_, rfl, _, rfl, F19, b, .ref r3, _, rfl, .inr (.inl ⟨r3, rfl, nbB B20 hr3, g21⟩), by simp, by show 7 ≤ 1000; decide, B21, s21.fh, fun H22 x22 i22 s22 B22 hx22 => ?_⟩
    refine k F19 H22 x22 (seqB s21 B21 s22) B22 ?_
    match i22, hx22 with
    | 0, h => cases h; exact v1
    | 1, h => cases h; exact v2
    | 2, h => cases h; exact v3
    | 3, h => cases h; exact v4
    | 4, h => cases h; exact v5
    | 5, h => cases h; exact v6
    | 6, h => cases h; exact v7
    | n + 7, h => simp at h
end
end K09

set_option Elab.async false
set_option linter.all false
set_option maxRecDepth 100000
set_option maxHeartbeats 4000000
namespace Ew
open PySem PySem.Spec PyProof.Rows L2
section
variable {F H F' H' F2 H2 : Hp} {J : It} {n : Nat} {G : Hp → Prop} {Y : Nat → Hp → V → Hp → Prop}
/-- [.. for x in xs if ..], nothing is changed: the turns that are kept give an item each -/
theorem lcF (w : Walk J n G Y) {g : TG} {tt : TT} {te : TE} {vs : List Nat} {σ : L2.St} {D : Addr} {Qd : Hp → Prop} (keep : Nat → Bool) (hf : Same F H) (hD : H D = none) (R : Nat → Hp → V → Prop) (hR : ∀ i F F' y, Same F F' → R i F y → R i F' y)
    (hn : n ≤ 1000000) (hG : ∀ F' H', Same F F' → Same F' H' → G H')
    (hs : ∀ i x F' H' H'' (Kt : VK) (Kn : Hp → Prop), i < n → Stp F H F' H' → Y i H' x H'' → (keep i = true → ∀ y F4 H4, Stp F' H' F4 H4 → R i F4 y → Kt y H4) → (keep i = false → ∀ F4 H4, Stp F' H' F4 H4 → Kn H4) →
      g x (wipe σ vs) H'' fun σ2 H2 => wipe σ2 vs = wipe σ vs ∧ tt σ2 H2 fun b H3 => if b = true then te σ2 H3 Kt else Kn H3)
    (hd : ∀ F' H' ys, Stp F H F' H' → F' D = some (.lst ys) → Paired (fun y i => R i F' y) ys ((List.range n).filter keep) → Qd H') :
    ∃ W : Nat → Nat → Hp → Prop, (∃ k, W 0 k (upd H D (.lst []))) ∧ ∀ i k H, W i k H →
      (J.stop i H ∧ Qd H) ∨ (J.go i H ∧ ∃ Nx : Hp → Prop, (∀ H', Nx H' → ∃ k', k' < k ∧ W (i + 1) k' H') ∧ ∀ x H', J.yld i H x H' → g x (wipe σ vs) H' fun σ2 H2 => wipe σ2 vs = wipe σ vs ∧ tt σ2 H2 fun b H3 =>
        if b = true then te σ2 H3 fun y H4 => ∃ acc, H4 D = some (.lst acc) ∧ acc.length < sizeLine ∧ Nx (upd H4 D (.lst (acc ++ [y]))) else Nx H3) := by
  have fD : F D = none := hf.free hD
  have step : ∀ i, (List.range (i + 1)).filter keep = (List.range i).filter keep ++ if keep i = true then [i] else [] := fun i => by
    rw [List.range_succ, List.filter_append]
    congr 1
    cases q : keep i <;> simp [q]
  refine lc_it w (fun i H' => ∃ F' acc, Stp F H F' H' ∧ F' D = none ∧ H' D = some (.lst acc) ∧ Paired (fun y i => R i F' y) acc ((List.range i).filter keep)) ?_ ?_ ?_ ?_
  · exact ⟨F, [], (Stm.refl hf).raw hD hD, fD, upd_same, .nil⟩
  · rintro i H' _ ⟨F', acc, s, _⟩
    exact hG F' H' s.ff s.fh
  · rintro i x H' H'' hi ⟨F', acc, s, f', h', pr⟩ y
    refine hs i x F' H' H'' _ _ hi s y (fun kp y F4 H4 s4 r4 => ?_) fun kp F4 H4 s4 => ?_
    · have f4 : F4 D = none := s4.nw D f' (by rw [h']; exact fun z => nomatch z)
      have h4 : H4 D = some (.lst acc) := s4.hh D _ (fun z => z) h'
      have al : acc.length ≤ i := by
        have e := Paired.length pr
        have := List.length_filter_le keep (List.range i)
        rw [List.length_range] at this
        omega
      refine ⟨acc, h4, by rw [sizeLine_eq]; omega, F4, acc ++ [y], (s.transP s4).mut f4 hD, f4, upd_same, ?_⟩
      rw [step i, if_pos kp]
      exact Paired.snoc (Paired.mapP pr fun a b z => hR _ _ _ _ s4.ff z) r4
    · refine ⟨F4, acc, s.transP s4, s4.nw D f' (by rw [h']; exact fun z => nomatch z), s4.hh D _ (fun z => z) h', ?_⟩
      rw [step i, if_neg (by rw [kp]; decide), List.append_nil]
      exact Paired.mapP pr fun a b z => hR _ _ _ _ s4.ff z
  · rintro H' ⟨F', acc, s, f', h', pr⟩
    exact hd (upd F' D (.lst acc)) H' acc (s.freeze f' hD h') upd_same (Paired.mapP pr fun a b z => hR _ _ _ _ (same_new f') z)
end
end Ew

set_option Elab.async false
set_option linter.all false
set_option maxRecDepth 100000
set_option maxHeartbeats 4000000
namespace K09
open PySem PySem.Spec PyProof.Rows L2 Ew
open SX (S)
theorem int_item {ns : List Int} {i : Nat} {x : V} (h : (ns.map V.int)[i]? = some x) : ∃ d, ns[i]? = some d ∧ x = V.int d := by
  rw [List.getElem?_map, Option.map_eq_some_iff] at h
  obtain ⟨d, h1, h2⟩ := h
  exact ⟨d, h1, h2.symm⟩
section
variable {P : Program} {w : World} {K : PySem.W.Frag} {mg : Str → Option Value} {base : Heap} {a : Ad}
def sp__law_bag_of (K : PySem.W.Frag) : Sp := fun vs H Q _ => ∃ (F : Hp) (p : Addr) (ns : List Int), vs = [.ref p] ∧ SqL K F p (ns.map V.int) ∧ ns.length ≤ 1000 ∧ Same F H ∧ ∀ F' H' b, Stp F H F' H' → Bag K b F' H' → Q (.ref b) H'
theorem c__law_bag_of (T : Txt K mg w a) : Cl P w K mg base 1 "_law_bag_of" P__law_bag_of (sp__law_bag_of K) [] :=
  T.d__law_bag_of.cl sc__law_bag_of (fun vs H Q E h => by obtain ⟨F, p, ns, rfl, _⟩ := h; rfl) fun f cdv A outer s H vs Q E hr h => by
    obtain ⟨F, p, ns, rfl, hp, hn, hf, k⟩ := h
    refine ⟨_, ((pss_cons (ps_set (i := 1) sc__law_bag_of.nd rfl (Or.inl rfl) pe_int)
 (pss_cons (ps_for (passes_of rfl) rfl (pi_list (pv 0)) (pg_name (i := 2) sc__law_bag_of.nd rfl (Or.inl rfl))
 (pss_one (ps_set (i := 1) sc__law_bag_of.nd rfl (Or.inl rfl) (pe_op op_mod (pe_callTy call_int1 (by rfl) T.n_int (by decide +kernel) (pa_cons (pe_op op_add (pe_op op_add (pe_op op_mul (pv 1) pe_int) (pv 2)) pe_int) pa_nil)) pe_int))))
 (pss_one (ps_ret (pe_disp (pps_cons pe_str (pe_lc (own := [("_law_cell", 2)]) (g := (gName 2)) (by rfl) sc__law_bag_of.nd (pi_list (pv 0)) (blkOk_by (own := [("_law_cell", 2)]) (N := N__law_bag_of) (sc := defScope s__law_bag_of) (by decide +kernel)) (fun _ _ _ _ _ => (pg_name (i := 2) sc__law_bag_of.nd rfl (Or.inl rfl) (hf := .inr rfl))) (fun _ _ _ _ _ => pts_nil) (fun _ _ _ _ _ => (pv 2))) (pps_cons pe_str pe_int (pps_cons pe_str pe_int (pps_cons pe_str (pv 1) (pps_cons pe_str pe_int pps_nil))))) (by rfl) (by rfl) (fun z => by cases z) (by decide))))))), ?_⟩
    refine ⟨_, rfl, p, rfl, ⟨_, upL hf hp⟩, ?_⟩
    refine for_list (fun i σ' H' => H = H' ∧ ∃ (m : Int) (c : Option V), σ' = [some (.ref p), some (.int m), c]) ⟨rfl, 7, none, rfl⟩ (fun i σ' H' _ q => by rw [← q.1]; exact upL hf hp) ?_ ?_
    · rintro i x _ _ hx ⟨rfl, m, c, rfl⟩
      obtain ⟨d, hd, rfl⟩ := int_item hx
      refine ⟨_, rfl, _, _, rfl, rfl, .inr ⟨by decide, by decide⟩, _, rfl, _, _, rfl, rfl, _, _, rfl, rfl, .inl ⟨_, rfl, _, _, rfl, rfl, (by decide : (0 : Int) < 1000003), ?_⟩⟩
      exact ⟨rfl, _, _, rfl⟩
    · rintro _ _ ⟨rfl, m, c, rfl⟩
      intro b hb
      have s0 : Stp F H F (upd H b (.dK [])) := (Stm.refl hf).raw hb hb
      refine ⟨_, rfl, p, rfl, ⟨_, upL s0.fh hp⟩, fun D hD => ?_⟩
      refine lcM memP walk_list s0.fh trivial hD (fun i _ y => ∃ d, ns[i]? = some d ∧ y = V.int d) (fun _ _ _ _ _ z => z) (by rw [List.length_map]; omega) (fun F' H' e1 e2 => upL e2 (upL e1 hp)) ?_ ?_
      · rintro i x F' H1 H'' Kt Kn hi s1 _ ⟨rfl, hx⟩ kk
        obtain ⟨d, hd, rfl⟩ := int_item hx
        exact ⟨rfl, lc_yes ⟨_, rfl, kk _ _ _ (.refl s1.fh) trivial ⟨d, hd, rfl⟩⟩⟩
      · intro F' H1 ys s1 _ hD' hy hr'
        rw [List.length_map] at hy
        obtain rfl := map_of hy hr'
        have fb : F' b = none := s1.nw b (hf.free hb) (by rw [upd_same]; exact fun z => nomatch z)
        refine ⟨_, rfl, s1.same b _ upd_same, bk D 0 0 m 0, rfl, (by show 5 ≤ 15; decide), ?_⟩
        refine k F' _ b ((s0.transP s1).mut fb hb) ⟨fb, D, ns, 0, 0, m, 0, by decide, hn, SqL.of hD', ?_⟩
        rw [upd_same]
        rfl
end
section
variable {K : PySem.W.Frag} {b p : Addr} {F H F' H' H2 : Hp}
theorem sameB (s : Sb b F H F' H') (B : Bag K b F' H') (e : Same H' H2) : Sb b F H F' H2 ∧ Bag K b F' H2 := by
  refine ⟨⟨s.ff, s.fh.trans e, fun x o n h => e _ _ (s.hh x o n h), s.nw⟩, ?_⟩
  obtain ⟨h, la, ns, at_, rest, mixed, count, h1, h2, h3, h4⟩ := B
  exact ⟨h, la, ns, at_, rest, mixed, count, h1, h2, h3, e _ _ h4⟩
def WdV (K : PySem.W.Frag) (F : Hp) (v : V) : Prop := ∃ q os, v = .ref q ∧ OpL K F q os
theorem WdV.up {F F' : Hp} {v : V} (h : WdV K F v) (e : Same F F') : WdV K F' v := by
  obtain ⟨q, os, h1, h2⟩ := h
  exact ⟨q, os, h1, h2.up e⟩
theorem layO {xs : List V} (os : List Op) (s : Sb b F H F' H') (B : Bag K b F' H') (hp : H' p = none) (hx : xs = os.map fun o => V.str o.w) (ne : os ≠ []) (le : os.length ≤ 10) :
    ∃ F2 H2, H2 = upd H' p (.lst xs) ∧ Sb b F H F2 H2 ∧ Bag K b F2 H2 ∧ WdV K F2 (.ref p) ∧ Same F' F2 ∧ Same H' H2 := by
  obtain ⟨s2, B2⟩ := newB (o := .lst xs) s B hp
  exact ⟨_, _, rfl, s2, B2, ⟨p, os, rfl, by rw [← hx]; exact SqL.of upd_same, ne, le⟩, same_new (s.fh.free hp), same_new hp⟩
end
theorem nm_of_Nm {n : Tk} (h : Nm n) : isNm n = true := by
  unfold isNm
  have l1 : 1 ≤ n.length := List.length_pos_iff.mpr h.ne
  have al : n.all isLow = true := List.all_eq_true.mpr fun c hc => by
    have := h.lt c hc
    unfold isLow
    rw [decide_eq_true this.1, decide_eq_true this.2]
    rfl
  rw [decide_eq_true l1, decide_eq_true h.le, al, decide_eq_false h.nw]
  rfl
theorem nm_twelve {n : Tk} (h : Nm n) : isNm (n ++ long1.drop n.length) = true := by
  have le := h.le
  have l12 : (n ++ long1.drop n.length).length = 12 := by
    rw [List.length_append, List.length_drop]
    show n.length + (12 - n.length) = 12
    omega
  have al : (n ++ long1.drop n.length).all isLow = true := List.all_eq_true.mpr fun c hc => by
    have hc : 97 ≤ c ∧ c ≤ 122 := by
      rcases List.mem_append.mp hc with h1 | h1
      · exact h.lt c h1
      · have := List.mem_of_mem_drop h1
        revert this
        exact (by decide : ∀ c ∈ long1, 97 ≤ c ∧ c ≤ 122) c
    unfold isLow
    rw [decide_eq_true hc.1, decide_eq_true hc.2]
    rfl
  unfold isNm
  rw [l12, al]
  have nw : n ++ long1.drop n.length ∉ wordL := fun z => by
    have key : ∀ x ∈ wordL, x.length ≠ 12 := by decide +kernel
    exact key _ z l12
  rw [decide_eq_false nw]
  rfl
theorem pr_ok {d : Nat} {t : Tr} {us : List Tk} (g : Gr 1 d t us) (hd : d ≤ 40) : Pr us .expr 40 0 (some t) us.length := by
  have e : us[0 + us.length]? = none := List.getElem?_eq_none (by omega)
  have := gr_main g 40 0 hd (At.pre (List.append_nil us).symm) (fun w hw => by rw [e] at hw; cases hw) (some t) _ (.elE (fun w hw => by rw [e] at hw; cases hw))
  rw [Nat.zero_add] at this
  exact this
theorem gr_depth {d : Nat} {t : Tr} {us : List Tk} (g : Gr 1 d t us) (ok : TrOk t) : (us.foldl dpS (0, 0)).2 = (d : Int) := by
  rw [gr_deep g ok.noPar 0 0 (by omega)]
  show max (0 : Int) (0 + (d : Int)) = d
  omega
section
variable {P : Program} {w : World} {K : PySem.W.Frag} {mg : Str → Option Value} {base : Heap} {a : Ad}
def sp_law (K : PySem.W.Frag) : Sp := fun vs H Q _ => ∃ (F : Hp) (p : Addr) (ns : List Int), vs = [.ref p] ∧ SqL K F p (ns.map V.int) ∧ ns.length ≤ 1000 ∧ Same F H ∧ ∀ H', Q (.bl true) H'
theorem b_law (T : Txt K mg w a) : BodyG P w K mg base N_law "law" s_law 135 (sp_law K) := fun f cdv A outer s0 H vs Q E hgd hr h => by
    obtain ⟨F, sc, zs, rfl, hp, hn, hf, k⟩ := h
    refine ⟨_, ((pss_cons (ps_set (i := 1) sc_law.nd rfl (Or.inl rfl) (pe_f (c__law_bag_of T) (takes_of rfl rfl rfl rfl) hr (by decide) rfl (pa_cons (pv 0) pa_nil)))
 (pss_cons (ps_set (i := 2) sc_law.nd rfl (Or.inl rfl) (pe_f (c__law_names_of T) (takes_of rfl rfl rfl rfl) hr (by decide) rfl (pa_cons (pv 1) (pa_cons pe_int pa_nil))))
 (pss_cons (ps_asg (pe_op op_add_str (pe_ix ix_list (pv 2) pe_int (fun _ _ => rfl)) (pe_slice C8.sl_txt pe_str (po_some (pe_callB call_len_str (by rfl) T.n_len (by decide +kernel) (pa_cons (pe_ix ix_list (pv 2) pe_int (fun _ _ => rfl)) pa_nil))) po_none)) (pg_sub (pv 2) pe_int set_list))
 (pss_cons (ps_set (i := 3) sc_law.nd rfl (Or.inl rfl) (pe_lst (pa_cons (pe_lst (pa_cons pe_str (pa_cons pe_str (pa_cons pe_str (pa_cons pe_str pa_nil))))) (pa_cons (pe_lst (pa_cons pe_str pa_nil)) (pa_cons (pe_lst (pa_cons pe_str pa_nil)) (pa_cons (pe_lst (pa_cons pe_str (pa_cons pe_str pa_nil))) (pa_cons (pe_lst (pa_cons pe_str (pa_cons pe_str pa_nil))) pa_nil)))))))
 (pss_cons (ps_set (i := 3) sc_law.nd rfl (Or.inl rfl) (pe_f (c__law_choice T) (takes_of rfl rfl rfl rfl) hr (by decide) rfl (pa_cons (pv 1) (pa_cons (pe_op op_cat (pv 3) (pe_lst (pa_cons (pe_lst (pa_cons pe_str (pa_cons pe_str pa_nil))) (pa_cons (pe_lst (pa_cons pe_str (pa_cons pe_str pa_nil))) (pa_cons (pe_lst (pa_cons pe_str (pa_cons pe_str pa_nil))) pa_nil))))) pa_nil))))
 (pss_cons (ps_set (i := 4) sc_law.nd rfl (Or.inl rfl) (pe_f (c_tree_n T 8) (takes_of rfl rfl rfl rfl) hr (by decide) rfl (pa_cons (pv 1) (pa_cons (pv 2) (pa_cons (pv 3) (pa_cons (pe_f (c__law_pick T) (takes_of rfl rfl rfl rfl) hr (by decide) rfl (pa_cons (pv 1) (pa_cons pe_int pa_nil))) (pa_cons (pe_f (c__law_pick T) (takes_of rfl rfl rfl rfl) hr (by decide) rfl (pa_cons (pv 1) (pa_cons pe_int pa_nil))) pa_nil)))))))
 (pss_cons (ps_set (i := 5) sc_law.nd rfl (Or.inl rfl) (pe_f (c_text_n T 8) (takes_of rfl rfl rfl rfl) hr (by decide) rfl (pa_cons (pv 1) (pa_cons (pv 4) (pa_cons pe_int pa_nil)))))
 (pss_cons (ps_set (i := 6) sc_law.nd rfl (Or.inl rfl) (pe_f (c_write_n T 8) (takes_of rfl rfl rfl rfl) hr (by decide) rfl (pa_cons (pv 4) pa_nil)))
 (pss_cons (ps_if (PW.pt (pw_or (pt_not (pt_val (pe_callB call_isi (by rfl) T.n_isinstance (by decide +kernel) (pa_cons (pv 6) (pa_cons (pe_bltn (v := .ty "str") (by rfl) T.n_str (by decide +kernel) rfl) pa_nil))))) (pw_or1 (pt_cmpR op_ne (pv 6) (pv 5) (nomark _)))))
 (pss_one (ps_ret pe_bl))
 pss_nil)
 (pss_cons (ps_if (pt_not (pt_val (pe_f (c__law_same T 10) (takes_of rfl rfl rfl rfl) hr (by decide) rfl (pa_cons (pe_f (c_read_expression T) (takes_of rfl rfl rfl rfl) hr (by decide) rfl (pa_cons (pv 5) pa_nil)) (pa_cons (pv 4) pa_nil)))))
 (pss_one (ps_ret pe_bl))
 pss_nil)
 (pss_cons (ps_set (i := 7) sc_law.nd rfl (Or.inl rfl) (pe_f (c_text_n T 8) (takes_of rfl rfl rfl rfl) hr (by decide) rfl (pa_cons (pv 1) (pa_cons (pv 4) (pa_cons pe_int pa_nil)))))
 (pss_cons (ps_if (pt_val (pe_f (c__law_one_in T) (takes_of rfl rfl rfl rfl) hr (by decide) rfl (pa_cons (pv 1) (pa_cons pe_int pa_nil))))
 (pss_cons (ps_set (i := 8) sc_law.nd rfl (Or.inl rfl) (pe_f (c__law_pick T) (takes_of rfl rfl rfl rfl) hr (by decide) rfl (pa_cons (pv 1) (pa_cons (pe_op op_sub pe_int (pe_f (c__law_depth_of T) (takes_of rfl rfl rfl rfl) hr (by decide) rfl (pa_cons (pv 7) pa_nil))) pa_nil))))
 (pss_one (ps_set (i := 7) sc_law.nd rfl (Or.inl rfl) (pe_op op_add_str (pe_op op_add_str (pe_op op_repZ pe_str (pv 8)) (pv 7)) (pe_op op_repZ pe_str (pv 8))))))
 pss_nil)
 (pss_cons (ps_set (i := 9) sc_law.nd rfl (Or.inl rfl) (pe_f (c_read_expression T) (takes_of rfl rfl rfl rfl) hr (by decide) rfl (pa_cons (pv 7) pa_nil)))
 (pss_cons (ps_if (PW.pt (pw_or (pt_not (pt_val (pe_f (c__law_same T 10) (takes_of rfl rfl rfl rfl) hr (by decide) rfl (pa_cons (pv 9) (pa_cons (pv 4) pa_nil))))) (pw_or1 (pt_cmpR op_ne (pe_f (c_write_n T 8) (takes_of rfl rfl rfl rfl) hr (by decide) rfl (pa_cons (pv 9) pa_nil)) (pv 5) (nomark _)))))
 (pss_one (ps_ret pe_bl))
 pss_nil)
 (pss_cons (ps_for (passes_of rfl) rfl (pi_range1 (by rfl) T.n_range (pa_cons pe_int pa_nil)) (pg_name (i := 10) sc_law.nd rfl (Or.inl rfl))
 (pss_cons (ps_set (i := 11) sc_law.nd rfl (Or.inl rfl) (pe_f (c__law_spoilt_of T) (takes_of rfl rfl rfl rfl) hr (by decide) rfl (pa_cons (pv 1) (pa_cons (pv 5) pa_nil))))
 (pss_one (ps_if (pt_not (pt_val (pe_fG hgd (c__law_refused T) (takes_of rfl rfl rfl rfl) hr (by decide) rfl (pa_cons (pe_ix ix_tup (pv 11) pe_int (fun _ _ => rfl)) (pa_cons (pe_ix ix_tup (pv 11) pe_int (fun _ _ => rfl)) pa_nil)))))
 (pss_one (ps_ret pe_bl))
 pss_nil))))
 (pss_one (ps_ret (pe_and (pe_cmpR op_eq (pe_f (c_write_n T 8) (takes_of rfl rfl rfl rfl) hr (by decide) rfl (pa_cons (pv 4) pa_nil)) (pv 5) (nomark _)) (pe_one (pe_f (c__law_same T 10) (takes_of rfl rfl rfl rfl) hr (by decide) rfl (pa_cons (pe_f (c_read_expression T) (takes_of rfl rfl rfl rfl) hr (by decide) rfl (pa_cons (pv 5) pa_nil)) (pa_cons (pv 4) pa_nil))))))))))))))))))))))), ?_⟩
    refine ⟨_, rfl, F, sc, zs, rfl, hp, hn, hf, fun F1 H1 b st1 B1 => ?_⟩
    refine ⟨_, rfl, F1, b, 5, rfl, B1, st1.fh, by decide, by decide, fun F2 H2 p ns s2 B2 f2p h1p npb h2p nl nams => ?_⟩
    obtain ⟨n0, ns, rfl⟩ : ∃ n0 r, ns = n0 :: r := by
      cases ns with
      | nil => simp at nl
      | cons n r => exact ⟨n, r, rfl⟩
    have nm0 := nams.2 n0 List.mem_cons_self
    have l12 := nm0.le
    -- the first name is made longer
    refine ⟨_, rfl, p, _, 0, _, rfl, rfl, SqL.of h2p, at0c, _, rfl, p, _, 0, _, rfl, rfl, SqL.of h2p, at0c, S n0, rfl, by rw [SX.S_len, sizeLine_eq]; omega, _, rfl, _, rfl, by decide +kernel, ?_⟩
    have esl : Txt.slice ("abcdefghijkl" : Str) (some ((S n0).length : Int)) none = S (long1.drop n0.length) := by
      rw [eL1, SX.slice_from (by omega), SX.S_len]
      rfl
    rw [esl]
    have ix0 : ixN (tsL (n0 :: ns)).length 0 = some 0 := by
      unfold ixN
      rw [if_pos (Int.le_refl 0), if_pos (by rw [tsL_len, List.length_cons]; omega)]
      rfl
    have ldr : (S (long1.drop n0.length)).length ≤ 12 := S_le (by rw [List.length_drop]; show 12 - _ ≤ 12; omega)
    refine ⟨_, _, rfl, rfl, by rw [SX.S_len, sizeLine_eq]; omega, _, rfl, p, _, 0, 0, rfl, rfl, h2p, ix0, ?_⟩
    obtain ⟨s3, B3⟩ := mutB (o := .lst ((tsL (n0 :: ns)).set 0 (.str (S n0 ++ S (long1.drop n0.length))))) s2 B2 f2p h1p npb
    obtain ⟨s4, B4⟩ := freezeB s3 B3 f2p h1p npb upd_same
    have ens : (tsL (n0 :: ns)).set 0 (.str (S n0 ++ S (long1.drop n0.length))) = tsL ((n0 ++ long1.drop n0.length) :: ns) := by
      rw [SX.S_cat]
      rfl
    have nml : NmL (upd F2 p (.lst ((tsL (n0 :: ns)).set 0 (.str (S n0 ++ S (long1.drop n0.length)))))) p ((n0 ++ long1.drop n0.length) :: ns) := by
      refine ⟨by rw [← ens]; exact upd_same, by simp, by simp at nl ⊢; omega, fun n hn => ?_⟩
      rcases List.mem_cons.mp hn with rfl | h
      · exact nm_twelve nm0
      · exact nm_of_Nm (nams.2 n (List.mem_cons_of_mem _ h))
    obtain ⟨F4, eF4⟩ : ∃ F4, F4 = upd F2 p (.lst ((tsL (n0 :: ns)).set 0 (.str (S n0 ++ S (long1.drop n0.length))))) := ⟨_, rfl⟩
    obtain ⟨H4, eH4⟩ : ∃ H4, H4 = upd H2 p (.lst ((tsL (n0 :: ns)).set 0 (.str (S n0 ++ S (long1.drop n0.length))))) := ⟨_, rfl⟩
    rw [← eF4] at s4 B4 nml
    rw [← eH4] at s4 B4 ⊢
    clear s3 B3 eF4 eH4 s2 B2
    -- the rows of words
    refine ⟨by show 4 ≤ sizeLine; decide, fun q1 hq1 => ?_⟩
    obtain ⟨F10, H10, e10, s10, B10, wq1, f10, u10⟩ := layO (xs := [.str "plus", .str "minus", .str "times", .str "over"]) [.plus, .minus, .times, .over] s4 B4 hq1 rfl (by decide) (by decide)
    rw [← e10]
    have nml := nml.up f10
    refine ⟨by show 1 ≤ sizeLine; decide, fun q2 hq2 => ?_⟩
    obtain ⟨F11, H11, e11, s11, B11, wq2, f11, u11⟩ := layO (xs := [.str "minus"]) [.minus] s10 B10 hq2 rfl (by decide) (by decide)
    rw [← e11]
    have wq1 := wq1.up f11
    have nml := nml.up f11
    refine ⟨by show 1 ≤ sizeLine; decide, fun q3 hq3 => ?_⟩
    obtain ⟨F12, H12, e12, s12, B12, wq3, f12, u12⟩ := layO (xs := [.str "over"]) [.over] s11 B11 hq3 rfl (by decide) (by decide)
    rw [← e12]
    have wq1 := wq1.up f12
    have wq2 := wq2.up f12
    have nml := nml.up f12
    refine ⟨by show 2 ≤ sizeLine; decide, fun q4 hq4 => ?_⟩
    obtain ⟨F13, H13, e13, s13, B13, wq4, f13, u13⟩ := layO (xs := [.str "plus", .str "minus"]) [.plus, .minus] s12 B12 hq4 rfl (by decide) (by decide)
    rw [← e13]
    have wq1 := wq1.up f13
    have wq2 := wq2.up f13
    have wq3 := wq3.up f13
    have nml := nml.up f13
    refine ⟨by show 2 ≤ sizeLine; decide, fun q5 hq5 => ?_⟩
    obtain ⟨F14, H14, e14, s14, B14, wq5, f14, u14⟩ := layO (xs := [.str "times", .str "over"]) [.times, .over] s13 B13 hq5 rfl (by decide) (by decide)
    rw [← e14]
    have wq1 := wq1.up f14
    have wq2 := wq2.up f14
    have wq3 := wq3.up f14
    have wq4 := wq4.up f14
    have nml := nml.up f14
    refine ⟨by show 5 ≤ sizeLine; decide, fun r1 hr1 => ?_⟩
    obtain ⟨Hr, er, sr, Br, gr1, ur⟩ := raws (o := .lst [.ref q1, .ref q2, .ref q3, .ref q4, .ref q5]) s14 B14 hr1
    rw [← er]
    refine ⟨_, rfl, _, rfl, ?_⟩
    refine ⟨by show 2 ≤ sizeLine; decide, fun q6 hq6 => ?_⟩
    obtain ⟨F15, H15, e15, s15, B15, wq6, f15, u15⟩ := layO (xs := [.str "minus", .str "times"]) [.minus, .times] sr Br hq6 rfl (by decide) (by decide)
    rw [← e15]
    have wq1 := wq1.up f15
    have wq2 := wq2.up f15
    have wq3 := wq3.up f15
    have wq4 := wq4.up f15
    have wq5 := wq5.up f15
    have nml := nml.up f15
    refine ⟨by show 2 ≤ sizeLine; decide, fun q7 hq7 => ?_⟩
    obtain ⟨F16, H16, e16, s16, B16, wq7, f16, u16⟩ := layO (xs := [.str "plus", .str "over"]) [.plus, .over] s15 B15 hq7 rfl (by decide) (by decide)
    rw [← e16]
    have wq1 := wq1.up f16
    have wq2 := wq2.up f16
    have wq3 := wq3.up f16
    have wq4 := wq4.up f16
    have wq5 := wq5.up f16
    have wq6 := wq6.up f16
    have nml := nml.up f16
    refine ⟨by show 2 ≤ sizeLine; decide, fun q8 hq8 => ?_⟩
    obtain ⟨F17, H17, e17, s17, B17, wq8, f17, u17⟩ := layO (xs := [.str "plus", .str "times"]) [.plus, .times] s16 B16 hq8 rfl (by decide) (by decide)
    rw [← e17]
    have wq1 := wq1.up f17
    have wq2 := wq2.up f17
    have wq3 := wq3.up f17
    have wq4 := wq4.up f17
    have wq5 := wq5.up f17
    have wq6 := wq6.up f17
    have wq7 := wq7.up f17
    have nml := nml.up f17
    refine ⟨by show 3 ≤ sizeLine; decide, fun r2 hr2 => ?_⟩
    obtain ⟨Hs, es, ss, Bs, gs, us2⟩ := raws (o := .lst [.ref q6, .ref q7, .ref q8]) s17 B17 hr2
    rw [← es]
    have gr2 : Hs r1 = some (.lst [.ref q1, .ref q2, .ref q3, .ref q4, .ref q5]) := us2 _ _ (u17 _ _ (u16 _ _ (u15 _ _ gr1)))
    refine ⟨r1, r2, _, _, rfl, rfl, gr2, gs, by show 8 ≤ sizeLine; decide, fun r3 hr3 => ?_⟩
    obtain ⟨Ht, et, st', Bt, gt, ut⟩ := raws (o := .lst ([.ref q1, .ref q2, .ref q3, .ref q4, .ref q5] ++ [.ref q6, .ref q7, .ref q8])) ss Bs hr3
    rw [← et]
    refine ⟨F17, b, .ref r3, _, rfl, .inr (.inl ⟨r3, rfl, nbB Bs hr3, gt⟩), by simp, by show 8 ≤ 1000; decide, Bt, st'.fh, fun H20 x20 i20 s20 B20 hx20 => ?_⟩
    have s20 := seqB st' Bt s20
    have wd : WdV K F17 x20 := by
      match i20, hx20 with
      | 0, h => cases h; exact wq1
      | 1, h => cases h; exact wq2
      | 2, h => cases h; exact wq3
      | 3, h => cases h; exact wq4
      | 4, h => cases h; exact wq5
      | 5, h => cases h; exact wq6
      | 6, h => cases h; exact wq7
      | 7, h => cases h; exact wq8
      | n + 8, h => simp at h
    obtain ⟨q, os, rfl, opl⟩ := wd
    -- the tree
    refine ⟨_, rfl, _, rfl, _, rfl, _, rfl, F17, b, _, rfl, B20, s20.fh, by decide, sz_of 3 (by decide) (by decide), fun H21 sh s21 B21 sh0 sh1 => ⟨_, rfl, F17, b, _, rfl, B21, (seqB s20 B20 s21).fh, by decide, sz_of 4 (by decide) (by decide), fun H22 mi s22 B22 mi0 mi1 => ?_⟩⟩
    have s22 := seqB s20 B20 (seqB s21 B21 s22)
    obtain ⟨m, rfl⟩ : ∃ m : Nat, mi = m := ⟨mi.toNat, by omega⟩
    refine ⟨F17, b, p, q, _, os, sh, m, rfl, B22, s22.fh, nml, opl, sh0, sh1, by omega, by decide, fun F23 H23 v t s23 B23 tv ok hm => ?_⟩
    have s23 := seqB s22 B22 s23
    have hm8 : ops t < 8 := by omega
    -- its text
    refine ⟨_, rfl, _, rfl, F23, b, v, t, 0, rfl, B23, s23.fh, tv, ok, hm8, by decide, by decide, fun F24 H24 us s24 B24 tx uz => ?_⟩
    obtain rfl := uz rfl
    have s24' := s24
    have s24 := seqB s23 B23 s24
    have tv := tv.up s24'.ff
    obtain ⟨⟨d, hd, g⟩, ul⟩ := tx_gr tx ok
    have gd : Good t (toks t) := ⟨⟨d, by omega, g.low⟩, by omega, tx_wds tx ok⟩
    have pro := pr_ok g.low (by omega)
    have uok := us_ok gd.wd (by omega)
    refine ⟨_, rfl, v, t, rfl, tv.up s24.fh, ok, hm8, by decide, fun H25 e25 => ?_⟩
    obtain ⟨s25, B25⟩ := sameB s24 B24 e25
    refine ⟨_, rfl, _, _, _, _, true, rfl, .ty _, .base (.str _), kit_ty (by decide +kernel), true, rfl, iteF ?_⟩
    refine ⟨_, rfl, _, rfl, rfl, _, rfl, iteN (by simp) ?_⟩
    refine ⟨_, rfl, F24, toks t, some t, _, rfl, gd.ne, uok, gd.wd, pro, s25.fh, fun t' et _ F26 H26 v2 s26 tv2 => ?_, fun h => ?_⟩
    rotate_left
    · rcases h with h | h
      · cases h
      · exact absurd h (Nat.lt_irrefl _)
    cases et
    have tv26 := tv.up s26.ff
    obtain ⟨s26, B26⟩ := pureB s25 B25 s26
    refine ⟨_, rfl, v2, v, rfl, ex_of (n := 7) (tv2.up s26.fh) (tv26.up s26.fh) (by omega), true, rfl, iteF ?_⟩
    -- with needless parentheses
    refine ⟨_, rfl, _, rfl, F26, b, v, t, 2, rfl, B26, s26.fh, tv26, ok, hm8, by decide, by decide, fun F27 H27 us s27 B27 tx2 _ => ?_⟩
    have tv27 := tv26.up s27.ff
    have s27 := seqB s26 B26 s27
    obtain ⟨⟨d2, hd2, g2⟩, ul2⟩ := tx_gr tx2 ok
    have wd2 := tx_wds tx2 ok
    have ne2 := tx_words tx2 ok
    refine gn ?_
    dsimp only
    refine seq_with (fun σ' H' => ∃ F' vs c8 d, ([some (.ref sc), some (.ref b), some (.ref p), some (.ref q), some v, some (.str (S (J (toks t)))), some (.str (S (J (toks t)))), some (.str (S (J vs))), c8, none, none, none] : List (Option V)) = σ' ∧ Same F27 F' ∧ Sb b F1 H1 F' H' ∧ Bag K b F' H' ∧ d ≤ 40 ∧ Gr 1 d t vs ∧ vs.length ≤ 240 ∧ Wds vs ∧ vs ≠ []) (fun u hu => ?_) ?_
    · refine ⟨_, rfl, F27, b, _, rfl, B27, s27.fh, by decide, sz_of 3 (by decide) (by decide), fun H28 c s28 B28 => ⟨c, rfl, ?_⟩⟩
      have s28 := seqB s27 B27 s28
      cases c with
      | false => exact iteF (hu _ _ ⟨F27, us, none, d2, rfl, .refl _, s28, B28, by omega, g2.low, by omega, wd2, ne2⟩)
      | true =>
        refine iteT ⟨_, rfl, _, rfl, F27, us, rfl, wd2, ne2, by omega, s28.fh, fun F29 H29 s29 => ⟨_, _, rfl, rfl, ?_⟩⟩
        have f29 := s29.ff
        obtain ⟨s29, B29⟩ := pureB s28 B28 s29
        rw [gr_depth g2.low ok]
        refine ⟨F29, b, _, rfl, B29, s29.fh, by omega, sz_of 6 (by omega) (by decide), fun H30 mi s30 B30 mi0 mi1 => ?_⟩
        have s30 := seqB s29 B29 s30
        obtain ⟨m2, rfl⟩ : ∃ m : Nat, mi = m := ⟨mi.toNat, by omega⟩
        have lr : ∀ x : List Nat, x.length = 2 → (S (rep (m2 : Int).toNat x)).length ≤ 80 := fun x hx => S_le (by rw [rep_len, hx]; omega)
        have l1 := lr [40, 32] rfl
        have l2 := lr [32, 41] rfl
        have jS : (S (J us)).length ≤ 1001 * 240 := S_le (Nat.le_trans (J_len wd2) (Nat.mul_le_mul_left _ (by omega)))
        refine ⟨_, rfl, [40, 32], (m2 : Int), congrArg V.str eLPs, rfl, by omega, by omega, by decide, by decide, _, rfl, _, _, rfl, rfl, by rw [sizeLine_eq]; omega, _, rfl, [32, 41], (m2 : Int), congrArg V.str eRPs, rfl, by omega, by omega, by decide, by decide, _, _, rfl, rfl, by rw [PySem.Str.length_append, sizeLine_eq]; omega, ?_⟩
        have ej : S (rep (m2 : Int).toNat [40, 32]) ++ S (J us) ++ S (rep (m2 : Int).toNat [32, 41]) = S (J (wrap m2 us)) := by
          rw [J_wrap ne2, SX.S_cat, SX.S_cat]
          rfl
        refine hu _ _ ⟨F29, wrap m2 us, some (.int (m2 : Nat)), d2 + m2, ?_, f29, s30, B30, by omega, gr_wrap g2.low m2, by rw [wrap_len]; omega, wd2.wrap m2, wrap_ne ne2 m2⟩
        rw [← ej]
        rfl
    rintro _ H31 ⟨F31, vs, c8, d3, rfl, f31, s31, B31, hd3, g3, l3, wd3, ne3⟩
    have tv31 := tv27.up f31
    refine ⟨_, rfl, F31, vs, some t, _, rfl, ne3, us_ok wd3 (by omega), wd3, pr_ok g3 hd3, s31.fh, fun t' et _ F32 H32 v3 s32 tv3 => ?_, fun h => ?_⟩
    rotate_left
    · rcases h with h | h
      · cases h
      · exact absurd h (Nat.lt_irrefl _)
    cases et
    have tv32 := tv31.up s32.ff
    obtain ⟨s32, B32⟩ := pureB s31 B31 s32
    refine gn ?_
    dsimp only
    refine ⟨_, rfl, _, rfl, v3, v, rfl, ex_of (n := 7) (tv3.up s32.fh) (tv32.up s32.fh) (by omega), true, rfl, iteF ?_⟩
    refine ⟨_, rfl, v3, t, rfl, tv3.up s32.fh, ok, hm8, by decide, fun H33 e33 => ⟨_, rfl, rfl, _, rfl, iteN (by simp) ?_⟩⟩
    obtain ⟨s33, B33⟩ := sameB s32 B32 e33
    -- spoilt texts
    refine ⟨2, rfl, by decide, by decide, ?_⟩
    refine for_range (lo := 0) (n := 2) (fun i σ' H' => ∃ F' c10 c11, σ' = [some (.ref sc), some (.ref b), some (.ref p), some (.ref q), some v, some (.str (S (J (toks t)))), some (.str (S (J (toks t)))), some (.str (S (J vs))), c8, some v3, c10, c11] ∧ Same F32 F' ∧ Sb b F1 H1 F' H' ∧ Bag K b F' H') ?_ ?_ ?_
    · exact ⟨F32, none, none, rfl, .refl _, s33, B33⟩
    · rintro i _ H34 hi ⟨F34, c10, c11, rfl, f34, s34, B34⟩
      refine ⟨_, rfl, _, rfl, F34, b, t, toks t, rfl, gd, B34, s34.fh, fun F35 H35 sv s35 B35 bv => ?_⟩
      have f35 := s35.ff
      have s35 := seqB s34 B34 s35
      obtain ⟨sp, ws, j, rfl, hsp, bad⟩ := bv
      refine ⟨_, rfl, sp, _, 0, _, rfl, rfl, upT s35.fh hsp, rfl, _, rfl, sp, _, 1, _, rfl, rfl, upT s35.fh hsp, rfl, F35, ws, j, rfl, bad, s35.fh, fun F36 H36 s36 => ⟨true, rfl, iteF ?_⟩⟩
      have f36 := s36.ff
      obtain ⟨s36, B36⟩ := pureB s35 B35 s36
      exact ⟨F36, _, _, rfl, (f34.trans f35).trans f36, s36, B36⟩
    · rintro _ H34 ⟨F34, c10, c11, rfl, f34, s34, B34⟩
      have tv34 := tv32.up f34
      refine ⟨_, rfl, v, t, rfl, tv34.up s34.fh, ok, hm8, by decide, fun H35 e35 => ⟨_, rfl, rfl, _, rfl, iteY (decide_eq_true rfl) ?_⟩⟩
      obtain ⟨s35, B35⟩ := sameB s34 B34 e35
      refine ⟨_, rfl, F34, toks t, some t, _, rfl, gd.ne, uok, gd.wd, pro, s35.fh, fun t' et _ F36 H36 v4 s36 tv4 => ?_, fun h => ?_⟩
      rotate_left
      · rcases h with h | h
        · cases h
        · exact absurd h (Nat.lt_irrefl _)
      cases et
      have tv36 := tv34.up s36.ff
      refine ⟨_, rfl, v4, v, rfl, ex_of (n := 7) (tv4.up s36.fh) (tv36.up s36.fh) (by omega), k _⟩
end
end K09

set_option Elab.async false
set_option linter.all false
set_option maxRecDepth 100000
set_option maxHeartbeats 4000000
namespace K09
open PySem PySem.Spec PyProof.Rows L2 Ew
theorem kit_cls0 {K : PySem.W.Frag} {t : Value} {C : Addr} {b : Bool} (h2 : PySem.W.isClsIn K C = true) (h3 : PySem.W.typeIn K (.ref C) = some (.type "type")) (h4 : PySem.W.subIn K t (.ref C) = some b) : PySem.W.kitCls K t (.ref C) = some b := by
  have e2 : ((PySem.W.clsIn K C).isSome && PySem.W.typeIn K (.ref C) == some (.type "type")) = true := by
    have h2' : (PySem.W.clsIn K C).isSome = true := h2
    rw [h2', h3] <;> rfl
  show (if ((PySem.W.clsIn K C).isSome && PySem.W.typeIn K (.ref C) == some (.type "type")) = true then PySem.W.subIn K t (.ref C) else none) = some b
  rw [if_pos e2]
  exact h4
theorem kit_ty2 {K : PySem.W.Frag} {C : Addr} (h4 : PySem.W.subIn K (.ref C) (.type "ValueError") = some true) : PySem.W.kitOne K (.ref C) (.type "ValueError") = some true := by
  unfold PySem.W.kitOne
  rw [if_neg (by simp)]
  show (if PySem.W.kitMeta "ValueError" = true then PySem.W.subIn K (.ref C) (.type "ValueError") else none) = some true
  rw [if_pos (by decide +kernel)]
  exact h4
theorem kit_no0 {K : PySem.W.Frag} {D C : Addr} (n : D ≠ C) (h2 : PySem.W.isClsIn K C = true) (h3 : PySem.W.typeIn K (.ref C) = some (.type "type")) (h4 : PySem.W.subIn K (.ref D) (.ref C) = some false) : PySem.W.kitOne K (.ref D) (.ref C) = some false := by
  unfold PySem.W.kitOne
  rw [if_neg (by simpa using n)]
  exact kit_cls0 h2 h3 h4
theorem kit_yes {K : PySem.W.Frag} {t : Value} {C : Addr} (h2 : PySem.W.isClsIn K C = true) (h3 : PySem.W.typeIn K (.ref C) = some (.type "type")) (h4 : PySem.W.subIn K t (.ref C) = some true) : PySem.W.kitOne K t (.ref C) = some true := by
  unfold PySem.W.kitOne
  split
  · rfl
  · exact kit_cls0 h2 h3 h4
theorem exm_of {K : PySem.W.Frag} {D C : Addr} {b : Bool} (e : PySem.W.subIn K (.ref C) (.type "BaseException") = some true) (h2 : PySem.W.isClsIn K C = true) (h3 : PySem.W.typeIn K (.ref C) = some (.type "type")) (h4 : PySem.W.subIn K (.ref D) (.ref C) = some b) : PySem.W.exmOne K (.ref D) (.ref C) = some b := by
  unfold PySem.W.exmOne
  have e1 : (PySem.W.subIn K (.ref C) (.type "BaseException") == some true) = true := by rw [e] <;> rfl
  rw [if_pos e1]
  exact kit_cls0 h2 h3 h4
theorem te_at {K : PySem.W.Frag} {mg : Str → Option Value} {f TT : Addr} {od an : Option Addr} {sl : Array (Option Value)} {oc kV dc pm cd ct : Value} {tD : Tok} {nD0 : Nat} {odT : Option Addr} {ocT : Value} {slT : Array (Option Value)}
    (l : K.lookup f = some ⟨oc, od, .func (PySem.W.fnOf "take_expression" "take_expression" (defArgs s_take_expression) (defBody s_take_expression) (defScope s_take_expression) (.ref TT) kV dc pm an cd ct), sl⟩) (lT : K.lookup TT = some ⟨ocT, odT, .seq #[.int 0 tD] nD0, slT⟩) (c : PySem.W.codeIn K cd "take_expression" = true) (k : PySem.W.keepIn K (.ref f) = true) (g : mg "take_expression" = some (.ref f)) :
    DefAtD K mg "take_expression" s_take_expression P_take_expression [.int 0] := by
  have F : FunD K "take_expression" "take_expression" (defArgs s_take_expression) (defBody s_take_expression) (defScope s_take_expression) [.int 0] [] f (PySem.W.fnOf "take_expression" "take_expression" (defArgs s_take_expression) (defBody s_take_expression) (defScope s_take_expression) (.ref TT) kV dc pm an cd ct) :=
    ⟨⟨oc, od, .ref TT, kV, dc, pm, an, cd, ct, sl, rfl, l, c, .inr ⟨(fun z => nomatch z), TT, _, [.int 0 tD], nD0, rfl, lT, rfl, .cons ⟨tD, rfl⟩ .nil⟩, .inl rfl⟩, k⟩
  refine ⟨f, _, F, g, fun j hj => ?_⟩
  have hj : j = 0 ∨ j = 1 := by
    have : j ≤ 1 := hj
    omega
  rcases hj with rfl | rfl
  · exact F.binds1 1 0 (fun z => nomatch z) rfl fun T kV doc pm an cdv ct us its h1 h2 => match us, its, h1, h2 with | [_], [_], _, _ => ⟨_, rfl, rfl⟩
  · exact F.binds1 2 1 (fun z => nomatch z) rfl fun T kV doc pm an cdv ct us its h1 h2 => match us, its, h1, h2 with | [_, _], [_], _, _ => ⟨_, rfl, rfl⟩
theorem WORDS_at {K : PySem.W.Frag} {aW : Addr} {od_WORDS : Option Addr} {n_WORDS : Nat} {sl_WORDS : Array (Option Value)} {wk0 wk1 wk2 wk3 wk4 wk5 wk6 wk7 wk8 wk9 wk10 wk11 wk12 wk13 wk14 wk15 wk16 wk17 wk18 wk19 wk20 wk21 wk22 wk23 wk24 wk25 wk26 wk27 wk28 wk29 wk30 wk31 wk32 wk33 wk34 wk35 wk36 wk37 wk38 wk39 wk40 wk41 wk42 wk43 wk44 wk45 : Tok} (l : K.lookup aW = some ⟨.type "tuple", od_WORDS, .seq #[.str "days" wk0, .str "base" wk1, .str "unit" wk2, .str "device" wk3, .str "feature" wk4, .str "role" wk5, .str "job" wk6, .str "procedure" wk7, .str "takes" wk8, .str "uses" wk9, .str "read" wk10, .str "by" wk11, .str "let" wk12, .str "be" wk13, .str "tell" wk14, .str "in" wk15, .str "judge" wk16, .str "good" wk17, .str "bad" wk18, .str "choose" wk19, .str "passed" wk20, .str "failed" wk21, .str "open" wk22, .str "repeat" wk23, .str "leave" wk24, .str "call" wk25, .str "stop" wk26, .str "end" wk27, .str "size" wk28, .str "offset" wk29, .str "news" wk30, .str "cert" wk31, .str "stand" wk32, .str "jolt" wk33, .str "edition" wk34, .str "strike" wk35, .str "told" wk36, .str "within" wk37, .str "sum" wk38, .str "product" wk39, .str "quotient" wk40, .str "card" wk41, .str "spot" wk42, .str "row" wk43, .str "ground" wk44, .str "nobody" wk45] n_WORDS, sl_WORDS⟩) : ∀ H, SqT K H aW ((["days", "base", "unit", "device", "feature", "role", "job", "procedure", "takes", "uses", "read", "by", "let", "be", "tell", "in", "judge", "good", "bad", "choose", "passed", "failed", "open", "repeat", "leave", "call", "stop", "end", "size", "offset", "news", "cert", "stand", "jolt", "edition", "strike", "told", "within", "sum", "product", "quotient", "card", "spot", "row", "ground", "nobody"] : List String).map fun x => V.str (Str.ofString x)) := fun H =>
  .inr ⟨_, _, n_WORDS, l, rfl, rfl, by show 46 ≤ sizeLine; decide, .cons ⟨_, rfl⟩ (.cons ⟨_, rfl⟩ (.cons ⟨_, rfl⟩ (.cons ⟨_, rfl⟩ (.cons ⟨_, rfl⟩ (.cons ⟨_, rfl⟩ (.cons ⟨_, rfl⟩ (.cons ⟨_, rfl⟩ (.cons ⟨_, rfl⟩ (.cons ⟨_, rfl⟩ (.cons ⟨_, rfl⟩ (.cons ⟨_, rfl⟩ (.cons ⟨_, rfl⟩ (.cons ⟨_, rfl⟩ (.cons ⟨_, rfl⟩ (.cons ⟨_, rfl⟩ (.cons ⟨_, rfl⟩ (.cons ⟨_, rfl⟩ (.cons ⟨_, rfl⟩ (.cons ⟨_, rfl⟩ (.cons ⟨_, rfl⟩ (.cons ⟨_, rfl⟩ (.cons ⟨_, rfl⟩ (.cons ⟨_, rfl⟩ (.cons ⟨_, rfl⟩ (.cons ⟨_, rfl⟩ (.cons ⟨_, rfl⟩ (.cons ⟨_, rfl⟩ (.cons ⟨_, rfl⟩ (.cons ⟨_, rfl⟩ (.cons ⟨_, rfl⟩ (.cons ⟨_, rfl⟩ (.cons ⟨_, rfl⟩ (.cons ⟨_, rfl⟩ (.cons ⟨_, rfl⟩ (.cons ⟨_, rfl⟩ (.cons ⟨_, rfl⟩ (.cons ⟨_, rfl⟩ (.cons ⟨_, rfl⟩ (.cons ⟨_, rfl⟩ (.cons ⟨_, rfl⟩ (.cons ⟨_, rfl⟩ (.cons ⟨_, rfl⟩ (.cons ⟨_, rfl⟩ (.cons ⟨_, rfl⟩ (.cons ⟨_, rfl⟩ (.nil))))))))))))))))))))))))))))))))))))))))))))))⟩
theorem OPERATORS_at {K : PySem.W.Frag} {aO : Addr} {od_OPERATORS : Option Addr} {n_OPERATORS : Nat} {sl_OPERATORS : Array (Option Value)} {ok0 ok1 ok2 ok3 : Tok} (l : K.lookup aO = some ⟨.type "tuple", od_OPERATORS, .seq #[.str "plus" ok0, .str "minus" ok1, .str "times" ok2, .str "over" ok3] n_OPERATORS, sl_OPERATORS⟩) : ∀ H, SqT K H aO [V.str "plus", V.str "minus", V.str "times", V.str "over"] := fun H =>
  .inr ⟨_, _, n_OPERATORS, l, rfl, rfl, by show 4 ≤ sizeLine; decide, .cons ⟨_, rfl⟩ (.cons ⟨_, rfl⟩ (.cons ⟨_, rfl⟩ (.cons ⟨_, rfl⟩ (.nil))))⟩
theorem tb_at {K : PySem.W.Frag} {w : World} {d : Addr} {es : Array DictEntry} {n : Nat} {ks : List Str} (l : K.lookup d = some ⟨.type "dict", none, .dict es n, #[]⟩) (m : (d == sysModules) = false) (e : es.toList.map He.keyOf = He.keysIn w.params ks) : Tb K w d ks := by
  refine ⟨?_⟩
  unfold He.dicW
  rw [l]
  dsimp only
  rw [m, show (decide (("dict" : String) = "dict") && ((#[] : Array (Option Value)).isEmpty && !false)) = true from rfl]
  exact congrArg some e
theorem star_take_word {kV dc pm cd ct : Value} {an : Option Addr} {u : Value} {rest : List Value} : bindArgs (PySem.W.fnOf "take_word" "Reader.take_word" (defArgs s_Reader_take_word) (defBody s_Reader_take_word) (defScope s_Reader_take_word) .none kV dc pm an cd ct) ⟨[u] ++ rest, []⟩ = (newTuple rest >>= fun t => pure ((["self"] : List Str).zip [u] ++ [(("words" : Str), t)])) := match rest with | [] => rfl | _ :: _ => rfl
theorem star_take_name {kV dc pm cd ct : Value} {an : Option Addr} {u : Value} {rest : List Value} : bindArgs (PySem.W.fnOf "take_name" "Reader.take_name" (defArgs s_Reader_take_name) (defBody s_Reader_take_name) (defScope s_Reader_take_name) .none kV dc pm an cd ct) ⟨[u] ++ rest, []⟩ = (newTuple rest >>= fun t => pure ((["self"] : List Str).zip [u] ++ [(("words" : Str), t)])) := match rest with | [] => rfl | _ :: _ => rfl
theorem all_mk {P : Program} {w : World} {K : PySem.W.Frag} {h : Heap} {mg : Str → Option Value} {fa : Addr} (X : K.In h) (G : h.Ns mainGlobals mg) (hfa : mg "law" = some (.ref fa))
    {tD tL tN tM tI tP tA : Tok}
    {aW : Addr} {od_WORDS : Option Addr} {n_WORDS : Nat} {sl_WORDS : Array (Option Value)} {wk0 wk1 wk2 wk3 wk4 wk5 wk6 wk7 wk8 wk9 wk10 wk11 wk12 wk13 wk14 wk15 wk16 wk17 wk18 wk19 wk20 wk21 wk22 wk23 wk24 wk25 wk26 wk27 wk28 wk29 wk30 wk31 wk32 wk33 wk34 wk35 wk36 wk37 wk38 wk39 wk40 wk41 wk42 wk43 wk44 wk45 : Tok}
    {aO : Addr} {od_OPERATORS : Option Addr} {n_OPERATORS : Nat} {sl_OPERATORS : Array (Option Value)} {ok0 ok1 ok2 ok3 : Tok}
    {aS : Addr} {n_SIGNS : Nat} {hSIGNS0 hSIGNS1 hSIGNS2 hSIGNS3 : Int} {ktSIGNS0 vtSIGNS0 ktSIGNS1 vtSIGNS1 ktSIGNS2 vtSIGNS2 ktSIGNS3 vtSIGNS3 : Tok}
    {aU : Addr} {n_SUMS : Nat} {hSUMS0 hSUMS1 : Int} {ktSUMS0 vtSUMS0 ktSUMS1 vtSUMS1 : Tok}
    {aR : Addr} {n_PRODUCTS : Nat} {hPRODUCTS0 hPRODUCTS1 : Int} {ktPRODUCTS0 vtPRODUCTS0 ktPRODUCTS1 vtPRODUCTS1 : Tok}
    {C_EllError : Addr}
    {C_BadRatio : Addr} {nm_BadRatio q_BadRatio : Str} {N_BadRatio : Addr} {bs_BadRatio : List Value} {sn_BadRatio : List Str} {sub_BadRatio : List Value} {ab_BadRatio : Bool} {col_BadRatio : Option Bool} {dd_BadRatio : Option Addr} {m0_BadRatio m1_BadRatio m2_BadRatio m3_BadRatio m5_BadRatio : Option Value}
    {f1 : Addr} {od1 an1 : Option Addr} {sl1 : Array (Option Value)} {oc1 kV1 dc1 pm1 cd1 ct1 : Value}
    {C_BadLine : Addr} {nm_BadLine q_BadLine : Str} {N_BadLine : Addr} {bs_BadLine : List Value} {sn_BadLine : List Str} {sub_BadLine : List Value} {ab_BadLine : Bool} {col_BadLine : Option Bool} {dd_BadLine : Option Addr} {m0_BadLine m1_BadLine m2_BadLine m3_BadLine m5_BadLine : Option Value}
    {f2 : Addr} {od2 an2 : Option Addr} {sl2 : Array (Option Value)} {oc2 kV2 dc2 pm2 cd2 ct2 : Value}
    {C_Reader : Addr}
    {f3 : Addr} {od3 an3 : Option Addr} {sl3 : Array (Option Value)} {oc3 kV3 dc3 pm3 cd3 ct3 : Value}
    {f4 : Addr} {od4 an4 : Option Addr} {sl4 : Array (Option Value)} {oc4 kV4 dc4 pm4 cd4 ct4 : Value}
    {f5 : Addr} {od5 an5 : Option Addr} {sl5 : Array (Option Value)} {oc5 kV5 dc5 pm5 cd5 ct5 : Value}
    {f6 : Addr} {od6 an6 : Option Addr} {sl6 : Array (Option Value)} {oc6 kV6 dc6 pm6 cd6 ct6 : Value}
    {f7 : Addr} {od7 an7 : Option Addr} {sl7 : Array (Option Value)} {oc7 kV7 dc7 pm7 cd7 ct7 : Value}
    {f8 : Addr} {od8 an8 : Option Addr} {sl8 : Array (Option Value)} {oc8 kV8 dc8 pm8 cd8 ct8 : Value}
    {f9 : Addr} {od9 an9 : Option Addr} {sl9 : Array (Option Value)} {oc9 kV9 dc9 pm9 cd9 ct9 : Value}
    {f10 : Addr} {od10 an10 : Option Addr} {sl10 : Array (Option Value)} {oc10 kV10 dc10 pm10 cd10 ct10 : Value}
    {f11 : Addr} {od11 an11 : Option Addr} {sl11 : Array (Option Value)} {oc11 kV11 dc11 pm11 cd11 ct11 : Value}
    {f12 : Addr} {od12 an12 : Option Addr} {sl12 : Array (Option Value)} {oc12 kV12 dc12 pm12 cd12 ct12 : Value}
    {f13 : Addr} {od13 an13 : Option Addr} {sl13 : Array (Option Value)} {oc13 kV13 dc13 pm13 cd13 ct13 : Value}
    {f14 : Addr} {od14 an14 : Option Addr} {sl14 : Array (Option Value)} {oc14 kV14 dc14 pm14 cd14 ct14 : Value}
    {f15 : Addr} {od15 an15 : Option Addr} {sl15 : Array (Option Value)} {oc15 kV15 dc15 pm15 cd15 ct15 : Value}
    {f16 : Addr} {od16 an16 : Option Addr} {sl16 : Array (Option Value)} {oc16 kV16 dc16 pm16 cd16 ct16 : Value}
    {f17 : Addr} {od17 an17 : Option Addr} {sl17 : Array (Option Value)} {oc17 kV17 dc17 pm17 cd17 ct17 : Value}
    {f18 : Addr} {od18 an18 : Option Addr} {sl18 : Array (Option Value)} {oc18 kV18 dc18 pm18 cd18 ct18 : Value}
    {f19 : Addr} {od19 an19 : Option Addr} {sl19 : Array (Option Value)} {oc19 kV19 dc19 pm19 cd19 ct19 : Value}
    {f20 : Addr} {od20 an20 : Option Addr} {sl20 : Array (Option Value)} {oc20 kV20 dc20 pm20 cd20 ct20 : Value}
    {f21 : Addr} {od21 an21 : Option Addr} {sl21 : Array (Option Value)} {oc21 kV21 dc21 pm21 cd21 ct21 : Value}
    {f22 : Addr} {od22 an22 : Option Addr} {sl22 : Array (Option Value)} {oc22 kV22 dc22 pm22 cd22 ct22 : Value}
    {f23 : Addr} {od23 an23 : Option Addr} {sl23 : Array (Option Value)} {oc23 kV23 dc23 pm23 cd23 ct23 : Value}
    {f24 : Addr} {od24 an24 : Option Addr} {sl24 : Array (Option Value)} {oc24 kV24 dc24 pm24 cd24 ct24 : Value}
    {f25 : Addr} {od25 an25 : Option Addr} {sl25 : Array (Option Value)} {oc25 kV25 dc25 pm25 cd25 ct25 : Value}
    {f26 : Addr} {od26 an26 : Option Addr} {sl26 : Array (Option Value)} {oc26 kV26 dc26 pm26 cd26 ct26 : Value}
    {f27 : Addr} {od27 an27 : Option Addr} {sl27 : Array (Option Value)} {oc27 kV27 dc27 pm27 cd27 ct27 : Value}
    {f28 : Addr} {od28 an28 : Option Addr} {sl28 : Array (Option Value)} {oc28 kV28 dc28 pm28 cd28 ct28 : Value}
    {f29 : Addr} {od29 an29 : Option Addr} {sl29 : Array (Option Value)} {oc29 kV29 dc29 pm29 cd29 ct29 : Value}
    {f30 : Addr} {od30 an30 : Option Addr} {sl30 : Array (Option Value)} {oc30 kV30 dc30 pm30 cd30 ct30 : Value}
    {f31 : Addr} {od31 an31 : Option Addr} {sl31 : Array (Option Value)} {oc31 kV31 dc31 pm31 cd31 ct31 : Value}
    {f32 : Addr} {od32 an32 : Option Addr} {sl32 : Array (Option Value)} {oc32 kV32 dc32 pm32 cd32 ct32 : Value}
    {f33 : Addr} {od33 an33 : Option Addr} {sl33 : Array (Option Value)} {oc33 kV33 dc33 pm33 cd33 ct33 : Value}
    {f34 : Addr} {od34 an34 : Option Addr} {sl34 : Array (Option Value)} {oc34 kV34 dc34 pm34 cd34 ct34 : Value}
    {f35 : Addr} {od35 an35 : Option Addr} {sl35 : Array (Option Value)} {oc35 kV35 dc35 pm35 cd35 ct35 : Value}
    {f36 : Addr} {od36 an36 : Option Addr} {sl36 : Array (Option Value)} {oc36 kV36 dc36 pm36 cd36 ct36 : Value}
    {f37 : Addr} {od37 an37 : Option Addr} {sl37 : Array (Option Value)} {oc37 kV37 dc37 pm37 cd37 ct37 : Value}
    {f38 : Addr} {od38 an38 : Option Addr} {sl38 : Array (Option Value)} {oc38 kV38 dc38 pm38 cd38 ct38 : Value}
    {f39 : Addr} {od39 an39 : Option Addr} {sl39 : Array (Option Value)} {oc39 kV39 dc39 pm39 cd39 ct39 : Value}
    {f40 : Addr} {od40 an40 : Option Addr} {sl40 : Array (Option Value)} {oc40 kV40 dc40 pm40 cd40 ct40 : Value}
    {f41 : Addr} {od41 an41 : Option Addr} {sl41 : Array (Option Value)} {oc41 kV41 dc41 pm41 cd41 ct41 : Value}
    {f42 : Addr} {od42 an42 : Option Addr} {sl42 : Array (Option Value)} {oc42 kV42 dc42 pm42 cd42 ct42 : Value}
    {f43 : Addr} {od43 an43 : Option Addr} {sl43 : Array (Option Value)} {oc43 kV43 dc43 pm43 cd43 ct43 : Value}
    {f44 : Addr} {od44 an44 : Option Addr} {sl44 : Array (Option Value)} {oc44 kV44 dc44 pm44 cd44 ct44 : Value}
    {f45 : Addr} {od45 an45 : Option Addr} {sl45 : Array (Option Value)} {oc45 kV45 dc45 pm45 cd45 ct45 : Value}
    {f46 : Addr} {od46 an46 : Option Addr} {sl46 : Array (Option Value)} {oc46 kV46 dc46 pm46 cd46 ct46 : Value}
    {f47 : Addr} {od47 an47 : Option Addr} {sl47 : Array (Option Value)} {oc47 kV47 dc47 pm47 cd47 ct47 : Value}
    {f48 : Addr} {od48 an48 : Option Addr} {sl48 : Array (Option Value)} {oc48 kV48 dc48 pm48 cd48 ct48 : Value}
    {f49 : Addr} {od49 an49 : Option Addr} {sl49 : Array (Option Value)} {oc49 kV49 dc49 pm49 cd49 ct49 : Value}
    {f50 : Addr} {od50 an50 : Option Addr} {sl50 : Array (Option Value)} {oc50 kV50 dc50 pm50 cd50 ct50 : Value}
    {f51 TT : Addr} {od51 an51 : Option Addr} {sl51 : Array (Option Value)} {oc51 kV51 dc51 pm51 cd51 ct51 : Value} {tE : Tok} {nD0 : Nat} {odT : Option Addr} {ocT : Value} {slT : Array (Option Value)}
    {f52 : Addr} {od52 an52 : Option Addr} {sl52 : Array (Option Value)} {oc52 kV52 dc52 pm52 cd52 ct52 : Value}
    (z_isinstance : PySem.W.nsIn K mainGlobals "isinstance" = some none)
    (z_int : PySem.W.nsIn K mainGlobals "int" = some none)
    (z_bool : PySem.W.nsIn K mainGlobals "bool" = some none)
    (z_tuple : PySem.W.nsIn K mainGlobals "tuple" = some none)
    (z_str : PySem.W.nsIn K mainGlobals "str" = some none)
    (z_len : PySem.W.nsIn K mainGlobals "len" = some none)
    (z_all : PySem.W.nsIn K mainGlobals "all" = some none)
    (z_abs : PySem.W.nsIn K mainGlobals "abs" = some none)
    (z_min : PySem.W.nsIn K mainGlobals "min" = some none)
    (z_max : PySem.W.nsIn K mainGlobals "max" = some none)
    (z_range : PySem.W.nsIn K mainGlobals "range" = some none)
    (z_ValueError : PySem.W.nsIn K mainGlobals "ValueError" = some none)
    (zgcd : PySem.W.nsIn K mainGlobals "gcd" = some (some (.builtin "math.gcd")))
    (zz_DIGITS_ratios : PySem.W.nsIn K mainGlobals "DIGITS_ratios" = some (some (.str "0123456789" tD)))
    (zz_LONGEST_ratios : PySem.W.nsIn K mainGlobals "LONGEST_ratios" = some (some (.int 400 tL)))
    (zz_LETTERS : PySem.W.nsIn K mainGlobals "LETTERS" = some (some (.str "abcdefghijklmnopqrstuvwxyz" tA)))
    (zz_LONGEST_names : PySem.W.nsIn K mainGlobals "LONGEST_names" = some (some (.int 12 tN)))
    (zz_LONGEST_lines : PySem.W.nsIn K mainGlobals "LONGEST_lines" = some (some (.int 300 tM)))
    (zz_DIGITS_lines : PySem.W.nsIn K mainGlobals "DIGITS_lines" = some (some (.int 30 tI)))
    (zz_PARENTHESES : PySem.W.nsIn K mainGlobals "PARENTHESES" = some (some (.int 40 tP)))
    (zz_WORDS : PySem.W.nsIn K mainGlobals "WORDS" = some (some (.ref aW)))
    (l_WORDS : K.lookup aW = some ⟨.type "tuple", od_WORDS, .seq #[.str "days" wk0, .str "base" wk1, .str "unit" wk2, .str "device" wk3, .str "feature" wk4, .str "role" wk5, .str "job" wk6, .str "procedure" wk7, .str "takes" wk8, .str "uses" wk9, .str "read" wk10, .str "by" wk11, .str "let" wk12, .str "be" wk13, .str "tell" wk14, .str "in" wk15, .str "judge" wk16, .str "good" wk17, .str "bad" wk18, .str "choose" wk19, .str "passed" wk20, .str "failed" wk21, .str "open" wk22, .str "repeat" wk23, .str "leave" wk24, .str "call" wk25, .str "stop" wk26, .str "end" wk27, .str "size" wk28, .str "offset" wk29, .str "news" wk30, .str "cert" wk31, .str "stand" wk32, .str "jolt" wk33, .str "edition" wk34, .str "strike" wk35, .str "told" wk36, .str "within" wk37, .str "sum" wk38, .str "product" wk39, .str "quotient" wk40, .str "card" wk41, .str "spot" wk42, .str "row" wk43, .str "ground" wk44, .str "nobody" wk45] n_WORDS, sl_WORDS⟩)
    (zz_OPERATORS : PySem.W.nsIn K mainGlobals "OPERATORS" = some (some (.ref aO)))
    (l_OPERATORS : K.lookup aO = some ⟨.type "tuple", od_OPERATORS, .seq #[.str "plus" ok0, .str "minus" ok1, .str "times" ok2, .str "over" ok3] n_OPERATORS, sl_OPERATORS⟩)
    (zz_SIGNS : PySem.W.nsIn K mainGlobals "SIGNS" = some (some (.ref aS)))
    (l_SIGNS : K.lookup aS = some ⟨.type "dict", none, .dict #[⟨hSIGNS0, .str "plus" ktSIGNS0, .str "+" vtSIGNS0⟩, ⟨hSIGNS1, .str "minus" ktSIGNS1, .str "-" vtSIGNS1⟩, ⟨hSIGNS2, .str "times" ktSIGNS2, .str "*" vtSIGNS2⟩, ⟨hSIGNS3, .str "over" ktSIGNS3, .str "/" vtSIGNS3⟩] n_SIGNS, #[]⟩)
    (e_SIGNS0 : hSIGNS0 = PyData.keyHash w.params "plus")
    (e_SIGNS1 : hSIGNS1 = PyData.keyHash w.params "minus")
    (e_SIGNS2 : hSIGNS2 = PyData.keyHash w.params "times")
    (e_SIGNS3 : hSIGNS3 = PyData.keyHash w.params "over")
    (m_SIGNS : (aS == sysModules) = false)
    (v_SIGNS0 : PySem.W.nsIn K aS "plus" = some (some (.str "+" vtSIGNS0)))
    (v_SIGNS1 : PySem.W.nsIn K aS "minus" = some (some (.str "-" vtSIGNS1)))
    (v_SIGNS2 : PySem.W.nsIn K aS "times" = some (some (.str "*" vtSIGNS2)))
    (v_SIGNS3 : PySem.W.nsIn K aS "over" = some (some (.str "/" vtSIGNS3)))
    (zz_SUMS : PySem.W.nsIn K mainGlobals "SUMS" = some (some (.ref aU)))
    (l_SUMS : K.lookup aU = some ⟨.type "dict", none, .dict #[⟨hSUMS0, .str "+" ktSUMS0, .str "plus" vtSUMS0⟩, ⟨hSUMS1, .str "-" ktSUMS1, .str "minus" vtSUMS1⟩] n_SUMS, #[]⟩)
    (e_SUMS0 : hSUMS0 = PyData.keyHash w.params "+")
    (e_SUMS1 : hSUMS1 = PyData.keyHash w.params "-")
    (m_SUMS : (aU == sysModules) = false)
    (v_SUMS0 : PySem.W.nsIn K aU "+" = some (some (.str "plus" vtSUMS0)))
    (v_SUMS1 : PySem.W.nsIn K aU "-" = some (some (.str "minus" vtSUMS1)))
    (zz_PRODUCTS : PySem.W.nsIn K mainGlobals "PRODUCTS" = some (some (.ref aR)))
    (l_PRODUCTS : K.lookup aR = some ⟨.type "dict", none, .dict #[⟨hPRODUCTS0, .str "*" ktPRODUCTS0, .str "times" vtPRODUCTS0⟩, ⟨hPRODUCTS1, .str "/" ktPRODUCTS1, .str "over" vtPRODUCTS1⟩] n_PRODUCTS, #[]⟩)
    (e_PRODUCTS0 : hPRODUCTS0 = PyData.keyHash w.params "*")
    (e_PRODUCTS1 : hPRODUCTS1 = PyData.keyHash w.params "/")
    (m_PRODUCTS : (aR == sysModules) = false)
    (v_PRODUCTS0 : PySem.W.nsIn K aR "*" = some (some (.str "times" vtPRODUCTS0)))
    (v_PRODUCTS1 : PySem.W.nsIn K aR "/" = some (some (.str "over" vtPRODUCTS1)))
    (gg0 : PySem.W.specialIn K (.builtin "object.__class__") "__get__" = some (some (.builtin "getset_descriptor.__get__")))
    (tk0 : PySem.W.takesIn K (.builtin "object.__class__") = some true)
    (a_EllError : PySem.W.nsIn K mainGlobals "EllError" = some (some (.ref C_EllError)))
    (ic_EllError : PySem.W.isClsIn K C_EllError = true)
    (tC_EllError : PySem.W.typeIn K (.ref C_EllError) = some (.type "type"))
    (a_BadRatio : PySem.W.nsIn K mainGlobals "BadRatio" = some (some (.ref C_BadRatio)))
    (x_BadRatio : K.lookup C_BadRatio = some (excClassObj nm_BadRatio q_BadRatio C_BadRatio N_BadRatio bs_BadRatio [.ref C_EllError, .type "ValueError", .type "Exception", .type "BaseException", .type "object"] true sn_BadRatio sub_BadRatio ab_BadRatio col_BadRatio dd_BadRatio m0_BadRatio m1_BadRatio m2_BadRatio m3_BadRatio m5_BadRatio "ValueError.__new__"))
    (sa_BadRatio : PySem.W.findIn K (.ref C_BadRatio) "__setattr__" = some (some (.builtin "object.__setattr__")))
    (ga_BadRatio : PySem.W.findIn K (.ref C_BadRatio) "__getattribute__" = some (some (.builtin "BaseException.__getattribute__")))
    (gt_BadRatio : PySem.W.findIn K (.ref C_BadRatio) "__getattr__" = some none)
    (ca_BadRatio : PySem.W.findIn K (.ref C_BadRatio) "__class__" = some (some (.builtin "object.__class__")))
    (kC_BadRatio : PySem.W.keepIn K (.ref C_BadRatio) = true)
    (eC_BadRatio : PySem.W.subIn K (.ref C_BadRatio) (.type "BaseException") = some true)
    (vC_BadRatio : PySem.W.subIn K (.ref C_BadRatio) (.type "ValueError") = some true)
    (lC_BadRatio : PySem.W.subIn K (.ref C_BadRatio) (.ref C_EllError) = some true)
    (tC_BadRatio : PySem.W.typeIn K (.ref C_BadRatio) = some (.type "type"))
    (hC_BadRatio : PySem.W.hasDictIn K C_BadRatio = true)
    (ic_BadRatio : PySem.W.isClsIn K C_BadRatio = true)
    (mo_BadRatio : PySem.W.mroIn K C_BadRatio (.type "object") = some true)
    (no_BadRatio_text : PySem.W.findIn K (.ref C_BadRatio) "text" = some none)
    (a1 : PySem.W.findIn K (.ref C_BadRatio) "__init__" = some (some (.ref f1)))
    (t1 : PySem.W.typeIn K (.ref f1) = some (.type "function"))
    (l1 : K.lookup f1 = some ⟨oc1, od1, .func (PySem.W.fnOf "__init__" "BadRatio.__init__" (defArgs s_BadRatioD_initD) (defBody s_BadRatioD_initD) (defScope s_BadRatioD_initD) .none kV1 dc1 pm1 an1 cd1 ct1), sl1⟩)
    (c1 : PySem.W.codeIn K cd1 "BadRatio.__init__" = true)
    (k1 : PySem.W.keepIn K (.ref f1) = true)
    (a_BadLine : PySem.W.nsIn K mainGlobals "BadLine" = some (some (.ref C_BadLine)))
    (x_BadLine : K.lookup C_BadLine = some (excClassObj nm_BadLine q_BadLine C_BadLine N_BadLine bs_BadLine [.ref C_EllError, .type "ValueError", .type "Exception", .type "BaseException", .type "object"] true sn_BadLine sub_BadLine ab_BadLine col_BadLine dd_BadLine m0_BadLine m1_BadLine m2_BadLine m3_BadLine m5_BadLine "ValueError.__new__"))
    (sa_BadLine : PySem.W.findIn K (.ref C_BadLine) "__setattr__" = some (some (.builtin "object.__setattr__")))
    (ga_BadLine : PySem.W.findIn K (.ref C_BadLine) "__getattribute__" = some (some (.builtin "BaseException.__getattribute__")))
    (gt_BadLine : PySem.W.findIn K (.ref C_BadLine) "__getattr__" = some none)
    (ca_BadLine : PySem.W.findIn K (.ref C_BadLine) "__class__" = some (some (.builtin "object.__class__")))
    (kC_BadLine : PySem.W.keepIn K (.ref C_BadLine) = true)
    (eC_BadLine : PySem.W.subIn K (.ref C_BadLine) (.type "BaseException") = some true)
    (vC_BadLine : PySem.W.subIn K (.ref C_BadLine) (.type "ValueError") = some true)
    (lC_BadLine : PySem.W.subIn K (.ref C_BadLine) (.ref C_EllError) = some true)
    (tC_BadLine : PySem.W.typeIn K (.ref C_BadLine) = some (.type "type"))
    (hC_BadLine : PySem.W.hasDictIn K C_BadLine = true)
    (ic_BadLine : PySem.W.isClsIn K C_BadLine = true)
    (mo_BadLine : PySem.W.mroIn K C_BadLine (.type "object") = some true)
    (no_BadLine_line : PySem.W.findIn K (.ref C_BadLine) "line" = some none)
    (no_BadLine_word : PySem.W.findIn K (.ref C_BadLine) "word" = some none)
    (a2 : PySem.W.findIn K (.ref C_BadLine) "__init__" = some (some (.ref f2)))
    (t2 : PySem.W.typeIn K (.ref f2) = some (.type "function"))
    (l2 : K.lookup f2 = some ⟨oc2, od2, .func (PySem.W.fnOf "__init__" "BadLine.__init__" (defArgs s_BadLineD_initD) (defBody s_BadLineD_initD) (defScope s_BadLineD_initD) .none kV2 dc2 pm2 an2 cd2 ct2), sl2⟩)
    (c2 : PySem.W.codeIn K cd2 "BadLine.__init__" = true)
    (k2 : PySem.W.keepIn K (.ref f2) = true)
    (s_BadLine_BadRatio : PySem.W.subIn K (.ref C_BadLine) (.ref C_BadRatio) = some false)
    (ne_BadLine_BadRatio : C_BadLine ≠ C_BadRatio)
    (s_BadLine_BadLine : PySem.W.subIn K (.ref C_BadLine) (.ref C_BadLine) = some true)
    (s_BadRatio_BadRatio : PySem.W.subIn K (.ref C_BadRatio) (.ref C_BadRatio) = some true)
    (a_Reader : PySem.W.nsIn K mainGlobals "Reader" = some (some (.ref C_Reader)))
    (pg : PySem.W.plainGet K C_Reader Str.empty = true)
    (hd : PySem.W.hasDictIn K C_Reader = true)
    (po : PySem.W.plainOver K C_Reader = true)
    (sa : PySem.W.findIn K (.ref C_Reader) "__setattr__" = some (some (.builtin "object.__setattr__")))
    (nR : PySem.W.findIn K (.ref C_Reader) "_rows" = some none)
    (nL : PySem.W.findIn K (.ref C_Reader) "_line" = some none)
    (nW : PySem.W.findIn K (.ref C_Reader) "_word" = some none)
    (mk : PySem.W.makesIn K C_Reader = true)
    (kc : PySem.W.keepIn K (.ref C_Reader) = true)
    (a3 : PySem.W.findIn K (.ref C_Reader) "__init__" = some (some (.ref f3)))
    (i3 : PySem.W.isFn K (.ref f3) = true)
    (l3 : K.lookup f3 = some ⟨oc3, od3, .func (PySem.W.fnOf "__init__" "Reader.__init__" (defArgs s_ReaderD_initD) (defBody s_ReaderD_initD) (defScope s_ReaderD_initD) .none kV3 dc3 pm3 an3 cd3 ct3), sl3⟩)
    (c3 : PySem.W.codeIn K cd3 "Reader.__init__" = true)
    (k3 : PySem.W.keepIn K (.ref f3) = true)
    (a4 : PySem.W.findIn K (.ref C_Reader) "peek" = some (some (.ref f4)))
    (i4 : PySem.W.isFn K (.ref f4) = true)
    (l4 : K.lookup f4 = some ⟨oc4, od4, .func (PySem.W.fnOf "peek" "Reader.peek" (defArgs s_Reader_peek) (defBody s_Reader_peek) (defScope s_Reader_peek) .none kV4 dc4 pm4 an4 cd4 ct4), sl4⟩)
    (c4 : PySem.W.codeIn K cd4 "Reader.peek" = true)
    (k4 : PySem.W.keepIn K (.ref f4) = true)
    (a5 : PySem.W.findIn K (.ref C_Reader) "take" = some (some (.ref f5)))
    (i5 : PySem.W.isFn K (.ref f5) = true)
    (l5 : K.lookup f5 = some ⟨oc5, od5, .func (PySem.W.fnOf "take" "Reader.take" (defArgs s_Reader_take) (defBody s_Reader_take) (defScope s_Reader_take) .none kV5 dc5 pm5 an5 cd5 ct5), sl5⟩)
    (c5 : PySem.W.codeIn K cd5 "Reader.take" = true)
    (k5 : PySem.W.keepIn K (.ref f5) = true)
    (a6 : PySem.W.findIn K (.ref C_Reader) "refuse" = some (some (.ref f6)))
    (i6 : PySem.W.isFn K (.ref f6) = true)
    (l6 : K.lookup f6 = some ⟨oc6, od6, .func (PySem.W.fnOf "refuse" "Reader.refuse" (defArgs s_Reader_refuse) (defBody s_Reader_refuse) (defScope s_Reader_refuse) .none kV6 dc6 pm6 an6 cd6 ct6), sl6⟩)
    (c6 : PySem.W.codeIn K cd6 "Reader.refuse" = true)
    (k6 : PySem.W.keepIn K (.ref f6) = true)
    (a7 : PySem.W.findIn K (.ref C_Reader) "take_text" = some (some (.ref f7)))
    (i7 : PySem.W.isFn K (.ref f7) = true)
    (l7 : K.lookup f7 = some ⟨oc7, od7, .func (PySem.W.fnOf "take_text" "Reader.take_text" (defArgs s_Reader_take_text) (defBody s_Reader_take_text) (defScope s_Reader_take_text) .none kV7 dc7 pm7 an7 cd7 ct7), sl7⟩)
    (c7 : PySem.W.codeIn K cd7 "Reader.take_text" = true)
    (k7 : PySem.W.keepIn K (.ref f7) = true)
    (a8 : PySem.W.findIn K (.ref C_Reader) "take_integer" = some (some (.ref f8)))
    (i8 : PySem.W.isFn K (.ref f8) = true)
    (l8 : K.lookup f8 = some ⟨oc8, od8, .func (PySem.W.fnOf "take_integer" "Reader.take_integer" (defArgs s_Reader_take_integer) (defBody s_Reader_take_integer) (defScope s_Reader_take_integer) .none kV8 dc8 pm8 an8 cd8 ct8), sl8⟩)
    (c8 : PySem.W.codeIn K cd8 "Reader.take_integer" = true)
    (k8 : PySem.W.keepIn K (.ref f8) = true)
    (a9 : PySem.W.findIn K (.ref C_Reader) "has_ratio" = some (some (.ref f9)))
    (i9 : PySem.W.isFn K (.ref f9) = true)
    (l9 : K.lookup f9 = some ⟨oc9, od9, .func (PySem.W.fnOf "has_ratio" "Reader.has_ratio" (defArgs s_Reader_has_ratio) (defBody s_Reader_has_ratio) (defScope s_Reader_has_ratio) .none kV9 dc9 pm9 an9 cd9 ct9), sl9⟩)
    (c9 : PySem.W.codeIn K cd9 "Reader.has_ratio" = true)
    (k9 : PySem.W.keepIn K (.ref f9) = true)
    (a10 : PySem.W.findIn K (.ref C_Reader) "take_ratio" = some (some (.ref f10)))
    (i10 : PySem.W.isFn K (.ref f10) = true)
    (l10 : K.lookup f10 = some ⟨oc10, od10, .func (PySem.W.fnOf "take_ratio" "Reader.take_ratio" (defArgs s_Reader_take_ratio) (defBody s_Reader_take_ratio) (defScope s_Reader_take_ratio) .none kV10 dc10 pm10 an10 cd10 ct10), sl10⟩)
    (c10 : PySem.W.codeIn K cd10 "Reader.take_ratio" = true)
    (k10 : PySem.W.keepIn K (.ref f10) = true)
    (a11 : PySem.W.findIn K (.ref C_Reader) "end_line" = some (some (.ref f11)))
    (i11 : PySem.W.isFn K (.ref f11) = true)
    (l11 : K.lookup f11 = some ⟨oc11, od11, .func (PySem.W.fnOf "end_line" "Reader.end_line" (defArgs s_Reader_end_line) (defBody s_Reader_end_line) (defScope s_Reader_end_line) .none kV11 dc11 pm11 an11 cd11 ct11), sl11⟩)
    (c11 : PySem.W.codeIn K cd11 "Reader.end_line" = true)
    (k11 : PySem.W.keepIn K (.ref f11) = true)
    (a12 : PySem.W.findIn K (.ref C_Reader) "take_word" = some (some (.ref f12)))
    (i12 : PySem.W.isFn K (.ref f12) = true)
    (l12 : K.lookup f12 = some ⟨oc12, od12, .func (PySem.W.fnOf "take_word" "Reader.take_word" (defArgs s_Reader_take_word) (defBody s_Reader_take_word) (defScope s_Reader_take_word) .none kV12 dc12 pm12 an12 cd12 ct12), sl12⟩)
    (c12 : PySem.W.codeIn K cd12 "Reader.take_word" = true)
    (k12 : PySem.W.keepIn K (.ref f12) = true)
    (a13 : PySem.W.findIn K (.ref C_Reader) "take_name" = some (some (.ref f13)))
    (i13 : PySem.W.isFn K (.ref f13) = true)
    (l13 : K.lookup f13 = some ⟨oc13, od13, .func (PySem.W.fnOf "take_name" "Reader.take_name" (defArgs s_Reader_take_name) (defBody s_Reader_take_name) (defScope s_Reader_take_name) .none kV13 dc13 pm13 an13 cd13 ct13), sl13⟩)
    (c13 : PySem.W.codeIn K cd13 "Reader.take_name" = true)
    (k13 : PySem.W.keepIn K (.ref f13) = true)
    (a14 : PySem.W.nsIn K mainGlobals "_wall" = some (some (.ref f14)))
    (l14 : K.lookup f14 = some ⟨oc14, od14, .func (PySem.W.fnOf "_wall" "_wall" (defArgs s__wall) (defBody s__wall) (defScope s__wall) .none kV14 dc14 pm14 an14 cd14 ct14), sl14⟩)
    (c14 : PySem.W.codeIn K cd14 "_wall" = true)
    (k14 : PySem.W.keepIn K (.ref f14) = true)
    (a15 : PySem.W.nsIn K mainGlobals "is_integer" = some (some (.ref f15)))
    (l15 : K.lookup f15 = some ⟨oc15, od15, .func (PySem.W.fnOf "is_integer" "is_integer" (defArgs s_is_integer) (defBody s_is_integer) (defScope s_is_integer) .none kV15 dc15 pm15 an15 cd15 ct15), sl15⟩)
    (c15 : PySem.W.codeIn K cd15 "is_integer" = true)
    (k15 : PySem.W.keepIn K (.ref f15) = true)
    (a16 : PySem.W.nsIn K mainGlobals "is_tuple_of" = some (some (.ref f16)))
    (l16 : K.lookup f16 = some ⟨oc16, od16, .func (PySem.W.fnOf "is_tuple_of" "is_tuple_of" (defArgs s_is_tuple_of) (defBody s_is_tuple_of) (defScope s_is_tuple_of) .none kV16 dc16 pm16 an16 cd16 ct16), sl16⟩)
    (c16 : PySem.W.codeIn K cd16 "is_tuple_of" = true)
    (k16 : PySem.W.keepIn K (.ref f16) = true)
    (a17 : PySem.W.nsIn K mainGlobals "is_ratio" = some (some (.ref f17)))
    (l17 : K.lookup f17 = some ⟨oc17, od17, .func (PySem.W.fnOf "is_ratio" "is_ratio" (defArgs s_is_ratio) (defBody s_is_ratio) (defScope s_is_ratio) .none kV17 dc17 pm17 an17 cd17 ct17), sl17⟩)
    (c17 : PySem.W.codeIn K cd17 "is_ratio" = true)
    (k17 : PySem.W.keepIn K (.ref f17) = true)
    (a18 : PySem.W.nsIn K mainGlobals "write_ratio" = some (some (.ref f18)))
    (l18 : K.lookup f18 = some ⟨oc18, od18, .func (PySem.W.fnOf "write_ratio" "write_ratio" (defArgs s_write_ratio) (defBody s_write_ratio) (defScope s_write_ratio) .none kV18 dc18 pm18 an18 cd18 ct18), sl18⟩)
    (c18 : PySem.W.codeIn K cd18 "write_ratio" = true)
    (k18 : PySem.W.keepIn K (.ref f18) = true)
    (a19 : PySem.W.nsIn K mainGlobals "read_ratio" = some (some (.ref f19)))
    (l19 : K.lookup f19 = some ⟨oc19, od19, .func (PySem.W.fnOf "read_ratio" "read_ratio" (defArgs s_read_ratio) (defBody s_read_ratio) (defScope s_read_ratio) .none kV19 dc19 pm19 an19 cd19 ct19), sl19⟩)
    (c19 : PySem.W.codeIn K cd19 "read_ratio" = true)
    (k19 : PySem.W.keepIn K (.ref f19) = true)
    (a20 : PySem.W.nsIn K mainGlobals "is_whole" = some (some (.ref f20)))
    (l20 : K.lookup f20 = some ⟨oc20, od20, .func (PySem.W.fnOf "is_whole" "is_whole" (defArgs s_is_whole) (defBody s_is_whole) (defScope s_is_whole) .none kV20 dc20 pm20 an20 cd20 ct20), sl20⟩)
    (c20 : PySem.W.codeIn K cd20 "is_whole" = true)
    (k20 : PySem.W.keepIn K (.ref f20) = true)
    (a21 : PySem.W.nsIn K mainGlobals "_is_divisor" = some (some (.ref f21)))
    (l21 : K.lookup f21 = some ⟨oc21, od21, .func (PySem.W.fnOf "_is_divisor" "_is_divisor" (defArgs s__is_divisor) (defBody s__is_divisor) (defScope s__is_divisor) .none kV21 dc21 pm21 an21 cd21 ct21), sl21⟩)
    (c21 : PySem.W.codeIn K cd21 "_is_divisor" = true)
    (k21 : PySem.W.keepIn K (.ref f21) = true)
    (a22 : PySem.W.nsIn K mainGlobals "_is_digits" = some (some (.ref f22)))
    (l22 : K.lookup f22 = some ⟨oc22, od22, .func (PySem.W.fnOf "_is_digits" "_is_digits" (defArgs s__is_digits) (defBody s__is_digits) (defScope s__is_digits) .none kV22 dc22 pm22 an22 cd22 ct22), sl22⟩)
    (c22 : PySem.W.codeIn K cd22 "_is_digits" = true)
    (k22 : PySem.W.keepIn K (.ref f22) = true)
    (a23 : PySem.W.nsIn K mainGlobals "write_expression" = some (some (.ref f23)))
    (l23 : K.lookup f23 = some ⟨oc23, od23, .func (PySem.W.fnOf "write_expression" "write_expression" (defArgs s_write_expression) (defBody s_write_expression) (defScope s_write_expression) .none kV23 dc23 pm23 an23 cd23 ct23), sl23⟩)
    (c23 : PySem.W.codeIn K cd23 "write_expression" = true)
    (k23 : PySem.W.keepIn K (.ref f23) = true)
    (a24 : PySem.W.nsIn K mainGlobals "_part" = some (some (.ref f24)))
    (l24 : K.lookup f24 = some ⟨oc24, od24, .func (PySem.W.fnOf "_part" "_part" (defArgs s__part) (defBody s__part) (defScope s__part) .none kV24 dc24 pm24 an24 cd24 ct24), sl24⟩)
    (c24 : PySem.W.codeIn K cd24 "_part" = true)
    (k24 : PySem.W.keepIn K (.ref f24) = true)
    (a25 : PySem.W.nsIn K mainGlobals "_tightness" = some (some (.ref f25)))
    (l25 : K.lookup f25 = some ⟨oc25, od25, .func (PySem.W.fnOf "_tightness" "_tightness" (defArgs s__tightness) (defBody s__tightness) (defScope s__tightness) .none kV25 dc25 pm25 an25 cd25 ct25), sl25⟩)
    (c25 : PySem.W.codeIn K cd25 "_tightness" = true)
    (k25 : PySem.W.keepIn K (.ref f25) = true)
    (a26 : PySem.W.nsIn K mainGlobals "is_name" = some (some (.ref f26)))
    (l26 : K.lookup f26 = some ⟨oc26, od26, .func (PySem.W.fnOf "is_name" "is_name" (defArgs s_is_name) (defBody s_is_name) (defScope s_is_name) .none kV26 dc26 pm26 an26 cd26 ct26), sl26⟩)
    (c26 : PySem.W.codeIn K cd26 "is_name" = true)
    (k26 : PySem.W.keepIn K (.ref f26) = true)
    (a27 : PySem.W.nsIn K mainGlobals "_take_product" = some (some (.ref f27)))
    (l27 : K.lookup f27 = some ⟨oc27, od27, .func (PySem.W.fnOf "_take_product" "_take_product" (defArgs s__take_product) (defBody s__take_product) (defScope s__take_product) .none kV27 dc27 pm27 an27 cd27 ct27), sl27⟩)
    (c27 : PySem.W.codeIn K cd27 "_take_product" = true)
    (k27 : PySem.W.keepIn K (.ref f27) = true)
    (a28 : PySem.W.nsIn K mainGlobals "_take_part" = some (some (.ref f28)))
    (l28 : K.lookup f28 = some ⟨oc28, od28, .func (PySem.W.fnOf "_take_part" "_take_part" (defArgs s__take_part) (defBody s__take_part) (defScope s__take_part) .none kV28 dc28 pm28 an28 cd28 ct28), sl28⟩)
    (c28 : PySem.W.codeIn K cd28 "_take_part" = true)
    (k28 : PySem.W.keepIn K (.ref f28) = true)
    (a29 : PySem.W.nsIn K mainGlobals "read_expression" = some (some (.ref f29)))
    (l29 : K.lookup f29 = some ⟨oc29, od29, .func (PySem.W.fnOf "read_expression" "read_expression" (defArgs s_read_expression) (defBody s_read_expression) (defScope s_read_expression) .none kV29 dc29 pm29 an29 cd29 ct29), sl29⟩)
    (c29 : PySem.W.codeIn K cd29 "read_expression" = true)
    (k29 : PySem.W.keepIn K (.ref f29) = true)
    (a30 : PySem.W.nsIn K mainGlobals "_law_bag_of" = some (some (.ref f30)))
    (l30 : K.lookup f30 = some ⟨oc30, od30, .func (PySem.W.fnOf "_law_bag_of" "_law_bag_of" (defArgs s__law_bag_of) (defBody s__law_bag_of) (defScope s__law_bag_of) .none kV30 dc30 pm30 an30 cd30 ct30), sl30⟩)
    (c30 : PySem.W.codeIn K cd30 "_law_bag_of" = true)
    (k30 : PySem.W.keepIn K (.ref f30) = true)
    (a31 : PySem.W.nsIn K mainGlobals "_law_pick" = some (some (.ref f31)))
    (l31 : K.lookup f31 = some ⟨oc31, od31, .func (PySem.W.fnOf "_law_pick" "_law_pick" (defArgs s__law_pick) (defBody s__law_pick) (defScope s__law_pick) .none kV31 dc31 pm31 an31 cd31 ct31), sl31⟩)
    (c31 : PySem.W.codeIn K cd31 "_law_pick" = true)
    (k31 : PySem.W.keepIn K (.ref f31) = true)
    (a32 : PySem.W.nsIn K mainGlobals "_law_choice" = some (some (.ref f32)))
    (l32 : K.lookup f32 = some ⟨oc32, od32, .func (PySem.W.fnOf "_law_choice" "_law_choice" (defArgs s__law_choice) (defBody s__law_choice) (defScope s__law_choice) .none kV32 dc32 pm32 an32 cd32 ct32), sl32⟩)
    (c32 : PySem.W.codeIn K cd32 "_law_choice" = true)
    (k32 : PySem.W.keepIn K (.ref f32) = true)
    (a33 : PySem.W.nsIn K mainGlobals "_law_one_in" = some (some (.ref f33)))
    (l33 : K.lookup f33 = some ⟨oc33, od33, .func (PySem.W.fnOf "_law_one_in" "_law_one_in" (defArgs s__law_one_in) (defBody s__law_one_in) (defScope s__law_one_in) .none kV33 dc33 pm33 an33 cd33 ct33), sl33⟩)
    (c33 : PySem.W.codeIn K cd33 "_law_one_in" = true)
    (k33 : PySem.W.keepIn K (.ref f33) = true)
    (a34 : PySem.W.nsIn K mainGlobals "_law_integer" = some (some (.ref f34)))
    (l34 : K.lookup f34 = some ⟨oc34, od34, .func (PySem.W.fnOf "_law_integer" "_law_integer" (defArgs s__law_integer) (defBody s__law_integer) (defScope s__law_integer) .none kV34 dc34 pm34 an34 cd34 ct34), sl34⟩)
    (c34 : PySem.W.codeIn K cd34 "_law_integer" = true)
    (k34 : PySem.W.keepIn K (.ref f34) = true)
    (a35 : PySem.W.nsIn K mainGlobals "_law_letters_of" = some (some (.ref f35)))
    (l35 : K.lookup f35 = some ⟨oc35, od35, .func (PySem.W.fnOf "_law_letters_of" "_law_letters_of" (defArgs s__law_letters_of) (defBody s__law_letters_of) (defScope s__law_letters_of) .none kV35 dc35 pm35 an35 cd35 ct35), sl35⟩)
    (c35 : PySem.W.codeIn K cd35 "_law_letters_of" = true)
    (k35 : PySem.W.keepIn K (.ref f35) = true)
    (a36 : PySem.W.nsIn K mainGlobals "_law_words_of" = some (some (.ref f36)))
    (l36 : K.lookup f36 = some ⟨oc36, od36, .func (PySem.W.fnOf "_law_words_of" "_law_words_of" (defArgs s__law_words_of) (defBody s__law_words_of) (defScope s__law_words_of) .none kV36 dc36 pm36 an36 cd36 ct36), sl36⟩)
    (c36 : PySem.W.codeIn K cd36 "_law_words_of" = true)
    (k36 : PySem.W.keepIn K (.ref f36) = true)
    (a37 : PySem.W.nsIn K mainGlobals "_law_names_of" = some (some (.ref f37)))
    (l37 : K.lookup f37 = some ⟨oc37, od37, .func (PySem.W.fnOf "_law_names_of" "_law_names_of" (defArgs s__law_names_of) (defBody s__law_names_of) (defScope s__law_names_of) .none kV37 dc37 pm37 an37 cd37 ct37), sl37⟩)
    (c37 : PySem.W.codeIn K cd37 "_law_names_of" = true)
    (k37 : PySem.W.keepIn K (.ref f37) = true)
    (a38 : PySem.W.nsIn K mainGlobals "_law_gcd" = some (some (.ref f38)))
    (l38 : K.lookup f38 = some ⟨oc38, od38, .func (PySem.W.fnOf "_law_gcd" "_law_gcd" (defArgs s__law_gcd) (defBody s__law_gcd) (defScope s__law_gcd) .none kV38 dc38 pm38 an38 cd38 ct38), sl38⟩)
    (c38 : PySem.W.codeIn K cd38 "_law_gcd" = true)
    (k38 : PySem.W.keepIn K (.ref f38) = true)
    (a39 : PySem.W.nsIn K mainGlobals "_law_ratio" = some (some (.ref f39)))
    (l39 : K.lookup f39 = some ⟨oc39, od39, .func (PySem.W.fnOf "_law_ratio" "_law_ratio" (defArgs s__law_ratio) (defBody s__law_ratio) (defScope s__law_ratio) .none kV39 dc39 pm39 an39 cd39 ct39), sl39⟩)
    (c39 : PySem.W.codeIn K cd39 "_law_ratio" = true)
    (k39 : PySem.W.keepIn K (.ref f39) = true)
    (a40 : PySem.W.nsIn K mainGlobals "_law_number_of" = some (some (.ref f40)))
    (l40 : K.lookup f40 = some ⟨oc40, od40, .func (PySem.W.fnOf "_law_number_of" "_law_number_of" (defArgs s__law_number_of) (defBody s__law_number_of) (defScope s__law_number_of) .none kV40 dc40 pm40 an40 cd40 ct40), sl40⟩)
    (c40 : PySem.W.codeIn K cd40 "_law_number_of" = true)
    (k40 : PySem.W.keepIn K (.ref f40) = true)
    (a41 : PySem.W.nsIn K mainGlobals "_law_unit_word" = some (some (.ref f41)))
    (l41 : K.lookup f41 = some ⟨oc41, od41, .func (PySem.W.fnOf "_law_unit_word" "_law_unit_word" (defArgs s__law_unit_word) (defBody s__law_unit_word) (defScope s__law_unit_word) .none kV41 dc41 pm41 an41 cd41 ct41), sl41⟩)
    (c41 : PySem.W.codeIn K cd41 "_law_unit_word" = true)
    (k41 : PySem.W.keepIn K (.ref f41) = true)
    (a42 : PySem.W.nsIn K mainGlobals "_law_leaf" = some (some (.ref f42)))
    (l42 : K.lookup f42 = some ⟨oc42, od42, .func (PySem.W.fnOf "_law_leaf" "_law_leaf" (defArgs s__law_leaf) (defBody s__law_leaf) (defScope s__law_leaf) .none kV42 dc42 pm42 an42 cd42 ct42), sl42⟩)
    (c42 : PySem.W.codeIn K cd42 "_law_leaf" = true)
    (k42 : PySem.W.keepIn K (.ref f42) = true)
    (a43 : PySem.W.nsIn K mainGlobals "_law_tree_of" = some (some (.ref f43)))
    (l43 : K.lookup f43 = some ⟨oc43, od43, .func (PySem.W.fnOf "_law_tree_of" "_law_tree_of" (defArgs s__law_tree_of) (defBody s__law_tree_of) (defScope s__law_tree_of) .none kV43 dc43 pm43 an43 cd43 ct43), sl43⟩)
    (c43 : PySem.W.codeIn K cd43 "_law_tree_of" = true)
    (k43 : PySem.W.keepIn K (.ref f43) = true)
    (a44 : PySem.W.nsIn K mainGlobals "_law_rank_of" = some (some (.ref f44)))
    (l44 : K.lookup f44 = some ⟨oc44, od44, .func (PySem.W.fnOf "_law_rank_of" "_law_rank_of" (defArgs s__law_rank_of) (defBody s__law_rank_of) (defScope s__law_rank_of) .none kV44 dc44 pm44 an44 cd44 ct44), sl44⟩)
    (c44 : PySem.W.codeIn K cd44 "_law_rank_of" = true)
    (k44 : PySem.W.keepIn K (.ref f44) = true)
    (a45 : PySem.W.nsIn K mainGlobals "_law_leaf_text" = some (some (.ref f45)))
    (l45 : K.lookup f45 = some ⟨oc45, od45, .func (PySem.W.fnOf "_law_leaf_text" "_law_leaf_text" (defArgs s__law_leaf_text) (defBody s__law_leaf_text) (defScope s__law_leaf_text) .none kV45 dc45 pm45 an45 cd45 ct45), sl45⟩)
    (c45 : PySem.W.codeIn K cd45 "_law_leaf_text" = true)
    (k45 : PySem.W.keepIn K (.ref f45) = true)
    (a46 : PySem.W.nsIn K mainGlobals "_law_text_of" = some (some (.ref f46)))
    (l46 : K.lookup f46 = some ⟨oc46, od46, .func (PySem.W.fnOf "_law_text_of" "_law_text_of" (defArgs s__law_text_of) (defBody s__law_text_of) (defScope s__law_text_of) .none kV46 dc46 pm46 an46 cd46 ct46), sl46⟩)
    (c46 : PySem.W.codeIn K cd46 "_law_text_of" = true)
    (k46 : PySem.W.keepIn K (.ref f46) = true)
    (a47 : PySem.W.nsIn K mainGlobals "_law_depth_of" = some (some (.ref f47)))
    (l47 : K.lookup f47 = some ⟨oc47, od47, .func (PySem.W.fnOf "_law_depth_of" "_law_depth_of" (defArgs s__law_depth_of) (defBody s__law_depth_of) (defScope s__law_depth_of) .none kV47 dc47 pm47 an47 cd47 ct47), sl47⟩)
    (c47 : PySem.W.codeIn K cd47 "_law_depth_of" = true)
    (k47 : PySem.W.keepIn K (.ref f47) = true)
    (a48 : PySem.W.nsIn K mainGlobals "_law_same" = some (some (.ref f48)))
    (l48 : K.lookup f48 = some ⟨oc48, od48, .func (PySem.W.fnOf "_law_same" "_law_same" (defArgs s__law_same) (defBody s__law_same) (defScope s__law_same) .none kV48 dc48 pm48 an48 cd48 ct48), sl48⟩)
    (c48 : PySem.W.codeIn K cd48 "_law_same" = true)
    (k48 : PySem.W.keepIn K (.ref f48) = true)
    (a49 : PySem.W.nsIn K mainGlobals "_law_refused" = some (some (.ref f49)))
    (l49 : K.lookup f49 = some ⟨oc49, od49, .func (PySem.W.fnOf "_law_refused" "_law_refused" (defArgs s__law_refused) (defBody s__law_refused) (defScope s__law_refused) .none kV49 dc49 pm49 an49 cd49 ct49), sl49⟩)
    (c49 : PySem.W.codeIn K cd49 "_law_refused" = true)
    (k49 : PySem.W.keepIn K (.ref f49) = true)
    (a50 : PySem.W.nsIn K mainGlobals "_law_spoilt_of" = some (some (.ref f50)))
    (l50 : K.lookup f50 = some ⟨oc50, od50, .func (PySem.W.fnOf "_law_spoilt_of" "_law_spoilt_of" (defArgs s__law_spoilt_of) (defBody s__law_spoilt_of) (defScope s__law_spoilt_of) .none kV50 dc50 pm50 an50 cd50 ct50), sl50⟩)
    (c50 : PySem.W.codeIn K cd50 "_law_spoilt_of" = true)
    (k50 : PySem.W.keepIn K (.ref f50) = true)
    (a51 : PySem.W.nsIn K mainGlobals "take_expression" = some (some (.ref f51)))
    (l51 : K.lookup f51 = some ⟨oc51, od51, .func (PySem.W.fnOf "take_expression" "take_expression" (defArgs s_take_expression) (defBody s_take_expression) (defScope s_take_expression) (.ref TT) kV51 dc51 pm51 an51 cd51 ct51), sl51⟩)
    (lT : K.lookup TT = some ⟨ocT, odT, .seq #[.int 0 tE] nD0, slT⟩)
    (c51 : PySem.W.codeIn K cd51 "take_expression" = true)
    (k51 : PySem.W.keepIn K (.ref f51) = true)
    (a52 : PySem.W.nsIn K mainGlobals "law" = some (some (.ref f52)))
    (l52 : K.lookup f52 = some ⟨oc52, od52, .func (PySem.W.fnOf "law" "law" (defArgs s_law) (defBody s_law) (defScope s_law) .none kV52 dc52 pm52 an52 cd52 ct52), sl52⟩)
    (c52 : PySem.W.codeIn K cd52 "law" = true)
    (k52 : PySem.W.keepIn K (.ref f52) = true) :
    ∃ fd : FuncData, (∀ (s : Shared) (v : Value), BindsTo s fd ⟨[v], []⟩ [("_law_script", v)]) ∧ ∀ base : Heap, K.In base → base.Ns mainGlobals mg → FnG P w K mg base 136 fa fd ["_law_script"] (sp_law K) := by
  have e := hfa.symm.trans (PySem.W.mg_of X G a52)
  cases e
  have T : Txt K mg w ⟨C_Reader, C_BadRatio, C_BadLine, C_EllError, tD, tL, tN, tM, tI, tP, tA, aW, aO, aS, aU, aR⟩ :=
    { n_isinstance := PySem.W.mg_none_of X G z_isinstance,
      n_int := PySem.W.mg_none_of X G z_int,
      n_bool := PySem.W.mg_none_of X G z_bool,
      n_tuple := PySem.W.mg_none_of X G z_tuple,
      n_str := PySem.W.mg_none_of X G z_str,
      n_len := PySem.W.mg_none_of X G z_len,
      n_all := PySem.W.mg_none_of X G z_all,
      n_abs := PySem.W.mg_none_of X G z_abs,
      n_min := PySem.W.mg_none_of X G z_min,
      n_max := PySem.W.mg_none_of X G z_max,
      n_range := PySem.W.mg_none_of X G z_range,
      n_ValueError := PySem.W.mg_none_of X G z_ValueError,
      gcd := PySem.W.mg_of X G zgcd,
      k_DIGITS_ratios := PySem.W.mg_of X G zz_DIGITS_ratios,
      k_LONGEST_ratios := PySem.W.mg_of X G zz_LONGEST_ratios,
      k_LETTERS := PySem.W.mg_of X G zz_LETTERS,
      k_LONGEST_names := PySem.W.mg_of X G zz_LONGEST_names,
      k_LONGEST_lines := PySem.W.mg_of X G zz_LONGEST_lines,
      k_DIGITS_lines := PySem.W.mg_of X G zz_DIGITS_lines,
      k_PARENTHESES := PySem.W.mg_of X G zz_PARENTHESES,
      k_WORDS := PySem.W.mg_of X G zz_WORDS,
      t_WORDS := WORDS_at l_WORDS,
      k_OPERATORS := PySem.W.mg_of X G zz_OPERATORS,
      t_OPERATORS := OPERATORS_at l_OPERATORS,
      k_SIGNS := PySem.W.mg_of X G zz_SIGNS,
      tb_SIGNS := tb_at l_SIGNS m_SIGNS (by rw [e_SIGNS0, e_SIGNS1, e_SIGNS2, e_SIGNS3]; rfl),
      v_SIGNS := fun p hp => by
        simp only [List.mem_cons, List.not_mem_nil, or_false] at hp
        rcases hp with rfl | rfl | rfl | rfl
        · exact ⟨_, v_SIGNS0⟩
        · exact ⟨_, v_SIGNS1⟩
        · exact ⟨_, v_SIGNS2⟩
        · exact ⟨_, v_SIGNS3⟩,
      k_SUMS := PySem.W.mg_of X G zz_SUMS,
      tb_SUMS := tb_at l_SUMS m_SUMS (by rw [e_SUMS0, e_SUMS1]; rfl),
      v_SUMS := fun p hp => by
        simp only [List.mem_cons, List.not_mem_nil, or_false] at hp
        rcases hp with rfl | rfl
        · exact ⟨_, v_SUMS0⟩
        · exact ⟨_, v_SUMS1⟩,
      k_PRODUCTS := PySem.W.mg_of X G zz_PRODUCTS,
      tb_PRODUCTS := tb_at l_PRODUCTS m_PRODUCTS (by rw [e_PRODUCTS0, e_PRODUCTS1]; rfl),
      v_PRODUCTS := fun p hp => by
        simp only [List.mem_cons, List.not_mem_nil, or_false] at hp
        rcases hp with rfl | rfl
        · exact ⟨_, v_PRODUCTS0⟩
        · exact ⟨_, v_PRODUCTS1⟩,
      g_EllError := PySem.W.mg_of X G a_EllError,
      g_BadRatio := PySem.W.mg_of X G a_BadRatio,
      no_BadRatio_text := no_BadRatio_text,
      i_BadRatio := ⟨_, _, a1, t1, (fun_mk (st := s_BadRatioD_initD) l1 c1 k1), ((fun_mk (st := s_BadRatioD_initD) l1 c1 k1).binds (ps := P_BadRatioD_initD) fun _ _ _ _ _ _ us hl => match us, hl with | [_, _], _ => rfl)⟩,
      ox_BadRatio := ⟨⟨nm_BadRatio, q_BadRatio, N_BadRatio, bs_BadRatio, _, sn_BadRatio, sub_BadRatio, ab_BadRatio, col_BadRatio, dd_BadRatio, m0_BadRatio, m1_BadRatio, m2_BadRatio, m3_BadRatio, m5_BadRatio, x_BadRatio, rfl⟩, sa_BadRatio, eC_BadRatio, tC_BadRatio, kC_BadRatio⟩,
      e_BadRatio := ⟨ic_BadRatio, ga_BadRatio, gt_BadRatio, eC_BadRatio, ca_BadRatio, gg0, tk0, mo_BadRatio⟩,
      xf_BadRatio := ⟨ga_BadRatio, gt_BadRatio, eC_BadRatio, hC_BadRatio⟩,
      kv_BadRatio := kit_ty2 vC_BadRatio,
      g_BadLine := PySem.W.mg_of X G a_BadLine,
      no_BadLine_line := no_BadLine_line,
      no_BadLine_word := no_BadLine_word,
      i_BadLine := ⟨_, _, a2, t2, (fun_mk (st := s_BadLineD_initD) l2 c2 k2), ((fun_mk (st := s_BadLineD_initD) l2 c2 k2).binds (ps := P_BadLineD_initD) fun _ _ _ _ _ _ us hl => match us, hl with | [_, _, _], _ => rfl)⟩,
      ox_BadLine := ⟨⟨nm_BadLine, q_BadLine, N_BadLine, bs_BadLine, _, sn_BadLine, sub_BadLine, ab_BadLine, col_BadLine, dd_BadLine, m0_BadLine, m1_BadLine, m2_BadLine, m3_BadLine, m5_BadLine, x_BadLine, rfl⟩, sa_BadLine, eC_BadLine, tC_BadLine, kC_BadLine⟩,
      e_BadLine := ⟨ic_BadLine, ga_BadLine, gt_BadLine, eC_BadLine, ca_BadLine, gg0, tk0, mo_BadLine⟩,
      xf_BadLine := ⟨ga_BadLine, gt_BadLine, eC_BadLine, hC_BadLine⟩,
      kv_BadLine := kit_ty2 vC_BadLine,
      kn_BadLine := kit_no0 ne_BadLine_BadRatio ic_BadRatio tC_BadRatio s_BadLine_BadRatio,
      ke_BadLine := kit_yes ic_EllError tC_EllError lC_BadLine,
      em_BadLine := exm_of eC_BadLine ic_BadLine tC_BadLine s_BadLine_BadLine,
      em_BadRatio := exm_of eC_BadRatio ic_BadRatio tC_BadRatio s_BadRatio_BadRatio,
      en_BadLine := exm_of eC_BadRatio ic_BadRatio tC_BadRatio s_BadLine_BadRatio,
      g_Reader := PySem.W.mg_of X G a_Reader,
      cl := ⟨pg, hd, po, sa⟩,
      nR := nR,
      nL := nL,
      nW := nW,
      i_Reader := ⟨_, _, ⟨mk, a3, i3, kc⟩, (fun_mk (st := s_ReaderD_initD) l3 c3 k3), ((fun_mk (st := s_ReaderD_initD) l3 c3 k3).binds (ps := P_ReaderD_initD) fun _ _ _ _ _ _ us hl => match us, hl with | [_, _], _ => rfl)⟩,
      m_peek := ⟨_, _, ⟨a4, i4, k4⟩, (fun_mk (st := s_Reader_peek) l4 c4 k4), ((fun_mk (st := s_Reader_peek) l4 c4 k4).binds (ps := P_Reader_peek) fun _ _ _ _ _ _ us hl => match us, hl with | [_], _ => rfl)⟩,
      m_take := ⟨_, _, ⟨a5, i5, k5⟩, (fun_mk (st := s_Reader_take) l5 c5 k5), ((fun_mk (st := s_Reader_take) l5 c5 k5).binds (ps := P_Reader_take) fun _ _ _ _ _ _ us hl => match us, hl with | [_], _ => rfl)⟩,
      m_refuse := ⟨_, _, ⟨a6, i6, k6⟩, (fun_mk (st := s_Reader_refuse) l6 c6 k6), ((fun_mk (st := s_Reader_refuse) l6 c6 k6).binds (ps := P_Reader_refuse) fun _ _ _ _ _ _ us hl => match us, hl with | [_], _ => rfl)⟩,
      m_take_text := ⟨_, _, ⟨a7, i7, k7⟩, (fun_mk (st := s_Reader_take_text) l7 c7 k7), ((fun_mk (st := s_Reader_take_text) l7 c7 k7).binds (ps := P_Reader_take_text) fun _ _ _ _ _ _ us hl => match us, hl with | [_], _ => rfl)⟩,
      m_take_integer := ⟨_, _, ⟨a8, i8, k8⟩, (fun_mk (st := s_Reader_take_integer) l8 c8 k8), ((fun_mk (st := s_Reader_take_integer) l8 c8 k8).binds (ps := P_Reader_take_integer) fun _ _ _ _ _ _ us hl => match us, hl with | [_], _ => rfl)⟩,
      m_has_ratio := ⟨_, _, ⟨a9, i9, k9⟩, (fun_mk (st := s_Reader_has_ratio) l9 c9 k9), ((fun_mk (st := s_Reader_has_ratio) l9 c9 k9).binds (ps := P_Reader_has_ratio) fun _ _ _ _ _ _ us hl => match us, hl with | [_], _ => rfl)⟩,
      m_take_ratio := ⟨_, _, ⟨a10, i10, k10⟩, (fun_mk (st := s_Reader_take_ratio) l10 c10 k10), ((fun_mk (st := s_Reader_take_ratio) l10 c10 k10).binds (ps := P_Reader_take_ratio) fun _ _ _ _ _ _ us hl => match us, hl with | [_], _ => rfl)⟩,
      m_end_line := ⟨_, _, ⟨a11, i11, k11⟩, (fun_mk (st := s_Reader_end_line) l11 c11 k11), ((fun_mk (st := s_Reader_end_line) l11 c11 k11).binds (ps := P_Reader_end_line) fun _ _ _ _ _ _ us hl => match us, hl with | [_], _ => rfl)⟩,
      m_take_word := ⟨_, _, ⟨a12, i12, k12⟩, (fun_mk (st := s_Reader_take_word) l12 c12 k12), fun us rest hl => match us, hl with | [_], _ => star_take_word⟩,
      m_take_name := ⟨_, _, ⟨a13, i13, k13⟩, (fun_mk (st := s_Reader_take_name) l13 c13 k13), fun us rest hl => match us, hl with | [_], _ => star_take_name⟩,
      d__wall := ⟨_, _, (fun_mk (st := s__wall) l14 c14 k14), PySem.W.mg_of X G a14, ((fun_mk (st := s__wall) l14 c14 k14).binds (ps := P__wall) fun _ _ _ _ _ _ us hl => match us, hl with | [_], _ => rfl)⟩,
      d_is_integer := ⟨_, _, (fun_mk (st := s_is_integer) l15 c15 k15), PySem.W.mg_of X G a15, ((fun_mk (st := s_is_integer) l15 c15 k15).binds (ps := P_is_integer) fun _ _ _ _ _ _ us hl => match us, hl with | [_], _ => rfl)⟩,
      d_is_tuple_of := ⟨_, _, (fun_mk (st := s_is_tuple_of) l16 c16 k16), PySem.W.mg_of X G a16, ((fun_mk (st := s_is_tuple_of) l16 c16 k16).binds (ps := P_is_tuple_of) fun _ _ _ _ _ _ us hl => match us, hl with | [_, _], _ => rfl)⟩,
      d_is_ratio := ⟨_, _, (fun_mk (st := s_is_ratio) l17 c17 k17), PySem.W.mg_of X G a17, ((fun_mk (st := s_is_ratio) l17 c17 k17).binds (ps := P_is_ratio) fun _ _ _ _ _ _ us hl => match us, hl with | [_], _ => rfl)⟩,
      d_write_ratio := ⟨_, _, (fun_mk (st := s_write_ratio) l18 c18 k18), PySem.W.mg_of X G a18, ((fun_mk (st := s_write_ratio) l18 c18 k18).binds (ps := P_write_ratio) fun _ _ _ _ _ _ us hl => match us, hl with | [_], _ => rfl)⟩,
      d_read_ratio := ⟨_, _, (fun_mk (st := s_read_ratio) l19 c19 k19), PySem.W.mg_of X G a19, ((fun_mk (st := s_read_ratio) l19 c19 k19).binds (ps := P_read_ratio) fun _ _ _ _ _ _ us hl => match us, hl with | [_], _ => rfl)⟩,
      d_is_whole := ⟨_, _, (fun_mk (st := s_is_whole) l20 c20 k20), PySem.W.mg_of X G a20, ((fun_mk (st := s_is_whole) l20 c20 k20).binds (ps := P_is_whole) fun _ _ _ _ _ _ us hl => match us, hl with | [_, _], _ => rfl)⟩,
      d__is_divisor := ⟨_, _, (fun_mk (st := s__is_divisor) l21 c21 k21), PySem.W.mg_of X G a21, ((fun_mk (st := s__is_divisor) l21 c21 k21).binds (ps := P__is_divisor) fun _ _ _ _ _ _ us hl => match us, hl with | [_], _ => rfl)⟩,
      d__is_digits := ⟨_, _, (fun_mk (st := s__is_digits) l22 c22 k22), PySem.W.mg_of X G a22, ((fun_mk (st := s__is_digits) l22 c22 k22).binds (ps := P__is_digits) fun _ _ _ _ _ _ us hl => match us, hl with | [_, _], _ => rfl)⟩,
      d_write_expression := ⟨_, _, (fun_mk (st := s_write_expression) l23 c23 k23), PySem.W.mg_of X G a23, ((fun_mk (st := s_write_expression) l23 c23 k23).binds (ps := P_write_expression) fun _ _ _ _ _ _ us hl => match us, hl with | [_], _ => rfl)⟩,
      d__part := ⟨_, _, (fun_mk (st := s__part) l24 c24 k24), PySem.W.mg_of X G a24, ((fun_mk (st := s__part) l24 c24 k24).binds (ps := P__part) fun _ _ _ _ _ _ us hl => match us, hl with | [_, _], _ => rfl)⟩,
      d__tightness := ⟨_, _, (fun_mk (st := s__tightness) l25 c25 k25), PySem.W.mg_of X G a25, ((fun_mk (st := s__tightness) l25 c25 k25).binds (ps := P__tightness) fun _ _ _ _ _ _ us hl => match us, hl with | [_], _ => rfl)⟩,
      d_is_name := ⟨_, _, (fun_mk (st := s_is_name) l26 c26 k26), PySem.W.mg_of X G a26, ((fun_mk (st := s_is_name) l26 c26 k26).binds (ps := P_is_name) fun _ _ _ _ _ _ us hl => match us, hl with | [_], _ => rfl)⟩,
      d__take_product := ⟨_, _, (fun_mk (st := s__take_product) l27 c27 k27), PySem.W.mg_of X G a27, ((fun_mk (st := s__take_product) l27 c27 k27).binds (ps := P__take_product) fun _ _ _ _ _ _ us hl => match us, hl with | [_, _], _ => rfl)⟩,
      d__take_part := ⟨_, _, (fun_mk (st := s__take_part) l28 c28 k28), PySem.W.mg_of X G a28, ((fun_mk (st := s__take_part) l28 c28 k28).binds (ps := P__take_part) fun _ _ _ _ _ _ us hl => match us, hl with | [_, _], _ => rfl)⟩,
      d_read_expression := ⟨_, _, (fun_mk (st := s_read_expression) l29 c29 k29), PySem.W.mg_of X G a29, ((fun_mk (st := s_read_expression) l29 c29 k29).binds (ps := P_read_expression) fun _ _ _ _ _ _ us hl => match us, hl with | [_], _ => rfl)⟩,
      d__law_bag_of := ⟨_, _, (fun_mk (st := s__law_bag_of) l30 c30 k30), PySem.W.mg_of X G a30, ((fun_mk (st := s__law_bag_of) l30 c30 k30).binds (ps := P__law_bag_of) fun _ _ _ _ _ _ us hl => match us, hl with | [_], _ => rfl)⟩,
      d__law_pick := ⟨_, _, (fun_mk (st := s__law_pick) l31 c31 k31), PySem.W.mg_of X G a31, ((fun_mk (st := s__law_pick) l31 c31 k31).binds (ps := P__law_pick) fun _ _ _ _ _ _ us hl => match us, hl with | [_, _], _ => rfl)⟩,
      d__law_choice := ⟨_, _, (fun_mk (st := s__law_choice) l32 c32 k32), PySem.W.mg_of X G a32, ((fun_mk (st := s__law_choice) l32 c32 k32).binds (ps := P__law_choice) fun _ _ _ _ _ _ us hl => match us, hl with | [_, _], _ => rfl)⟩,
      d__law_one_in := ⟨_, _, (fun_mk (st := s__law_one_in) l33 c33 k33), PySem.W.mg_of X G a33, ((fun_mk (st := s__law_one_in) l33 c33 k33).binds (ps := P__law_one_in) fun _ _ _ _ _ _ us hl => match us, hl with | [_, _], _ => rfl)⟩,
      d__law_integer := ⟨_, _, (fun_mk (st := s__law_integer) l34 c34 k34), PySem.W.mg_of X G a34, ((fun_mk (st := s__law_integer) l34 c34 k34).binds (ps := P__law_integer) fun _ _ _ _ _ _ us hl => match us, hl with | [_], _ => rfl)⟩,
      d__law_letters_of := ⟨_, _, (fun_mk (st := s__law_letters_of) l35 c35 k35), PySem.W.mg_of X G a35, ((fun_mk (st := s__law_letters_of) l35 c35 k35).binds (ps := P__law_letters_of) fun _ _ _ _ _ _ us hl => match us, hl with | [_, _], _ => rfl)⟩,
      d__law_words_of := ⟨_, _, (fun_mk (st := s__law_words_of) l36 c36 k36), PySem.W.mg_of X G a36, ((fun_mk (st := s__law_words_of) l36 c36 k36).binds (ps := P__law_words_of) fun _ _ _ _ _ _ us hl => match us, hl with | [], _ => rfl)⟩,
      d__law_names_of := ⟨_, _, (fun_mk (st := s__law_names_of) l37 c37 k37), PySem.W.mg_of X G a37, ((fun_mk (st := s__law_names_of) l37 c37 k37).binds (ps := P__law_names_of) fun _ _ _ _ _ _ us hl => match us, hl with | [_, _], _ => rfl)⟩,
      d__law_gcd := ⟨_, _, (fun_mk (st := s__law_gcd) l38 c38 k38), PySem.W.mg_of X G a38, ((fun_mk (st := s__law_gcd) l38 c38 k38).binds (ps := P__law_gcd) fun _ _ _ _ _ _ us hl => match us, hl with | [_, _], _ => rfl)⟩,
      d__law_ratio := ⟨_, _, (fun_mk (st := s__law_ratio) l39 c39 k39), PySem.W.mg_of X G a39, ((fun_mk (st := s__law_ratio) l39 c39 k39).binds (ps := P__law_ratio) fun _ _ _ _ _ _ us hl => match us, hl with | [_, _], _ => rfl)⟩,
      d__law_number_of := ⟨_, _, (fun_mk (st := s__law_number_of) l40 c40 k40), PySem.W.mg_of X G a40, ((fun_mk (st := s__law_number_of) l40 c40 k40).binds (ps := P__law_number_of) fun _ _ _ _ _ _ us hl => match us, hl with | [_], _ => rfl)⟩,
      d__law_unit_word := ⟨_, _, (fun_mk (st := s__law_unit_word) l41 c41 k41), PySem.W.mg_of X G a41, ((fun_mk (st := s__law_unit_word) l41 c41 k41).binds (ps := P__law_unit_word) fun _ _ _ _ _ _ us hl => match us, hl with | [_, _], _ => rfl)⟩,
      d__law_leaf := ⟨_, _, (fun_mk (st := s__law_leaf) l42 c42 k42), PySem.W.mg_of X G a42, ((fun_mk (st := s__law_leaf) l42 c42 k42).binds (ps := P__law_leaf) fun _ _ _ _ _ _ us hl => match us, hl with | [_, _], _ => rfl)⟩,
      d__law_tree_of := ⟨_, _, (fun_mk (st := s__law_tree_of) l43 c43 k43), PySem.W.mg_of X G a43, ((fun_mk (st := s__law_tree_of) l43 c43 k43).binds (ps := P__law_tree_of) fun _ _ _ _ _ _ us hl => match us, hl with | [_, _, _, _, _], _ => rfl)⟩,
      d__law_rank_of := ⟨_, _, (fun_mk (st := s__law_rank_of) l44 c44 k44), PySem.W.mg_of X G a44, ((fun_mk (st := s__law_rank_of) l44 c44 k44).binds (ps := P__law_rank_of) fun _ _ _ _ _ _ us hl => match us, hl with | [_], _ => rfl)⟩,
      d__law_leaf_text := ⟨_, _, (fun_mk (st := s__law_leaf_text) l45 c45 k45), PySem.W.mg_of X G a45, ((fun_mk (st := s__law_leaf_text) l45 c45 k45).binds (ps := P__law_leaf_text) fun _ _ _ _ _ _ us hl => match us, hl with | [_], _ => rfl)⟩,
      d__law_text_of := ⟨_, _, (fun_mk (st := s__law_text_of) l46 c46 k46), PySem.W.mg_of X G a46, ((fun_mk (st := s__law_text_of) l46 c46 k46).binds (ps := P__law_text_of) fun _ _ _ _ _ _ us hl => match us, hl with | [_, _, _], _ => rfl)⟩,
      d__law_depth_of := ⟨_, _, (fun_mk (st := s__law_depth_of) l47 c47 k47), PySem.W.mg_of X G a47, ((fun_mk (st := s__law_depth_of) l47 c47 k47).binds (ps := P__law_depth_of) fun _ _ _ _ _ _ us hl => match us, hl with | [_], _ => rfl)⟩,
      d__law_same := ⟨_, _, (fun_mk (st := s__law_same) l48 c48 k48), PySem.W.mg_of X G a48, ((fun_mk (st := s__law_same) l48 c48 k48).binds (ps := P__law_same) fun _ _ _ _ _ _ us hl => match us, hl with | [_, _], _ => rfl)⟩,
      d__law_refused := ⟨_, _, (fun_mk (st := s__law_refused) l49 c49 k49), PySem.W.mg_of X G a49, ((fun_mk (st := s__law_refused) l49 c49 k49).binds (ps := P__law_refused) fun _ _ _ _ _ _ us hl => match us, hl with | [_, _], _ => rfl)⟩,
      d__law_spoilt_of := ⟨_, _, (fun_mk (st := s__law_spoilt_of) l50 c50 k50), PySem.W.mg_of X G a50, ((fun_mk (st := s__law_spoilt_of) l50 c50 k50).binds (ps := P__law_spoilt_of) fun _ _ _ _ _ _ us hl => match us, hl with | [_, _], _ => rfl)⟩,
      d_take_expression := te_at l51 lT c51 k51 (PySem.W.mg_of X G a51),
      d_law := ⟨_, _, (fun_mk (st := s_law) l52 c52 k52), PySem.W.mg_of X G a52, ((fun_mk (st := s_law) l52 c52 k52).binds (ps := P_law) fun _ _ _ _ _ _ us hl => match us, hl with | [_], _ => rfl)⟩ }
  have FL := (fun_mk (st := s_law) l52 c52 k52)
  exact ⟨PySem.W.fnOf "law" "law" (defArgs s_law) (defBody s_law) (defScope s_law) .none kV52 dc52 pm52 an52 cd52 ct52, fun s v => .of_eq rfl, fun base _ _ => fun_gd FL sc_law (fun vs H Q E h => by obtain ⟨_, p, ns, rfl, _⟩ := h; rfl) (b_law T)⟩
theorem walk {l : PySem.W.OpenLaw} {q : Program} {loose : List Str} {XP : (Str → Option Value) → Heap → Prop} {YP : World → Heap → Prop} {d : DefRec} {K : Params → PySem.W.Frag} (hn : l.most = some 63) (hdf : d.params.defaults = [])
    (hY : ∀ (w : World) (h : Heap), YP w h → (K w.params).In h)
    (F : ∀ (w : World) (mg : Str → Option Value) (fa : Addr) (h : Heap), (K w.params).In h → h.Ns mainGlobals mg → mg d.name = some (.ref fa) →
      ∃ fd : FuncData, (∀ (s : Shared) (u : Value), BindsTo s fd ⟨[u], []⟩ [("_law_script", u)]) ∧ ∀ base : Heap, (K w.params).In base → base.Ns mainGlobals mg → FnG l.prog w (K w.params) mg base 136 fa fd ["_law_script"] (sp_law (K w.params))) :
    PySem.W.WalkO q loose XP YP l.row.toRowW d [] (fun f vs => PySem.call f vs) :=
  walk_G (n := 63) (k := 136) (x := "_law_script") (sp := fun w => sp_law (K w.params)) hn (by decide) hdf ⟨rfl, by decide, by decide⟩ hY F (fun _ _ a ns hl _ hS => ⟨_, a, ns, rfl, hS, by omega, Same.refl _, fun _ => rfl⟩)
end K09

open PySem PySem.W PyProof.Rows
set_option maxRecDepth 100000 in
set_option maxHeartbeats 0 in
theorem PySem.Challenge.cw_ellwarden_k09_expression_text_holds : PySem.Challenge.rw_ellwarden_k09_expression_text.Holds := by
  w_on; o_law; k_head; (case hw => w_witness2)
  k_fill
  refine K09.walk (l := PySem.Challenge.rw_ellwarden_k09_expression_text) rfl rfl (fun w h Y => PySem.W.kIn_of Y) ?F
  case F =>
    intro w mg fa h KX G hmg
    refine' K09.all_mk KX G hmg ?z_isinstance ?z_int ?z_bool ?z_tuple ?z_str ?z_len ?z_all ?z_abs ?z_min ?z_max ?z_range ?z_ValueError ?zgcd ?zz_DIGITS_ratios ?zz_LONGEST_ratios ?zz_LETTERS ?zz_LONGEST_names ?zz_LONGEST_lines ?zz_DIGITS_lines ?zz_PARENTHESES ?zz_WORDS ?l_WORDS ?zz_OPERATORS ?l_OPERATORS ?zz_SIGNS ?l_SIGNS ?e_SIGNS0 ?e_SIGNS1 ?e_SIGNS2 ?e_SIGNS3 ?m_SIGNS ?v_SIGNS0 ?v_SIGNS1 ?v_SIGNS2 ?v_SIGNS3 ?zz_SUMS ?l_SUMS ?e_SUMS0 ?e_SUMS1 ?m_SUMS ?v_SUMS0 ?v_SUMS1 ?zz_PRODUCTS ?l_PRODUCTS ?e_PRODUCTS0 ?e_PRODUCTS1 ?m_PRODUCTS ?v_PRODUCTS0 ?v_PRODUCTS1 ?gg0 ?tk0 ?a_EllError ?ic_EllError ?tC_EllError ?a_BadRatio ?x_BadRatio ?sa_BadRatio ?ga_BadRatio ?gt_BadRatio ?ca_BadRatio ?kC_BadRatio ?eC_BadRatio ?vC_BadRatio ?lC_BadRatio ?tC_BadRatio ?hC_BadRatio ?ic_BadRatio ?mo_BadRatio ?no_BadRatio_text ?a1 ?t1 ?l1 ?c1 ?k1 ?a_BadLine ?x_BadLine ?sa_BadLine ?ga_BadLine ?gt_BadLine ?ca_BadLine ?kC_BadLine ?eC_BadLine ?vC_BadLine ?lC_BadLine ?tC_BadLine ?hC_BadLine ?ic_BadLine ?mo_BadLine ?no_BadLine_line ?no_BadLine_word ?a2 ?t2 ?l2 ?c2 ?k2 ?s_BadLine_BadRatio ?ne_BadLine_BadRatio ?s_BadLine_BadLine ?s_BadRatio_BadRatio ?a_Reader ?pg ?hd ?po ?sa ?nR ?nL ?nW ?mk ?kc ?a3 ?i3 ?l3 ?c3 ?k3 ?a4 ?i4 ?l4 ?c4 ?k4 ?a5 ?i5 ?l5 ?c5 ?k5 ?a6 ?i6 ?l6 ?c6 ?k6 ?a7 ?i7 ?l7 ?c7 ?k7 ?a8 ?i8 ?l8 ?c8 ?k8 ?a9 ?i9 ?l9 ?c9 ?k9 ?a10 ?i10 ?l10 ?c10 ?k10 ?a11 ?i11 ?l11 ?c11 ?k11 ?a12 ?i12 ?l12 ?c12 ?k12 ?a13 ?i13 ?l13 ?c13 ?k13 ?a14 ?l14 ?c14 ?k14 ?a15 ?l15 ?c15 ?k15 ?a16 ?l16 ?c16 ?k16 ?a17 ?l17 ?c17 ?k17 ?a18 ?l18 ?c18 ?k18 ?a19 ?l19 ?c19 ?k19 ?a20 ?l20 ?c20 ?k20 ?a21 ?l21 ?c21 ?k21 ?a22 ?l22 ?c22 ?k22 ?a23 ?l23 ?c23 ?k23 ?a24 ?l24 ?c24 ?k24 ?a25 ?l25 ?c25 ?k25 ?a26 ?l26 ?c26 ?k26 ?a27 ?l27 ?c27 ?k27 ?a28 ?l28 ?c28 ?k28 ?a29 ?l29 ?c29 ?k29 ?a30 ?l30 ?c30 ?k30 ?a31 ?l31 ?c31 ?k31 ?a32 ?l32 ?c32 ?k32 ?a33 ?l33 ?c33 ?k33 ?a34 ?l34 ?c34 ?k34 ?a35 ?l35 ?c35 ?k35 ?a36 ?l36 ?c36 ?k36 ?a37 ?l37 ?c37 ?k37 ?a38 ?l38 ?c38 ?k38 ?a39 ?l39 ?c39 ?k39 ?a40 ?l40 ?c40 ?k40 ?a41 ?l41 ?c41 ?k41 ?a42 ?l42 ?c42 ?k42 ?a43 ?l43 ?c43 ?k43 ?a44 ?l44 ?c44 ?k44 ?a45 ?l45 ?c45 ?k45 ?a46 ?l46 ?c46 ?k46 ?a47 ?l47 ?c47 ?k47 ?a48 ?l48 ?c48 ?k48 ?a49 ?l49 ?c49 ?k49 ?a50 ?l50 ?c50 ?k50 ?a51 ?l51 ?lT ?c51 ?k51 ?a52 ?l52 ?c52 ?k52
    (case z_isinstance => k_is)
    (case z_int => k_is)
    (case z_bool => k_is)
    (case z_tuple => k_is)
    (case z_str => k_is)
    (case z_len => k_is)
    (case z_all => k_is)
    (case z_abs => k_is)
    (case z_min => k_is)
    (case z_max => k_is)
    (case z_range => k_is)
    (case z_ValueError => k_is)
    (case zgcd => k_is)
    (case zz_DIGITS_ratios => k_is)
    (case zz_LONGEST_ratios => k_is)
    (case zz_LETTERS => k_is)
    (case zz_LONGEST_names => k_is)
    (case zz_LONGEST_lines => k_is)
    (case zz_DIGITS_lines => k_is)
    (case zz_PARENTHESES => k_is)
    (case zz_WORDS => k_is)
    (case l_WORDS => k_is)
    (case zz_OPERATORS => k_is)
    (case l_OPERATORS => k_is)
    (case zz_SIGNS => k_is)
    (case l_SIGNS => k_is)
    (case e_SIGNS0 => first | rfl | k_is)
    (case e_SIGNS1 => first | rfl | k_is)
    (case e_SIGNS2 => first | rfl | k_is)
    (case e_SIGNS3 => first | rfl | k_is)
    (case m_SIGNS => first | rfl | decide)
    (case v_SIGNS0 => k_is)
    (case v_SIGNS1 => k_is)
    (case v_SIGNS2 => k_is)
    (case v_SIGNS3 => k_is)
    (case zz_SUMS => k_is)
    (case l_SUMS => k_is)
    (case e_SUMS0 => first | rfl | k_is)
    (case e_SUMS1 => first | rfl | k_is)
    (case m_SUMS => first | rfl | decide)
    (case v_SUMS0 => k_is)
    (case v_SUMS1 => k_is)
    (case zz_PRODUCTS => k_is)
    (case l_PRODUCTS => k_is)
    (case e_PRODUCTS0 => first | rfl | k_is)
    (case e_PRODUCTS1 => first | rfl | k_is)
    (case m_PRODUCTS => first | rfl | decide)
    (case v_PRODUCTS0 => k_is)
    (case v_PRODUCTS1 => k_is)
    (case gg0 => k_is)
    (case tk0 => k_is)
    (case a_EllError => k_is)
    (case ic_EllError => k_is)
    (case tC_EllError => k_is)
    (case a_BadRatio => k_is)
    (case x_BadRatio => k_is)
    (case sa_BadRatio => k_is)
    (case ga_BadRatio => k_is)
    (case gt_BadRatio => k_is)
    (case ca_BadRatio => k_is)
    (case kC_BadRatio => k_is)
    (case eC_BadRatio => k_is)
    (case vC_BadRatio => k_is)
    (case lC_BadRatio => k_is)
    (case tC_BadRatio => k_is)
    (case hC_BadRatio => k_is)
    (case ic_BadRatio => k_is)
    (case mo_BadRatio => k_is)
    (case no_BadRatio_text => k_is)
    (case a1 => k_is)
    (case t1 => k_is)
    (case l1 => k_is)
    (case c1 => k_is)
    (case k1 => k_is)
    (case a_BadLine => k_is)
    (case x_BadLine => k_is)
    (case sa_BadLine => k_is)
    (case ga_BadLine => k_is)
    (case gt_BadLine => k_is)
    (case ca_BadLine => k_is)
    (case kC_BadLine => k_is)
    (case eC_BadLine => k_is)
    (case vC_BadLine => k_is)
    (case lC_BadLine => k_is)
    (case tC_BadLine => k_is)
    (case hC_BadLine => k_is)
    (case ic_BadLine => k_is)
    (case mo_BadLine => k_is)
    (case no_BadLine_line => k_is)
    (case no_BadLine_word => k_is)
    (case a2 => k_is)
    (case t2 => k_is)
    (case l2 => k_is)
    (case c2 => k_is)
    (case k2 => k_is)
    (case s_BadLine_BadRatio => k_is)
    (case ne_BadLine_BadRatio => decide)
    (case s_BadLine_BadLine => first | rfl | k_is)
    (case s_BadRatio_BadRatio => first | rfl | k_is)
    (case a_Reader => k_is)
    (case pg => k_is)
    (case hd => k_is)
    (case po => k_is)
    (case sa => k_is)
    (case nR => k_is)
    (case nL => k_is)
    (case nW => k_is)
    (case mk => k_is)
    (case kc => k_is)
    (case a3 => k_is)
    (case i3 => k_is)
    (case l3 => k_is)
    (case c3 => k_is)
    (case k3 => k_is)
    (case a4 => k_is)
    (case i4 => k_is)
    (case l4 => k_is)
    (case c4 => k_is)
    (case k4 => k_is)
    (case a5 => k_is)
    (case i5 => k_is)
    (case l5 => k_is)
    (case c5 => k_is)
    (case k5 => k_is)
    (case a6 => k_is)
    (case i6 => k_is)
    (case l6 => k_is)
    (case c6 => k_is)
    (case k6 => k_is)
    (case a7 => k_is)
    (case i7 => k_is)
    (case l7 => k_is)
    (case c7 => k_is)
    (case k7 => k_is)
    (case a8 => k_is)
    (case i8 => k_is)
    (case l8 => k_is)
    (case c8 => k_is)
    (case k8 => k_is)
    (case a9 => k_is)
    (case i9 => k_is)
    (case l9 => k_is)
    (case c9 => k_is)
    (case k9 => k_is)
    (case a10 => k_is)
    (case i10 => k_is)
    (case l10 => k_is)
    (case c10 => k_is)
    (case k10 => k_is)
    (case a11 => k_is)
    (case i11 => k_is)
    (case l11 => k_is)
    (case c11 => k_is)
    (case k11 => k_is)
    (case a12 => k_is)
    (case i12 => k_is)
    (case l12 => k_is)
    (case c12 => k_is)
    (case k12 => k_is)
    (case a13 => k_is)
    (case i13 => k_is)
    (case l13 => k_is)
    (case c13 => k_is)
    (case k13 => k_is)
    (case a14 => k_is)
    (case l14 => k_is)
    (case c14 => k_is)
    (case k14 => k_is)
    (case a15 => k_is)
    (case l15 => k_is)
    (case c15 => k_is)
    (case k15 => k_is)
    (case a16 => k_is)
    (case l16 => k_is)
    (case c16 => k_is)
    (case k16 => k_is)
    (case a17 => k_is)
    (case l17 => k_is)
    (case c17 => k_is)
    (case k17 => k_is)
    (case a18 => k_is)
    (case l18 => k_is)
    (case c18 => k_is)
    (case k18 => k_is)
    (case a19 => k_is)
    (case l19 => k_is)
    (case c19 => k_is)
    (case k19 => k_is)
    (case a20 => k_is)
    (case l20 => k_is)
    (case c20 => k_is)
    (case k20 => k_is)
    (case a21 => k_is)
    (case l21 => k_is)
    (case c21 => k_is)
    (case k21 => k_is)
    (case a22 => k_is)
    (case l22 => k_is)
    (case c22 => k_is)
    (case k22 => k_is)
    (case a23 => k_is)
    (case l23 => k_is)
    (case c23 => k_is)
    (case k23 => k_is)
    (case a24 => k_is)
    (case l24 => k_is)
    (case c24 => k_is)
    (case k24 => k_is)
    (case a25 => k_is)
    (case l25 => k_is)
    (case c25 => k_is)
    (case k25 => k_is)
    (case a26 => k_is)
    (case l26 => k_is)
    (case c26 => k_is)
    (case k26 => k_is)
    (case a27 => k_is)
    (case l27 => k_is)
    (case c27 => k_is)
    (case k27 => k_is)
    (case a28 => k_is)
    (case l28 => k_is)
    (case c28 => k_is)
    (case k28 => k_is)
    (case a29 => k_is)
    (case l29 => k_is)
    (case c29 => k_is)
    (case k29 => k_is)
    (case a30 => k_is)
    (case l30 => k_is)
    (case c30 => k_is)
    (case k30 => k_is)
    (case a31 => k_is)
    (case l31 => k_is)
    (case c31 => k_is)
    (case k31 => k_is)
    (case a32 => k_is)
    (case l32 => k_is)
    (case c32 => k_is)
    (case k32 => k_is)
    (case a33 => k_is)
    (case l33 => k_is)
    (case c33 => k_is)
    (case k33 => k_is)
    (case a34 => k_is)
    (case l34 => k_is)
    (case c34 => k_is)
    (case k34 => k_is)
    (case a35 => k_is)
    (case l35 => k_is)
    (case c35 => k_is)
    (case k35 => k_is)
    (case a36 => k_is)
    (case l36 => k_is)
    (case c36 => k_is)
    (case k36 => k_is)
    (case a37 => k_is)
    (case l37 => k_is)
    (case c37 => k_is)
    (case k37 => k_is)
    (case a38 => k_is)
    (case l38 => k_is)
    (case c38 => k_is)
    (case k38 => k_is)
    (case a39 => k_is)
    (case l39 => k_is)
    (case c39 => k_is)
    (case k39 => k_is)
    (case a40 => k_is)
    (case l40 => k_is)
    (case c40 => k_is)
    (case k40 => k_is)
    (case a41 => k_is)
    (case l41 => k_is)
    (case c41 => k_is)
    (case k41 => k_is)
    (case a42 => k_is)
    (case l42 => k_is)
    (case c42 => k_is)
    (case k42 => k_is)
    (case a43 => k_is)
    (case l43 => k_is)
    (case c43 => k_is)
    (case k43 => k_is)
    (case a44 => k_is)
    (case l44 => k_is)
    (case c44 => k_is)
    (case k44 => k_is)
    (case a45 => k_is)
    (case l45 => k_is)
    (case c45 => k_is)
    (case k45 => k_is)
    (case a46 => k_is)
    (case l46 => k_is)
    (case c46 => k_is)
    (case k46 => k_is)
    (case a47 => k_is)
    (case l47 => k_is)
    (case c47 => k_is)
    (case k47 => k_is)
    (case a48 => k_is)
    (case l48 => k_is)
    (case c48 => k_is)
    (case k48 => k_is)
    (case a49 => k_is)
    (case l49 => k_is)
    (case c49 => k_is)
    (case k49 => k_is)
    (case a50 => k_is)
    (case l50 => k_is)
    (case c50 => k_is)
    (case k50 => k_is)
    (case a51 => k_is)
    (case l51 => k_is)
    (case lT => k_is)
    (case c51 => k_is)
    (case k51 => k_is)
    (case a52 => k_is)
    (case l52 => k_is)
    (case c52 => k_is)
    (case k52 => k_is)
