import PyProof.Rows.All
import Wide.All
import OpenK.AllK
import Wide.FinOn
import HandS.ForMost
import HandS.ForExc
import HandS.TryMany
import HandS.ExcInit
import HandS.ExcField
import HandS.ExcIs
import HandS.IsInst
import KE.KExcIs
import KE.KOpsOwn
import HandS.OwnEq
import HandS.Wide
import HandS.Gcd
import HandS.TupMul
import HandS.Zip
import HandS.Defaults
import HandS.Walk
import HandS.ClsMeth
import HandS.Codes
import PyProof.StrOps2
import PyProof.ReprRoads
import HandS.HotCalls
import HandS.Iter
import KE.KOwnIter
import KE.KDictIter
import HandS.Conv
import HandS.Dict
import HandS.List
import HandS.ListEq
import KE.KEqDict
import HandS.TupLen
import KE.GoesEnum
import KE.GoesMore
import KE.KAssignIn
import HandS.Star
import HandS.Ends
import HandS.DictComp
import PySem.Challenge.RW_ellwarden_k33_forms
import KE.IntTextLaws
import HandS.StrMore
import KE.SortData
import HandS.SortRule
import HandS.ReplaceLit
import HandS.TupAny
import HandS.Deep
import KE.KDictDisplayH
set_option Elab.async false
set_option linter.all false
set_option maxRecDepth 100000
set_option maxHeartbeats 4000000
/-! a try with several clauses, each with a name or without -/
namespace Ew
open PySem PySem.Spec PyProof.Rows L2
/-- one clause: what it names, the slot of its name, what its suite asks -/
abbrev Cl1 := Value × Option Nat × (Addr → Value → Option Addr → TS)
/-- behind a suite the slot of its name is empty -/
def Emp : Option Nat → Ends → Ends
  | none, D => D
  | some i, D => ⟨fun t G => D.nx (t.set i none) G, D.rt, fun t G => D.bk (t.set i none) G, fun t G => D.ct (t.set i none) G⟩
def bindAt : Option Nat → Addr → L2.St → L2.St
  | none, _, σ => σ
  | some i, a, σ => σ.set i (some (.ref a))
def wN (K : PySem.W.Frag) (Wo : WX) (D : Ends) : List Cl1 → WX
  | [] => Wo
  | (c, i, ts) :: r => fun cls d σ H => ∃ b, PySem.W.exmOne K cls c = some b ∧ (b = true → ∀ a, H a = none → ts a cls d (Emp i D) (bindAt i a σ) H) ∧ (b = false → wN K Wo D r cls d σ H)
/-- a suite keeps its reading whatever exception it holds -/
def SuiteOk (X : Cx) (sts : List Stmt) (ts : Addr → Value → Option Addr → TS) : Prop := ∀ a oe cls d pn, Zc cls d oe → (∃ vs, oe.data = .fields vs) → PSs (X.suite a ((a, oe) :: pn)) sts (ts a cls d)
inductive HdsN (X : Cx) : List ExceptHandler → List Cl1 → Prop
  | nil : HdsN X [] []
  | pl {x : Str} {c : Value} {ts b sts p q hs l} : Names X x c → SuiteOk X (b :: sts) ts → HdsN X hs l → HdsN X (.ExceptHandler (some (.Name x p)) none (b :: sts) q :: hs) ((c, none, ts) :: l)
  | nm {x n : Str} {i : Nat} {c : Value} {ts b sts p q hs l} : X.N[i]? = some n → X.env.kindOf n = some .local → Names X x c → SuiteOk X (b :: sts) ts → HdsN X hs l → HdsN X (.ExceptHandler (some (.Name x p)) (some n) (b :: sts) q :: hs) ((c, some i, ts) :: l)
section
variable {X : Cx} {pins : List (Addr × Obj)} {σ : L2.St} {H : Hp} {a : Addr} {cls : Value} {d : Option Addr} {D : Ends} {s : Shared} {Wo : WX}
/-- an exception lies at a, looked at by the frame's own handlers -/
structure Caught (X : Cx) (pins : List (Addr × Obj)) (σ : L2.St) (H : Hp) (a : Addr) (cls : Value) (d : Option Addr) (s : Shared) : Prop where
  ok : X.Ok
  st : X.stack = X.env :: X.outer
  fr : X.env.frame = some X.env.locals
  free : H a = none
  rest : ∃ B sI, Inv X pins σ H sI ∧ (∀ b o, sI.heap.get? b = some o → b ∉ frs X.stack → B.get? b = some o) ∧ sI.heap.UpToSlots s.heap ∧ s.os = sI.os ∧ AllBare s.gens ∧ HandSPX.FlyingZ B (X.env :: X.outer) a (Zc cls d) s.heap
theorem Caught.inv (c : Caught X pins σ H a cls d s) : Inv X pins σ H s := by
  obtain ⟨B, sI, J, nb, up, os, ag, fl⟩ := c.rest
  obtain ⟨hp, g, dr, t, o⟩ := s
  exact J.landed nb fl.1 up os ag
theorem Caught.off (c : Caught X pins σ H a cls d s) : a ∉ frs (X.env :: X.outer) := fun hm => by
  obtain ⟨B, sI, J, nb, up, os, ag, fl⟩ := c.rest
  obtain ⟨o, vs, e, z, q⟩ := fl.there
  obtain ⟨_, o', e', w⟩ := fl.2.2.1.mem hm
  obtain rfl := Option.some.inj (e.symm.trans e')
  exact w _ q
theorem Caught.held (c : Caught X pins σ H a cls d s) : ∃ oe, s.heap.get? a = some oe ∧ Zc cls d oe ∧ (∃ vs, oe.data = .fields vs) ∧ Inv (X.suite a ((a, oe) :: (X.pn ++ pins))) [] σ H s := by
  obtain ⟨B, sI, J, nb, up, os, ag, fl⟩ := id c.rest
  obtain ⟨oe, vs, e, z, q⟩ := fl.there
  refine ⟨oe, e, z, ⟨vs, q⟩, c.inv.suite e q c.free (fun h => c.off ?_) fun h => c.off ?_⟩
  · exact List.mem_filterMap.mpr ⟨_, List.mem_cons_self, c.fr.trans (congrArg some h.symm)⟩
  · obtain ⟨y, hy, w⟩ := List.mem_filterMap.mp h
    exact List.mem_filterMap.mpr ⟨y, List.mem_cons_of_mem _ hy, w⟩
/-- the clause's class is looked at -/
theorem Caught.asks (c : Caught X pins σ H a cls d s) {x : Str} {p : Pos} {v : Value} (n : Names X x v) {Q E : Value → Shared → Prop} (q : Q v s) :
    wpAny (model X.prog X.w) (X.A.mark (some (.ref a))) (eval (.Name x p) X.env) Q E s := by
  obtain ⟨oe, _, _, _, S⟩ := c.held
  obtain ⟨g, db, m | ⟨m, v', nn⟩⟩ := n
  · exact ld_glob (X := X.suite a ((a, oe) :: (X.pn ++ pins))) S g m q db
  · exact ld_blt (X := X.suite a ((a, oe) :: (X.pn ++ pins))) S g m v' q nn db
theorem Caught.judged (c : Caught X pins σ H a cls d s) {v : Value} {b : Bool} (h : PySem.W.exmOne X.K cls v = some b) : PySem.W.Looks (model X.prog X.w) s.heap (excMatches (.ref a) v) b := by
  obtain ⟨oe, e, z, _, _⟩ := c.held
  exact PySem.W.exm_one c.inv.kIn (fun _ _ _ _ k q => wpAny_typeOf_ref (k _ _ e) (z.1.symm ▸ q)) h
/-- what behind the suite is left of an end -/
theorem Caught.done (c : Caught X pins σ H a cls d s) {oe : Obj} {i : Option Nat} {f : Flow} {s' : Shared} (hN : X.N.Nodup) {n : Str} (hn : ∀ j, i = some j → X.N[j]? = some n ∧ X.env.kindOf n = some .local)
    (h : SP (X.suite a ((a, oe) :: (X.pn ++ pins))) [] (Emp i D) f s') {p : Pos} :
    (i = none → SP X pins D f s') ∧ (i ≠ none → wpAny (model X.prog X.w) X.A (do bindName X.env n .none; unbindBehindTheSuite X.env n p) (fun _ s7 => SP X pins D f s7) X.xe s') := by
  cases i with
  | none =>
    refine ⟨fun _ => ?_, fun z => absurd rfl z⟩
    cases f <;> first
      | (obtain ⟨σ6, H6, S, q⟩ := h; exact ⟨σ6, H6, S.unsuite c.ok, q⟩)
      | (obtain ⟨v, σ6, H6, S, r, q⟩ := h; exact ⟨v, σ6, H6, S.unsuite c.ok, r, q⟩)
  | some j =>
    obtain ⟨hj, hk⟩ := hn j rfl
    refine ⟨fun z => (nomatch z), fun _ => ?_⟩
    cases f <;> first
      | (obtain ⟨σ6, H6, S, q⟩ := h; exact gone_ok (S.unsuite c.ok) hN hj hk fun s7 J => ⟨_, _, J, q⟩)
      | (obtain ⟨v, σ6, H6, S, r, q⟩ := h; exact gone_ok (S.unsuite c.ok) hN hj hk fun s7 J => ⟨_, _, _, J, r, q⟩)
/-- the clauses, one after the other -/
theorem Caught.handled {pos : Pos} (hN : X.N.Nodup) (tk : Takes X Wo) : ∀ {hs : List ExceptHandler} {l : List Cl1}, HdsN X hs l → ∀ {s : Shared}, Caught X pins σ H a cls d s → wN X.K Wo D l cls d σ H →
    wpAny (model X.prog X.w) X.A (handleBy (.ref a) X.env hs) (SP X pins D) X.xe s
  | _, _, .nil, s, c, w => by
    obtain ⟨B, sI, J, nb, up, os, ag, fl⟩ := id c.rest
    obtain ⟨_, _, _, oe, vs, T, oT, ts', he, hz, hd, h1, hr⟩ := id fl
    refine wpAny_handleBy_nil ?_
    have up2 : wpAny (model X.prog X.w) X.A (setFlight (.ref a) X.env.frame) (fun _ s4 => wpAny (model X.prog X.w) X.A (throw (.ref a) : Sem Flow) (SP X pins D) X.xe s4) X.xe s := by
      obtain ⟨hp, g, dr, t, o⟩ := s
      rw [c.fr]
      refine HandSPX.setFlight_upZ fl fun h4 hh4 u4 => wpAny_throw (tk _ _ ⟨a, B, sI, pins, σ, H, cls, d, rfl, J, nb, up.trans u4, .inr (.inr ?_), c.free, os, ag, w⟩)
      rw [c.st]
      exact hh4
    unfold PySem.passOn
    refine wpAny_bind (wpAny_field he hd h1 ?_)
    rw [if_neg (fun z => by simp at z)]
    first
      | exact wpAny_bind (wpAny_pure (wpAny_bind up2))
      | exact wpAny_bind up2
  | _, _, .pl hc hsu r, s, c, w => by
    obtain ⟨b, e, yes, no⟩ := w
    refine wpAny_handleBy_cons (codeAny_handlers_test (c.asks hc ((c.judged e).here ?_))) (fun q => nomatch q)
    cases b with
    | false => exact Caught.handled (pos := pos) hN tk r c (no rfl)
    | true =>
      refine codeAny_handlers_suite ?_
      obtain ⟨B, sI, J, nb, up, os, ag, fl⟩ := id c.rest
      obtain ⟨hp, g, dr, t, o⟩ := s
      refine HandSPX.lands_againZ fl fun h4 fl4 u4 => ?_
      have c4 : Caught X pins σ H a cls d ⟨h4, g, dr, t, o⟩ := ⟨c.ok, c.st, c.fr, c.free, B, sI, J, nb, up.trans u4, os, ag, fl4⟩
      obtain ⟨oe, _, z, q, S⟩ := c4.held
      exact wpAny_mono ((hsu a oe cls d _ z q).run [] _ _ H _ S (yes rfl a c.free)) (fun f s6 h => (c4.done (i := none) (n := "") (p := pos) hN (fun _ z => (nomatch z)) h).1 rfl) fun _ _ z => z.elim
  | _, _, .nm hi hl hc hsu r, s, c, w => by
    obtain ⟨b, e, yes, no⟩ := w
    refine wpAny_handleBy_cons (codeAny_handlers_test (c.asks hc ((c.judged e).here ?_))) (fun q => nomatch q)
    cases b with
    | false => exact Caught.handled (pos := pos) hN tk r c (no rfl)
    | true =>
      refine codeAny_handlers_suite_as ?_
      obtain ⟨B, sI, J, nb, up, os, ag, fl⟩ := id c.rest
      obtain ⟨hp, g, dr, t, o⟩ := s
      refine HandSPX.lands_againZ fl fun h4 fl4 u4 => ?_
      have c4 : Caught X pins σ H a cls d ⟨h4, g, dr, t, o⟩ := ⟨c.ok, c.st, c.fr, c.free, B, sI, J, nb, up.trans u4, os, ag, fl4⟩
      obtain ⟨oe, _, z, q, S⟩ := c4.held
      refine store_ok (X := X.suite a ((a, oe) :: (X.pn ++ pins))) (v := .ref a) S hN hi (.inl hl) rfl (fun s5 S5 => ?_) (.inr hl)
      exact wpAny_mono ((hsu a oe cls d _ z q).run [] s5 _ H _ S5 (yes rfl a c.free)) (fun f s6 h => (c4.done (i := some _) hN (fun j e => by cases e; exact ⟨hi, hl⟩) h).2 (fun z => (nomatch z))) fun _ _ z => z.elim
/-- try: body / several clauses -/
theorem ps_tryN {body : List Stmt} {h0 : ExceptHandler} {hs : List ExceptHandler} {l : List Cl1} {pos : Pos} {tb : WX → TS} (hst : X.stack = X.env :: X.outer) (hfr : X.env.frame = some X.env.locals) (hN : X.N.Nodup) (tk : Takes X Wo)
    (hb : ∀ (W : WX) (pn : List (Addr × Obj)) (xe : Value → Shared → Prop), Takes (X.tr pn xe) W → PassesOwn (model X.prog X.w) X.A X.env xe → PSs (X.tr pn xe) body (tb W)) (hh : HdsN X (h0 :: hs) l) :
    PS X (.Try body (h0 :: hs) [] [] pos) (fun D σ H => tb (wN X.K Wo D l) D σ H) := ⟨fun pins s σ H D I h => by
  have ok := I.ok
  let xe : Value → Shared → Prop := fun e s₁ => wpAny (model X.prog X.w) X.A (noteFrame e X.env) (fun _ s₂ => wpAny (model X.prog X.w) X.A (setFlight e none) (fun _ s₃ => wpAny (model X.prog X.w) X.A (handleBy e X.env (h0 :: hs)) (SP X pins D) X.xe s₃) X.xe s₂) X.xe s₁
  have tk2 : Takes (X.tr (X.pn ++ pins) xe) (wN X.K Wo D l) := fun u s' ⟨a, B, sI, pins', σ', H', cls, d, e, J', nb, up, sky, na, os, ag, w⟩ => by
    subst e
    have sky2 : Sky B (X.env :: X.outer) a (Zc cls d) X.env.locals s'.heap := by rw [← hst]; exact sky
    obtain ⟨hp, g, dr, t, o⟩ := s'
    refine Sky.land Zc.steady (ok.frames.trans (congrArg some hst)) hfr sky2 fun h3 fl u3 => ?_
    exact Caught.handled (pos := pos) hN tk hh ⟨ok, hst, hfr, na, B, sI, J'.ofTry ok, nb, up.trans u3, os, ag, fl⟩ w
  refine wpAny_Try_except (wpAny_mono ((hb _ _ xe tk2 PassesOwn.looking).run [] s σ H D (I.toTry _) h) (fun f s1 q => ?_) fun _ _ z => z)
  cases f <;> first
    | (obtain ⟨σ', H', J, q⟩ := q; exact wpAny_execs_nil ⟨σ', H', J.ofTry ok, q⟩)
    | (obtain ⟨σ', H', J, q⟩ := q; exact ⟨σ', H', J.ofTry ok, q⟩)
    | (obtain ⟨v, σ', H', J, r, q⟩ := q; exact ⟨v, σ', H', J.ofTry ok, r, q⟩)⟩
end
end Ew

set_option Elab.async false
set_option linter.all false
set_option maxRecDepth 100000
set_option maxHeartbeats 4000000
namespace Ew
open PySem PySem.Spec PyProof.Rows L2
/-- what the text's class D of an error says -/
structure ErrC (K : PySem.W.Frag) (D : Addr) : Prop where
  cl : (PySem.W.clsIn K D).isSome = true
  ga : PySem.W.findIn K (.ref D) "__getattribute__" = some (some (.builtin "BaseException.__getattribute__"))
  gt : PySem.W.findIn K (.ref D) "__getattr__" = some none
  sb : PySem.W.subIn K (.ref D) (.type "BaseException") = some true
  ca : PySem.W.findIn K (.ref D) "__class__" = some (some (.builtin "object.__class__"))
  gg : PySem.W.specialIn K (.builtin "object.__class__") "__get__" = some (some (.builtin "getset_descriptor.__get__"))
  tk : PySem.W.takesIn K (.builtin "object.__class__") = some true
  mo : PySem.W.mroIn K D (.type "object") = some true
section
variable {X : Cx} {a D : Addr} {oe : Obj} {pn : List (Addr × Obj)} {d : Option Addr}
theorem err_kit (C : ErrC X.K D) (hz : Zc (.ref D) d oe) (hf : ∃ vs, oe.data = .fields vs) {pins : List (Addr × Obj)} {σ : L2.St} {H : Hp} {s : Shared} (I : Inv (X.suite a ((a, oe) :: pn)) pins σ H s) (hd : ∀ dd, d = some dd → ∃ o, H dd = some o) :
    ∃ P : Heap → Prop, PySem.W.KitX X.K (.ref a) (.ref D) P ∧ P s.heap := by
  obtain ⟨at_, _⟩ := I.pin (a, oe) (List.mem_append.mpr (.inl List.mem_cons_self))
  obtain ⟨vs, hv⟩ := hf
  obtain ⟨oc, od, oda, osl⟩ := oe
  obtain ⟨h1, h2⟩ := hz
  dsimp only at h1 h2 hv
  subst h1 h2 hv
  cases od with
  | none => exact ⟨_, PySem.W.kitx_exc (od := none) C.cl C.ga C.gt C.sb C.ca C.gg C.tk C.mo, at_, rfl, rfl, trivial⟩
  | some dd =>
    obtain ⟨o, ho⟩ := hd dd rfl
    obtain ⟨u, hu⟩ := objOk_get (I.hok dd o ho)
    exact ⟨_, PySem.W.kitx_exc (od := some u) C.cl C.ga C.gt C.sb C.ca C.gg C.tk C.mo, at_, rfl, rfl, hu⟩
/-- isinstance(e, c) | isinstance(e, (c1, c2, ..)), e the error that the suite holds -/
def rIsErr (K : PySem.W.Frag) (D a : Addr) (d : Option Addr) : List V → Hp → VK → Prop := fun xs H Q => (∀ dd, d = some dd → ∃ o, H dd = some o) ∧
  ((∃ c u b, xs = [.ref a, c] ∧ ClsV c u ∧ PySem.W.kitOne K (.ref D) u = some b ∧ Q (.bl b) H) ∨ (∃ tp cs us b, xs = [.ref a, .ref tp] ∧ H tp = some (.tup cs) ∧ Paired ClsV cs us ∧ PySem.W.kitAny K (.ref D) us = some b ∧ Q (.bl b) H))
theorem call_isErr (C : ErrC X.K D) (hz : Zc (.ref D) d oe) (hf : ∃ vs, oe.data = .fields vs) : CallR (X.suite a ((a, oe) :: pn)) (.builtin "isinstance") (rIsErr X.K D a d) := by
  intro pins s σ H xs us Q I r h
  obtain ⟨hd, h⟩ := h
  obtain ⟨P, Z, p⟩ := err_kit C hz hf I hd
  rcases h with ⟨c, u, b, rfl, k, e, q⟩ | ⟨tp, cs, ws, b, rfl, ht, k, e, q⟩
  · obtain ⟨u1, u2, rfl, r1, r2⟩ := vals2 r
    cases r1
    obtain rfl := k.eq r2
    exact PySem.W.kia_one Z I.kIn p e (fun z => nomatch z) fun t => ⟨.bl b, H, I.tok t, rfl, q⟩
  · obtain ⟨u1, u2, rfl, r1, r2⟩ := vals2 r
    cases r1
    cases r2
    obtain ⟨_, its, rv, ⟨oc, od, dt, sl⟩, g1, g2, n, g3⟩ := (show ObjOk X.prog X.w H s.heap tp (.tup cs) from I.hok tp _ ht)
    dsimp only at g2 g3
    subst g2 g3
    obtain rfl := ClsV.all k rv
    exact PySem.W.kia_tup Z I.kIn p g1 e (fun z => nomatch z) fun t => ⟨.bl b, H, I.tok t, rfl, q⟩
/-- the same, the class told by the reading -/
theorem call_isErrC {cls : Value} (C : ErrC X.K D) (hz : Zc cls d oe) (hf : ∃ vs, oe.data = .fields vs) : CallR (X.suite a ((a, oe) :: pn)) (.builtin "isinstance") (fun xs H Q => cls = .ref D ∧ rIsErr X.K D a d xs H Q) := by
  intro pins s σ H xs us Q I r h
  obtain ⟨e, h⟩ := h
  subst e
  exact call_isErr C hz hf pins s σ H xs us Q I r h
end

/-! ### own operators -/
/-- a method of the class by a name of its own -/
structure OpM (K : PySem.W.Frag) (C : Addr) (name : Str) (f : Addr) : Prop where
  at_ : PySem.W.findIn K (.ref C) name = some (some (.ref f))
  fn : PySem.W.isFn K (.ref f) = true
section
variable {X : Cx} {CX : CXT} {k : Nat} {f C : Addr} {fd : FuncData} {ps : List Str} {sp : Sp} {E : L2.St → XK} {a b : Expr} {ta tb : TE} {pos : Pos}
theorem back_of {pins : List (Addr × Obj)} {σ : L2.St} {Q : VK} {u : Value} {s : Shared} (h : EP X pins σ Q u s) : PySem.W.CmpBack (EP X pins σ Q) u s := by
  obtain ⟨v, H, I, r, q⟩ := id h
  cases v <;> first
    | (cases r; exact h)
    | (obtain ⟨t, rfl⟩ := r; exact h)
theorem ins_at {pins : List (Addr × Obj)} {σ : L2.St} {H : Hp} {s : Shared} {x dx : Addr} {fs : List (Str × V)} (I : Inv X pins σ H s) (e : H x = some (.ins C dx fs)) : ∃ od, PySem.W.InstAt s.heap x (PySem.W.instObj C dx) C (some od) := by
  obtain ⟨mA, J, _⟩ := ins_get I.hok e
  obtain ⟨od, J, _⟩ := J.look
  exact ⟨od, J⟩
def tBinO (C : Addr) (sp : Sp) (E : L2.St → XK) (ta tb : TE) : TE := fun σ H Q => ta σ H fun x H1 => tb σ H1 fun y H2 => ∃ p q dx dy fs gs, x = .ref p ∧ y = .ref q ∧ H2 p = some (.ins C dx fs) ∧ H2 q = some (.ins C dy gs) ∧ sp [x, y] H2 Q (E σ)
/-- a + b and its like, both of one own class -/
theorem pe_binO {op : Operator} (F : FnOk X.prog X.w X.K X.mg X.base CX k f fd ps sp) (hr : Room k X.A) (M : OpM X.K C (PySem.dunder op.info.2) f) (sf : PySem.W.selfFirst X.K C = true) (hb : Binds X.K fd ps []) (hx : ∀ σ, PassesAt CX X σ (E σ))
    (h1 : PE X a ta) (h2 : PE X b tb) : PE X (.BinOp a op b pos) (tBinO C sp E ta tb) := by
  refine ⟨fun pins s σ H Q I h => wpAny_BinOp (bin h1 h2 I h fun v u s2 x y H2 I2 rx ry q => ?_)⟩
  obtain ⟨p, q', dx, dy, fs, gs, rfl, rfl, e1, e2, q⟩ := q
  cases rx
  cases ry
  obtain ⟨o1, J1⟩ := ins_at I2 e1
  obtain ⟨o2, J2⟩ := ins_at I2 e2
  obtain ⟨m, fr⟩ := I2.fr
  exact PySem.W.binop_K fr I2.ok.mod.kin J1 J2.type sf M.at_ M.fn (thn (run_fnS (vs := [.ref p, .ref q']) F hr hb (hx σ) I2 (.cons rfl (.cons rfl .nil)) q) fun _ _ z => back_of z)
def tNegO (C : Addr) (sp : Sp) (E : L2.St → XK) (ta : TE) : TE := fun σ H Q => ta σ H fun x H1 => ∃ p dx fs, x = .ref p ∧ H1 p = some (.ins C dx fs) ∧ sp [x] H1 Q (E σ)
/-- -a of an own class -/
theorem pe_negO (F : FnOk X.prog X.w X.K X.mg X.base CX k f fd ps sp) (hr : Room k X.A) (M : OpM X.K C "__neg__" f) (hb : Binds X.K fd ps []) (hx : ∀ σ, PassesAt CX X σ (E σ))
    (h1 : PE X a ta) : PE X (.UnaryOp .USub a pos) (tNegO C sp E ta) := by
  refine ⟨fun pins s σ H Q I h => UnaryOp_ (thn (h1.run pins s σ H _ I h) fun v s1 ⟨x, H1, I1, r1, q1⟩ => ?_)⟩
  obtain ⟨p, dx, fs, rfl, e1, q⟩ := q1
  cases r1
  obtain ⟨o1, J1⟩ := ins_at I1 e1
  obtain ⟨m, fr⟩ := I1.fr
  exact PySem.W.ksp_neg fr I1.ok.mod.kin J1 M.at_ M.fn (run_fnS (vs := [.ref p]) F hr hb (hx σ) I1 (.cons rfl .nil) q)
/-- what stands to the right of an own ==: another of the class, or a tuple -/
def RhsEq (K : PySem.W.Frag) (C : Addr) (H : Hp) (y : V) : Prop := ∃ q, y = .ref q ∧ ((∃ dy gs, H q = some (.ins C dy gs)) ∨ ∃ ys, SqT K H q ys)
def tEqO (K : PySem.W.Frag) (C : Addr) (sp : Sp) (E : L2.St → XK) (ta tb : TE) : TE := fun σ H Q => ta σ H fun x H1 => tb σ H1 fun y H2 => ∃ p dx fs, x = .ref p ∧ H2 p = some (.ins C dx fs) ∧ RhsEq K C H2 y ∧ sp [x, y] H2 Q (E σ)
theorem pc_eqO (F : FnOk X.prog X.w X.K X.mg X.base CX k f fd ps sp) (hr : Room k X.A) (M : OpM X.K C "__eq__" f) (ht : PySem.W.notFirst X.K C (.type "tuple") = true) (hb : Binds X.K fd ps []) (hx : ∀ σ, PassesAt CX X σ (E σ))
    (h1 : PE X a ta) (h2 : PE X b tb) : PC X .Eq a b (tEqO X.K C sp E ta tb) := by
  refine ⟨fun pins s σ H Q I h => bin h1 h2 I h fun v u s2 x y H2 I2 rx ry q => ?_⟩
  obtain ⟨p, dx, fs, rfl, e1, ⟨q', rfl, r⟩, q⟩ := q
  cases rx
  cases ry
  obtain ⟨o1, J1⟩ := ins_at I2 e1
  obtain ⟨m, fr⟩ := I2.fr
  have run := thn (run_fnS (vs := [.ref p, .ref q']) F hr hb (hx σ) I2 (.cons rfl (.cons rfl .nil)) q) fun _ _ z => back_of z
  show wpAny _ _ (richCompare .Eq (.ref p) (.ref q')) _ _ _
  rcases r with ⟨dy, gs, e2⟩ | ⟨ys, e2⟩
  · obtain ⟨o2, J2⟩ := ins_at I2 e2
    exact PySem.W.cmp_K (op := .Eq) hr.units0 fr I2.ok.mod.kin J1 J2.type (by simp [PySem.W.notFirst]) M.at_ M.fn run
  · obtain ⟨its, rv, ⟨o, ho, hc, _⟩, _⟩ := I2.tuple e2
    exact PySem.W.cmp_K (op := .Eq) hr.units0 fr I2.ok.mod.kin J1 (fun A' Q' E' s' kp z => wpAny_typeOf_ref (kp _ _ ho) (by rw [hc]; exact z)) ht M.at_ M.fn run
end
end Ew

set_option Elab.async false
set_option linter.all false
set_option maxRecDepth 100000
set_option maxHeartbeats 4000000
namespace Ew
open PySem PySem.Spec PyProof.Rows L2
/-! ### a def of the top as it stands behind the top, and its promise -/
section
variable {P : Program} {w : World} {K : PySem.W.Frag} {mg : Str → Option Value} {base : Heap}
structure DefAt (K : PySem.W.Frag) (mg : Str → Option Value) (x : Str) (st : Stmt) (ps : List Str) : Prop where
  ex : ∃ f fd, Fun K x x st f fd ∧ mg x = some (.ref f) ∧ Binds K fd ps []
structure Cl (P : Program) (w : World) (K : PySem.W.Frag) (mg : Str → Option Value) (base : Heap) (k : Nat) (x : Str) (ps : List Str) (sp : Sp) (dvs : List V) : Prop where
  ex : ∃ f fd ds, FnOk P w K mg base (L2.CX P w) k f fd ps sp ∧ mg x = some (.ref f) ∧ PySem.W.keepIn K (.ref f) = true ∧ Binds K fd ps ds ∧ Vals dvs ds
/-- where a body runs -/
abbrev cxB (P : Program) (w : World) (K : PySem.W.Frag) (mg : Str → Option Value) (base : Heap) (N : List Str) (qual : Str) (st : Stmt) (f : Addr) (cdv : Value) (A : Around) (outer : List Env) (s : Shared) (H : Hp) (E : XK) : Cx := cxOf (L2.CX P w) P w K mg base N qual (defScope st) f cdv A outer s H E
def BodyOk (P : Program) (w : World) (K : PySem.W.Frag) (mg : Str → Option Value) (base : Heap) (N : List Str) (qual : Str) (st : Stmt) (k : Nat) (sp : Sp) : Prop :=
  ∀ (f : Addr) (cdv : Value) (A : Around) (outer : List Env) (s : Shared) (H : Hp) (vs : List V) (Q : VK) (E : XK), Room k (cxB P w K mg base N qual st f cdv A outer s H E).A → sp vs H Q E →
    ∃ t, PSs (cxB P w K mg base N qual st f cdv A outer s H E) (defBody st) t ∧ t { nx := fun _ H' => Q .non H', rt := Q } (start N vs) H
theorem DefAt.cl {x : Str} {st : Stmt} {ps N : List Str} {k : Nat} {sp : Sp} (D : DefAt K mg x st ps) (S : FnScope N ps (defScope st)) (len : ∀ vs H Q E, sp vs H Q E → vs.length = ps.length) (h : BodyOk P w K mg base N x st k sp) : Cl P w K mg base (k + 1) x ps sp [] := by
  obtain ⟨f, fd, F, g, b⟩ := D.ex
  exact ⟨f, fd, [], F.okX S len fun cdv A outer s H vs Q E hr hs => h f cdv A outer s H vs Q E hr hs, g, F.kp, b, .nil⟩
/-- a def with defaults -/
structure DefAtD (K : PySem.W.Frag) (mg : Str → Option Value) (x : Str) (st : Stmt) (ps : List Str) (dvs : List V) : Prop where
  ex : ∃ f fd, FunD K x x (defArgs st) (defBody st) (defScope st) dvs [] f fd ∧ mg x = some (.ref f) ∧ ∀ j, j ≤ dvs.length → ∃ ds, Vals (dvs.drop j) ds ∧ Binds K fd ps ds
theorem DefAtD.cl {x : Str} {st : Stmt} {ps N : List Str} {k : Nat} {sp : Sp} {dvs : List V} (D : DefAtD K mg x st ps dvs) (j : Nat) (hj : j ≤ dvs.length) (S : FnScope N ps (defScope st)) (len : ∀ vs H Q E, sp vs H Q E → vs.length = ps.length)
    (h : BodyOk P w K mg base N x st k sp) : Cl P w K mg base (k + 1) x ps sp (dvs.drop j) := by
  obtain ⟨f, fd, F, g, b⟩ := D.ex
  obtain ⟨ds, hd, hb⟩ := b j hj
  exact ⟨f, fd, ds, F.ok S len fun cdv A outer s H vs Q E hr hs => h f cdv A outer s H vs Q E hr hs, g, F.kp, hb, hd⟩
theorem fun_ok {x qual : Str} {st : Stmt} {f : Addr} {fd : FuncData} {ps N : List Str} {k : Nat} {sp : Sp} (F : Fun K x qual st f fd) (S : FnScope N ps (defScope st)) (len : ∀ vs H Q E, sp vs H Q E → vs.length = ps.length) (h : BodyOk P w K mg base N qual st k sp) :
    FnOk P w K mg base (L2.CX P w) (k + 1) f fd ps sp := F.okX S len fun cdv A outer s H vs Q E hr hs => h f cdv A outer s H vs Q E hr hs
end
/-! ### calls -/
section
variable {X : Cx} {k j : Nat} {x m : Str} {ps : List Str} {sp : Sp} {dvs : List V} {e o : Expr} {es : List Expr} {t : TA} {ta : TE} {p pos apos : Pos} {W : WX} {C : Addr}
theorem run_dv {f : Addr} {fd : FuncData} {ds : List Value} {pins : List (Addr × Obj)} {σ : L2.St} {H : Hp} {s : Shared} {Q : VK} {us : List Value} {vs : List V} (F : FnOk X.prog X.w X.K X.mg X.base (L2.CX X.prog X.w) k f fd ps sp) (hr : Room k X.A) (hb : Binds X.K fd ps ds) (hd : Vals dvs ds)
    (tk : Takes X W) (I : Inv X pins σ H s) (r : Vals vs us) (h : sp (vs ++ dvs) H Q (WE W σ)) : wpAny (model X.prog X.w) X.A (call (.ref f) us) (EP X pins σ Q) X.xe s := by
  have r2 := r.append hd
  have hl : (us ++ ds).length = ps.length := by rw [← r2.length]; exact F.len _ _ _ _ h
  refine wpAny_call (codeAny_mono (F.run X.A X.stack s H ⟨us, []⟩ (us ++ ds) (vs ++ dvs) Q (WE W σ) hr I.env0 (hb s us I.kIn hl) r2 h) fun y s' hq => ?_)
  match y, hq with
  | .error e, hq => exact passAt tk σ pins H s e s' I hq
  | .ok (.ret u), hq => exact I.after hq
def tF (sp : Sp) (dvs : List V) (W : WX) (t : TA) : TE := fun σ H Q => t σ H fun vs H1 => sp (vs ++ dvs) H1 Q (WE W σ)
theorem pe_f (c : Cl X.prog X.w X.K X.mg X.base k x ps sp dvs) (tk : Takes X W) (hr : Room j X.A) (hk : k ≤ j) (hg : Gl X x) (ha : PA X (e :: es) t) (hdb : (x == ("__debug__" : Str)) = false := by decide)
    (he : starEach (e :: es) X.env = (false, eval e X.env) :: starEach es X.env := by rfl) (hpl : (backTo pos (starEach es X.env)).any (·.1) = false := by rfl) : PE X (.Call (.Name x p) (e :: es) [] pos) (tF sp dvs W t) := by
  obtain ⟨f, fd, ds, F, hm, hkp, hb, hd⟩ := c.ex
  exact ⟨fun pins s σ H Q I h => wpAny_Call_Name_kw (ld_glob I hg hm (PySem.W.callWith_K (h₀ := X.base) I.ok.mod.kin hkp (thn (ha.run pos pins s σ H _ I h) fun us s1 ⟨vs, H1, I1, r, q⟩ => ⟨I1.kIn, run_dv F (hr.mono hk) hb hd tk I1 r q⟩) he hpl) hdb)⟩
/-- a method of the class at C -/
structure Mt (P : Program) (w : World) (K : PySem.W.Frag) (mg : Str → Option Value) (base : Heap) (k : Nat) (C : Addr) (m : Str) (ps : List Str) (sp : Sp) (dvs : List V) : Prop where
  cl : Cls K C
  ex : ∃ f fd ds, Meth K C m f ∧ FnOk P w K mg base (L2.CX P w) k f fd ps sp ∧ Binds K fd ps ds ∧ Vals dvs ds
def tM (C : Addr) (m : Str) (sp : Sp) (dvs : List V) (W : WX) (ta : TE) (t : TA) : TE := fun σ H Q => ta σ H fun x H1 => ∃ a dx fs, x = .ref a ∧ H1 a = some (.ins C dx fs) ∧ fs.lookup m = none ∧ t σ H1 fun vs H2 => sp (x :: (vs ++ dvs)) H2 Q (WE W σ)
theorem pe_mf {pl : Sem Bool} (c : Mt X.prog X.w X.K X.mg X.base k C m ps sp dvs) (tk : Takes X W) (hr : Room j X.A) (hk : k ≤ j) (he : PE X o ta) (ha : PA X (e :: es) t)
    (hst : starEach (e :: es) X.env = (false, eval e X.env) :: starEach es X.env := by rfl) (hpl : (backTo pos (starEach es X.env)).any (·.1) = false := by rfl)
    (ht : eval (.Call (.Attribute o m apos) (e :: es) [] pos) X.env = (do
      let v ← eval o X.env
      standAt apos.atName
      let (g, first) ← holding [v] (getMethod v m pl)
      callWith pos g first (backTo pos (starEach (e :: es) X.env)) (backToKw pos (keywordEach [] X.env))) := by rfl) :
    PE X (.Call (.Attribute o m apos) (e :: es) [] pos) (tM C m sp dvs W ta t) := by
  obtain ⟨f, fd, ds, hm, F, hb, hd⟩ := c.ex
  refine ⟨fun pins s σ H Q I h => PySem.W.methodCall_KW (pl := pl) (thn (he.run pins s σ H _ I h) fun u s1 ⟨x, H1, I1, rx, a, dx, fs, ex, ea, l, q⟩ => ?_) ht⟩
  subst ex
  obtain rfl : u = Value.ref a := rx
  refine getmeth_ok I1 ea c.cl hm l ?_
  refine PySem.W.callWith_K (h₀ := X.base) I1.ok.mod.kin hm.kp (thn (ha.run pos pins s1 σ H1 _ I1 q) fun us s2 ⟨vs, H2, I2, r, q2⟩ => ⟨I2.kIn, ?_⟩) hst hpl
  exact run_dv (vs := .ref a :: vs) F (hr.mono hk) hb hd tk I2 (.cons rfl r) q2
/-- a new instance of the class x at C -/
structure Mkr (P : Program) (w : World) (K : PySem.W.Frag) (mg : Str → Option Value) (base : Heap) (k : Nat) (x : Str) (C : Addr) (ps : List Str) (sp : Sp) : Prop where
  gC : mg x = some (.ref C)
  ex : ∃ f fd, Mk K C f ∧ FnOk P w K mg base (L2.CX P w) k f fd ps sp ∧ Binds K fd ps []
theorem pe_mkf (c : Mkr X.prog X.w X.K X.mg X.base k x C ps sp) (hr : Room j X.A) (hk : k + 1 ≤ j) (hg : Gl X x) (ha : PA X (e :: es) t) (hdb : (x == ("__debug__" : Str)) = false := by decide)
    (he : starEach (e :: es) X.env = (false, eval e X.env) :: starEach es X.env := by rfl) (hpl : (backTo pos (starEach es X.env)).any (·.1) = false := by rfl) : PE X (.Call (.Name x p) (e :: es) [] pos) (tMake C sp [] E0 t) := by
  obtain ⟨f, fd, M, F, hb⟩ := c.ex
  exact pe_make M F (hr.mono hk) hg c.gC hb .nil passL ha hdb he hpl
/-- an own error made by C(e, ..) -/
structure Mke (P : Program) (w : World) (K : PySem.W.Frag) (mg : Str → Option Value) (base : Heap) (k : Nat) (x : Str) (C : Addr) (ps : List Str) (sp : Sp) : Prop where
  gC : mg x = some (.ref C)
  ox : OexC K C
  ex : ∃ f fd, PySem.W.findIn K (.ref C) "__init__" = some (some (.ref f)) ∧ PySem.W.typeIn K (.ref f) = some (.type "function") ∧ FnOk P w K mg base (L2.CX P w) k f fd ps sp ∧ Binds K fd ps []
theorem pmk_err (c : Mke X.prog X.w X.K X.mg X.base k x C ps sp) (hr : Room j X.A) (hk : k + 1 ≤ j) (hg : Gl X x) (ha : PA X (e :: es) t) (hdb : (x == ("__debug__" : Str)) = false := by decide)
    (he : starEach (e :: es) X.env = (false, eval e X.env) :: starEach es X.env := by rfl) (hpl : (backTo pos (starEach es X.env)).any (·.1) = false := by rfl) : PMk X (.Call (.Name x p) (e :: es) [] pos) (tMkO C sp [] t) := by
  obtain ⟨f, fd, hi, ht, F, hb⟩ := c.ex
  exact pmk_oex c.ox hi ht F (hr.mono hk) hb .nil passL hg c.gC ha hdb he hpl
end
/-! ### what is frozen: F, a part of the heap that stays; m: what may be changed -/
structure Stm (m : Addr → Prop) (F H F' H' : Hp) : Prop where
  ff : Same F F'
  fh : Same F' H'
  hh : ∀ a o, ¬ m a → H a = some o → H' a = some o
  nw : ∀ a, F a = none → H a ≠ none → F' a = none
abbrev Stp := Stm (fun _ => False)
section
variable {m m' : Addr → Prop} {F H F' H' F2 H2 : Hp} {p : Addr} {o : HO}
theorem Stm.refl (h : Same F H) : Stm m F H F H := ⟨Same.refl F, h, fun _ _ _ e => e, fun _ n _ => n⟩
theorem Stm.mono (a : Stm m F H F' H') (h : ∀ x, m x → m' x) : Stm m' F H F' H' := ⟨a.ff, a.fh, fun x o n e => a.hh x o (fun z => n (h x z)) e, a.nw⟩
theorem Stm.any (a : Stp F H F' H') : Stm m F H F' H' := a.mono fun _ z => z.elim
theorem Stm.same (a : Stp F H F' H') : Same H H' := fun x o e => a.hh x o (fun z => z) e
theorem Stm.there (a : Stm m F H F' H') (hm : ∀ x, m x → H x ≠ none → H' x ≠ none) {x : Addr} (h : H x ≠ none) : H' x ≠ none := by
  by_cases q : m x
  · exact hm x q h
  · cases e : H x with
    | none => exact absurd e h
    | some o => rw [a.hh x o q e]; exact fun z => nomatch z
theorem Stm.trans (a : Stm m F H F' H') (b : Stm m F' H' F2 H2) (hm : ∀ x, m x → H x ≠ none → H' x ≠ none) : Stm m F H F2 H2 :=
  ⟨a.ff.trans b.ff, b.fh, fun x o n e => b.hh x o n (a.hh x o n e), fun q n z => b.nw q (a.nw q n z) (a.there hm z)⟩
theorem Stm.transP (a : Stp F H F' H') (b : Stp F' H' F2 H2) : Stp F H F2 H2 := a.trans b fun _ z => z.elim
theorem same_new (h : H p = none) : Same H (upd H p o) := fun b u e => by rw [upd_ne (ne_of_none e h)]; exact e
/-- a new thing is laid, and frozen at once -/
theorem Stm.new (a : Stm m F H F' H') (hp : H' p = none) (h0 : H p = none) : Stm m F H (upd F' p o) (upd H' p o) where
  ff := a.ff.trans (same_new (a.fh.free hp))
  fh := fun b u e => by
    by_cases hb : b = p
    · subst hb; rw [upd_same] at e ⊢; exact e
    · rw [upd_ne hb] at e ⊢; exact a.fh b u e
  hh := fun x u n e => by rw [upd_ne (ne_of_none e h0)]; exact a.hh x u n e
  nw := fun x n z => by rw [upd_ne (fun q => z (by rw [q]; exact h0))]; exact a.nw x n z
/-- a new thing is laid that is to be changed further -/
theorem Stm.raw (a : Stm m F H F' H') (hp : H' p = none) (h0 : H p = none) : Stm m F H F' (upd H' p o) := ⟨a.ff, a.fh.trans (same_new hp), fun x u n e => by rw [upd_ne (ne_of_none e h0)]; exact a.hh x u n e, a.nw⟩
/-- a thing of the def's own is changed -/
theorem Stm.mut (a : Stm m F H F' H') (hf : F' p = none) (h0 : H p = none) : Stm m F H F' (upd H' p o) := ⟨a.ff, fun b u e => by rw [upd_ne (ne_of_none e hf)]; exact a.fh b u e, fun x u n e => by rw [upd_ne (ne_of_none e h0)]; exact a.hh x u n e, a.nw⟩
/-- a thing of the def's own stays from now on -/
theorem Stm.freeze (a : Stm m F H F' H') (hf : F' p = none) (h0 : H p = none) (e : H' p = some o) : Stm m F H (upd F' p o) H' where
  ff := a.ff.trans (same_new hf)
  fh := fun b u q => by
    by_cases hb : b = p
    · subst hb; rw [upd_same] at q; rw [e]; exact q
    · rw [upd_ne hb] at q; exact a.fh b u q
  hh := a.hh
  nw := fun x n z => by rw [upd_ne (fun q => z (by rw [q]; exact h0))]; exact a.nw x n z
/-- fresh now is fresh at the start, where what may change is there -/
theorem Stm.fresh (a : Stm m F H F' H') (hm : ∀ x, m x → H' x ≠ none) {x : Addr} (h : H' x = none) : H x = none := by
  by_cases q : m x
  · exact absurd h (hm x q)
  · cases e : H x with
    | none => rfl
    | some o => rw [a.hh x o q e] at h; cases h
theorem Stm.freshP (a : Stp F H F' H') {x : Addr} (h : H' x = none) : H x = none := a.fresh (fun _ z => z.elim) h
theorem Stm.newP (a : Stp F H F' H') (hp : H' p = none) : Stp F H (upd F' p o) (upd H' p o) := a.new hp (a.freshP hp)
theorem stp_new (h : Same F H) (hp : H p = none) : Stp F H (upd F p o) (upd H p o) := (Stm.refl h).newP hp
end
theorem upT {K : PySem.W.Frag} {H H' : Hp} {a : Addr} {xs : List V} (e : Same H H') (h : SqT K H a xs) : SqT K H' a xs := h.ext e
theorem upL {K : PySem.W.Frag} {H H' : Hp} {a : Addr} {xs : List V} (e : Same H H') (h : SqL K H a xs) : SqL K H' a xs := h.ext e
theorem sq_new {K : PySem.W.Frag} {H : Hp} {p : Addr} {xs : List V} : SqT K (upd H p (.tup xs)) p xs := SqT.of upd_same
/-- what a def promises that changes nothing: a part of the heap stays, the answer stands in it -/
def Pu (F H : Hp) (Q : VK) (post : Hp → V → Prop) : Prop := Same F H ∧ ∀ F' H' v, Stp F H F' H' → post F' v → Q v H'
theorem iteY {c A B : Prop} [Decidable c] (h : c) (x : A) : if c then A else B := by rw [if_pos h]; exact x
theorem iteN {c A B : Prop} [Decidable c] (h : ¬ c) (x : B) : if c then A else B := by rw [if_neg h]; exact x
theorem vint_ne {a b : Int} (h : a ≠ b) : ¬ decide (V.int a = V.int b) = true := fun z => h (V.int.inj (of_decide_eq_true z))
theorem vint_eq {a b : Int} (h : a = b) : decide (V.int a = V.int b) = true := decide_eq_true (congrArg V.int h)
/-! ### // by any divisor but 0 -/
def CDivX (_ j : Int) : Prop := j ≠ 0 ∧ j.natAbs.log2 < 9000
theorem op_fdivX {X : Cx} : OpR X (binaryOp .FloorDiv) (rI CDivX fun i j => .int (i.fdiv j)) := opI fun _ _ _ _ _ _ _ hc q => floordiv_int hc.1 q (.inl (PyProof.noPylong_of_log2 hc.2))
end Ew

set_option Elab.async false
set_option linter.all false
set_option maxRecDepth 100000
set_option maxHeartbeats 4000000
namespace Ew
open PySem PySem.Spec PyProof.Rows L2
/-- an error's __init__ that keeps its one argument (its two) -/
def spI1 (C : Addr) (f : Str) : Sp := fun vs H Q _ => ∃ x v, vs = [.ref x, v] ∧ H x = some (exo x C none) ∧ ∀ dx, H dx = none → dx ≠ x → Q .non (upd (upd H dx (exd dx [(f, v)])) x (exo x C (some dx)))
def spI2 (C : Addr) (f g : Str) : Sp := fun vs H Q _ => ∃ x u v, vs = [.ref x, u, v] ∧ H x = some (exo x C none) ∧
  ∀ dx, H dx = none → dx ≠ x → Q .non (upd (upd (upd H dx (exd dx [(f, u)])) x (exo x C (some dx))) dx (exd dx [(g, v), (f, u)]))
theorem back1 {H : Hp} {a d : Addr} {o1 o2 o3 o4 : HO} (ha : H a = none) (h : d ≠ a) : upd (del (upd (upd (upd H a o1) d o2) a o3) a) d o4 = upd H d o4 := by
  funext b
  by_cases e : b = d
  · subst e; rw [upd_same, upd_same]
  · rw [upd_ne e, upd_ne e]
    by_cases e2 : b = a
    · subst e2; rw [del_same, ha]
    · rw [del_ne e2, upd_ne e2, upd_ne e, upd_ne e2]
theorem back2 {H : Hp} {a d : Addr} {o1 o2 o3 o4 o5 : HO} (ha : H a = none) (h : d ≠ a) : upd (del (upd (upd (upd (upd H a o1) d o2) a o3) d o5) a) d o4 = upd H d o4 := by
  funext b
  by_cases e : b = d
  · subst e; rw [upd_same, upd_same]
  · rw [upd_ne e, upd_ne e]
    by_cases e2 : b = a
    · subst e2; rw [del_same, ha]
    · rw [del_ne e2, upd_ne e, upd_ne e2, upd_ne e, upd_ne e2]
section
variable {X : Cx} {k j : Nat} {x f g : Str} {ps : List Str} {e e2 : Expr} {te te2 : TE} {p pos pos2 : Pos} {W : WX} {C : Addr}
def tR1 (C : Addr) (f : Str) (W : WX) (te : TE) : TS := fun _ σ H => te σ H fun v H1 => ∀ d, H1 d = none → W (.ref C) (some d) σ (upd H1 d (.xd [(f, v)]))
def tR2 (C : Addr) (f g : Str) (W : WX) (te te2 : TE) : TS := fun _ σ H => te σ H fun u H1 => te2 σ H1 fun v H2 => ∀ d, H2 d = none → W (.ref C) (some d) σ (upd H2 d (.xd [(g, v), (f, u)]))
theorem ps_weak {st : Stmt} {t t' : TS} (h : PS X st t) (q : ∀ D σ H, t' D σ H → t D σ H) : PS X st t' := ⟨fun pins s σ H D I z => h.run pins s σ H D I (q D σ H z)⟩
end
/-- te says what it says of more, too -/
def TeMono (te : TE) : Prop := ∀ σ H (Q Q' : VK), (∀ v H', Q v H' → Q' v H') → te σ H Q → te σ H Q'
theorem pe_up {X : Cx} {e : Expr} {te : TE} (h : PE X e te) : PE X e fun σ H Q => ∃ Q', (∀ v H', Q' v H' → Q v H') ∧ te σ H Q' := ⟨fun pins s σ H Q I ⟨Q', q, z⟩ => thn (h.run pins s σ H Q' I z) fun _ _ ⟨v, H', I', r, y⟩ => ⟨v, H', I', r, q v H' y⟩⟩
section
variable {X : Cx} {k j : Nat} {x f g : Str} {ps : List Str} {e e2 : Expr} {te te2 : TE} {p pos pos2 : Pos} {W : WX} {C : Addr}
theorem ps_raise1 (hc : X.calm = true) (tk : Takes X W) (c : Mke X.prog X.w X.K X.mg X.base k x C ps (spI1 C f)) (hr : Room j X.A) (hk : k + 1 ≤ j) (hg : Gl X x) (he : PE X e te) (hdb : (x == ("__debug__" : Str)) = false := by decide)
    (hs : starEach [e] X.env = [(false, eval e X.env)] := by rfl) (hpl : (backTo pos (starEach ([] : List Expr) X.env)).any (·.1) = false := by rfl) : PS X (.Raise (some (.Call (.Name x p) [e] [] pos)) none pos2) (tR1 C f W te) := by
  refine ps_weak (ps_raise hc tk (pmk_err c hr hk hg (pa_cons (pe_up he) pa_nil hs) hdb hs hpl)) fun D σ H h => ⟨_, fun v H1 z => ?_, h⟩
  refine ⟨Nat.le_of_ble_eq_true rfl, fun a ha => ⟨a, v, rfl, upd_same, fun dx n ne => ⟨rfl, dx, [(f, v)], upd_same, ?_, ?_, ?_⟩⟩⟩
  · rw [upd_ne ne, upd_same]
  · rw [upd_ne ne] at n; exact n
  · rw [back1 ha ne]
    rw [upd_ne ne] at n
    exact z dx n
theorem ps_raise2 (hc : X.calm = true) (tk : Takes X W) (c : Mke X.prog X.w X.K X.mg X.base k x C ps (spI2 C f g)) (hr : Room j X.A) (hk : k + 1 ≤ j) (hg : Gl X x) (he : PE X e te) (he2 : PE X e2 te2) (hdb : (x == ("__debug__" : Str)) = false := by decide)
    (hs : starEach [e, e2] X.env = [(false, eval e X.env), (false, eval e2 X.env)] := by rfl) (hs2 : starEach [e2] X.env = [(false, eval e2 X.env)] := by rfl) (hpl : (backTo pos (starEach [e2] X.env)).any (·.1) = false := by rfl) :
    PS X (.Raise (some (.Call (.Name x p) [e, e2] [] pos)) none pos2) (tR2 C f g W te te2) := by
  have hs' : starEach [e, e2] X.env = (false, eval e X.env) :: starEach [e2] X.env := by rw [hs, hs2]
  refine ps_weak (ps_raise hc tk (pmk_err c hr hk hg (pa_cons (pe_up he) (pa_cons (pe_up he2) pa_nil hs2) hs') hdb hs' hpl)) fun D σ H h => ⟨_, fun u H1 y => ⟨_, fun v H2 z => ?_, y⟩, h⟩
  refine ⟨Nat.le_of_ble_eq_true rfl, fun a ha => ⟨a, u, v, rfl, upd_same, fun dx n ne => ⟨rfl, dx, [(g, v), (f, u)], ?_, upd_same, ?_, ?_⟩⟩⟩
  · rw [upd_ne (Ne.symm ne), upd_same]
  · rw [upd_ne ne] at n; exact n
  · rw [back2 ha ne]
    rw [upd_ne ne] at n
    exact z dx n
end
/-- what a def promises of an error that leaves it -/
def Ra (F H : Hp) (E : XK) (C : Addr) (post : Hp → Addr → Prop) : Prop := ∀ F' H' d, Stp F H F' H' → post F' d → E (.ref C) (some d) H'
theorem ty_sqT {K : PySem.W.Frag} {H : Hp} {p : Addr} {xs : List V} (h : SqT K H p xs) : TyX K H (.ref p) (.type "tuple") := by
  rcases h with (h | ⟨o, h⟩) | h
  · exact .base (.tup h)
  · exact .fTuple h
  · obtain ⟨o, its, n, e, c, _⟩ := h
    exact .kTuple e c
theorem ty_sqL {K : PySem.W.Frag} {H : Hp} {p : Addr} {xs : List V} (h : SqL K H p xs) : TyX K H (.ref p) (.type "list") := by
  rcases h with (h | ⟨o, h⟩) | h
  · exact .base (.lst h)
  · exact .base (.frz h)
  · obtain ⟨o, its, n, e, c, _⟩ := h
    exact .kList e c
end Ew

set_option Elab.async false
set_option linter.all false
set_option maxRecDepth 100000
set_option maxHeartbeats 4000000
namespace Ew
open PySem PySem.Spec PyProof.Rows L2
/-- what may be changed (m), and what stays true of it (I) -/
structure Mem (m : Addr → Prop) (I : Hp → Hp → Prop) : Prop where
  there : ∀ {F H x}, I F H → m x → H x ≠ none
  off : ∀ {F H x}, I F H → m x → F x = none
  put : ∀ {F H p o}, I F H → ¬ m p → I F (upd H p o)
  grow : ∀ {F F' H}, I F H → Same F F' → (∀ x, m x → F' x = none) → I F' H
theorem memP : Mem (fun _ => False) (fun _ _ => True) := ⟨fun _ z => z.elim, fun _ z => z.elim, fun _ _ => trivial, fun _ _ _ => trivial⟩
section
variable {m : Addr → Prop} {I : Hp → Hp → Prop} {F H F' H' F2 H2 : Hp} {J : It} {n : Nat} {G : Hp → Prop} {Y : Nat → Hp → V → Hp → Prop}
theorem Stm.then (M : Mem m I) (i : I F' H') (a : Stm m F H F' H') (b : Stm m F' H' F2 H2) : Stm m F H F2 H2 := a.trans b fun _ z _ => M.there i z
/-- a comprehension: each turn gives one item, of which R says what is wanted; the new list is frozen at the end -/
theorem lcM (M : Mem m I) (w : Walk J n G Y) {g : TG} {tt : TT} {te : TE} {vs : List Nat} {σ : L2.St} {D : Addr} {Qd : Hp → Prop} (hf : Same F H) (i0 : I F H) (hD : H D = none) (R : Nat → Hp → V → Prop) (hR : ∀ i F F' y, Same F F' → R i F y → R i F' y)
    (hn : n ≤ 1000000) (hG : ∀ F' H', Same F F' → Same F' H' → G H')
    (hs : ∀ i x F' H' H'' (Kt : VK) (Kn : Hp → Prop), i < n → Stm m F H F' H' → I F' H' → Y i H' x H'' → (∀ y F4 H4, Stm m F' H' F4 H4 → I F4 H4 → R i F4 y → Kt y H4) →
      g x (wipe σ vs) H'' fun σ2 H2 => wipe σ2 vs = wipe σ vs ∧ tt σ2 H2 fun b H3 => if b = true then te σ2 H3 Kt else Kn H3)
    (hd : ∀ F' H' ys, Stm m F H F' H' → I F' H' → F' D = some (.lst ys) → ys.length = n → (∀ j y, ys[j]? = some y → R j F' y) → Qd H') :
    ∃ W : Nat → Nat → Hp → Prop, (∃ k, W 0 k (upd H D (.lst []))) ∧ ∀ i k H, W i k H →
      (J.stop i H ∧ Qd H) ∨ (J.go i H ∧ ∃ Nx : Hp → Prop, (∀ H', Nx H' → ∃ k', k' < k ∧ W (i + 1) k' H') ∧ ∀ x H', J.yld i H x H' → g x (wipe σ vs) H' fun σ2 H2 => wipe σ2 vs = wipe σ vs ∧ tt σ2 H2 fun b H3 =>
        if b = true then te σ2 H3 fun y H4 => ∃ acc, H4 D = some (.lst acc) ∧ acc.length < sizeLine ∧ Nx (upd H4 D (.lst (acc ++ [y]))) else Nx H3) := by
  have nm : ¬ m D := fun z => M.there i0 z hD
  have fD : F D = none := hf.free hD
  refine lc_it w (fun i H' => ∃ F' acc, Stm m F H F' H' ∧ I F' H' ∧ F' D = none ∧ H' D = some (.lst acc) ∧ acc.length = i ∧ ∀ j y, acc[j]? = some y → R j F' y) ?_ ?_ ?_ ?_
  · exact ⟨F, [], (Stm.refl hf).raw hD hD, M.put i0 nm, fD, upd_same, rfl, fun j y z => by simp at z⟩
  · rintro i H' _ ⟨F', acc, s, _⟩
    exact hG F' H' s.ff s.fh
  · rintro i x H' H'' hi ⟨F', acc, s, iv, f', h', hl, hr⟩ y
    refine hs i x F' H' H'' _ _ hi s iv y fun y F4 H4 s4 i4 r4 => ?_
    have f4 : F4 D = none := s4.nw D f' (by rw [h']; exact fun z => nomatch z)
    have h4 : H4 D = some (.lst acc) := s4.hh D _ nm h'
    refine ⟨acc, h4, by rw [sizeLine_eq]; omega, F4, acc ++ [y], (s.then M iv s4).mut f4 hD, M.put i4 nm, f4, upd_same, by rw [List.length_append, hl]; rfl, fun j z hz => ?_⟩
    rcases Nat.lt_or_ge j acc.length with hj | hj
    · rw [List.getElem?_append_left hj] at hz
      exact hR j F' F4 z s4.ff (hr j z hz)
    · rw [List.getElem?_append_right hj] at hz
      have e0 : j - acc.length = 0 := by
        rcases Nat.eq_zero_or_pos (j - acc.length) with h0 | h0
        · exact h0
        · rw [List.getElem?_eq_none (by simp; omega)] at hz; cases hz
      rw [e0] at hz
      cases hz
      have ej : j = i := by omega
      rw [ej]
      exact r4
  · rintro H' ⟨F', acc, s, iv, f', h', hl, hr⟩
    refine hd (upd F' D (.lst acc)) H' acc (s.freeze f' hD h') (M.grow iv (same_new f') fun x hx => ?_) upd_same hl fun j y hy => hR j F' _ y (same_new f') (hr j y hy)
    rw [upd_ne (fun z => nm (by rw [← z]; exact hx))]
    exact M.off iv hx
theorem lc_yes {te : TE} {σ : L2.St} {H : Hp} {Kt : VK} {Kn : Hp → Prop} (h : te σ H Kt) : tYes σ H fun b H3 => if b = true then te σ H3 Kt else Kn H3 := by
  show if true = true then te σ H Kt else Kn H
  rw [if_pos rfl]
  exact h
end
end Ew

set_option Elab.async false
set_option linter.all false
set_option maxRecDepth 100000
set_option maxHeartbeats 4000000
namespace Ew
open PySem PySem.Spec PyProof.Rows L2
/-- a tuple of ints as data -/
def intT (ds : List Int) : PyData := .tuple (ds.map .int)
theorem dpAll_ints {K : PySem.W.Frag} {H : Hp} : ∀ ds : List Int, DpAll K H (ds.map V.int) (ds.map PyData.int)
  | [] => .nil
  | d :: ds => .cons (.int d) (dpAll_ints ds)
theorem dp_ints {K : PySem.W.Frag} {H : Hp} {p : Addr} {ds : List Int} (h : SqT K H p (ds.map V.int)) : Dp K H (.ref p) (intT ds) := .tup h (dpAll_ints ds)
theorem eqvAll_ints : ∀ a b : List Int, PyData.eqvAll (a.map .int) (b.map .int) = decide (a = b)
  | [], [] => rfl
  | [], y :: b => rfl
  | x :: a, [] => rfl
  | x :: a, y :: b => by
    rw [List.map_cons, List.map_cons, PyData.eqvAll, PyData.eqv, eqvAll_ints a b]
    by_cases h : x = y
    · subst h; by_cases h2 : a = b <;> simp [h2]
    · simp [h]
theorem eqv_ints (a b : List Int) : PyData.eqv (intT a) (intT b) = decide (a = b) := by
  unfold intT
  rw [PyData.eqv, eqvAll_ints]
theorem lay_ints : ∀ ds : List Int, PyData.canLayAll0 (ds.map PyData.int) = true
  | [] => by rw [List.map_nil, PyData.canLayAll0]
  | d :: ds => by rw [List.map_cons, PyData.canLayAll0, lay_ints ds, PyData.canLay0, Bool.and_self]
theorem dep_ints : ∀ ds : List Int, PyData.depthAll (ds.map PyData.int) = 0
  | [] => by rw [List.map_nil, PyData.depthAll]
  | d :: ds => by rw [List.map_cons, PyData.depthAll, dep_ints ds, PyData.depth, Nat.max_self]
theorem shaped_ints (ds : List Int) : SeqAt.shaped (intT ds) = true := by
  unfold SeqAt.shaped intT
  rw [PyData.canLay0, lay_ints, PyData.depth, dep_ints]
  rfl
/-! ### ratios -/
/-- at v a pair of ints; a tuple of ints -/
def Rt (K : PySem.W.Frag) (F : Hp) (v : V) (r : Int × Int) : Prop := ∃ p, v = .ref p ∧ SqT K F p [.int r.1, .int r.2]
def Dm (K : PySem.W.Frag) (F : Hp) (v : V) (ds : List Int) : Prop := ∃ p, v = .ref p ∧ SqT K F p (ds.map V.int)
section
variable {K : PySem.W.Frag} {F F' : Hp} {v : V} {r : Int × Int} {ds : List Int}
theorem Rt.up (h : Rt K F v r) (e : Same F F') : Rt K F' v r := by obtain ⟨p, h1, h2⟩ := h; exact ⟨p, h1, upT e h2⟩
theorem Dm.up (h : Dm K F v ds) (e : Same F F') : Dm K F' v ds := by obtain ⟨p, h1, h2⟩ := h; exact ⟨p, h1, upT e h2⟩
theorem Rt.dp (h : Rt K F v r) : Dp K F v (intT [r.1, r.2]) := by obtain ⟨p, rfl, h2⟩ := h; exact dp_ints h2
theorem Dm.dp (h : Dm K F v ds) : Dp K F v (intT ds) := by obtain ⟨p, rfl, h2⟩ := h; exact dp_ints h2
end
/-- the common divisor, with the sign of d -/
def com (n d : Int) : Int := if d < 0 then -((Nat.gcd n.natAbs d.natAbs : Nat) : Int) else ((Nat.gcd n.natAbs d.natAbs : Nat) : Int)
/-- n / d in lowest terms -/
def rat (n d : Int) : Int × Int := (n.fdiv (com n d), d.fdiv (com n d))
/-- size: below 2 ^ b -/
def Sz (b : Nat) (n : Int) : Prop := n.natAbs < 2 ^ b
theorem Sz.mono {a b : Nat} {n : Int} (h : Sz a n) (k : a ≤ b) : Sz b n := Nat.lt_of_lt_of_le h (Nat.pow_le_pow_right (by decide) k)
theorem Sz.log {b : Nat} {n : Int} (h : Sz b n) (h0 : 0 < b) (k : b ≤ 9000) : n.natAbs.log2 < 9000 := Nat.lt_of_lt_of_le (PySem.Flt.log2_lt_of h0 h) k
theorem Sz.mul {a b : Nat} {m n : Int} (h : Sz a m) (k : Sz b n) : Sz (a + b) (m * n) := wide_lt h k
theorem Sz.add {a : Nat} {m n : Int} (h : Sz a m) (k : Sz a n) : Sz (a + 1) (m + n) := by
  unfold Sz at *
  have := Int.natAbs_add_le m n
  rw [Nat.pow_succ]
  omega
theorem Sz.sub {a : Nat} {m n : Int} (h : Sz a m) (k : Sz a n) : Sz (a + 1) (m - n) := by
  unfold Sz at *
  rw [Nat.pow_succ]
  omega
theorem Sz.neg {a : Nat} {m : Int} (h : Sz a m) : Sz a (-m) := by
  unfold Sz at *
  rwa [Int.natAbs_neg]
theorem com_ne {n d : Int} (h : d ≠ 0) : com n d ≠ 0 := by
  have g : 0 < Nat.gcd n.natAbs d.natAbs := Nat.gcd_pos_of_pos_right _ (by omega)
  unfold com
  split <;> omega
theorem com_abs (n d : Int) : (com n d).natAbs = Nat.gcd n.natAbs d.natAbs := by
  unfold com
  split <;> simp
theorem com_sz {n d : Int} {b : Nat} (h0 : d ≠ 0) (h : Sz b d) : Sz b (com n d) := by
  unfold Sz
  rw [com_abs]
  exact Nat.lt_of_le_of_lt (Nat.gcd_le_right _ (by omega)) h
theorem com_dn (n d : Int) : com n d ∣ n := by
  rw [← Int.natAbs_dvd_natAbs, com_abs]
  exact Nat.gcd_dvd_left _ _
theorem com_dd (n d : Int) : com n d ∣ d := by
  rw [← Int.natAbs_dvd_natAbs, com_abs]
  exact Nat.gcd_dvd_right _ _
theorem fdiv_abs {n c : Int} (h : c ∣ n) : (n.fdiv c).natAbs = n.natAbs / c.natAbs := by
  obtain ⟨k, rfl⟩ := h
  by_cases h0 : c = 0
  · subst h0; simp
  · rw [Int.mul_fdiv_cancel_left _ h0, Int.natAbs_mul, Nat.mul_div_cancel_left _ (by omega)]
theorem Sz.fdiv {n c : Int} {b : Nat} (h : Sz b n) (hd : c ∣ n) : Sz b (n.fdiv c) := by
  unfold Sz
  rw [fdiv_abs hd]
  exact Nat.lt_of_le_of_lt (Nat.div_le_self _ _) h
theorem rat_sz {n d : Int} {b : Nat} (h1 : Sz b n) (h2 : Sz b d) : Sz b (rat n d).1 ∧ Sz b (rat n d).2 := ⟨h1.fdiv (com_dn n d), h2.fdiv (com_dd n d)⟩
theorem rat_pos {n d : Int} (h : d ≠ 0) : 0 < (rat n d).2 := by
  show 0 < d.fdiv (com n d)
  have g : 0 < Nat.gcd n.natAbs d.natAbs := Nat.gcd_pos_of_pos_right _ (by omega)
  obtain ⟨k, hk⟩ := com_dd n d
  have hc := com_ne (n := n) h
  have e : d.fdiv (com n d) = k := by
    conv => lhs; lhs; rw [hk]
    rw [Int.mul_fdiv_cancel_left _ hc]
  rw [e]
  unfold com at hk
  split at hk
  · rename_i hd
    rcases Int.lt_trichotomy k 0 with q | q | q
    · have : 0 < -((Nat.gcd n.natAbs d.natAbs : Nat) : Int) * k := Int.mul_pos_of_neg_of_neg (by omega) q
      omega
    · subst q; simp at hk; omega
    · exact q
  · rename_i hd
    rcases Int.lt_trichotomy k 0 with q | q | q
    · have : ((Nat.gcd n.natAbs d.natAbs : Nat) : Int) * k < 0 := Int.mul_neg_of_pos_of_neg (by omega) q
      omega
    · subst q; simp at hk; omega
    · exact q
theorem rat_cop {n d : Int} (h : d ≠ 0) : Nat.gcd (rat n d).1.natAbs (rat n d).2.natAbs = 1 := by
  show Nat.gcd (n.fdiv (com n d)).natAbs (d.fdiv (com n d)).natAbs = 1
  rw [fdiv_abs (com_dn n d), fdiv_abs (com_dd n d), com_abs]
  exact Nat.gcd_div_gcd_div_gcd_of_pos_right (by omega)
end Ew

set_option Elab.async false
set_option linter.all false
set_option maxRecDepth 100000
set_option maxHeartbeats 4000000
namespace Ew
open PySem PySem.Spec PyProof.Rows L2
/-- a static method m of the class at C: what stands at p holds the def at g -/
structure StM (K : PySem.W.Frag) (C : Addr) (mc : Value) (m : Str) (p g : Addr) : Prop where
  rd : ClX.CRead K C mc
  off : PySem.W.findCls K (.ref C) mc m = some (.get (.builtin "staticmethod.__get__") (.ref p) .none (.ref C))
  rc : ∃ rest, PySem.W.recIn K p "staticmethod" = some (.ref g :: rest)
  kp : PySem.W.keepIn K (.ref g) = true
  pg : PySem.W.plainGet K C Str.empty = true
  ic : PySem.W.isClsIn K C = true
  at_ : PySem.W.findIn K (.ref C) m = some (some (.ref p))
  ty : PySem.W.typeIn K (.ref p) = some (.type "staticmethod")
  gt : PySem.W.specialIn K (.ref p) "__get__" = some (some (.builtin "staticmethod.__get__"))
  tk : PySem.W.takesIn K (.ref p) = some false
  cp : PySem.W.copiedNames.contains m = false
section
variable {X : Cx} {pins : List (Addr × Obj)} {σ : L2.St} {H : Hp} {s : Shared} {b C p g : Addr} {mc : Value} {m : Str} {A : Around} {E : Value → Shared → Prop}
theorem sm_off {pl : Sem Bool} {Q : Value × List Value → Shared → Prop} (I : Inv X pins σ H s) (k : StM X.K C mc m p g) (h : ∀ s', Inv X pins σ H s' → Q (.ref g, []) s') : wpAny (model X.prog X.w) A (getMethod (.ref C) m pl) Q E s := by
  obtain ⟨rest, hp⟩ := k.rc
  exact PySem.W.method_cls I.kIn k.rd.ga (PySem.W.cls_bind I.kIn k.rd.rd k.off (wpAny_call (PySem.W.sm_get (s := { s with toks := s.toks + 1 }) I.kIn hp (PySem.W.handed_on rfl (h _ (I.tok _))))))
theorem sm_on {pl : Sem Bool} {ox od : Obj} {Q : Value × List Value → Shared → Prop} (I : Inv X pins σ H s) (J : PySem.W.InstAt s.heap b ox C (some od)) (hl : PySem.W.lookIn m od = some none) (k : StM X.K C mc m p g)
    (h : ∀ s', Inv X pins σ H s' → Q (.ref g, []) s') : wpAny (model X.prog X.w) A (getMethod (.ref b) m pl) Q E s := by
  obtain ⟨rest, hp⟩ := k.rc
  have pg : PySem.W.plainGet X.K C m = true := k.pg
  refine PySem.W.method_usual (r := some (.ref p)) I.kIn J (PySem.W.plainGet_of pg).1 (PySem.W.plainGet_of pg).2 k.at_ ?_ (PySem.W.get_bind I.kIn J (PySem.W.plainGet_of pg).1 (ClX.find_cm k.ic k.at_ k.gt k.tk k.cp hl) (PySem.W.plainGet_of pg).2
    (wpAny_call (PySem.W.sm_get (s := { s with toks := s.toks + 1 }) I.kIn hp (PySem.W.handed_on rfl (h _ (I.tok _))))))
  rw [Option.all_some, k.ty]
  decide +kernel
variable {k j : Nat} {fd : FuncData} {ps : List Str} {sp : Sp} {e o : Expr} {es : List Expr} {t : TA} {ta : TE} {pos apos : Pos} {W : WX}
/-- C.m(e, ..), o.m(e, ..), m a static method -/
structure Sm (P : Program) (w : World) (K : PySem.W.Frag) (mg : Str → Option Value) (base : Heap) (k : Nat) (C : Addr) (m : Str) (ps : List Str) (sp : Sp) : Prop where
  ex : ∃ mc p g fd, StM K C mc m p g ∧ FnOk P w K mg base (L2.CX P w) k g fd ps sp ∧ Binds K fd ps []
def tSm (K : PySem.W.Frag) (C : Addr) (m : Str) (sp : Sp) (W : WX) (ta : TE) (t : TA) : TE := fun σ H Q => ta σ H fun x H1 => (x = .ref C ∨ ∃ b dx fs, x = .ref b ∧ H1 b = some (.ins C dx fs) ∧ fs.lookup m = none) ∧ t σ H1 fun vs H2 => sp vs H2 Q (WE W σ)
theorem pe_sm {pl : Sem Bool} (c : Sm X.prog X.w X.K X.mg X.base k C m ps sp) (tk : Takes X W) (hr : Room j X.A) (hk : k ≤ j) (he : PE X o ta) (ha : PA X (e :: es) t)
    (hst : starEach (e :: es) X.env = (false, eval e X.env) :: starEach es X.env := by rfl) (hpl : (backTo pos (starEach es X.env)).any (·.1) = false := by rfl)
    (ht : eval (.Call (.Attribute o m apos) (e :: es) [] pos) X.env = (do
      let v ← eval o X.env
      standAt apos.atName
      let (g, first) ← holding [v] (getMethod v m pl)
      callWith pos g first (backTo pos (starEach (e :: es) X.env)) (backToKw pos (keywordEach [] X.env))) := by rfl) :
    PE X (.Call (.Attribute o m apos) (e :: es) [] pos) (tSm X.K C m sp W ta t) := by
  obtain ⟨mc, p, g, fd, S, F, hb⟩ := c.ex
  refine ⟨fun pins s σ H Q I h => PySem.W.methodCall_KW (pl := pl) (thn (he.run pins s σ H _ I h) fun u s1 ⟨x, H1, I1, rx, ex, q⟩ => ?_) ht⟩
  have go : ∀ s', Inv X pins σ H1 s' → wpAny (model X.prog X.w) X.A (callWith pos (.ref g) [] (backTo pos (starEach (e :: es) X.env)) (backToKw pos (keywordEach [] X.env))) (EP X pins σ Q) X.xe s' := fun s' I' =>
    PySem.W.callWith_K (h₀ := X.base) I'.ok.mod.kin S.kp (thn (ha.run pos pins s' σ H1 _ I' q) fun us s2 ⟨vs, H2, I2, r, q2⟩ => ⟨I2.kIn, run_dv F (hr.mono hk) hb .nil tk I2 r (by rw [List.append_nil]; exact q2)⟩) hst hpl
  rcases ex with rfl | ⟨b, dx, fs, rfl, eb, l⟩
  · obtain rfl : u = Value.ref C := rx
    exact sm_off I1 S fun s' I' => go s' I'
  · obtain rfl : u = Value.ref b := rx
    obtain ⟨mA, O, rr, _, _, _⟩ := ins_get I1.hok eb
    obtain ⟨od, J, hl⟩ := O.look
    have hn : mA m = none := RelO.none_of (by rw [← l]; exact rr m)
    exact sm_on I1 J (by rw [hl m, hn]) S fun s' I' => go s' I'
end
/-! ### methods as they stand behind the top -/
structure MthAt (K : PySem.W.Frag) (C : Addr) (m q : Str) (st : Stmt) (ps : List Str) : Prop where
  ex : ∃ f fd, Meth K C m f ∧ Fun K m q st f fd ∧ Binds K fd ps []
structure OpAt (K : PySem.W.Frag) (C : Addr) (m x q : Str) (st : Stmt) (ps : List Str) : Prop where
  ex : ∃ f fd, OpM K C m f ∧ Fun K x q st f fd ∧ Binds K fd ps []
structure MkAt (K : PySem.W.Frag) (C : Addr) (q : Str) (st : Stmt) (ps : List Str) : Prop where
  ex : ∃ f fd, Mk K C f ∧ Fun K "__init__" q st f fd ∧ Binds K fd ps []
structure SmAt (K : PySem.W.Frag) (C : Addr) (m q : Str) (st : Stmt) (ps : List Str) : Prop where
  ex : ∃ mc p g fd, StM K C mc m p g ∧ Fun K m q st g fd ∧ Binds K fd ps []
/-- an own operator's method, its promise -/
structure OpC (P : Program) (w : World) (K : PySem.W.Frag) (mg : Str → Option Value) (base : Heap) (k : Nat) (C : Addr) (m : Str) (ps : List Str) (sp : Sp) : Prop where
  sf : PySem.W.selfFirst K C = true
  ex : ∃ f fd, OpM K C m f ∧ FnOk P w K mg base (L2.CX P w) k f fd ps sp ∧ Binds K fd ps []
section
variable {X : Cx} {k j : Nat} {C : Addr} {ps : List Str} {sp : Sp} {e1 e2 : Expr} {ta tb : TE} {pos : Pos} {W : WX}
theorem pe_bop {op : Operator} (c : OpC X.prog X.w X.K X.mg X.base k C (PySem.dunder op.info.2) ps sp) (tk : Takes X W) (hr : Room j X.A) (hk : k ≤ j) (h1 : PE X e1 ta) (h2 : PE X e2 tb) : PE X (.BinOp e1 op e2 pos) (tBinO C sp (WE W) ta tb) := by
  obtain ⟨f, fd, M, F, hb⟩ := c.ex
  exact pe_binO F (hr.mono hk) M c.sf hb (fun σ => passAt tk σ) h1 h2
theorem pe_nop (c : OpC X.prog X.w X.K X.mg X.base k C "__neg__" ps sp) (tk : Takes X W) (hr : Room j X.A) (hk : k ≤ j) (h1 : PE X e1 ta) : PE X (.UnaryOp .USub e1 pos) (tNegO C sp (WE W) ta) := by
  obtain ⟨f, fd, M, F, hb⟩ := c.ex
  exact pe_negO F (hr.mono hk) M hb (fun σ => passAt tk σ) h1
theorem pc_eop (c : OpC X.prog X.w X.K X.mg X.base k C "__eq__" ps sp) (tk : Takes X W) (hr : Room j X.A) (hk : k ≤ j) (ht : PySem.W.notFirst X.K C (.type "tuple") = true) (h1 : PE X e1 ta) (h2 : PE X e2 tb) : PC X .Eq e1 e2 (tEqO X.K C sp (WE W) ta tb) := by
  obtain ⟨f, fd, M, F, hb⟩ := c.ex
  exact pc_eqO F (hr.mono hk) M ht hb (fun σ => passAt tk σ) h1 h2
end
/-- what isinstance asks of an own class -/
structure KiC (K : PySem.W.Frag) (C : Addr) : Prop where
  cl : Cls K C
  ca : PySem.W.findIn K (.ref C) "__class__" = some (some (.builtin "object.__class__"))
  gg : PySem.W.specialIn K (.builtin "object.__class__") "__get__" = some (some (.builtin "getset_descriptor.__get__"))
  tk : PySem.W.takesIn K (.builtin "object.__class__") = some true
  mo : PySem.W.mroIn K C (.type "object") = some true
theorem KiC.ty {K : PySem.W.Frag} {C : Addr} (k : KiC K C) {H : Hp} {x dx : Addr} {fs : List (Str × V)} (h : H x = some (.ins C dx fs)) : TyX K H (.ref x) (.ref C) := .base (.ins h k.cl k.ca k.gg k.tk k.mo)
theorem kit_same {K : PySem.W.Frag} {t : Value} : PySem.W.kitOne K t t = some true := by
  unfold PySem.W.kitOne
  rw [if_pos (beq_self_eq_true t)]
end Ew

set_option Elab.async false
set_option linter.all false
set_option maxRecDepth 100000
set_option maxHeartbeats 4000000
namespace Ew
open PySem PySem.Spec PyProof.Rows L2
open AutoSeq1 (wpAny_loadPart')
open MeetsSeq MeetsSeq2 MeetsSeq3 SeqRoads2
theorem tup_once (l : Addr) (items : Array Value) (n : Nat) (dd : Option Addr) (sl : Array (Option Value)) (u : Tok) :
    Meets (Builtin.«tuple.__mul__» ⟨[.ref l, .int 1 u], []⟩) (fun _ R s => s.heap.get? l = some { cls := .type "tuple", dict := dd, data := .seq items n, slots := sl } ∧ R (.ok (.ret (.ref l))) s) :=
  .of_wp fun prog w A R s h => by
    obtain ⟨hp, g, d, tk, os⟩ := s
    obtain ⟨hl, h⟩ := h
    have f1 := AutoSeq1.idx_int
    wp_walk using wpAny_loadPart' hl
    exact ⟨_, rfl, h⟩
def rRep1 (K : PySem.W.Frag) : R2 := fun x y H Q => ∃ l xs, x = .ref l ∧ y = .int 1 ∧ SqT K H l xs ∧ Q (.ref l) H
theorem op_rep1 {X : Cx} : OpR X (binaryOp .Mult) (rRep1 X.K) := by
  intro pins s σ H x y v u Q I rx ry h
  obtain ⟨l, xs, rfl, rfl, hT, q⟩ := h
  cases rx
  obtain ⟨t, rfl⟩ := ry
  obtain ⟨its, r, ⟨⟨cls, dd, data, sl⟩, ho, hc, n, hd⟩, hs⟩ := I.tuple hT
  dsimp only at hc hd
  subst hc hd
  exact wpAny_binaryOp_repeat_ref (T := "tuple") (U := "int") (by decide) ⟨_, ho, rfl⟩ (fun s' => typeIs_int s' 1 t) noFill_tuple_mul F.fills_int_mul F.slot_int_rmul repeat_tuple F.slot_int_index.lookup
    (call_meets F.slot_int_rmul (typeIs_int s 1 t) F.entry_int_rmul (F.args_int_rmul_2 _ _) (int_rmul_tuple 1 t l its.toArray n dd sl)
      ⟨ho, rfl, ⟨_, ho, rfl⟩, call_meets F.slot_tuple_mul ⟨_, ho, rfl⟩ F.entry_tuple_mul (F.args_tuple_mul_2 _ _) (tup_once l its.toArray n dd sl t) ⟨ho, .ref l, H, I, rfl, q⟩⟩)
theorem op_repA {X : Cx} : OpR X (binaryOp .Mult) (fun x y H Q => rRepT X.K x y H Q ∨ rRep1 X.K x y H Q) := op_repT.or op_rep1
end Ew

set_option Elab.async false
set_option linter.all false
set_option maxRecDepth 100000
set_option maxHeartbeats 4000000
namespace Ew
open PySem PySem.Spec PyProof.Rows L2
/-- data that may be compared: n deep at most -/
structure Fl (n : Nat) (d : PyData) : Prop where
  c : d.canLay0 = true
  d : d.depth ≤ n
structure FlA (n : Nat) (ds : List PyData) : Prop where
  c : PyData.canLayAll0 ds = true
  d : PyData.depthAll ds ≤ n
theorem FlA.nil {n : Nat} : FlA n [] := ⟨by rw [PyData.canLayAll0], by rw [PyData.depthAll]; omega⟩
theorem FlA.cons {n : Nat} {d : PyData} {ds : List PyData} (h : Fl n d) (t : FlA n ds) : FlA n (d :: ds) := ⟨by rw [PyData.canLayAll0, h.c, t.c]; rfl, by rw [PyData.depthAll]; have := h.d; have := t.d; omega⟩
theorem FlA.all {n : Nat} : ∀ {ds : List PyData}, (∀ d ∈ ds, Fl n d) → FlA n ds
  | [], _ => .nil
  | d :: ds, h => .cons (h d List.mem_cons_self) (FlA.all fun x hx => h x (List.mem_cons_of_mem _ hx))
theorem Fl.tup {n : Nat} {ds : List PyData} (h : FlA n ds) : Fl (n + 1) (.tuple ds) := ⟨by rw [PyData.canLay0]; exact h.c, by rw [PyData.depth]; have := h.d; omega⟩
theorem Fl.lst {n : Nat} {ds : List PyData} (h : FlA n ds) : Fl (n + 1) (.list ds) := ⟨by rw [PyData.canLay0]; exact h.c, by rw [PyData.depth]; have := h.d; omega⟩
theorem Fl.int {n : Nat} {i : Int} : Fl n (.int i) := ⟨by rw [PyData.canLay0], by rw [PyData.depth]; omega⟩
theorem Fl.str {n : Nat} {x : Str} (h : PyData.strOk x = true) : Fl n (.str x) := ⟨by rw [PyData.canLay0]; exact h, by rw [PyData.depth]; omega⟩
theorem Fl.sh {n : Nat} {d : PyData} (h : Fl n d) (k : n ≤ 64) : SeqAt.shaped d = true := by
  unfold SeqAt.shaped
  have := h.d
  rw [h.c, decide_eq_true (by omega : d.depth ≤ 64)]
  rfl
theorem fl_ints {n : Nat} (ds : List Int) : Fl (n + 1) (intT ds) := Fl.tup ⟨lay_ints ds, by rw [dep_ints]; omega⟩
/-- a pair of a ratio and a tuple of ints -/
def rowD (s : (Int × Int) × List Int) : PyData := .tuple [intT [s.1.1, s.1.2], intT s.2]
theorem fl_row {n : Nat} (s : (Int × Int) × List Int) : Fl (n + 2) (rowD s) := Fl.tup (.cons (fl_ints _) (.cons (fl_ints _) .nil))
theorem eqv_row (s t : (Int × Int) × List Int) : PyData.eqv (rowD s) (rowD t) = decide (s = t) := by
  unfold rowD
  rw [PyData.eqv, PyData.eqvAll, PyData.eqvAll, PyData.eqvAll, eqv_ints, eqv_ints]
  obtain ⟨⟨a, b⟩, c⟩ := s
  obtain ⟨⟨a', b'⟩, c'⟩ := t
  by_cases h1 : a = a' <;> by_cases h2 : b = b' <;> by_cases h3 : c = c' <;> simp [h1, h2, h3]
def Row (K : PySem.W.Frag) (F : Hp) (v : V) (s : (Int × Int) × List Int) : Prop := ∃ p u w, v = .ref p ∧ SqT K F p [u, w] ∧ Rt K F u s.1 ∧ Dm K F w s.2
theorem Row.up {K : PySem.W.Frag} {F F' : Hp} {v : V} {s : (Int × Int) × List Int} (h : Row K F v s) (e : Same F F') : Row K F' v s := by
  obtain ⟨p, u, w, h1, h2, h3, h4⟩ := h
  exact ⟨p, u, w, h1, upT e h2, h3.up e, h4.up e⟩
theorem Row.dp {K : PySem.W.Frag} {F : Hp} {v : V} {s : (Int × Int) × List Int} (h : Row K F v s) : Dp K F v (rowD s) := by
  obtain ⟨p, u, w, rfl, h2, h3, h4⟩ := h
  exact .tup h2 (.cons h3.dp (.cons h4.dp .nil))
/-- items, each with its own word -/
def Rws (K : PySem.W.Frag) (F : Hp) (xs : List V) (ss : List ((Int × Int) × List Int)) : Prop := xs.length = ss.length ∧ ∀ (i : Nat) x, xs[i]? = some x → ∃ s, ss[i]? = some s ∧ Row K F x s
theorem Rws.up {K : PySem.W.Frag} {F F' : Hp} {xs : List V} {ss : List ((Int × Int) × List Int)} (h : Rws K F xs ss) (e : Same F F') : Rws K F' xs ss := ⟨h.1, fun i x hx => by
  obtain ⟨s, h1, h2⟩ := h.2 i x hx
  exact ⟨s, h1, h2.up e⟩⟩
theorem Rws.nil {K : PySem.W.Frag} {F : Hp} : Rws K F [] [] := ⟨rfl, fun i x h => by simp at h⟩
theorem Rws.snoc {K : PySem.W.Frag} {F : Hp} {xs : List V} {ss : List ((Int × Int) × List Int)} {x : V} {s : (Int × Int) × List Int} (h : Rws K F xs ss) (k : Row K F x s) : Rws K F (xs ++ [x]) (ss ++ [s]) := by
  refine ⟨by simp [h.1], fun i y hy => ?_⟩
  rcases Nat.lt_or_ge i xs.length with hi | hi
  · rw [List.getElem?_append_left hi] at hy
    obtain ⟨t, h1, h2⟩ := h.2 i y hy
    exact ⟨t, by rw [List.getElem?_append_left (by rw [← h.1]; exact hi)]; exact h1, h2⟩
  · rw [List.getElem?_append_right hi] at hy
    have e0 : i - xs.length = 0 := by
      rcases Nat.eq_zero_or_pos (i - xs.length) with h0 | h0
      · exact h0
      · rw [List.getElem?_eq_none (by simp; omega)] at hy; cases hy
    rw [e0] at hy
    cases hy
    refine ⟨s, ?_, k⟩
    rw [List.getElem?_append_right (by rw [← h.1]; exact hi), ← h.1, e0]
    rfl
theorem Rws.dps {K : PySem.W.Frag} {F : Hp} : ∀ {xs : List V} {ss : List ((Int × Int) × List Int)}, Rws K F xs ss → DpAll K F xs (ss.map rowD)
  | [], [], _ => .nil
  | [], s :: ss, h => absurd h.1 (by simp)
  | x :: xs, [], h => absurd h.1 (by simp)
  | x :: xs, s :: ss, h => by
    obtain ⟨t, h1, h2⟩ := h.2 0 x rfl
    cases h1
    exact .cons h2.dp (Rws.dps ⟨by simpa using h.1, fun i y hy => h.2 (i + 1) y hy⟩)
end Ew

set_option Elab.async false
set_option linter.all false
set_option maxRecDepth 100000
set_option maxHeartbeats 4000000
namespace Ew
open PySem PySem.Spec PyProof.Rows L2
open SX (S)
/-- a sign, k times -/
theorem fold_one (c : Nat) : ∀ (m : Nat) (acc : Array Nat), (List.replicate m #[c]).foldl (· ++ ·) acc = acc ++ (List.replicate m c).toArray
  | 0, acc => by simp
  | m + 1, acc => by
    rw [List.replicate_succ, List.foldl_cons, fold_one c m, List.replicate_succ]
    apply Array.ext'
    simp
def rRepC : R2 := fun x y H Q => ∃ (c : Nat) (k : Int), x = .str ⟨#[c]⟩ ∧ y = .int k ∧ 2 ≤ k ∧ k ≤ 100000 ∧ Q (.str (S (List.replicate k.toNat c))) H
theorem op_repC {X : Cx} : OpR X (binaryOp .Mult) rRepC := by
  intro pins s σ H x y v u Q I rx ry h
  obtain ⟨c, k, rfl, rfl, h1, h2, q⟩ := h
  obtain ⟨t, rfl⟩ := rx
  obtain ⟨t', rfl⟩ := ry
  have hl : (⟨#[c]⟩ : Str).length = 1 := rfl
  have e1 : (k == 1) = false := by rw [beq_eq_false_iff_ne]; omega
  refine PySem.P.mul_str ?_ (fun _ _ => ?_) (fun _ _ => ?_) ?_
  · rw [decide_eq_false (by omega), decide_eq_false (by omega)]
    rfl
  · rw [hl]
    have : (1 : Int) ≤ (2 ^ 63 - 1) / k := (Int.le_ediv_iff_mul_le (by omega)).mpr (by omega)
    show ¬ ((1 : Int) > _)
    omega
  · rw [hl]
    unfold PySem.Builtin.Str.tooLong
    rw [decide_eq_false_iff_not, sizeLine_eq]
    omega
  · rw [if_neg (by omega), e1, hl]
    have e2 : ((⟨#[c]⟩ : Str).cps) = #[c] := rfl
    rw [if_neg (by decide), e2, fold_one]
    have e3 : (#[] ++ (List.replicate k.toNat c).toArray : Array Nat) = (List.replicate k.toNat c).toArray := by simp
    rw [e3]
    refine ⟨?_, ⟨.str (S (List.replicate k.toNat c)), H, I.tok _, ⟨_, rfl⟩, q⟩⟩
    show (S (List.replicate k.toNat c)).length ≤ sizeLine
    rw [SX.S_len, List.length_replicate, sizeLine_eq]
    omega
end Ew

set_option Elab.async false
set_option linter.all false
set_option maxRecDepth 100000
set_option maxHeartbeats 4000000
namespace Ew
open PySem PySem.Spec PyProof.Rows L2
/-! ### defs that are asked only where no repr is under way -/
section
variable {P : Program} {w : World} {K : PySem.W.Frag} {mg : Str → Option Value} {base : Heap}
structure FnG (P : Program) (w : World) (K : PySem.W.Frag) (mg : Str → Option Value) (base : Heap) (k : Nat) (f : Addr) (fd : FuncData) (ps : List Str) (sp : Sp) : Prop where
  len : ∀ vs H Q E, sp vs H Q E → vs.length = ps.length
  go : ∀ (A : Around) (outer : List Env) (s : Shared) (H : Hp) (args : Args) (us : List Value) (vs : List V) (Q : VK) (E : XK), A.guards = some [] → Room k A → Env0 P w K mg base A outer s H → BindsTo s fd args (ps.zip us) → Vals vs us → sp vs H Q E →
    codeAny (model P w) A (.call (.ref f) args) (CR (L2.CX P w) outer P w H s Q E) s
def BodyG (P : Program) (w : World) (K : PySem.W.Frag) (mg : Str → Option Value) (base : Heap) (N : List Str) (qual : Str) (st : Stmt) (k : Nat) (sp : Sp) : Prop :=
  ∀ (f : Addr) (cdv : Value) (A : Around) (outer : List Env) (s : Shared) (H : Hp) (vs : List V) (Q : VK) (E : XK), (cxB P w K mg base N qual st f cdv A outer s H E).A.guards = some [] → Room k (cxB P w K mg base N qual st f cdv A outer s H E).A → sp vs H Q E →
    ∃ t, PSs (cxB P w K mg base N qual st f cdv A outer s H E) (defBody st) t ∧ t { nx := fun _ H' => Q .non H', rt := Q } (start N vs) H
theorem fun_gd {x qual : Str} {st : Stmt} {f : Addr} {fd : FuncData} {ps N : List Str} {k : Nat} {sp : Sp} (F : Fun K x qual st f fd) (S : FnScope N ps (defScope st)) (len : ∀ vs H Q E, sp vs H Q E → vs.length = ps.length) (h : BodyG P w K mg base N qual st k sp) :
    FnG P w K mg base (k + 1) f fd ps sp := by
  obtain ⟨oc, od, kV, doc, pm, an, cdv, ct, osl, rfl, lk, hcd⟩ := F.ex
  refine ⟨len, ?_⟩
  intro A outer s H args us vs Q E hg room e0 bind rel ask
  have many := len _ _ _ _ ask
  have kept : ∀ b o, base.get? b = some o → s.heap.get? b = some o := fun b o e => (e0.bs b o e).1
  have KX : K.In s.heap := e0.mod.kin.keeps kept
  have locals_ : ∀ y ∈ ps.zip us, (defScope st).names.lookup y.1 = some .local ∨ ((defScope st).names.lookup y.1 = some .cell ∧ ((cellsFrom (s.heap.objs.size + 1) (defScope st).names []).lookup y.1).isSome = true) := by
    rintro ⟨nm, v⟩ hy
    refine (S.par nm (List.of_mem_zip hy).1).imp id fun q => ⟨q, ?_⟩
    exact PySem.W.cellsFrom_some _ _ _ (.inl q)
  refine codeAny_call_function room.depth (KX _ _ lk) rfl S.co S.gen rfl (PySem.W.codeRec_of KX hcd) (bind _ _ _ _ ?_)
  refine wpAny_newFunctionEnv_cells S.kind locals_ ?_
  rintro env rfl s1 x
  refine ⟨(e0.mod.nolimit.keeps kept).keeps x.toInCall.keep, codeAny_func ?_⟩
  obtain ⟨t, ht, goal⟩ := h f cdv A outer s H vs Q E hg (room.deeper _) ask
  refine wpAny_mono (ht.run [] s1 (start N vs) H _ (inv_start S room.hd e0 many rel x) goal) ?_ (fun e s' z => z)
  intro fl s' end_
  match fl, end_ with
  | .ret u, ⟨v, σ', H', J, rv, q⟩ => exact ⟨v, H', J.os, J.bare, J.base, J.hok, rv, q⟩
  | .next, ⟨σ', H', J, q⟩ => exact ⟨.non, H', J.os, J.bare, J.base, J.hok, rfl, q⟩
  | .brk, ⟨_, _, _, q⟩ => exact q.elim
  | .cont, ⟨_, _, _, q⟩ => exact q.elim
structure ClG (P : Program) (w : World) (K : PySem.W.Frag) (mg : Str → Option Value) (base : Heap) (k : Nat) (x : Str) (ps : List Str) (sp : Sp) : Prop where
  ex : ∃ f fd, FnG P w K mg base k f fd ps sp ∧ mg x = some (.ref f) ∧ PySem.W.keepIn K (.ref f) = true ∧ Binds K fd ps []
theorem DefAt.clG {x : Str} {st : Stmt} {ps N : List Str} {k : Nat} {sp : Sp} (D : DefAt K mg x st ps) (S : FnScope N ps (defScope st)) (len : ∀ vs H Q E, sp vs H Q E → vs.length = ps.length) (h : BodyG P w K mg base N x st k sp) : ClG P w K mg base (k + 1) x ps sp := by
  obtain ⟨f, fd, F, g, b⟩ := D.ex
  exact ⟨f, fd, fun_gd F S len h, g, F.kp, b⟩
end
section
variable {X : Cx} {k j : Nat} {x : Str} {ps : List Str} {sp : Sp} {e : Expr} {es : List Expr} {t : TA} {p pos : Pos} {W : WX}
theorem pe_fG (hg0 : X.A.guards = some []) (c : ClG X.prog X.w X.K X.mg X.base k x ps sp) (tk : Takes X W) (hr : Room j X.A) (hk : k ≤ j) (hg : Gl X x) (ha : PA X (e :: es) t) (hdb : (x == ("__debug__" : Str)) = false := by decide)
    (he : starEach (e :: es) X.env = (false, eval e X.env) :: starEach es X.env := by rfl) (hpl : (backTo pos (starEach es X.env)).any (·.1) = false := by rfl) : PE X (.Call (.Name x p) (e :: es) [] pos) (tF sp [] W t) := by
  obtain ⟨f, fd, F, hm, hkp, hb⟩ := c.ex
  refine ⟨fun pins s σ H Q I h => wpAny_Call_Name_kw (ld_glob I hg hm (PySem.W.callWith_K (h₀ := X.base) I.ok.mod.kin hkp (thn (ha.run pos pins s σ H _ I h) fun us s1 ⟨vs, H1, I1, r, q⟩ => ⟨I1.kIn, ?_⟩) he hpl) hdb)⟩
  have r2 := r.append (.nil : Vals [] [])
  have hl : (us ++ []).length = ps.length := by rw [← r2.length]; exact F.len _ _ _ _ q
  refine wpAny_call (codeAny_mono (F.go X.A X.stack s1 H1 ⟨us, []⟩ (us ++ []) (vs ++ []) Q (WE W σ) hg0 (hr.mono hk) I1.env0 (hb s1 us I1.kIn hl) r2 q) fun y s' hq => ?_)
  match y, hq with
  | .error e, hq => exact passAt tk σ pins H1 s1 e s' I1 hq
  | .ok (.ret u), hq => exact I1.after hq
end
/-- a call without arguments of a def that lets nothing out -/
theorem pe_f0 {X : Cx} {k j : Nat} {x : Str} {ps : List Str} {sp : Sp} {p pos : Pos} (c : Cl X.prog X.w X.K X.mg X.base k x ps sp []) (hr : Room j X.A) (hk : k ≤ j) (hg : Gl X x) (hdb : (x == ("__debug__" : Str)) = false := by decide) : PE X (.Call (.Name x p) [] [] pos) (tCall sp [] E0 tNil) := by
  obtain ⟨f, fd, ds, F, hm, hkp, hb, hd⟩ := c.ex
  cases hd
  exact pe_call0 F (hr.mono hk) hg hm hkp hb .nil passL hdb
/-! ### repr, where none is under way -/
section
variable {X : Cx}
def rReprD (K : PySem.W.Frag) : List V → Hp → VK → Prop := fun xs H Q => (∃ (a : Addr) (d : PyData), xs = [.ref a] ∧ Dp K H (.ref a) d ∧ d.showable = true ∧ d.hasDict = false ∧ d.depth ≤ 60 ∧ d.shown.length ≤ sizeLine ∧ Q (.str d.shown) H) ∨
  (∃ i : Int, xs = [.int i] ∧ i.natAbs.log2 < 1920 ∧ Q (.str (toString i)) H) ∨ (∃ b : Bool, xs = [.bl b] ∧ Q (.str (if b then "True" else "False")) H) ∨ (xs = [.non] ∧ Q (.str "None") H) ∨
  ∃ a : Addr, xs = [.ref a] ∧ H a = some (.dK []) ∧ Q (.str (PyData.dict []).shown) H
/-- the same, closed -/
structure rRepr (K : PySem.W.Frag) (xs : List V) (H : Hp) (Q : VK) : Prop where
  is : rReprD K xs H Q
theorem call_repr (hg : X.A.guards = some []) (hu : X.A.units + 64 < cLine) : CallR X (.builtin "repr") (rRepr X.K) := by
  intro pins s σ H xs us Q I r h
  rcases h.is with ⟨a, d, rfl, hd, h1, h2, h3, h4, q⟩ | ⟨i, rfl, hz, q⟩ | ⟨b, rfl, q⟩ | ⟨rfl, q⟩ | ⟨a, rfl, hd, q⟩
  · obtain ⟨u, rfl, rx⟩ := vals1 r
    obtain ⟨as, rd⟩ := Dp.reads I d _ _ hd rx
    obtain rfl : u = Value.ref a := rx
    exact repr_of_reads' rd h1 (PyData.noDict_hsm h2) hg (by omega) (fun _ _ e => e) (fun h' u' tk hk => ⟨.str d.shown, H, I.kept hk, ⟨_, rfl⟩, q⟩) h4
  · obtain ⟨u, rfl, t, rfl⟩ := vals1 r
    exact PySem.P.repr_of_int hz ⟨.str _, H, I.tok _, ⟨_, rfl⟩, q⟩
  · obtain ⟨u, rfl, rx⟩ := vals1 r
    obtain rfl : u = Value.bool b := rx
    exact PySem.P.repr_of_bool ⟨.str _, H, I.tok _, ⟨_, rfl⟩, q⟩
  · obtain ⟨u, rfl, rx⟩ := vals1 r
    obtain rfl : u = Value.none := rx
    exact PySem.P.repr_of_none ⟨.str _, H, I.tok _, ⟨_, rfl⟩, q⟩
  · obtain ⟨u, rfl, rx⟩ := vals1 r
    obtain rfl : u = Value.ref a := rx
    obtain ⟨_, ns, vs, kv, dd⟩ := dk_of I.hok hd
    cases kv
    obtain ⟨o, n, es, ho, hc, hdat, hes⟩ : ∃ (o : Obj) (n : Nat) (es : Array DictEntry), s.heap.get? a = some o ∧ o.cls = .type "dict" ∧ o.data = .dict es n ∧ es = #[] := by
      obtain ⟨o, es, ep, ho, ex, hdat, _, pr, _⟩ := dd
      refine ⟨o, ep, es, ho, ex.1, hdat, ?_⟩
      have : es.toList = [] := by
        cases e : es.toList with
        | nil => rfl
        | cons y ys => rw [e] at pr; cases pr
      exact Array.toList_eq_nil_iff.mp this
    subst hes
    have rd : Reads s.heap (.ref a) (.dict []) (a :: [] ++ []) := .dict ho hc hdat .nil .nil
    exact repr_of_reads' rd (by decide) (fun _ hm => by simp at hm; rw [hm] at ns; simp at ns) hg (by have : (PyData.dict []).depth = 1 := rfl; omega) (fun _ _ e => e) (fun h' u' tk hk => ⟨.str _, H, I.kept hk, ⟨_, rfl⟩, q⟩) (by decide +kernel)
end
end Ew

set_option Elab.async false
set_option linter.all false
set_option maxRecDepth 100000
set_option maxHeartbeats 4000000
namespace Ew
open PySem PySem.Spec PyProof.Rows L2
/-! ### an own class that is asked by [ ], in, len -/
section
variable {X : Cx} {CX : CXT} {k : Nat} {f C : Addr} {fd : FuncData} {ps : List Str} {sp : Sp} {E : L2.St → XK} {a b : Expr} {ta tb : TE} {pos : Pos}
/-- a call one step further in -/
theorem run_fn1 {pins : List (Addr × Obj)} {σ : L2.St} {H : Hp} {s : Shared} {Q : VK} {us : List Value} {vs : List V} {E0 : XK} (F : FnOk X.prog X.w X.K X.mg X.base CX k f fd ps sp) (hr : Room (k + 1) X.A) (hb : Binds X.K fd ps []) (hx : PassesAt CX X σ E0)
    (I : Inv X pins σ H s) (r : Vals vs us) (h : sp vs H Q E0) : wpAny (model X.prog X.w) X.A.in1 (call (.ref f) us) (EP X pins σ Q) X.xe s := by
  have hl : us.length = ps.length := by rw [← r.length]; exact F.len _ _ _ _ h
  have b := hb s us I.kIn (by rw [List.append_nil]; exact hl)
  rw [List.append_nil] at b
  refine wpAny_call (codeAny_mono (F.run X.A.in1 X.stack s H ⟨us, []⟩ us vs Q E0 hr.in1 I.env0.in1 b r h) fun r s' hq => ?_)
  cases r with
  | error e => exact hx pins H s e s' I hq
  | ok fl =>
    cases fl with
    | ret u => exact I.after hq
    | next => exact False.elim hq
    | brk => exact False.elim hq
    | cont => exact False.elim hq
def tIxO (C : Addr) (sp : Sp) (E : L2.St → XK) (ta tb : TE) : TE := fun σ H Q => ta σ H fun x H1 => tb σ H1 fun y H2 => ∃ p dx fs, x = .ref p ∧ H2 p = some (.ins C dx fs) ∧ sp [x, y] H2 Q (E σ)
/-- o[k], o of an own class -/
theorem pe_ixO (F : FnOk X.prog X.w X.K X.mg X.base CX k f fd ps sp) (hr : Room (k + 1) X.A) (M : OpM X.K C "__getitem__" f) (hf : PySem.W.fnIn X.K f = true) (hb : Binds X.K fd ps []) (hx : ∀ σ, PassesAt CX X σ (E σ)) (h1 : PE X a ta) (h2 : PE X b tb)
    (hsl : ∀ x i, subscripted b true (.ref x) i = runValue (.builtin "lifetime.subscript" ⟨[.ref x, i], []⟩)) : PE X (.Subscript a b pos) (tIxO C sp E ta tb) := by
  refine ⟨fun pins s σ H Q I h => Subscript_ (bin h1 h2 I h fun v u s2 x y H2 I2 rx ry q => ?_)⟩
  obtain ⟨p, dx, fs, rfl, e1, q⟩ := q
  cases rx
  obtain ⟨o1, J1⟩ := ins_at I2 e1
  obtain ⟨m, fr⟩ := I2.fr
  exact PySem.W.sub_K fr I2.ok.mod.kin J1 M.at_ hf M.fn (run_fn1 (vs := [.ref p, y]) F hr hb (hx σ) I2 (.cons rfl (.cons ry .nil)) q) (hsl _ _)
def tInO (C : Addr) (sp : Sp) (neg : Bool) (E : L2.St → XK) (ta tb : TE) : TE := fun σ H Q => ta σ H fun x H1 => tb σ H1 fun y H2 => ∃ p dx fs, y = .ref p ∧ H2 p = some (.ins C dx fs) ∧ sp [y, x] H2 (fun z H3 => ∃ r : Bool, z = .bl r ∧ Q (.bl (if neg = true then !r else r)) H3) (E σ)
theorem pc_inO (F : FnOk X.prog X.w X.K X.mg X.base CX k f fd ps sp) (hr : Room k X.A) (M : OpM X.K C "__contains__" f) (hb : Binds X.K fd ps []) (hx : ∀ σ, PassesAt CX X σ (E σ)) (h1 : PE X a ta) (h2 : PE X b tb) : PC X .In a b (tInO C sp false E ta tb) := by
  refine ⟨fun pins s σ H Q I h => bin h1 h2 I h fun v u s2 x y H2 I2 rx ry q => ?_⟩
  obtain ⟨p, dx, fs, rfl, e1, q⟩ := q
  cases ry
  obtain ⟨o1, J1⟩ := ins_at I2 e1
  obtain ⟨m, fr⟩ := I2.fr
  refine PySem.W.in_K fr I2.ok.mod.kin J1 M.at_ M.fn (thn (run_fnS (vs := [.ref p, x]) F hr hb (hx σ) I2 (.cons rfl (.cons rx .nil)) q) fun w s3 z => ?_)
  obtain ⟨v3, H3, I3, r3, t, rfl, q3⟩ := z
  cases r3
  exact wpAny_truthy_bool ⟨.bl t, H3, I3, rfl, q3⟩
theorem pc_ninO (F : FnOk X.prog X.w X.K X.mg X.base CX k f fd ps sp) (hr : Room k X.A) (M : OpM X.K C "__contains__" f) (hb : Binds X.K fd ps []) (hx : ∀ σ, PassesAt CX X σ (E σ)) (h1 : PE X a ta) (h2 : PE X b tb) : PC X .NotIn a b (tInO C sp true E ta tb) := by
  refine ⟨fun pins s σ H Q I h => bin h1 h2 I h fun v u s2 x y H2 I2 rx ry q => ?_⟩
  obtain ⟨p, dx, fs, rfl, e1, q⟩ := q
  cases ry
  obtain ⟨o1, J1⟩ := ins_at I2 e1
  obtain ⟨m, fr⟩ := I2.fr
  refine PySem.W.notIn_K fr I2.ok.mod.kin J1 M.at_ M.fn (thn (run_fnS (vs := [.ref p, x]) F hr hb (hx σ) I2 (.cons rfl (.cons rx .nil)) q) fun w s3 z => ?_)
  obtain ⟨v3, H3, I3, r3, t, rfl, q3⟩ := z
  cases r3
  exact wpAny_truthy_bool ⟨.bl (!t), H3, I3, rfl, q3⟩
/-- len(o), o of an own class; nothing is let out -/
def rLenO (C : Addr) (sp : Sp) (E0 : XK) : List V → Hp → VK → Prop := fun xs H Q => ∃ p dx fs, xs = [.ref p] ∧ H p = some (.ins C dx fs) ∧ sp [.ref p] H (fun z H3 => ∃ n : Int, z = .int n ∧ 0 ≤ n ∧ n < 2 ^ 63 ∧ Q (.int n) H3) E0
theorem call_lenO {E0 : XK} (F : FnOk X.prog X.w X.K X.mg X.base CX k f fd ps sp) (hr : Room (k + 1) X.A) (M : OpM X.K C "__len__" f) (hb : Binds X.K fd ps []) (hx : ∀ σ, PassesAt CX X σ E0) : CallR X (.builtin "len") (rLenO C sp E0) := by
  intro pins s σ H xs us Q I r h
  obtain ⟨p, dx, fs, rfl, e1, q⟩ := h
  obtain ⟨u, rfl, rx⟩ := vals1 r
  cases rx
  obtain ⟨o1, J1⟩ := ins_at I e1
  obtain ⟨m, fr⟩ := I.fr
  refine PySem.W.len_K fr I.ok.mod.kin J1 M.at_ M.fn (thn (run_fn1 (vs := [.ref p]) F hr hb (hx σ) I (.cons rfl .nil) q) fun w s3 z => ?_)
  obtain ⟨v3, H3, I3, r3, n, rfl, n0, n1, q3⟩ := z
  obtain ⟨t, rfl⟩ := r3
  exact ⟨⟨n0, n1⟩, .int n, H3, I3.tok _, ⟨_, rfl⟩, q3⟩
end
end Ew

set_option Elab.async false
set_option linter.all false
set_option maxRecDepth 100000
set_option maxHeartbeats 4000000
namespace Ew
open PySem PySem.Spec PyProof.Rows L2
/-! ### an own == with anything at its right -/
/-- what stands to the right: another of the class, a list, a tuple, a text, a number, a truth value, None -/
def RhsAny (K : PySem.W.Frag) (C : Addr) (H : Hp) (y : V) : Prop := y = .non ∨ (∃ b, y = .bl b) ∨ (∃ i, y = .int i) ∨ (∃ z, y = .str z) ∨ ∃ q, y = .ref q ∧ ((∃ dy gs, H q = some (.ins C dy gs)) ∨ (∃ ys, SqL K H q ys) ∨ ∃ ys, SqT K H q ys)
/-- none of these kinds comes ahead of the class -/
def NoFirst (K : PySem.W.Frag) (C : Addr) : Prop := ∀ T ∈ (["NoneType", "bool", "int", "str", "list", "tuple"] : List String), PySem.W.notFirst K C (.type T) = true
section
variable {X : Cx} {CX : CXT} {k : Nat} {f C : Addr} {fd : FuncData} {ps : List Str} {sp : Sp} {E : L2.St → XK} {a b : Expr} {ta tb : TE} {pos : Pos}
def tEqA (K : PySem.W.Frag) (C : Addr) (sp : Sp) (E : L2.St → XK) (ta tb : TE) : TE := fun σ H Q => ta σ H fun x H1 => tb σ H1 fun y H2 => ∃ p dx fs, x = .ref p ∧ H2 p = some (.ins C dx fs) ∧ RhsAny K C H2 y ∧ sp [x, y] H2 Q (E σ)
theorem looks_val {M : Model} {h : Heap} {v : Value} {T : String} (ht : ∀ s : Shared, s.TypeIs v T) : PySem.W.Looks M h (typeOf v) (.type T) := fun A Q E s _ z => wpAny_typeOf (ht s) z
theorem pc_eqA (F : FnOk X.prog X.w X.K X.mg X.base CX k f fd ps sp) (hr : Room k X.A) (M : OpM X.K C "__eq__" f) (ht : NoFirst X.K C) (hb : Binds X.K fd ps []) (hx : ∀ σ, PassesAt CX X σ (E σ))
    (h1 : PE X a ta) (h2 : PE X b tb) : PC X .Eq a b (tEqA X.K C sp E ta tb) := by
  refine ⟨fun pins s σ H Q I h => bin h1 h2 I h fun v u s2 x y H2 I2 rx ry q => ?_⟩
  obtain ⟨p, dx, fs, rfl, e1, r, q⟩ := q
  cases rx
  obtain ⟨o1, J1⟩ := ins_at I2 e1
  obtain ⟨m, fr⟩ := I2.fr
  have run := thn (run_fnS (vs := [.ref p, y]) F hr hb (hx σ) I2 (.cons rfl (.cons ry .nil)) q) fun _ _ z => back_of z
  show wpAny _ _ (richCompare .Eq (.ref p) u) _ _ _
  rcases r with rfl | ⟨c, rfl⟩ | ⟨i, rfl⟩ | ⟨z, rfl⟩ | ⟨q', rfl, r⟩
  · obtain rfl : u = Value.none := ry
    exact PySem.W.cmp_K (op := .Eq) hr.units0 fr I2.ok.mod.kin J1 (looks_val fun s => rfl) (ht "NoneType" (by simp)) M.at_ M.fn run
  · obtain rfl : u = Value.bool c := ry
    exact PySem.W.cmp_K (op := .Eq) hr.units0 fr I2.ok.mod.kin J1 (looks_val fun s => rfl) (ht "bool" (by simp)) M.at_ M.fn run
  · obtain ⟨t, rfl⟩ := ry
    exact PySem.W.cmp_K (op := .Eq) hr.units0 fr I2.ok.mod.kin J1 (looks_val fun s => rfl) (ht "int" (by simp)) M.at_ M.fn run
  · obtain ⟨t, rfl⟩ := ry
    exact PySem.W.cmp_K (op := .Eq) hr.units0 fr I2.ok.mod.kin J1 (looks_val fun s => rfl) (ht "str" (by simp)) M.at_ M.fn run
  · cases ry
    rcases r with ⟨dy, gs, e2⟩ | ⟨ys, e2⟩ | ⟨ys, e2⟩
    · obtain ⟨o2, J2⟩ := ins_at I2 e2
      exact PySem.W.cmp_K (op := .Eq) hr.units0 fr I2.ok.mod.kin J1 J2.type (by simp [PySem.W.notFirst]) M.at_ M.fn run
    · obtain ⟨its, rv, ⟨o, n, ho, hc, _⟩, _⟩ := I2.list e2
      exact PySem.W.cmp_K (op := .Eq) hr.units0 fr I2.ok.mod.kin J1 (fun A' Q' E' s' kp z => wpAny_typeOf_ref (kp _ _ ho) (by rw [hc]; exact z)) (ht "list" (by simp)) M.at_ M.fn run
    · obtain ⟨its, rv, ⟨o, ho, hc, _⟩, _⟩ := I2.tuple e2
      exact PySem.W.cmp_K (op := .Eq) hr.units0 fr I2.ok.mod.kin J1 (fun A' Q' E' s' kp z => wpAny_typeOf_ref (kp _ _ ho) (by rw [hc]; exact z)) (ht "tuple" (by simp)) M.at_ M.fn run
end
/-! ### the class's own methods, by their promises -/
structure OwC (P : Program) (w : World) (K : PySem.W.Frag) (mg : Str → Option Value) (base : Heap) (k : Nat) (C : Addr) (m : Str) (ps : List Str) (sp : Sp) : Prop where
  ex : ∃ f fd, OpM K C m f ∧ PySem.W.fnIn K f = true ∧ FnOk P w K mg base (L2.CX P w) k f fd ps sp ∧ Binds K fd ps []
section
variable {X : Cx} {k j : Nat} {C : Addr} {ps : List Str} {sp : Sp} {e1 e2 : Expr} {ta tb : TE} {pos : Pos} {W : WX}
theorem pe_ixC (c : OwC X.prog X.w X.K X.mg X.base k C "__getitem__" ps sp) (tk : Takes X W) (hr : Room j X.A) (hk : k + 1 ≤ j) (h1 : PE X e1 ta) (h2 : PE X e2 tb)
    (hsl : ∀ x i, subscripted e2 true (.ref x) i = runValue (.builtin "lifetime.subscript" ⟨[.ref x, i], []⟩)) : PE X (.Subscript e1 e2 pos) (tIxO C sp (WE W) ta tb) := by
  obtain ⟨f, fd, M, hf, F, hb⟩ := c.ex
  exact pe_ixO F (hr.mono hk) M hf hb (fun σ => passAt tk σ) h1 h2 hsl
theorem pc_inC (c : OwC X.prog X.w X.K X.mg X.base k C "__contains__" ps sp) (tk : Takes X W) (hr : Room j X.A) (hk : k ≤ j) (h1 : PE X e1 ta) (h2 : PE X e2 tb) : PC X .In e1 e2 (tInO C sp false (WE W) ta tb) := by
  obtain ⟨f, fd, M, hf, F, hb⟩ := c.ex
  exact pc_inO F (hr.mono hk) M hb (fun σ => passAt tk σ) h1 h2
theorem pc_ninC (c : OwC X.prog X.w X.K X.mg X.base k C "__contains__" ps sp) (tk : Takes X W) (hr : Room j X.A) (hk : k ≤ j) (h1 : PE X e1 ta) (h2 : PE X e2 tb) : PC X .NotIn e1 e2 (tInO C sp true (WE W) ta tb) := by
  obtain ⟨f, fd, M, hf, F, hb⟩ := c.ex
  exact pc_ninO F (hr.mono hk) M hb (fun σ => passAt tk σ) h1 h2
theorem pc_eqC (c : OwC X.prog X.w X.K X.mg X.base k C "__eq__" ps sp) (ht : NoFirst X.K C) (tk : Takes X W) (hr : Room j X.A) (hk : k ≤ j) (h1 : PE X e1 ta) (h2 : PE X e2 tb) : PC X .Eq e1 e2 (tEqA X.K C sp (WE W) ta tb) := by
  obtain ⟨f, fd, M, hf, F, hb⟩ := c.ex
  exact pc_eqA F (hr.mono hk) M ht hb (fun σ => passAt tk σ) h1 h2
theorem call_lenC (c : OwC X.prog X.w X.K X.mg X.base k C "__len__" ps sp) (hr : Room j X.A) (hk : k + 1 ≤ j) : CallR X (.builtin "len") (rLenO C sp E0) := by
  obtain ⟨f, fd, M, hf, F, hb⟩ := c.ex
  exact call_lenO F (hr.mono hk) M hb fun σ pins H s e s' I h => passL pins σ H s e s' I h
end
end Ew

set_option Elab.async false
set_option linter.all false
set_option maxRecDepth 100000
set_option maxHeartbeats 4000000
namespace Ew
open PySem PySem.Spec PyProof.Rows L2
/-! ### a def that an except suite calls with the error it holds; nothing leaves it but by return -/
section
variable {P : Program} {w : World} {K : PySem.W.Frag} {mg : Str → Option Value} {base : Heap}
/-- the error at a, of the class cls, its dict d -/
abbrev SpE := Addr → Value → Option Addr → Sp
structure FnE (P : Program) (w : World) (K : PySem.W.Frag) (mg : Str → Option Value) (base : Heap) (k : Nat) (f : Addr) (fd : FuncData) (ps : List Str) (sp : SpE) : Prop where
  len : ∀ a cls d vs H Q E, sp a cls d vs H Q E → vs.length = ps.length
  go : ∀ (A : Around) (outer : List Env) (s : Shared) (H : Hp) (args : Args) (us : List Value) (vs : List V) (Q : VK) (E : XK) (a : Addr) (oe : Obj) (cls : Value) (d : Option Addr), A.guards = some [] → A.handled = some (.ref a) → Zc cls d oe → (∃ vs, oe.data = .fields vs) →
    L2H.RoomH k A → L2H.PinOk outer H s (a, oe) → Env0 P w K mg base A outer s H → BindsTo s fd args (ps.zip us) → Vals vs us → sp a cls d vs H Q E → codeAny (model P w) A (.call (.ref f) args) (CR (L2.CX P w) outer P w H s Q E) s
def BodyE (P : Program) (w : World) (K : PySem.W.Frag) (mg : Str → Option Value) (base : Heap) (N : List Str) (qual : Str) (st : Stmt) (k : Nat) (sp : SpE) : Prop :=
  ∀ (f : Addr) (cdv : Value) (A : Around) (outer : List Env) (s : Shared) (H : Hp) (vs : List V) (Q : VK) (E : XK) (a : Addr) (oe : Obj) (cls : Value) (d : Option Addr), (cxB P w K mg base N qual st f cdv A outer s H E).A.guards = some [] → Zc cls d oe → (∃ vs, oe.data = .fields vs) →
    L2H.RoomH k (cxB P w K mg base N qual st f cdv A outer s H E).A → sp a cls d vs H Q E →
    ∃ t, PSs ((cxB P w K mg base N qual st f cdv A outer s H E).suite a [(a, oe)]) (defBody st) t ∧ t { nx := fun _ H' => Q .non H', rt := Q } (start N vs) H
theorem mark_same {A : Around} {h : Option Value} (e : A.handled = h) : A.mark h = A := by
  subst e
  obtain ⟨h, d, fr, g, u⟩ := A
  cases h <;> rfl
theorem fun_hot {x qual : Str} {st : Stmt} {f : Addr} {fd : FuncData} {ps N : List Str} {k : Nat} {sp : SpE} (F : Fun K x qual st f fd) (S : FnScope N ps (defScope st)) (len : ∀ a cls d vs H Q E, sp a cls d vs H Q E → vs.length = ps.length) (h : BodyE P w K mg base N qual st k sp) :
    FnE P w K mg base (k + 1) f fd ps sp := by
  obtain ⟨oc, od, kV, doc, pm, an, cdv, ct, osl, rfl, lk, hcd⟩ := F.ex
  refine ⟨len, ?_⟩
  intro A outer s H args us vs Q E a oe cls d hg hh hz hf room pin e0 bind rel ask
  have many := len _ _ _ _ _ _ _ ask
  have kept : ∀ b o, base.get? b = some o → s.heap.get? b = some o := fun b o e => (e0.bs b o e).1
  have KX : K.In s.heap := e0.mod.kin.keeps kept
  have locals_ : ∀ y ∈ ps.zip us, (defScope st).names.lookup y.1 = some .local ∨ ((defScope st).names.lookup y.1 = some .cell ∧ ((cellsFrom (s.heap.objs.size + 1) (defScope st).names []).lookup y.1).isSome = true) := by
    rintro ⟨nm, v⟩ hy
    refine (S.par nm (List.of_mem_zip hy).1).imp id fun q => ⟨q, ?_⟩
    exact PySem.W.cellsFrom_some _ _ _ (.inl q)
  refine codeAny_call_function room.depth (KX _ _ lk) rfl S.co S.gen rfl (PySem.W.codeRec_of KX hcd) (bind _ _ _ _ ?_)
  refine wpAny_newFunctionEnv_cells S.kind locals_ ?_
  rintro env rfl s1 x
  refine ⟨(e0.mod.nolimit.keeps kept).keeps x.toInCall.keep, codeAny_func ?_⟩
  obtain ⟨t, ht, goal⟩ := h f cdv A outer s H vs Q E a oe cls d hg hz hf (room.deeper _) ask
  have J := L2H.inv_startH (CX := L2.CX P w) (E := E) (f := f) (cd := cdv) (qual := qual) S pin e0 many rel x
  have ok := J.ok
  have I : Inv ((cxB P w K mg base N qual st f cdv A outer s H E).suite a [(a, oe)]) [] (start N vs) H s1 :=
    ⟨⟨ok.mod, ok.kind, ok.glob, ok.blt, ok.above, ok.inj, ok.has, ok.cab, fun z => Bool.noConfusion (show false = true from z), ok.frames, ok.stk, ok.exf, ok.bs, ok.bsz, ok.noex, ok.exfs, ok.funs, ok.frf⟩, J.os, J.bare, J.base, J.loc, J.cell, J.free, J.freeC, J.pin, J.hok, J.len⟩
  have r := ht.run [] s1 (start N vs) H _ I goal
  have same : ((cxB P w K mg base N qual st f cdv A outer s H E).suite a [(a, oe)]).A = (cxB P w K mg base N qual st f cdv A outer s H E).A := mark_same hh
  rw [same] at r
  refine wpAny_mono r ?_ fun e s' z => z.elim
  intro fl s' end_
  match fl, end_ with
  | .ret u, ⟨v, σ', H', J, rv, q⟩ => exact ⟨v, H', J.os, J.bare, J.base, J.hok, rv, q⟩
  | .next, ⟨σ', H', J, q⟩ => exact ⟨.non, H', J.os, J.bare, J.base, J.hok, rfl, q⟩
  | .brk, ⟨_, _, _, q⟩ => exact q.elim
  | .cont, ⟨_, _, _, q⟩ => exact q.elim
structure ClE (P : Program) (w : World) (K : PySem.W.Frag) (mg : Str → Option Value) (base : Heap) (k : Nat) (x : Str) (ps : List Str) (sp : SpE) : Prop where
  ex : ∃ f fd, FnE P w K mg base k f fd ps sp ∧ mg x = some (.ref f) ∧ PySem.W.keepIn K (.ref f) = true ∧ Binds K fd ps []
theorem DefAt.clE {x : Str} {st : Stmt} {ps N : List Str} {k : Nat} {sp : SpE} (D : DefAt K mg x st ps) (S : FnScope N ps (defScope st)) (len : ∀ a cls d vs H Q E, sp a cls d vs H Q E → vs.length = ps.length) (h : BodyE P w K mg base N x st k sp) : ClE P w K mg base (k + 1) x ps sp := by
  obtain ⟨f, fd, F, g, b⟩ := D.ex
  exact ⟨f, fd, fun_hot F S len h, g, F.kp, b⟩
end
section
variable {X : Cx} {k j : Nat} {x : Str} {ps : List Str} {sp : SpE} {e : Expr} {es : List Expr} {t : TA} {p pos : Pos} {a : Addr} {oe : Obj} {cls : Value} {d : Option Addr} {pn : List (Addr × Obj)}
theorem pe_fE (hg0 : X.A.guards = some []) (c : ClE X.prog X.w X.K X.mg X.base k x ps sp) (hz : Zc cls d oe) (hf : ∃ vs, oe.data = .fields vs) (hr : Room j X.A) (hk : k ≤ j) (hg : Gl X x) (ha : PA (X.suite a ((a, oe) :: pn)) (e :: es) t) (hdb : (x == ("__debug__" : Str)) = false := by decide)
    (he : starEach (e :: es) X.env = (false, eval e X.env) :: starEach es X.env := by rfl) (hpl : (backTo pos (starEach es X.env)).any (·.1) = false := by rfl) : PE (X.suite a ((a, oe) :: pn)) (.Call (.Name x p) (e :: es) [] pos) (tCall (sp a cls d) [] E0 t) := by
  obtain ⟨f, fd, F, hm, hkp, hb⟩ := c.ex
  have hr := hr.mono hk
  refine ⟨fun pins s σ H Q I h => wpAny_Call_Name_kw (ld_glob I hg hm (PySem.W.callWith_K (h₀ := X.base) I.ok.mod.kin hkp (thn (ha.run pos pins s σ H _ I h) fun us s1 ⟨vs, H1, I1, r, q⟩ => ⟨I1.kIn, ?_⟩) he hpl) hdb)⟩
  have r2 := r.append (.nil : Vals [] [])
  have hl : (us ++ []).length = ps.length := by rw [← r2.length]; exact F.len _ _ _ _ _ _ _ q
  have P1 := I1.pin (a, oe) (List.mem_append_left _ List.mem_cons_self)
  have pin : L2H.PinOk X.stack H1 s1 (a, oe) := ⟨P1.1, P1.2.1, fun hm => (List.mem_cons.mp (I1.stkSub a hm)).elim P1.2.2.1 P1.2.2.2.1, P1.2.2.2.2⟩
  refine wpAny_call (codeAny_mono (F.go _ X.stack s1 H1 ⟨us, []⟩ (us ++ []) (vs ++ []) Q E0 a oe cls d hg0 rfl hz hf ⟨hr.dp, hr.un⟩ pin I1.env0 (hb s1 us I1.kIn hl) r2 q) fun y s' hq => ?_)
  match y, hq with
  | .error e, hq => exact passL pins σ H1 s1 e s' I1 hq
  | .ok (.ret u), hq => exact I1.after hq
end
end Ew

set_option Elab.async false
set_option linter.all false
set_option maxRecDepth 100000
set_option maxHeartbeats 4000000
namespace Ew
open PySem PySem.Spec PyProof.Rows L2
/-! ### a new instance whose __init__ may let an error out, at the slots where it is made -/
section
variable {X : Cx} {k j : Nat} {x : Str} {C : Addr} {ps : List Str} {sp : Sp} {e : Expr} {es : List Expr} {t : TA} {p pos : Pos} {W : WX}
def tMkW (C : Addr) (sp : Sp) (W : WX) (t : TA) : TE := fun σ H Q => t σ H fun vs H1 => ∀ o d, H1 o = none → H1 d = none → d ≠ o →
  sp (.ref o :: vs) (upd (upd H1 d (.own o)) o (.ins C d [])) (fun v H2 => v = .non ∧ Q (.ref o) H2) (WE W σ)
theorem pe_mkW (c : Mkr X.prog X.w X.K X.mg X.base k x C ps sp) (tk : Takes X W) (hr : Room j X.A) (hk : k + 1 ≤ j) (hg : Gl X x) (ha : PA X (e :: es) t) (hdb : (x == ("__debug__" : Str)) = false := by decide)
    (he : starEach (e :: es) X.env = (false, eval e X.env) :: starEach es X.env := by rfl) (hpl : (backTo pos (starEach es X.env)).any (·.1) = false := by rfl) : PE X (.Call (.Name x p) (e :: es) [] pos) (tMkW C sp W t) := by
  obtain ⟨f, fd, M, F, hb⟩ := c.ex
  have room : Room (k + 1) X.A := hr.mono hk
  refine ⟨fun pins s σ H Q I h => wpAny_Call_Name_kw (ld_glob I hg c.gC (PySem.W.callWith_K (h₀ := X.base) I.ok.mod.kin M.kp (thn (ha.run pos pins s σ H _ I h) fun us s1 z => ?_) he hpl) hdb)⟩
  obtain ⟨vs, H1, J, r, q⟩ := z
  refine ⟨J.kIn, ?_⟩
  have ask := q (s1.heap.objs.size + 1) s1.heap.objs.size (J.hok.fresh (Nat.le_succ _)) (J.hok.fresh (Nat.le_refl _)) (Nat.ne_of_lt (Nat.lt_succ_self _))
  have both : Vals (V.ref (s1.heap.objs.size + 1) :: vs) (Value.ref (s1.heap.objs.size + 1) :: us) := .cons rfl r
  have many : (Value.ref (s1.heap.objs.size + 1) :: us).length = ps.length := both.length ▸ F.len _ _ _ _ ask
  have J2 := Inv.made (C := C) J
  have bind := hb _ (Value.ref (s1.heap.objs.size + 1) :: us) J2.kIn (by rw [List.append_nil]; exact many)
  rw [List.append_nil] at bind
  have go := F.run _ X.stack _ _ ⟨Value.ref (s1.heap.objs.size + 1) :: us, []⟩ _ _ _ _ (room.make C us []) (J2.env0.make C us []) bind both ask
  refine wpAny_call (make_map (f := f) J.kIn M.makes M.init (beq_iff_eq.mp M.fn) (codeAny_mono go fun y s' end_ => ?_))
  match y, end_ with
  | .error e, end_ => exact passAt tk σ pins _ _ e s' J2 end_
  | .ok (.ret u), end_ =>
    obtain ⟨v, H', J3, rv, rfl, q3⟩ := J2.after end_
    exact ⟨rv, .ref _, H', J3, rfl, q3⟩
end
end Ew

set_option Elab.async false
set_option linter.all false
set_option maxRecDepth 100000
set_option maxHeartbeats 4000000
namespace Ew
open PySem PySem.Spec PyProof.Rows L2
/-! ### a walk over an own class whose __iter__ hands iter of a dict of its own -/
/-- what is known behind such a call -/
def KI (outer : List Env) (P : Program) (w : World) (H : Hp) (s : Shared) (d : Addr) (n ep : Nat) (u : Value) (s' : Shared) : Prop :=
  ∃ (it : Addr) (H' : Hp), u = .ref it ∧ H' = H ∧ s'.os = s.os ∧ AllBare s'.gens ∧ Un (frs outer) [] H H' s.heap s'.heap ∧ HOk P w H' s'.heap ∧ H' it = none ∧ s.heap.objs.size ≤ it ∧ s'.heap.IsKeyIter it d 0 n ep
def KR (outer : List Env) (P : Program) (w : World) (H : Hp) (s : Shared) (d : Addr) (n ep : Nat) (r : Result) (s' : Shared) : Prop :=
  match r with
  | .ok (.ret u) => KI outer P w H s d n ep u s'
  | .ok _ => False
  | .error e => L2.CX P w outer H s E0 e s'
section
variable {P : Program} {w : World} {K : PySem.W.Frag} {mg : Str → Option Value} {base : Heap}
structure FnI (P : Program) (w : World) (K : PySem.W.Frag) (mg : Str → Option Value) (base : Heap) (k : Nat) (f : Addr) (fd : FuncData) (C : Addr) (at_ : Str) : Prop where
  go : ∀ (A : Around) (outer : List Env) (s : Shared) (H : Hp) (args : Args) (a dx d : Addr) (fs : List (Str × V)) (o : Obj) (kvs : List (List Key × V)) (es : Array DictEntry) (ep : Nat), Room k A → Env0 P w K mg base A outer s H → BindsTo s fd args ([("self", .ref a)]) →
    H a = some (.ins C dx fs) → fs.lookup at_ = some (.ref d) → H d = some (.frz o (.dT kvs)) → o.data = .dict es ep →
    codeAny (model P w) A (.call (.ref f) args) (KR outer P w H s d kvs.length ep) s
theorem call_iter_dict {prog : Program} {A : Around} {E : Value → Shared → Prop} {s : Shared} {d : Addr} {o : Obj} {es : Array DictEntry} {ep : Nat} {Q : Value → Shared → Prop} (hd : (d == sysModules) = false) (ho : s.heap.get? d = some o) (hc : o.ExactDict) (hdat : o.data = .dict es ep)
    (hQ : Q (.ref s.heap.objs.size) { s with heap := s.heap.push { cls := .type "dict_keyiterator", data := .fields #[.ref d, .int 0 0, .int es.size 0, .int ep 0] } }) : wpAny (model prog w) A (call (.builtin "iter") [.ref d]) Q E s := by
  refine Calls.call_function_entry (by decide +kernel) (by decide +kernel) PySem.W.kdk_entry_iter (PySem.W.kdk_args_iter _) ?_
  unfold Builtin.«iter»
  refine wpAny_bind (m := someArgs "iter" 1 2 _) (wpAny_of_eq (a := [Value.ref d]) (by first | rfl | kernel_rfl!) ?_)
  show wpAny _ _ (pyIter (.ref d) >>= _) _ _ _
  refine wpAny_bind (iter_keys hd ho hc hdat ?_)
  exact wpAny_pure ⟨_, rfl, hQ⟩
theorem fun_it {q : Str} {st : Stmt} {f C : Addr} {fd : FuncData} {N : List Str} {k : Nat} {at_ : Str} {ea : Expr} {np cp rp : Pos} (F : Fun K "__iter__" q st f fd) (S : FnScope N ["self"] (defScope st)) (hb : defBody st = [.Return (some (.Call (.Name "iter" np) [ea] [] cp)) rp]) (hm : mg "iter" = none)
    (he : ∀ (cdv : Value) (A : Around) (outer : List Env) (s : Shared) (H : Hp), ∃ te : TE, PE (cxB P w K mg base N q st f cdv A outer s H E0) ea te ∧ Gl (cxB P w K mg base N q st f cdv A outer s H E0) "iter" ∧
      starEach [ea] (cxB P w K mg base N q st f cdv A outer s H E0).env = (false, eval ea (cxB P w K mg base N q st f cdv A outer s H E0).env) :: starEach [] (cxB P w K mg base N q st f cdv A outer s H E0).env ∧
      ∀ (H1 : Hp) (Q : VK) (a dx d : Addr) (fs : List (Str × V)), H1 a = some (.ins C dx fs) → fs.lookup at_ = some (.ref d) → Q (.ref d) H1 → te (start N [.ref a]) H1 Q) :
    FnI P w K mg base (k + 1) f fd C at_ := by
  obtain ⟨oc, od, kV, doc, pm, an, cdv, ct, osl, rfl, lk, hcd⟩ := F.ex
  refine ⟨?_⟩
  intro A outer s H args a dx d fs o kvs es ep room e0 bind ha hl hd hdat
  have kept : ∀ b o, base.get? b = some o → s.heap.get? b = some o := fun b o e => (e0.bs b o e).1
  have KX : K.In s.heap := e0.mod.kin.keeps kept
  have locals_ : ∀ y ∈ ([("self", Value.ref a)] : List (Str × Value)), (defScope st).names.lookup y.1 = some .local ∨ ((defScope st).names.lookup y.1 = some .cell ∧ ((cellsFrom (s.heap.objs.size + 1) (defScope st).names []).lookup y.1).isSome = true) := by
    rintro ⟨nm, v⟩ hy
    have hn : nm ∈ (["self"] : List Str) := by
      rcases List.mem_cons.mp hy with h | h
      · cases h; exact List.mem_cons_self
      · exact absurd h List.not_mem_nil
    refine (S.par nm hn).imp id fun q => ⟨q, ?_⟩
    exact PySem.W.cellsFrom_some _ _ _ (.inl q)
  refine codeAny_call_function room.depth (KX _ _ lk) rfl S.co S.gen rfl (PySem.W.codeRec_of KX hcd) (bind _ _ _ _ ?_)
  refine wpAny_newFunctionEnv_cells S.kind locals_ ?_
  rintro env rfl s1 x
  refine ⟨(e0.mod.nolimit.keeps kept).keeps x.toInCall.keep, codeAny_func ?_⟩
  obtain ⟨te, hpe, hg, hst, hte⟩ := he cdv A outer s H
  have I1 : Inv (cxB P w K mg base N q st f cdv A outer s H E0) [] (start N [.ref a]) H s1 := inv_start (us := [.ref a]) S room.hd e0 rfl (.cons rfl .nil) x
  have main : wpAny (model P w) (cxB P w K mg base N q st f cdv A outer s H E0).A (execs (defBody st) (cxB P w K mg base N q st f cdv A outer s H E0).env) (fun fl s' => ∃ it, fl = .ret (.ref it) ∧ (∃ σ', Inv (cxB P w K mg base N q st f cdv A outer s H E0) [] σ' H s') ∧ H it = none ∧ s.heap.objs.size ≤ it ∧ s'.heap.IsKeyIter it d 0 kvs.length ep) (cxB P w K mg base N q st f cdv A outer s H E0).xe s1 := by
    rw [hb]
    refine wpAny_execs_cons (thn (wpAny_Return_some (Q := fun fl s' => ∃ it, fl = .ret (.ref it) ∧ (∃ σ', Inv (cxB P w K mg base N q st f cdv A outer s H E0) [] σ' H s') ∧ H it = none ∧ s.heap.objs.size ≤ it ∧ s'.heap.IsKeyIter it d 0 kvs.length ep) (wpAny_Call_Name_kw (ld_blt I1 hg hm (by decide +kernel : bootBuiltins "iter" = some (.builtin "iter")) ?_ (by decide) (by decide)))) ?_)
    · refine PyProof.Rows.callWith_builtin1 (thn ((pa_cons hpe pa_nil (hs := hst)).run cp [] s1 (start N [.ref a]) H (fun vs H1 => vs = [.ref d] ∧ H1 = H) I1 (hte H _ a dx d fs ha hl ⟨rfl, rfl⟩)) fun us s2 z => ?_) hst (by rfl)
      obtain ⟨vs, H1, I2, r2, rfl, rfl⟩ := z
      obtain ⟨u, rfl, ru⟩ := vals1 r2
      obtain rfl : u = Value.ref d := ru
      obtain ⟨hs, hgd, hx, es', ep', hdt, hsz, ent⟩ := I2.frzT hd
      obtain ⟨rfl, rfl⟩ := dict_ep hdat hdt
      refine call_iter_dict hs hgd hx hdt ⟨_, rfl, ⟨_, I2.kept (t' := s2.toks) fun b ob e => Heap.get?_push_of_some _ e⟩, I2.hok.fresh (Nat.le_refl _), ?_, ⟨_, Heap.get?_push_size _ rfl, rfl, ?_⟩⟩
      · exact I2.sz
      · rw [hsz]
        rfl
    · rintro fl s' ⟨it, rfl, h⟩
      exact ⟨it, rfl, h⟩
  refine wpAny_mono main ?_ (fun e s' z => z)
  rintro fl s' ⟨it, rfl, ⟨σ', J⟩, h1, h2, h3⟩
  exact ⟨it, H, rfl, rfl, J.os, J.bare, J.base, J.hok, h1, h2, h3⟩
end
/-- an own class with such an __iter__, its promise -/
structure ItrC (P : Program) (w : World) (K : PySem.W.Frag) (mg : Str → Option Value) (base : Heap) (k : Nat) (C : Addr) (at_ : Str) : Prop where
  ex : ∃ f fd, OpM K C "__iter__" f ∧ FnI P w K mg base k f fd C at_ ∧ Binds K fd ["self"] []
section
variable {X : Cx} {tg e : Expr} {td : TE} {C : Addr} {at_ : Str} {k j : Nat}
def iOwn (C : Addr) (at_ : Str) (td : TE) : TI := fun σ H R => td σ H fun x H1 => ∃ a dx fs d o kvs, x = .ref a ∧ H1 a = some (.ins C dx fs) ∧ fs.lookup at_ = some (.ref d) ∧ H1 d = some (.frz o (.dT kvs)) ∧ R (Itkt d o kvs) H1
/-- for k in o, o of an own class -/
theorem pi_own (c : ItrC X.prog X.w X.K X.mg X.base k C at_) (hr : Room j X.A) (hk : k ≤ j) (he : PE X e td) : PI X tg e (iOwn C at_ td) := by
  obtain ⟨f, fd, M, FI, hb⟩ := c.ex
  refine ⟨fun pins s σ H R I h => thn (he.run pins s σ H _ I h) fun u s1 z => ?_⟩
  obtain ⟨x, H1, I1, rx, a, dx, fs, d, o, kvs, rfl, ha, hl, hd, q⟩ := z
  obtain rfl : u = Value.ref a := rx
  obtain ⟨od, J⟩ := ins_at I1 ha
  obtain ⟨m, fr⟩ := I1.fr
  obtain ⟨hs, hgd, hx, es, ep, hdt, hsz, ent⟩ := I1.frzT hd
  have b := hb s1 [.ref a] I1.kIn (by rfl)
  refine PySem.W.owit_iter fr I1.ok.mod.kin J M.at_ M.fn (wpAny_call (codeAny_mono (FI.go X.A X.stack s1 H1 ⟨[.ref a], []⟩ a dx d fs o kvs es ep (hr.mono hk) I1.env0 b ha hl hd hdt) fun r s' hq => ?_))
  match r, hq with
  | .error e, hq => exact passL pins σ H1 s1 e s' I1 hq
  | .ok (.ret u), hq =>
    obtain ⟨it, H', rfl, rfl, os, bare, un, hok, hn, hz, hit⟩ := hq
    obtain ⟨hh, g, dd, t, os'⟩ := s'
    obtain rfl : os' = s1.os := os
    have J2 := I1.call (h' := hh) (g' := g) (d' := dd) (t' := t) (ch := []) un hok bare (fun b z => absurd z (by simp))
    show PySem.W.OwitIt _ _ _ _ _ _
    unfold PySem.W.OwitIt
    refine wpAny_specialOf hit.typeIs PySem.F.slot_dict_keyiterator_next.lookup ?_
    refine ⟨it, [it], _, Itkt d o kvs, _, rfl, J2, turn_keysT it hdt, hit, fun b hb => ?_, q⟩
    have e : b = it := by simpa using hb
    subst e
    exact I1.fpOk hz hn
end
end Ew

set_option Elab.async false
set_option linter.all false
set_option maxRecDepth 100000
set_option maxHeartbeats 4000000
namespace Ew
open PySem PySem.Spec PyProof.Rows L2
/-! ### list(o), o of an own class with __len__, whose __iter__ hands iter of a dict of its own -/
section
variable {P : Program} {w : World} {A : Around} {E : Value → Shared → Prop} {s : Shared} {K : PySem.W.Frag} {a f C : Addr} {ox : Obj} {od : Option Obj}
/-- the length is asked, and some room is made where it is above 0 -/
theorem own_length {Q : Bool → Shared → Prop} (hK : K.In s.heap) (J : PySem.W.InstAt s.heap a ox C od) (M : OpM K C "__len__" f)
    (h : wpAny (model P w) A (call (.builtin "len") [.ref a]) (fun v s' => ∃ (n : Nat) (t : Tok), v = .int n t ∧ n ≤ sizeLine ∧ Q (n != 0) s') (fun _ _ => False) s) : wpAny (model P w) A (Builtin.List.listLengthHint (.ref a)) Q E s := by
  unfold Builtin.List.listLengthHint
  refine wpAny_bind (wpAny_bind (J.type.here ((PySem.W.looks_findIn hK M.at_).here ?_)))
  refine PySem.W.KFB.if_not rfl ?_
  refine wpAny_ite_split (fun _ => ?_) (fun z => absurd (show (some (Value.ref f)).isSome = true from rfl) z)
  refine wpAny_bind (wpAny_rule ?_)
  refine wpAny_bind (wpAny_attempt (wpAny_mono h (fun v s' hv => ?_) fun e s' he => ?_))
  · obtain ⟨n, t, rfl, hn, q⟩ := hv
    refine wpAny_bind (wpAny_pure ?_)
    have hl : Builtin.List.listTooLong ((n : Nat) : Int).toNat = false := by
      unfold Builtin.List.listTooLong
      simpa using hn
    show wpAny _ _ (if Builtin.List.listTooLong ((n : Nat) : Int).toNat = true then _ else pure (((n : Nat) : Int) != 0)) _ _ _
    rw [if_neg (by rw [hl]; decide)]
    refine wpAny_pure ?_
    have e : (((n : Nat) : Int) != 0) = (n != 0) := by
      rw [Bool.eq_iff_iff]
      simp
    rw [e]
    exact q
  · exact he.elim
end
section
variable {X : Cx} {pins : List (Addr × Obj)} {σ : L2.St} {H : Hp} {s : Shared} {k : Nat} {f : Addr} {fd : FuncData} {ps : List Str} {sp : Sp}
/-- somewhere below the running body -/
structure Low (X : Cx) (k : Nat) (A : Around) : Prop where
  room : Room k A
  fr : A.frames = X.A.frames
theorem Low.env0 {A : Around} (l : Low X k A) (I : Inv X pins σ H s) : Env0 X.prog X.w X.K X.mg X.base A X.stack s H := by
  have e := I.env0
  exact ⟨l.fr.trans e.frames, e.mod, e.bs, e.bsz, e.funs, e.frf, e.hok, e.bare⟩
/-- a call there of a def that lets nothing out -/
theorem run_low {A : Around} {Q : VK} {us : List Value} {vs : List V} {E : Value → Shared → Prop} (F : FnOk X.prog X.w X.K X.mg X.base (L2.CX X.prog X.w) k f fd ps sp) (l : Low X k A) (hb : Binds X.K fd ps [])
    (I : Inv X pins σ H s) (r : Vals vs us) (h : sp vs H Q E0) : wpAny (model X.prog X.w) A (call (.ref f) us) (EP X pins σ Q) E s := by
  have many : us.length = ps.length := r.length ▸ F.len _ _ _ _ h
  have bind := hb s us I.kIn (by rw [List.append_nil]; exact many)
  rw [List.append_nil] at bind
  refine wpAny_call (codeAny_mono (F.run A X.stack s H ⟨us, []⟩ us vs Q E0 l.room (l.env0 I) bind r h) fun y s' end_ => ?_)
  match y, end_ with
  | .error e, ⟨_, _, _, _, _, _, _, _, _, _, _, _, bad⟩ => exact bad.elim
  | .ok (.ret u), end_ => exact I.after end_
end
section
variable {X : Cx} {C : Addr} {at_ : Str} {k j : Nat} {sp : Sp}
/-- the keys of such a dict, off a row of addresses -/
theorem keys_row {H : Hp} : ∀ {kvs : List (List Key × V)} {vs : List Value}, vs.length = kvs.length → (∀ (i : Nat) (k : List Key) (v : V), kvs[i]? = some (k, v) → ∃ b : Addr, vs[i]? = some (Value.ref b) ∧ H b = some (.tup (k.map kV))) →
    ∃ bs, IsKeys H kvs bs ∧ vs = bs.map Value.ref ∧ Vals (bs.map V.ref) vs
  | [], [], _, _ => ⟨[], .nil, rfl, .nil⟩
  | (k, v) :: kvs, u :: vs, hl, h => by
    obtain ⟨b, e, hb⟩ := h 0 k v rfl
    obtain rfl : u = .ref b := Option.some.inj e
    obtain ⟨bs, h1, h2, h3⟩ := keys_row (by simpa using hl) fun i k v e => h (i + 1) k v e
    exact ⟨b :: bs, .cons hb h1, by rw [h2]; rfl, .cons rfl h3⟩
def rListC (C : Addr) (at_ : Str) (sp : Sp) : List V → Hp → VK → Prop := fun xs H Q => ∃ a dx fs d o kvs, xs = [.ref a] ∧ H a = some (.ins C dx fs) ∧ fs.lookup at_ = some (.ref d) ∧ H d = some (.frz o (.dT kvs)) ∧
  (∀ q, H q = none → sp [.ref a] (upd H q (.lst [])) (fun z H3 => ∃ n : Nat, z = .int n ∧ n ≤ sizeLine ∧ H3 = upd H q (.lst [])) E0) ∧ ∀ p bs, H p = none → IsKeys H kvs bs → Q (.ref p) (upd H p (.lst (bs.map V.ref)))
theorem call_listC (hc : X.calm = true) (ci : ItrC X.prog X.w X.K X.mg X.base k C at_) (cl : OwC X.prog X.w X.K X.mg X.base k C "__len__" ["self"] sp) (hr : Room j X.A) (hk : k + 3 ≤ j) : CallR X (.type "list") (rListC C at_ sp) := by
  intro pins s σ H xs us Q I r h
  obtain ⟨a, dx, fs, d, o, kvs, rfl, ha, hl, hd, hlen, q⟩ := h
  obtain ⟨u, rfl, rx⟩ := vals1 r
  obtain rfl : u = Value.ref a := rx
  obtain ⟨fi, fdi, Mi, FI, bi⟩ := ci.ex
  obtain ⟨fl, fdl, Ml, _, FL, bl⟩ := cl.ex
  refine callType_codes (Q₁ := fun obj s₁ => obj = .ref s.heap.objs.size ∧ s₁ = { s with heap := s.heap.push { cls := .type "list", data := .seq #[] } }) PySem.F.called_list (PySem.F.typeCall_list_1 _) PySem.F.entry_list_init (code_list_new _ ⟨rfl, rfl⟩) ?_
  rintro obj s1 ⟨rfl, rfl⟩
  have I1 : Inv X pins σ (upd H s.heap.objs.size (.lst [])) { s with heap := s.heap.push { cls := .type "list", data := .seq #[] } } := I.lnew (its := []) (t' := s.toks) .nil (Nat.zero_le _)
  have free := I.fresh
  have pa : a ≠ s.heap.objs.size := ne_of_none ha free
  have pd : d ≠ s.heap.objs.size := ne_of_none hd free
  obtain ⟨_, its, n, r1, l1, g1⟩ := I1.lstM upd_same
  cases r1
  refine ⟨⟨_, g1, rfl⟩, PySem.F.args_list_init_2 _ _, ?_⟩
  unfold Builtin.«list.__init__»
  refine wpAny_bind (m := Builtin.List.listItems (.ref s.heap.objs.size)) ?_
  unfold Builtin.List.listItems Builtin.List.listUpdate
  refine wpAny_bind (wpAny_seqItems g1 rfl (wpAny_pure (wpAny_bind (wpAny_updateSeq g1 rfl ?_))))
  have I2 := I1.lset (f := fun _ => #[]) (its := []) (its' := []) (ys := []) (t' := s.toks) upd_same g1 rfl .nil (Nat.zero_le _)
  rw [upd_upd] at I2
  refine wpAny_bind (wpAny_letGo ?_)
  obtain ⟨_, its2, n2, r2, l2, g2⟩ := I2.lstM upd_same
  cases r2
  have ha2 : upd H s.heap.objs.size (.lst []) a = some (.ins C dx fs) := by rw [upd_ne pa]; exact ha
  have hd2 : upd H s.heap.objs.size (.lst []) d = some (.frz o (.dT kvs)) := by rw [upd_ne pd]; exact hd
  have hl2 := hlen _ free
  have hp2 : upd H s.heap.objs.size (.lst []) s.heap.objs.size = some (.lst []) := upd_same
  obtain ⟨H2, eH⟩ : ∃ H2, H2 = upd H s.heap.objs.size (.lst []) := ⟨_, rfl⟩
  rw [← eH] at I2 ha2 hd2 hl2 hp2
  obtain ⟨p, ep⟩ : ∃ p, p = s.heap.objs.size := ⟨_, rfl⟩
  rw [← ep] at g2 hp2 pa pd eH free ⊢
  revert I2 g2
  rw [← ep]
  generalize ({ s with heap := (s.heap.push { cls := .type "list", data := .seq #[] }).update p (Obj.mapSeq fun _ => #[]) } : Shared) = s2
  intro I2 g2
  have low : Low X (k + 1) X.A.in1.in1 := ⟨((hr.mono (show k + 1 + 1 + 1 ≤ j by omega)).in1).in1, rfl⟩
  obtain ⟨oa, J⟩ := ins_at I2 ha2
  obtain ⟨m, fr⟩ := I2.fr
  obtain ⟨_, gd, hx, es, ee, hdt, hsz, ent⟩ := I2.frzT hd2
  -- what is left when the iterator is there and the room is made
  have fin : ∀ (it : Addr) (s5 : Shared) (n5 : Nat), FpOk X pins H2 it → it ≠ p → it ≠ d → Inv X pins σ H2 s5 → s5.heap.get? p = some { cls := .type "list", data := .seq #[] n5 } → s5.heap.IsKeyIter it d 0 es.size ee →
      codeAny (model X.prog X.w) X.A.in1 (.builtin "list.extend.loop" ⟨[.ref p, .ref it, .none], []⟩) (wants (fun r s₂ => r = .none ∧ EP X pins σ Q (.ref p) s₂) X.xe) s5 := by
    intro it s5 n5 hf hip hid I5 g5 hit
    obtain ⟨_, gd5, _⟩ := I5.frzT hd2
    have hz : es.size ≤ sizeLine := by
      rw [hsz]
      exact (I5.hok d _ hd2).2.1
    have off : p ∉ [it, d] := fun z => by
      rcases List.mem_cons.mp z with z | z
      · exact hip z.symm
      · exact pd (List.mem_singleton.mp z).symm
    refine codeAny_extend_loopS (walks_raw (A := X.A.in1.in1) (I.ok.hd hc) it d (Ne.symm hid) hdt).toS hz p off .none es.size 0 _ #[] n5 rfl (Nat.zero_le _) ⟨hit, gd5⟩ g5 (ItemsOf.nil _) fun s6 acc n6 mv g6 all => ?_
    obtain ⟨bs, ks, eb, rv⟩ := keys_row (H := H2) (kvs := kvs) (vs := acc.toList) (by rw [Array.length_toList, all.1, hsz]) fun i k v e => by
      obtain ⟨en, b, h1, h2, h3⟩ := ent i k v e
      have hi : i < acc.size := by
        rw [all.1]
        exact (Array.getElem?_eq_some_iff.mp h1).1
      obtain ⟨en', h4, h5⟩ := all.2 i acc[i] (Array.getElem?_eq_getElem hi)
      rw [h1] at h4
      cases h4
      exact ⟨b, by rw [Array.getElem?_toList, Array.getElem?_eq_getElem hi, h5, h2], h3⟩
    have gp := Heap.get?_update_self (fun _ => ({ cls := .type "list", data := .seq acc n6 } : Obj)) g5 rfl
    have J6 := I5.write (x := p) (e := p) (o := .lst (bs.map V.ref)) (t' := s6.toks) (h' := s5.heap.update p fun _ => { cls := .type "list", data := .seq acc n6 }) (by rw [hp2]; exact trivial) (.inl rfl) (fun b o hb e => (Heap.get?_update_other _ _ (Ne.symm hb)).trans e) ⟨_, gp⟩
      ⟨by rw [List.length_map, ← List.length_map (f := Value.ref), ← eb, Array.length_toList, all.1]; exact hz, acc.toList, n6, rv, by rw [Array.toArray_toList]; exact gp⟩
    obtain ⟨f0, f1, f2, f3, f4, f5⟩ := hf
    have J7 := J6.turned (h' := s6.heap) (t' := s6.toks) (it := it) (fun b o hb e => by
      by_cases ebp : b = p
      · subst ebp
        have e' := gp.symm.trans e
        cases e'
        exact g6
      · exact mv.heap b o (fun z => by
          rcases List.mem_cons.mp z with z | z
          · exact ebp z
          · exact hb (List.mem_singleton.mp z)) ((Heap.get?_update_other _ _ (Ne.symm ebp)).symm.trans e)) (by rw [upd_ne hip]; exact f0) f1 f3 f4 f5
    have fin : EP X pins σ Q (.ref p) s6 := by
      rw [Moved.eq_with mv]
      refine ⟨.ref p, _, J7, rfl, ?_⟩
      rw [eH, upd_upd]
      refine q p bs free (Paired.mapP ks fun x b z => ?_)
      have np : b ≠ p := fun e => by
        rw [e, hp2] at z
        cases z
      rwa [eH, upd_ne np] at z
    exact ⟨rfl, fin⟩
  show wpAny _ _ (Builtin.List.listExtendWith (.ref p) (.ref a) .none) _ _ s2
  unfold Builtin.List.listExtendWith
  have no : (Builtin.List.listSameRef (.ref p) (.ref a) || Value.ref C == .type "list" || Value.ref C == .type "tuple") = false := by
    have : Builtin.List.listSameRef (.ref p) (.ref a) = false := by simp [Builtin.List.listSameRef, Ne.symm pa]
    rw [this]
    rfl
  refine wpAny_bind (J.type.here ?_)
  rw [if_neg (by rw [no]; decide)]
  have b := bi s2 [.ref a] I2.kIn (by rfl)
  refine wpAny_bind (PySem.W.owit_iter fr I2.ok.mod.kin J Mi.at_ Mi.fn (wpAny_call (codeAny_mono (FI.go X.A.in1.in1 X.stack s2 H2 ⟨[.ref a], []⟩ a dx d fs o kvs es ee (low.room.mono (Nat.le_succ k)) (low.env0 I2) b ha2 hl hd2 hdt) fun y s3 end_ => ?_)))
  match y, end_ with
  | .error e, ⟨_, _, _, _, _, _, _, _, _, _, _, _, bad⟩ => exact bad.elim
  | .ok (.ret u), ⟨it, H', eu, eH', os, bare, un, hok, hn, hz, hit⟩ =>
    subst eu
    obtain ⟨hh, g, dd, t, os'⟩ := s3
    obtain rfl : os' = s2.os := os
    subst eH'
    have J3 := I2.call (h' := hh) (g' := g) (d' := dd) (t' := t) (ch := []) un hok bare (fun b z => absurd z (by simp))
    unfold PySem.W.OwitIt
    refine wpAny_specialOf hit.typeIs PySem.F.slot_dict_keyiterator_next.lookup ?_
    have hf := I2.fpOk hz hn
    obtain ⟨oi, gi, ci2, di⟩ := id hit
    have J4 := J3.pinned (fp := [it]) (fun b hb => by rw [List.mem_singleton.mp hb]; exact hf) (fun b hb => by rw [List.mem_singleton.mp hb]; exact ⟨oi, gi, fun v z => by rw [di] at z; cases z⟩)
    obtain ⟨ob, J5⟩ := ins_at J4 ha2
    obtain ⟨m4, fr4⟩ := J4.fr
    have ni : it ≠ p := fun z => by rw [z, hp2] at hn; cases hn
    have nd : it ≠ d := fun z => by rw [z, hd2] at hn; cases hn
    refine wpAny_bind (wpAny_holding (own_length J4.kIn J5 Ml (PySem.W.len_K fr4 J4.ok.mod.kin J5 Ml.at_ Ml.fn (thn (run_low (vs := [.ref a]) FL (⟨low.room.in1, low.fr⟩ : Low X k X.A.in1.in1.in1) bl J4 (.cons rfl .nil) hl2) fun v s4 z => ?_))))
    obtain ⟨v4, H4, J6, r4, c, rfl, hc4, eH4⟩ := z
    obtain ⟨tc, rfl⟩ := r4
    subst eH4
    refine ⟨⟨by omega, by have := sizeLine_eq; omega⟩, c, _, rfl, hc4, ?_⟩
    have J7 := J6.unpinned.tok (s4.toks + 1)
    have at_it : s4.heap.get? it = some oi := (J6.pin (it, oi) (List.mem_append_right _ (List.mem_append_right _ (mem_pinsAt List.mem_cons_self gi)))).1
    have hit4 : s4.heap.IsKeyIter it d 0 es.size ee := ⟨oi, at_it, ci2, by rw [hsz]; exact di⟩
    obtain ⟨_, its5, n5, r5, l5, g5⟩ := J7.lstM hp2
    cases r5
    refine wpAny_ite_split (fun _ => ?_) (fun _ => wpAny_pure ⟨plainId_quiet PySem.F.plain_extend_loop _, fin it _ n5 hf ni nd J7 g5 hit4⟩)
    refine wpAny_bind (wpAny_rule (wpAny_bind ?_))
    unfold Builtin.List.listTouch Builtin.List.listUpdate
    refine wpAny_bind (wpAny_updateSeq g5 rfl ?_ (by simp [sizeLine_eq]) (by simp [sizeLine_eq]))
    have J8 := J7.lset (f := (·.push Value.none)) (its' := [Value.none]) (ys := [.non]) (t' := s4.toks + 1) hp2 g5 (by simp) (.cons rfl .nil) (by simp [sizeLine_eq])
    obtain ⟨_, its8, n8, r8, l8, g8⟩ := J8.lstM upd_same
    obtain ⟨u8, rfl, ru8⟩ := r8.one
    refine wpAny_updateSeq g8 rfl ?_ (by simp [sizeLine_eq]) (by simp [sizeLine_eq])
    have J9 := J8.lset (f := (·.pop)) (its := [u8]) (its' := []) (ys := []) (t' := s4.toks + 1) upd_same g8 (by rfl) .nil (Nat.zero_le _)
    have same : upd (upd H4 p (.lst [.non])) p (.lst []) = H4 := by
      rw [upd_upd]
      funext b
      by_cases e : b = p
      · rw [e, upd_same, hp2]
      · rw [upd_ne e]
    rw [same] at J9
    obtain ⟨_, its9, n9, r9, l9, g9⟩ := J9.lstM hp2
    cases r9
    refine wpAny_pure ⟨plainId_quiet PySem.F.plain_extend_loop _, fin it _ n9 hf ni nd J9 g9 ⟨oi, ?_, ci2, by rw [hsz]; exact di⟩⟩
    exact (Heap.get?_update_other _ _ (Ne.symm ni)).trans ((Heap.get?_update_other _ _ (Ne.symm ni)).trans at_it)
end
end Ew

set_option Elab.async false
set_option linter.all false
set_option maxRecDepth 100000
set_option maxHeartbeats 4000000
namespace Ew
open PySem PySem.Spec PyProof.Rows L2
/-! ### two dicts whose keys are tuples, side by side -/
section
variable {P : Program} {w : World} {A : Around} {E : Value → Shared → Prop} {s : Shared}
abbrev Turn1 := Option Bool × PUnit
/-- places asked one after the other, nothing is changed; the first no is the answer -/
theorem ask_places {Q : Turn1 → Shared → Prop} (b : Nat → Bool) (g : Nat → Turn1 → Sem (ForInStep Turn1)) : ∀ l : List Nat,
    (∀ i ∈ l, ∀ R : ForInStep Turn1 → Shared → Prop, R (if b i = true then .yield (none, ()) else .done (some false, ())) s → wpAny (model P w) A (g i (none, ())) R E s) →
    Q (if l.all b = true then (none, ()) else (some false, ())) s → wpAny (model P w) A (forIn l ((none, ()) : Turn1) g) Q E s
  | [], _, q => by
    rw [List.forIn_nil]
    exact wpAny_pure q
  | i :: l, h, q => by
    rw [List.forIn_cons]
    refine wpAny_bind (h i List.mem_cons_self _ ?_)
    rw [List.all_cons] at q
    cases e : b i with
    | false =>
      rw [e] at q
      exact wpAny_pure q
    | true =>
      rw [e] at q
      exact ask_places b g l (fun j hj => h j (List.mem_cons_of_mem _ hj)) q
variable {K : Type} [DecidableEq K] {kd : HeapKind P w K}
/-- what the pair at a place of the one says of the other -/
def sideB (ys : List (K × Addr × Value)) (e : K → Bool) (x : K × Addr × Value) : Bool := (ys.any fun y => decide (y.1 = x.1)) && e x.1
theorem one_of {ys : List (K × Addr × Value)} (hn : (ys.map (·.1)).Nodup) {i j : Nat} {k : K} {p q : Addr × Value} (h1 : ys[i]? = some (k, p)) (h2 : ys[j]? = some (k, q)) : p = q := by
  have e1 : (ys.map (·.1))[i]? = some k := by rw [List.getElem?_map, h1]; rfl
  have e2 : (ys.map (·.1))[j]? = some k := by rw [List.getElem?_map, h2]; rfl
  obtain ⟨hi, _⟩ := List.getElem?_eq_some_iff.mp e1
  have : i = j := (List.getElem?_inj hi hn).mp (e1.trans e2.symm)
  subst this
  exact (Prod.mk.inj (Option.some.inj (h1.symm.trans h2))).2
theorem side_by_side {nm : String} {a b : Addr} {xs ys : List (K × Addr × Value)} {e : K → Bool} {Q : Bool → Shared → Prop} (hu : kd.room A) (ha : (a == sysModules) = false) (hb : (b == sysModules) = false) (da : s.heap.DictOfH kd a xs) (db : s.heap.DictOfH kd b ys)
    (he : ∀ k p q, (k, p) ∈ xs → (k, q) ∈ ys → SeqAt.EqP P w A s p.2 q.2 (e k)) (q : Q (xs.length == ys.length && xs.all (sideB ys e)) s) : wpAny (model P w) A (Builtin.Dict.samePairs nm a b) Q E s := by
  obtain ⟨oa, ea, pa, ga, _, va, la, ka, _⟩ := da
  obtain ⟨ob, eb, pb, gb, _, vb, lb, kb, nb⟩ := db
  have sa : ea.size = xs.length := by rw [← Array.length_toList, la, List.length_map]
  have sb : eb.size = ys.length := by rw [← Array.length_toList, lb, List.length_map]
  simp only [Builtin.Dict.samePairs, Builtin.Dict.showsAll, ha, hb, Bool.false_eq_true, if_false]
  refine wpAny_bind (wpAny_pure (wpAny_bind (wpAny_pure (wpAny_bind (wpAny_dictEntries ga va (wpAny_bind (wpAny_dictEntries gb vb ?_)))))))
  rw [sa, sb]
  by_cases hl : xs.length = ys.length
  · rw [if_neg (by rw [hl]; simp)]
    rw [hl, beq_self_eq_true, Bool.true_and] at q
    refine wpAny_bind (wpAny_dictEpoch ga va (wpAny_bind ?_))
    rw [Std.Legacy.Range.forIn_eq_forIn_range']
    refine ask_places (fun i => (xs[i]?.map (sideB ys e)).getD true) _ _ (fun i hi R r => ?_) ?_
    · have il : i < xs.length := by
        have := List.mem_range'.mp hi
        simp at this
        omega
      obtain ⟨k, p, hx⟩ : ∃ k p, xs[i]? = some (k, p) := ⟨_, _, List.getElem?_eq_getElem il⟩
      have hm := List.mem_of_getElem? hx
      rw [hx] at r
      refine wpAny_bind (wpAny_dictEntries ga va ?_)
      rw [entry_at la, hx]
      refine wpAny_bind (wpAny_holding (wpAny_bind (wpAny_dictFind_heap (k := k) hu (ka _ hm) gb vb lb kb nb (fun no => ?_) fun j q hj => ?_)))
      · have f : sideB ys e (k, p) = false := by
          have n : (ys.any fun y => decide (y.1 = k)) = false := by
            rw [List.any_eq_false]
            rintro ⟨k2, q2⟩ hy
            obtain ⟨j, hj⟩ := List.mem_iff_getElem?.mp hy
            intro z
            obtain rfl : k2 = k := of_decide_eq_true z
            exact no j q2 hj
          rw [sideB, n, Bool.false_and]
        simp only [Option.map_some, Option.getD_some, f, Bool.false_eq_true, if_false] at r
        exact wpAny_pure (wpAny_pure r)
      · have hy := List.mem_of_getElem? hj
        have f : sideB ys e (k, p) = e k := by
          have n : (ys.any fun y => decide (y.1 = k)) = true := List.any_eq_true.mpr ⟨_, hy, decide_eq_true rfl⟩
          rw [sideB, n, Bool.true_and]
        simp only [Option.map_some, Option.getD_some, f] at r
        refine wpAny_bind (wpAny_dictEntries gb vb ?_)
        rw [entry_at lb, hj]
        refine wpAny_holding (he k p q hm hy _ _ ?_)
        cases ek : e k with
        | false =>
          rw [ek] at r
          exact wpAny_pure r
        | true =>
          rw [ek] at r
          refine wpAny_bind (wpAny_dictEpoch ga va ?_)
          rw [if_neg (by simp)]
          exact wpAny_pure r
    · have f : ((List.range' 0 xs.length 1).all fun i => (xs[i]?.map (sideB ys e)).getD true) = xs.all (sideB ys e) := by
        rw [Bool.eq_iff_iff, List.all_eq_true, List.all_eq_true]
        constructor
        · intro h x hx
          obtain ⟨i, hi⟩ := List.mem_iff_getElem?.mp hx
          have il := (List.getElem?_eq_some_iff.mp hi).1
          have := h i (List.mem_range'.mpr ⟨i, il, by simp⟩)
          rw [hi] at this
          exact this
        · intro h i hi
          cases hx : xs[i]? with
          | none => rfl
          | some x => exact h x (List.mem_of_getElem? hx)
      have g : (Std.Legacy.Range.size { start := 0, stop := xs.length, step := 1, step_pos := Nat.one_pos }) = xs.length := by
        simp [Std.Legacy.Range.size]
      rw [g, f]
      cases r : xs.all (sideB ys e) <;> (rw [r] at q; exact wpAny_pure q)
  · rw [if_pos (by simpa using hl)]
    have hf : (xs.length == ys.length) = false := by simpa using hl
    rw [hf, Bool.false_and] at q
    exact wpAny_bind (wpAny_rule (wpAny_pure q))
/-- a == b -/
theorem dd_eq {a b : Addr} {xs ys : List (K × Addr × Value)} {e : K → Bool} {Q : Value → Shared → Prop} (hc : A.units < cLine) (hu : kd.room A.in1) (ha : (a == sysModules) = false) (hb : (b == sysModules) = false) (da : s.heap.DictOfH kd a xs) (db : s.heap.DictOfH kd b ys)
    (he : ∀ k p q, (k, p) ∈ xs → (k, q) ∈ ys → SeqAt.EqP P w A.in1 s p.2 q.2 (e k)) (q : Q (.bool (xs.length == ys.length && xs.all (sideB ys e))) s) : wpAny (model P w) A (richCompare .Eq (.ref a) (.ref b)) Q E s := by
  have ta : s.TypeIs (.ref a) "dict" := da.typeIs
  have tb : s.TypeIs (.ref b) "dict" := db.typeIs
  refine wpAny_richCompare_same_room (op := .Eq) ta tb PySem.F.slot_dict_eq ?_ hc
  refine wpAny_call_entry PySem.F.slot_dict_eq ta PySem.F.entry_dict_eq ?_ (PySem.F.args_dict_eq_2 _ _)
  refine wpAny_bind (m := Builtin.Dict.dictSlotArgs "__eq__" ⟨[.ref a, .ref b], []⟩) (wpAny_bind (wpAny_notOrdered_dict ta (wpAny_pure ?_)))
  refine wpAny_bind (wpAny_isInstance (T := "dict") (b := true) tb PySem.F.sub_dict_dict ?_)
  refine wpAny_bind (m := Builtin.Dict.addrOf (.ref a)) (wpAny_pure (wpAny_bind (m := Builtin.Dict.addrOf (.ref b)) (wpAny_pure (wpAny_bind (side_by_side hu ha hb da db he ?_)))))
  have f : Q (.bool ((xs.length == ys.length && xs.all (sideB ys e)) == true)) s := by
    rw [beq_true]
    exact q
  refine wpAny_pure ⟨_, rfl, ?_, f⟩
  rintro ⟨⟩
end
/-! ### == of two such dicts by what the reading says of them -/
def inB (kb : List (List Key × V)) (e : List Key → Bool) (p : List Key × V) : Bool := (kb.any fun q => decide (q.1 = p.1)) && e p.1
def rEqT (K : PySem.W.Frag) : R2 := fun x y H Q => ∃ a b ka kb e, x = .ref a ∧ y = .ref b ∧ Rd H a (.dT ka) ∧ Rd H b (.dT kb) ∧
  (∀ k v u, (k, v) ∈ ka → (k, u) ∈ kb → ∃ d1 d2, Dp K H v d1 ∧ Dp K H u d2 ∧ SeqAt.shaped d1 = true ∧ SeqAt.shaped d2 = true ∧ PyData.eqv d1 d2 = e k) ∧ Q (.bl (ka.length == kb.length && ka.all (inB kb e))) H
theorem kt_back {H : Hp} {ks : List (List Key × V)} {xs : List (List Key × Addr × Value)} (r : KT H ks xs) : ∀ k p, (k, p) ∈ xs → ∃ v, (k, v) ∈ ks ∧ RelV v p.2 := by
  induction r with
  | nil => exact fun k p h => nomatch h
  | cons h t ih =>
    intro k p m
    rcases List.mem_cons.mp m with z | z
    · subst z
      exact ⟨_, List.mem_cons.mpr (.inl (Prod.ext h.1.symm rfl)), h.2.2⟩
    · obtain ⟨v, hv, rv⟩ := ih k p z
      exact ⟨v, List.mem_cons_of_mem _ hv, rv⟩
theorem kt_len {H : Hp} {ks : List (List Key × V)} {xs : List (List Key × Addr × Value)} (r : KT H ks xs) : xs.length = ks.length := by
  induction r with
  | nil => rfl
  | cons h t ih => rw [List.length_cons, List.length_cons, ih]
theorem kt_any {H : Hp} {ks : List (List Key × V)} {xs : List (List Key × Addr × Value)} (r : KT H ks xs) (k : List Key) : (xs.any fun y => decide (y.1 = k)) = ks.any fun q => decide (q.1 = k) := by
  induction r with
  | nil => rfl
  | cons h t ih => rw [List.any_cons, List.any_cons, ih, h.1]
theorem kt_all {H : Hp} {ka kb : List (List Key × V)} {xs ys : List (List Key × Addr × Value)} (r : KT H ka xs) (t : KT H kb ys) (e : List Key → Bool) : xs.all (sideB ys e) = ka.all (inB kb e) := by
  induction r with
  | nil => rfl
  | cons h _ ih => rw [List.all_cons, List.all_cons, ih, sideB, inB, kt_any t, h.1]
theorem op_eqT {X : Cx} (hu : X.A.units + 65 < cLine) : OpR X (compareOp .Eq) (rEqT X.K) := by
  intro pins s σ H x y v u Q I rx ry h
  obtain ⟨a, b, ka, kb, e, rfl, rfl, ea, eb, he, q⟩ := h
  obtain rfl : v = Value.ref a := rx
  obtain rfl : u = Value.ref b := ry
  obtain ⟨_, na, xs, ra, da⟩ := dt_rd I.hok ea
  obtain ⟨_, nb, ys, rb, db⟩ := dt_rd I.hok eb
  refine dd_eq (e := e) (by omega) (show X.A.in1.units < cLine from ?_) na nb da db (fun k p z hp hz => ?_) ?_
  · show X.A.units + 1 < cLine
    omega
  · obtain ⟨v1, m1, r1⟩ := kt_back ra k p hp
    obtain ⟨v2, m2, r2⟩ := kt_back rb k z hz
    obtain ⟨d1, d2, h1, h2, s1, s2, f⟩ := he k v1 v2 m1 m2
    obtain ⟨as, w1⟩ := Dp.reads I d1 v1 _ h1 r1
    obtain ⟨bs, w2⟩ := Dp.reads I d2 v2 _ h2 r2
    rw [← f]
    exact (PySem.W.keq_at w1 w2 s1 s2 (show X.A.units + 1 + 64 < cLine by omega)).eqP
  · rw [kt_len ra, kt_len rb, kt_all ra rb]
    exact ⟨.bl _, H, I, rfl, q⟩
end Ew

set_option Elab.async false
set_option linter.all false
set_option maxRecDepth 100000
set_option maxHeartbeats 4000000
namespace Ew
open PySem PySem.Spec PyProof.Rows L2
section
variable {X : Cx} {e : Expr} {te : TE}
/-- behind an expression a thing of the def's own is not to be written any more -/
def tKeep (te : TE) : TE := fun σ H Q => te σ H fun v H' => ∃ d u, H' d = some u ∧ Mut (some u) ∧ ∀ o, Q v (upd H' d (.frz o u))
theorem pe_keep (h : PE X e te) : PE X e (tKeep te) := ⟨fun pins s σ H Q I q => thn (h.run pins s σ H _ I q) fun _ _ ⟨v, H', J, r, d, u, hd, mu, k⟩ => by
  obtain ⟨o, J2⟩ := J.lock hd mu
  exact ⟨v, _, J2, r, k o⟩⟩
/-- len of a dict whose keys are tuples, written or not -/
def rLenF : List V → Hp → VK → Prop := fun xs H Q => ∃ p kvs, xs = [.ref p] ∧ Rd H p (.dT kvs) ∧ Q (.int ((kvs.length : Nat) : Int)) H
theorem call_lenF : CallR X (.builtin "len") rLenF := by
  intro pins s σ H xs us Q I r h
  obtain ⟨p, kvs, rfl, hp, q⟩ := h
  obtain ⟨u, rfl, rx⟩ := vals1 r
  obtain rfl : u = Value.ref p := rx
  obtain ⟨z, ns, ys, kt, d⟩ := dt_rd I.hok hp
  have l : ys.length = kvs.length := kt_len kt
  refine call_len_dictH ns d (by have := sizeLine_eq; omega) ?_
  rw [l]
  exact ⟨.int _, H, (I.tok _).tok _, ⟨_, rfl⟩, q⟩
/-- room for what stands a little deeper -/
theorem units5 {k : Nat} {A : Around} (r : Room k A) : A.units + 65 < cLine := by
  have := r.un
  omega
end
end Ew

set_option Elab.async false
set_option linter.all false
set_option maxRecDepth 100000
set_option maxHeartbeats 4000000
namespace Ew
open PySem PySem.Spec PyProof.Rows L2
/-! ### enumerate(a tuple) -/
section
variable {P : Program} {w : World} {A : Around} {E : Value → Shared → Prop} {s : Shared}
theorem enum_new {v : Value} {o : Obj} {G : Heap → Prop} (B : Begins v o G) : Meets (Builtin.«enumerate.__new__» ⟨[.type "enumerate", v], []⟩) (fun _ R s => G s.heap ∧
    R (.ok (.ret (.ref (s.heap.push o).objs.size))) { s with heap := (s.heap.push o).push { cls := .type "enumerate", data := .fields #[.none, .bool false, .ref s.heap.objs.size, rawInt 0, .none, .none] } }) :=
  .of_wp fun P w A R s z => by
    obtain ⟨hp, g, d, tk, os⟩ := s
    obtain ⟨here, q⟩ := z
    have sub := sub_enumerate
    have go : ∀ {A' : Around} {E : Value → Shared → Prop} {Q : Value → Shared → Prop}, Q (.ref hp.objs.size) ⟨hp.push o, g, d, tk, os⟩ → wpAny (model P w) A' (pyIter v) Q E ⟨hp, g, d, tk, os⟩ := fun k => B.iter P w _ _ ⟨hp, g, d, tk, os⟩ _ here k
    wp_walk using go
    refine wpAny_stack_any fun st => wpAny_pure ?_
    split
    · rename_i c _ _ _ _ _
      cases (c == Value.type "enumerate") <;> (wp_walk using go; exact ⟨_, rfl, q⟩)
    · wp_walk using go
      exact ⟨_, rfl, q⟩
theorem enum_call {v : Value} {o : Obj} {G : Heap → Prop} {Q : Value → Shared → Prop} (B : Begins v o G) (here : G s.heap)
    (k : ∀ h', IsEnum h' (s.heap.objs.size + 1) s.heap.objs.size 0 .none → h'.get? s.heap.objs.size = some o → (∀ b u, s.heap.get? b = some u → h'.get? b = some u) → Q (.ref (s.heap.objs.size + 1)) { s with heap := h' }) :
    wpAny (model P w) A (call (.type "enumerate") [v]) Q E s := by
  refine callType_new F.called_enumerate (by decide) (F.typeCall_enumerate_1 _) (F.newCall_enumerate_1 _) (fun obj => F.args_object_init_2 obj _) F.entry_enumerate_new (enum_new B) ⟨here, ?_⟩
  have z : (s.heap.push o).objs.size = s.heap.objs.size + 1 := Heap.size_push ..
  have e := Heap.get?_push_size (s.heap.push o) (o := { cls := .type "enumerate", data := .fields #[.none, .bool false, .ref s.heap.objs.size, rawInt 0, .none, .none] }) rfl
  show _ ∧ _
  rw [z] at e ⊢
  exact ⟨⟨_, e, rfl⟩, k _ e (Heap.get?_push_of_some _ (Heap.get?_push_size _ B.free)) fun b u q => Heap.get?_push_of_some _ (Heap.get?_push_of_some _ q)⟩
end
/-- the tuple at a, each item in a new pair behind its place -/
def IteT (K : PySem.W.Frag) (a : Addr) : It where
  go := fun i H => ∃ (xs : List V) (x : V), SqT K H a xs ∧ xs[i]? = some x
  yld := fun i H v H' => ∃ T x, v = .ref T ∧ H T = none ∧ H' = upd H T (.tup [.int (i : Nat), x]) ∧ ∀ xs, SqT K H a xs → xs[i]? = some x
  stop := fun i H => ∃ xs : List V, SqT K H a xs ∧ i = xs.length
theorem two {c e it : Addr} (h : c ∈ [e, it]) : c = e ∨ c = it := by
  simp only [List.mem_cons, List.not_mem_nil, or_false] at h
  exact h
theorem turn_enumT {P : Program} {w : World} {K : PySem.W.Frag} {elts : List Expr} {kk : Nat} {tpos : Pos} {a e it : Addr} (ne : e ≠ it) (na : a ≠ it) (ea : e ≠ a) :
    Turn P w K (.Tuple elts kk tpos) (IteT K a) [e, it] e (fun i h => (∃ old, IsEnum h e it ((i : Nat) : Int) old) ∧ h.IsTupleIter it a i) where
  mem := List.mem_cons_self
  obj := fun i h st c hc => by
    obtain ⟨⟨_, q1⟩, ⟨o, q2, _, d2⟩⟩ := st
    rcases two hc with rfl | rfl
    · exact ⟨_, q1, fun v e => nomatch e⟩
    · exact ⟨o, q2, fun v e => by rw [d2] at e; cases e⟩
  keep := fun i h h' st k => by
    obtain ⟨⟨x, q1⟩, q2⟩ := st
    exact ⟨⟨x, k _ List.mem_cons_self _ q1⟩, q2.at fun o e => k _ (by simp) o e⟩
  item := by
    intro X hP hw hK hc i pins s σ H E I hf st go
    subst hP hw hK
    obtain ⟨⟨x0, q1⟩, q2⟩ := st
    obtain ⟨xs, x, sx, hx⟩ := go
    obtain ⟨l, r, p, _⟩ := I.tuple sx
    obtain ⟨u, hu, ru⟩ := r.get hx
    have D := Draws.tuple (prog := X.prog) (w := X.w) (A := X.A.in1) (I.ok.hd hc) it a na l.toArray
    have g : i < l.toArray.size := by
      rw [List.size_toArray]
      exact (List.getElem?_eq_some_iff.mp hu).1
    have le := Heap.lt_size q1
    have li : it < s.heap.objs.size := by obtain ⟨_, e, _⟩ := q2; exact Heap.lt_size e
    refine wpAny_pyNext_enum_itemD D q1 ⟨q2, p⟩ g ne (fun z => (List.mem_cons.mp z).elim ne fun z => ea (List.mem_singleton.mp z)) fun v h' tk e1 w1 w2 w3 w4 w5 => ?_
    rw [List.getElem?_toArray, hu] at e1
    cases e1
    refine ⟨_, rfl, wpAny_letOwnedTupleGo_enum (s := { s with heap := h', toks := tk + 1 }) w1 fun h'' w1' sb => ?_⟩
    have nw : h''.get? s.heap.objs.size = some { cls := .type "tuple", data := .seq #[.int i tk, u] } := (sb.2 _ (Nat.ne_of_gt le)).trans w3
    have ob : ObjOk X.prog X.w (upd H s.heap.objs.size (.tup [.int (i : Nat), x])) h'' s.heap.objs.size (.tup [.int (i : Nat), x]) := by
      refine ⟨?_, [.int i tk, u], .cons ⟨_, rfl⟩ (.cons ru .nil), ⟨_, nw, rfl, _, rfl⟩⟩
      show 2 ≤ sizeLine
      decide
    have off : ∀ c o, c ∉ [e, it] → s.heap.get? c = some o → h''.get? c = some o := fun c o hb q => by
      have n : c ≠ e ∧ c ≠ it := ⟨fun q => hb (by simp [q]), fun q => hb (by simp [q])⟩
      exact (sb.2 c n.1).trans (w5 c o n.1 n.2 q)
    have I1 : Inv X pins σ (upd H s.heap.objs.size (.tup [.int (i : Nat), x])) { s with heap := h'', toks := tk + 1 } := I.turnedNew off hf (Nat.le_refl _) ob
    refine ⟨.ref s.heap.objs.size, _, I1, rfl, ⟨_, x, rfl, I.hok.fresh (Nat.le_refl _), rfl, fun ys hl => ?_⟩, ⟨⟨_, w1'⟩, ?_⟩, fun c hcm => ?_⟩
    · rw [I.tuple_inj hl sx]
      exact hx
    · exact w2.1.at fun o q => (sb.2 _ ne.symm).trans q
    · have lt : c < s.heap.objs.size := by
        rcases two hcm with rfl | rfl
        · exact le
        · exact li
      rw [upd_ne (Nat.ne_of_lt lt)]
      exact (hf c hcm).1
  done := by
    intro X hP hw hK hc i pins s σ H E I hf st go
    subst hP hw hK
    obtain ⟨⟨x0, q1⟩, q2⟩ := st
    obtain ⟨xs, sx, hi⟩ := go
    obtain ⟨l, r, p, _⟩ := I.tuple sx
    have el := r.length
    have D := Draws.tuple (prog := X.prog) (w := X.w) (A := X.A.in1) (I.ok.hd hc) it a na l.toArray
    have ez : l.toArray.size = i := by
      rw [List.size_toArray, hi]
      exact el.symm
    refine wpAny_pyNext_enum_endD D q1 (by rw [ez]; exact ⟨q2, p⟩) fun h' k => ⟨rfl, ?_⟩
    exact I.turnedL (ch := [e, it]) (fun c o hb q => k c o (fun z => hb (by simp [z])) q) hf
  self := fun A i s Q E st h => wpAny_pyIter_enum st.1.choose_spec h
def iEnumT (K : PySem.W.Frag) (ta : TA) : TI := fun σ H R => ta σ H fun vs H1 => ∃ a xs, vs = [.ref a] ∧ SqT K H1 a xs ∧ R (IteT K a) H1
theorem pi_enumT {X : Cx} {e : Expr} {ta : TA} {p pos tpos : Pos} {elts : List Expr} {kk : Nat} (hg : Gl X "enumerate") (hm : X.mg "enumerate" = none) (ha : PA X [e] ta) (hs : starEach [e] X.env = [(false, eval e X.env)] := by rfl) :
    PI X (.Tuple elts kk tpos) (.Call (.Name "enumerate" p) [e] [] pos) (iEnumT X.K ta) := by
  refine ⟨fun pins s σ H R I h => Call_ (ld_blt I hg hm boot_enumerate (PyProof.Rows.callWith_type1 (thn (ha.run pos pins s σ H _ I h) fun us s1 z => ?_) hs rfl))⟩
  obtain ⟨vs, H1, I1, r1, a, xs, rfl, sx, q⟩ := z
  obtain ⟨u, rfl, ru⟩ := vals1 r1
  cases ru
  obtain ⟨l, rv, p1, _⟩ := I1.tuple sx
  have la : a < s1.heap.objs.size := by
    obtain ⟨o, e, _⟩ := id p1
    exact Heap.lt_size e
  refine enum_call (begins_tuple a l.toArray) p1 fun h' he hi k => wpAny_pyIter_enum he ?_
  have I2 : Inv X pins σ H1 { s1 with heap := h' } := I1.kept (t' := s1.toks) k
  refine ⟨s1.heap.objs.size + 1, [s1.heap.objs.size + 1, s1.heap.objs.size], _, _, H1, rfl, I2, turn_enumT (a := a) (e := s1.heap.objs.size + 1) (it := s1.heap.objs.size) (Nat.succ_ne_self _) (Nat.ne_of_lt la) (Nat.ne_of_gt (Nat.lt_succ_of_lt la)), ⟨⟨_, he⟩, ⟨_, hi, rfl, rfl⟩⟩, fun b hb => ?_, q⟩
  have le : s1.heap.objs.size ≤ b := by
    rcases two hb with rfl | rfl
    · exact Nat.le_add_right _ _
    · exact Nat.le_refl _
  exact I1.fpOk le (I1.hok.fresh le)
/-- enumerate(a list or a tuple) -/
theorem pi_enumX {X : Cx} {e : Expr} {ta : TA} {p pos tpos : Pos} {elts : List Expr} {kk : Nat} (hg : Gl X "enumerate") (hm : X.mg "enumerate" = none) (ha : PA X [e] ta) (hs : starEach [e] X.env = [(false, eval e X.env)] := by rfl) :
    PI X (.Tuple elts kk tpos) (.Call (.Name "enumerate" p) [e] [] pos) (fun σ H R => iEnum X.K ta σ H R ∨ iEnumT X.K ta σ H R) :=
  ⟨fun pins s σ H R I h => h.elim ((pi_enum hg hm ha hs).run pins s σ H R I) ((pi_enumT hg hm ha hs).run pins s σ H R I)⟩
end Ew

set_option Elab.async false
set_option linter.all false
set_option maxRecDepth 100000
set_option maxHeartbeats 4000000
namespace Ew
open PySem PySem.Spec PyProof.Rows L2
/-! ### an attribute as a target among others -/
section
variable {X : Cx} {o : Expr} {f : Str} {ta : TE} {pos : Pos}
def gFld (K : PySem.W.Frag) (ta : TE) (f : Str) : TG := fun v σ H Q => ta σ H fun x H1 => ∃ a C dx fs, x = .ref a ∧ H1 a = some (.ins C dx fs) ∧ Cls K C ∧ NoAttr K C f ∧ fs.length < 1000 ∧ Q σ (upd H1 a (.ins C dx (putF f v fs)))
theorem pg_fld (ha : PE X o ta) : PG X (.Attribute o f pos) (gFld X.K ta f) := by
  refine ⟨fun pins s σ H v u Q I r h => PySem.W.kas_attr (thn (ha.run pins s σ H _ I h) fun ov s2 ⟨x, H2, I2, rx, z⟩ => ?_)⟩
  obtain ⟨a, C, dx, fs, rfl, ea, c, n, l, q⟩ := z
  obtain rfl : ov = Value.ref a := rx
  exact setattr_ok I2 ea c n l r fun s3 I3 => ⟨σ, _, I3, q⟩
end
/-! ### an instance that is called -/
/-- its class has __call__, with a promise -/
structure ClmC (P : Program) (w : World) (K : PySem.W.Frag) (mg : Str → Option Value) (base : Heap) (k : Nat) (C : Addr) (ps : List Str) (sp : Sp) : Prop where
  ex : ∃ f fd, StX.CallO K C f ∧ FnOk P w K mg base (L2.CX P w) k f fd ps sp ∧ Binds K fd ps []
section
variable {X : Cx} {k j : Nat} {C : Addr} {ps : List Str} {sp : Sp} {e fe : Expr} {es : List Expr} {tf : TE} {t : TA} {pos : Pos} {W : WX}
def tCallI (C : Addr) (sp : Sp) (W : WX) (tf : TE) (t : TA) : TE := fun σ H Q => tf σ H fun y H1 => ∃ a, y = .ref a ∧ t σ H1 fun vs H2 => (∃ dx fs, H2 a = some (.ins C dx fs)) ∧ sp (.ref a :: vs) H2 Q (WE W σ)
theorem pe_callI (c : ClmC X.prog X.w X.K X.mg X.base k C ps sp) (tk : Takes X W) (hr : Room j X.A) (hk : k ≤ j) (hf : PE X fe tf) (ha : PA X (e :: es) t)
    (ht : eval (.Call fe (e :: es) [] pos) X.env = (do callWith pos (← eval fe X.env) [] (backTo pos (starEach (e :: es) X.env)) (backToKw pos (keywordEach [] X.env))) := by rfl)
    (he : starEach (e :: es) X.env = (false, eval e X.env) :: starEach es X.env := by rfl) (hpl : (backTo pos (starEach es X.env)).any (·.1) = false := by rfl) : PE X (.Call fe (e :: es) [] pos) (tCallI C sp W tf t) := by
  obtain ⟨f, fd, cc, F, hb⟩ := c.ex
  refine ⟨fun pins s σ H Q I h => Call_ (thn (hf.run pins s σ H _ I h) fun u s1 ⟨y, H1, I1, ry, a, ey, q⟩ => ?_) ht⟩
  subst ey
  obtain rfl : u = Value.ref a := ry
  refine StX.callO_with (thn (ha.run pos pins s1 σ H1 _ I1 q) fun us s2 ⟨vs, H2, I2, r, ⟨dx, fs, ei⟩, q2⟩ => ?_) he hpl
  obtain ⟨ox, od, J, hd⟩ := StX.insC_at I2 (.inr ⟨dx, fs, ei⟩)
  refine ⟨⟨C, ox, od, J, hd⟩, wpAny_call (PySem.W.kco_code I2.kIn J hd cc.at_ cc.fn cc.fi ?_)⟩
  have many : (Value.ref a :: us).length = ps.length := (Paired.length (show Vals (.ref a :: vs) (.ref a :: us) from .cons rfl r)) ▸ F.len _ _ _ _ q2
  have bind := hb s2 (.ref a :: us) I2.kIn (by rw [List.append_nil]; exact many)
  rw [List.append_nil] at bind
  refine codeAny_mono (F.run X.A X.stack s2 H2 ⟨.ref a :: us, []⟩ (.ref a :: us) (.ref a :: vs) Q (WE W σ) (hr.mono hk) I2.env0 bind (.cons rfl r) q2) fun y s' end_ => ?_
  match y, end_ with
  | .error e, end_ => exact passAt tk σ pins H2 s2 e s' I2 end_
  | .ok (.ret u), end_ => exact I2.after end_
end
/-! ### a new instance, some of its __init__'s values its defaults -/
structure MkrD (P : Program) (w : World) (K : PySem.W.Frag) (mg : Str → Option Value) (base : Heap) (k : Nat) (x : Str) (C : Addr) (ps : List Str) (sp : Sp) (dvs : List V) : Prop where
  gC : mg x = some (.ref C)
  ex : ∃ f fd ds, Mk K C f ∧ FnOk P w K mg base (L2.CX P w) k f fd ps sp ∧ Binds K fd ps ds ∧ Vals dvs ds
section
variable {X : Cx} {k j : Nat} {x : Str} {C : Addr} {ps : List Str} {sp : Sp} {dvs : List V} {e : Expr} {es : List Expr} {t : TA} {p pos : Pos}
theorem pe_mkD (c : MkrD X.prog X.w X.K X.mg X.base k x C ps sp dvs) (hr : Room j X.A) (hk : k + 1 ≤ j) (hg : Gl X x) (ha : PA X (e :: es) t) (hdb : (x == ("__debug__" : Str)) = false := by decide)
    (he : starEach (e :: es) X.env = (false, eval e X.env) :: starEach es X.env := by rfl) (hpl : (backTo pos (starEach es X.env)).any (·.1) = false := by rfl) : PE X (.Call (.Name x p) (e :: es) [] pos) (tMake C sp dvs E0 t) := by
  obtain ⟨f, fd, ds, M, F, hb, hd⟩ := c.ex
  exact pe_make M F (hr.mono hk) hg c.gC hb hd passL ha hdb he hpl
theorem pe_mkD0 (c : MkrD X.prog X.w X.K X.mg X.base k x C ps sp dvs) (hr : Room j X.A) (hk : k + 1 ≤ j) (hg : Gl X x) (hdb : (x == ("__debug__" : Str)) = false := by decide) : PE X (.Call (.Name x p) [] [] pos) (tMake C sp dvs E0 tNil) := by
  obtain ⟨f, fd, ds, M, F, hb, hd⟩ := c.ex
  exact pe_make0 M F (hr.mono hk) hg c.gC hb hd passL hdb
end
/-! ### a method without arguments -/
section
variable {X : Cx} {k j : Nat} {C : Addr} {m : Str} {ps : List Str} {sp : Sp} {o : Expr} {ta : TE} {apos pos : Pos}
theorem pe_mf0 {pl : Sem Bool} (c : Mt X.prog X.w X.K X.mg X.base k C m ps sp []) (hr : Room j X.A) (hk : k ≤ j) (he : PE X o ta)
    (ht : eval (.Call (.Attribute o m apos) [] [] pos) X.env = (do
      let v ← eval o X.env
      standAt apos.atName
      let (g, first) ← holding [v] (getMethod v m pl)
      callWith pos g first (backTo pos (starEach [] X.env)) (backToKw pos (keywordEach [] X.env))) := by rfl) : PE X (.Call (.Attribute o m apos) [] [] pos) (tMeth C m sp [] E0 ta tNil) := by
  obtain ⟨f, fd, ds, M, F, hb, hd⟩ := c.ex
  cases hd
  exact pe_meth0 he c.cl M F (hr.mono hk) hb .nil passL ht
end
/-! ### an own sign with something of a built-in kind at its right -/
section
variable {P : Program} {w : World} {A : Around} {E : Value → Shared → Prop} {s : Shared} {K : PySem.W.Frag} {x C L f : Addr} {hp : Heap} {mo : Str → Option Value} {ox : Obj} {od : Option Obj} {T : String} {op : Operator} {b : Value} {fo ro rc : Option Value} {Q : Value → Shared → Prop}
theorem bin_left (fr : Fr hp L s.heap mo) (kin : K.In hp) (J : PySem.W.InstAt s.heap x ox C od) (ty : PySem.W.Looks (model P w) s.heap (typeOf b) (.type T)) (sf : PySem.W.selfFirst K C = true)
    (M : OpM K C (PySem.dunder op.info.2) f) (hr : PySem.W.findIn K (.ref C) (PySem.dunderR op.info.2) = some none)
    (h1 : PySem.W.findIn K (.type T) (PySem.dunder op.info.2) = some fo) (h2 : PySem.W.findIn K (.type T) (PySem.dunderR op.info.2) = some ro) (sub : PySem.W.subIn K (.type T) (.ref C) = some false)
    (run : wpAny (model P w) A (call (.ref f) [.ref x, b]) (PySem.W.CmpBack Q) E s) : wpAny (model P w) A (binaryOp op (.ref x) b) Q E s := by
  have XX := kin.keeps fr.keep
  obtain ⟨at_, fn⟩ := M
  obtain ⟨cd, rest, own, first⟩ := PySem.W.ksp_first sf
  rcases key : op.info with ⟨sign, nm⟩
  rw [key] at at_ hr h1 h2
  dsimp only at at_ hr h1 h2
  have last := PySem.W.ksp_try XX J at_ fn run
  obtain ⟨hh, gg, dd, tt, os⟩ := s
  have y1 : PySem.W.Looks (model P w) hh (typeOf (.ref x)) (.ref C) := J.type
  have y2 : PySem.W.Looks (model P w) hh (typeOf b) (.type T) := ty
  have y3 : PySem.W.Looks (model P w) hh (fillsNumberSlot (.ref C) nm) true := PySem.W.fills_K XX own first at_
  have y4 : PySem.W.Looks (model P w) hh (fillsNumberSlot (.type T) nm) ((fo.isSome && !isSeqSlot fo) || (ro.isSome && !isSeqSlot ro)) := PySem.W.ksp_fillsT XX h1 h2
  have y5 : PySem.W.Looks (model P w) hh (isSubtype (.type T) (.ref C)) false := PySem.W.looks_subIn XX sub
  have y6 : PySem.W.Looks (model P w) hh (numberSlotInPython (.ref C) nm) true := PySem.W.ksp_inPy XX at_ hr (.inl rfl)
  have y7 : PySem.W.Looks (model P w) hh (numberSlotInPython (.type T) nm) false := PySem.W.Looks.of_pure rfl
  have y8 : PySem.W.Looks (model P w) hh (typeLookup (.type T) (PySem.dunderR nm)) ro := PySem.W.looks_findIn XX h2
  generalize ((fo.isSome && !isSeqSlot fo) || (ro.isSome && !isSeqSlot ro)) = side at y4
  have ne : (Value.ref C == Value.type T) = false := Bool.eq_false_iff.mpr fun z => nomatch beq_iff_eq.mp z
  simp only [binaryOp, key]
  refine wpAny_holding (wpAny_bind ?_)
  unfold binaryOp1
  refine wpAny_bind (y1.at (wpAny_bind (y2.at (wpAny_bind (y3.at ?_)))))
  simp only [ne, Bool.false_eq_true, if_false]
  cases side <;>
  · ksp_lk
    refine wpAny_mono last (fun r s' z => ?_) fun _ _ z => z
    obtain ⟨v, rfl, hv⟩ := z
    ksp_lk
    exact hv
end
section
variable {X : Cx} {CX : CXT} {k j : Nat} {C : Addr} {ps : List Str} {sp : Sp} {a b : Expr} {ta tb : TE} {pos : Pos} {W : WX} {op : Operator}
/-- what an own sign with a tuple at its right wants of the class -/
structure TupR (K : PySem.W.Frag) (C : Addr) (nm : String) : Prop where
  rf : PySem.W.findIn K (.ref C) (PySem.dunderR nm) = some none
  t1 : ∃ fo, PySem.W.findIn K (.type "tuple") (PySem.dunder nm) = some fo
  t2 : ∃ ro, PySem.W.findIn K (.type "tuple") (PySem.dunderR nm) = some ro
  sb : PySem.W.subIn K (.type "tuple") (.ref C) = some false
def tBinT (K : PySem.W.Frag) (C : Addr) (sp : Sp) (E : L2.St → XK) (ta tb : TE) : TE := fun σ H Q => ta σ H fun x H1 => tb σ H1 fun y H2 => ∃ p q dx fs ys, x = .ref p ∧ y = .ref q ∧ H2 p = some (.ins C dx fs) ∧ SqT K H2 q ys ∧ sp [x, y] H2 Q (E σ)
theorem pe_binT (c : OpC X.prog X.w X.K X.mg X.base k C (PySem.dunder op.info.2) ps sp) (R : TupR X.K C op.info.2) (tk : Takes X W) (hr : Room j X.A) (hk : k ≤ j) (h1 : PE X a ta) (h2 : PE X b tb) : PE X (.BinOp a op b pos) (tBinT X.K C sp (WE W) ta tb) := by
  obtain ⟨f, fd, M, F, hb⟩ := c.ex
  obtain ⟨rf, ⟨fo, t1⟩, ⟨ro, t2⟩, sb⟩ := R
  refine ⟨fun pins s σ H Q I h => wpAny_BinOp (bin h1 h2 I h fun v u s2 x y H2 I2 rx ry q => ?_)⟩
  obtain ⟨p, q', dx, fs, ys, rfl, rfl, e1, e2, q⟩ := q
  cases rx
  cases ry
  obtain ⟨o1, J1⟩ := ins_at I2 e1
  obtain ⟨m, fr⟩ := I2.fr
  obtain ⟨its, rv, ⟨o, ho, hc, _⟩, _⟩ := I2.tuple e2
  exact bin_left fr I2.ok.mod.kin J1 (fun A' Q' E' s' kp z => wpAny_typeOf_ref (kp _ _ ho) (by rw [hc]; exact z)) c.sf M rf t1 t2 sb
    (thn (run_fnS (vs := [.ref p, .ref q']) F (hr.mono hk) hb (passAt tk σ) I2 (.cons rfl (.cons rfl .nil)) q) fun _ _ z => back_of z)
end
end Ew

set_option Elab.async false
set_option linter.all false
set_option maxRecDepth 100000
set_option maxHeartbeats 4000000
namespace Ew
open PySem PySem.Spec PyProof.Rows L2
section
variable {P : Program} {w : World} {K : PySem.W.Frag} {mg mb : Str → Option Value} {k : Nat} {fa a : Addr} {fd : FuncData} {x : Str} {sp : Sp} {st : Shared} {vs : List Value} {ns : List Int}
/-- what is needed of the heap in which the law is asked -/
structure Seed (P : Program) (w : World) (K : PySem.W.Frag) (h : Heap) (a : Addr) (ns : List Int) (H : Hp) : Prop where
  only : Only H
  sq : SqL K H a (ns.map V.int)
  ok : HOk P w H h
  lone : ∀ b, H b ≠ none → b = a
  apart : H a ≠ none → K.lookup a = none
theorem seed_of (KX : K.In st.heap) (ha : st.heap.get? a = some { cls := .type "list", data := .seq vs.toArray }) (hi : IntsAre vs ns) (hl : ns.length ≤ sizeLine) : ∃ H, Seed P w K st.heap a ns H := by
  have rv := vals_ints hi
  rcases hk : K.lookup a with _ | o
  · have off : ∀ b, ¬ b = a → (fun b => if b = a then some (HO.frz { cls := .type "list", data := .seq vs.toArray } (.lst (ns.map V.int))) else none) b = none := fun b n => if_neg n
    refine ⟨fun b => if b = a then some (.frz { cls := .type "list", data := .seq vs.toArray } (.lst (ns.map V.int))) else none, ⟨fun b => ?_, .inl (.inr ⟨_, if_pos rfl⟩), fun b u z => ?_, fun b z => ?_, fun _ => hk⟩⟩
    · rcases Classical.em (b = a) with e | e
      · exact .inr ⟨_, _, if_pos e⟩
      · exact .inl (off b e)
    · rcases Classical.em (b = a) with e | e
      · cases (if_pos e).symm.trans z
        rw [e]
        exact ⟨ha, by rw [List.length_map]; exact hl, vs, _, rv, ha⟩
      · cases (off b e).symm.trans z
    · exact Classical.byContradiction fun e => z (off b e)
  · have e := KX a o hk
    rw [ha] at e
    cases e
    refine ⟨fun _ => none, ⟨fun _ => .inl rfl, .inr ⟨_, vs.toArray, _, hk, rfl, rfl, rfl, ?_, by simpa using rv⟩, (fun b u z => nomatch z), (fun b z => absurd rfl z), fun z => absurd rfl z⟩⟩
    rw [List.size_toArray, hi.length]
    exact hl
theorem seed_env {H : Hp} (S : Seed P w K st.heap a ns H) (KX : K.In st.heap) (hns : st.heap.Ns mainGlobals mg) (hb : st.heap.Ns builtinsNs mb) (hbb : ∀ x : Str, x ≠ "__name__" → mb x = bootBuiltins x) (hlim : st.heap.NoLimit) (hg : st.gens = #[])
    (ha : st.heap.get? a = some { cls := .type "list", data := .seq vs.toArray }) : Mod K mg (hidT st.heap H) ∧ Env0 P w K mg (hidT st.heap H) callerA [] st H := by
  have free : ∀ {b : Addr}, ¬ b = a → H b = none := fun {b} n => Classical.byContradiction fun z => n (S.lone b z)
  have seen : ∀ {b : Addr} {m : Str → Option Value}, st.heap.Ns b m → (hidT st.heap H).Ns b m := by
    rintro b m ⟨o, es, ep, e, d, r⟩
    refine ⟨o, es, ep, hidT_get e (free fun q => ?_), d, r⟩
    rw [q, ha] at e
    cases e
    cases (show Data.seq vs.toArray _ = Data.dict es ep from d)
  have kin : K.In (hidT st.heap H) := fun b o e => by
    refine hidT_get (KX b o e) (Classical.byContradiction fun z => ?_)
    have q := S.lone b z
    rw [q] at z e
    rw [S.apart z] at e
    cases e
  obtain ⟨mc, l1, l2⟩ := hlim
  have md : Mod K mg (hidT st.heap H) := ⟨kin, seen hns, ⟨mb, seen hb, hbb⟩, mc, seen l1, l2⟩
  exact ⟨md, ⟨rfl, md, fun b o e => of_hidT e, Nat.le_of_eq (hidT_size _ _), trivial, fun b z => (nomatch z), S.ok, .of_eq hg⟩⟩
theorem law_callG (KX : K.In st.heap) (hns : st.heap.Ns mainGlobals mg) (hb : st.heap.Ns builtinsNs mb) (hbb : ∀ x : Str, x ≠ "__name__" → mb x = bootBuiltins x) (hlim : st.heap.NoLimit) (hg : st.gens = #[])
    (ha : st.heap.get? a = some { cls := .type "list", data := .seq vs.toArray }) (hi : IntsAre vs ns) (hl : ns.length ≤ sizeLine) (hr : Room k callerA)
    (F : ∀ base : Heap, K.In base → base.Ns mainGlobals mg → FnG P w K mg base k fa fd [x] sp) (hbind : ∀ (s : Shared) (u : Value), BindsTo s fd ⟨[u], []⟩ [(x, u)])
    (hsp : ∀ H : Hp, Only H → SqL K H a (ns.map V.int) → sp [.ref a] H (fun v _ => v = .bl true) fun _ _ _ => False) :
    codeAny (model P w) callerA (.call (.ref fa) ⟨[.ref a], []⟩) (fun r s' => r = .ok (.ret (.bool true)) ∧ OldK st.heap s'.heap ∧ s'.os = st.os ∧ AllBare s'.gens) st := by
  obtain ⟨H, S⟩ := seed_of (P := P) (w := w) KX ha hi hl
  obtain ⟨md, env⟩ := seed_env S KX hns hb hbb hlim hg ha
  refine codeAny_mono ((F _ md.kin md.glob).go callerA [] st H ⟨[.ref a], []⟩ [.ref a] [.ref a] _ _ rfl hr env (hbind st (.ref a)) (.cons rfl .nil) (hsp H S.only S.sq)) ?_
  intro r s' got
  match r, got with
  | .error e, got =>
    obtain ⟨_, _, _, _, _, _, _, _, _, _, _, _, z⟩ := got
    exact z.elim
  | .ok (.ret u), ⟨v, H', os, bare, un, hok', r', q⟩ =>
    have q : v = .bl true := q
    subst q
    have r' : u = Value.bool true := r'
    subst r'
    refine ⟨rfl, OldK.of_keep fun b o e => ?_, os, bare⟩
    rcases z : H b with _ | u
    · exact un.keep b o e z (fun y => nomatch y) (by simp)
    · rcases S.only b with y | ⟨ob, xs, y⟩
      · rw [z] at y
        cases y
      · obtain ⟨e1, _⟩ := S.ok b _ y
        obtain ⟨e2, _⟩ := hok' b _ (un.frzs b ob _ y)
        rw [e] at e1
        cases e1
        exact e2
end
theorem walk_G {l : PySem.W.OpenLaw} {n k : Nat} {q : Program} {loose : List Str} {XP : (Str → Option Value) → Heap → Prop} {YP : World → Heap → Prop} {d : DefRec} {K : Params → PySem.W.Frag} {sp : World → Sp} {x : Str}
    (hn : l.most = some n) (hn2 : n ≤ sizeLine) (hdf : d.params.defaults = []) (hr : Room k callerA) (hY : ∀ (w : World) (h : Heap), YP w h → (K w.params).In h)
    (F : ∀ (w : World) (mg : Str → Option Value) (fa : Addr) (h : Heap), (K w.params).In h → h.Ns mainGlobals mg → mg d.name = some (.ref fa) →
      ∃ fd : FuncData, (∀ (s : Shared) (u : Value), BindsTo s fd ⟨[u], []⟩ [(x, u)]) ∧ ∀ base : Heap, (K w.params).In base → base.Ns mainGlobals mg → FnG l.prog w (K w.params) mg base k fa fd [x] (sp w))
    (hsp : ∀ (w : World) (H : Hp) (a : Addr) (ns : List Int), ns.length ≤ n → Only H → SqL (K w.params) H a (ns.map V.int) → sp w [.ref a] H (fun v _ => v = .bl true) fun _ _ _ => False) :
    PySem.W.WalkO q loose XP YP l.row.toRowW d [] (fun f vs => PySem.call f vs) := by
  refine Att.attach_call hn hdf ?_
  intro w s₀ s₁ mg mb fa o pm cd doc a vs ns G Y ho hd hcd hmg hobj hints hlen hg
  obtain ⟨fd, bind, go⟩ := F w mg fa _ (hY w _ Y) G.T.g hmg
  exact law_callG (hY w _ Y) G.T.g G.T.b G.T.builtins G.T.nolimit hg hobj hints (Nat.le_trans hlen hn2) hr go bind fun H o s => hsp w H a ns hlen o s
end Ew

set_option Elab.async false
set_option linter.all false
set_option maxRecDepth 100000
set_option maxHeartbeats 4000000
namespace Ew
open PySem PySem.Spec PyProof.Rows L2
open SX (S)
/-! ### lists or tuples -/
section
variable {X : Cx} {tg l : Expr} {tl : TE}
theorem pi_seq (hl : PE X l tl) : PI X tg l (fun σ H R => iList X.K tl σ H R ∨ iTup X.K tl σ H R) :=
  ⟨fun pins s σ H R I h => h.elim ((pi_list hl).run pins s σ H R I) ((pi_tup hl).run pins s σ H R I)⟩
end
/-- a list or a tuple of xs at v -/
def Sq (K : PySem.W.Frag) (F : Hp) (v : V) (xs : List V) : Prop := ∃ p, v = .ref p ∧ (SqL K F p xs ∨ SqT K F p xs)
theorem Sq.up {K : PySem.W.Frag} {F F' : Hp} {v : V} {xs : List V} (h : Sq K F v xs) (e : Same F F') : Sq K F' v xs := by
  obtain ⟨p, h1, h2⟩ := h
  exact ⟨p, h1, h2.imp (upL e) (upT e)⟩
/-! ### a dict comprehension over anything that walks -/
theorem dc_it {J : It} {n : Nat} {G : Hp → Prop} {Y : Nat → Hp → V → Hp → Prop} (w : Walk J n G Y) {g : TG} {tt : TT} {tk tv : TE} {vs : List Nat} {σ : L2.St} {H1 : Hp} {D : Addr} {Qd : Hp → Prop} (Pv : Nat → Hp → Prop) (h0 : Pv 0 (upd H1 D (.dK []))) (hG : ∀ i H, i ≤ n → Pv i H → G H)
    (hs : ∀ i x H H', i < n → Pv i H → Y i H x H' → g x (wipe σ vs) H' fun σ2 H2 => wipe σ2 vs = wipe σ vs ∧ tt σ2 H2 fun b H3 =>
      if b = true then tk σ2 H3 fun y H4 => tv σ2 H4 fun z H5 => ∃ kvs k, y = kV k ∧ H5 D = some (.dK kvs) ∧ kvs.length < sizeLine ∧ Pv (i + 1) (upd H5 D (.dK (putK kvs k z))) else Pv (i + 1) H3) (hd : ∀ H, Pv n H → Qd H) :
    ∃ W : Nat → Nat → Hp → Prop, (∃ m, W 0 m (upd H1 D (.dK []))) ∧ ∀ i m H, W i m H →
      (J.stop i H ∧ Qd H) ∨ (J.go i H ∧ ∃ Nx : Hp → Prop, (∀ H', Nx H' → ∃ m', m' < m ∧ W (i + 1) m' H') ∧ ∀ x H', J.yld i H x H' → g x (wipe σ vs) H' fun σ2 H2 => wipe σ2 vs = wipe σ vs ∧ tt σ2 H2 fun b H3 =>
        if b = true then tk σ2 H3 fun y H4 => tv σ2 H4 fun z H5 => ∃ kvs k, y = kV k ∧ H5 D = some (.dK kvs) ∧ kvs.length < sizeLine ∧ Nx (upd H5 D (.dK (putK kvs k z))) else Nx H3) := by
  refine ⟨fun i m H => m = n - i ∧ i ≤ n ∧ Pv i H, ⟨n, by simp, Nat.zero_le _, h0⟩, ?_⟩
  rintro i m H ⟨rfl, hi, p⟩
  have q := hG i H hi p
  rcases Nat.lt_or_ge i n with lt | ge
  · exact .inr ⟨w.goes i H lt q, Pv (i + 1), fun H' p' => ⟨n - (i + 1), by omega, rfl, lt, p'⟩, fun x H' y => hs i x H H' lt p (w.yields i H x H' lt q y)⟩
  · obtain rfl : i = n := by omega
    exact .inl ⟨w.stops H q, hd H p⟩
/-! ### a text, k times -/
theorem fold_rep (a : Array Nat) : ∀ (m : Nat) (acc : Array Nat), (List.replicate m a).foldl (· ++ ·) acc = acc ++ (List.replicate m a.toList).flatten.toArray
  | 0, acc => by simp
  | m + 1, acc => by
    rw [List.replicate_succ, List.foldl_cons, fold_rep a m, List.replicate_succ]
    apply Array.ext'
    simp
def rep (k : Nat) (l : List Nat) : List Nat := (List.replicate k l).flatten
theorem rep_len (l : List Nat) : ∀ k, (rep k l).length = k * l.length
  | 0 => by simp [rep]
  | k + 1 => by
    have := rep_len l k
    unfold rep at this ⊢
    rw [List.replicate_succ, List.flatten_cons, List.length_append, this, Nat.succ_mul]
    omega
def rRepS : R2 := fun x y H Q => ∃ (l : List Nat) (k : Int), x = .str (S l) ∧ y = .int k ∧ 1 ≤ k ∧ k ≤ 100000 ∧ l ≠ [] ∧ l.length ≤ 100 ∧ Q (.str (S (rep k.toNat l))) H
theorem op_repS {X : Cx} : OpR X (binaryOp .Mult) rRepS := by
  intro pins s σ H x y v u Q I rx ry h
  obtain ⟨l, k, rfl, rfl, h1, h2, h3, h4, q⟩ := h
  obtain ⟨t, rfl⟩ := rx
  obtain ⟨t', rfl⟩ := ry
  have hl : (S l).length = l.length := SX.S_len l
  have l0 : 0 < l.length := List.length_pos_iff.mpr h3
  have kz : ((k.toNat : Nat) : Int) = k := Int.toNat_of_nonneg (by omega)
  have hb : l.length * k.toNat ≤ 100 * 100000 := Nat.mul_le_mul h4 (by omega)
  refine PySem.P.mul_str ?_ (fun _ _ => ?_) (fun _ _ => ?_) ?_
  · rw [decide_eq_false (by omega), decide_eq_false (by omega)]
    rfl
  · rw [hl]
    have : (l.length : Int) ≤ (2 ^ 63 - 1) / k := (Int.le_ediv_iff_mul_le (by omega)).mpr (by
      have : (l.length : Int) * k = ((l.length * k.toNat : Nat) : Int) := by rw [Int.natCast_mul, kz]
      rw [this]
      omega)
    omega
  · rw [hl]
    unfold PySem.Builtin.Str.tooLong
    rw [decide_eq_false_iff_not, sizeLine_eq]
    omega
  · rw [if_neg (by omega)]
    by_cases e : k = 1
    · subst e
      have er : rep (1 : Int).toNat l = l := by simp [rep]
      rw [er] at q
      rw [if_pos (by rfl)]
      exact ⟨.str (S l), H, I, ⟨_, rfl⟩, q⟩
    · have e1 : (k == 1) = false := by rw [beq_eq_false_iff_ne]; exact e
      have e0 : ((S l).length == 0) = false := by rw [hl, beq_eq_false_iff_ne]; omega
      rw [e1, e0, if_neg (by decide), fold_rep]
      have e3 : (#[] ++ (List.replicate k.toNat (S l).cps.toList).flatten.toArray : Array Nat) = (rep k.toNat l).toArray := by simp [rep]
      rw [e3]
      refine ⟨?_, ⟨.str (S (rep k.toNat l)), H, I.tok _, ⟨_, rfl⟩, q⟩⟩
      show (S (rep k.toNat l)).length ≤ sizeLine
      rw [SX.S_len, rep_len, sizeLine_eq, Nat.mul_comm]
      omega
/-! ### str of a tuple, where no repr is under way; of an int -/
def rStrD (K : PySem.W.Frag) : List V → Hp → VK → Prop := fun xs H Q => ∃ (a : Addr) (d : PyData), xs = [.ref a] ∧ Dp K H (.ref a) d ∧ d.showable = true ∧ d.hasDict = false ∧ d.depth ≤ 50 ∧ d.shown.length ≤ sizeLine ∧ Q (.str d.shown) H
theorem call_strD {X : Cx} (hg : X.A.guards = some []) (hu : X.A.units + 64 < cLine) : CallR X (.type "str") (rStrD X.K) := by
  intro pins s σ H xs us Q I r h
  obtain ⟨a, d, rfl, hd, h1, h2, h3, h4, q⟩ := h
  obtain ⟨u, rfl, rx⟩ := vals1 r
  obtain ⟨as, rd⟩ := Dp.reads I d _ _ hd rx
  obtain rfl : u = Value.ref a := rx
  exact str_of_reads rd h1 (PyData.noDict_hsm h2) hg (by omega) (fun _ _ e => e) (fun h' u' tk hk => ⟨.str d.shown, H, I.kept hk, ⟨_, rfl⟩, q⟩) h4
end Ew

set_option Elab.async false
set_option linter.all false
set_option maxRecDepth 100000
set_option maxHeartbeats 4000000
namespace K33
open PySem PySem.Spec PyProof.Rows L2 Ew
def top (i : Nat) : Stmt := PySem.Challenge.pw_ellwarden_k33_forms.main.body.getD i (.Pass ⟨0, 0, 0, 0⟩)
abbrev s__wall : Stmt := (top 1)
abbrev N__wall : List Str := ["k"]
abbrev P__wall : List Str := ["k"]
theorem sc__wall : FnScope N__wall P__wall (defScope s__wall) := ⟨rfl, rfl, rfl, by decide +kernel, rfl, by decide +kernel, by decide +kernel⟩
abbrev s_is_integer : Stmt := (top 3)
abbrev N_is_integer : List Str := ["thing"]
abbrev P_is_integer : List Str := ["thing"]
theorem sc_is_integer : FnScope N_is_integer P_is_integer (defScope s_is_integer) := ⟨rfl, rfl, rfl, by decide +kernel, rfl, by decide +kernel, by decide +kernel⟩
abbrev s_is_row : Stmt := (top 4)
abbrev N_is_row : List Str := ["thing"]
abbrev P_is_row : List Str := ["thing"]
theorem sc_is_row : FnScope N_is_row P_is_row (defScope s_is_row) := ⟨rfl, rfl, rfl, by decide +kernel, rfl, by decide +kernel, by decide +kernel⟩
abbrev s_is_tuple_of : Stmt := (top 5)
abbrev N_is_tuple_of : List Str := ["thing", "many"]
abbrev P_is_tuple_of : List Str := ["thing", "many"]
theorem sc_is_tuple_of : FnScope N_is_tuple_of P_is_tuple_of (defScope s_is_tuple_of) := ⟨rfl, rfl, rfl, by decide +kernel, rfl, by decide +kernel, by decide +kernel⟩
abbrev s_BadRatioD_initD : Stmt := inClass (top 8) 0
abbrev N_BadRatioD_initD : List Str := ["self", "text"]
abbrev P_BadRatioD_initD : List Str := ["self", "text"]
theorem sc_BadRatioD_initD : FnScope N_BadRatioD_initD P_BadRatioD_initD (defScope s_BadRatioD_initD) := ⟨rfl, rfl, rfl, by decide +kernel, rfl, by decide +kernel, by decide +kernel⟩
abbrev s_NoughtD_initD : Stmt := inClass (top 9) 0
abbrev N_NoughtD_initD : List Str := ["self", "number"]
abbrev P_NoughtD_initD : List Str := ["self", "number"]
theorem sc_NoughtD_initD : FnScope N_NoughtD_initD P_NoughtD_initD (defScope s_NoughtD_initD) := ⟨rfl, rfl, rfl, by decide +kernel, rfl, by decide +kernel, by decide +kernel⟩
abbrev s_BadWorldD_initD : Stmt := inClass (top 10) 0
abbrev N_BadWorldD_initD : List Str := ["self", "place"]
abbrev P_BadWorldD_initD : List Str := ["self", "place"]
theorem sc_BadWorldD_initD : FnScope N_BadWorldD_initD P_BadWorldD_initD (defScope s_BadWorldD_initD) := ⟨rfl, rfl, rfl, by decide +kernel, rfl, by decide +kernel, by decide +kernel⟩
abbrev s_NoSpotD_initD : Stmt := inClass (top 11) 0
abbrev N_NoSpotD_initD : List Str := ["self", "spot"]
abbrev P_NoSpotD_initD : List Str := ["self", "spot"]
theorem sc_NoSpotD_initD : FnScope N_NoSpotD_initD P_NoSpotD_initD (defScope s_NoSpotD_initD) := ⟨rfl, rfl, rfl, by decide +kernel, rfl, by decide +kernel, by decide +kernel⟩
abbrev s_BadFormD_initD : Stmt := inClass (top 12) 0
abbrev N_BadFormD_initD : List Str := ["self", "place"]
abbrev P_BadFormD_initD : List Str := ["self", "place"]
theorem sc_BadFormD_initD : FnScope N_BadFormD_initD P_BadFormD_initD (defScope s_BadFormD_initD) := ⟨rfl, rfl, rfl, by decide +kernel, rfl, by decide +kernel, by decide +kernel⟩
abbrev s_ratio : Stmt := (top 14)
abbrev N_ratio : List Str := ["n", "d", "common"]
abbrev P_ratio : List Str := ["n", "d"]
theorem sc_ratio : FnScope N_ratio P_ratio (defScope s_ratio) := ⟨rfl, rfl, rfl, by decide +kernel, rfl, by decide +kernel, by decide +kernel⟩
abbrev s_is_ratio : Stmt := (top 15)
abbrev N_is_ratio : List Str := ["thing", "n", "d"]
abbrev P_is_ratio : List Str := ["thing"]
theorem sc_is_ratio : FnScope N_is_ratio P_is_ratio (defScope s_is_ratio) := ⟨rfl, rfl, rfl, by decide +kernel, rfl, by decide +kernel, by decide +kernel⟩
abbrev s_plus : Stmt := (top 16)
abbrev N_plus : List Str := ["a", "b"]
abbrev P_plus : List Str := ["a", "b"]
theorem sc_plus : FnScope N_plus P_plus (defScope s_plus) := ⟨rfl, rfl, rfl, by decide +kernel, rfl, by decide +kernel, by decide +kernel⟩
abbrev s_times : Stmt := (top 17)
abbrev N_times : List Str := ["a", "b"]
abbrev P_times : List Str := ["a", "b"]
theorem sc_times : FnScope N_times P_times (defScope s_times) := ⟨rfl, rfl, rfl, by decide +kernel, rfl, by decide +kernel, by decide +kernel⟩
abbrev s_is_spot : Stmt := (top 20)
abbrev N_is_spot : List Str := ["thing", "name", "stretch", "day"]
abbrev P_is_spot : List Str := ["thing"]
theorem sc_is_spot : FnScope N_is_spot P_is_spot (defScope s_is_spot) := ⟨rfl, rfl, rfl, by decide +kernel, rfl, by decide +kernel, by decide +kernel⟩
abbrev s_WorldD_initD : Stmt := inClass (top 21) 0
abbrev N_WorldD_initD : List Str := ["self", "pairs"]
abbrev P_WorldD_initD : List Str := ["self", "pairs"]
theorem sc_WorldD_initD : FnScope N_WorldD_initD P_WorldD_initD (defScope s_WorldD_initD) := ⟨rfl, rfl, rfl, by decide +kernel, rfl, by decide +kernel, by decide +kernel⟩
abbrev s_WorldD_getitemD : Stmt := inClass (top 21) 1
abbrev N_WorldD_getitemD : List Str := ["self", "at"]
abbrev P_WorldD_getitemD : List Str := ["self", "at"]
theorem sc_WorldD_getitemD : FnScope N_WorldD_getitemD P_WorldD_getitemD (defScope s_WorldD_getitemD) := ⟨rfl, rfl, rfl, by decide +kernel, rfl, by decide +kernel, by decide +kernel⟩
abbrev s_WorldD_containsD : Stmt := inClass (top 21) 2
abbrev N_WorldD_containsD : List Str := ["self", "x"]
abbrev P_WorldD_containsD : List Str := ["self", "x"]
theorem sc_WorldD_containsD : FnScope N_WorldD_containsD P_WorldD_containsD (defScope s_WorldD_containsD) := ⟨rfl, rfl, rfl, by decide +kernel, rfl, by decide +kernel, by decide +kernel⟩
abbrev s_WorldD_lenD : Stmt := inClass (top 21) 3
abbrev N_WorldD_lenD : List Str := ["self"]
abbrev P_WorldD_lenD : List Str := ["self"]
theorem sc_WorldD_lenD : FnScope N_WorldD_lenD P_WorldD_lenD (defScope s_WorldD_lenD) := ⟨rfl, rfl, rfl, by decide +kernel, rfl, by decide +kernel, by decide +kernel⟩
abbrev s_WorldD_iterD : Stmt := inClass (top 21) 4
abbrev N_WorldD_iterD : List Str := ["self"]
abbrev P_WorldD_iterD : List Str := ["self"]
theorem sc_WorldD_iterD : FnScope N_WorldD_iterD P_WorldD_iterD (defScope s_WorldD_iterD) := ⟨rfl, rfl, rfl, by decide +kernel, rfl, by decide +kernel, by decide +kernel⟩
abbrev s_WorldD_eqD : Stmt := inClass (top 21) 5
abbrev N_WorldD_eqD : List Str := ["self", "other"]
abbrev P_WorldD_eqD : List Str := ["self", "other"]
theorem sc_WorldD_eqD : FnScope N_WorldD_eqD P_WorldD_eqD (defScope s_WorldD_eqD) := ⟨rfl, rfl, rfl, by decide +kernel, rfl, by decide +kernel, by decide +kernel⟩
abbrev s_World_gap : Stmt := inClass (top 21) 6
abbrev N_World_gap : List Str := ["self", "a", "b"]
abbrev P_World_gap : List Str := ["self", "a", "b"]
theorem sc_World_gap : FnScope N_World_gap P_World_gap (defScope s_World_gap) := ⟨rfl, rfl, rfl, by decide +kernel, rfl, by decide +kernel, by decide +kernel⟩
abbrev s_World_keeps : Stmt := inClass (top 21) 7
abbrev N_World_keeps : List Str := ["self", "link"]
abbrev P_World_keeps : List Str := ["self", "link"]
theorem sc_World_keeps : FnScope N_World_keeps P_World_keeps (defScope s_World_keeps) := ⟨rfl, rfl, rfl, by decide +kernel, rfl, by decide +kernel, by decide +kernel⟩
abbrev s__values_of : Stmt := (top 22)
abbrev N__values_of : List Str := ["pairs", "values", "place", "pair", "spot", "number"]
abbrev P__values_of : List Str := ["pairs"]
theorem sc__values_of : FnScope N__values_of P__values_of (defScope s__values_of) := ⟨rfl, rfl, rfl, by decide +kernel, rfl, by decide +kernel, by decide +kernel⟩
abbrev s_plain_value : Stmt := (top 24)
abbrev N_plain_value : List Str := ["form", "world", "total", "spot", "factor"]
abbrev P_plain_value : List Str := ["form", "world"]
theorem sc_plain_value : FnScope N_plain_value P_plain_value (defScope s_plain_value) := ⟨rfl, rfl, rfl, by decide +kernel, rfl, by decide +kernel, by decide +kernel⟩
abbrev s_plain_form : Stmt := (top 25)
abbrev N_plain_form : List Str := ["factors", "rest", "spots", "spot"]
abbrev P_plain_form : List Str := ["factors", "rest"]
theorem sc_plain_form : FnScope N_plain_form P_plain_form (defScope s_plain_form) := ⟨rfl, rfl, rfl, by decide +kernel, rfl, by decide +kernel, by decide +kernel⟩
abbrev s_plain_sum : Stmt := (top 26)
abbrev N_plain_sum : List Str := ["first", "second", "factors", "spot", "factor"]
abbrev P_plain_sum : List Str := ["first", "second"]
theorem sc_plain_sum : FnScope N_plain_sum P_plain_sum (defScope s_plain_sum) := ⟨rfl, rfl, rfl, by decide +kernel, rfl, by decide +kernel, by decide +kernel⟩
abbrev s_plain_scaled : Stmt := (top 27)
abbrev N_plain_scaled : List Str := ["form", "number", "factors", "spot", "factor"]
abbrev P_plain_scaled : List Str := ["form", "number"]
theorem sc_plain_scaled : FnScope N_plain_scaled P_plain_scaled (defScope s_plain_scaled) := ⟨rfl, rfl, rfl, by decide +kernel, rfl, by decide +kernel, by decide +kernel⟩
abbrev s_FormD_initD : Stmt := inClass (top 29) 0
abbrev N_FormD_initD : List Str := ["self", "terms", "rest", "factors"]
abbrev P_FormD_initD : List Str := ["self", "terms", "rest"]
theorem sc_FormD_initD : FnScope N_FormD_initD P_FormD_initD (defScope s_FormD_initD) := ⟨rfl, rfl, rfl, by decide +kernel, rfl, by decide +kernel, by decide +kernel⟩
abbrev s_Form_of : Stmt := inClass (top 29) 1
abbrev N_Form_of : List Str := ["spot"]
abbrev P_Form_of : List Str := ["spot"]
theorem sc_Form_of : FnScope N_Form_of P_Form_of (defScope s_Form_of) := ⟨rfl, rfl, rfl, by decide +kernel, rfl, by decide +kernel, by decide +kernel⟩
abbrev s_Form_plain : Stmt := inClass (top 29) 2
abbrev N_Form_plain : List Str := ["self"]
abbrev P_Form_plain : List Str := ["self"]
theorem sc_Form_plain : FnScope N_Form_plain P_Form_plain (defScope s_Form_plain) := ⟨rfl, rfl, rfl, by decide +kernel, rfl, by decide +kernel, by decide +kernel⟩
abbrev s_FormD_addD : Stmt := inClass (top 29) 3
abbrev N_FormD_addD : List Str := ["self", "other"]
abbrev P_FormD_addD : List Str := ["self", "other"]
theorem sc_FormD_addD : FnScope N_FormD_addD P_FormD_addD (defScope s_FormD_addD) := ⟨rfl, rfl, rfl, by decide +kernel, rfl, by decide +kernel, by decide +kernel⟩
abbrev s_FormD_subD : Stmt := inClass (top 29) 4
abbrev N_FormD_subD : List Str := ["self", "other"]
abbrev P_FormD_subD : List Str := ["self", "other"]
theorem sc_FormD_subD : FnScope N_FormD_subD P_FormD_subD (defScope s_FormD_subD) := ⟨rfl, rfl, rfl, by decide +kernel, rfl, by decide +kernel, by decide +kernel⟩
abbrev s_FormD_mulD : Stmt := inClass (top 29) 5
abbrev N_FormD_mulD : List Str := ["self", "other"]
abbrev P_FormD_mulD : List Str := ["self", "other"]
theorem sc_FormD_mulD : FnScope N_FormD_mulD P_FormD_mulD (defScope s_FormD_mulD) := ⟨rfl, rfl, rfl, by decide +kernel, rfl, by decide +kernel, by decide +kernel⟩
abbrev s_FormD_negD : Stmt := inClass (top 29) 6
abbrev N_FormD_negD : List Str := ["self"]
abbrev P_FormD_negD : List Str := ["self"]
theorem sc_FormD_negD : FnScope N_FormD_negD P_FormD_negD (defScope s_FormD_negD) := ⟨rfl, rfl, rfl, by decide +kernel, rfl, by decide +kernel, by decide +kernel⟩
abbrev s_FormD_eqD : Stmt := inClass (top 29) 7
abbrev N_FormD_eqD : List Str := ["self", "other"]
abbrev P_FormD_eqD : List Str := ["self", "other"]
theorem sc_FormD_eqD : FnScope N_FormD_eqD P_FormD_eqD (defScope s_FormD_eqD) := ⟨rfl, rfl, rfl, by decide +kernel, rfl, by decide +kernel, by decide +kernel⟩
abbrev s_FormD_callD : Stmt := inClass (top 29) 8
abbrev N_FormD_callD : List Str := ["self", "world"]
abbrev P_FormD_callD : List Str := ["self", "world"]
theorem sc_FormD_callD : FnScope N_FormD_callD P_FormD_callD (defScope s_FormD_callD) := ⟨rfl, rfl, rfl, by decide +kernel, rfl, by decide +kernel, by decide +kernel⟩
abbrev s_form_of : Stmt := (top 30)
abbrev N_form_of : List Str := ["plain", "terms", "rest"]
abbrev P_form_of : List Str := ["plain"]
theorem sc_form_of : FnScope N_form_of P_form_of (defScope s_form_of) := ⟨rfl, rfl, rfl, by decide +kernel, rfl, by decide +kernel, by decide +kernel⟩
abbrev s__factors_of : Stmt := (top 31)
abbrev N__factors_of : List Str := ["terms", "factors", "place", "pair", "spot", "factor"]
abbrev P__factors_of : List Str := ["terms"]
theorem sc__factors_of : FnScope N__factors_of P__factors_of (defScope s__factors_of) := ⟨rfl, rfl, rfl, by decide +kernel, rfl, by decide +kernel, by decide +kernel⟩
abbrev s__law_bag_of : Stmt := (top 33)
abbrev N__law_bag_of : List Str := ["_law_script", "_law_mixed", "_law_cell"]
abbrev P__law_bag_of : List Str := ["_law_script"]
theorem sc__law_bag_of : FnScope N__law_bag_of P__law_bag_of (defScope s__law_bag_of) := ⟨rfl, rfl, rfl, by decide +kernel, rfl, by decide +kernel, by decide +kernel⟩
abbrev s__law_pick : Stmt := (top 34)
abbrev N__law_pick : List Str := ["_law_bag", "_law_many", "_law_number", "_law_cell"]
abbrev P__law_pick : List Str := ["_law_bag", "_law_many"]
theorem sc__law_pick : FnScope N__law_pick P__law_pick (defScope s__law_pick) := ⟨rfl, rfl, rfl, by decide +kernel, rfl, by decide +kernel, by decide +kernel⟩
abbrev s__law_choice : Stmt := (top 35)
abbrev N__law_choice : List Str := ["_law_bag", "_law_things"]
abbrev P__law_choice : List Str := ["_law_bag", "_law_things"]
theorem sc__law_choice : FnScope N__law_choice P__law_choice (defScope s__law_choice) := ⟨rfl, rfl, rfl, by decide +kernel, rfl, by decide +kernel, by decide +kernel⟩
abbrev s__law_one_in : Stmt := (top 36)
abbrev N__law_one_in : List Str := ["_law_bag", "_law_many"]
abbrev P__law_one_in : List Str := ["_law_bag", "_law_many"]
theorem sc__law_one_in : FnScope N__law_one_in P__law_one_in (defScope s__law_one_in) := ⟨rfl, rfl, rfl, by decide +kernel, rfl, by decide +kernel, by decide +kernel⟩
abbrev s__law_shuffled : Stmt := (top 37)
abbrev N__law_shuffled : List Str := ["_law_bag", "_law_things", "_law_rest", "_law_thing"]
abbrev P__law_shuffled : List Str := ["_law_bag", "_law_things"]
theorem sc__law_shuffled : FnScope N__law_shuffled P__law_shuffled (defScope s__law_shuffled) := ⟨rfl, rfl, rfl, by decide +kernel, rfl, by decide +kernel, by decide +kernel⟩
abbrev s__law_integer : Stmt := (top 38)
abbrev N__law_integer : List Str := ["_law_thing"]
abbrev P__law_integer : List Str := ["_law_thing"]
theorem sc__law_integer : FnScope N__law_integer P__law_integer (defScope s__law_integer) := ⟨rfl, rfl, rfl, by decide +kernel, rfl, by decide +kernel, by decide +kernel⟩
abbrev s__law_letters_of : Stmt := (top 39)
abbrev N__law_letters_of : List Str := ["_law_bag", "_law_many", "_law_k"]
abbrev P__law_letters_of : List Str := ["_law_bag", "_law_many"]
theorem sc__law_letters_of : FnScope N__law_letters_of P__law_letters_of (defScope s__law_letters_of) := ⟨rfl, rfl, rfl, by decide +kernel, rfl, by decide +kernel, by decide +kernel⟩
abbrev s__law_words : Stmt := (top 40)
abbrev N__law_words : List Str := ["_law_told"]
abbrev P__law_words : List Str := []
theorem sc__law_words : FnScope N__law_words P__law_words (defScope s__law_words) := ⟨rfl, rfl, rfl, by decide +kernel, rfl, by decide +kernel, by decide +kernel⟩
abbrev s__law_names_of : Stmt := (top 41)
abbrev N__law_names_of : List Str := ["_law_bag", "_law_many", "_law_taken", "_law_letters", "_law_k", "_law_drawn", "_law_name", "_law_step"]
abbrev P__law_names_of : List Str := ["_law_bag", "_law_many"]
theorem sc__law_names_of : FnScope N__law_names_of P__law_names_of (defScope s__law_names_of) := ⟨rfl, rfl, rfl, by decide +kernel, rfl, by decide +kernel, by decide +kernel⟩
abbrev s__law_gcd : Stmt := (top 42)
abbrev N__law_gcd : List Str := ["_law_a", "_law_b", "_law_first", "_law_second", "_law_rest"]
abbrev P__law_gcd : List Str := ["_law_a", "_law_b"]
theorem sc__law_gcd : FnScope N__law_gcd P__law_gcd (defScope s__law_gcd) := ⟨rfl, rfl, rfl, by decide +kernel, rfl, by decide +kernel, by decide +kernel⟩
abbrev s__law_ratio : Stmt := (top 43)
abbrev N__law_ratio : List Str := ["_law_n", "_law_d", "_law_common"]
abbrev P__law_ratio : List Str := ["_law_n", "_law_d"]
theorem sc__law_ratio : FnScope N__law_ratio P__law_ratio (defScope s__law_ratio) := ⟨rfl, rfl, rfl, by decide +kernel, rfl, by decide +kernel, by decide +kernel⟩
abbrev s__law_plus : Stmt := (top 44)
abbrev N__law_plus : List Str := ["_law_a", "_law_b"]
abbrev P__law_plus : List Str := ["_law_a", "_law_b"]
theorem sc__law_plus : FnScope N__law_plus P__law_plus (defScope s__law_plus) := ⟨rfl, rfl, rfl, by decide +kernel, rfl, by decide +kernel, by decide +kernel⟩
abbrev s__law_times : Stmt := (top 45)
abbrev N__law_times : List Str := ["_law_a", "_law_b"]
abbrev P__law_times : List Str := ["_law_a", "_law_b"]
theorem sc__law_times : FnScope N__law_times P__law_times (defScope s__law_times) := ⟨rfl, rfl, rfl, by decide +kernel, rfl, by decide +kernel, by decide +kernel⟩
abbrev s__law_ground : Stmt := (top 46)
abbrev N__law_ground : List Str := []
abbrev P__law_ground : List Str := []
theorem sc__law_ground : FnScope N__law_ground P__law_ground (defScope s__law_ground) := ⟨rfl, rfl, rfl, by decide +kernel, rfl, by decide +kernel, by decide +kernel⟩
abbrev s__law_plain_value : Stmt := (top 47)
abbrev N__law_plain_value : List Str := ["_law_values", "_law_plain", "_law_total", "_law_spot", "_law_factor", "_law_value"]
abbrev P__law_plain_value : List Str := ["_law_values", "_law_plain"]
theorem sc__law_plain_value : FnScope N__law_plain_value P__law_plain_value (defScope s__law_plain_value) := ⟨rfl, rfl, rfl, by decide +kernel, rfl, by decide +kernel, by decide +kernel⟩
abbrev s__law_added : Stmt := (top 48)
abbrev N__law_added : List Str := ["_law_total", "_law_spot", "_law_amount"]
abbrev P__law_added : List Str := ["_law_total", "_law_spot", "_law_amount"]
theorem sc__law_added : FnScope N__law_added P__law_added (defScope s__law_added) := ⟨rfl, rfl, rfl, by decide +kernel, rfl, by decide +kernel, by decide +kernel⟩
abbrev s__law_exact : Stmt := (top 49)
abbrev N__law_exact : List Str := ["_law_actual", "_law_due", "_law_k"]
abbrev P__law_exact : List Str := ["_law_actual", "_law_due"]
theorem sc__law_exact : FnScope N__law_exact P__law_exact (defScope s__law_exact) := ⟨rfl, rfl, rfl, by decide +kernel, rfl, by decide +kernel, by decide +kernel⟩
abbrev s__law_pool_of : Stmt := (top 50)
abbrev N__law_pool_of : List Str := ["_law_bag", "_law_names", "_law_pool", "_law_k", "_law_name", "_law_day", "_law_spot"]
abbrev P__law_pool_of : List Str := ["_law_bag"]
theorem sc__law_pool_of : FnScope N__law_pool_of P__law_pool_of (defScope s__law_pool_of) := ⟨rfl, rfl, rfl, by decide +kernel, rfl, by decide +kernel, by decide +kernel⟩
abbrev s__law_number_of : Stmt := (top 51)
abbrev N__law_number_of : List Str := ["_law_bag", "_law_way", "_law_number"]
abbrev P__law_number_of : List Str := ["_law_bag"]
theorem sc__law_number_of : FnScope N__law_number_of P__law_number_of (defScope s__law_number_of) := ⟨rfl, rfl, rfl, by decide +kernel, rfl, by decide +kernel, by decide +kernel⟩
abbrev s__law_row_of : Stmt := (top 52)
abbrev N__law_row_of : List Str := ["_law_bag", "_law_pool", "_law_places", "_law_k"]
abbrev P__law_row_of : List Str := ["_law_bag", "_law_pool"]
theorem sc__law_row_of : FnScope N__law_row_of P__law_row_of (defScope s__law_row_of) := ⟨rfl, rfl, rfl, by decide +kernel, rfl, by decide +kernel, by decide +kernel⟩
abbrev s__law_plain_of : Stmt := (top 53)
abbrev N__law_plain_of : List Str := ["_law_row", "_law_number", "_law_total", "_law_spot", "_law_factor"]
abbrev P__law_plain_of : List Str := ["_law_row", "_law_number"]
theorem sc__law_plain_of : FnScope N__law_plain_of P__law_plain_of (defScope s__law_plain_of) := ⟨rfl, rfl, rfl, by decide +kernel, rfl, by decide +kernel, by decide +kernel⟩
abbrev s__law_summed : Stmt := (top 54)
abbrev N__law_summed : List Str := ["_law_first", "_law_second", "_law_sign", "_law_row", "_law_pair"]
abbrev P__law_summed : List Str := ["_law_first", "_law_second", "_law_sign"]
theorem sc__law_summed : FnScope N__law_summed P__law_summed (defScope s__law_summed) := ⟨rfl, rfl, rfl, by decide +kernel, rfl, by decide +kernel, by decide +kernel⟩
abbrev s__law_multiplied : Stmt := (top 55)
abbrev N__law_multiplied : List Str := ["_law_plain", "_law_number", "_law_row", "_law_pair"]
abbrev P__law_multiplied : List Str := ["_law_plain", "_law_number"]
theorem sc__law_multiplied : FnScope N__law_multiplied P__law_multiplied (defScope s__law_multiplied) := ⟨rfl, rfl, rfl, by decide +kernel, rfl, by decide +kernel, by decide +kernel⟩
abbrev s__law_is : Stmt := (top 56)
abbrev N__law_is : List Str := ["_law_form", "_law_due"]
abbrev P__law_is : List Str := ["_law_form", "_law_due"]
theorem sc__law_is : FnScope N__law_is P__law_is (defScope s__law_is) := ⟨rfl, rfl, rfl, by decide +kernel, rfl, by decide +kernel, by decide +kernel⟩
abbrev s__law_alike : Stmt := (top 57)
abbrev N__law_alike : List Str := ["_law_first", "_law_second", "_law_due", "_law_answer"]
abbrev P__law_alike : List Str := ["_law_first", "_law_second", "_law_due"]
theorem sc__law_alike : FnScope N__law_alike P__law_alike (defScope s__law_alike) := ⟨rfl, rfl, rfl, by decide +kernel, rfl, by decide +kernel, by decide +kernel⟩
abbrev s__law_operators : Stmt := (top 58)
abbrev N__law_operators : List Str := ["_law_first", "_law_second", "_law_dues", "_law_number"]
abbrev P__law_operators : List Str := ["_law_first", "_law_second", "_law_dues", "_law_number"]
theorem sc__law_operators : FnScope N__law_operators P__law_operators (defScope s__law_operators) := ⟨rfl, rfl, rfl, by decide +kernel, rfl, by decide +kernel, by decide +kernel⟩
abbrev s__law_equal_ones : Stmt := (top 59)
abbrev N__law_equal_ones : List Str := ["_law_bag", "_law_first", "_law_second", "_law_dues", "_law_pool", "_law_number", "_law_row", "_law_again", "_law_other", "_law_moved"]
abbrev P__law_equal_ones : List Str := ["_law_bag", "_law_first", "_law_second", "_law_dues", "_law_pool", "_law_number"]
theorem sc__law_equal_ones : FnScope N__law_equal_ones P__law_equal_ones (defScope s__law_equal_ones) := ⟨rfl, rfl, rfl, by decide +kernel, rfl, by decide +kernel, by decide +kernel⟩
abbrev s__law_lacking : Stmt := (top 60)
abbrev N__law_lacking : List Str := ["_law_form", "_law_world", "e"]
abbrev P__law_lacking : List Str := ["_law_form", "_law_world"]
theorem sc__law_lacking : FnScope N__law_lacking P__law_lacking (defScope s__law_lacking) := ⟨rfl, rfl, rfl, by decide +kernel, rfl, by decide +kernel, by decide +kernel⟩
abbrev s__law_called : Stmt := (top 61)
abbrev N__law_called : List Str := ["_law_bag", "_law_form", "_law_due", "_law_pool", "_law_values", "_law_spot", "_law_order", "_law_world", "_law_gone", "_law_less"]
abbrev P__law_called : List Str := ["_law_bag", "_law_form", "_law_due", "_law_pool"]
theorem sc__law_called : FnScope N__law_called P__law_called (defScope s__law_called) := ⟨rfl, rfl, rfl, by decide +kernel, rfl, by decide +kernel, by decide +kernel⟩
abbrev s__law_refused : Stmt := (top 62)
abbrev N__law_refused : List Str := ["_law_row", "_law_number", "e"]
abbrev P__law_refused : List Str := ["_law_row", "_law_number"]
theorem sc__law_refused : FnScope N__law_refused P__law_refused (defScope s__law_refused) := ⟨rfl, rfl, rfl, by decide +kernel, rfl, by decide +kernel, by decide +kernel⟩
abbrev s__law_bad_pair : Stmt := (top 63)
abbrev N__law_bad_pair : List Str := ["_law_bag", "_law_spot", "_law_one"]
abbrev P__law_bad_pair : List Str := ["_law_bag", "_law_spot"]
theorem sc__law_bad_pair : FnScope N__law_bad_pair P__law_bad_pair (defScope s__law_bad_pair) := ⟨rfl, rfl, rfl, by decide +kernel, rfl, by decide +kernel, by decide +kernel⟩
abbrev s__law_bad_rest : Stmt := (top 64)
abbrev N__law_bad_rest : List Str := ["_law_bag"]
abbrev P__law_bad_rest : List Str := ["_law_bag"]
theorem sc__law_bad_rest : FnScope N__law_bad_rest P__law_bad_rest (defScope s__law_bad_rest) := ⟨rfl, rfl, rfl, by decide +kernel, rfl, by decide +kernel, by decide +kernel⟩
abbrev s__law_refusals : Stmt := (top 65)
abbrev N__law_refusals : List Str := ["_law_bag", "_law_row", "_law_pool", "_law_place", "_law_spoilt", "_law_behind", "_law_number", "_law_odd", "_law_told", "_law_dues", "_law_k"]
abbrev P__law_refusals : List Str := ["_law_bag", "_law_row", "_law_pool"]
theorem sc__law_refusals : FnScope N__law_refusals P__law_refusals (defScope s__law_refusals) := ⟨rfl, rfl, rfl, by decide +kernel, rfl, by decide +kernel, by decide +kernel⟩
abbrev s_law : Stmt := (top 66)
abbrev N_law : List Str := ["_law_script", "_law_bag", "_law_pool", "_law_rows", "_law_numbers", "_law_dues", "_law_handed", "_law_first", "_law_second", "_law_spot"]
abbrev P_law : List Str := ["_law_script"]
theorem sc_law : FnScope N_law P_law (defScope s_law) := ⟨rfl, rfl, rfl, by decide +kernel, rfl, by decide +kernel, by decide +kernel⟩
structure Ad where
  World : Addr
  Form : Addr
  Nought : Addr
  BadWorld : Addr
  BadForm : Addr
  BadRatio : Addr
  NoSpot : Addr
  EllError : Addr
  aG : Addr
  aE : Addr
  aZ : Addr
/-- an error's own __init__ -/
structure IniAt (K : PySem.W.Frag) (C : Addr) (q : Str) (st : Stmt) (ps : List Str) : Prop where
  ex : ∃ f fd, PySem.W.findIn K (.ref C) "__init__" = some (some (.ref f)) ∧ PySem.W.typeIn K (.ref f) = some (.type "function") ∧ Fun K "__init__" q st f fd ∧ Binds K fd ps []
/-- a method that stands for a sign -/
structure OwAt (K : PySem.W.Frag) (C : Addr) (m q : Str) (st : Stmt) (ps : List Str) : Prop where
  ex : ∃ f fd, OpM K C m f ∧ PySem.W.fnIn K f = true ∧ Fun K m q st f fd ∧ Binds K fd ps []
/-- what the top has written -/
structure Txt (K : PySem.W.Frag) (mg : Str → Option Value) (a : Ad) : Prop where
  n_isinstance : mg "isinstance" = none
  n_int : mg "int" = none
  n_bool : mg "bool" = none
  n_tuple : mg "tuple" = none
  n_str : mg "str" = none
  n_list : mg "list" = none
  n_len : mg "len" = none
  n_abs : mg "abs" = none
  n_range : mg "range" = none
  n_enumerate : mg "enumerate" = none
  n_sorted : mg "sorted" = none
  n_ValueError : mg "ValueError" = none
  gcd : mg "gcd" = some (.builtin "math.gcd")
  k_GROUND : mg "GROUND" = some (.ref a.aG)
  t_GROUND : ∀ H, SqT K H a.aG [.str "ground", .int 0, .int 0]
  ox_Nought : OexC K a.Nought
  g_Nought : mg "Nought" = some (.ref a.Nought)
  no_Nought_number : PySem.W.findIn K (.ref a.Nought) "number" = some none
  i_Nought : IniAt K a.Nought "Nought.__init__" s_NoughtD_initD P_NoughtD_initD
  e_Nought : ErrC K a.Nought
  xf_Nought : XfC K a.Nought
  kv_Nought : PySem.W.kitOne K (.ref a.Nought) (.type "ValueError") = some true
  ox_BadWorld : OexC K a.BadWorld
  g_BadWorld : mg "BadWorld" = some (.ref a.BadWorld)
  no_BadWorld_place : PySem.W.findIn K (.ref a.BadWorld) "place" = some none
  i_BadWorld : IniAt K a.BadWorld "BadWorld.__init__" s_BadWorldD_initD P_BadWorldD_initD
  e_BadWorld : ErrC K a.BadWorld
  xf_BadWorld : XfC K a.BadWorld
  kv_BadWorld : PySem.W.kitOne K (.ref a.BadWorld) (.type "ValueError") = some true
  ox_NoSpot : OexC K a.NoSpot
  g_NoSpot : mg "NoSpot" = some (.ref a.NoSpot)
  no_NoSpot_spot : PySem.W.findIn K (.ref a.NoSpot) "spot" = some none
  i_NoSpot : IniAt K a.NoSpot "NoSpot.__init__" s_NoSpotD_initD P_NoSpotD_initD
  e_NoSpot : ErrC K a.NoSpot
  xf_NoSpot : XfC K a.NoSpot
  kv_NoSpot : PySem.W.kitOne K (.ref a.NoSpot) (.type "ValueError") = some true
  ox_BadForm : OexC K a.BadForm
  g_BadForm : mg "BadForm" = some (.ref a.BadForm)
  no_BadForm_place : PySem.W.findIn K (.ref a.BadForm) "place" = some none
  i_BadForm : IniAt K a.BadForm "BadForm.__init__" s_BadFormD_initD P_BadFormD_initD
  e_BadForm : ErrC K a.BadForm
  xf_BadForm : XfC K a.BadForm
  kv_BadForm : PySem.W.kitOne K (.ref a.BadForm) (.type "ValueError") = some true
  kn_BadForm : PySem.W.kitOne K (.ref a.BadForm) (.ref a.BadRatio) = some false
  ke_BadForm : PySem.W.kitOne K (.ref a.BadForm) (.ref a.EllError) = some true
  em_BadForm : PySem.W.exmOne K (.ref a.BadForm) (.ref a.BadForm) = some true
  em_NoSpot : PySem.W.exmOne K (.ref a.NoSpot) (.ref a.NoSpot) = some true
  g_BadRatio : mg "BadRatio" = some (.ref a.BadRatio)
  g_EllError : mg "EllError" = some (.ref a.EllError)
  g_World : mg "World" = some (.ref a.World)
  ki : KiC K a.World
  nV : NoAttr K a.World "_values"
  i_World : MkAt K a.World "World.__init__" s_WorldD_initD P_WorldD_initD
  o_getitem : OwAt K a.World "__getitem__" "World.__getitem__" s_WorldD_getitemD P_WorldD_getitemD
  g_Form : mg "Form" = some (.ref a.Form)
  fki : KiC K a.Form
  fnT : NoAttr K a.Form "terms"
  fnR : NoAttr K a.Form "rest"
  fsf : PySem.W.selfFirst K a.Form = true
  fnf : NoFirst K a.Form
  fno : ∀ T ∈ (["NoneType", "bool", "int", "str", "list", "tuple"] : List String), PySem.W.kitOne K (.type T) (.ref a.Form) = some false
  ftr : TupR K a.Form Operator.Mult.info.2
  i_Form : ∃ f fd, Mk K a.Form f ∧ FunD K "__init__" "Form.__init__" (defArgs s_FormD_initD) (defBody s_FormD_initD) (defScope s_FormD_initD) [.ref a.aE, .ref a.aZ] [] f fd ∧ ∀ j, j ≤ 2 → ∃ ds, Vals (([.ref a.aE, .ref a.aZ] : List V).drop j) ds ∧ Binds K fd P_FormD_initD ds
  t_E : ∀ H, SqT K H a.aE []
  t_Z : ∀ H, SqT K H a.aZ [.int 0, .int 1]
  c_Form : ∃ f fd, StX.CallO K a.Form f ∧ Fun K "__call__" "Form.__call__" s_FormD_callD f fd ∧ Binds K fd P_FormD_callD []
  o_add : OpAt K a.Form (PySem.dunder Operator.Add.info.2) "__add__" "Form.__add__" s_FormD_addD P_FormD_addD
  o_sub : OpAt K a.Form (PySem.dunder Operator.Sub.info.2) "__sub__" "Form.__sub__" s_FormD_subD P_FormD_subD
  o_mul : OpAt K a.Form (PySem.dunder Operator.Mult.info.2) "__mul__" "Form.__mul__" s_FormD_mulD P_FormD_mulD
  o_neg : OpAt K a.Form "__neg__" "__neg__" "Form.__neg__" s_FormD_negD P_FormD_negD
  o_feq : OwAt K a.Form "__eq__" "Form.__eq__" s_FormD_eqD P_FormD_eqD
  m_plain : MthAt K a.Form "plain" "Form.plain" s_Form_plain P_Form_plain
  m_of : SmAt K a.Form "of" "Form.of" s_Form_of P_Form_of
  d__wall : DefAt K mg "_wall" s__wall P__wall
  d_is_integer : DefAt K mg "is_integer" s_is_integer P_is_integer
  d_is_row : DefAt K mg "is_row" s_is_row P_is_row
  d_is_tuple_of : DefAt K mg "is_tuple_of" s_is_tuple_of P_is_tuple_of
  d_is_ratio : DefAt K mg "is_ratio" s_is_ratio P_is_ratio
  d_plus : DefAt K mg "plus" s_plus P_plus
  d_times : DefAt K mg "times" s_times P_times
  d_is_spot : DefAt K mg "is_spot" s_is_spot P_is_spot
  d__values_of : DefAt K mg "_values_of" s__values_of P__values_of
  d_plain_value : DefAt K mg "plain_value" s_plain_value P_plain_value
  d_plain_form : DefAt K mg "plain_form" s_plain_form P_plain_form
  d_plain_sum : DefAt K mg "plain_sum" s_plain_sum P_plain_sum
  d_plain_scaled : DefAt K mg "plain_scaled" s_plain_scaled P_plain_scaled
  d_form_of : DefAt K mg "form_of" s_form_of P_form_of
  d__factors_of : DefAt K mg "_factors_of" s__factors_of P__factors_of
  d__law_bag_of : DefAt K mg "_law_bag_of" s__law_bag_of P__law_bag_of
  d__law_pick : DefAt K mg "_law_pick" s__law_pick P__law_pick
  d__law_choice : DefAt K mg "_law_choice" s__law_choice P__law_choice
  d__law_one_in : DefAt K mg "_law_one_in" s__law_one_in P__law_one_in
  d__law_shuffled : DefAt K mg "_law_shuffled" s__law_shuffled P__law_shuffled
  d__law_integer : DefAt K mg "_law_integer" s__law_integer P__law_integer
  d__law_letters_of : DefAt K mg "_law_letters_of" s__law_letters_of P__law_letters_of
  d__law_words : DefAt K mg "_law_words" s__law_words P__law_words
  d__law_names_of : DefAt K mg "_law_names_of" s__law_names_of P__law_names_of
  d__law_gcd : DefAt K mg "_law_gcd" s__law_gcd P__law_gcd
  d__law_ratio : DefAt K mg "_law_ratio" s__law_ratio P__law_ratio
  d__law_plus : DefAt K mg "_law_plus" s__law_plus P__law_plus
  d__law_times : DefAt K mg "_law_times" s__law_times P__law_times
  d__law_ground : DefAt K mg "_law_ground" s__law_ground P__law_ground
  d__law_plain_value : DefAt K mg "_law_plain_value" s__law_plain_value P__law_plain_value
  d__law_added : DefAt K mg "_law_added" s__law_added P__law_added
  d__law_exact : DefAt K mg "_law_exact" s__law_exact P__law_exact
  d__law_pool_of : DefAt K mg "_law_pool_of" s__law_pool_of P__law_pool_of
  d__law_number_of : DefAt K mg "_law_number_of" s__law_number_of P__law_number_of
  d__law_row_of : DefAt K mg "_law_row_of" s__law_row_of P__law_row_of
  d__law_plain_of : DefAt K mg "_law_plain_of" s__law_plain_of P__law_plain_of
  d__law_summed : DefAt K mg "_law_summed" s__law_summed P__law_summed
  d__law_multiplied : DefAt K mg "_law_multiplied" s__law_multiplied P__law_multiplied
  d__law_is : DefAt K mg "_law_is" s__law_is P__law_is
  d__law_alike : DefAt K mg "_law_alike" s__law_alike P__law_alike
  d__law_operators : DefAt K mg "_law_operators" s__law_operators P__law_operators
  d__law_equal_ones : DefAt K mg "_law_equal_ones" s__law_equal_ones P__law_equal_ones
  d__law_lacking : DefAt K mg "_law_lacking" s__law_lacking P__law_lacking
  d__law_called : DefAt K mg "_law_called" s__law_called P__law_called
  d__law_refused : DefAt K mg "_law_refused" s__law_refused P__law_refused
  d__law_bad_pair : DefAt K mg "_law_bad_pair" s__law_bad_pair P__law_bad_pair
  d__law_bad_rest : DefAt K mg "_law_bad_rest" s__law_bad_rest P__law_bad_rest
  d__law_refusals : DefAt K mg "_law_refusals" s__law_refusals P__law_refusals
  d_law : DefAt K mg "law" s_law P_law
  d_ratio : DefAtD K mg "ratio" s_ratio P_ratio [.int 1]
section
variable {P : Program} {w : World} {K : PySem.W.Frag} {mg : Str → Option Value} {base : Heap} {a : Ad}
/-! ### checks -/
/-- not an integer: a bool, or a thing of a type that is none of int's -/
def NoI (K : PySem.W.Frag) (H : Hp) (v : V) : Prop := (∃ b, v = .bl b) ∨ ∃ t, TyX K H v t ∧ PySem.W.kitOne K t (.type "int") = some false
def sp_is_integer (K : PySem.W.Frag) : Sp := fun vs H Q _ => ∃ v, vs = [v] ∧ ((∃ i, v = .int i ∧ Q (.bl true) H) ∨ (NoI K H v ∧ Q (.bl false) H))
theorem c_is_integer (T : Txt K mg a) : Cl P w K mg base 1 "is_integer" P_is_integer (sp_is_integer K) [] :=
  T.d_is_integer.cl sc_is_integer (fun vs H Q E h => by obtain ⟨i, rfl, _⟩ := h; rfl) fun f cdv A outer s H vs Q E hr h => by
    obtain ⟨v, rfl, h⟩ := h
    refine ⟨_, ((pss_one (ps_ret (pe_and (pe_callB call_isi (by rfl) T.n_isinstance (by decide +kernel) (pa_cons (pv 0) (pa_cons (pe_bltn (v := .ty "int") (by rfl) T.n_int (by decide +kernel) rfl) pa_nil))) (pe_one (pe_not (pe_callB call_isi (by rfl) T.n_isinstance (by decide +kernel) (pa_cons (pv 0) (pa_cons (pe_bltn (v := .ty "bool") (by rfl) T.n_bool (by decide +kernel) rfl) pa_nil))))))))), ?_⟩
    rcases h with ⟨i, rfl, k⟩ | ⟨⟨b, rfl⟩ | ⟨t, ht, hk⟩, k⟩
    · refine ⟨_, rfl, _, _, _, _, true, rfl, .ty _, .base (.int _), kit_ty (by decide +kernel), true, rfl, iteT ?_⟩
      exact ⟨_, rfl, _, _, _, _, false, rfl, .ty _, .base (.int _), kit_ty (by decide +kernel), false, rfl, k⟩
    · refine ⟨_, rfl, _, _, _, _, true, rfl, .ty _, .base (.bl _), kit_ty (by decide +kernel), true, rfl, iteT ?_⟩
      exact ⟨_, rfl, _, _, _, _, true, rfl, .ty _, .base (.bl _), kit_ty (by decide +kernel), true, rfl, k⟩
    · exact ⟨_, rfl, _, _, _, _, false, rfl, .ty _, ht, hk, false, rfl, iteF k⟩
def sp_is_tuple_of (K : PySem.W.Frag) : Sp := fun vs H Q _ => ∃ (v : V) (m : Int), vs = [v, .int m] ∧
  ((∃ p xs, v = .ref p ∧ SqT K H p xs ∧ Q (.bl (decide (V.int xs.length = V.int m))) H) ∨ ∃ t, TyX K H v t ∧ PySem.W.kitOne K t (.type "tuple") = some false ∧ Q (.bl false) H)
theorem c_is_tuple_of (T : Txt K mg a) : Cl P w K mg base 1 "is_tuple_of" P_is_tuple_of (sp_is_tuple_of K) [] :=
  T.d_is_tuple_of.cl sc_is_tuple_of (fun vs H Q E h => by obtain ⟨i, lo, rfl, _⟩ := h; rfl) fun f cdv A outer s H vs Q E hr h => by
    obtain ⟨v, m, rfl, h⟩ := h
    refine ⟨_, ((pss_one (ps_ret (pe_and (pe_callB call_isi (by rfl) T.n_isinstance (by decide +kernel) (pa_cons (pv 0) (pa_cons (pe_bltn (v := .ty "tuple") (by rfl) T.n_tuple (by decide +kernel) rfl) pa_nil))) (pe_one (pe_cmpR op_eq (pe_callB call_len_seq (by rfl) T.n_len (by decide +kernel) (pa_cons (pv 0) pa_nil)) (pv 1) (nomark _))))))), ?_⟩
    rcases h with ⟨p, xs, rfl, hx, k⟩ | ⟨t, ht, hk, k⟩
    · refine ⟨_, rfl, _, _, _, _, true, rfl, .ty _, ty_sqT hx, kit_ty (by decide +kernel), true, rfl, iteT ?_⟩
      exact ⟨_, rfl, _, _, rfl, .inr hx, _, rfl, rfl, k⟩
    · exact ⟨_, rfl, _, _, _, _, false, rfl, .ty _, ht, hk, false, rfl, iteF k⟩
def sp_is_row (K : PySem.W.Frag) : Sp := fun vs H Q _ => ∃ (F : Hp) (p : Addr) (xs : List V), vs = [.ref p] ∧ (SqL K F p xs ∨ SqT K F p xs) ∧ Pu F H Q fun _ v => v = .bl true
theorem c_is_row (T : Txt K mg a) : Cl P w K mg base 1 "is_row" P_is_row (sp_is_row K) [] :=
  T.d_is_row.cl sc_is_row (fun vs H Q E h => by obtain ⟨F, p, xs, rfl, _⟩ := h; rfl) fun f cdv A outer s H vs Q E hr h => by
    obtain ⟨F, p, xs, rfl, hx, hf, k⟩ := h
    refine ⟨_, ((pss_one (ps_ret (pe_callB call_isiT (by rfl) T.n_isinstance (by decide +kernel) (pa_cons (pv 0) (pa_cons (pe_tup (pa_cons (pe_bltn (v := .ty "list") (by rfl) T.n_list (by decide +kernel) rfl) (pa_cons (pe_bltn (v := .ty "tuple") (by rfl) T.n_tuple (by decide +kernel) rfl) pa_nil))) pa_nil)))))), ?_⟩
    refine ⟨_, rfl, by show 2 ≤ sizeLine; decide, fun q hq => ?_⟩
    have fin : ∀ t, TyX K (upd H q (.tup [.ty "list", .ty "tuple"])) (.ref p) t → PySem.W.kitAny K t [.type "list", .type "tuple"] = some true → rIsiT K [.ref p, .ref q] (upd H q (.tup [.ty "list", .ty "tuple"])) Q := fun t ty hk =>
      ⟨_, q, _, t, _, true, rfl, upd_same, .cons (.ty _) (.cons (.ty _) .nil), ty, hk, k _ _ _ (stp_new hf hq) rfl⟩
    rcases hx with hx | hx
    · exact fin _ (ty_sqL (upL (same_new hq) (upL hf hx))) (kitAny_cons (b := true) (kit_ty (by decide +kernel)) (fun z => nomatch z) fun _ => rfl)
    · exact fin _ (ty_sqT (upT (same_new hq) (upT hf hx))) (kitAny_cons (b := false) (kit_ty (by decide +kernel)) (fun _ => kitAny_cons (b := true) (kit_ty (by decide +kernel)) (fun z => nomatch z) fun _ => rfl) fun z => nomatch z)
theorem map_of {α : Type} {xs : List α} {f : α → V} : ∀ {ys : List V}, ys.length = xs.length → (∀ (j : Nat) y, ys[j]? = some y → ∃ x, xs[j]? = some x ∧ y = f x) → ys = xs.map f := by
  induction xs with
  | nil => intro ys h _; simpa using h
  | cons x xs ih =>
    intro ys h q
    cases ys with
    | nil => simp at h
    | cons y ys =>
      obtain ⟨x', hx, hy⟩ := q 0 y rfl
      cases hx
      rw [hy, List.map_cons, ih (by simpa using h) fun j z hz => q (j + 1) z hz]
theorem x_Nought (T : Txt K mg a) : Mke P w K mg base 1 "Nought" a.Nought P_NoughtD_initD (spI1 a.Nought "number") := by
  obtain ⟨f, fd, hi, ht, F, b⟩ := T.i_Nought.ex
  refine ⟨T.g_Nought, T.ox_Nought, f, fd, hi, ht, fun_ok F sc_NoughtD_initD (fun vs H Q E h => by obtain ⟨x, v, rfl, _⟩ := h; rfl) fun f cdv A outer s H vs Q E hr h => ?_, b⟩
  obtain ⟨x, v, rfl, hx, k⟩ := h
  exact ⟨_, ((pss_one (ps_ost (pv 0) (pv 1)))), _, rfl, _, rfl, x, a.Nought, rfl, T.ox_Nought, T.no_Nought_number, .inl ⟨hx, fun dx n ne => k dx n ne⟩⟩
theorem x_BadWorld (T : Txt K mg a) : Mke P w K mg base 1 "BadWorld" a.BadWorld P_BadWorldD_initD (spI1 a.BadWorld "place") := by
  obtain ⟨f, fd, hi, ht, F, b⟩ := T.i_BadWorld.ex
  refine ⟨T.g_BadWorld, T.ox_BadWorld, f, fd, hi, ht, fun_ok F sc_BadWorldD_initD (fun vs H Q E h => by obtain ⟨x, v, rfl, _⟩ := h; rfl) fun f cdv A outer s H vs Q E hr h => ?_, b⟩
  obtain ⟨x, v, rfl, hx, k⟩ := h
  exact ⟨_, ((pss_one (ps_ost (pv 0) (pv 1)))), _, rfl, _, rfl, x, a.BadWorld, rfl, T.ox_BadWorld, T.no_BadWorld_place, .inl ⟨hx, fun dx n ne => k dx n ne⟩⟩
theorem x_NoSpot (T : Txt K mg a) : Mke P w K mg base 1 "NoSpot" a.NoSpot P_NoSpotD_initD (spI1 a.NoSpot "spot") := by
  obtain ⟨f, fd, hi, ht, F, b⟩ := T.i_NoSpot.ex
  refine ⟨T.g_NoSpot, T.ox_NoSpot, f, fd, hi, ht, fun_ok F sc_NoSpotD_initD (fun vs H Q E h => by obtain ⟨x, v, rfl, _⟩ := h; rfl) fun f cdv A outer s H vs Q E hr h => ?_, b⟩
  obtain ⟨x, v, rfl, hx, k⟩ := h
  exact ⟨_, ((pss_one (ps_ost (pv 0) (pv 1)))), _, rfl, _, rfl, x, a.NoSpot, rfl, T.ox_NoSpot, T.no_NoSpot_spot, .inl ⟨hx, fun dx n ne => k dx n ne⟩⟩
theorem x_BadForm (T : Txt K mg a) : Mke P w K mg base 1 "BadForm" a.BadForm P_BadFormD_initD (spI1 a.BadForm "place") := by
  obtain ⟨f, fd, hi, ht, F, b⟩ := T.i_BadForm.ex
  refine ⟨T.g_BadForm, T.ox_BadForm, f, fd, hi, ht, fun_ok F sc_BadFormD_initD (fun vs H Q E h => by obtain ⟨x, v, rfl, _⟩ := h; rfl) fun f cdv A outer s H vs Q E hr h => ?_, b⟩
  obtain ⟨x, v, rfl, hx, k⟩ := h
  exact ⟨_, ((pss_one (ps_ost (pv 0) (pv 1)))), _, rfl, _, rfl, x, a.BadForm, rfl, T.ox_BadForm, T.no_BadForm_place, .inl ⟨hx, fun dx n ne => k dx n ne⟩⟩
end
end K33

set_option Elab.async false
set_option linter.all false
set_option maxRecDepth 100000
set_option maxHeartbeats 4000000
namespace K33
open PySem PySem.Spec PyProof.Rows L2 Ew
section
variable {P : Program} {w : World} {K : PySem.W.Frag} {mg : Str → Option Value} {base : Heap} {a : Ad}
/-! ### ratios -/
theorem at0 {x y : V} : atI [x, y] 0 = some x := rfl
theorem at1 {x y : V} : atI [x, y] 1 = some y := rfl
/-- n over d -/
def sp_ratioN (K : PySem.W.Frag) (a : Ad) : Sp := fun vs H Q E => ∃ (F : Hp) (n d : Int), vs = [.int n, .int d] ∧ Sz 8000 d ∧ Same F H ∧ (d = 0 → Ra F H E a.Nought fun F' x => F' x = some (.xd [("number", .int n)])) ∧
  (d ≠ 0 → ∀ F' H' v, Stp F H F' H' → Rt K F' v (rat n d) → Q v H')
theorem b_ratio (T : Txt K mg a) : BodyOk P w K mg base N_ratio "ratio" s_ratio 2 (sp_ratioN K a) := fun f cdv A outer s H vs Q E hr h => by
    obtain ⟨F, n, d, rfl, hz, hf, k0, k⟩ := h
    refine ⟨_, ((pss_cons (ps_if (pt_cmpR op_eq (pv 1) pe_int (nomark _))
 (pss_one (ps_raise1 rfl (takes_of rfl rfl rfl rfl) (x_Nought T) hr (by decide) rfl (pv 0)))
 pss_nil)
 (pss_cons (ps_set (i := 2) sc_ratio.nd rfl (Or.inl rfl) (pe_callBfun cr_gcd (by rfl) T.gcd (pa_cons (pv 0) (pa_cons (pv 1) pa_nil))))
 (pss_cons (ps_if (pt_cmpR op_lt (pv 1) pe_int (nomark _))
 (pss_one (ps_set (i := 2) sc_ratio.nd rfl (Or.inl rfl) (pe_un un_neg (pv 2))))
 pss_nil)
 (pss_one (ps_ret (pe_tup (pa_cons (pe_op op_fdivX (pv 0) (pv 2)) (pa_cons (pe_op op_fdivX (pv 1) (pv 2)) pa_nil))))))))), ?_⟩
    refine ⟨_, rfl, rfl, _, rfl, ?_⟩
    by_cases h0 : d = 0
    · exact iteY (vint_eq h0) ⟨_, rfl, fun x hx => k0 h0 _ _ x (stp_new hf hx) upd_same⟩
    have k := k h0
    have cd : ∀ i : Int, CDivX i (com n d) := fun i => ⟨com_ne h0, (com_sz h0 hz).log (by decide) (by decide)⟩
    refine iteN (vint_ne h0) ⟨_, rfl, _, rfl, n, d, rfl, ?_⟩
    have fin : ∀ c : Int, c = com n d → (tRet (tTup (tCons (tOp (rI CDivX fun i j => .int (i.fdiv j)) (tVar 0) (tVar 2)) (tCons (tOp (rI CDivX fun i j => .int (i.fdiv j)) (tVar 1) (tVar 2)) tNil)))) { nx := fun _ H' => Q .non H', rt := Q } [some (.int n), some (.int d), some (.int c)] H := by
      rintro c rfl
      refine ⟨_, rfl, _, rfl, _, _, rfl, rfl, cd _, _, rfl, _, rfl, _, _, rfl, rfl, cd _, by show 2 ≤ sizeLine; decide, fun p hp => ?_⟩
      exact k _ _ _ (stp_new hf hp) ⟨p, rfl, sq_new⟩
    refine ⟨_, rfl, _, _, rfl, rfl, _, rfl, ?_⟩
    refine ite2 (fun e => ?_) (fun e => ?_)
    · refine ⟨_, rfl, _, rfl, fin _ ?_⟩
      unfold com; rw [if_pos (of_decide_eq_true e)]
    · refine fin _ ?_
      unfold com; rw [if_neg fun z => e (decide_eq_true z)]
theorem c_ratioN (T : Txt K mg a) : Cl P w K mg base 3 "ratio" P_ratio (sp_ratioN K a) [] :=
  T.d_ratio.cl 1 (by decide) sc_ratio (fun vs H Q E h => by obtain ⟨F, n, d, rfl, _⟩ := h; rfl) (b_ratio T)
theorem c_ratio1 (T : Txt K mg a) : Cl P w K mg base 3 "ratio" P_ratio (sp_ratioN K a) [.int 1] :=
  T.d_ratio.cl 0 (by decide) sc_ratio (fun vs H Q E h => by obtain ⟨F, n, d, rfl, _⟩ := h; rfl) (b_ratio T)
/-- the same where d is not 0 -/
def sp_ratio (K : PySem.W.Frag) : Sp := fun vs H Q _ => ∃ (F : Hp) (n d : Int), vs = [.int n, .int d] ∧ d ≠ 0 ∧ Sz 8000 d ∧ Pu F H Q fun F' v => Rt K F' v (rat n d)
theorem c_ratio (T : Txt K mg a) : Cl P w K mg base 3 "ratio" P_ratio (sp_ratio K) [] :=
  T.d_ratio.cl 1 (by decide) sc_ratio (fun vs H Q E h => by obtain ⟨F, n, d, rfl, _⟩ := h; rfl) fun f cdv A outer s H vs Q E hr h => by
    obtain ⟨F, n, d, rfl, h0, hz, hf, k⟩ := h
    exact b_ratio T f cdv A outer s H _ Q E hr ⟨F, n, d, rfl, hz, hf, fun z => absurd z h0, fun _ => k⟩
/-- a def of two ratios that hands back a ratio -/
def sp_two (K : PySem.W.Frag) (g : Int × Int → Int × Int → Int × Int) : Sp := fun vs H Q _ => ∃ (F : Hp) (u v : V) (r q : Int × Int), vs = [u, v] ∧ Rt K F u r ∧ Rt K F v q ∧ Sz 2000 r.1 ∧ Sz 2000 r.2 ∧ Sz 2000 q.1 ∧ Sz 2000 q.2 ∧ r.2 ≠ 0 ∧ q.2 ≠ 0 ∧ Pu F H Q fun F' z => Rt K F' z (g r q)
def rPlus (r q : Int × Int) : Int × Int := rat (r.1 * q.2 + q.1 * r.2) (r.2 * q.2)
def rMinus (r q : Int × Int) : Int × Int := rat (r.1 * q.2 - q.1 * r.2) (r.2 * q.2)
def rTimes (r q : Int × Int) : Int × Int := rat (r.1 * q.1) (r.2 * q.2)
def rOver (r q : Int × Int) : Int × Int := rat (r.1 * q.2) (r.2 * q.1)
theorem sz1 : Sz 2000 1 := by unfold Sz; exact Nat.one_lt_two_pow (by decide)
theorem mulw {x y : Int} (h : Sz 2000 x) (k : Sz 2000 y) : CMulW x y := wide_mul h k (by decide) (by decide) (by decide)
theorem c_plus (T : Txt K mg a) : Cl P w K mg base 4 "plus" P_plus (sp_two K rPlus) [] :=
  T.d_plus.cl sc_plus (fun vs H Q E h => by obtain ⟨F, u, v, r, q, rfl, _⟩ := h; rfl) fun f cdv A outer s H vs Q E hr h => by
    obtain ⟨F, u, v, r, q, rfl, ⟨p1, rfl, h1⟩, ⟨p2, rfl, h2⟩, z1, z2, z3, z4, n1, n2, hf, k⟩ := h
    refine ⟨_, ((pss_one (ps_ret (pe_f (c_ratio T) (takes_of rfl rfl rfl rfl) hr (by decide) rfl (pa_cons (pe_op op_add (pe_op op_mulW (pe_ix ix_tup (pv 0) pe_int (fun _ _ => rfl)) (pe_ix ix_tup (pv 1) pe_int (fun _ _ => rfl))) (pe_op op_mulW (pe_ix ix_tup (pv 1) pe_int (fun _ _ => rfl)) (pe_ix ix_tup (pv 0) pe_int (fun _ _ => rfl)))) (pa_cons (pe_op op_mulW (pe_ix ix_tup (pv 0) pe_int (fun _ _ => rfl)) (pe_ix ix_tup (pv 1) pe_int (fun _ _ => rfl))) pa_nil)))))), ?_⟩
    refine ⟨_, rfl, p1, _, _, _, rfl, rfl, upT hf h1, at0, _, rfl, p2, _, _, _, rfl, rfl, upT hf h2, at1, _, _, rfl, rfl, mulw z1 z4, ?_⟩
    refine ⟨_, rfl, p2, _, _, _, rfl, rfl, upT hf h2, at0, _, rfl, p1, _, _, _, rfl, rfl, upT hf h1, at1, _, _, rfl, rfl, mulw z3 z2, _, _, rfl, rfl, ?_⟩
    refine ⟨_, rfl, p1, _, _, _, rfl, rfl, upT hf h1, at1, _, rfl, p2, _, _, _, rfl, rfl, upT hf h2, at1, _, _, rfl, rfl, mulw z2 z4, ?_⟩
    exact ⟨F, _, _, rfl, Int.mul_ne_zero n1 n2, (z2.mul z4).mono (by decide), hf, k⟩
theorem c_times (T : Txt K mg a) : Cl P w K mg base 4 "times" P_times (sp_two K rTimes) [] :=
  T.d_times.cl sc_times (fun vs H Q E h => by obtain ⟨F, u, v, r, q, rfl, _⟩ := h; rfl) fun f cdv A outer s H vs Q E hr h => by
    obtain ⟨F, u, v, r, q, rfl, ⟨p1, rfl, h1⟩, ⟨p2, rfl, h2⟩, z1, z2, z3, z4, n1, n2, hf, k⟩ := h
    refine ⟨_, ((pss_one (ps_ret (pe_f (c_ratio T) (takes_of rfl rfl rfl rfl) hr (by decide) rfl (pa_cons (pe_op op_mulW (pe_ix ix_tup (pv 0) pe_int (fun _ _ => rfl)) (pe_ix ix_tup (pv 1) pe_int (fun _ _ => rfl))) (pa_cons (pe_op op_mulW (pe_ix ix_tup (pv 0) pe_int (fun _ _ => rfl)) (pe_ix ix_tup (pv 1) pe_int (fun _ _ => rfl))) pa_nil)))))), ?_⟩
    refine ⟨_, rfl, p1, _, _, _, rfl, rfl, upT hf h1, at0, _, rfl, p2, _, _, _, rfl, rfl, upT hf h2, at0, _, _, rfl, rfl, mulw z1 z3, ?_⟩
    refine ⟨_, rfl, p1, _, _, _, rfl, rfl, upT hf h1, at1, _, rfl, p2, _, _, _, rfl, rfl, upT hf h2, at1, _, _, rfl, rfl, mulw z2 z4, ?_⟩
    exact ⟨F, _, _, rfl, Int.mul_ne_zero n1 n2, (z2.mul z4).mono (by decide), hf, k⟩
/-- a pair that may be none of a ratio -/
def sp_is_ratio (K : PySem.W.Frag) : Sp := fun vs H Q _ => ∃ v : V, vs = [v] ∧ ((∃ t, TyX K H v t ∧ PySem.W.kitOne K t (.type "tuple") = some false ∧ Q (.bl false) H) ∨ (∃ p xs, v = .ref p ∧ SqT K H p xs ∧ xs.length ≠ 2 ∧ Q (.bl false) H) ∨
  (∃ p x y, v = .ref p ∧ SqT K H p [x, y] ∧ NoI K H x ∧ Q (.bl false) H) ∨ (∃ (p : Addr) (n : Int) (y : V), v = .ref p ∧ SqT K H p [.int n, y] ∧ NoI K H y ∧ Q (.bl false) H) ∨
  ∃ (n d : Int), Rt K H v (n, d) ∧ Q (.bl (decide (1 ≤ d) && decide (Nat.gcd n.natAbs d.natAbs = 1))) H)
theorem c_is_ratio (T : Txt K mg a) : Cl P w K mg base 2 "is_ratio" P_is_ratio (sp_is_ratio K) [] :=
  T.d_is_ratio.cl sc_is_ratio (fun vs H Q E h => by obtain ⟨v, rfl, _⟩ := h; rfl) fun f cdv A outer s H vs Q E hr h => by
    obtain ⟨v, rfl, h⟩ := h
    refine ⟨_, ((pss_cons (ps_if (pt_not (pt_val (pe_f (c_is_tuple_of T) (takes_of rfl rfl rfl rfl) hr (by decide) rfl (pa_cons (pv 0) (pa_cons pe_int pa_nil)))))
 (pss_one (ps_ret pe_bl))
 pss_nil)
 (pss_cons (ps_asg (pv 0) (pg_tup rfl (pgs_cons (pg_name (i := 1) sc_is_ratio.nd rfl (Or.inl rfl)) (pgs_cons (pg_name (i := 2) sc_is_ratio.nd rfl (Or.inl rfl)) pgs_nil))))
 (pss_one (ps_ret (pe_and (pe_f (c_is_integer T) (takes_of rfl rfl rfl rfl) hr (by decide) rfl (pa_cons (pv 1) pa_nil)) (pe_and (pe_f (c_is_integer T) (takes_of rfl rfl rfl rfl) hr (by decide) rfl (pa_cons (pv 2) pa_nil)) (pe_and (pe_cmpR op_ge (pv 2) pe_int (nomark _)) (pe_one (pe_cmpR op_eq (pe_callBfun cr_gcd (by rfl) T.gcd (pa_cons (pv 1) (pa_cons (pv 2) pa_nil))) pe_int (nomark _))))))))))), ?_⟩
    rcases h with ⟨t, ht, hk, k⟩ | ⟨p, xs, rfl, hp, hl, k⟩ | ⟨p, x, y, rfl, hp, hx, k⟩ | ⟨p, n, y, rfl, hp, hy, k⟩ | ⟨n, d, ⟨p, rfl, hp⟩, k⟩
    · exact ⟨_, rfl, _, _, rfl, .inr ⟨t, ht, hk, _, rfl, iteT k⟩⟩
    · refine ⟨_, rfl, _, _, rfl, .inl ⟨p, xs, rfl, hp, _, rfl, ?_⟩⟩
      rw [decide_eq_false (fun z => hl (by have := V.int.inj z; omega))]
      exact iteT k
    · refine ⟨_, rfl, _, _, rfl, .inl ⟨p, _, rfl, hp, true, rfl, iteF ?_⟩⟩
      refine ⟨_, rfl, p, _, rfl, hp, rfl, _, _, rfl, _, _, rfl, rfl, ?_⟩
      exact ⟨_, rfl, _, rfl, .inr ⟨hx, _, rfl, iteF k⟩⟩
    · refine ⟨_, rfl, _, _, rfl, .inl ⟨p, _, rfl, hp, true, rfl, iteF ?_⟩⟩
      refine ⟨_, rfl, p, _, rfl, hp, rfl, _, _, rfl, _, _, rfl, rfl, ?_⟩
      exact ⟨_, rfl, _, rfl, .inl ⟨_, rfl, _, rfl, iteT ⟨_, rfl, _, rfl, .inr ⟨hy, _, rfl, iteF k⟩⟩⟩⟩
    · refine ⟨_, rfl, _, _, rfl, .inl ⟨p, _, rfl, hp, true, rfl, iteF ?_⟩⟩
      refine ⟨_, rfl, p, _, rfl, hp, rfl, _, _, rfl, _, _, rfl, rfl, ?_⟩
      refine ⟨_, rfl, _, rfl, .inl ⟨_, rfl, _, rfl, iteT ⟨_, rfl, _, rfl, .inl ⟨_, rfl, _, rfl, iteT ?_⟩⟩⟩⟩
      refine ⟨_, rfl, _, _, rfl, rfl, _, rfl, ?_⟩
      cases e : decide (1 ≤ d) with
      | false => exact iteF (by rw [e] at k; exact k)
      | true =>
        refine iteT ⟨_, rfl, _, rfl, _, _, rfl, rfl, ?_⟩
        rw [e] at k
        have : decide (V.int (Nat.gcd n.natAbs d.natAbs : Nat) = V.int 1) = decide (Nat.gcd n.natAbs d.natAbs = 1) := by
          by_cases h : Nat.gcd n.natAbs d.natAbs = 1
          · simp [h]
          · rw [decide_eq_false h, decide_eq_false]
            intro z
            have := V.int.inj z
            omega
        rw [this]
        exact k
end
end K33

set_option Elab.async false
set_option linter.all false
set_option maxRecDepth 100000
set_option maxHeartbeats 4000000
namespace K33
open PySem PySem.Spec PyProof.Rows L2 Ew
/-! ### the law's bag -/
theorem _root_.Ew.Stm.touch {m : Addr → Prop} {F H F' H' : Hp} {p : Addr} {o : HO} (a : Stm m F H F' H') (hm : m p) (hf : F' p = none) : Stm m F H F' (upd H' p o) :=
  ⟨a.ff, fun b u e => by rw [upd_ne (ne_of_none e hf)]; exact a.fh b u e, fun x u n e => by rw [upd_ne (fun z => n (by rw [z]; exact hm))]; exact a.hh x u n e, a.nw⟩
def bk (la : Addr) (at_ rest mixed count : Int) : List (Key × V) := [(.inr "cells", .ref la), (.inr "at", .int at_), (.inr "rest", .int rest), (.inr "mixed", .int mixed), (.inr "count", .int count)]
def Bag (K : PySem.W.Frag) (b : Addr) (F H : Hp) : Prop := F b = none ∧ ∃ (la : Addr) (ns : List Int) (at_ rest mixed count : Int), 0 ≤ at_ ∧ ns.length ≤ 1000 ∧ SqL K F la (ns.map V.int) ∧ H b = some (.dK (bk la at_ rest mixed count))
theorem memB (K : PySem.W.Frag) (b : Addr) : Mem (fun x => x = b) (Bag K b) where
  there := fun ⟨_, _, _, _, _, _, _, _, _, _, h⟩ z => by rw [z, h]; exact fun q => nomatch q
  off := fun ⟨h, _⟩ z => by rw [z]; exact h
  put := fun ⟨h, la, ns, at_, rest, mixed, count, h1, h2, h3, h4⟩ n => ⟨h, la, ns, at_, rest, mixed, count, h1, h2, h3, by rw [upd_ne (fun z => n z.symm)]; exact h4⟩
  grow := fun ⟨h, la, ns, at_, rest, mixed, count, h1, h2, h3, h4⟩ e k => ⟨k _ rfl, la, ns, at_, rest, mixed, count, h1, h2, upL e h3, h4⟩
section
variable {H : Hp} {b la : Addr} {at_ rest mixed count n : Int}
theorem dg_c (h : H b = some (.dK (bk la at_ rest mixed count))) : DGet H b (.str "cells") (some (.ref la)) := .inl ⟨_, .inr "cells", .inl h, rfl, rfl⟩
theorem dg_a (h : H b = some (.dK (bk la at_ rest mixed count))) : DGet H b (.str "at") (some (.int at_)) := .inl ⟨_, .inr "at", .inl h, rfl, rfl⟩
theorem dg_r (h : H b = some (.dK (bk la at_ rest mixed count))) : DGet H b (.str "rest") (some (.int rest)) := .inl ⟨_, .inr "rest", .inl h, rfl, rfl⟩
theorem dg_m (h : H b = some (.dK (bk la at_ rest mixed count))) : DGet H b (.str "mixed") (some (.int mixed)) := .inl ⟨_, .inr "mixed", .inl h, rfl, rfl⟩
theorem dg_n (h : H b = some (.dK (bk la at_ rest mixed count))) : DGet H b (.str "count") (some (.int count)) := .inl ⟨_, .inr "count", .inl h, rfl, rfl⟩
theorem dp_a (h : H b = some (.dK (bk la at_ rest mixed count))) : DPut H b (.str "at") (.int n) (upd H b (.dK (bk la n rest mixed count))) := .inl ⟨_, .inr "at", h, rfl, Nat.lt_of_le_of_lt (by decide : 5 ≤ 1000) (by decide), rfl⟩
theorem dp_r (h : H b = some (.dK (bk la at_ rest mixed count))) : DPut H b (.str "rest") (.int n) (upd H b (.dK (bk la at_ n mixed count))) := .inl ⟨_, .inr "rest", h, rfl, Nat.lt_of_le_of_lt (by decide : 5 ≤ 1000) (by decide), rfl⟩
theorem dp_m (h : H b = some (.dK (bk la at_ rest mixed count))) : DPut H b (.str "mixed") (.int n) (upd H b (.dK (bk la at_ rest n count))) := .inl ⟨_, .inr "mixed", h, rfl, Nat.lt_of_le_of_lt (by decide : 5 ≤ 1000) (by decide), rfl⟩
theorem dp_n (h : H b = some (.dK (bk la at_ rest mixed count))) : DPut H b (.str "count") (.int n) (upd H b (.dK (bk la at_ rest mixed n))) := .inl ⟨_, .inr "count", h, rfl, Nat.lt_of_le_of_lt (by decide : 5 ≤ 1000) (by decide), rfl⟩
end
section
variable {P : Program} {w : World} {K : PySem.W.Frag} {mg : Str → Option Value} {base : Heap} {a : Ad}
theorem log_sz {j : Int} (h : Sz 8000 j) : j.natAbs.log2 < 9000 := h.log (by decide) (by decide)
theorem atI_int {α : Type} {xs : List α} {i : Int} {x : α} (h0 : 0 ≤ i) (h1 : i < xs.length) (h : xs[i.toNat]? = some x) : atI xs i = some x := by
  unfold atI
  unfold ixN
  rw [if_pos h0, if_pos h1]
  exact h
theorem seq_with {t u : TS} {D : Ends} {σ : L2.St} {H : Hp} (Pv : L2.St → Hp → Prop) (h1 : ∀ u', (∀ σ H, Pv σ H → u' D σ H) → tSeq t u' D σ H) (h2 : ∀ σ H, Pv σ H → u D σ H) : tSeq t u D σ H := h1 u h2
def sp__law_pick (K : PySem.W.Frag) : Sp := fun vs H Q _ => ∃ (F : Hp) (b : Addr) (many : Int), vs = [.ref b, .int many] ∧ Bag K b F H ∧ Same F H ∧ 0 < many ∧ Sz 8000 many ∧
  ∀ H' (i : Int), Stm (fun x => x = b) F H F H' → Bag K b F H' → 0 ≤ i → i < many → Q (.int i) H'
theorem c__law_pick (T : Txt K mg a) : Cl P w K mg base 1 "_law_pick" P__law_pick (sp__law_pick K) [] :=
  T.d__law_pick.cl sc__law_pick (fun vs H Q E h => by obtain ⟨F, b, many, rfl, _⟩ := h; rfl) fun f cdv A outer s H vs Q E hr h => by
    obtain ⟨F, b, many, rfl, ⟨fb, la, ns, at_, rest, mixed, count, h0, hn, hl, hb⟩, hf, hm, hz, k⟩ := h
    have hz := log_sz hz
    have ok : ∀ (x : Int), 0 ≤ x % many ∧ x % many < many := fun x => ⟨Int.emod_nonneg _ (by omega), Int.emod_lt_of_pos _ hm⟩
    refine ⟨_, ((pss_cons (ps_dput (hu_of hr) (pv 0) pe_str (pe_op op_add (pe_dget (hu_of hr) (pv 0) pe_str (fun _ _ => rfl)) pe_int) rfl)
 (pss_cons (ps_if (pt_cmpR op_gt (pe_dget (hu_of hr) (pv 0) pe_str (fun _ _ => rfl)) pe_int (nomark _))
 (pss_cons (ps_set (i := 2) sc__law_pick.nd rfl (Or.inl rfl) (pe_dget (hu_of hr) (pv 0) pe_str (fun _ _ => rfl)))
 (pss_cons (ps_dput (hu_of hr) (pv 0) pe_str (pe_op op_fdivW (pv 2) (pv 1)) rfl)
 (pss_one (ps_ret (pe_op op_mod (pe_callTy call_int1 (by rfl) T.n_int (by decide +kernel) (pa_cons (pv 2) pa_nil)) (pv 1))))))
 pss_nil)
 (pss_cons (ps_set (i := 3) sc__law_pick.nd rfl (Or.inl rfl) pe_int)
 (pss_cons (ps_if (pt_cmpR op_lt (pe_dget (hu_of hr) (pv 0) pe_str (fun _ _ => rfl)) (pe_callB call_len_seq (by rfl) T.n_len (by decide +kernel) (pa_cons (pe_dget (hu_of hr) (pv 0) pe_str (fun _ _ => rfl)) pa_nil)) (nomark _))
 (pss_cons (ps_set (i := 3) sc__law_pick.nd rfl (Or.inl rfl) (pe_ix ix_list (pe_dget (hu_of hr) (pv 0) pe_str (fun _ _ => rfl)) (pe_dget (hu_of hr) (pv 0) pe_str (fun _ _ => rfl)) (fun _ _ => rfl)))
 (pss_cons (ps_dput (hu_of hr) (pv 0) pe_str (pe_op op_add (pe_dget (hu_of hr) (pv 0) pe_str (fun _ _ => rfl)) pe_int) rfl)
 (pss_one (ps_if (pt_cmpR op_ge (pv 3) (pe_op op_pow pe_int pe_int) (nomark _))
 (pss_cons (ps_dput (hu_of hr) (pv 0) pe_str (pe_op op_fdivW (pv 3) (pv 1)) rfl)
 (pss_one (ps_ret (pe_op op_mod (pe_callTy call_int1 (by rfl) T.n_int (by decide +kernel) (pa_cons (pv 3) pa_nil)) (pv 1)))))
 pss_nil))))
 pss_nil)
 (pss_cons (ps_set (i := 2) sc__law_pick.nd rfl (Or.inl rfl) (pe_op op_mod (pe_callTy call_int1 (by rfl) T.n_int (by decide +kernel) (pa_cons (pe_op op_add (pe_op op_add (pe_op op_mul (pv 3) pe_int) (pe_op op_mul (pe_dget (hu_of hr) (pv 0) pe_str (fun _ _ => rfl)) pe_int)) (pe_op op_mul (pe_dget (hu_of hr) (pv 0) pe_str (fun _ _ => rfl)) pe_int)) pa_nil)) pe_int))
 (pss_cons (ps_set (i := 2) sc__law_pick.nd rfl (Or.inl rfl) (pe_op op_mod (pe_callTy call_int1 (by rfl) T.n_int (by decide +kernel) (pa_cons (pe_op op_add (pe_op op_mul (pv 2) pe_int) pe_int) pa_nil)) pe_int))
 (pss_cons (ps_dput (hu_of hr) (pv 0) pe_str (pe_op op_mod (pe_callTy call_int1 (by rfl) T.n_int (by decide +kernel) (pa_cons (pv 2) pa_nil)) pe_int) rfl)
 (pss_one (ps_ret (pe_op op_mod (pe_callTy call_int1 (by rfl) T.n_int (by decide +kernel) (pa_cons (pe_op op_fdiv (pv 2) pe_int) pa_nil)) (pv 1)))))))))))), ?_⟩
    refine ⟨_, rfl, b, _, rfl, dg_n hb, _, _, rfl, rfl, _, rfl, b, _, rfl, dp_n hb, ?_⟩
    have s1 : Stm (fun x => x = b) F H F (upd H b (.dK (bk la at_ rest mixed (count + 1)))) := Stm.touch (Stm.refl hf) rfl fb
    generalize hH1 : upd H b (.dK (bk la at_ rest mixed (count + 1))) = H1 at s1
    have hb1 : H1 b = some (.dK (bk la at_ rest mixed (count + 1))) := by rw [← hH1]; exact upd_same
    refine ⟨_, rfl, b, _, rfl, dg_r hb1, _, _, rfl, rfl, _, rfl, ?_⟩
    refine ite2 (fun e => ?_) (fun e => ?_)
    · refine ⟨_, rfl, b, _, rfl, dg_r hb1, ?_⟩
      refine ⟨_, rfl, _, rfl, _, _, rfl, rfl, ⟨hm, hz⟩, _, rfl, b, _, rfl, dp_r hb1, ?_⟩
      refine ⟨_, rfl, .inl ⟨_, rfl, _, rfl, _, _, rfl, rfl, hm, ?_⟩⟩
      exact k _ _ (s1.touch rfl fb) ⟨fb, la, ns, at_, _, mixed, _, h0, hn, hl, upd_same⟩ (ok _).1 (ok _).2
    · refine seq_with (fun σ2 H2 => σ2 = L2.start N__law_pick [.ref b, .int many] ∧ H1 = H2) (fun u hu => hu _ _ ⟨rfl, rfl⟩) ?_
      rintro _ _ ⟨rfl, rfl⟩
      refine seq_with (fun σ2 H2 => σ2 = [some (.ref b), some (.int many), none, some (.int 0)] ∧ H1 = H2) (fun u hu => hu _ _ ⟨rfl, rfl⟩) ?_
      rintro _ _ ⟨rfl, rfl⟩
      refine seq_with (fun σ2 H2 => ∃ cell at2, σ2 = [some (.ref b), some (.int many), none, some (.int cell)] ∧ Stm (fun x => x = b) F H F H2 ∧ 0 ≤ at2 ∧ H2 b = some (.dK (bk la at2 rest mixed (count + 1)))) (fun u hu => ?_) ?_
      · refine ⟨_, rfl, b, _, rfl, dg_a hb1, _, rfl, b, _, rfl, dg_c hb1, la, _, rfl, .inl (upL s1.fh hl), _, _, rfl, rfl, _, rfl, ?_⟩
        refine ite2 (fun e2 => ?_) (fun e2 => ?_)
        · have lt : at_.toNat < ns.length := by
            have := of_decide_eq_true e2
            rw [List.length_map] at this
            omega
          refine ⟨_, rfl, b, _, rfl, dg_c hb1, _, rfl, b, _, rfl, dg_a hb1, la, _, _, .int ns[at_.toNat], rfl, rfl, upL s1.fh hl, ?_, ?_⟩
          · exact atI_int h0 (by rw [List.length_map]; omega) (by rw [List.getElem?_map, List.getElem?_eq_getElem lt]; rfl)
          refine ⟨_, rfl, b, _, rfl, dg_a hb1, _, _, rfl, rfl, _, rfl, b, _, rfl, dp_a hb1, ?_⟩
          have s2 := s1.touch (p := b) (o := .dK (bk la (at_ + 1) rest mixed (count + 1))) rfl fb
          generalize hH2 : upd _ b (.dK (bk la (at_ + 1) rest mixed (count + 1))) = H2 at s2
          have hb2 : H2 b = some (.dK (bk la (at_ + 1) rest mixed (count + 1))) := by rw [← hH2]; exact upd_same
          refine ⟨_, rfl, _, _, rfl, rfl, ⟨by decide, by decide, by decide⟩, _, _, rfl, rfl, _, rfl, ?_⟩
          refine ite2 (fun e => ?_) (fun e => ?_)
          · refine ⟨_, rfl, _, rfl, _, _, rfl, rfl, ⟨hm, hz⟩, _, rfl, b, _, rfl, dp_r hb2, ?_⟩
            refine ⟨_, rfl, .inl ⟨_, rfl, _, rfl, _, _, rfl, rfl, hm, ?_⟩⟩
            exact k _ _ (s2.touch rfl fb) ⟨fb, la, ns, _, _, mixed, _, by omega, hn, hl, upd_same⟩ (ok _).1 (ok _).2
          · exact hu _ _ ⟨_, _, rfl, s2, by omega, hb2⟩
        · exact hu _ _ ⟨_, _, rfl, s1, h0, hb1⟩
      · rintro _ H2 ⟨cell, at2, rfl, s2, h2, hb2⟩
        have cm : ∀ i j : Int, -(2 ^ 64) < j → j < 2 ^ 64 → CMul i j := fun i j h1 h2 => .inr ⟨h1, h2⟩
        refine ⟨_, rfl, _, _, rfl, rfl, cm _ _ (by decide) (by decide), _, rfl, b, _, rfl, dg_m hb2, _, _, rfl, rfl, cm _ _ (by decide) (by decide), _, _, rfl, rfl, _, rfl, b, _, rfl, dg_n hb2, _, _, rfl, rfl, cm _ _ (by decide) (by decide), _, _, rfl, rfl, .inl ⟨_, rfl, _, _, rfl, rfl, (by decide : (0 : Int) < 2147483647), ?_⟩⟩
        refine ⟨_, rfl, _, _, rfl, rfl, cm _ _ (by decide) (by decide), _, _, rfl, rfl, .inl ⟨_, rfl, _, _, rfl, rfl, (by decide : (0 : Int) < 2147483647), ?_⟩⟩
        refine ⟨_, rfl, .inl ⟨_, rfl, _, _, rfl, rfl, (by decide : (0 : Int) < 1000003), _, rfl, b, _, rfl, dp_m hb2, ?_⟩⟩
        refine ⟨_, rfl, _, _, rfl, rfl, ⟨by decide, by decide⟩, .inl ⟨_, rfl, _, rfl, _, _, rfl, rfl, hm, ?_⟩⟩
        exact k _ _ (s2.touch rfl fb) ⟨fb, la, ns, _, _, _, _, h2, hn, hl, upd_same⟩ (ok _).1 (ok _).2
end
end K33

set_option Elab.async false
set_option linter.all false
set_option maxRecDepth 100000
set_option maxHeartbeats 4000000
namespace K33
open PySem PySem.Spec PyProof.Rows L2 Ew
abbrev Sb (b : Addr) := Stm (fun x => x = b)
section
variable {P : Program} {w : World} {K : PySem.W.Frag} {mg : Str → Option Value} {base : Heap} {a : Ad}
/-- what a choice is made of -/
def Things (K : PySem.W.Frag) (F H : Hp) (b : Addr) (u : V) (xs : List V) : Prop := (∃ p, u = .ref p ∧ SqL K F p xs) ∨ (∃ p, u = .ref p ∧ p ≠ b ∧ H p = some (.lst xs)) ∨ (∃ z : Str, u = .str z ∧ z.length ≤ sizeLine ∧ xs = z.cps.toList.map fun c => V.str ⟨#[c]⟩) ∨ ∃ p, u = .ref p ∧ ∀ F' H', Sb b F H F' H' → SqT K H' p xs
theorem sz_len {n : Nat} (h : n ≤ 1000) : Sz 8000 (n : Int) := by
  unfold Sz
  have : (2 : Nat) ^ 10 ≤ 2 ^ 8000 := Nat.pow_le_pow_right (by decide) (by decide)
  have e : (2 : Nat) ^ 10 = 1024 := by decide
  omega
def sp__law_choice (K : PySem.W.Frag) : Sp := fun vs H Q _ => ∃ (F : Hp) (b : Addr) (u : V) (xs : List V), vs = [.ref b, u] ∧ Things K F H b u xs ∧ xs ≠ [] ∧ xs.length ≤ 1000 ∧ Bag K b F H ∧ Same F H ∧
  ∀ H' x (i : Nat), Sb b F H F H' → Bag K b F H' → xs[i]? = some x → Q x H'
theorem c__law_choice (T : Txt K mg a) : Cl P w K mg base 2 "_law_choice" P__law_choice (sp__law_choice K) [] :=
  T.d__law_choice.cl sc__law_choice (fun vs H Q E h => by obtain ⟨F, b, u, xs, rfl, _⟩ := h; rfl) fun f cdv A outer s H vs Q E hr h => by
    obtain ⟨F, b, u, xs, rfl, ht, h0, hl, hB, hf, k⟩ := h
    refine ⟨_, ((pss_one (ps_ret (pe_ix ix_seq (pv 1) (pe_f (c__law_pick T) (takes_of rfl rfl rfl rfl) hr (by decide) rfl (pa_cons (pv 0) (pa_cons (pe_callB (call_len_seq.or call_len_str) (by rfl) T.n_len (by decide +kernel) (pa_cons (pv 1) pa_nil)) pa_nil))) (fun _ _ => rfl))))), ?_⟩
    have l0 : 0 < xs.length := List.length_pos_iff.mpr h0
    have get : ∀ (i : Int) (h1 : 0 ≤ i) (h2 : i < (xs.length : Int)), atI xs i = some (xs[i.toNat]'((Int.toNat_lt h1).mpr h2)) := fun i h1 h2 => atI_int h1 h2 (List.getElem?_eq_getElem _)
    have fin : ∀ H' (i : Int) (h1 : 0 ≤ i) (h2 : i < (xs.length : Int)), Sb b F H F H' → Bag K b F H' → Q (xs[i.toNat]'((Int.toNat_lt h1).mpr h2)) H' := fun H' i h1 h2 s1 B1 => k H' _ i.toNat s1 B1 (List.getElem?_eq_getElem _)
    rcases ht with ⟨p, rfl, hp⟩ | ⟨p, rfl, nb, hp⟩ | ⟨z, rfl, hz, rfl⟩ | ⟨p, rfl, hp⟩
    · refine ⟨_, rfl, _, rfl, _, rfl, .inl ⟨p, xs, rfl, .inl (upL hf hp), F, b, _, rfl, hB, hf, by omega, sz_len hl, fun H' i s1 B1 h1 h2 => ?_⟩⟩
      exact .inl ⟨p, xs, i, _, rfl, rfl, upL s1.fh hp, get i h1 h2, fin H' i h1 h2 s1 B1⟩
    · refine ⟨_, rfl, _, rfl, _, rfl, .inl ⟨p, xs, rfl, .inl (SqL.of hp), F, b, _, rfl, hB, hf, by omega, sz_len hl, fun H' i s1 B1 h1 h2 => ?_⟩⟩
      exact .inl ⟨p, xs, i, _, rfl, rfl, SqL.of (s1.hh p _ nb hp), get i h1 h2, fin H' i h1 h2 s1 B1⟩
    · have zl : z.length = z.cps.size := rfl
      have xl : (z.cps.toList.map fun c => V.str ⟨#[c]⟩).length = z.cps.size := by rw [List.length_map, Array.length_toList]
      rw [xl] at l0 hl
      refine ⟨_, rfl, _, rfl, _, rfl, .inr ⟨z, rfl, hz, F, b, _, rfl, hB, hf, by rw [zl]; omega, sz_len (by rw [zl]; exact hl), fun H' i s1 B1 h1 h2 => ?_⟩⟩
      rw [zl] at h2
      have lt : i.toNat < z.cps.toList.length := by rw [Array.length_toList]; omega
      refine .inr (.inr ⟨z, i, z.cps.toList[i.toNat]'lt, rfl, rfl, hz, atI_int h1 (by rw [Array.length_toList]; exact h2) (List.getElem?_eq_getElem _), ?_⟩)
      have := fin H' i h1 (by rw [xl]; exact h2) s1 B1
      rw [List.getElem_map] at this
      exact this
    · refine ⟨_, rfl, _, rfl, _, rfl, .inl ⟨p, xs, rfl, .inr (hp F H (Stm.refl hf)), F, b, _, rfl, hB, hf, by omega, sz_len hl, fun H' i s1 B1 h1 h2 => ?_⟩⟩
      exact .inr (.inl ⟨p, xs, i, _, rfl, rfl, hp F H' s1, get i h1 h2, fin H' i h1 h2 s1 B1⟩)
theorem c__law_integer (T : Txt K mg a) : Cl P w K mg base 1 "_law_integer" P__law_integer (sp_is_integer K) [] :=
  T.d__law_integer.cl sc__law_integer (fun vs H Q E h => by obtain ⟨i, rfl, _⟩ := h; rfl) fun f cdv A outer s H vs Q E hr h => by
    obtain ⟨v, rfl, h⟩ := h
    refine ⟨_, ((pss_one (ps_ret (pe_and (pe_callB call_isi (by rfl) T.n_isinstance (by decide +kernel) (pa_cons (pv 0) (pa_cons (pe_bltn (v := .ty "int") (by rfl) T.n_int (by decide +kernel) rfl) pa_nil))) (pe_one (pe_not (pe_callB call_isi (by rfl) T.n_isinstance (by decide +kernel) (pa_cons (pv 0) (pa_cons (pe_bltn (v := .ty "bool") (by rfl) T.n_bool (by decide +kernel) rfl) pa_nil))))))))), ?_⟩
    rcases h with ⟨i, rfl, k⟩ | ⟨⟨b, rfl⟩ | ⟨t, ht, hk⟩, k⟩
    · refine ⟨_, rfl, _, _, _, _, true, rfl, .ty _, .base (.int _), kit_ty (by decide +kernel), true, rfl, iteT ?_⟩
      exact ⟨_, rfl, _, _, _, _, false, rfl, .ty _, .base (.int _), kit_ty (by decide +kernel), false, rfl, k⟩
    · refine ⟨_, rfl, _, _, _, _, true, rfl, .ty _, .base (.bl _), kit_ty (by decide +kernel), true, rfl, iteT ?_⟩
      exact ⟨_, rfl, _, _, _, _, true, rfl, .ty _, .base (.bl _), kit_ty (by decide +kernel), true, rfl, k⟩
    · exact ⟨_, rfl, _, _, _, _, false, rfl, .ty _, ht, hk, false, rfl, iteF k⟩
def mu3 (σ : L2.St) : Nat := match σ[3]? with | some (some (V.int y)) => y.toNat | _ => 0
def sp__law_gcd : Sp := fun vs H Q _ => ∃ n d : Int, vs = [.int n, .int d] ∧ Q (.int (Nat.gcd n.natAbs d.natAbs : Nat)) H
theorem c__law_gcd (T : Txt K mg a) : Cl P w K mg base 1 "_law_gcd" P__law_gcd sp__law_gcd [] :=
  T.d__law_gcd.cl sc__law_gcd (fun vs H Q E h => by obtain ⟨n, d, rfl, _⟩ := h; rfl) fun f cdv A outer s H vs Q E hr h => by
    obtain ⟨n, d, rfl, k⟩ := h
    refine ⟨_, ((pss_cons (ps_set (i := 2) sc__law_gcd.nd rfl (Or.inl rfl) (pe_callB call_abs (by rfl) T.n_abs (by decide +kernel) (pa_cons (pv 0) pa_nil)))
 (pss_cons (ps_set (i := 3) sc__law_gcd.nd rfl (Or.inl rfl) (pe_callB call_abs (by rfl) T.n_abs (by decide +kernel) (pa_cons (pv 1) pa_nil)))
 (pss_cons (ps_while (passes_of rfl) (pt_cmpR op_gt (pv 3) pe_int (nomark _))
 (pss_cons (ps_set (i := 4) sc__law_gcd.nd rfl (Or.inl rfl) (pe_op op_mod (pe_callTy call_int1 (by rfl) T.n_int (by decide +kernel) (pa_cons (pv 2) pa_nil)) (pv 3)))
 (pss_cons (ps_set (i := 2) sc__law_gcd.nd rfl (Or.inl rfl) (pv 3))
 (pss_one (ps_set (i := 3) sc__law_gcd.nd rfl (Or.inl rfl) (pv 4))))))
 (pss_one (ps_ret (pv 2))))))), ?_⟩
    have ab : ∀ i : Int, (if i < 0 then -i else i) = (i.natAbs : Int) := fun i => by split <;> omega
    refine ⟨_, rfl, _, rfl, ?_⟩
    rw [ab]
    refine ⟨_, rfl, _, rfl, ?_⟩
    rw [ab]
    refine while_by (fun σ' H' => H' = H ∧ ∃ (x y : Nat) (r : Option V), σ' = [some (.int n), some (.int d), some (.int x), some (.int y), r] ∧ Nat.gcd x y = Nat.gcd n.natAbs d.natAbs)
      (fun σ' _ => mu3 σ') ⟨rfl, _, _, none, rfl, rfl⟩ ?_ ?_
    · rintro _ _ ⟨rfl, x, y, r, rfl, hg⟩
      refine ⟨_, rfl, _, _, rfl, rfl, _, rfl, ?_⟩
      refine ite2 (fun e => ?_) (fun e => ?_)
      · have hy : 0 < y := by have := of_decide_eq_true e; omega
        refine ⟨_, rfl, .inl ⟨_, rfl, _, rfl, _, _, rfl, rfl, (by omega : (0 : Int) < y), ?_⟩⟩
        refine ⟨_, rfl, ?_⟩
        refine ⟨_, rfl, ⟨rfl, y, x % y, some (.int ((x % y : Nat) : Int)), by rw [Int.natCast_emod]; rfl, ?_⟩, ?_⟩
        · rw [← hg, Nat.gcd_comm y, Nat.gcd_comm x y]
          exact (Nat.gcd_rec y x).symm
        · show ((x : Int) % (y : Int)).toNat < ((y : Int)).toNat
          have := Nat.mod_lt x hy
          rw [← Int.natCast_emod]
          omega
      · have hy : y = 0 := by
          rcases Nat.eq_zero_or_pos y with h | h
          · exact h
          · exact absurd (decide_eq_true (by omega)) e
        subst hy
        rw [Nat.gcd_zero_right] at hg
        exact ⟨_, rfl, by rw [hg]; exact k⟩
    · rintro σ' H' Q1 Q2 q h
      obtain ⟨v, e1, i, j, e2, e3, c, e4, q'⟩ := h
      exact ⟨v, e1, i, j, e2, e3, c, e4, q _ _ q'⟩
def sp_rat (K : PySem.W.Frag) : Sp := sp_ratio K
theorem com_pos {n d : Int} (h : 0 < d) : com n d = ((Nat.gcd n.natAbs d.natAbs : Nat) : Int) := by unfold com; rw [if_neg (by omega)]
theorem com_neg {n d : Int} (h0 : d ≠ 0) (h : ¬ 0 < d) : com n d = 0 - ((Nat.gcd n.natAbs d.natAbs : Nat) : Int) := by unfold com; rw [if_pos (by omega)]; omega
theorem c__law_ratio (T : Txt K mg a) : Cl P w K mg base 2 "_law_ratio" P__law_ratio (sp_ratio K) [] :=
  T.d__law_ratio.cl sc__law_ratio (fun vs H Q E h => by obtain ⟨F, n, d, rfl, _⟩ := h; rfl) fun f cdv A outer s H vs Q E hr h => by
    obtain ⟨F, n, d, rfl, h0, hz, hf, k⟩ := h
    refine ⟨_, ((pss_cons (ps_set (i := 2) sc__law_ratio.nd rfl (Or.inl rfl) (pe_ifExp (pt_cmpR op_gt (pv 1) pe_int (nomark _)) (pe_f (c__law_gcd T) (takes_of rfl rfl rfl rfl) hr (by decide) rfl (pa_cons (pv 0) (pa_cons (pv 1) pa_nil))) (pe_op op_sub pe_int (pe_f (c__law_gcd T) (takes_of rfl rfl rfl rfl) hr (by decide) rfl (pa_cons (pv 0) (pa_cons (pv 1) pa_nil))))))
 (pss_one (ps_ret (pe_tup (pa_cons (pe_op op_fdivX (pv 0) (pv 2)) (pa_cons (pe_op op_fdivX (pv 1) (pv 2)) pa_nil))))))), ?_⟩
    have cd : ∀ i : Int, CDivX i (com n d) := fun i => ⟨com_ne h0, (com_sz h0 hz).log (by decide) (by decide)⟩
    have fin : ∀ c : Int, c = com n d → (tRet (tTup (tCons (tOp (rI CDivX fun i j => .int (i.fdiv j)) (tVar 0) (tVar 2)) (tCons (tOp (rI CDivX fun i j => .int (i.fdiv j)) (tVar 1) (tVar 2)) tNil)))) { nx := fun _ H' => Q .non H', rt := Q } [some (.int n), some (.int d), some (.int c)] H := by
      rintro c rfl
      refine ⟨_, rfl, _, rfl, _, _, rfl, rfl, cd _, _, rfl, _, rfl, _, _, rfl, rfl, cd _, by show 2 ≤ sizeLine; decide, fun p hp => ?_⟩
      exact k _ _ _ (stp_new hf hp) ⟨p, rfl, sq_new⟩
    refine ⟨_, rfl, _, _, rfl, rfl, _, rfl, ?_⟩
    refine ite2 (fun e => ?_) (fun e => ?_)
    · exact ⟨_, rfl, _, rfl, _, _, rfl, fin _ (com_pos (of_decide_eq_true e)).symm⟩
    · exact ⟨_, rfl, _, rfl, _, _, rfl, _, _, rfl, rfl, fin _ (com_neg h0 fun z => e (decide_eq_true z)).symm⟩
theorem c__law_plus (T : Txt K mg a) : Cl P w K mg base 3 "_law_plus" P__law_plus (sp_two K rPlus) [] :=
  T.d__law_plus.cl sc__law_plus (fun vs H Q E h => by obtain ⟨F, u, v, r, q, rfl, _⟩ := h; rfl) fun f cdv A outer s H vs Q E hr h => by
    obtain ⟨F, u, v, r, q, rfl, ⟨p1, rfl, h1⟩, ⟨p2, rfl, h2⟩, z1, z2, z3, z4, n1, n2, hf, k⟩ := h
    refine ⟨_, ((pss_one (ps_ret (pe_f (c__law_ratio T) (takes_of rfl rfl rfl rfl) hr (by decide) rfl (pa_cons (pe_op op_add (pe_op op_mulW (pe_ix ix_tup (pv 0) pe_int (fun _ _ => rfl)) (pe_ix ix_tup (pv 1) pe_int (fun _ _ => rfl))) (pe_op op_mulW (pe_ix ix_tup (pv 1) pe_int (fun _ _ => rfl)) (pe_ix ix_tup (pv 0) pe_int (fun _ _ => rfl)))) (pa_cons (pe_op op_mulW (pe_ix ix_tup (pv 0) pe_int (fun _ _ => rfl)) (pe_ix ix_tup (pv 1) pe_int (fun _ _ => rfl))) pa_nil)))))), ?_⟩
    refine ⟨_, rfl, p1, _, _, _, rfl, rfl, upT hf h1, at0, _, rfl, p2, _, _, _, rfl, rfl, upT hf h2, at1, _, _, rfl, rfl, mulw z1 z4, ?_⟩
    refine ⟨_, rfl, p2, _, _, _, rfl, rfl, upT hf h2, at0, _, rfl, p1, _, _, _, rfl, rfl, upT hf h1, at1, _, _, rfl, rfl, mulw z3 z2, _, _, rfl, rfl, ?_⟩
    refine ⟨_, rfl, p1, _, _, _, rfl, rfl, upT hf h1, at1, _, rfl, p2, _, _, _, rfl, rfl, upT hf h2, at1, _, _, rfl, rfl, mulw z2 z4, ?_⟩
    exact ⟨F, _, _, rfl, Int.mul_ne_zero n1 n2, (z2.mul z4).mono (by decide), hf, k⟩
theorem c__law_times (T : Txt K mg a) : Cl P w K mg base 3 "_law_times" P__law_times (sp_two K rTimes) [] :=
  T.d__law_times.cl sc__law_times (fun vs H Q E h => by obtain ⟨F, u, v, r, q, rfl, _⟩ := h; rfl) fun f cdv A outer s H vs Q E hr h => by
    obtain ⟨F, u, v, r, q, rfl, ⟨p1, rfl, h1⟩, ⟨p2, rfl, h2⟩, z1, z2, z3, z4, n1, n2, hf, k⟩ := h
    refine ⟨_, ((pss_one (ps_ret (pe_f (c__law_ratio T) (takes_of rfl rfl rfl rfl) hr (by decide) rfl (pa_cons (pe_op op_mulW (pe_ix ix_tup (pv 0) pe_int (fun _ _ => rfl)) (pe_ix ix_tup (pv 1) pe_int (fun _ _ => rfl))) (pa_cons (pe_op op_mulW (pe_ix ix_tup (pv 0) pe_int (fun _ _ => rfl)) (pe_ix ix_tup (pv 1) pe_int (fun _ _ => rfl))) pa_nil)))))), ?_⟩
    refine ⟨_, rfl, p1, _, _, _, rfl, rfl, upT hf h1, at0, _, rfl, p2, _, _, _, rfl, rfl, upT hf h2, at0, _, _, rfl, rfl, mulw z1 z3, ?_⟩
    refine ⟨_, rfl, p1, _, _, _, rfl, rfl, upT hf h1, at1, _, rfl, p2, _, _, _, rfl, rfl, upT hf h2, at1, _, _, rfl, rfl, mulw z2 z4, ?_⟩
    exact ⟨F, _, _, rfl, Int.mul_ne_zero n1 n2, (z2.mul z4).mono (by decide), hf, k⟩
/-- a ratio in lowest terms -/
def Low (r : Int × Int) : Prop := 1 ≤ r.2 ∧ Nat.gcd r.1.natAbs r.2.natAbs = 1
theorem low_rat {n d : Int} (h : d ≠ 0) : Low (rat n d) := ⟨rat_pos h, rat_cop h⟩
end
section
variable {K : PySem.W.Frag} {b p : Addr} {F H F' H' F2 H2 : Hp} {o : HO}
theorem newB (s : Sb b F H F' H') (B : Bag K b F' H') (hp : H' p = none) : Sb b F H (upd F' p o) (upd H' p o) ∧ Bag K b (upd F' p o) (upd H' p o) := by
  have nb : ¬ p = b := fun z => (memB K b).there B z hp
  have h0 : H p = none := s.fresh (fun x z => (memB K b).there B z) hp
  refine ⟨s.new hp h0, (memB K b).grow ((memB K b).put B nb) (same_new (s.fh.free hp)) fun x z => ?_⟩
  rw [upd_ne (fun q => nb (by rw [← q]; exact z))]
  exact (memB K b).off B z
theorem seqB (s : Sb b F H F' H') (B : Bag K b F' H') (s2 : Sb b F' H' F2 H2) : Sb b F H F2 H2 := s.then (memB K b) B s2
theorem pureB (s : Sb b F H F' H') (B : Bag K b F' H') (s2 : Stp F' H' F2 H2) : Sb b F H F2 H2 ∧ Bag K b F2 H2 := by
  refine ⟨seqB s B s2.any, ?_⟩
  obtain ⟨h, la, ns, at_, rest, mixed, count, h1, h2, h3, h4⟩ := B
  exact ⟨s2.nw b h (by rw [h4]; exact fun q => nomatch q), la, ns, at_, rest, mixed, count, h1, h2, upL s2.ff h3, s2.same b _ h4⟩
end
theorem sz_of {b : Nat} {n : Int} (k : Nat) (h : n.natAbs < 2 ^ k) (hk : k ≤ b) : Sz b n := Nat.lt_of_lt_of_le h (Nat.pow_le_pow_right (by decide) hk)
end K33

set_option Elab.async false
set_option linter.all false
set_option maxRecDepth 100000
set_option maxHeartbeats 4000000
namespace K33
open PySem PySem.Spec PyProof.Rows L2 Ew
/-! ### spots -/
abbrev Spot := Str × Int × Int
def spV (p : Spot) : List V := [.str p.1, .int p.2.1, .int p.2.2]
def spK (p : Spot) : List Key := [.inr p.1, .inl p.2.1, .inl p.2.2]
theorem spKV (p : Spot) : (spK p).map kV = spV p := rfl
theorem spK_inj {p q : Spot} (h : spK p = spK q) : p = q := by
  obtain ⟨a, b, c⟩ := p
  obtain ⟨a', b', c'⟩ := q
  simp only [spK, List.cons.injEq, Sum.inr.injEq, Sum.inl.injEq, and_true] at h
  obtain ⟨h1, h2, h3⟩ := h
  subst h1 h2 h3
  rfl
/-- a spot stands at v, a tuple of the def's or the law's own -/
def Spt (F : Hp) (v : V) (p : Spot) : Prop := ∃ q, v = .ref q ∧ F q = some (.tup (spV p))
theorem Spt.up {F F' : Hp} {v : V} {p : Spot} (h : Spt F v p) (e : Same F F') : Spt F' v p := by obtain ⟨q, h1, h2⟩ := h; exact ⟨q, h1, e q _ h2⟩
def spD (p : Spot) : PyData := .tuple [.str p.1, .int p.2.1, .int p.2.2]
theorem dp_sp {K : PySem.W.Frag} {H : Hp} {q : Addr} {p : Spot} (h : SqT K H q (spV p)) : Dp K H (.ref q) (spD p) := .tup h (.cons (.str _) (.cons (.int _) (.cons (.int _) .nil)))
theorem Spt.dp {K : PySem.W.Frag} {F : Hp} {v : V} {p : Spot} (h : Spt F v p) : Dp K F v (spD p) := by obtain ⟨q, rfl, h2⟩ := h; exact dp_sp (SqT.of h2)
theorem eqv_sp (p q : Spot) : PyData.eqv (spD p) (spD q) = decide (p = q) := by
  obtain ⟨a, b, c⟩ := p
  obtain ⟨a', b', c'⟩ := q
  simp only [spD, PyData.eqv, PyData.eqvAll]
  by_cases h1 : a = a' <;> by_cases h2 : b = b' <;> by_cases h3 : c = c' <;> simp [h1, h2, h3]
theorem fl_sp {p : Spot} (h : PyData.strOk p.1 = true) : Fl 1 (spD p) := Fl.tup (.cons (.str h) (.cons .int (.cons .int .nil)))
/-- what kind a thing is of, as far as it is looked at -/
inductive Kd (K : PySem.W.Frag) (F : Hp) : V → String → Prop
  | non : Kd K F .non "NoneType"
  | bl (b : Bool) : Kd K F (.bl b) "bool"
  | int (i : Int) : Kd K F (.int i) "int"
  | str (z : Str) : Kd K F (.str z) "str"
  | lst {p : Addr} {xs : List V} (h : SqL K F p xs) : Kd K F (.ref p) "list"
  | tup {p : Addr} {xs : List V} (h : SqT K F p xs) : Kd K F (.ref p) "tuple"
section
variable {K : PySem.W.Frag} {F F' : Hp} {v : V} {T : String}
theorem Kd.up (h : Kd K F v T) (e : Same F F') : Kd K F' v T := by
  cases h with
  | non => exact .non
  | bl b => exact .bl b
  | int i => exact .int i
  | str z => exact .str z
  | lst h => exact .lst (upL e h)
  | tup h => exact .tup (upT e h)
theorem Kd.ty (h : Kd K F v T) : TyX K F v (.type T) := by
  cases h with
  | non => exact .base .non
  | bl b => exact .base (.bl b)
  | int i => exact .base (.int i)
  | str z => exact .base (.str z)
  | lst h => exact ty_sqL h
  | tup h => exact ty_sqT h
theorem Kd.kit {U : String} (h : Kd K F v T) (hU : U = "str" ∨ U = "tuple") (n : T ≠ U) : PySem.W.kitOne K (.type T) (.type U) = some false := by
  rcases hU with rfl | rfl <;> cases h <;> first
    | exact absurd rfl n
    | exact kit_ty (by decide +kernel)
theorem Kd.noI (h : Kd K F v T) (n : T ≠ "int") : NoI K F v := by
  cases h with
  | bl b => exact .inl ⟨b, rfl⟩
  | int i => exact absurd rfl n
  | non => exact .inr ⟨_, .base .non, kit_ty (by decide +kernel)⟩
  | str z => exact .inr ⟨_, .base (.str z), kit_ty (by decide +kernel)⟩
  | lst h => exact .inr ⟨_, ty_sqL h, kit_ty (by decide +kernel)⟩
  | tup h => exact .inr ⟨_, ty_sqT h, kit_ty (by decide +kernel)⟩
end
/-- a thing that is no spot -/
inductive NotSp (K : PySem.W.Frag) (H : Hp) : V → Prop
  | nt {v : V} {T : String} (k : Kd K H v T) (n : T ≠ "tuple") : NotSp K H v
  | len {p : Addr} {xs : List V} (h : SqT K H p xs) (l : xs.length ≠ 3) : NotSp K H (.ref p)
  | name {p : Addr} {x y z : V} {T : String} (h : SqT K H p [x, y, z]) (k : Kd K H x T) (n : T ≠ "str") : NotSp K H (.ref p)
  | st {p : Addr} {n : Str} {y z : V} {T : String} (h : SqT K H p [.str n, y, z]) (k : Kd K H y T) (n : T ≠ "int") : NotSp K H (.ref p)
  | day {p : Addr} {n : Str} {s : Int} {z : V} {T : String} (h : SqT K H p [.str n, .int s, z]) (k : Kd K H z T) (n : T ≠ "int") : NotSp K H (.ref p)
theorem NotSp.up {K : PySem.W.Frag} {F F' : Hp} {v : V} (h : NotSp K F v) (e : Same F F') : NotSp K F' v := by
  cases h with
  | nt k n => exact .nt (k.up e) n
  | len h l => exact .len (upT e h) l
  | name h k n => exact .name (upT e h) (k.up e) n
  | st h k n => exact .st (upT e h) (k.up e) n
  | day h k n => exact .day (upT e h) (k.up e) n
section
variable {P : Program} {w : World} {K : PySem.W.Frag} {mg : Str → Option Value} {base : Heap} {a : Ad}
def sp_is_spot (K : PySem.W.Frag) : Sp := fun vs H Q _ => ∃ v, vs = [v] ∧ ((∃ q p, v = .ref q ∧ SqT K H q (spV p) ∧ Q (.bl true) H) ∨ (NotSp K H v ∧ Q (.bl false) H))
theorem c_is_spot (T : Txt K mg a) : Cl P w K mg base 2 "is_spot" P_is_spot (sp_is_spot K) [] :=
  T.d_is_spot.cl sc_is_spot (fun vs H Q E h => by obtain ⟨v, rfl, _⟩ := h; rfl) fun f cdv A outer s H vs Q E hr h => by
    obtain ⟨v, rfl, h⟩ := h
    refine ⟨_, ((pss_cons (ps_if (pt_not (pt_val (pe_f (c_is_tuple_of T) (takes_of rfl rfl rfl rfl) hr (by decide) rfl (pa_cons (pv 0) (pa_cons pe_int pa_nil)))))
 (pss_one (ps_ret pe_bl))
 pss_nil)
 (pss_cons (ps_asg (pv 0) (pg_tup rfl (pgs_cons (pg_name (i := 1) sc_is_spot.nd rfl (Or.inl rfl)) (pgs_cons (pg_name (i := 2) sc_is_spot.nd rfl (Or.inl rfl)) (pgs_cons (pg_name (i := 3) sc_is_spot.nd rfl (Or.inl rfl)) pgs_nil)))))
 (pss_one (ps_ret (pe_and (pe_callB call_isi (by rfl) T.n_isinstance (by decide +kernel) (pa_cons (pv 1) (pa_cons (pe_bltn (v := .ty "str") (by rfl) T.n_str (by decide +kernel) rfl) pa_nil))) (pe_and (pe_f (c_is_integer T) (takes_of rfl rfl rfl rfl) hr (by decide) rfl (pa_cons (pv 2) pa_nil)) (pe_one (pe_f (c_is_integer T) (takes_of rfl rfl rfl rfl) hr (by decide) rfl (pa_cons (pv 3) pa_nil)))))))))), ?_⟩
    rcases h with ⟨q, p, rfl, hp, k⟩ | ⟨n, k⟩
    · refine ⟨_, rfl, _, _, rfl, .inl ⟨q, _, rfl, hp, true, rfl, iteF ?_⟩⟩
      refine ⟨_, rfl, q, _, rfl, hp, rfl, _, _, rfl, _, _, rfl, _, _, rfl, rfl, ?_⟩
      refine ⟨_, rfl, _, _, _, _, true, rfl, .ty _, .base (.str _), kit_ty (by decide +kernel), true, rfl, iteT ?_⟩
      exact ⟨_, rfl, _, rfl, .inl ⟨_, rfl, _, rfl, iteT ⟨_, rfl, _, rfl, .inl ⟨_, rfl, k⟩⟩⟩⟩
    cases n with
    | nt kd n => exact ⟨_, rfl, _, _, rfl, .inr ⟨_, kd.ty, kd.kit (.inr rfl) n, _, rfl, iteT k⟩⟩
    | @len p xs hp l =>
      refine ⟨_, rfl, _, _, rfl, .inl ⟨p, xs, rfl, hp, _, rfl, ?_⟩⟩
      rw [decide_eq_false (fun z => l (by have := V.int.inj z; omega))]
      exact iteT k
    | @name p x y z T hp kd n =>
      refine ⟨_, rfl, _, _, rfl, .inl ⟨p, _, rfl, hp, true, rfl, iteF ?_⟩⟩
      refine ⟨_, rfl, p, _, rfl, hp, rfl, _, _, rfl, _, _, rfl, _, _, rfl, rfl, ?_⟩
      exact ⟨_, rfl, _, _, _, _, false, rfl, .ty _, kd.ty, kd.kit (.inl rfl) n, false, rfl, iteF k⟩
    | @st p n y z T hp kd ne =>
      refine ⟨_, rfl, _, _, rfl, .inl ⟨p, _, rfl, hp, true, rfl, iteF ?_⟩⟩
      refine ⟨_, rfl, p, _, rfl, hp, rfl, _, _, rfl, _, _, rfl, _, _, rfl, rfl, ?_⟩
      refine ⟨_, rfl, _, _, _, _, true, rfl, .ty _, .base (.str _), kit_ty (by decide +kernel), true, rfl, iteT ?_⟩
      exact ⟨_, rfl, _, rfl, .inr ⟨kd.noI ne, _, rfl, iteF k⟩⟩
    | @day p n s' z T hp kd ne =>
      refine ⟨_, rfl, _, _, rfl, .inl ⟨p, _, rfl, hp, true, rfl, iteF ?_⟩⟩
      refine ⟨_, rfl, p, _, rfl, hp, rfl, _, _, rfl, _, _, rfl, _, _, rfl, rfl, ?_⟩
      refine ⟨_, rfl, _, _, _, _, true, rfl, .ty _, .base (.str _), kit_ty (by decide +kernel), true, rfl, iteT ?_⟩
      exact ⟨_, rfl, _, rfl, .inl ⟨_, rfl, _, rfl, iteT ⟨_, rfl, _, rfl, .inr ⟨kd.noI ne, k⟩⟩⟩⟩
end
end K33

set_option Elab.async false
set_option linter.all false
set_option maxRecDepth 100000
set_option maxHeartbeats 4000000
namespace K33
open PySem PySem.Spec PyProof.Rows L2 Ew
/-- a call's one argument is there -/
theorem arg1 (sp : Sp) {v : V} {σ : L2.St} {H : Hp} {Q : VK} {E : XK} (h : sp [v] H Q E) : tNil σ H fun xs H2 => sp ((v :: xs) ++ []) H2 Q E := h
/-! ### rows of pairs -/
abbrev Prs := List (Spot × (Int × Int))
/-- a pair of a spot and a ratio at v, the ratio one of those that G means -/
def Pr (K : PySem.W.Frag) (G : V → Int × Int → Prop) (F : Hp) (v : V) (s : Spot × (Int × Int)) : Prop := ∃ q u w, v = .ref q ∧ SqT K F q [u, w] ∧ Spt F u s.1 ∧ Rt K F w s.2 ∧ G w s.2
/-- the entries of a dict that holds such pairs -/
def Kvs (K : PySem.W.Frag) (F : Hp) (kvs : List (List Key × V)) (L : Prs) : Prop := Paired (fun (c : List Key × V) (s : Spot × (Int × Int)) => c.1 = spK s.1 ∧ Rt K F c.2 s.2) kvs L
def look (L : Prs) (p : Spot) : Option (Int × Int) := (L.find? fun s => decide (s.1 = p)).map (·.2)
theorem look_cons {s : Spot × (Int × Int)} {L : Prs} {p : Spot} : look (s :: L) p = if s.1 = p then some s.2 else look L p := by
  unfold look
  rw [List.find?_cons]
  by_cases h : s.1 = p <;> simp [h]
section
variable {K : PySem.W.Frag} {F F' : Hp} {v : V} {s : Spot × (Int × Int)} {kvs : List (List Key × V)} {L : Prs}
theorem Pr.up {G : V → Int × Int → Prop} (h : Pr K G F v s) (e : Same F F') : Pr K G F' v s := by obtain ⟨q, u, w, h1, h2, h3, h4, h5⟩ := h; exact ⟨q, u, w, h1, upT e h2, h3.up e, h4.up e, h5⟩
theorem Kvs.up (h : Kvs K F kvs L) (e : Same F F') : Kvs K F' kvs L := Paired.mapP h fun _ _ z => ⟨z.1, z.2.up e⟩
theorem Kvs.get (h : Kvs K F kvs L) (p : Spot) : (valV kvs (spK p) = none ∧ look L p = none) ∨ ∃ w r, valV kvs (spK p) = some w ∧ look L p = some r ∧ Rt K F w r := by
  induction h with
  | nil => exact .inl ⟨valV_nil, rfl⟩
  | @cons c s cs L h t ih =>
    rw [look_cons]
    by_cases e : s.1 = p
    · rw [if_pos e, valV_pos (by rw [h.1, e])]
      exact .inr ⟨_, _, rfl, rfl, h.2⟩
    · rw [if_neg e, valV_neg (fun z => e (spK_inj (h.1.symm.trans z)))]
      exact ih
theorem Kvs.len (h : Kvs K F kvs L) : kvs.length = L.length := Paired.length h
theorem Kvs.snoc (h : Kvs K F kvs L) {w : V} (hw : Rt K F w s.2) : Kvs K F (kvs ++ [(spK s.1, w)]) (L ++ [s]) := Paired.snoc h ⟨rfl, hw⟩
theorem look_none {p : Spot} : look L p = none ↔ p ∉ L.map (·.1) := by
  induction L with
  | nil => simp [look]
  | cons s L ih =>
    rw [look_cons]
    by_cases e : s.1 = p
    · simp [e]
    · rw [if_neg e, ih]
      simp [Ne.symm e]
end
def ground : Spot := (⟨#[103, 114, 111, 117, 110, 100]⟩, 0, 0)
/-- a row that makes a world -/
structure OkL (L : Prs) : Prop where
  nd : (L.map (·.1)).Nodup
  low : ∀ s ∈ L, Low s.2
  hd : ∀ s, L[0]? = some s → s.1 = ground ∧ s.2.1 = 0
/-- a thing that is no ratio -/
inductive NotRt (K : PySem.W.Frag) (H : Hp) : V → Prop
  | nt {v : V} {T : String} (k : Kd K H v T) (n : T ≠ "tuple") : NotRt K H v
  | len {p : Addr} {xs : List V} (h : SqT K H p xs) (l : xs.length ≠ 2) : NotRt K H (.ref p)
  | one {p : Addr} {x y : V} {T : String} (h : SqT K H p [x, y]) (k : Kd K H x T) (n : T ≠ "int") : NotRt K H (.ref p)
  | two {p : Addr} {i : Int} {y : V} {T : String} (h : SqT K H p [.int i, y]) (k : Kd K H y T) (n : T ≠ "int") : NotRt K H (.ref p)
  | low {p : Addr} {r : Int × Int} (h : SqT K H p [.int r.1, .int r.2]) (n : ¬ Low r) : NotRt K H (.ref p)
theorem NotRt.up {K : PySem.W.Frag} {F F' : Hp} {v : V} (h : NotRt K F v) (e : Same F F') : NotRt K F' v := by
  cases h with
  | nt k n => exact .nt (k.up e) n
  | len h l => exact .len (upT e h) l
  | one h k n => exact .one (upT e h) (k.up e) n
  | two h k n => exact .two (upT e h) (k.up e) n
  | low h n => exact .low (upT e h) n
theorem not_ratio {K : PySem.W.Frag} {H : Hp} {v : V} {Q : VK} {E : XK} (h : NotRt K H v) (k : Q (.bl false) H) : sp_is_ratio K [v] H Q E := by
  refine ⟨v, rfl, ?_⟩
  cases h with
  | nt kd n => exact .inl ⟨_, kd.ty, kd.kit (.inr rfl) n, k⟩
  | len h l => exact .inr (.inl ⟨_, _, rfl, h, l, k⟩)
  | one h kd n => exact .inr (.inr (.inl ⟨_, _, _, rfl, h, kd.noI n, k⟩))
  | two h kd n => exact .inr (.inr (.inr (.inl ⟨_, _, _, rfl, h, kd.noI n, k⟩)))
  | @low p r h n =>
    refine .inr (.inr (.inr (.inr ⟨r.1, r.2, ⟨p, rfl, h⟩, ?_⟩)))
    have : (decide (1 ≤ r.2) && decide (Nat.gcd r.1.natAbs r.2.natAbs = 1)) = false := by
      cases e : (decide (1 ≤ r.2) && decide (Nat.gcd r.1.natAbs r.2.natAbs = 1)) with
      | false => rfl
      | true =>
        rw [Bool.and_eq_true] at e
        exact absurd ⟨of_decide_eq_true e.1, of_decide_eq_true e.2⟩ n
    rw [this]
    exact k
theorem is_ratio {K : PySem.W.Frag} {H : Hp} {v : V} {r : Int × Int} {Q : VK} {E : XK} (h : Rt K H v r) (l : Low r) (k : Q (.bl true) H) : sp_is_ratio K [v] H Q E := by
  refine ⟨v, rfl, .inr (.inr (.inr (.inr ⟨r.1, r.2, h, ?_⟩)))⟩
  rw [decide_eq_true l.1, decide_eq_true l.2]
  exact k
/-- a thing that is not the next pair of the row -/
inductive Wrong (K : PySem.W.Frag) (F : Hp) (L : Prs) : V → Prop
  | nt {v : V} {T : String} (k : Kd K F v T) (n : T ≠ "tuple") : Wrong K F L v
  | len {p : Addr} {xs : List V} (h : SqT K F p xs) (l : xs.length ≠ 2) : Wrong K F L (.ref p)
  | spot {p : Addr} {u w : V} (h : SqT K F p [u, w]) (n : NotSp K F u) : Wrong K F L (.ref p)
  | twice {p : Addr} {u w : V} {s : Spot} (h : SqT K F p [u, w]) (hs : Spt F u s) (m : s ∈ L.map (·.1)) : Wrong K F L (.ref p)
  | ratio {p : Addr} {u w : V} {s : Spot} (h : SqT K F p [u, w]) (hs : Spt F u s) (n : NotRt K F w) : Wrong K F L (.ref p)
  | first {p : Addr} {u w : V} {s : Spot} {r : Int × Int} (h : SqT K F p [u, w]) (hs : Spt F u s) (hr : Rt K F w r) (l : Low r) (e : L = []) (n : s ≠ ground ∨ r.1 ≠ 0) (ok : PyData.strOk s.1 = true) : Wrong K F L (.ref p)
theorem Wrong.up {K : PySem.W.Frag} {F F' : Hp} {L : Prs} {v : V} (h : Wrong K F L v) (e : Same F F') : Wrong K F' L v := by
  cases h with
  | nt k n => exact .nt (k.up e) n
  | len h l => exact .len (upT e h) l
  | spot h n => exact .spot (upT e h) (n.up e)
  | twice h hs m => exact .twice (upT e h) (hs.up e) m
  | ratio h hs n => exact .ratio (upT e h) (hs.up e) (n.up e)
  | first h hs hr l e' n ok => exact .first (upT e h) (hs.up e) (hr.up e) l e' n ok
theorem walk_enumT {K : PySem.W.Frag} {a : Addr} {xs : List V} : Walk (IteT K a) xs.length (fun H => SqT K H a xs) (YPair (fun i => some (.int (i : Nat))) (fun i => xs[i]?)) := by
  refine ⟨fun i _ hi q => ⟨xs, xs[i], q, by simp [hi]⟩, fun _ q => ⟨xs, q, rfl⟩, fun i H v H' _ q y => ?_⟩
  obtain ⟨T, x, h1, h2, h3, h4⟩ := y
  exact ⟨T, .int (i : Nat), x, h1, h2, h3, rfl, h4 xs q⟩
/-- a list or a tuple -/
def Row (K : PySem.W.Frag) (F : Hp) (p : Addr) (xs : List V) : Prop := SqL K F p xs ∨ SqT K F p xs
section
variable {P : Program} {w : World} {K : PySem.W.Frag} {mg : Str → Option Value} {base : Heap} {a : Ad}
/-- what G says of each value -/
def Gs (G : V → Int × Int → Prop) (kvs : List (List Key × V)) (L : Prs) : Prop := Paired (fun (c : List Key × V) (s : Spot × (Int × Int)) => G c.2 s.2) kvs L
/-- a dict of the pairs, kept, new since H0 -/
def Dct (K : PySem.W.Frag) (G : V → Int × Int → Prop) (H0 F : Hp) (v : V) (L : Prs) : Prop := ∃ d o kvs, v = .ref d ∧ F d = some (.frz o (.dT kvs)) ∧ Kvs K F kvs L ∧ H0 d = none ∧ Gs G kvs L
/-- the items begin with the pairs of L -/
def Begin (K : PySem.W.Frag) (G : V → Int × Int → Prop) (F : Hp) (xs : List V) (L : Prs) : Prop := L.length ≤ xs.length ∧ ∀ (i : Nat) s, L[i]? = some s → ∃ x, xs[i]? = some x ∧ Pr K G F x s
theorem Begin.up {G : V → Int × Int → Prop} {F F' : Hp} {xs : List V} {L : Prs} (h : Begin K G F xs L) (e : Same F F') : Begin K G F' xs L := ⟨h.1, fun i s hs => by obtain ⟨x, h1, h2⟩ := h.2 i s hs; exact ⟨x, h1, h2.up e⟩⟩
theorem row_pick {F H' : Hp} {p : Addr} {xs : List V} {σ : L2.St} {R : It → Hp → Prop} (h0 : σ[0]? = some (some (.ref p))) (hp : Row K F p xs) (e : Same F H')
    (k : ∀ J G, Walk J xs.length G (YPair (fun i => some (.int (i : Nat))) (fun i => xs[i]?)) → (∀ H2, Same F H2 → G H2) → R J H') : iEnum K (tCons (tVar 0) tNil) σ H' R ∨ iEnumT K (tCons (tVar 0) tNil) σ H' R := by
  rcases hp with hp | hp
  · exact .inl ⟨_, h0, p, xs, rfl, upL e hp, k _ _ walk_enum fun H2 e2 => upL e2 hp⟩
  · exact .inr ⟨_, h0, p, xs, rfl, upT e hp, k _ _ walk_enumT fun H2 e2 => upT e2 hp⟩
def sp__values_of (K : PySem.W.Frag) (a : Ad) : Sp := fun vs H Q E => ∃ (G : V → Int × Int → Prop) (F : Hp) (p : Addr) (xs : List V) (L : Prs), vs = [.ref p] ∧ Row K F p xs ∧ Same F H ∧ xs.length ≤ 1000 ∧ Begin K G F xs L ∧ OkL L ∧ (∀ s ∈ L, PyData.strOk s.1.1 = true) ∧
  (L.length = xs.length → xs ≠ [] → ∀ F' H' v, Stp F H F' H' → Dct K G H F' v L → Q v H') ∧ (∀ x, xs[L.length]? = some x → Wrong K F L x) ∧
  (L.length < xs.length ∨ xs = [] → Ra F H E a.BadWorld fun F' d => F' d = some (.xd [("place", .int (L.length : Nat))]))
theorem c__values_of (T : Txt K mg a) : Cl P w K mg base 3 "_values_of" P__values_of (sp__values_of K a) [] :=
  T.d__values_of.cl sc__values_of (fun vs H Q E h => by obtain ⟨G, F, p, xs, L, rfl, _⟩ := h; rfl) fun f cdv A outer s H vs Q E hr h => by
    obtain ⟨Gv, F, p, xs, L, rfl, hp, hf, hl, hb, ok, sok, k1, kw, k2⟩ := h
    refine ⟨_, ((pss_cons (ps_if (PW.pt (pw_or (pt_not (pt_val (pe_f (c_is_row T) (takes_of rfl rfl rfl rfl) hr (by decide) rfl (pa_cons (pv 0) pa_nil)))) (pw_or1 (pt_cmpR op_eq (pe_callB call_len_seq (by rfl) T.n_len (by decide +kernel) (pa_cons (pv 0) pa_nil)) pe_int (nomark _)))))
 (pss_one (ps_raise1 rfl (takes_of rfl rfl rfl rfl) (x_BadWorld T) hr (by decide) rfl pe_int))
 pss_nil)
 (pss_cons (ps_set (i := 1) sc__values_of.nd rfl (Or.inl rfl) pe_dnewT)
 (pss_cons (ps_for (passes_of rfl) rfl (pi_enumX (by rfl) T.n_enumerate (pa_cons (pv 0) pa_nil)) (pg_tup rfl (pgs_cons (pg_name (i := 2) sc__values_of.nd rfl (Or.inl rfl)) (pgs_cons (pg_name (i := 3) sc__values_of.nd rfl (Or.inl rfl)) pgs_nil)))
 (pss_cons (ps_if (pt_not (pt_val (pe_f (c_is_tuple_of T) (takes_of rfl rfl rfl rfl) hr (by decide) rfl (pa_cons (pv 3) (pa_cons pe_int pa_nil)))))
 (pss_one (ps_raise1 rfl (takes_of rfl rfl rfl rfl) (x_BadWorld T) hr (by decide) rfl (pv 2)))
 pss_nil)
 (pss_cons (ps_asg (pv 3) (pg_tup rfl (pgs_cons (pg_name (i := 4) sc__values_of.nd rfl (Or.inl rfl)) (pgs_cons (pg_name (i := 5) sc__values_of.nd rfl (Or.inl rfl)) pgs_nil))))
 (pss_cons (ps_if (PW.pt (pw_or (pt_not (pt_val (pe_f (c_is_spot T) (takes_of rfl rfl rfl rfl) hr (by decide) rfl (pa_cons (pv 4) pa_nil)))) (pw_or (pt_cmp (pc_din (hu_of hr) (pv 4) (pv 1)) rfl) (pw_or1 (pt_not (pt_val (pe_f (c_is_ratio T) (takes_of rfl rfl rfl rfl) hr (by decide) rfl (pa_cons (pv 5) pa_nil))))))))
 (pss_one (ps_raise1 rfl (takes_of rfl rfl rfl rfl) (x_BadWorld T) hr (by decide) rfl (pv 2)))
 pss_nil)
 (pss_cons (ps_if (PW.pt (pw_and (pt_cmpR op_eq (pv 2) pe_int (nomark _)) (pw_and1 (PW.pt (pw_or (pt_cmpR (op_neD hr.units) (pv 4) (pe_glob (by rfl) T.k_GROUND rfl (v := .ref a.aG)) (nomark _)) (pw_or1 (pt_cmpR op_ne (pe_ix ix_tup (pv 5) pe_int (fun _ _ => rfl)) pe_int (nomark _))))))))
 (pss_one (ps_raise1 rfl (takes_of rfl rfl rfl rfl) (x_BadWorld T) hr (by decide) rfl (pv 2)))
 pss_nil)
 (pss_one (ps_dput (hu_of hr) (pv 1) (pv 4) (pv 5) rfl)))))))
 (pss_one (ps_ret (pe_keep (pv 1)))))))), ?_⟩
    refine ⟨_, rfl, F, p, xs, rfl, hp, hf, fun F1 H1 v1 s1 e1 => ?_⟩
    subst e1
    have hp1 : Row K H1 p xs := hp.imp (fun z => upL s1.fh (upL s1.ff z)) fun z => upT s1.fh (upT s1.ff z)
    refine ⟨true, rfl, iteF ⟨_, rfl, p, xs, rfl, hp1, rfl, _, rfl, ?_⟩⟩
    by_cases hx : xs = []
    · subst hx
      refine iteY (vint_eq rfl) fun d hd => ?_
      have l0 : L.length = 0 := by have := hb.1; simpa using this
      have := k2 (.inr rfl) _ _ d (s1.newP hd) upd_same
      rw [l0] at this
      exact this
    have xl : 0 < xs.length := List.length_pos_iff.mpr hx
    refine iteN (vint_ne (by omega)) ?_
    refine fun D hD => ?_
    have fD : F1 D = none := s1.fh.free hD
    have h0D : H D = none := s1.freshP hD
    have nHD : H1 D = none := hD
    refine row_pick (F := F) (xs := xs) rfl hp (s1.ff.trans (s1.fh.trans (same_new hD))) fun J G wk hG => ?_
    refine for_it wk (fun j σ' H' => ∃ F' kvs c2 c3 c4 c5, σ' = [some (.ref p), some (.ref D), c2, c3, c4, c5] ∧ Stp F H F' H' ∧ Same F1 F' ∧ F' D = none ∧ H' D = some (.dT kvs) ∧ Kvs K F' kvs (L.take j) ∧ j ≤ L.length ∧ Gs Gv kvs (L.take j)) ?_ ?_ ?_ ?_
    · exact ⟨F1, [], none, none, none, none, rfl, s1.raw hD h0D, Same.refl _, fD, upd_same, .nil, Nat.zero_le _, .nil⟩
    · rintro j σ' H' _ ⟨F', kvs, c2, c3, c4, c5, _, s2, e2, _⟩
      exact hG _ (s1.ff.trans (e2.trans s2.fh))
    · rintro j _ _ H2 _ hj ⟨F2, kvs, c2, c3, c4, c5, rfl, s2, e2, f2, h2D, hk, hjL, hG2⟩ ⟨U, y, x, rfl, hU, rfl, ey, hx⟩
      cases ey
      have hx : xs[j]? = some x := hx
      have s3 := s2.newP (o := .tup [.int (j : Nat), x]) hU
      have nDU : D ≠ U := fun z => by rw [z, hU] at h2D; cases h2D
      have e3 : Same F2 (upd F2 U (.tup [.int (j : Nat), x])) := same_new (s2.fh.free hU)
      have f3 : (upd F2 U (.tup [.int (j : Nat), x])) D = none := by rw [upd_ne nDU]; exact f2
      have h3D : (upd H2 U (.tup [.int (j : Nat), x])) D = some (.dT kvs) := by rw [upd_ne nDU]; exact h2D
      generalize hH3 : upd H2 U (.tup [.int (j : Nat), x]) = H3 at s3 h3D
      have hU3 : SqT K H3 U [.int (j : Nat), x] := by rw [← hH3]; exact sq_new
      generalize upd F2 U (.tup [.int (j : Nat), x]) = F3 at s3 f3 e3
      have eF3 : Same F F3 := s1.ff.trans (e2.trans e3)
      have hk3 := hk.up e3
      refine ⟨U, _, rfl, hU3, rfl, _, _, rfl, _, _, rfl, rfl, ?_⟩
      have kl : kvs.length ≤ 1000 := by
        rw [hk.len, List.length_take]
        have := hb.1
        omega
      by_cases hj' : j < L.length
      · -- a good pair
        obtain ⟨sj, hsj⟩ : ∃ sj, L[j]? = some sj := ⟨_, List.getElem?_eq_getElem hj'⟩
        obtain ⟨x', hx', q, u, wv, rfl, hq, ⟨qs, rfl, hqs⟩, hr, hgw⟩ := hb.2 j sj hsj
        rw [hx] at hx'
        cases hx'
        have hq3 := upT (s3.fh) (upT eF3 hq)
        have hqs3 : H3 qs = some (.tup (spV sj.1)) := s3.fh _ _ (eF3 _ _ hqs)
        have hr3 := (hr.up eF3).up s3.fh
        have nin : look (L.take j) sj.1 = none := by
          rw [look_none]
          intro hm
          rw [List.map_take] at hm
          obtain ⟨i, hi⟩ := List.mem_iff_getElem?.mp hm
          rw [List.getElem?_take] at hi
          have il : i < j := by
            by_cases q : i < j
            · exact q
            · rw [if_neg q] at hi; cases hi
          rw [if_pos il] at hi
          have e2 : (L.map (·.1))[j]? = some sj.1 := by rw [List.getElem?_map, hsj]; rfl
          have := (List.getElem?_inj (List.getElem?_eq_some_iff.mp hi).1 ok.nd).mp (hi.trans e2.symm)
          omega
        refine ⟨_, rfl, _, _, rfl, .inl ⟨q, _, rfl, hq3, true, rfl, iteF ?_⟩⟩
        refine ⟨_, rfl, q, _, rfl, hq3, rfl, _, _, rfl, _, _, rfl, rfl, ?_⟩
        refine ⟨_, rfl, _, rfl, .inl ⟨qs, sj.1, rfl, SqT.of hqs3, true, rfl, iteF ?_⟩⟩
        have g := hk.get sj.1
        rw [nin] at g
        obtain ⟨g, _⟩ | ⟨_, _, _, z, _⟩ := g
        case inr => cases z
        have dg := DGet.t h3D (k := spK sj.1) hqs3
        rw [g] at dg
        refine ⟨_, rfl, _, rfl, D, none, rfl, dg, _, rfl, iteF ?_⟩
        refine ⟨_, rfl, arg1 (sp_is_ratio K) (is_ratio hr3 (ok.low sj (List.mem_of_getElem? hsj)) ?_)⟩
        refine ⟨true, rfl, iteF ?_⟩
        have fin : ∀ Dn : Ends, Dn.nx [some (.ref p), some (.ref D), some (.int (j : Nat)), some (.ref q), some (.ref qs), some wv] (upd H3 D (.dT (kvs ++ [(spK sj.1, wv)]))) →
            sDPut (tVar 1) (tVar 4) (tVar 5) Dn [some (.ref p), some (.ref D), some (.int (j : Nat)), some (.ref q), some (.ref qs), some wv] H3 := fun Dn z => by
          refine ⟨_, rfl, _, rfl, _, rfl, D, _, rfl, DPut.t (k := spK sj.1) h3D hqs3 (by rw [sizeLine_eq]; omega), ?_⟩
          rw [putK_new wv g]
          exact z
        have last : ∃ F' kvs' c2 c3 c4 c5, ([some (.ref p), some (.ref D), some (.int (j : Nat)), some (.ref q), some (.ref qs), some wv] : L2.St) = [some (.ref p), some (.ref D), c2, c3, c4, c5] ∧ Stp F H F' (upd H3 D (.dT (kvs ++ [(spK sj.1, wv)]))) ∧ Same F1 F' ∧ F' D = none ∧
            upd H3 D (.dT (kvs ++ [(spK sj.1, wv)])) D = some (.dT kvs') ∧ Kvs K F' kvs' (L.take (j + 1)) ∧ j + 1 ≤ L.length ∧ Gs Gv kvs' (L.take (j + 1)) := by
          have : L.take (j + 1) = L.take j ++ [sj] := by
            rw [List.take_add_one, hsj]
            rfl
          rw [this]
          exact ⟨F3, _, _, _, _, _, rfl, s3.mut f3 h0D, e2.trans e3, f3, upd_same, hk3.snoc (hr.up eF3), hj', Paired.snoc hG2 hgw⟩
        refine ⟨_, rfl, rfl, _, rfl, ?_⟩
        by_cases h0 : j = 0
        · subst h0
          obtain ⟨g1, g2⟩ := ok.hd sj hsj
          refine iteY (vint_eq rfl) ⟨_, rfl, spD sj.1, spD ground, dp_sp (SqT.of hqs3), dp_sp (T.t_GROUND _), (fl_sp (sok sj (List.mem_of_getElem? hsj))).sh (by decide), (fl_sp (by decide +kernel)).sh (by decide), _, rfl, ?_⟩
          rw [eqv_sp, g1, decide_eq_true rfl]
          obtain ⟨pr, rfl, hpr⟩ := hr3
          refine iteF ⟨_, rfl, pr, _, _, _, rfl, rfl, hpr, at0, rfl, _, rfl, ?_⟩
          refine iteN ?_ (fin _ last)
          rw [g2]
          simp
        · refine iteN (vint_ne (by omega)) ?_
          exact fin _ last
      · -- the first wrong one
        have ej : j = L.length := by omega
        have wr := (kw x (by rw [← ej]; exact hx)).up eF3
        have kr : ∀ d, H3 d = none → E (.ref a.BadWorld) (some d) (upd H3 d (.xd [("place", .int (j : Nat))])) := fun d hd => by
          have := k2 (.inl (by omega)) _ _ d (s3.newP hd) upd_same
          rw [← ej] at this
          exact this
        have tk : L.take j = L := by rw [ej]; exact List.take_length
        rw [tk] at hk3 hk
        cases wr with
        | nt kd n => exact ⟨_, rfl, _, _, rfl, .inr ⟨_, (kd.up s3.fh).ty, kd.kit (.inr rfl) n, _, rfl, iteT ⟨_, rfl, kr⟩⟩⟩
        | @len q ys hq l =>
          refine ⟨_, rfl, _, _, rfl, .inl ⟨q, ys, rfl, upT s3.fh hq, _, rfl, ?_⟩⟩
          rw [decide_eq_false (fun z => l (by have := V.int.inj z; omega))]
          exact iteT ⟨_, rfl, kr⟩
        | @spot q u wv hq n =>
          refine ⟨_, rfl, _, _, rfl, .inl ⟨q, _, rfl, upT s3.fh hq, true, rfl, iteF ?_⟩⟩
          refine ⟨_, rfl, q, _, rfl, upT s3.fh hq, rfl, _, _, rfl, _, _, rfl, rfl, ?_⟩
          exact ⟨_, rfl, _, rfl, .inr ⟨n.up s3.fh, _, rfl, iteT ⟨_, rfl, kr⟩⟩⟩
        | @twice q u wv sp hq hs m =>
          obtain ⟨qs, rfl, hqs⟩ := hs
          have hqs3 := s3.fh _ _ hqs
          refine ⟨_, rfl, _, _, rfl, .inl ⟨q, _, rfl, upT s3.fh hq, true, rfl, iteF ?_⟩⟩
          refine ⟨_, rfl, q, _, rfl, upT s3.fh hq, rfl, _, _, rfl, _, _, rfl, rfl, ?_⟩
          refine ⟨_, rfl, _, rfl, .inl ⟨qs, sp, rfl, SqT.of hqs3, true, rfl, iteF ?_⟩⟩
          have g := hk.get sp
          obtain ⟨_, z⟩ | ⟨wv', _, g, _, _⟩ := g
          · exact absurd m (look_none.mp z)
          have dg := DGet.t h3D (k := spK sp) hqs3
          rw [g] at dg
          exact ⟨_, rfl, _, rfl, D, some wv', rfl, dg, _, rfl, iteT ⟨_, rfl, kr⟩⟩
        | @ratio q u wv sp hq hs n =>
          obtain ⟨qs, rfl, hqs⟩ := hs
          have hqs3 := s3.fh _ _ hqs
          refine ⟨_, rfl, _, _, rfl, .inl ⟨q, _, rfl, upT s3.fh hq, true, rfl, iteF ?_⟩⟩
          refine ⟨_, rfl, q, _, rfl, upT s3.fh hq, rfl, _, _, rfl, _, _, rfl, rfl, ?_⟩
          refine ⟨_, rfl, _, rfl, .inl ⟨qs, sp, rfl, SqT.of hqs3, true, rfl, iteF ?_⟩⟩
          have dg := DGet.t h3D (k := spK sp) hqs3
          refine ⟨_, rfl, _, rfl, D, _, rfl, dg, _, rfl, ?_⟩
          cases valV kvs (spK sp) with
          | some _ => exact iteT ⟨_, rfl, kr⟩
          | none => exact iteF ⟨_, rfl, arg1 (sp_is_ratio K) (not_ratio (n.up s3.fh) ⟨false, rfl, iteT ⟨_, rfl, kr⟩⟩)⟩
        | @first q u wv sp r hq hs hr l e n okn =>
          subst e
          obtain ⟨qs, rfl, hqs⟩ := hs
          have hqs3 := s3.fh _ _ hqs
          obtain ⟨pr, rfl, hpr⟩ := hr.up s3.fh
          refine ⟨_, rfl, _, _, rfl, .inl ⟨q, _, rfl, upT s3.fh hq, true, rfl, iteF ?_⟩⟩
          refine ⟨_, rfl, q, _, rfl, upT s3.fh hq, rfl, _, _, rfl, _, _, rfl, rfl, ?_⟩
          refine ⟨_, rfl, _, rfl, .inl ⟨qs, sp, rfl, SqT.of hqs3, true, rfl, iteF ?_⟩⟩
          have g := hk.get sp
          obtain ⟨g, _⟩ | ⟨_, _, _, z, _⟩ := g
          case inr => cases z
          have dg := DGet.t h3D (k := spK sp) hqs3
          rw [g] at dg
          refine ⟨_, rfl, _, rfl, D, none, rfl, dg, _, rfl, iteF ?_⟩
          refine ⟨_, rfl, arg1 (sp_is_ratio K) (is_ratio ⟨pr, rfl, hpr⟩ l ?_)⟩
          refine ⟨true, rfl, iteF ⟨_, rfl, rfl, _, rfl, ?_⟩⟩
          refine iteY (vint_eq (by rw [ej]; rfl)) ⟨_, rfl, spD sp, spD ground, dp_sp (SqT.of hqs3), dp_sp (T.t_GROUND _), (fl_sp okn).sh (by decide), (fl_sp (by decide +kernel)).sh (by decide), _, rfl, ?_⟩
          rw [eqv_sp]
          by_cases eg : sp = ground
          · rw [decide_eq_true eg]
            refine iteF ⟨_, rfl, pr, _, _, _, rfl, rfl, hpr, at0, rfl, _, rfl, ?_⟩
            refine iteY ?_ ⟨_, rfl, kr⟩
            have : r.1 ≠ 0 := n.resolve_left fun z => z eg
            simp [this]
          · rw [decide_eq_false eg]
            exact iteT ⟨_, rfl, kr⟩
    · rintro _ H2 ⟨F2, kvs, c2, c3, c4, c5, rfl, s2, e2, f2, h2D, hk, hjL, hG2⟩
      have lx : L.length = xs.length := Nat.le_antisymm hb.1 hjL
      have tk : L.take xs.length = L := by rw [← lx]; exact List.take_length
      rw [tk] at hk hG2
      refine ⟨_, rfl, D, _, h2D, trivial, fun o => ?_⟩
      exact k1 lx hx (upd F2 D (.frz o (.dT kvs))) _ _ ((s2.mut f2 h0D).freeze f2 h0D upd_same) ⟨D, o, kvs, rfl, upd_same, hk.up (same_new f2), h0D, hG2⟩
end
end K33

set_option Elab.async false
set_option linter.all false
set_option maxRecDepth 100000
set_option maxHeartbeats 4000000
namespace K33
open PySem PySem.Spec PyProof.Rows L2 Ew
/-! ### worlds -/
/-- at v a world of the pairs of L -/
def Wd (K : PySem.W.Frag) (C : Addr) (F : Hp) (v : V) (L : Prs) : Prop := ∃ x dx d o kvs, v = .ref x ∧ F x = some (.ins C dx [("_values", .ref d)]) ∧ F d = some (.frz o (.dT kvs)) ∧ Kvs K F kvs L
theorem Wd.up {K : PySem.W.Frag} {C : Addr} {F F' : Hp} {v : V} {L : Prs} (h : Wd K C F v L) (e : Same F F') : Wd K C F' v L := by
  obtain ⟨x, dx, d, o, kvs, h1, h2, h3, h4⟩ := h
  exact ⟨x, dx, d, o, kvs, h1, e x _ h2, e d _ h3, h4.up e⟩
section
variable {P : Program} {w : World} {K : PySem.W.Frag} {mg : Str → Option Value} {base : Heap} {a : Ad}
def sp_Winit (K : PySem.W.Frag) (a : Ad) : Sp := fun vs H Q E => ∃ (G : V → Int × Int → Prop) (F : Hp) (x dx p : Addr) (xs : List V) (L : Prs), vs = [.ref x, .ref p] ∧ H x = some (.ins a.World dx []) ∧ Row K F p xs ∧ Same F H ∧ xs.length ≤ 1000 ∧ Begin K G F xs L ∧ OkL L ∧ (∀ s ∈ L, PyData.strOk s.1.1 = true) ∧
  (L.length = xs.length → xs ≠ [] → ∀ F' H' v, Stp F H F' H' → Dct K G H F' v L → Q .non (upd H' x (.ins a.World dx [("_values", v)]))) ∧ (∀ x, xs[L.length]? = some x → Wrong K F L x) ∧
  (L.length < xs.length ∨ xs = [] → Ra F H E a.BadWorld fun F' d => F' d = some (.xd [("place", .int (L.length : Nat))]))
theorem mk_World (T : Txt K mg a) : Mkr P w K mg base 4 "World" a.World P_WorldD_initD (sp_Winit K a) := by
  obtain ⟨f, fd, M, F, b⟩ := T.i_World.ex
  refine ⟨T.g_World, f, fd, M, fun_ok F sc_WorldD_initD (fun vs H Q E h => by obtain ⟨G, F, x, dx, p, xs, L, rfl, _⟩ := h; rfl) fun f cdv A outer s H vs Q E hr h => ?_, b⟩
  obtain ⟨G, F, x, dx, p, xs, L, rfl, hx, hp, hf, hl, hb, ok, sok, k1, kw, k2⟩ := h
  refine ⟨_, ((pss_one (ps_fld (pv 0) (pe_f (c__values_of T) (takes_of rfl rfl rfl rfl) hr (by decide) rfl (pa_cons (pv 1) pa_nil)) rfl))), ?_⟩
  refine ⟨_, rfl, G, F, p, xs, L, rfl, hp, hf, hl, hb, ok, sok, fun h1 h2 F' H' v st dc => ?_, kw, k2⟩
  exact ⟨_, rfl, x, a.World, dx, [], rfl, st.same _ _ hx, T.ki.cl, T.nV, Nat.le_of_ble_eq_true rfl, k1 h1 h2 F' H' v st dc⟩
/-- a new world, its values among those that G means -/
def WdG (K : PySem.W.Frag) (C : Addr) (G : V → Int × Int → Prop) (H0 F : Hp) (v : V) (L : Prs) : Prop := ∃ x dx d o kvs, v = .ref x ∧ F x = some (.ins C dx [("_values", .ref d)]) ∧ F d = some (.frz o (.dT kvs)) ∧ Kvs K F kvs L ∧ H0 x = none ∧ H0 d = none ∧ Gs G kvs L
theorem WdG.wd {C : Addr} {G : V → Int × Int → Prop} {H0 F : Hp} {v : V} {L : Prs} (h : WdG K C G H0 F v L) : Wd K C F v L := by
  obtain ⟨x, dx, d, o, kvs, h1, h2, h3, h4, _⟩ := h
  exact ⟨x, dx, d, o, kvs, h1, h2, h3, h4⟩
/-- World(row), what stands before the call -/
theorem mk_wdG (G : V → Int × Int → Prop) {F H : Hp} {p : Addr} {xs : List V} {L : Prs} {Q : VK} {E : XK} (hp : Row K F p xs) (hf : Same F H) (hl : xs.length ≤ 1000) (hb : Begin K G F xs L) (ok : OkL L) (sok : ∀ s ∈ L, PyData.strOk s.1.1 = true)
    (k1 : L.length = xs.length → xs ≠ [] → ∀ F' H' z, Stp F H F' H' → WdG K a.World G H F' z L → Q z H') (kw : ∀ x, xs[L.length]? = some x → Wrong K F L x)
    (k2 : L.length < xs.length ∨ xs = [] → Ra F H E a.BadWorld fun F' d => F' d = some (.xd [("place", .int (L.length : Nat))])) :
    ∀ o d, H o = none → H d = none → d ≠ o → sp_Winit K a (.ref o :: [.ref p]) (upd (upd H d (.own o)) o (.ins a.World d [])) (fun v H2 => v = .non ∧ Q (.ref o) H2) E := by
  intro o d ho hd ne
  have fo : F o = none := hf.free ho
  have ho' : (upd H d (.own o)) o = none := by rw [upd_ne (Ne.symm ne)]; exact ho
  have s0 : Stp F H F (upd (upd H d (.own o)) o (.ins a.World d [])) := ((Stm.refl hf).raw hd hd).raw ho' ho
  refine ⟨G, F, o, d, p, xs, L, rfl, upd_same, hp, s0.fh, hl, hb, ok, sok, fun h1 h2 F' H' v st dc => ⟨rfl, ?_⟩, kw, fun h F' H' d' st post => k2 h F' H' d' (s0.transP st) post⟩
  have f' : F' o = none := st.nw o fo (by rw [upd_same]; exact fun z => nomatch z)
  obtain ⟨dd, ob, kvs, rfl, e1, e2, e3, e4⟩ := dc
  have h0 : H dd = none := by
    have n1 : dd ≠ o := fun z => by rw [z, upd_same] at e3; cases e3
    rw [upd_ne n1] at e3
    have n2 : dd ≠ d := fun z => by rw [z, upd_same] at e3; cases e3
    rwa [upd_ne n2] at e3
  exact k1 h1 h2 (upd F' o (.ins a.World d [("_values", .ref dd)])) _ _ (((s0.transP st).mut f' ho).freeze f' ho upd_same) ⟨o, d, dd, ob, kvs, rfl, upd_same, same_new f' _ _ e1, e2.up (same_new f'), ho, h0, e4⟩
def any1 : V → Int × Int → Prop := fun _ _ => True
theorem mk_wd {F H : Hp} {p : Addr} {xs : List V} {L : Prs} {Q : VK} {E : XK} (hp : Row K F p xs) (hf : Same F H) (hl : xs.length ≤ 1000) (hb : Begin K any1 F xs L) (ok : OkL L) (sok : ∀ s ∈ L, PyData.strOk s.1.1 = true)
    (k1 : L.length = xs.length → xs ≠ [] → ∀ F' H' z, Stp F H F' H' → Wd K a.World F' z L → Q z H') (kw : ∀ x, xs[L.length]? = some x → Wrong K F L x)
    (k2 : L.length < xs.length ∨ xs = [] → Ra F H E a.BadWorld fun F' d => F' d = some (.xd [("place", .int (L.length : Nat))])) :
    ∀ o d, H o = none → H d = none → d ≠ o → sp_Winit K a (.ref o :: [.ref p]) (upd (upd H d (.own o)) o (.ins a.World d [])) (fun v H2 => v = .non ∧ Q (.ref o) H2) E :=
  mk_wdG any1 hp hf hl hb ok sok (fun h1 h2 F' H' z st g => k1 h1 h2 F' H' z st g.wd) kw k2
def sp_get (K : PySem.W.Frag) (a : Ad) : Sp := fun vs H Q E => ∃ (F : Hp) (x v : V) (L : Prs), vs = [x, v] ∧ Wd K a.World F x L ∧ Same F H ∧
  ((∃ p, Spt H v p ∧ (∀ u r, look L p = some r → Rt K F u r → Q u H) ∧ (look L p = none → Ra F H E a.NoSpot fun F' d => F' d = some (.xd [("spot", v)]))) ∨ (NotSp K H v ∧ Ra F H E a.NoSpot fun F' d => F' d = some (.xd [("spot", v)])))
theorem o_World_getitem (T : Txt K mg a) : OwC P w K mg base 3 a.World "__getitem__" P_WorldD_getitemD (sp_get K a) := by
  obtain ⟨f, fd, M, hfn, F, b⟩ := T.o_getitem.ex
  refine ⟨f, fd, M, hfn, fun_ok F sc_WorldD_getitemD (fun vs H Q E h => by obtain ⟨F, x, v, L, rfl, _⟩ := h; rfl) fun f cdv A outer s H vs Q E hr h => ?_, b⟩
  obtain ⟨F, x, v, L, rfl, ⟨x, dx, d, o, kvs, rfl, e1, e2, e3⟩, hf, h⟩ := h
  refine ⟨_, ((pss_cons (ps_if (PW.pt (pw_or (pt_not (pt_val (pe_f (c_is_spot T) (takes_of rfl rfl rfl rfl) hr (by decide) rfl (pa_cons (pv 1) pa_nil)))) (pw_or1 (pt_cmp (pc_dnotin (hu_of hr) (pv 1) (pe_fld (pv 0) rfl)) rfl))))
 (pss_one (ps_raise1 rfl (takes_of rfl rfl rfl rfl) (x_NoSpot T) hr (by decide) rfl (pv 1)))
 pss_nil)
 (pss_one (ps_ret (pe_dget (hu_of hr) (pe_fld (pv 0) rfl) (pv 1) (fun _ _ => rfl)))))), ?_⟩
  have fx := hf _ _ e1
  have fd := hf _ _ e2
  have raise : (Ra F H E a.NoSpot fun F' d => F' d = some (.xd [("spot", v)])) → ∀ d, H d = none → E (.ref a.NoSpot) (some d) (upd H d (.xd [("spot", v)])) := fun k d hd => k _ _ d (stp_new hf hd) upd_same
  rcases h with ⟨p, ⟨q, rfl, hq⟩, k1, k2⟩ | ⟨n, k⟩
  · have hq' := hq
    refine ⟨_, rfl, _, rfl, .inl ⟨q, p, rfl, SqT.of hq', true, rfl, iteF ?_⟩⟩
    have dg : DGet H d (.ref q) (valV kvs (spK p)) := .inr ⟨kvs, spK p, q, .inr ⟨o, fd⟩, rfl, hq', rfl⟩
    refine ⟨_, rfl, _, rfl, x, a.World, dx, _, _, rfl, fx, T.ki.cl, T.nV, rfl, d, _, rfl, dg, ?_⟩
    rcases e3.get p with ⟨g1, g2⟩ | ⟨u, r, g1, g2, g3⟩
    · rw [g1]
      exact ⟨true, rfl, iteT ⟨_, rfl, raise (k2 g2)⟩⟩
    · rw [g1] at dg ⊢
      refine ⟨false, rfl, iteF ⟨_, rfl, x, a.World, dx, _, _, rfl, fx, T.ki.cl, T.nV, rfl, _, rfl, d, u, rfl, dg, k1 u r g2 g3⟩⟩
  · exact ⟨_, rfl, _, rfl, .inr ⟨n, _, rfl, iteT ⟨_, rfl, raise k⟩⟩⟩
end
end K33

set_option Elab.async false
set_option linter.all false
set_option maxRecDepth 100000
set_option maxHeartbeats 4000000
namespace K33
open PySem PySem.Spec PyProof.Rows L2 Ew
open SX (S)
def wordL : List (List Nat) := (["days", "base", "unit", "device", "feature", "role", "job", "procedure", "takes", "uses", "read", "by", "let", "be", "tell", "in", "judge", "good", "bad", "choose", "passed", "failed", "open", "repeat", "leave", "call", "stop", "end", "size", "offset", "news", "cert", "stand", "jolt", "edition", "strike", "told", "within", "sum", "product", "quotient", "card", "spot", "row", "ground", "nobody"] : List String).map fun x => x.toList.map Char.toNat
theorem e32 : (" " : Str) = S [32] := by decide +kernel
theorem e0 : ("" : Str) = S [] := by decide +kernel
/-- a row of texts -/
def tsL (ns : List (List Nat)) : List V := ns.map fun l => V.str (S l)
theorem inV_ts (n : List Nat) (ns : List (List Nat)) : inV (.str (S n)) (tsL ns) = decide (n ∈ ns) := by
  unfold inV tsL
  rw [List.any_map]
  induction ns with
  | nil => rfl
  | cons m r ih =>
    rw [List.any_cons, ih]
    show (S m == S n || _) = _
    rw [SX.S_beq_eq]
    by_cases h : m = n
    · subst h; simp
    · have h' : ¬ n = m := fun z => h z.symm
      simp [h, h']
theorem flat_ts (ns : List (List Nat)) : (tsL ns).all flatV = true := by
  unfold tsL
  rw [List.all_map, List.all_eq_true]
  intro _ _
  rfl
theorem join_flat : ∀ l : List (List Nat), TL.joinL [] l = l.flatten
  | [] => rfl
  | [p] => by simp [TL.joinL]
  | p :: q :: r => by
    show p ++ ([] ++ TL.joinL [] (q :: r)) = _
    rw [join_flat (q :: r)]
    simp
def Lt (n : List Nat) : Prop := ∀ c ∈ n, 97 ≤ c ∧ c ≤ 122
/-! ### names drawn -/
structure Nm (n : List Nat) : Prop where
  lt : Lt n
  ne : n ≠ []
  le : n.length ≤ 12
  nw : n ∉ wordL
def Nams (ns : List (List Nat)) : Prop := ns.Nodup ∧ ∀ n ∈ ns, Nm n
def alt (d : List Nat) (k s : Nat) : List Nat := d.take 2 ++ List.replicate (s + 1) 122 ++ [97 + k] ++ [97]
def nth (d : List Nat) (k : Nat) : Nat → List Nat
  | 0 => d
  | s + 1 => alt d k s
def Al6 (n : List Nat) (k : Nat) : Prop := n.length ≤ 6 ∨ ∃ p, n = p ++ [97 + k] ++ [97]
structure Nm8 (n : List Nat) : Prop where
  lt : Lt n
  ne : n ≠ []
  le : n.length ≤ 8
theorem alt_len (d : List Nat) (k s : Nat) : (alt d k s).length = (d.take 2).length + (s + 3) := by
  unfold alt
  simp
theorem alt_lt {d : List Nat} (h : Lt d) {k : Nat} (hk : k < 26) (s : Nat) : Lt (alt d k s) := by
  unfold alt
  intro c hc
  simp only [List.mem_append, List.mem_singleton, List.mem_replicate] at hc
  rcases hc with ((hc | hc) | hc) | hc
  · exact h c (List.mem_of_mem_take hc)
  · omega
  · omega
  · omega
theorem alt_nw (d : List Nat) (k s : Nat) : alt d k s ∉ wordL := by
  have key : ∀ x ∈ wordL, x.getLast? ≠ some 97 := by decide +kernel
  intro h
  refine key _ h ?_
  unfold alt
  rw [List.getLast?_append]
  rfl
theorem nth_nm {d : List Nat} (h : Lt d) (h0 : d ≠ []) (h6 : d.length ≤ 6) {k : Nat} (hk : k < 26) {i : Nat} (hi : i ≤ 4) : Nm8 (nth d k i) ∧ Al6 (nth d k i) k := by
  cases i with
  | zero => exact ⟨⟨h, h0, by show d.length ≤ 8; omega⟩, .inl h6⟩
  | succ s =>
    have hl := alt_len d k s
    have : (d.take 2).length ≤ 2 := by rw [List.length_take]; omega
    refine ⟨⟨alt_lt h hk s, ?_, by show (alt d k s).length ≤ 8; omega⟩, .inr ⟨_, rfl⟩⟩
    intro z
    have z : alt d k s = [] := z
    rw [z] at hl
    simp at hl
/-- the fifth name is new -/
theorem fifth {d : List Nat} (h0 : d ≠ []) {k : Nat} {ns : List (List Nat)} (hn : ∀ (i : Nat) n, ns[i]? = some n → Al6 n i) (hk : ns.length = k) : nth d k 4 ∉ wordL ++ ns := by
  intro h
  rcases List.mem_append.mp h with h | h
  · exact alt_nw d k 3 h
  · obtain ⟨i, hi⟩ := List.getElem?_of_mem h
    have lt : i < ns.length := (List.getElem?_eq_some_iff.mp hi).1
    rcases hn i _ hi with q | ⟨p, q⟩
    · have q : (alt d k 3).length ≤ 6 := q
      rw [alt_len] at q
      have : 0 < d.length := List.length_pos_iff.mpr h0
      rw [List.length_take] at q
      omega
    · have q : alt d k 3 = p ++ [97 + i] ++ [97] := q
      unfold alt at q
      have q2 := List.append_inj' q rfl
      have q3 := List.append_inj' q2.1 rfl
      have := q3.2
      simp at this
      omega
theorem letter_at : ∀ n : Fin 26, atI ("abcdefghijklmnopqrstuvwxyz" : Str).cps.toList ((n.val : Nat) : Int) = some (97 + n.val) := by decide +kernel
theorem letter_i {i : Int} (h0 : 0 ≤ i) (h1 : i < 26) : atI ("abcdefghijklmnopqrstuvwxyz" : Str).cps.toList i = some (97 + i.toNat) := by
  have := letter_at ⟨i.toNat, by omega⟩
  have e : ((i.toNat : Nat) : Int) = i := by omega
  dsimp only at this
  rw [e] at this
  exact this
theorem cut_from (xs : List V) {i : Nat} (h : i ≤ xs.length) : cutV xs (some (i : Int)) none = xs.drop i := by
  have e1 : HT.sIx xs.length 0 (some (i : Int)) = i := by rw [HT.sIx_nat]; omega
  have e2 : HT.sIx xs.length xs.length none = xs.length := rfl
  unfold cutV
  rw [e1, e2]
  exact List.take_of_length_le (by rw [List.length_drop]; omega)
def wl : List Nat := TL.joinL [32] wordL
theorem words_txt : (("days base unit device feature role job procedure takes uses read by let be tell in judge good bad choose " : Str) ++ "passed failed open repeat leave call stop end size offset news cert stand jolt edition strike told ") ++ "within sum product quotient card spot row ground nobody" = S wl := by decide +kernel
theorem words_split : Txt.split (S wl) (S [32]) = wordL.map S := by
  rw [SX.split_S (by simp) (by simp)]
  unfold wl
  rw [SX.spl_join (by decide) (by decide +kernel)]
section
variable {P : Program} {w : World} {K : PySem.W.Frag} {mg : Str → Option Value} {base : Heap} {a : Ad}
def sp__law_words : Sp := fun vs H Q _ => vs = [] ∧ ∀ p, H p = none → Q (.ref p) (upd H p (.lst (tsL wordL)))
theorem c__law_words (T : Txt K mg a) : Cl P w K mg base 1 "_law_words" P__law_words sp__law_words [] :=
  T.d__law_words.cl sc__law_words (fun vs H Q E h => by obtain ⟨rfl, _⟩ := h; rfl) fun f cdv A outer s H vs Q E hr h => by
    obtain ⟨rfl, k⟩ := h
    refine ⟨_, ((pss_cons (ps_set (i := 0) sc__law_words.nd rfl (Or.inl rfl) pe_str)
 (pss_cons (ps_set (i := 0) sc__law_words.nd rfl (Or.inl rfl) (pe_op op_add_str (pv 0) pe_str))
 (pss_one (ps_ret (pe_m1 PySem.F.slot_str_split PySem.F.type_str_split mt_split (pe_op op_add_str (pv 0) pe_str) pe_str)))))), ?_⟩
    refine ⟨_, rfl, _, _, rfl, rfl, by decide +kernel, _, rfl, _, _, rfl, rfl, by decide +kernel, ⟨_, rfl⟩, _, _, rfl, rfl, by decide +kernel, by decide +kernel, fun p hp => ?_⟩
    rw [words_txt, e32, words_split, List.map_map]
    exact k p hp
def sp__law_letters_of (K : PySem.W.Frag) : Sp := fun vs H Q _ => ∃ (F : Hp) (b : Addr) (many : Int), vs = [.ref b, .int many] ∧ Bag K b F H ∧ Same F H ∧ 0 ≤ many ∧ many ≤ 100 ∧
  ∀ F' H' L, Sb b F H F' H' → Bag K b F' H' → L.length = many.toNat → Lt L → Q (.str (S L)) H'
theorem txts_of : ∀ {ys : List V}, (∀ (j : Nat) y, ys[j]? = some y → ∃ c : Nat, y = V.str (S [c]) ∧ 97 ≤ c ∧ c ≤ 122) → ∃ L : List Nat, ys = (L.map fun c => S [c]).map V.str ∧ Lt L
  | [], _ => ⟨[], rfl, fun c h => by cases h⟩
  | y :: ys, h => by
    obtain ⟨c, rfl, h1⟩ := h 0 y rfl
    obtain ⟨L, rfl, h2⟩ := txts_of fun j z hz => h (j + 1) z hz
    exact ⟨c :: L, rfl, fun x hx => by rcases List.mem_cons.mp hx with rfl | hx; exact h1; exact h2 x hx⟩
theorem join_ones (L : List Nat) : Txt.join "" (L.map fun c => S [c]) = S L := by
  have : (L.map fun c => S [c]) = (L.map fun c => [c]).map S := by rw [List.map_map]; rfl
  rw [this, e0, SX.join_S, join_flat]
  congr 1
  induction L with
  | nil => rfl
  | cons c r ih => simp [ih]
theorem c__law_letters_of (T : Txt K mg a) : Cl P w K mg base 2 "_law_letters_of" P__law_letters_of (sp__law_letters_of K) [] :=
  T.d__law_letters_of.cl sc__law_letters_of (fun vs H Q E h => by obtain ⟨F, b, m, rfl, _⟩ := h; rfl) fun f cdv A outer s H vs Q E hr h => by
    obtain ⟨F, b, many, rfl, hB, hf, m0, m1, k⟩ := h
    refine ⟨_, ((pss_one (ps_ret (pe_m1 PySem.F.slot_str_join PySem.F.type_str_join mt_join pe_str (pe_lc (own := [("_law_k", 2)]) (g := (gName 2)) (by rfl) sc__law_letters_of.nd (pi_range1 (by rfl) T.n_range (pa_cons (pv 1) pa_nil)) (blkOk_by (own := [("_law_k", 2)]) (N := N__law_letters_of) (sc := defScope s__law_letters_of) (by decide +kernel)) (fun _ _ _ _ _ => (pg_name (i := 2) sc__law_letters_of.nd rfl (Or.inl rfl) (hf := .inr rfl))) (fun _ _ _ _ _ => pts_nil) (fun _ _ _ _ _ => (pe_ix (r := rIxS) ix_str pe_str (pe_f (c__law_pick T) takes0 hr (by decide) rfl (pa_cons (pv 0) (pa_cons pe_int pa_nil))) (fun _ _ => rfl)))))))), ?_⟩
    refine ⟨⟨_, rfl⟩, _, rfl, _, rfl, by omega, by omega, fun D hD => ?_⟩
    refine lcM (memB K b) walk_range hf hB hD (fun i _ y => ∃ c : Nat, y = V.str (S [c]) ∧ 97 ≤ c ∧ c ≤ 122) (fun _ _ _ _ _ z => z) (by omega) (fun F' H' e1 e2 => trivial) ?_ ?_
    · rintro j y F2 H2 H'' Kt Kn hi s2 B2 ⟨rfl, rfl⟩ kk
      refine ⟨rfl, lc_yes ⟨_, rfl, F2, b, _, rfl, B2, s2.fh, by decide, sz_of 5 (by decide) (by decide), fun H3 t s3 B3 t0 t1 => ?_⟩⟩
      exact ⟨_, _, _, rfl, rfl, by decide +kernel, letter_i t0 t1, kk _ _ _ s3 B3 ⟨97 + t.toNat, rfl, by omega, by omega⟩⟩
    · intro F2 H2 ys s2 B2 hD' hy hr'
      obtain ⟨L, rfl, hL⟩ := txts_of hr'
      rw [List.length_map, List.length_map] at hy
      refine ⟨_, D, (L.map fun c => S [c]), rfl, rfl, .inl (SqL.of (s2.fh D _ hD')), ?_, ?_⟩
      · have : ((L.map fun c => S [c]).map (·.length)).sum ≤ L.length := by
          clear hD' hr' hy hL
          induction L with
          | nil => simp
          | cons c r ih => rw [List.map_cons, List.map_cons, List.sum_cons, List.length_cons]; show 1 + _ ≤ _; omega
        rw [List.length_map]
        show _ + _ * 0 ≤ _
        omega
      · rw [join_ones]
        exact k F2 H2 L s2 B2 hy hL
end
end K33

set_option Elab.async false
set_option linter.all false
set_option maxRecDepth 100000
set_option maxHeartbeats 4000000
namespace K33
open PySem PySem.Spec PyProof.Rows L2 Ew
open SX (S)
section
variable {P : Program} {w : World} {K : PySem.W.Frag} {mg : Str → Option Value} {base : Heap} {a : Ad}
/-- names so far -/
structure Sof (ns : List (List Nat)) : Prop where
  nd : ns.Nodup
  nm : ∀ n ∈ ns, Nm8 n ∧ n ∉ wordL
  al : ∀ (i : Nat) n, ns[i]? = some n → Al6 n i
theorem Sof.snoc {ns : List (List Nat)} (h : Sof ns) {n : List Nat} (h1 : Nm8 n) (h2 : Al6 n ns.length) (h3 : n ∉ wordL ++ ns) : Sof (ns ++ [n]) := by
  rw [List.mem_append, not_or] at h3
  refine ⟨?_, fun m hm => ?_, fun i m hm => ?_⟩
  · rw [List.nodup_append]
    refine ⟨h.nd, by simp, fun x hx y hy => ?_⟩
    rw [List.mem_singleton] at hy
    subst hy
    exact fun z => h3.2 (z ▸ hx)
  · rcases List.mem_append.mp hm with hm | hm
    · exact h.nm m hm
    · rw [List.mem_singleton] at hm
      subst hm
      exact ⟨h1, h3.1⟩
  · rcases Nat.lt_or_ge i ns.length with hi | hi
    · rw [List.getElem?_append_left hi] at hm
      exact h.al i m hm
    · rw [List.getElem?_append_right hi] at hm
      have e : i - ns.length = 0 := by
        rcases Nat.eq_zero_or_pos (i - ns.length) with h0 | h0
        · exact h0
        · rw [List.getElem?_eq_none (by simp; omega)] at hm; cases hm
      rw [e] at hm
      cases hm
      rw [show i = ns.length by omega]
      exact h2
theorem Sof.nams {ns : List (List Nat)} (h : Sof ns) : Nams ns := ⟨h.nd, fun n hn => by
  obtain ⟨h1, h2⟩ := h.nm n hn
  exact ⟨h1.lt, h1.ne, Nat.le_trans h1.le (by decide), h2⟩⟩
def sp__law_names_of (K : PySem.W.Frag) : Sp := fun vs H Q _ => ∃ (F : Hp) (b : Addr) (many : Int), vs = [.ref b, .int many] ∧ Bag K b F H ∧ Same F H ∧ 0 ≤ many ∧ many ≤ 20 ∧
  ∀ F' H' p ns, Sb b F H F' H' → Bag K b F' H' → F' p = some (.lst (tsL ns)) → ns.length = many.toNat → Nams ns → Q (.ref p) H'
theorem tsL_app (a b : List (List Nat)) : tsL (a ++ b) = tsL a ++ tsL b := by unfold tsL; rw [List.map_append]
theorem tsL_len (a : List (List Nat)) : (tsL a).length = a.length := by simp [tsL]
theorem ez : ("z" : Str) = S [122] := by decide +kernel
theorem wordL_len : wordL.length = 46 := by decide +kernel
theorem c__law_names_of (T : Txt K mg a) : Cl P w K mg base 3 "_law_names_of" P__law_names_of (sp__law_names_of K) [] :=
  T.d__law_names_of.cl sc__law_names_of (fun vs H Q E h => by obtain ⟨F, b, m, rfl, _⟩ := h; rfl) fun f cdv A outer s H vs Q E hr h => by
    obtain ⟨F, b, many, rfl, hB, hf, m0, m1, k⟩ := h
    refine ⟨_, ((pss_cons (ps_set (i := 2) sc__law_names_of.nd rfl (Or.inl rfl) (pe_f0 (c__law_words T) hr (by decide) rfl))
 (pss_cons (ps_set (i := 3) sc__law_names_of.nd rfl (Or.inl rfl) pe_str)
 (pss_cons (ps_for (passes_of rfl) rfl (pi_range1 (by rfl) T.n_range (pa_cons (pv 1) pa_nil)) (pg_name (i := 4) sc__law_names_of.nd rfl (Or.inl rfl))
 (pss_cons (ps_set (i := 5) sc__law_names_of.nd rfl (Or.inl rfl) (pe_f (c__law_letters_of T) (takes_of rfl rfl rfl rfl) hr (by decide) rfl (pa_cons (pv 0) (pa_cons (pe_op op_add pe_int (pe_f (c__law_pick T) (takes_of rfl rfl rfl rfl) hr (by decide) rfl (pa_cons (pv 0) (pa_cons pe_int pa_nil)))) pa_nil))))
 (pss_cons (ps_set (i := 6) sc__law_names_of.nd rfl (Or.inl rfl) (pv 5))
 (pss_cons (ps_for (passes_of rfl) rfl (pi_range1 (by rfl) T.n_range (pa_cons pe_int pa_nil)) (pg_name (i := 7) sc__law_names_of.nd rfl (Or.inl rfl))
 (pss_cons (ps_if (pt_cmpR op_notIn_seq (pv 6) (pv 2) (by rfl))
 (pss_one ps_break)
 pss_nil)
 (pss_one (ps_set (i := 6) sc__law_names_of.nd rfl (Or.inl rfl) (pe_op op_add_str (pe_op op_add_str (pe_op op_add_str (pe_slice C8.sl_txt (pv 5) po_none (po_some pe_int)) (pe_op op_repS pe_str (pe_op op_add (pv 7) pe_int))) (pe_ix ix_str (pv 3) (pe_op op_mod (pe_callTy call_int1 (by rfl) T.n_int (by decide +kernel) (pa_cons (pv 4) pa_nil)) pe_int) (fun _ _ => rfl))) (pe_ix ix_str (pv 3) (pe_op op_mod (pe_callTy call_int1 (by rfl) T.n_int (by decide +kernel) (pa_cons (pe_op op_fdiv (pv 4) pe_int) pa_nil)) pe_int) (fun _ _ => rfl)))))))
 (pss_one (ps_expr (pe_bm PySem.F.plainAttrs_list PySem.F.slot_list_append PySem.F.type_list_append mt_append (pv 2) (pa_cons (pv 6) pa_nil))))))))
 (pss_one (ps_ret (pe_slice sl_list (pv 2) (po_some (pe_callB call_len_seq (by rfl) T.n_len (by decide +kernel) (pa_cons (pe_f0 (c__law_words T) hr (by decide) rfl) pa_nil))) po_none))))))), ?_⟩
    refine ⟨rfl, fun L hL => ?_⟩
    have nLb : ¬ L = b := fun z => (memB K b).there hB z hL
    have s0 : Sb b F H F (upd H L (.lst (tsL wordL))) := (Stm.refl hf).raw hL hL
    have B0 : Bag K b F (upd H L (.lst (tsL wordL))) := (memB K b).put hB nLb
    have fL : F L = none := hf.free hL
    refine ⟨_, rfl, many, rfl, by omega, by omega, ?_⟩
    refine for_range (lo := 0) (n := many.toNat) (fun i σ' H' => ∃ F' ns c4 c5 c6 c7, σ' = [some (.ref b), some (.int many), some (.ref L), some (.str "abcdefghijklmnopqrstuvwxyz"), c4, c5, c6, c7] ∧ Sb b F H F' H' ∧ Bag K b F' H' ∧ F' L = none ∧ H' L = some (.lst (tsL (wordL ++ ns))) ∧ ns.length = i ∧ Sof ns) ?_ ?_ ?_
    · exact ⟨F, [], none, none, none, none, rfl, s0, B0, fL, by rw [upd_same, List.append_nil], rfl, ⟨by simp, fun n h => by (cases h), fun i n h => by simp at h⟩⟩
    · rintro i _ H1 hi ⟨F1, ns, c4, c5, c6, c7, rfl, s1, B1, f1, h1, hn, sof⟩
      refine ⟨_, rfl, _, rfl, F1, b, _, rfl, B1, s1.fh, by decide, sz_of 3 (by decide) (by decide), fun H2 x s2 B2 x0 x1 => ?_⟩
      refine ⟨_, _, rfl, rfl, F1, b, _, rfl, B2, s2.fh, by omega, by omega, fun F3 H3 d s3 B3 hd hlt => ?_⟩
      have h2 : H2 L = some (.lst (tsL (wordL ++ ns))) := s2.hh L _ nLb h1
      have h3 : H3 L = some (.lst (tsL (wordL ++ ns))) := s3.hh L _ nLb h2
      have f3 : F3 L = none := s3.nw L f1 (by rw [h2]; exact fun z => nomatch z)
      have s3 := seqB s1 B1 (seqB s2 B2 s3)
      have d6 : d.length ≤ 6 := by omega
      have d0 : d ≠ [] := fun z => by rw [z] at hd; simp at hd; omega
      refine ⟨_, rfl, ?_⟩
      refine seq_with (fun σ' H' => ([some (V.ref b), some (.int many), some (.ref L), some (.str "abcdefghijklmnopqrstuvwxyz"), some (.int (0 + (i : Int))), some (.str (S d)), some (.str (S d)), c7] : List (Option V)) = σ' ∧ H3 = H') (fun u hu => hu _ _ ⟨rfl, rfl⟩) ?_
      rintro _ _ ⟨rfl, rfl⟩
      refine seq_with (fun σ' H' => ∃ n c7, ([some (V.ref b), some (.int many), some (.ref L), some (.str "abcdefghijklmnopqrstuvwxyz"), some (.int (0 + (i : Int))), some (.str (S d)), some (.str (S n)), c7] : List (Option V)) = σ' ∧ H3 = H' ∧ n ∉ wordL ++ ns ∧ Nm8 n ∧ Al6 n i) (fun u hu => ?_) ?_
      · refine ⟨9, rfl, by decide, by decide, ?_⟩
        have five : ∀ j, (∀ l, l < j → nth d i l ∈ wordL ++ ns) → j ≤ 4 := fun j hj => by
          rcases Nat.lt_or_ge 4 j with h | h
          · exact absurd (hj 4 h) (fifth d0 sof.al hn)
          · exact h
        refine for_range (lo := 0) (n := 9) (fun j σ' H' => ∃ c7, ([some (V.ref b), some (.int many), some (.ref L), some (.str "abcdefghijklmnopqrstuvwxyz"), some (.int (0 + (i : Int))), some (.str (S d)), some (.str (S (nth d i j))), c7] : List (Option V)) = σ' ∧ H3 = H' ∧ ∀ l, l < j → nth d i l ∈ wordL ++ ns) ?_ ?_ ?_
        · exact ⟨c7, rfl, rfl, fun l hl => absurd hl (Nat.not_lt_zero _)⟩
        · rintro j _ _ hj ⟨c7, rfl, rfl, hl⟩
          refine ⟨_, rfl, _, rfl, L, tsL (wordL ++ ns), rfl, .inl (SqL.of h3), rfl, flat_ts _, _, rfl, ?_⟩
          rw [if_pos rfl, inV_ts]
          have j4 := five j hl
          by_cases hm : nth d i j ∈ wordL ++ ns
          · refine iteN (by rw [decide_eq_true hm]; decide) ?_
            have j3 : j + 1 ≤ 4 := five (j + 1) fun l h => by
              rcases Nat.lt_or_ge l j with q | q
              · exact hl l q
              · rw [show l = j by omega]; exact hm
            have dl : (d.take 2).length ≤ 2 := by rw [List.length_take]; omega
            refine ⟨_, rfl, _, rfl, _, rfl, by rw [SX.S_len, sizeLine_eq]; omega, ?_⟩
            rw [SX.slice_to (by decide), show (2 : Int).toNat = 2 from rfl]
            refine ⟨_, rfl, _, _, rfl, rfl, [122], _, (congrArg V.str ez), rfl, by omega, by omega, by simp, by simp, ?_⟩
            refine ⟨_, _, rfl, rfl, by rw [SX.S_len, SX.S_len, rep_len, sizeLine_eq]; simp; omega, ?_⟩
            refine ⟨_, rfl, _, rfl, .inl ⟨_, rfl, _, _, rfl, rfl, (by decide : (0 : Int) < 26), ?_⟩⟩
            refine ⟨_, _, _, rfl, rfl, by decide +kernel, letter_i (Int.emod_nonneg _ (by decide)) (Int.emod_lt_of_pos _ (by decide)), ?_⟩
            refine ⟨_, _, rfl, rfl, ?_, ?_⟩
            · rw [PySem.Str.length_append, SX.S_len, SX.S_len, rep_len, sizeLine_eq]; show _ + 1 ≤ _; simp; omega
            refine ⟨_, rfl, _, rfl, _, _, rfl, rfl, ⟨by decide, by decide⟩, .inl ⟨_, rfl, _, _, rfl, rfl, (by decide : (0 : Int) < 26), ?_⟩⟩
            refine ⟨_, _, _, rfl, rfl, by decide +kernel, letter_i (Int.emod_nonneg _ (by decide)) (Int.emod_lt_of_pos _ (by decide)), ?_⟩
            refine ⟨_, _, rfl, rfl, ?_, ?_⟩
            · rw [PySem.Str.length_append, PySem.Str.length_append, SX.S_len, SX.S_len, rep_len, sizeLine_eq]; show _ + 1 + 1 ≤ _; simp; omega
            refine ⟨some (.int (0 + (j : Int))), ?_, rfl, fun l h => ?_⟩
            · have e1 : (S (d.take 2) ++ S (rep ((0 + (j : Int)) + 1).toNat [122]) ++ (⟨#[97 + ((0 + (i : Int)) % 26).toNat]⟩ : Str) ++ (⟨#[97 + ((0 + (i : Int)) / 26 % 26).toNat]⟩ : Str)) = S (nth d i (j + 1)) := by
                have x1 : ((0 + (i : Int)) % 26).toNat = i := by omega
                have x2 : ((0 + (i : Int)) / 26 % 26).toNat = 0 := by omega
                have x3 : ((0 + (j : Int)) + 1).toNat = j + 1 := by omega
                rw [x1, x2, x3]
                show S (d.take 2) ++ S (rep (j + 1) [122]) ++ S [97 + i] ++ S [97] = S (alt d i j)
                rw [SX.S_cat, SX.S_cat, SX.S_cat]
                have er : rep (j + 1) [122] = List.replicate (j + 1) 122 := List.flatten_replicate_singleton
                rw [er]
                rfl
              exact congrArg (fun x => ([some (V.ref b), some (.int many), some (.ref L), some (.str "abcdefghijklmnopqrstuvwxyz"), some (.int (0 + (i : Int))), some (.str (S d)), some (.str x), some (.int (0 + (j : Int)))] : List (Option V))) e1.symm
            · rcases Nat.lt_or_ge l j with q | q
              · exact hl l q
              · rw [show l = j by omega]; exact hm
          · refine iteY (by rw [decide_eq_false hm]; rfl) ?_
            obtain ⟨g1, g2⟩ := nth_nm hlt d0 d6 (k := i) (by omega) j4
            exact hu _ _ ⟨_, _, rfl, rfl, hm, g1, g2⟩
        · rintro _ _ ⟨c7, rfl, rfl, hl⟩
          exact absurd (five 9 hl) (by decide)
      rintro _ _ ⟨n, c7', rfl, rfl, hm, g1, g2⟩
      refine ⟨_, rfl, .inl ⟨rfl, _, SqL.of h3⟩, _, rfl, L, _, _, rfl, rfl, h3, ?_, ?_⟩
      · rw [tsL_len, List.length_append, sizeLine_eq, wordL_len]; omega
      · refine ⟨F3, ns ++ [n], _, _, _, _, rfl, s3.mut f3 hL, (memB K b).put B3 nLb, f3, ?_, by simp [hn], sof.snoc g1 (by rw [hn]; exact g2) hm⟩
        rw [upd_same, ← List.append_assoc, tsL_app (wordL ++ ns)]
        rfl
    · rintro _ H1 ⟨F1, ns, c4, c5, c6, c7, rfl, s1, B1, f1, h1, hn, sof⟩
      refine ⟨_, rfl, rfl, fun p hp => ?_⟩
      obtain ⟨s2, B2⟩ := newB (o := .lst (tsL wordL)) s1 B1 hp
      have nLp : L ≠ p := fun z => by rw [z, hp] at h1; cases h1
      refine ⟨p, _, rfl, .inl (SqL.of upd_same), _, rfl, L, _, rfl, SqL.of (by rw [upd_ne nLp]; exact h1), fun q hq => ?_⟩
      obtain ⟨s3, B3⟩ := newB (o := .lst (tsL ns)) s2 B2 hq
      have ec : cutV (tsL (wordL ++ ns)) (some ((tsL wordL).length : Int)) none = tsL ns := by
        rw [cut_from _ (by rw [tsL_len, tsL_len, List.length_append]; omega), tsL_app, List.drop_left]
      rw [ec]
      exact k _ _ q ns s3 B3 upd_same hn sof.nams
end
end K33

set_option Elab.async false
set_option linter.all false
set_option maxRecDepth 100000
set_option maxHeartbeats 4000000
namespace Ew
open PySem PySem.Spec PyProof.Rows L2
open PySem.W (EachIs AllAlike Sortable dataLe dataKind SortsAt)
/-! ### sorted of keys that are tuples -/
def keyD : Key → PyData
  | .inl n => .int n
  | .inr s => .str s
def keyP (k : List Key) : PyData := .tuple (k.map keyD)
/-- keys, and where each stands -/
abbrev KAs := List (List Key × Addr)
def srt (ps : KAs) : KAs := ps.mergeSort (dataLe false fun q => keyP q.1)
def refsOf (ps : KAs) : List V := ps.map fun q => V.ref q.2
theorem dp_keys {K : PySem.W.Frag} {H : Hp} : ∀ k : List Key, DpAll K H (k.map kV) (k.map keyD)
  | [] => .nil
  | .inl n :: k => .cons (.int n) (dp_keys k)
  | .inr s :: k => .cons (.str s) (dp_keys k)
theorem dp_key {K : PySem.W.Frag} {H : Hp} {b : Addr} {k : List Key} (h : SqT K H b (k.map kV)) : Dp K H (.ref b) (keyP k) := .tup h (dp_keys k)
theorem depth_keys : ∀ k : List Key, PyData.depthAll (k.map keyD) = 0
  | [] => by rw [List.map_nil, PyData.depthAll]
  | .inl n :: k => by rw [List.map_cons, PyData.depthAll, depth_keys k]; rfl
  | .inr s :: k => by rw [List.map_cons, PyData.depthAll, depth_keys k]; rfl
theorem depth_key (k : List Key) : (keyP k).depth ≤ 1 := by
  unfold keyP
  rw [PyData.depth, depth_keys]
  exact Nat.le_refl _
theorem each_refs {R : Value → List Key × Addr → Prop} : ∀ {vs : List Value} {ps : KAs}, vs = ps.map (fun q => Value.ref q.2) → (∀ q ∈ ps, R (.ref q.2) q) → EachIs R vs ps
  | _, [], rfl, _ => .nil
  | _, q :: ps, rfl, h => .cons (h q List.mem_cons_self) (each_refs rfl fun x hx => h x (List.mem_cons_of_mem _ hx))
theorem refs_each : ∀ {vs : List Value} {ps : KAs}, EachIs (fun v q => v = Value.ref q.2) vs ps → Vals (refsOf ps) vs
  | _, _, .nil => .nil
  | _, _, .cons rfl h => .cons rfl (refs_each h)
theorem refs_vals : ∀ {ps : KAs} {us : List Value}, Vals (refsOf ps) us → us = ps.map fun q => Value.ref q.2
  | [], _, .nil => rfl
  | q :: ps, _, .cons rfl h => by rw [refs_vals h]; rfl
section
variable {X : Cx}
/-- sorted(xs), xs a list of such tuples -/
def rSortL (K : PySem.W.Frag) : List V → Hp → VK → Prop := fun vs H Q => ∃ (a : Addr) (ps : KAs), vs = [V.ref a] ∧ SqL K H a (refsOf ps) ∧ (∀ q ∈ ps, SqT K H q.2 (q.1.map kV)) ∧ AllAlike (ps.map fun q => keyP q.1) ∧ Sortable (ps.map fun q => keyP q.1) ∧
  ∀ p, H p = none → Q (.ref p) (upd H p (.lst (refsOf (srt ps))))
theorem call_sortL (hu : X.A.units + 64 < cLine) : CallR X (.builtin "sorted") (rSortL X.K) := by
  intro pins s σ H vs us Q I r h
  obtain ⟨a, ps, rfl, hs, hx, hal, hk, q⟩ := h
  obtain ⟨its, rv, hl, hz⟩ := I.list hs
  obtain ⟨u, rfl, ru⟩ := vals1 r
  obtain rfl : u = Value.ref a := ru
  have ei := refs_vals rv
  have lz : ps.length ≤ sizeLine := by unfold refsOf at hz; rwa [List.length_map] at hz
  have rd : ∀ q ∈ ps, ∃ as, Reads s.heap (.ref q.2) (keyP q.1) as := fun q hq => Dp.reads I _ _ _ (dp_key (hx q hq)) rfl
  refine PySem.W.sorted_data (R := fun v q => v = Value.ref q.2) (enc := fun q : List Key × Addr => keyP q.1) hl.isList (each_refs ei fun _ _ => rfl) (each_refs ei fun q hq => rd q hq) hal hk lz (fun b _ => ?_) fun out ho hR => ?_
  · have := depth_key b.1
    show X.A.units + 2 + (keyP b.1).depth < cLine
    omega
  · obtain ⟨n, hn⟩ := sortedAll_at s.heap its out.toArray
    refine ⟨.ref _, upd H (s.heap.objs.size + 1) (.lst (refsOf (srt ps))), I.laid (t' := s.toks) (fun b o e => sortedAll_old e) (Nat.le_succ _) ⟨?_, out, n, refs_each hR, hn⟩, rfl, q _ (I.hok.fresh (Nat.le_succ _))⟩
    unfold refsOf srt
    rw [List.length_map, List.length_mergeSort]
    exact lz
end
/-! ### the keys of a dict, collected -/
section
variable {P : Program} {w : World} {A : Around} {E : Value → Shared → Prop} {s : Shared} {d : Addr} {o : Obj} {es : Array DictEntry} {ep : Nat}
theorem collect_keys {R : List Value → Shared → Prop} (hh : A.handled = none) (lo : (d == sysModules) = false) (hx : o.ExactDict) (hd : o.data = .dict es ep) (ho : s.heap.get? d = some o) (hn : es.size ≤ sizeLine)
    (h : ∀ (h' : Heap) (tk : Nat) (vs : List Value), (∀ b u, s.heap.get? b = some u → h'.get? b = some u) → s.heap.objs.size ≤ h'.objs.size → vs.length = es.size → (∀ (i : Nat) v, vs[i]? = some v → ∃ en : DictEntry, es[i]? = some en ∧ v = en.key) → R vs { s with heap := h', toks := tk }) :
    wpAny (model P w) A (collect (.ref d)) R E s := by
  have below : d < s.heap.objs.size := Heap.lt_size ho
  unfold collect
  refine wpAny_bind
    (wpAny_runValue (codeAny_builtin PySem.F.entry_proto_collect ?_))
  rw [Around.under_plainId
    PySem.F.plain_proto_collect _]
  show wpAny _ A.in1 (newList [] >>= fun l => again (.builtin "list.__iadd__" ⟨[l, .ref d], []⟩)) _ _ s
  refine wpAny_bind
    (wpAny_newObj_type (wpAny_pure ⟨plainId_quiet PySem.F.plain_list_iadd _, codeAny_builtin PySem.F.entry_list_iadd ?_⟩))
  rw [Around.under_plainId
    PySem.F.plain_list_iadd _]
  have at0 : (s.heap.push { cls := .type "list", data := .seq ([] : List Value).toArray }).get? s.heap.objs.size = some { cls := .type "list", data := .seq #[] } := Heap.get?_push_size _ rfl
  show wpAny _ A.in1 (Builtin.List.listExtendWith (.ref s.heap.objs.size) (.ref d) (.ref s.heap.objs.size)) _ _ _
  have run := PySem.W.kdl_extend (prog := P) (w := w) (A := A) (s := { s with heap := s.heap.push { cls := .type "list", data := .seq ([] : List Value).toArray } })
    (R := fun (q : Result) (s' : Shared) => ∃ (h' : Heap) (tk : Nat) (acc : Array Value) (c : Nat), q = .ok (.ret (.ref s.heap.objs.size)) ∧ s' = { s with heap := h', toks := tk } ∧
      (∀ b u, s.heap.get? b = some u → h'.get? b = some u) ∧ h'.get? s.heap.objs.size = some { cls := .type "list", dict := none, data := .seq acc c, slots := #[] } ∧ ItemsOf (fun i v => ∃ en : DictEntry, es[i]? = some en ∧ v = en.key) acc es.size)
    (kdl_raw (prog := P) (w := w) lo hx hd) hh (Heap.get?_push_of_some _ ho) s.heap.objs.size (Nat.ne_of_gt below) (Nat.ne_of_gt below) (.ref s.heap.objs.size) 0 at0
    (fun h' tk acc c k e it => ⟨h', tk, acc, c, rfl, rfl, fun b u z => k b u (Nat.ne_of_lt (Heap.lt_size z)) (Heap.get?_push_of_some _ z), e, it⟩) hn
  have fin : ∀ (q : Result) (s' : Shared), (∃ (h' : Heap) (tk : Nat) (acc : Array Value) (c : Nat), q = .ok (.ret (.ref s.heap.objs.size)) ∧ s' = { s with heap := h', toks := tk } ∧
      (∀ b u, s.heap.get? b = some u → h'.get? b = some u) ∧ h'.get? s.heap.objs.size = some { cls := .type "list", dict := none, data := .seq acc c, slots := #[] } ∧ ItemsOf (fun i v => ∃ en : DictEntry, es[i]? = some en ∧ v = en.key) acc es.size) →
      q = .ok (.ret (.ref s.heap.objs.size)) ∧ wpAny (model P w) A (do let o ← load s.heap.objs.size; match o.data with | .seq xs _ => pure xs.toList | _ => unsupported "internal:collect") R E s' := by
    rintro q s' ⟨h', tk, acc, c, rfl, rfl, k, e, it⟩
    refine ⟨rfl, wpAny_bind (wpAny_load e (wpAny_pure ?_))⟩
    exact h h' tk acc.toList k (Nat.le_of_lt (Heap.lt_size e)) (by rw [Array.length_toList]; exact it.1) fun i v z => it.2 i v (by rw [← Array.getElem?_toList]; exact z)
  refine wpAny_mono run (fun f s' z => ?_) fun e s' z => ?_
  · cases f with
    | done f =>
      have y := fin _ s' z
      cases y.1
      exact y.2
    | again c =>
      refine ⟨z.1, codeAny_mono z.2 fun q s2 y => ?_⟩
      have y2 := fin _ s2 y
      cases y2.1
      exact y2.2
  · obtain ⟨_, _, _, _, e, _⟩ := z
    cases e
end
/-! ### a new list of such tuples, sorted -/
section
variable {P : Program} {w : World} {A : Around} {E : Value → Shared → Prop} {s : Shared}
theorem sort_fresh {vs : List Value} {ps : KAs} {Q : Value → Shared → Prop} (hv : vs = ps.map fun q => Value.ref q.2) (rd : ∀ q ∈ ps, ∃ as, Reads s.heap (.ref q.2) (keyP q.1) as) (hal : AllAlike (ps.map fun q => keyP q.1)) (hk : Sortable (ps.map fun q => keyP q.1))
    (hL : ps.length ≤ sizeLine) (hu : A.units + 3 < cLine) (h : ∀ (h' : Heap) (out : List Value) (n : Nat), Vals (refsOf (srt ps)) out → (∀ b u, s.heap.get? b = some u → h'.get? b = some u) → h'.get? s.heap.objs.size = some (seqObj "list" out.toArray n) → Q .none { s with heap := h' }) :
    wpAny (model P w) A (call (.builtin "list.sort") [.ref s.heap.objs.size]) Q E { s with heap := s.heap.push (seqObj "list" vs.toArray 0) } := by
  have ho : (s.heap.push (seqObj "list" vs.toArray 0)).get? s.heap.objs.size = some (seqObj "list" vs.toArray 0) := Heap.get?_push_size _ rfl
  have old : ∀ b u, s.heap.get? b = some u → (s.heap.push (seqObj "list" vs.toArray 0)).get? b = some u := fun b u e => Heap.get?_push_of_some _ e
  generalize s.heap.push (seqObj "list" vs.toArray 0) = H1 at ho old ⊢
  have rd1 : EachIs (fun v q => ∃ as, Reads (PySem.W.sortingHeap H1 s.heap.objs.size vs) v (keyP q.1) as) vs ps := each_refs hv fun q hq => by
    obtain ⟨as, r⟩ := rd q hq
    exact ⟨as, PyProof.Rows.Reads.keeps (fun b u e => PySem.W.sortingHeap_old (Nat.ne_of_lt (Heap.lt_size e)) (old b u e)) r⟩
  have e0 : EachIs (fun v q => v = Value.ref q.2) vs ps := each_refs hv fun _ _ => rfl
  have srtAt : SortsAt P w A.in1 { s with heap := PySem.W.sortingHeap H1 s.heap.objs.size vs } (dataKind (PySem.W.sortingHeap H1 s.heap.objs.size vs) (ps.map fun q => keyP q.1)) vs :=
    SortsAt.data (s := { s with heap := PySem.W.sortingHeap H1 s.heap.objs.size vs })
      (PySem.W.each_map (R := fun v d => ∃ as, Reads (PySem.W.sortingHeap H1 s.heap.objs.size vs) v d as) (fun q : List Key × Addr => keyP q.1) rd1) hal hk fun d hd => by
        obtain ⟨q, _, rfl⟩ := List.mem_map.mp hd
        have := depth_key q.1
        show A.units + 1 + (keyP q.1).depth < cLine
        omega
  refine wpAny_call_entry slot_list_sort ⟨_, ho, rfl⟩ entry_list_sort
    (PySem.W.list_sort_vals ho srtAt (by rw [e0.length]; exact hL) ⟨.none, rfl, ?_⟩) (args_list_sort _)
  obtain ⟨n, hn⟩ := sortedHeap_at (vs := vs) (out := (PySem.W.sortVals (dataKind (PySem.W.sortingHeap H1 s.heap.objs.size vs) (ps.map fun q => keyP q.1)) false vs vs).toArray) ho
  refine h _ _ n (refs_each (PySem.W.sortVals_data false e0 rd1 hal)) (fun b u e => ?_) hn
  rw [sortedHeap_old (Nat.ne_of_lt (Heap.lt_size e)) (Heap.lt_size (old b u e))]
  exact old b u e
end
/-! ### sorted of such a dict -/
section
variable {X : Cx}
theorem keys_alike {H : Hp} : ∀ {kvs : List (List Key × V)} {bs : List Addr}, IsKeys H kvs bs → ((kvs.map (·.1)).zip bs).map (·.1) = kvs.map (·.1) ∧ ((kvs.map (·.1)).zip bs).map (·.2) = bs ∧ ∀ q ∈ (kvs.map (·.1)).zip bs, H q.2 = some (.tup (q.1.map kV))
  | _, _, .nil => ⟨rfl, rfl, fun q h => by cases h⟩
  | c :: kvs, b :: bs, .cons h t => by
    obtain ⟨h1, h2, h3⟩ := keys_alike t
    rw [List.map_cons, List.zip_cons_cons]
    refine ⟨by rw [List.map_cons, h1], by rw [List.map_cons, h2], fun q hq => ?_⟩
    rcases List.mem_cons.mp hq with rfl | hq
    · exact h
    · exact h3 q hq
def rSortD : List V → Hp → VK → Prop := fun vs H Q => ∃ (d : Addr) (kvs : List (List Key × V)), vs = [.ref d] ∧ H d = some (.dT kvs) ∧ AllAlike (kvs.map fun c => keyP c.1) ∧ Sortable (kvs.map fun c => keyP c.1) ∧
  ∀ p bs, H p = none → IsKeys H kvs bs → Q (.ref p) (upd H p (.lst (refsOf (srt ((kvs.map (·.1)).zip bs)))))
theorem call_sortD (hc : X.calm = true) (hu : X.A.units + 64 < cLine) : CallR X (.builtin "sorted") rSortD := by
  intro pins s σ H vs us Q I r h
  obtain ⟨d, kvs, rfl, hd, hal, hk, q⟩ := h
  obtain ⟨u, rfl, rx⟩ := r.one
  cases rx
  obtain ⟨z, hs, ks, pr, o, es, ep, ho, hx, hdt, he, hn⟩ := dt_of I.hok hd
  have l1 : es.size = ks.length := size_of_entries he
  have l2 : kvs.length = ks.length := Paired.length pr
  have ik := isKeys_of pr
  obtain ⟨k1, k2, k3⟩ := keys_alike ik
  generalize eB : ks.map (fun x => x.2.1) = bs at ik k1 k2 k3
  refine Calls.call_function_entry kind_sorted plain_sorted
    entry_sorted (args_sorted1 _) ?_
  unfold Builtin.«sorted»
  refine wpAny_bind (m := checkCount "sorted" 1 1 _)
    (wpAny_pure (wpAny_bind (collect_keys (A := X.A.in1) (show X.A.in1.handled = none from I.ok.hd hc) hs hx hdt ho (by omega) fun h' tk vs kp big vl it => ?_)))
  have ev : vs = ((kvs.map (·.1)).zip bs).map fun q => Value.ref q.2 := by
    have : ((kvs.map (·.1)).zip bs).map (fun q => Value.ref q.2) = (((kvs.map (·.1)).zip bs).map (·.2)).map Value.ref := by rw [List.map_map]; rfl
    rw [this, k2, ← eB, List.map_map]
    apply List.ext_getElem?
    intro j
    rw [List.getElem?_map]
    cases hj : vs[j]? with
    | none =>
      have h1 := List.getElem?_eq_none_iff.mp hj
      rw [List.getElem?_eq_none (by omega)]
      all_goals rfl
    | some v =>
      obtain ⟨en, hen, hv⟩ := it j v hj
      have qe := entry_at he j
      rw [hen] at qe
      cases hb : ks[j]? with
      | none =>
        rw [hb] at qe
        exact nomatch (show some en = none from qe)
      | some b =>
        rw [hb] at qe
        have e2 : en = entryOfKey (tupleKind (mixKind X.prog X.w)) b := Option.some.inj qe
        rw [hv, e2]
        all_goals rfl
  have hz : ((kvs.map (·.1)).zip bs).length = kvs.length := by rw [← List.length_map (f := (·.1)), k1, List.length_map]
  have el : vs.length = kvs.length := by rw [ev, List.length_map, hz]
  refine wpAny_bind (wpAny_newList ?_ (by omega))
  have al2 : ((kvs.map (·.1)).zip bs).map (fun q => keyP q.1) = kvs.map fun c => keyP c.1 := by
    have : ((kvs.map (·.1)).zip bs).map (fun q => keyP q.1) = (((kvs.map (·.1)).zip bs).map (·.1)).map keyP := by rw [List.map_map]; rfl
    rw [this, k1, List.map_map]
    rfl
  have rd : ∀ q ∈ (kvs.map (·.1)).zip bs, ∃ as, Reads h' (.ref q.2) (keyP q.1) as := fun q hq => by
    obtain ⟨as, r⟩ := Dp.reads I _ _ _ (dp_key (SqT.of (k3 q hq))) rfl
    exact ⟨as, PyProof.Rows.Reads.keeps kp r⟩
  refine wpAny_bind (wpAny_holding (sort_fresh (s := { s with heap := h', toks := tk }) ev rd (by rw [al2]; exact hal) (by rw [al2]; exact hk) (by omega) (by show X.A.units + 1 + 3 < cLine; omega) fun h2 out n rv kp2 at2 => ?_))
  refine wpAny_pure ⟨_, rfl, .ref h'.objs.size, upd H h'.objs.size (.lst (refsOf (srt ((kvs.map (·.1)).zip bs)))), ?_, rfl, q _ bs (I.hok.fresh ?_) ik⟩
  · refine I.laid (t' := tk) (fun b u e => kp2 b u (kp b u e)) ?_ ⟨?_, out, n, rv, at2⟩
    · exact big
    · unfold refsOf srt
      rw [List.length_map, List.length_mergeSort]
      omega
  · exact big
end
end Ew

set_option Elab.async false
set_option linter.all false
set_option maxRecDepth 100000
set_option maxHeartbeats 4000000
namespace K33
open PySem PySem.Spec PyProof.Rows L2 Ew
/-! ### ratios as rational numbers -/
def nd (x : Rat) : Int × Int := (x.num, (x.den : Int))
theorem nd_low (x : Rat) : Low (nd x) := ⟨by have := x.den_pos; show (1 : Int) ≤ (x.den : Int); omega, by show Nat.gcd x.num.natAbs (x.den : Int).natAbs = 1; rw [Int.natAbs_natCast]; exact x.reduced⟩
theorem nd_den (x : Rat) : (nd x).2 ≠ 0 := by have := x.den_pos; show (x.den : Int) ≠ 0; omega
theorem nd_inj {x y : Rat} (h : nd x = nd y) : x = y := by
  have h1 : x.num = y.num := congrArg Prod.fst h
  have h2 : (x.den : Int) = (y.den : Int) := congrArg Prod.snd h
  exact Rat.ext h1 (by omega)
theorem rat_cross (n d : Int) : (rat n d).1 * d = n * (rat n d).2 := by
  unfold rat
  obtain ⟨x, hx⟩ := com_dn n d
  obtain ⟨y, hy⟩ := com_dd n d
  generalize com n d = c at *
  dsimp only
  by_cases c0 : c = 0
  · subst c0
    rw [Int.zero_mul] at hx hy
    subst hx hy
    rfl
  · subst hx hy
    rw [Int.mul_fdiv_cancel_left _ c0, Int.mul_fdiv_cancel_left _ c0, Int.mul_left_comm, ← Int.mul_assoc]
/-- what is in lowest terms and has the value is the number's own pair -/
theorem low_nd {r : Int × Int} {x : Rat} (l : Low r) (h : (r.1 : Rat) = x * (r.2 : Rat)) : r = nd x := by
  obtain ⟨n, d⟩ := r
  obtain ⟨l1, l2⟩ := l
  dsimp only at *
  have e := Rat.mkRat_eq_div
  have hd : d.toNat ≠ 0 := by omega
  have e2 : x = mkRat n d.toNat := by
    rw [Rat.mkRat_eq_div, show ((d.toNat : Nat) : Rat) = (d : Rat) by rw [← Rat.intCast_natCast]; congr 1; omega]
    have d0 : (d : Rat) ≠ 0 := by
      intro z
      have : d = 0 := by exact_mod_cast z
      omega
    rw [h]
    grind
  have e3 : mkRat n d.toNat = ⟨n, d.toNat, hd, by show Nat.Coprime n.natAbs d.toNat; rw [show d.toNat = d.natAbs by omega]; exact l2⟩ := by
    rw [← Rat.normalize_eq_mkRat hd]
    exact Rat.normalize_eq_mk' _ _ _ _
  rw [e2, e3]
  show (n, d) = (n, ((d.toNat : Nat) : Int))
  congr 1
  omega
theorem nd_val (x : Rat) : ((nd x).1 : Rat) = x * ((nd x).2 : Rat) := by
  have h : x * (x.den : Rat) = (x.num : Rat) := by
    have e := Rat.mkRat_self x
    rw [Rat.mkRat_eq_div] at e
    have d0 : (x.den : Rat) ≠ 0 := by
      intro z
      have := x.den_pos
      have : x.den = 0 := by exact_mod_cast z
      omega
    generalize (x.den : Rat) = d at *
    generalize (x.num : Rat) = n at *
    subst e
    grind
  show (x.num : Rat) = x * (((x.den : Nat) : Int) : Rat)
  rw [Rat.intCast_natCast]
  exact h.symm
theorem rat_nd {n d : Int} {x : Rat} (h0 : d ≠ 0) (h : (n : Rat) = x * (d : Rat)) : rat n d = nd x := by
  refine low_nd (low_rat h0) ?_
  have c := congrArg (fun z : Int => (z : Rat)) (rat_cross n d)
  rw [Rat.intCast_mul, Rat.intCast_mul, h] at c
  have d0 : (d : Rat) ≠ 0 := fun z => h0 (by exact_mod_cast z)
  grind
theorem plus_nd (x y : Rat) : rPlus (nd x) (nd y) = nd (x + y) := by
  unfold rPlus
  refine rat_nd (Int.mul_ne_zero (nd_den x) (nd_den y)) ?_
  rw [Rat.intCast_add, Rat.intCast_mul, Rat.intCast_mul, Rat.intCast_mul, nd_val x, nd_val y]
  grind
theorem times_nd (x y : Rat) : rTimes (nd x) (nd y) = nd (x * y) := by
  unfold rTimes
  refine rat_nd (Int.mul_ne_zero (nd_den x) (nd_den y)) ?_
  rw [Rat.intCast_mul, Rat.intCast_mul, nd_val x, nd_val y]
  grind
theorem nd_zero : nd 0 = (0, 1) := rfl
theorem nd_one : nd 1 = (1, 1) := rfl
theorem nd_mone : nd (-1) = (-1, 1) := by decide +kernel
/-- below 2 ^ k, above and below the line -/
structure Fn (k : Nat) (x : Rat) : Prop where
  a : Sz k (nd x).1
  b : Sz k (nd x).2
section
variable {x y : Rat} {k l : Nat}
theorem Fn.mono (h : Fn k x) (z : k ≤ l) : Fn l x := ⟨h.a.mono z, h.b.mono z⟩
theorem Fn.plus (h : Fn k x) (t : Fn l y) : Fn (k + l + 1) (x + y) := by
  have e := plus_nd x y
  have z := rat_sz (n := (nd x).1 * (nd y).2 + (nd y).1 * (nd x).2) (d := (nd x).2 * (nd y).2) (b := k + l + 1) (Sz.add (h.a.mul t.b) (by rw [Nat.add_comm k l]; exact t.a.mul h.b)) ((h.b.mul t.b).mono (by omega))
  unfold rPlus at e
  rw [e] at z
  exact ⟨z.1, z.2⟩
theorem Fn.times (h : Fn k x) (t : Fn l y) : Fn (k + l) (x * y) := by
  have e := times_nd x y
  have z := rat_sz (n := (nd x).1 * (nd y).1) (d := (nd x).2 * (nd y).2) (b := k + l) (h.a.mul t.a) (h.b.mul t.b)
  unfold rTimes at e
  rw [e] at z
  exact ⟨z.1, z.2⟩
theorem fn_zero : Fn 1 0 := ⟨by unfold Sz; decide, by unfold Sz; decide⟩
end
section
variable {K : PySem.W.Frag}
/-- at v the ratio x -/
def Rq (K : PySem.W.Frag) (F : Hp) (v : V) (x : Rat) : Prop := Rt K F v (nd x)
theorem Rq.up {F F' : Hp} {v : V} {x : Rat} (h : Rq K F v x) (e : Same F F') : Rq K F' v x := Rt.up h e
/-- what the two defs of two ratios say of it -/
theorem two_plus {F H : Hp} {u v : V} {x y : Rat} {Q : VK} {E : XK} (hu : Rq K F u x) (hv : Rq K F v y) (fx : Fn 2000 x) (fy : Fn 2000 y) (hf : Same F H) (k : ∀ F' H' z, Stp F H F' H' → Rq K F' z (x + y) → Q z H') : sp_two K rPlus [u, v] H Q E :=
  ⟨F, u, v, nd x, nd y, rfl, hu, hv, fx.a, fx.b, fy.a, fy.b, nd_den x, nd_den y, hf, fun F' H' z s h => k F' H' z s (by rw [plus_nd] at h; exact h)⟩
theorem two_times {F H : Hp} {u v : V} {x y : Rat} {Q : VK} {E : XK} (hu : Rq K F u x) (hv : Rq K F v y) (fx : Fn 2000 x) (fy : Fn 2000 y) (hf : Same F H) (k : ∀ F' H' z, Stp F H F' H' → Rq K F' z (x * y) → Q z H') : sp_two K rTimes [u, v] H Q E :=
  ⟨F, u, v, nd x, nd y, rfl, hu, hv, fx.a, fx.b, fy.a, fy.b, nd_den x, nd_den y, hf, fun F' H' z s h => k F' H' z s (by rw [times_nd] at h; exact h)⟩
end
/-! ### the order of spots -/
def ltS (s t : Spot) : Bool := PySem.W.dataLt (spD s) (spD t)
theorem ltS_irr (s : Spot) : ltS s s = false := lex_irrefl (O := itemOrd) _
theorem ltS_trans {s t u : Spot} (h : ltS s t = true) (k : ltS t u = true) : ltS s u = true := lex_trans (O := itemOrd) _ _ _ h k
theorem ltS_neg {s t u : Spot} (h : ltS s u = true) : ltS s t = true ∨ ltS t u = true := lex_negTrans (O := itemOrd) _ _ _ h
theorem toks_sp (s : Spot) : PySem.W.keyToks (spD s) = [.inl 1, .inr s.1.cps.toList, .inl 1, .inl s.2.1, .inl 1, .inl s.2.2, .inl 0] := rfl
theorem ltS_total {s t : Spot} (h : ltS s t = false) (k : ltS t s = false) : s = t := by
  have e := lex_total (O := itemOrd) _ _ h k
  rw [toks_sp, toks_sp] at e
  obtain ⟨n, a, b⟩ := s
  obtain ⟨n', a', b'⟩ := t
  simp only [List.cons.injEq, Sum.inl.injEq, Sum.inr.injEq, and_true, true_and] at e
  obtain ⟨e1, e2, e3⟩ := e
  have e1 := PySem.W.str_of_cps e1
  subst e1 e2 e3
  rfl
/-- one after the other, none twice -/
def Srt (L : List Spot) : Prop := L.Pairwise fun s t => ltS s t = true
theorem Srt.nodup {L : List Spot} (h : Srt L) : L.Nodup := h.imp fun {a b} z e => by
  subst e
  rw [ltS_irr] at z
  cases z
/-- there is just one such row of given spots -/
theorem Srt.uniq : ∀ {L M : List Spot}, Srt L → Srt M → (∀ s, s ∈ L ↔ s ∈ M) → L = M
  | [], [], _, _, _ => rfl
  | [], t :: M, _, _, h => absurd ((h t).mpr List.mem_cons_self) (by simp)
  | s :: L, [], _, _, h => absurd ((h s).mp List.mem_cons_self) (by simp)
  | s :: L, t :: M, hl, hm, h => by
    have l1 := List.pairwise_cons.mp hl
    have m1 := List.pairwise_cons.mp hm
    have e : s = t := by
      rcases List.mem_cons.mp ((h s).mp List.mem_cons_self) with e | e
      · exact e
      rcases List.mem_cons.mp ((h t).mpr List.mem_cons_self) with e' | e'
      · exact e'.symm
      have := ltS_trans (l1.1 t e') (m1.1 s e)
      rw [ltS_irr] at this
      cases this
    subst e
    refine congrArg (s :: ·) (Srt.uniq l1.2 m1.2 fun u => ⟨fun z => ?_, fun z => ?_⟩)
    · rcases List.mem_cons.mp ((h u).mp (List.mem_cons_of_mem _ z)) with e | e
      · subst e
        exact absurd z fun z => by
          have := l1.1 u z
          rw [ltS_irr] at this
          cases this
      · exact e
    · rcases List.mem_cons.mp ((h u).mpr (List.mem_cons_of_mem _ z)) with e | e
      · subst e
        exact absurd z fun z => by
          have := m1.1 u z
          rw [ltS_irr] at this
          cases this
      · exact e
end K33

set_option Elab.async false
set_option linter.all false
set_option maxRecDepth 100000
set_option maxHeartbeats 4000000
namespace Ew
open PySem PySem.Spec PyProof.Rows L2
section
variable {F H F' H' F2 H2 : Hp} {J : It} {n : Nat} {G : Hp → Prop} {Y : Nat → Hp → V → Hp → Prop}
/-- [.. for x in xs if ..], nothing is changed: the turns that are kept give an item each -/
theorem lcF (w : Walk J n G Y) {g : TG} {tt : TT} {te : TE} {vs : List Nat} {σ : L2.St} {D : Addr} {Qd : Hp → Prop} (keep : Nat → Bool) (hf : Same F H) (hD : H D = none) (R : Nat → Hp → V → Prop) (hR : ∀ i F F' y, Same F F' → R i F y → R i F' y)
    (hn : n ≤ 1000000) (hG : ∀ F' H', Same F F' → Same F' H' → G H')
    (hs : ∀ i x F' H' H'' (Kt : VK) (Kn : Hp → Prop), i < n → Stp F H F' H' → Y i H' x H'' → (keep i = true → ∀ y F4 H4, Stp F' H' F4 H4 → R i F4 y → Kt y H4) → (keep i = false → ∀ F4 H4, Stp F' H' F4 H4 → Kn H4) →
      g x (wipe σ vs) H'' fun σ2 H2 => wipe σ2 vs = wipe σ vs ∧ tt σ2 H2 fun b H3 => if b = true then te σ2 H3 Kt else Kn H3)
    (hd : ∀ F' H' ys, Stp F H F' H' → F' D = some (.lst ys) → Paired (fun y i => R i F' y) ys ((List.range n).filter keep) → Qd H') :
    ∃ W : Nat → Nat → Hp → Prop, (∃ k, W 0 k (upd H D (.lst []))) ∧ ∀ i k H, W i k H →
      (J.stop i H ∧ Qd H) ∨ (J.go i H ∧ ∃ Nx : Hp → Prop, (∀ H', Nx H' → ∃ k', k' < k ∧ W (i + 1) k' H') ∧ ∀ x H', J.yld i H x H' → g x (wipe σ vs) H' fun σ2 H2 => wipe σ2 vs = wipe σ vs ∧ tt σ2 H2 fun b H3 =>
        if b = true then te σ2 H3 fun y H4 => ∃ acc, H4 D = some (.lst acc) ∧ acc.length < sizeLine ∧ Nx (upd H4 D (.lst (acc ++ [y]))) else Nx H3) := by
  have fD : F D = none := hf.free hD
  have step : ∀ i, (List.range (i + 1)).filter keep = (List.range i).filter keep ++ if keep i = true then [i] else [] := fun i => by
    rw [List.range_succ, List.filter_append]
    congr 1
    cases q : keep i <;> simp [q]
  refine lc_it w (fun i H' => ∃ F' acc, Stp F H F' H' ∧ F' D = none ∧ H' D = some (.lst acc) ∧ Paired (fun y i => R i F' y) acc ((List.range i).filter keep)) ?_ ?_ ?_ ?_
  · exact ⟨F, [], (Stm.refl hf).raw hD hD, fD, upd_same, .nil⟩
  · rintro i H' _ ⟨F', acc, s, _⟩
    exact hG F' H' s.ff s.fh
  · rintro i x H' H'' hi ⟨F', acc, s, f', h', pr⟩ y
    refine hs i x F' H' H'' _ _ hi s y (fun kp y F4 H4 s4 r4 => ?_) fun kp F4 H4 s4 => ?_
    · have f4 : F4 D = none := s4.nw D f' (by rw [h']; exact fun z => nomatch z)
      have h4 : H4 D = some (.lst acc) := s4.hh D _ (fun z => z) h'
      have al : acc.length ≤ i := by
        have e := Paired.length pr
        have := List.length_filter_le keep (List.range i)
        rw [List.length_range] at this
        omega
      refine ⟨acc, h4, by rw [sizeLine_eq]; omega, F4, acc ++ [y], (s.transP s4).mut f4 hD, f4, upd_same, ?_⟩
      rw [step i, if_pos kp]
      exact Paired.snoc (Paired.mapP pr fun a b z => hR _ _ _ _ s4.ff z) r4
    · refine ⟨F4, acc, s.transP s4, s4.nw D f' (by rw [h']; exact fun z => nomatch z), s4.hh D _ (fun z => z) h', ?_⟩
      rw [step i, if_neg (by rw [kp]; decide), List.append_nil]
      exact Paired.mapP pr fun a b z => hR _ _ _ _ s4.ff z
  · rintro H' ⟨F', acc, s, f', h', pr⟩
    exact hd (upd F' D (.lst acc)) H' acc (s.freeze f' hD h') upd_same (Paired.mapP pr fun a b z => hR _ _ _ _ (same_new f') z)
end
end Ew

set_option Elab.async false
set_option linter.all false
set_option maxRecDepth 100000
set_option maxHeartbeats 4000000
namespace K33
open PySem PySem.Spec PyProof.Rows L2 Ew
/-! ### sums by spots -/
abbrev Tm := List (Spot × Rat)
def keysQ (D : Tm) : List Spot := D.map (·.1)
/-- what a table has at a spot, 0 where it has none -/
def tv (D : Tm) (s : Spot) : Rat := ((D.find? fun c => decide (c.1 = s)).map (·.2)).getD 0
def putQ (D : Tm) (s : Spot) (x : Rat) : Tm := if s ∈ keysQ D then D.map (fun c => if c.1 = s then (c.1, x) else c) else D ++ [(s, x)]
def addQ (D : Tm) (c : Spot × Rat) : Tm := putQ D c.1 (tv D c.1 + c.2)
def sumQ (L : Tm) : Tm := L.foldl addQ []
/-- all that a row has at a spot -/
def tot (L : Tm) (s : Spot) : Rat := ((L.filter fun c => decide (c.1 = s)).map (·.2)).sum
section
variable {D L M : Tm} {s t : Spot} {x : Rat} {c : Spot × Rat}
theorem tv_nil : tv [] s = 0 := rfl
theorem tv_cons : tv (c :: D) s = if c.1 = s then c.2 else tv D s := by
  unfold tv
  rw [List.find?_cons]
  by_cases h : c.1 = s <;> simp [h]
theorem tv_out (h : s ∉ keysQ D) : tv D s = 0 := by
  induction D with
  | nil => rfl
  | cons c D ih =>
    rw [keysQ, List.map_cons, List.mem_cons, not_or] at h
    rw [tv_cons, if_neg (fun z => h.1 z.symm), ih h.2]
theorem tv_mem (nd : (keysQ D).Nodup) (h : (s, x) ∈ D) : tv D s = x := by
  induction D with
  | nil => cases h
  | cons c D ih =>
    rw [keysQ, List.map_cons, List.nodup_cons] at nd
    rw [tv_cons]
    rcases List.mem_cons.mp h with e | e
    · rw [← e, if_pos rfl]
    · rw [if_neg, ih nd.2 e]
      intro z
      exact nd.1 (by rw [z]; exact List.mem_map.mpr ⟨_, e, rfl⟩)
theorem mem_tv (h : s ∈ keysQ D) : (s, tv D s) ∈ D := by
  induction D with
  | nil => cases h
  | cons c D ih =>
    rw [tv_cons]
    by_cases e : c.1 = s
    · rw [if_pos e, ← e]
      exact List.mem_cons_self
    · rw [if_neg e]
      rw [keysQ, List.map_cons, List.mem_cons] at h
      exact List.mem_cons_of_mem _ (ih (h.resolve_left fun z => e z.symm))
theorem keys_put_in (h : s ∈ keysQ D) : keysQ (putQ D s x) = keysQ D := by
  unfold putQ
  rw [if_pos h]
  unfold keysQ
  rw [List.map_map]
  apply List.map_congr_left
  intro c _
  by_cases e : c.1 = s <;> simp [e]
theorem keys_put_out (h : s ∉ keysQ D) : keysQ (putQ D s x) = keysQ D ++ [s] := by
  unfold putQ
  rw [if_neg h]
  simp [keysQ]
theorem mem_put : t ∈ keysQ (putQ D s x) ↔ t ∈ keysQ D ∨ t = s := by
  by_cases h : s ∈ keysQ D
  · rw [keys_put_in h]
    exact ⟨.inl, fun z => z.elim id fun e => e ▸ h⟩
  · rw [keys_put_out h, List.mem_append, List.mem_singleton]
theorem nodup_put (nd : (keysQ D).Nodup) : (keysQ (putQ D s x)).Nodup := by
  by_cases h : s ∈ keysQ D
  · rw [keys_put_in h]
    exact nd
  · rw [keys_put_out h, List.nodup_append]
    refine ⟨nd, by simp, fun a ha b hb => ?_⟩
    rw [List.mem_singleton] at hb
    exact fun z => h (hb ▸ z ▸ ha)
theorem len_put : (putQ D s x).length ≤ D.length + 1 := by
  unfold putQ
  split <;> simp
theorem tv_app_out (h : s ∉ keysQ D) : tv (D ++ M) s = tv M s := by
  induction D with
  | nil => rfl
  | cons c D ih =>
    rw [keysQ, List.map_cons, List.mem_cons, not_or] at h
    rw [List.cons_append, tv_cons, if_neg (fun z => h.1 z.symm), ih h.2]
theorem tv_app_in (h : s ∈ keysQ D) : tv (D ++ M) s = tv D s := by
  induction D with
  | nil => cases h
  | cons c D ih =>
    rw [List.cons_append, tv_cons, tv_cons]
    by_cases e : c.1 = s
    · rw [if_pos e, if_pos e]
    · rw [if_neg e, if_neg e]
      rw [keysQ, List.map_cons, List.mem_cons] at h
      exact ih (h.resolve_left fun z => e z.symm)
theorem tv_put : tv (putQ D s x) t = if t = s then x else tv D t := by
  by_cases h : s ∈ keysQ D
  · unfold putQ
    rw [if_pos h]
    induction D with
    | nil => cases h
    | cons c D ih =>
      rw [List.map_cons, tv_cons, tv_cons]
      by_cases e : c.1 = s
      · rw [if_pos e]
        dsimp only
        by_cases ts : t = s
        · subst ts
          rw [if_pos e, if_pos rfl]
        · have n : ¬ c.1 = t := fun z => ts (z.symm.trans e)
          rw [if_neg n, if_neg ts, if_neg n]
          by_cases h2 : s ∈ keysQ D
          · rw [ih h2, if_neg ts]
          · have : D.map (fun c => if c.1 = s then (c.1, x) else c) = D := by
              conv => rhs; rw [← List.map_id D]
              apply List.map_congr_left
              intro c hc
              have n : ¬ c.1 = s := fun z => h2 (by rw [← z]; exact List.mem_map.mpr ⟨c, hc, rfl⟩)
              rw [if_neg n]
              rfl
            rw [this]
      · rw [if_neg e]
        rw [keysQ, List.map_cons, List.mem_cons] at h
        have h2 := h.resolve_left fun z => e z.symm
        by_cases ct : c.1 = t
        · have ts : ¬ t = s := fun z => e (ct.trans z)
          rw [if_pos ct, if_neg ts, if_pos ct]
        · rw [if_neg ct, if_neg ct]
          exact ih h2
  · unfold putQ
    rw [if_neg h]
    by_cases ts : t = s
    · subst ts
      rw [tv_app_out h, tv_cons, if_pos rfl, if_pos rfl]
    · rw [if_neg ts]
      by_cases h2 : t ∈ keysQ D
      · rw [tv_app_in h2]
      · rw [tv_app_out h2, tv_cons, if_neg (fun z => ts z.symm), tv_out h2]
        rfl
theorem sumQ_snoc : sumQ (L ++ [c]) = addQ (sumQ L) c := by unfold sumQ; rw [List.foldl_append]; rfl
theorem tot_app : tot (L ++ M) s = tot L s + tot M s := by
  unfold tot
  rw [List.filter_append, List.map_append, List.sum_append]
theorem tot_one : tot [c] s = if c.1 = s then c.2 else 0 := by
  unfold tot
  by_cases h : c.1 = s <;> simp [h] <;> grind
theorem tv_add : tv (addQ D c) s = tv D s + tot [c] s := by
  unfold addQ
  rw [tv_put, tot_one]
  by_cases h : s = c.1
  · rw [if_pos h, if_pos h.symm, h]
  · rw [if_neg h, if_neg fun z => h z.symm]
    grind
theorem tv_sum : tv (sumQ L) s = tot L s := by
  suffices ∀ (n : Nat), n ≤ L.length → tv (sumQ (L.take n)) s = tot (L.take n) s by
    have := this L.length (Nat.le_refl _)
    rwa [List.take_length] at this
  intro n
  induction n with
  | zero => intro _; rfl
  | succ n ih =>
    intro hn
    have e : L.take (n + 1) = L.take n ++ [L[n]'(by omega)] := by rw [List.take_add_one, List.getElem?_eq_getElem (by omega)]; rfl
    rw [e, sumQ_snoc, tv_add, ih (by omega), tot_app]
theorem sum_nodup : (keysQ (sumQ L)).Nodup ∧ (sumQ L).length ≤ L.length := by
  suffices ∀ (n : Nat), n ≤ L.length → (keysQ (sumQ (L.take n))).Nodup ∧ (sumQ (L.take n)).length ≤ n by
    have := this L.length (Nat.le_refl _)
    rwa [List.take_length] at this
  intro n
  induction n with
  | zero => intro _; exact ⟨List.nodup_nil, Nat.le_refl _⟩
  | succ n ih =>
    intro hn
    have e : L.take (n + 1) = L.take n ++ [L[n]'(by omega)] := by rw [List.take_add_one, List.getElem?_eq_getElem (by omega)]; rfl
    obtain ⟨i1, i2⟩ := ih (by omega)
    rw [e, sumQ_snoc]
    refine ⟨nodup_put i1, Nat.le_trans len_put ?_⟩
    omega
theorem sum_keys : t ∈ keysQ (sumQ L) ↔ t ∈ keysQ L := by
  suffices ∀ (n : Nat), n ≤ L.length → (t ∈ keysQ (sumQ (L.take n)) ↔ t ∈ keysQ (L.take n)) by
    have := this L.length (Nat.le_refl _)
    rwa [List.take_length] at this
  intro n
  induction n with
  | zero => intro _; rfl
  | succ n ih =>
    intro hn
    have e : L.take (n + 1) = L.take n ++ [L[n]'(by omega)] := by rw [List.take_add_one, List.getElem?_eq_getElem (by omega)]; rfl
    rw [e, sumQ_snoc, addQ, mem_put, ih (by omega)]
    unfold keysQ
    rw [List.map_append, List.mem_append, List.map_cons, List.map_nil, List.mem_singleton]
/-- a row of terms in their one order, as f has them -/
structure IsPf (T : Tm) (f : Spot → Rat) : Prop where
  srt : Srt (keysQ T)
  mem : ∀ c, c ∈ T ↔ c.2 = f c.1 ∧ c.2 ≠ 0
theorem IsPf.key {T : Tm} {f : Spot → Rat} (h : IsPf T f) : s ∈ keysQ T ↔ f s ≠ 0 := by
  unfold keysQ
  rw [List.mem_map]
  constructor
  · rintro ⟨c, hc, rfl⟩
    obtain ⟨h1, h2⟩ := (h.mem c).mp hc
    rwa [← h1]
  · intro z
    exact ⟨(s, f s), (h.mem _).mpr ⟨rfl, z⟩, rfl⟩
theorem IsPf.form {T : Tm} {f : Spot → Rat} (h : IsPf T f) : T = (keysQ T).map fun s => (s, f s) := by
  unfold keysQ
  rw [List.map_map]
  conv => lhs; rw [← List.map_id T]
  apply List.map_congr_left
  intro c hc
  have := ((h.mem c).mp hc).1
  show c = (c.1, f c.1)
  rw [← this]
theorem IsPf.uniq {T T' : Tm} {f g : Spot → Rat} (h : IsPf T f) (k : IsPf T' g) (e : ∀ s, f s = g s) : T = T' := by
  have e : f = g := funext e
  subst e
  have : keysQ T = keysQ T' := h.srt.uniq k.srt fun s => h.key.trans k.key.symm
  rw [h.form, k.form, this]
theorem IsPf.tv {T : Tm} {f : Spot → Rat} (h : IsPf T f) (s : Spot) : tv T s = f s := by
  by_cases z : s ∈ keysQ T
  · exact ((h.mem _).mp (mem_tv z)).1
  · rw [tv_out z]
    exact (Classical.byContradiction fun q => z (h.key.mpr fun e => q e.symm))
theorem IsPf.nodup {T : Tm} {f : Spot → Rat} (h : IsPf T f) : (keysQ T).Nodup := h.srt.nodup
end
theorem tot_nodup {T : Tm} (nd : (keysQ T).Nodup) (s : Spot) : tot T s = tv T s := by
  induction T with
  | nil => rfl
  | cons c T ih =>
    have nd' := nd
    rw [keysQ, List.map_cons, List.nodup_cons] at nd'
    have : tot (c :: T) s = tot [c] s + tot T s := tot_app (L := [c])
    rw [this, ih nd'.2, tot_one, tv_cons]
    by_cases h : c.1 = s
    · rw [if_pos h, if_pos h, tv_out (by rw [← h]; exact nd'.1)]
      grind
    · rw [if_neg h, if_neg h]
      grind
end K33

set_option Elab.async false
set_option linter.all false
set_option maxRecDepth 100000
set_option maxHeartbeats 4000000
namespace Ew
open PySem PySem.Spec PyProof.Rows L2
/-! ### a token is out behind a test -/
section
variable {X : Cx}
structure PTk (X : Cx) (e : Expr) (t : TT) : Prop where
  run : ∀ (pins : List (Addr × Obj)) (s : Shared) (σ : L2.St) (H : Hp) (Q : Bool → Hp → Prop), Inv X pins σ H s → t σ H Q → wpAny (model X.prog X.w) X.A (isTrue e X.env (eval e X.env)) (fun b s' => 1 ≤ s'.toks ∧ TP X pins σ Q b s') X.xe s
theorem ptk_cmp {op : CmpOp} {r : R2} {a : Expr} {ta : TE} {i : Int} {j : Nat} {p pos : Pos} (ho : OpR X (compareOp op) r) (ha : PE X a ta) (hm : behindInMarks op (.Constant (.int i) j p) = false) :
    PTk X (.Compare a [op] [.Constant (.int i) j p] pos) (tTest (tOp r ta (tC (.int i)))) := by
  refine ⟨fun pins s σ H Q I h => wpAny_isTrue_Compare1 (thn (ha.run pins s σ H _ I h) fun v s1 ⟨x, H1, I1, r1, q1⟩ => wpAny_Constant_int ?_) hm⟩
  have I2 : Inv X pins σ H1 { s1 with toks := s1.toks + 1 } := I1.tok _
  have go := ho pins _ σ H1 x (.int i) v (.int i s1.toks) _ I2 r1 ⟨_, rfl⟩ q1
  refine wpAny_mono (PySem.wpAny_toks_of (n := 1) (by show 1 ≤ s1.toks + 1; omega) go) (fun c s3 ⟨hk, z, H3, I3, r3, k, e, q3⟩ => ?_) fun _ _ z => z.2
  subst e
  cases r3
  exact wpAny_truthy_bool ⟨hk, H3, I3, q3⟩
theorem ptk_or {a b : Expr} {rest : List Expr} {pos : Pos} {ta tb : TT} (ha : PTk X a ta) (hb : PW X (.BoolOp .Or (b :: rest) pos) tb) : PTk X (.BoolOp .Or (a :: b :: rest) pos) (tOr ta tb) := by
  refine ⟨fun pins s σ H Q I h => isTrue_or (thn (ha.run pins s σ H _ I h) fun c s1 ⟨hk, H1, I1, q1⟩ => ?_)⟩
  cases c with
  | true => exact ⟨hk, H1, I1, q1⟩
  | false => exact wpAny_mono (PySem.wpAny_toks_of hk (hb.run _ pins s1 σ H1 Q I1 q1)) (fun _ _ z => z) fun _ _ z => z.2
theorem pss_ifK {c : Expr} {a b rest : List Stmt} {pos : Pos} {tc : TT} {t u v : TS} (hc : PTk X c tc) (ha : PSs X a t) (hb : PSs X b u) (hr : PSsT X rest v) : PSs X (.If c a b pos :: rest) (tSeq (tIfS tc t u) v) := by
  refine ⟨fun pins s σ H D I h => ?_⟩
  refine wpAny_execs_cons (wpAny_If (thn (hc.run pins s σ H _ I h) fun d s1 ⟨hk, H1, I1, q1⟩ => ?_))
  have fin : ∀ {w : Sem Flow} {E : Value → Shared → Prop}, wpAny (model X.prog X.w) X.A w (SP X pins { D with nx := v D }) E s1 → wpAny (model X.prog X.w) X.A w (fun f s2 => 1 ≤ s2.toks ∧ SP X pins { D with nx := v D } f s2) E s1 := fun z => wpAny_mono (PySem.wpAny_toks_of hk z) (fun _ _ z => z) fun _ _ z => z.2
  have on : ∀ {f : Flow} {s2 : Shared}, 1 ≤ s2.toks ∧ SP X pins { D with nx := v D } f s2 → _ := fun {f s2} z => z
  cases d with
  | true =>
    refine thn (fin (ha.run pins s1 σ H1 { D with nx := v D } I1 q1)) fun f s2 ⟨k2, q⟩ => ?_
    cases f with
    | next =>
      obtain ⟨σ', H', I', q⟩ := q
      exact hr pins s2 σ' H' D k2 I' q
    | ret v => exact q
    | brk => exact q
    | cont => exact q
  | false =>
    refine thn (fin (hb.run pins s1 σ H1 { D with nx := v D } I1 q1)) fun f s2 ⟨k2, q⟩ => ?_
    cases f with
    | next =>
      obtain ⟨σ', H', I', q⟩ := q
      exact hr pins s2 σ' H' D k2 I' q
    | ret v => exact q
    | brk => exact q
    | cont => exact q
theorem pst_set {i : Nat} {x : Str} {e : Expr} {te : TE} {pos pos' : Pos} (hN : X.N.Nodup) (hi : X.N[i]? = some x) (hx : Loc X.env.scope x) (he : PET X e te) (hs : swapsWith e (some (.Name x pos')) pos.line X.env = pure false := by rfl) (hf : X.fn x = true ∨ X.env.scope.names.lookup x = some .local := by first | exact .inl rfl | exact .inr rfl | assumption) :
    PST X (.Assign [.Name x pos'] e pos) (tAsg te (gName i)) := fun pins s σ H D h0 I h =>
  wpAny_Assign_Name (thn (he pins s σ H _ h0 I h) fun v s1 ⟨y, H1, I1, r1, q1⟩ => store_ok I1 hN hi hx r1 (fun s2 I2 => ⟨_, H1, I2, q1⟩) hf) hs
theorem pet_m1 {nm : String} {name : Str} {o e : Expr} {to te : TE} {apos pos : Pos} {r : V → List V → Hp → VK → Prop} (slot : Slot "str" name nm) (ty : typeOf (.builtin nm) = pure (.type "method_descriptor")) (rule : MtR X nm r) (ho : PET X o to) (he : PE X e te)
    (hs : starEach [e] X.env = [(false, eval e X.env)] := by rfl) (hbase : attributeBase o name X.env (eval o X.env) = eval o X.env := by rfl) (hline : (apos.endLine == pos.line) = true := by rfl) :
    PET X (.Call (.Attribute o name apos) [e] [] pos) (tM1 r to te) := by
  intro pins s σ H Q h0 I h
  refine PySem.Call_method1 hbase hs hline (thn (ho pins s σ H _ h0 I h) fun v s1 ⟨x, H1, I1, r1, ⟨a, ex⟩, q1⟩ => ?_)
  subst ex
  obtain ⟨t, rfl⟩ := id r1
  refine ⟨"str", _, F.plainAttrs_str, slot, ty, typeIs_str _ _ _, (fun _ e => nomatch e), Calls.callWith_builtin rfl (Calls.evalArgs_plain (Calls.spliced_cons ?_))⟩
  exact thn (he.run pins s1 σ H1 _ I1 q1) fun u s2 ⟨y, H2, I2, r2, q2⟩ => Calls.spliced_nil (rule pins s2 σ H2 _ [y] _ [u] Q I2 r1 (.cons r2 .nil) q2)
end
end Ew

set_option Elab.async false
set_option linter.all false
set_option maxRecDepth 100000
set_option maxHeartbeats 4000000
namespace Ew
open PySem PySem.Spec PyProof.Rows L2
/-! ### tuples joined, cut, told many times: whichever object it is that comes out -/
section
variable {X : Cx}
def rCatF (K : PySem.W.Frag) : R2 := fun x y H Q => ∃ (F0 H0 F : Hp) (a b : Addr) (xs ys : List V), Stp F0 H0 F H ∧ x = .ref a ∧ y = .ref b ∧ SqT K F a xs ∧ SqT K F b ys ∧ xs.length + ys.length ≤ sizeLine ∧
  ∀ p F' H', Stp F0 H0 F' H' → Same F F' → SqT K F' p (xs ++ ys) → Q (.ref p) H'
theorem op_catF : OpR X (binaryOp .Add) (rCatF X.K) := by
  intro pins s σ H x y v u Q I rx ry h
  obtain ⟨F0, H0, F, a, b, xs, ys, s1, rfl, rfl, ha, hb, hl, q⟩ := h
  refine op_catA pins s σ H _ _ v u Q I rx ry ⟨a, b, xs, ys, rfl, rfl, upT s1.fh ha, upT s1.fh hb, hl, fun e => ?_, fun n e => ?_, fun n1 n2 p hp => ?_⟩
  · subst e; exact q b F H s1 (Same.refl F) hb
  · subst e; exact q a F H s1 (Same.refl F) (by rw [List.append_nil]; exact ha)
  · exact q p _ _ (s1.newP hp) (same_new (s1.fh.free hp)) sq_new
def rSlF (K : PySem.W.Frag) : V → Option Int → Option Int → Hp → VK → Prop := fun x lo hi H Q => ∃ (F0 H0 F : Hp) (a : Addr) (xs : List V), Stp F0 H0 F H ∧ x = .ref a ∧ SqT K F a xs ∧
  ∀ p F' H', Stp F0 H0 F' H' → Same F F' → SqT K F' p (cutV xs lo hi) → Q (.ref p) H'
theorem sl_tupF : SlR X (rSlF X.K) := by
  intro pins s σ H x v vl vu lo hi sl Q I rx hs pl pu h
  obtain ⟨F0, H0, F, a, xs, s1, rfl, ha, q⟩ := h
  refine sl_tupA pins s σ H _ v vl vu lo hi sl Q I rx hs pl pu ⟨a, xs, rfl, upT s1.fh ha, fun e => ?_, fun n p hp => ?_⟩
  · refine q a F H s1 (Same.refl F) ?_
    have : cutV xs lo hi = xs := by
      unfold cutV
      rw [e.1, e.2]
      simp
    rw [this]
    exact ha
  · exact q p _ _ (s1.newP hp) (same_new (s1.fh.free hp)) sq_new
def rRepF (K : PySem.W.Frag) : R2 := fun x y H Q => ∃ (F0 H0 F : Hp) (a : Addr) (k : Int) (xs : List V), Stp F0 H0 F H ∧ x = .ref a ∧ y = .int k ∧ SqT K F a xs ∧ xs ≠ [] ∧ 1 ≤ k ∧ k ≤ 1000 ∧ xs.length ≤ 1000 ∧
  ∀ p F' H', Stp F0 H0 F' H' → Same F F' → SqT K F' p (List.replicate k.toNat xs).flatten → Q (.ref p) H'
theorem op_repF : OpR X (binaryOp .Mult) (rRepF X.K) := by
  intro pins s σ H x y v u Q I rx ry h
  obtain ⟨F0, H0, F, a, k, xs, s1, rfl, rfl, ha, hn, k1, k2, hl, q⟩ := h
  refine op_repA pins s σ H _ _ v u Q I rx ry ?_
  by_cases e : k = 1
  · subst e
    refine .inr ⟨a, xs, rfl, rfl, upT s1.fh ha, q a F H s1 (Same.refl F) ?_⟩
    have : (List.replicate (1 : Int).toNat xs).flatten = xs := by simp
    rw [this]
    exact ha
  · exact .inl ⟨a, k, xs, rfl, rfl, upT s1.fh ha, hn, by omega, k2, hl, fun p hp => q p _ _ (s1.newP hp) (same_new (s1.fh.free hp)) sq_new⟩
end
/-! ### the text of a tuple of small ints -/
theorem showable_ints : ∀ {ds : List Int}, (∀ d ∈ ds, -9 ≤ d ∧ d ≤ 9) → PyData.showableAll (ds.map PyData.int) = true
  | [], _ => by rw [List.map_nil, PyData.showableAll]
  | d :: ds, h => by
    have := h d List.mem_cons_self
    have e : d.natAbs.log2 < 1920 := by
      have h1 : d.natAbs < 2 ^ 4 := by omega
      have := PySem.Flt.log2_lt_of (by decide : 0 < 4) h1
      omega
    rw [List.map_cons, PyData.showableAll, showable_ints fun x hx => h x (List.mem_cons_of_mem _ hx), PyData.showable, decide_eq_true e]
    rfl
theorem int_text {d : Int} (h : -9 ≤ d ∧ d ≤ 9) : (PyData.int d).shown.length ≤ 2 := by
  have : d = -9 ∨ d = -8 ∨ d = -7 ∨ d = -6 ∨ d = -5 ∨ d = -4 ∨ d = -3 ∨ d = -2 ∨ d = -1 ∨ d = 0 ∨ d = 1 ∨ d = 2 ∨ d = 3 ∨ d = 4 ∨ d = 5 ∨ d = 6 ∨ d = 7 ∨ d = 8 ∨ d = 9 := by omega
  rcases this with rfl | rfl | rfl | rfl | rfl | rfl | rfl | rfl | rfl | rfl | rfl | rfl | rfl | rfl | rfl | rfl | rfl | rfl | rfl <;> rw [PyData.shown] <;> decide +kernel
theorem piled_ints : ∀ {ds : List Int}, (∀ d ∈ ds, -9 ≤ d ∧ d ≤ 9) → piled (PyData.shownAll (ds.map PyData.int)) ≤ 4 * ds.length
  | [], _ => by rw [List.map_nil, PyData.shownAll]; exact Nat.zero_le _
  | d :: ds, h => by
    have h1 := int_text (h d List.mem_cons_self)
    have h2 := piled_ints fun x hx => h x (List.mem_cons_of_mem _ hx)
    rw [List.map_cons, PyData.shownAll, List.length_cons]
    unfold piled at h2 ⊢
    simp only [List.map_cons, List.sum_cons] at h2 ⊢
    omega
theorem shown_ints {ds : List Int} (h : ∀ d ∈ ds, -9 ≤ d ∧ d ≤ 9) (hl : ds.length ≤ 1000) : (intT ds).shown.length ≤ sizeLine := by
  unfold intT
  rw [PyData.shown]
  unfold tupleText
  have h2 := piled_ints h
  have e1 : (("(" : Str)).length = 1 := by decide +kernel
  have e2 : ∀ b : Bool, (Str.ofString (if b = true then ",)" else ")")).length ≤ 2 := by intro b; cases b <;> decide +kernel
  have e3 : (Str.join ", " (PyData.shownAll (ds.map PyData.int))).length ≤ 4 * ds.length := by
    by_cases hn : PyData.shownAll (ds.map PyData.int) = []
    · rw [hn]
      exact Nat.le_trans (by decide +kernel) (Nat.zero_le _)
    · have := join_length_add _ hn
      omega
  have e4 := e2 ((PyData.shownAll (ds.map PyData.int)).length == 1)
  rw [PySem.Str.length_append, PySem.Str.length_append, e1, sizeLine_eq]
  omega
end Ew

set_option Elab.async false
set_option linter.all false
set_option maxRecDepth 100000
set_option maxHeartbeats 4000000
namespace Ew
open PySem PySem.Spec PyProof.Rows L2
/-- what is never written stays -/
def TS (H H' : Hp) : Prop := ∀ p o, H p = some o → ¬ Mut (some o) → H' p = some o
section
variable {H H' H2 F F' : Hp} {K : PySem.W.Frag} {v : V} {p : Addr} {o : HO}
theorem TS.refl : TS H H := fun _ _ e _ => e
theorem Same.ts (e : Same H H') : TS H H' := fun p o h _ => e p o h
theorem TS.trans (a : TS H H') (b : TS H' H2) : TS H H2 := fun p o e n => b p o (a p o e n) n
theorem TS.upd (a : TS H H') (h : ∀ u, H p = some u → Mut (some u)) : TS H (upd H' p o) := fun x u e n => by
  have ne : x ≠ p := fun z => n (h u (by rw [← z]; exact e))
  rw [upd_ne ne]
  exact a x u e n
theorem TS.new (hp : H p = none) : TS H (L2.upd H p o) := TS.refl.upd fun u e => by rw [hp] at e; cases e
theorem sqT_ts {xs : List V} (e : TS H H') (h : SqT K H p xs) : SqT K H' p xs := by
  rcases h with (h | ⟨o, h⟩) | h
  · exact .inl (.inl (e _ _ h (fun z => z)))
  · exact .inl (.inr ⟨o, e _ _ h (fun z => z)⟩)
  · exact .inr h
theorem Rt.ts {r : Int × Int} (h : Rt K H v r) (e : TS H H') : Rt K H' v r := by obtain ⟨p, h1, h2⟩ := h; exact ⟨p, h1, sqT_ts e h2⟩
theorem tup_ts {xs : List V} (e : TS H H') (h : H p = some (.tup xs)) : H' p = some (.tup xs) := e _ _ h (fun z => z)
theorem frz_ts {u : Obj} (e : TS H H') (h : H p = some (.frz u o)) : H' p = some (.frz u o) := e _ _ h (fun z => z)
end
section
variable {F H F' H' F2 H2 : Hp} {J : It} {n : Nat} {G : Hp → Prop} {Y : Nat → Hp → V → Hp → Prop}
/-- the same as lcF, of each item something is known of the heap as it is -/
theorem lcH (w : Walk J n G Y) {g : TG} {tt : TT} {te : TE} {vs : List Nat} {σ : L2.St} {D : Addr} {Qd : Hp → Prop} (keep : Nat → Bool) (hf : Same F H) (hD : H D = none) (R : Nat → Hp → V → Prop) (hR : ∀ i H H' y, TS H H' → R i H y → R i H' y)
    (hn : n ≤ 1000000) (hG : ∀ F' H', Same F F' → Same F' H' → Same H H' → G H')
    (hs : ∀ i x F' H' H'' (Kt : VK) (Kn : Hp → Prop), i < n → Stp F H F' H' → Y i H' x H'' → (keep i = true → ∀ y F4 H4, Stp F' H' F4 H4 → R i H4 y → Kt y H4) → (keep i = false → ∀ F4 H4, Stp F' H' F4 H4 → Kn H4) →
      g x (wipe σ vs) H'' fun σ2 H2 => wipe σ2 vs = wipe σ vs ∧ tt σ2 H2 fun b H3 => if b = true then te σ2 H3 Kt else Kn H3)
    (hd : ∀ F' H' ys, Stp F H F' H' → F' D = some (.lst ys) → Paired (fun y i => R i H' y) ys ((List.range n).filter keep) → Qd H') :
    ∃ W : Nat → Nat → Hp → Prop, (∃ k, W 0 k (upd H D (.lst []))) ∧ ∀ i k H, W i k H →
      (J.stop i H ∧ Qd H) ∨ (J.go i H ∧ ∃ Nx : Hp → Prop, (∀ H', Nx H' → ∃ k', k' < k ∧ W (i + 1) k' H') ∧ ∀ x H', J.yld i H x H' → g x (wipe σ vs) H' fun σ2 H2 => wipe σ2 vs = wipe σ vs ∧ tt σ2 H2 fun b H3 =>
        if b = true then te σ2 H3 fun y H4 => ∃ acc, H4 D = some (.lst acc) ∧ acc.length < sizeLine ∧ Nx (upd H4 D (.lst (acc ++ [y]))) else Nx H3) := by
  have fD : F D = none := hf.free hD
  have step : ∀ i, (List.range (i + 1)).filter keep = (List.range i).filter keep ++ if keep i = true then [i] else [] := fun i => by
    rw [List.range_succ, List.filter_append]
    congr 1
    cases q : keep i <;> simp [q]
  refine lc_it w (fun i H' => ∃ F' acc, Stp F H F' H' ∧ F' D = none ∧ H' D = some (.lst acc) ∧ Paired (fun y i => R i H' y) acc ((List.range i).filter keep)) ?_ ?_ ?_ ?_
  · exact ⟨F, [], (Stm.refl hf).raw hD hD, fD, upd_same, .nil⟩
  · rintro i H' _ ⟨F', acc, s, _⟩
    exact hG F' H' s.ff s.fh s.same
  · rintro i x H' H'' hi ⟨F', acc, s, f', h', pr⟩ y
    refine hs i x F' H' H'' _ _ hi s y (fun kp y F4 H4 s4 r4 => ?_) fun kp F4 H4 s4 => ?_
    · have f4 : F4 D = none := s4.nw D f' (by rw [h']; exact fun z => nomatch z)
      have h4 : H4 D = some (.lst acc) := s4.hh D _ (fun z => z) h'
      have al : acc.length ≤ i := by
        have e := Paired.length pr
        have := List.length_filter_le keep (List.range i)
        rw [List.length_range] at this
        omega
      have mu : ∀ u, H4 D = some u → Mut (some u) := fun u e => by rw [h4] at e; cases e; exact trivial
      refine ⟨acc, h4, by rw [sizeLine_eq]; omega, F4, acc ++ [y], (s.transP s4).mut f4 hD, f4, upd_same, ?_⟩
      rw [step i, if_pos kp]
      exact Paired.snoc (Paired.mapP pr fun a b z => hR _ _ _ _ ((Same.ts s4.same).trans (TS.refl.upd mu)) z) (hR _ _ _ _ (TS.refl.upd mu) r4)
    · refine ⟨F4, acc, s.transP s4, s4.nw D f' (by rw [h']; exact fun z => nomatch z), s4.hh D _ (fun z => z) h', ?_⟩
      rw [step i, if_neg (by rw [kp]; decide), List.append_nil]
      exact Paired.mapP pr fun a b z => hR _ _ _ _ (Same.ts s4.same) z
  · rintro H' ⟨F', acc, s, f', h', pr⟩
    exact hd (upd F' D (.lst acc)) H' acc (s.freeze f' hD h') upd_same pr
end
end Ew

set_option Elab.async false
set_option linter.all false
set_option maxRecDepth 100000
set_option maxHeartbeats 4000000
namespace K33
open PySem PySem.Spec PyProof.Rows L2 Ew
/-! ### where they stand -/
theorem Spt.ts {H H' : Hp} {v : V} {p : Spot} (h : Spt H v p) (e : TS H H') : Spt H' v p := by obtain ⟨q, h1, h2⟩ := h; exact ⟨q, h1, tup_ts e h2⟩
theorem Rq.ts {K : PySem.W.Frag} {H H' : Hp} {v : V} {x : Rat} (h : Rq K H v x) (e : TS H H') : Rq K H' v x := Rt.ts h e
/-- a spot and its number -/
def PrQ (K : PySem.W.Frag) (H : Hp) (v : V) (c : Spot × Rat) : Prop := ∃ q u w, v = .ref q ∧ SqT K H q [u, w] ∧ Spt H u c.1 ∧ Rq K H w c.2
/-- a tuple of such pairs -/
def TmV (K : PySem.W.Frag) (H : Hp) (v : V) (T : Tm) : Prop := ∃ p xs, v = .ref p ∧ SqT K H p xs ∧ Paired (PrQ K H) xs T
/-- a plain form: terms, and what is left -/
def PlV (K : PySem.W.Frag) (H : Hp) (v : V) (T : Tm) (x : Rat) : Prop := ∃ p t r, v = .ref p ∧ SqT K H p [t, r] ∧ TmV K H t T ∧ Rq K H r x
/-- the entries of a dict -/
def KvQ (K : PySem.W.Frag) (H : Hp) (kvs : List (List Key × V)) (D : Tm) : Prop := Paired (fun (c : List Key × V) (s : Spot × Rat) => c.1 = spK s.1 ∧ Rq K H c.2 s.2) kvs D
section
variable {K : PySem.W.Frag} {H H' : Hp} {v w : V} {c : Spot × Rat} {T D : Tm} {x : Rat} {kvs : List (List Key × V)} {s : Spot}
theorem PrQ.ts (h : PrQ K H v c) (e : TS H H') : PrQ K H' v c := by obtain ⟨q, u, w, h1, h2, h3, h4⟩ := h; exact ⟨q, u, w, h1, sqT_ts e h2, h3.ts e, h4.ts e⟩
theorem TmV.ts (h : TmV K H v T) (e : TS H H') : TmV K H' v T := by obtain ⟨p, xs, h1, h2, h3⟩ := h; exact ⟨p, xs, h1, sqT_ts e h2, Paired.mapP h3 fun _ _ z => z.ts e⟩
theorem PlV.ts (h : PlV K H v T x) (e : TS H H') : PlV K H' v T x := by obtain ⟨p, t, r, h1, h2, h3, h4⟩ := h; exact ⟨p, t, r, h1, sqT_ts e h2, h3.ts e, h4.ts e⟩
theorem KvQ.ts (h : KvQ K H kvs D) (e : TS H H') : KvQ K H' kvs D := Paired.mapP h fun _ _ z => ⟨z.1, z.2.ts e⟩
theorem KvQ.get (h : KvQ K H kvs D) (s : Spot) : (valV kvs (spK s) = none ∧ s ∉ keysQ D) ∨ ∃ w, valV kvs (spK s) = some w ∧ s ∈ keysQ D ∧ Rq K H w (tv D s) := by
  induction h with
  | nil => exact .inl ⟨valV_nil, fun z => by cases z⟩
  | @cons c d cs D h t ih =>
    rw [tv_cons]
    unfold keysQ
    rw [List.map_cons, List.mem_cons]
    by_cases e : d.1 = s
    · rw [valV_pos (by rw [h.1, e]), if_pos e]
      exact .inr ⟨_, rfl, .inl e.symm, h.2⟩
    · rw [valV_neg (fun z => e (spK_inj (h.1.symm.trans z))), if_neg e]
      rcases ih with ⟨h1, h2⟩ | ⟨w, h1, h2, h3⟩
      · exact .inl ⟨h1, fun z => z.elim (fun q => e q.symm) h2⟩
      · exact .inr ⟨w, h1, .inr h2, h3⟩
theorem KvQ.len (h : KvQ K H kvs D) : kvs.length = D.length := Paired.length h
theorem KvQ.put (h : KvQ K H kvs D) (hw : Rq K H w x) : KvQ K H (putK kvs (spK s) w) (putQ D s x) := by
  by_cases z : s ∈ keysQ D
  · have e : putK kvs (spK s) w = kvs.map fun kv => if kv.1 = spK s then (kv.1, w) else kv := by
      unfold putK
      rw [if_pos]
      rw [valV_any]
      rcases h.get s with ⟨_, n⟩ | ⟨u, h1, _⟩
      · exact absurd z n
      · rw [h1]
        rfl
    rw [e]
    unfold putQ
    rw [if_pos z]
    clear e z
    induction h with
    | nil => exact .nil
    | @cons c d cs D h t ih =>
      rw [List.map_cons, List.map_cons]
      refine .cons ?_ ih
      by_cases e : d.1 = s
      · rw [if_pos (by rw [h.1, e]), if_pos e]
        exact ⟨h.1, hw⟩
      · rw [if_neg (fun q => e (spK_inj (h.1.symm.trans q))), if_neg e]
        exact h
  · rcases h.get s with ⟨h1, _⟩ | ⟨_, _, n, _⟩
    · rw [putK_new _ h1]
      unfold putQ
      rw [if_neg z]
      exact Paired.snoc h ⟨rfl, hw⟩
    · exact absurd n z
theorem KvQ.at_ (h : KvQ K H kvs D) {i : Nat} {k : List Key} {u : V} (e : kvs[i]? = some (k, u)) : ∃ c, D[i]? = some c ∧ k = spK c.1 ∧ Rq K H u c.2 := by
  obtain ⟨c, h1, h2⟩ := paired_get h e
  exact ⟨c, h1, h2⟩
end
/-! ### keys that are spots, sorted -/
theorem alike_sp (s t : Spot) : PySem.W.alike (keyP (spK s)) (keyP (spK t)) = true := rfl
theorem srt_spots {ps : KAs} (h : ∀ q ∈ ps, ∃ s, q.1 = spK s) (nd : (ps.map (·.1)).Nodup) : ∃ S : List Spot, (srt ps).map (·.1) = S.map spK ∧ Srt S ∧ ∀ s, s ∈ S ↔ spK s ∈ ps.map (·.1) := by
  have pm : (srt ps).Perm ps := List.mergeSort_perm _ _
  have tr : ∀ a b c : List Key × Addr, PySem.W.dataLe false (fun q : List Key × Addr => keyP q.1) a b = true → PySem.W.dataLe false (fun q : List Key × Addr => keyP q.1) b c = true → PySem.W.dataLe false (fun q : List Key × Addr => keyP q.1) a c = true := by
    intro a b c h1 h2
    rw [PySem.W.dataLe_eq] at *
    simp only [cond_false, Bool.not_eq_true'] at *
    cases q : PySem.W.dataLt (keyP c.1) (keyP a.1) with
    | false => rfl
    | true =>
      rcases lex_negTrans (O := itemOrd) _ (PySem.W.keyToks (keyP b.1)) _ q with z | z
      · exact absurd (show PySem.W.dataLt (keyP c.1) (keyP b.1) = true from z) (by rw [h2]; decide)
      · exact absurd (show PySem.W.dataLt (keyP b.1) (keyP a.1) = true from z) (by rw [h1]; decide)
  have tot : ∀ a b : List Key × Addr, (PySem.W.dataLe false (fun q : List Key × Addr => keyP q.1) a b || PySem.W.dataLe false (fun q : List Key × Addr => keyP q.1) b a) = true := by
    intro a b
    rw [PySem.W.dataLe_eq]
    simp only [cond_false]
    cases q : PySem.W.dataLt (keyP b.1) (keyP a.1) with
    | false => rfl
    | true =>
      cases r : PySem.W.dataLt (keyP a.1) (keyP b.1) with
      | false => rfl
      | true =>
        have := lex_trans (O := itemOrd) _ _ _ q r
        rw [lex_irrefl] at this
        cases this
  have so := List.pairwise_mergeSort tr tot ps
  obtain ⟨S, eS⟩ : ∃ S : List Spot, (srt ps).map (·.1) = S.map spK := by
    have : ∀ L : KAs, (∀ q ∈ L, ∃ s, q.1 = spK s) → ∃ S : List Spot, L.map (·.1) = S.map spK := by
      intro L
      induction L with
      | nil => exact fun _ => ⟨[], rfl⟩
      | cons q L ih =>
        intro h
        obtain ⟨s, hs⟩ := h q List.mem_cons_self
        obtain ⟨S, hS⟩ := ih fun r hr => h r (List.mem_cons_of_mem _ hr)
        exact ⟨s :: S, by rw [List.map_cons, List.map_cons, hs, hS]⟩
    exact this _ fun q hq => h q (pm.mem_iff.mp hq)
  refine ⟨S, eS, ?_, fun s => ?_⟩
  · have nd2 : (S.map spK).Nodup := by rw [← eS]; exact ((pm.map (·.1)).nodup_iff).mpr nd
    have nd3 : S.Nodup := (List.pairwise_map.mp nd2).imp fun {a b} z e => z (congrArg spK e)
    have p1 : (S.map spK).Pairwise fun k l => PySem.W.dataLt (keyP l) (keyP k) = false := by
      rw [← eS, List.pairwise_map]
      refine so.imp fun {a b} z => ?_
      rw [PySem.W.dataLe_eq] at z
      simpa using z
    rw [List.pairwise_map] at p1
    refine (p1.and nd3).imp fun {s t} z => ?_
    cases q : ltS s t with
    | true => rfl
    | false => exact absurd (ltS_total q z.1) z.2
  · have : s ∈ S ↔ spK s ∈ S.map spK := ⟨fun z => List.mem_map.mpr ⟨s, z, rfl⟩, fun z => by
      obtain ⟨t, h1, h2⟩ := List.mem_map.mp z
      rwa [← spK_inj h2]⟩
    rw [this, ← eS]
    exact (pm.map (·.1)).mem_iff
/-- what has a number, in a row -/
def nzQ (D : Tm) (i : Nat) : Bool := match D[i]? with | some c => decide (c.2 ≠ 0) | none => false
theorem nz_row (D : Tm) : ((List.range D.length).filter (nzQ D)).map (fun i => D[i]?) = (D.filter fun c => decide (c.2 ≠ 0)).map some := by
  suffices ∀ n, n ≤ D.length → ((List.range n).filter (nzQ D)).map (fun i => D[i]?) = ((D.take n).filter fun c => decide (c.2 ≠ 0)).map some by
    have := this D.length (Nat.le_refl _)
    rwa [List.take_length] at this
  intro n
  induction n with
  | zero => intro _; rfl
  | succ n ih =>
    intro hn
    have e : D[n]? = some (D[n]'(by omega)) := List.getElem?_eq_getElem (by omega)
    have e2 : D.take (n + 1) = D.take n ++ [D[n]'(by omega)] := by rw [List.take_add_one, e]; rfl
    rw [List.range_succ, List.filter_append, List.map_append, ih (by omega), e2, List.filter_append, List.map_append]
    congr 1
    have e3 : nzQ D n = decide ((D[n]'(by omega)).2 ≠ 0) := by unfold nzQ; rw [e]
    by_cases z : (D[n]'(by omega)).2 = 0
    · rw [List.filter_cons_of_neg (by rw [e3]; simpa using z), List.filter_cons_of_neg (by simpa using z)]
      rfl
    · rw [List.filter_cons_of_pos (by rw [e3]; simpa using z), List.filter_cons_of_pos (by simpa using z)]
      rw [List.map_cons, e]
      rfl
theorem row_keys {H : Hp} {D : Tm} : ∀ {ys : List V} {is : List Nat}, Paired (fun y i => ∃ q c, y = V.ref q ∧ H q = some (.tup (spV c.1)) ∧ D[i]? = some c) ys is → ∃ (ps : KAs) (cs : Tm), ys = refsOf ps ∧ ps.map (·.1) = cs.map (fun c => spK c.1) ∧ (∀ q ∈ ps, H q.2 = some (.tup (q.1.map kV))) ∧ is.map (fun i => D[i]?) = cs.map some
  | _, _, .nil => ⟨[], [], rfl, rfl, (fun q h => nomatch h), rfl⟩
  | _, _, .cons ⟨q, c, h1, h2, h3⟩ t => by
    obtain ⟨ps, cs, e1, e2, e3, e4⟩ := row_keys t
    refine ⟨(spK c.1, q) :: ps, c :: cs, by rw [h1, e1]; rfl, by rw [List.map_cons, List.map_cons, e2], fun r hr => ?_, by rw [List.map_cons, List.map_cons, h3, e4]⟩
    rcases List.mem_cons.mp hr with rfl | hr
    · exact h2
    · exact e3 r hr
theorem paired_range {α : Type} {R : V → α → Prop} {T : List α} : ∀ (m k : Nat) {ys : List V}, Paired (fun y i => ∃ c, T[i]? = some c ∧ R y c) ys (List.range' k m) → k + m = T.length → Paired R ys (T.drop k)
  | 0, k, ys, h, e => by
    cases h
    rw [List.drop_of_length_le (by omega)]
    exact .nil
  | m + 1, k, ys, h, e => by
    rw [List.range'_succ] at h
    cases h with
    | cons h t =>
      obtain ⟨c, hc, hr⟩ := h
      have lt : k < T.length := by omega
      rw [List.drop_eq_getElem_cons lt]
      refine .cons ?_ (paired_range m (k + 1) t (by omega))
      rw [List.getElem?_eq_getElem lt] at hc
      rw [Option.some.inj hc]
      exact hr
theorem paired_all {α : Type} {R : V → α → Prop} {T : List α} {ys : List V} (h : Paired (fun y i => ∃ c, T[i]? = some c ∧ R y c) ys ((List.range T.length).filter fun _ => true)) : Paired R ys T := by
  rw [List.filter_eq_self.mpr (fun _ _ => rfl), List.range_eq_range'] at h
  exact paired_range T.length 0 h (by omega)
section
variable {P : Program} {w : World} {K : PySem.W.Frag} {mg : Str → Option Value} {base : Heap} {a : Ad}
def sp_plain_form (K : PySem.W.Frag) : Sp := fun vs H Q _ => ∃ (d : Addr) (o : Obj) (kvs : List (List Key × V)) (D : Tm) (x : Rat) (r : V), vs = [.ref d, r] ∧ H d = some (.frz o (.dT kvs)) ∧ KvQ K H kvs D ∧ (keysQ D).Nodup ∧ D.length ≤ 1000 ∧ Rq K H r x ∧
  ∀ H' v T, Same H H' → IsPf T (tv D) → PlV K H' v T x → Q v H'
theorem c_plain_form (T : Txt K mg a) : Cl P w K mg base 1 "plain_form" P_plain_form (sp_plain_form K) [] :=
  T.d_plain_form.cl sc_plain_form (fun vs H Q E h => by obtain ⟨d, o, kvs, D, x, r, rfl, _⟩ := h; rfl) fun f cdv A outer s H vs Q E hr h => by
    obtain ⟨d, o, kvs, D, x, r, rfl, hd, kv, nd, len, hx, k⟩ := h
    refine ⟨_, ((pss_cons (ps_set (i := 2) sc_plain_form.nd rfl (Or.inl rfl) (pe_callB (call_sortL hr.units) (by rfl) T.n_sorted (by decide +kernel) (pa_cons (pe_lc (own := [("spot", 3)]) (g := (gName 3)) (by rfl) sc_plain_form.nd (pi_keys (pv 0)) (blkOk_by (own := [("spot", 3)]) (N := N_plain_form) (sc := defScope s_plain_form) (by decide +kernel)) (fun _ _ _ _ _ => (pg_name (i := 3) sc_plain_form.nd rfl (Or.inl rfl) (hf := .inr rfl))) (fun _ _ _ _ _ => (pts_one (pt_cmpR op_ne (pe_ix (r := rIxT K) ix_tup (pe_dget (hu_of hr) (pv 0) (pv 3) (fun _ _ => rfl)) pe_int (fun _ _ => rfl)) pe_int (nomark _)))) (fun _ _ _ _ _ => (pv 3))) pa_nil)))
 (pss_one (ps_ret (pe_tup (pa_cons (pe_callTy call_tuple_of (by rfl) T.n_tuple (by decide +kernel) (pa_cons (pe_lc (own := [("spot", 3)]) (g := (gName 3)) (by rfl) sc_plain_form.nd (pi_list (pv 2)) (blkOk_by (own := [("spot", 3)]) (N := N_plain_form) (sc := defScope s_plain_form) (by decide +kernel)) (fun _ _ _ _ _ => (pg_name (i := 3) sc_plain_form.nd rfl (Or.inl rfl) (hf := .inr rfl))) (fun _ _ _ _ _ => pts_nil) (fun _ _ _ _ _ => (pe_tup (pa_cons (pv 3) (pa_cons (pe_dget (hu_of hr) (pv 0) (pv 3) (fun _ _ => rfl)) pa_nil))))) pa_nil)) (pa_cons (pv 1) pa_nil))))))), ?_⟩
    have kl := kv.len
    refine ⟨_, rfl, d, o, rfl, .inr ⟨kvs, hd, fun D1 hD1 => ?_⟩⟩
    refine lcH walk_keysT (nzQ D) (Same.refl H) hD1 (fun i H y => ∃ q c, y = .ref q ∧ H q = some (.tup (spV c.1)) ∧ D[i]? = some c) (fun i H H' y e z => by
      obtain ⟨q, c, h1, h2, h3⟩ := z
      exact ⟨q, c, h1, tup_ts e h2, h3⟩) (by omega) (fun F' H' e1 e2 e3 => e3 _ _ hd) ?_ ?_
    · rintro i _ F' _ H' Kt Kn hi s1 ⟨rfl, kk, u, q, e, rfl, hq⟩ ky kn
      obtain ⟨c, hc, rfl, _⟩ := kv.at_ e
      obtain ⟨w', g1, g2, g3⟩ : ∃ w', valV kvs (spK c.1) = some w' ∧ c.1 ∈ keysQ D ∧ Rq K H w' (tv D c.1) := by
        rcases kv.get c.1 with ⟨_, n⟩ | z
        · exact absurd (List.mem_map.mpr ⟨c, List.mem_of_getElem? hc, rfl⟩) n
        · exact z
      rw [tv_mem nd (show (c.1, c.2) ∈ D from List.mem_of_getElem? hc)] at g3
      obtain ⟨p, rfl, hp⟩ := g3.ts (Same.ts s1.same)
      have dg : DGet H' d (.ref q) (some (.ref p)) := .inr ⟨kvs, spK c.1, q, .inr ⟨o, s1.same _ _ hd⟩, rfl, hq, g1.symm⟩
      refine ⟨rfl, ?_⟩
      refine ⟨_, rfl, _, rfl, d, _, rfl, dg, p, _, _, _, rfl, rfl, hp, at0, rfl, _, rfl, ?_⟩
      unfold nzQ at ky kn
      rw [hc] at ky kn
      dsimp only at ky kn
      by_cases z : c.2 = 0
      · have e0 : (!decide (V.int (K33.nd c.2).1 = V.int 0)) = false := by rw [z]; rfl
        rw [e0]
        refine iteF (kn ?_ F' H' (.refl s1.fh))
        rw [z]
        rfl
      · have e0 : (!decide (V.int (K33.nd c.2).1 = V.int 0)) = true := by
          rw [decide_eq_false]
          · rfl
          · intro y
            exact z (Rat.num_eq_zero.mp (V.int.inj y))
        rw [e0]
        refine iteT ⟨_, rfl, ky ?_ _ F' H' (.refl s1.fh) ⟨q, c, rfl, hq, rfl⟩⟩
        simpa using z
    · intro F1 H1 ys s1 hD pr
      rw [kl] at pr
      obtain ⟨ps, cs, rfl, e2, e3, e4⟩ := row_keys pr
      rw [nz_row] at e4
      have ecs : D.filter (fun c => decide (c.2 ≠ 0)) = cs := List.map_inj_right (fun _ _ => Option.some.inj) |>.mp e4
      have ndc : (cs.map (·.1)).Nodup := by rw [← ecs]; exact (List.filter_sublist.map _).nodup nd
      have ndp : (ps.map (·.1)).Nodup := by
        rw [e2]
        have : cs.map (fun c => spK c.1) = (cs.map (·.1)).map spK := by rw [List.map_map]; rfl
        rw [this]
        exact List.pairwise_map.mpr (ndc.imp fun {a b} z e => z (spK_inj e))
      have sp : ∀ q ∈ ps, ∃ s, q.1 = spK s := fun q hq => by
        have : q.1 ∈ ps.map (·.1) := List.mem_map.mpr ⟨q, hq, rfl⟩
        rw [e2] at this
        obtain ⟨c, _, e⟩ := List.mem_map.mp this
        exact ⟨c.1, e.symm⟩
      obtain ⟨S, eS, so, mS⟩ := srt_spots sp ndp
      have mS2 : ∀ s, s ∈ S ↔ tv D s ≠ 0 := fun s => by
        rw [mS, e2]
        constructor
        · intro z
          obtain ⟨c, hc, e⟩ := List.mem_map.mp z
          rw [← ecs] at hc
          obtain ⟨h1, h2⟩ := List.mem_filter.mp hc
          rw [← spK_inj e, tv_mem nd (show (c.1, c.2) ∈ D from h1)]
          simpa using h2
        · intro z
          have hk : s ∈ keysQ D := Classical.byContradiction fun n => z (tv_out n)
          refine List.mem_map.mpr ⟨(s, tv D s), ?_, rfl⟩
          rw [← ecs]
          exact List.mem_filter.mpr ⟨mem_tv hk, by simpa using z⟩
      have lS : (srt ps).length = S.length := by rw [← List.length_map (f := (·.1)), eS, List.length_map]
      have lp : S.length ≤ 1000 := by
        rw [← lS]
        unfold srt
        rw [List.length_mergeSort]
        have : ps.length = cs.length := by rw [← List.length_map (f := (·.1)), e2, List.length_map]
        rw [this, ← ecs]
        exact Nat.le_trans (List.length_filter_le _ _) len
      refine ⟨D1, ps, rfl, SqL.of (s1.fh _ _ hD), fun q hq => SqT.of (e3 q hq), ?_, ?_, fun p2 hp2 => ?_⟩
      · intro x hx y hy
        obtain ⟨q, hq, rfl⟩ := List.mem_map.mp hx
        obtain ⟨q', hq', rfl⟩ := List.mem_map.mp hy
        obtain ⟨s, hs⟩ := sp q hq
        obtain ⟨t, ht⟩ := sp q' hq'
        rw [hs, ht]
        exact alike_sp s t
      · refine .inl fun x hx => ?_
        obtain ⟨q, hq, rfl⟩ := List.mem_map.mp hx
        obtain ⟨s, hs⟩ := sp q hq
        rw [hs]
        exact ⟨_, _, rfl⟩
      have s2 : Stp H H F1 (upd H1 p2 (.lst (refsOf (srt ps)))) := s1.raw hp2 (s1.freshP hp2)
      have h2p : (upd H1 p2 (.lst (refsOf (srt ps)))) p2 = some (.lst (refsOf (srt ps))) := upd_same
      have t12 : TS H1 (upd H1 p2 (.lst (refsOf (srt ps)))) := TS.new hp2
      generalize upd H1 p2 (.lst (refsOf (srt ps))) = H2 at s2 h2p t12
      have xl : (refsOf (srt ps)).length = S.length := by unfold refsOf; rw [List.length_map, lS]
      obtain ⟨Tt, eT⟩ : ∃ Tt : Tm, Tt = S.map fun s => (s, tv D s) := ⟨_, rfl⟩
      have lT : Tt.length = (refsOf (srt ps)).length := by rw [eT, List.length_map, xl]
      refine ⟨_, rfl, p2, rfl, ⟨_, SqL.of h2p⟩, fun D2 hD2 => ?_⟩
      refine lcH (walk_list (xs := refsOf (srt ps))) (fun _ => true) s2.fh hD2 (fun i H y => ∃ c, Tt[i]? = some c ∧ PrQ K H y c) (fun i H H' y e z => by
        obtain ⟨c, h1, h2⟩ := z
        exact ⟨c, h1, h2.ts e⟩) (by omega) (fun F' H' e1 e2 e3 => upL e3 (SqL.of h2p)) ?_ ?_
      · rintro i v F' _ H' Kt Kn hi s3 ⟨eH, hv⟩ ky kn
        subst eH
        unfold refsOf at hv
        rw [List.getElem?_map] at hv
        obtain ⟨q, hq, rfl⟩ := Option.map_eq_some_iff.mp hv
        have hqp : q ∈ ps := (List.mergeSort_perm _ _).mem_iff.mp (List.mem_of_getElem? hq)
        obtain ⟨sp1, hs1, e1⟩ : ∃ s, S[i]? = some s ∧ q.1 = spK s := by
          have : ((srt ps).map (·.1))[i]? = some q.1 := by rw [List.getElem?_map, hq]; rfl
          rw [eS, List.getElem?_map] at this
          obtain ⟨s, h1, h2⟩ := Option.map_eq_some_iff.mp this
          exact ⟨s, h1, h2.symm⟩
        have hqH : H' q.2 = some (.tup (spV sp1)) := by
          have := tup_ts (t12.trans (Same.ts s3.same)) (e3 q hqp)
          rw [e1] at this
          exact this
        obtain ⟨w', g1, g2, g3⟩ : ∃ w', valV kvs (spK sp1) = some w' ∧ sp1 ∈ keysQ D ∧ Rq K H w' (tv D sp1) := by
          rcases kv.get sp1 with ⟨_, n⟩ | z
          · exact absurd (tv_out n) ((mS2 sp1).mp (List.mem_of_getElem? hs1))
          · exact z
        have same : Same H H' := s2.same.trans s3.same
        have dg : DGet H' d (.ref q.2) (some w') := .inr ⟨kvs, spK sp1, q.2, .inr ⟨o, same _ _ hd⟩, rfl, hqH, g1.symm⟩
        refine ⟨rfl, lc_yes ⟨_, rfl, _, rfl, _, rfl, d, _, rfl, dg, by show 2 ≤ sizeLine; decide, fun t ht => ?_⟩⟩
        refine ky rfl _ _ _ (stp_new s3.fh ht) ⟨(sp1, tv D sp1), by rw [eT, List.getElem?_map, hs1]; rfl, t, _, _, rfl, sq_new, ⟨q.2, rfl, tup_ts (TS.new ht) hqH⟩, (g3.ts (Same.ts same)).ts (TS.new ht)⟩
      · intro F3 H3 zs s3 hD3 pr3
        rw [← lT] at pr3
        have pr4 := paired_all pr3
        refine ⟨D2, zs, rfl, .inl ⟨SqL.of (s3.fh _ _ hD3), fun l hl => ?_⟩⟩
        have s4 := (s2.transP s3).newP (o := .tup zs) hl
        have t4 := TS.new (o := .tup zs) hl
        have l4 : (upd H3 l (.tup zs)) l = some (.tup zs) := upd_same
        generalize upd H3 l (.tup zs) = H4 at s4 t4 l4
        refine ⟨_, rfl, by show 2 ≤ sizeLine; decide, fun z hz => ?_⟩
        refine k _ _ Tt (s4.newP hz).same ⟨?_, fun c => ?_⟩ ⟨z, .ref l, r, rfl, sq_new, ⟨l, zs, rfl, SqT.of (tup_ts (TS.new hz) l4), Paired.mapP pr4 fun _ _ y => (y.ts t4).ts (TS.new hz)⟩, (hx.ts (Same.ts s4.same)).ts (TS.new hz)⟩
        · have : keysQ Tt = S := by rw [eT]; unfold keysQ; rw [List.map_map]; exact List.map_id S
          rw [this]
          exact so
        · rw [eT, List.mem_map]
          constructor
          · rintro ⟨s, hs, rfl⟩
            exact ⟨rfl, (mS2 s).mp hs⟩
          · rintro ⟨h1, h2⟩
            rw [h1] at h2
            exact ⟨c.1, (mS2 _).mpr h2, by rw [← h1]⟩
end
end K33

set_option Elab.async false
set_option linter.all false
set_option maxRecDepth 100000
set_option maxHeartbeats 4000000
namespace K33
open PySem PySem.Spec PyProof.Rows L2 Ew
theorem Stp.full {H F' H' : Hp} (s : Stp H H F' H') : Same H H' := s.same
theorem stp_full {H H' : Hp} (e : Same H H') : Stp H H H' H' := ⟨e, Same.refl _, fun a o _ z => e a o z, fun a n z => absurd n z⟩
theorem Rq.of {K : PySem.W.Frag} {F H : Hp} {v : V} {x : Rat} (h : Rq K F v x) (e : Same F H) : Rq K H v x := h.up e
/-- all but one thing stays -/
def SameX (D : Addr) (H H' : Hp) : Prop := ∀ p o, p ≠ D → H p = some o → H' p = some o
theorem SameX.same {D : Addr} {H0 H H' : Hp} (e : SameX D H H') (s : Same H0 H) (h : H0 D = none) : Same H0 H' := fun p o z => e p o (fun q => by rw [q, h] at z; cases z) (s p o z)
theorem SameX.ts {D : Addr} {H H' : Hp} (e : SameX D H H') {u : HO} (h : H D = some u) (m : Mut (some u)) : TS H H' := fun p o z n => e p o (fun q => by rw [q, h] at z; cases z; exact n m) z
theorem tv_fn {D : Tm} {k : Nat} (h : ∀ c ∈ D, Fn k c.2) (h1 : 1 ≤ k) (s : Spot) : Fn k (tv D s) := by
  by_cases z : s ∈ keysQ D
  · exact h _ (mem_tv z)
  · rw [tv_out z]
    exact fn_zero.mono h1
theorem zero_rq {K : PySem.W.Frag} {H : Hp} {t : Addr} (h : H t = some (.tup [.int 0, .int 1])) : Rq K H (.ref t) 0 := ⟨t, rfl, SqT.of h⟩
/-- d[s] = plus(d.get(s, (0, 1)), x) -/
theorem put_plus {K : PySem.W.Frag} {σ : L2.St} {H : Hp} {Dn : Ends} {W : WX} {i j k : Nat} {D qs : Addr} {w : V} {kvs : List (List Key × V)} {Tb : Tm} {s : Spot} {x : Rat} (h1 : σ[i]? = some (some (.ref D))) (h2 : σ[j]? = some (some (.ref qs))) (h3 : σ[k]? = some (some w))
    (hD : H D = some (.dT kvs)) (kv : KvQ K H kvs Tb) (hl : kvs.length < 1000) (hs : H qs = some (.tup (spV s))) (hw : Rq K H w x) (f1 : Fn 2000 (tv Tb s)) (f2 : Fn 2000 x)
    (go : ∀ H' kvs', SameX D H H' → H' D = some (.dT kvs') → KvQ K H' kvs' (addQ Tb (s, x)) → kvs'.length ≤ kvs.length + 1 → Dn.nx σ H') :
    sDPut (tVar i) (tVar j) (tF (sp_two K rPlus) [] W (tCons (tDGet2 (tVar i) (tVar j) (tTup (tCons (tC (.int 0)) (tCons (tC (.int 1)) tNil)))) (tCons (tVar k) tNil))) Dn σ H := by
  refine ⟨_, h1, D, rfl, .inr ⟨kvs, .inl hD⟩, _, h2, by show 2 ≤ sizeLine; decide, fun t ht => ?_⟩
  have nD : D ≠ t := fun z => by rw [← z, hD] at ht; cases ht
  have e1 : Same H (upd H t (.tup [.int 0, .int 1])) := same_new ht
  have ht1 : (upd H t (.tup [.int 0, .int 1])) t = some (.tup [.int 0, .int 1]) := upd_same
  generalize upd H t (.tup [.int 0, .int 1]) = H1 at e1 ht1
  refine ⟨valV kvs (spK s), .inr ⟨kvs, spK s, qs, .inl (e1 _ _ hD), rfl, e1 _ _ hs, rfl⟩, _, h3, ?_⟩
  have hu : Rq K H1 ((valV kvs (spK s)).getD (.ref t)) (tv Tb s) := by
    rcases kv.get s with ⟨g1, g2⟩ | ⟨w', g1, _, g3⟩
    · rw [g1, tv_out g2]
      exact zero_rq ht1
    · rw [g1]
      exact g3.of e1
  refine two_plus (F := H1) (E := WE W σ) hu (hw.of e1) f1 f2 (Same.refl _) fun F' H' z st hz => ?_
  have e2 : Same H H' := e1.trans st.same
  refine ⟨_, h1, _, h2, D, _, rfl, DPut.t (k := spK s) (e2 _ _ hD) (e2 _ _ hs) (by rw [sizeLine_eq]; omega), ?_⟩
  have kv2 := (kv.ts (Same.ts e2)).put (hz.of st.fh) (s := s)
  refine go _ _ (fun p o n e => by rw [upd_ne n]; exact e2 p o e) upd_same ?_ ?_
  · exact kv2.ts (TS.refl.upd fun u e => by rw [e2 _ _ hD] at e; cases e; exact trivial)
  · have l1 := (kv.ts (Same.ts e2)).len
    have l2 := kv2.len
    have := len_put (D := Tb) (s := s) (x := tv Tb s + x)
    rw [l2, l1]
    exact this
theorem Paired.app {α β : Type} {R : α → β → Prop} {xs ys : List α} {L M : List β} (h : Paired R xs L) (k : Paired R ys M) : Paired R (xs ++ ys) (L ++ M) := by
  induction h with
  | nil => exact k
  | cons h t ih => exact .cons h ih
theorem tot_take {T : Tm} {k : Nat} (nd : (keysQ T).Nodup) (h : ∀ c ∈ T, Fn k c.2) (h1 : 1 ≤ k) (n : Nat) (s : Spot) : Fn k (tot (T.take n) s) := by
  have nd2 : (keysQ (T.take n)).Nodup := by unfold keysQ; rw [List.map_take]; exact (List.take_sublist n _).nodup nd
  rw [tot_nodup nd2]
  exact tv_fn (fun c hc => h c (List.mem_of_mem_take hc)) h1 s
section
variable {P : Program} {w : World} {K : PySem.W.Frag} {mg : Str → Option Value} {base : Heap} {a : Ad}
theorem PlV.at0 {H : Hp} {v : V} {T : Tm} {x : Rat} (h : PlV K H v T x) : ∃ p t r xs q, v = .ref p ∧ SqT K H p [.ref t, r] ∧ SqT K H t xs ∧ Paired (PrQ K H) xs T ∧ r = .ref q ∧ Rq K H r x := by
  obtain ⟨p, t, r, rfl, h1, ⟨t', xs, rfl, h2, h3⟩, h4⟩ := h
  obtain ⟨q, rfl, _⟩ := id h4
  exact ⟨p, t', _, xs, q, rfl, h1, h2, h3, rfl, h4⟩
def sp_plain_sum (K : PySem.W.Frag) : Sp := fun vs H Q _ => ∃ (u v : V) (T1 T2 : Tm) (x1 x2 : Rat) (k : Nat), vs = [u, v] ∧ PlV K H u T1 x1 ∧ PlV K H v T2 x2 ∧ (keysQ T1).Nodup ∧ (keysQ T2).Nodup ∧ T1.length + T2.length ≤ 900 ∧ (∀ c ∈ T1, Fn k c.2) ∧ (∀ c ∈ T2, Fn k c.2) ∧ 1 ≤ k ∧ k ≤ 990 ∧ Fn 2000 x1 ∧ Fn 2000 x2 ∧
  ∀ H' z T, Same H H' → IsPf T (fun s => tv T1 s + tv T2 s) → PlV K H' z T (x1 + x2) → Q z H'
theorem c_plain_sum (T : Txt K mg a) : Cl P w K mg base 5 "plain_sum" P_plain_sum (sp_plain_sum K) [] :=
  T.d_plain_sum.cl sc_plain_sum (fun vs H Q E h => by obtain ⟨u, v, T1, T2, x1, x2, k, rfl, _⟩ := h; rfl) fun f cdv A outer s H vs Q E hr h => by
    obtain ⟨u, v, T1, T2, x1, x2, k, rfl, hu, hv, n1, n2, len, g1, g2, k1, k2, fx1, fx2, go⟩ := h
    obtain ⟨p1, t1, r1, xs1, q1, rfl, a1, b1, c1, d1, e1⟩ := hu.at0
    obtain ⟨p2, t2, r2, xs2, q2, rfl, a2, b2, c2, d2, e2⟩ := hv.at0
    refine ⟨_, ((pss_cons (ps_set (i := 2) sc_plain_sum.nd rfl (Or.inl rfl) pe_dnewT)
 (pss_cons (ps_for (passes_of rfl) rfl (pi_tup (pe_op op_catF (pe_ix ix_tup (pv 0) pe_int (fun _ _ => rfl)) (pe_ix ix_tup (pv 1) pe_int (fun _ _ => rfl)))) (pg_tup rfl (pgs_cons (pg_name (i := 3) sc_plain_sum.nd rfl (Or.inl rfl)) (pgs_cons (pg_name (i := 4) sc_plain_sum.nd rfl (Or.inl rfl)) pgs_nil)))
 (pss_one (ps_dput (hu_of hr) (pv 2) (pv 3) (pe_f (c_plus T) (takes_of rfl rfl rfl rfl) hr (by decide) rfl (pa_cons (pe_dget2 (hu_of hr) (pv 2) (pv 3) (pe_tup (pa_cons pe_int (pa_cons pe_int pa_nil))) (by exact ⟨by rfl, by rfl, by rfl, by rfl⟩)) (pa_cons (pv 4) pa_nil))) rfl)))
 (pss_one (ps_ret (pe_f (c_plain_form T) (takes_of rfl rfl rfl rfl) hr (by decide) rfl (pa_cons (pe_keep (pv 2)) (pa_cons (pe_f (c_plus T) (takes_of rfl rfl rfl rfl) hr (by decide) rfl (pa_cons (pe_ix ix_tup (pv 0) pe_int (fun _ _ => rfl)) (pa_cons (pe_ix ix_tup (pv 1) pe_int (fun _ _ => rfl)) pa_nil))) pa_nil)))))))), ?_⟩
    refine fun D hD => ?_
    have sD := same_new hD (o := .dT [])
    have hD1 : (upd H D (.dT [])) D = some (.dT []) := upd_same
    generalize upd H D (.dT []) = H1 at sD hD1
    have lx1 := Paired.length c1
    have lx2 := Paired.length c2
    refine ⟨_, rfl, p1, _, _, _, rfl, rfl, upT sD a1, at0, _, rfl, p2, _, _, _, rfl, rfl, upT sD a2, at0, ?_⟩
    have l0 : xs1.length + xs2.length ≤ sizeLine := by rw [sizeLine_eq]; omega
    refine ⟨H1, H1, H1, t1, t2, xs1, xs2, Stm.refl (Same.refl _), rfl, rfl, upT sD b1, upT sD b2, l0, fun pc F2 H2 st2 _ hpc => ⟨pc, rfl, ⟨_, upT st2.fh hpc⟩, ?_⟩⟩
    have e2' : Same H H2 := sD.trans st2.same
    have hpc2 := upT st2.fh hpc
    have hD2 := st2.same _ _ hD1
    have prs := Paired.app c1 c2
    have nds : ∀ n s, Fn 2000 (tot ((T1 ++ T2).take n) s) := fun n s => by
      rw [List.take_append, tot_app]
      exact ((tot_take n1 g1 k1 _ _).plus (tot_take n2 g2 k1 _ _)).mono (by omega)
    clear hD1 st2 hpc
    refine for_it (walk_tup (a := pc) (xs := xs1 ++ xs2)) (fun j σ' H' => ∃ kvs c3 c4, σ' = [some (.ref p1), some (.ref p2), some (.ref D), c3, c4] ∧ Same H H' ∧ TS H2 H' ∧ H' D = some (.dT kvs) ∧ KvQ K H' kvs (sumQ ((T1 ++ T2).take j)) ∧ kvs.length ≤ j) ?_ ?_ ?_ ?_
    · exact ⟨[], none, none, rfl, e2', TS.refl, hD2, .nil, Nat.le_refl _⟩
    · rintro j σ' H' _ ⟨kvs, c3, c4, _, _, t, _⟩
      exact sqT_ts t hpc2
    · rintro j v _ Hj Hk hj ⟨kvs, c3, c4, rfl, e3, t3, hDk, kv, kl⟩ ⟨eH, hv⟩
      subst eH
      obtain ⟨c, hc, q, u', w', rfl, hq, ⟨qs, rfl, hqs⟩, hw⟩ := paired_get prs hv
      refine ⟨q, _, rfl, upT e3 hq, rfl, _, _, rfl, _, _, rfl, rfl, ?_⟩
      have f2 : Fn 2000 c.2 := by
        rcases List.mem_append.mp (List.mem_of_getElem? hc) with z | z
        · exact (g1 c z).mono (by omega)
        · exact (g2 c z).mono (by omega)
      rw [List.length_append] at hj
      refine put_plus rfl rfl rfl hDk kv (by omega) (e3 _ _ hqs) (hw.of e3) (by rw [tv_sum]; exact nds j _) f2 fun H' kvs' sx hD' kv' kl' => ?_
      refine ⟨kvs', _, _, rfl, sx.same e3 hD, t3.trans (sx.ts hDk trivial), hD', ?_, by omega⟩
      have : (T1 ++ T2).take (j + 1) = (T1 ++ T2).take j ++ [c] := by rw [List.take_add_one, hc]; rfl
      rw [this, sumQ_snoc]
      exact kv'
    · rintro _ H3 ⟨kvs, c3, c4, rfl, e3, t3, hD3, kv, kl⟩
      have : (T1 ++ T2).take (xs1 ++ xs2).length = T1 ++ T2 := List.take_of_length_le (by rw [List.length_append, List.length_append]; omega)
      rw [this] at kv
      rw [List.length_append] at kl
      refine ⟨_, rfl, D, _, hD3, trivial, fun o => ?_⟩
      have e4 : Same H (upd H3 D (.frz o (.dT kvs))) := SameX.same (D := D) (H := H3) (fun p o n z => by rw [upd_ne n]; exact z) e3 hD
      have h4 : (upd H3 D (.frz o (.dT kvs))) D = some (.frz o (.dT kvs)) := upd_same
      have kv4 := kv.ts (TS.refl.upd (p := D) (o := .frz o (.dT kvs)) fun u e => by rw [hD3] at e; cases e; exact trivial)
      generalize upd H3 D (.frz o (.dT kvs)) = H4 at e4 h4 kv4
      refine ⟨_, rfl, p1, _, _, _, rfl, rfl, upT e4 a1, at1, _, rfl, p2, _, _, _, rfl, rfl, upT e4 a2, at1, ?_⟩
      refine two_plus (F := H4) (E := E) (e1.of e4) (e2.of e4) fx1 fx2 (Same.refl _) fun F' H5 z st hz => ?_
      refine ⟨D, o, kvs, sumQ (T1 ++ T2), x1 + x2, z, rfl, st.same _ _ h4, kv4.ts (Same.ts st.same), sum_nodup.1, Nat.le_trans sum_nodup.2 (by rw [List.length_append]; omega), hz.of st.fh, fun H6 z T e6 pf pl => go H6 z T (e4.trans (st.same.trans e6)) ?_ pl⟩
      have : (fun s => tv T1 s + tv T2 s) = tv (sumQ (T1 ++ T2)) := funext fun s => by rw [tv_sum, tot_app, tot_nodup n1, tot_nodup n2]
      rw [this]
      exact pf
end
end K33

set_option Elab.async false
set_option linter.all false
set_option maxRecDepth 100000
set_option maxHeartbeats 4000000
namespace K33
open PySem PySem.Spec PyProof.Rows L2 Ew
def sclQ (T : Tm) (y : Rat) : Tm := T.map fun c => (c.1, c.2 * y)
theorem keys_scl (T : Tm) (y : Rat) : keysQ (sclQ T y) = keysQ T := by unfold keysQ sclQ; rw [List.map_map]; rfl
theorem tv_scl {T : Tm} (y : Rat) (s : Spot) : tv (sclQ T y) s = tv T s * y := by
  induction T with
  | nil => show (0 : Rat) = 0 * y; grind
  | cons c T ih =>
    show tv ((c.1, c.2 * y) :: sclQ T y) s = _
    rw [tv_cons, tv_cons]
    by_cases e : c.1 = s
    · rw [if_pos e, if_pos e]
    · rw [if_neg e, if_neg e, ih]
theorem take_new {T : Tm} (nd : (keysQ T).Nodup) {j : Nat} {c : Spot × Rat} (h : T[j]? = some c) : c.1 ∉ keysQ (T.take j) := by
  intro z
  unfold keysQ at z nd
  rw [List.map_take] at z
  obtain ⟨i, hi⟩ := List.mem_iff_getElem?.mp z
  rw [List.getElem?_take] at hi
  have il : i < j := by
    by_cases q : i < j
    · exact q
    · rw [if_neg q] at hi; cases hi
  rw [if_pos il] at hi
  have e2 : (T.map (·.1))[j]? = some c.1 := by rw [List.getElem?_map, h]; rfl
  have := (List.getElem?_inj (List.getElem?_eq_some_iff.mp hi).1 nd).mp (hi.trans e2.symm)
  omega
section
variable {P : Program} {w : World} {K : PySem.W.Frag} {mg : Str → Option Value} {base : Heap} {a : Ad}
def sp_plain_scaled (K : PySem.W.Frag) : Sp := fun vs H Q _ => ∃ (u v : V) (T1 : Tm) (x1 y : Rat), vs = [u, v] ∧ PlV K H u T1 x1 ∧ Rq K H v y ∧ (keysQ T1).Nodup ∧ T1.length ≤ 900 ∧ (∀ c ∈ T1, Fn 2000 c.2) ∧ Fn 2000 x1 ∧ Fn 2000 y ∧
  ∀ H' z T, Same H H' → IsPf T (fun s => tv T1 s * y) → PlV K H' z T (x1 * y) → Q z H'
theorem c_plain_scaled (T : Txt K mg a) : Cl P w K mg base 5 "plain_scaled" P_plain_scaled (sp_plain_scaled K) [] :=
  T.d_plain_scaled.cl sc_plain_scaled (fun vs H Q E h => by obtain ⟨u, v, T1, x1, y, rfl, _⟩ := h; rfl) fun f cdv A outer s H vs Q E hr h => by
    obtain ⟨u, v, T1, x1, y, rfl, hu, hv, n1, len, g1, fx1, fy, go⟩ := h
    obtain ⟨p1, t1, r1, xs1, q1, rfl, a1, b1, c1, d1, e1⟩ := hu.at0
    refine ⟨_, ((pss_cons (ps_set (i := 2) sc_plain_scaled.nd rfl (Or.inl rfl) pe_dnewT)
 (pss_cons (ps_for (passes_of rfl) rfl (pi_tup (pe_ix ix_tup (pv 0) pe_int (fun _ _ => rfl))) (pg_tup rfl (pgs_cons (pg_name (i := 3) sc_plain_scaled.nd rfl (Or.inl rfl)) (pgs_cons (pg_name (i := 4) sc_plain_scaled.nd rfl (Or.inl rfl)) pgs_nil)))
 (pss_one (ps_dput (hu_of hr) (pv 2) (pv 3) (pe_f (c_times T) (takes_of rfl rfl rfl rfl) hr (by decide) rfl (pa_cons (pv 4) (pa_cons (pv 1) pa_nil))) rfl)))
 (pss_one (ps_ret (pe_f (c_plain_form T) (takes_of rfl rfl rfl rfl) hr (by decide) rfl (pa_cons (pe_keep (pv 2)) (pa_cons (pe_f (c_times T) (takes_of rfl rfl rfl rfl) hr (by decide) rfl (pa_cons (pe_ix ix_tup (pv 0) pe_int (fun _ _ => rfl)) (pa_cons (pv 1) pa_nil))) pa_nil)))))))), ?_⟩
    refine fun D hD => ?_
    have sD := same_new hD (o := .dT [])
    have hD1 : (upd H D (.dT [])) D = some (.dT []) := upd_same
    generalize upd H D (.dT []) = H1 at sD hD1
    have lx1 := Paired.length c1
    refine ⟨_, rfl, p1, _, _, _, rfl, rfl, upT sD a1, at0, t1, rfl, ⟨_, upT sD b1⟩, ?_⟩
    refine for_it (walk_tup (a := t1) (xs := xs1)) (fun j σ' H' => ∃ kvs c3 c4, σ' = [some (.ref p1), some v, some (.ref D), c3, c4] ∧ Same H H' ∧ H' D = some (.dT kvs) ∧ KvQ K H' kvs (sclQ (T1.take j) y)) ?_ ?_ ?_ ?_
    · exact ⟨[], none, none, rfl, sD, hD1, .nil⟩
    · rintro j σ' H' _ ⟨kvs, c3, c4, _, e, _⟩
      exact upT e b1
    · rintro j v' _ Hj Hk hj ⟨kvs, c3, c4, rfl, e3, hDk, kv⟩ ⟨eH, hv'⟩
      subst eH
      obtain ⟨c, hc, q, u', w', rfl, hq, ⟨qs, rfl, hqs⟩, hw⟩ := paired_get c1 hv'
      refine ⟨q, _, rfl, upT e3 hq, rfl, _, _, rfl, _, _, rfl, rfl, ?_⟩
      refine ⟨_, rfl, _, rfl, ?_⟩
      refine two_times (F := Hk) (E := E) (hw.of e3) (hv.of e3) (g1 c (List.mem_of_getElem? hc)) fy (Same.refl _) fun F' H' z st hz => ?_
      have e4 := st.same
      have kl : kvs.length ≤ j := by
        have := kv.len
        unfold sclQ at this
        rw [List.length_map, List.length_take] at this
        omega
      refine ⟨_, rfl, _, rfl, D, _, rfl, DPut.t (k := spK c.1) (e4 _ _ hDk) (e4 _ _ (e3 _ _ hqs)) (by rw [sizeLine_eq]; omega), ?_⟩
      have kv2 := (kv.ts (Same.ts e4)).put (hz.of st.fh) (s := c.1)
      have nin : c.1 ∉ keysQ (sclQ (T1.take j) y) := by rw [keys_scl]; exact take_new n1 hc
      have ep : putQ (sclQ (T1.take j) y) c.1 (c.2 * y) = sclQ (T1.take (j + 1)) y := by
        unfold putQ
        rw [if_neg nin, List.take_add_one, hc]
        unfold sclQ
        rw [List.map_append]
        rfl
      rw [ep] at kv2
      exact ⟨_, _, _, rfl, SameX.same (D := D) (H := H') (fun p o n z => by rw [upd_ne n]; exact z) (e3.trans e4) hD, upd_same, kv2.ts (TS.refl.upd fun u e => by rw [e4 _ _ hDk] at e; cases e; exact trivial)⟩
    · rintro _ H3 ⟨kvs, c3, c4, rfl, e3, hD3, kv⟩
      rw [List.take_of_length_le (by omega)] at kv
      refine ⟨_, rfl, D, _, hD3, trivial, fun o => ?_⟩
      have e4 : Same H (upd H3 D (.frz o (.dT kvs))) := SameX.same (D := D) (H := H3) (fun p o n z => by rw [upd_ne n]; exact z) e3 hD
      have h4 : (upd H3 D (.frz o (.dT kvs))) D = some (.frz o (.dT kvs)) := upd_same
      have kv4 := kv.ts (TS.refl.upd (p := D) (o := .frz o (.dT kvs)) fun u e => by rw [hD3] at e; cases e; exact trivial)
      generalize upd H3 D (.frz o (.dT kvs)) = H4 at e4 h4 kv4
      refine ⟨_, rfl, p1, _, _, _, rfl, rfl, upT e4 a1, at1, _, rfl, ?_⟩
      refine two_times (F := H4) (E := E) (e1.of e4) (hv.of e4) fx1 fy (Same.refl _) fun F' H5 z st hz => ?_
      refine ⟨D, o, kvs, sclQ T1 y, x1 * y, z, rfl, st.same _ _ h4, kv4.ts (Same.ts st.same), by rw [keys_scl]; exact n1, by unfold sclQ; rw [List.length_map]; omega, hz.of st.fh, fun H6 z T e6 pf pl => go H6 z T (e4.trans (st.same.trans e6)) ?_ pl⟩
      have : (fun s => tv T1 s * y) = tv (sclQ T1 y) := funext fun s => (tv_scl y s).symm
      rw [this]
      exact pf
/-! ### the value in a world -/
/-- a world of given numbers -/
def WdQ (K : PySem.W.Frag) (C : Addr) (H : Hp) (v : V) (L : Tm) : Prop := Wd K C H v (L.map fun c => (c.1, nd c.2))
theorem look_nd (L : Tm) (s : Spot) : look (L.map fun c => (c.1, nd c.2)) s = if s ∈ keysQ L then some (nd (tv L s)) else none := by
  induction L with
  | nil => rfl
  | cons c L ih =>
    rw [List.map_cons, look_cons, tv_cons]
    unfold keysQ
    rw [List.map_cons]
    by_cases e : c.1 = s
    · rw [if_pos e, if_pos e, if_pos (by rw [e]; exact List.mem_cons_self)]
    · rw [if_neg e, if_neg e, ih]
      unfold keysQ
      by_cases z : s ∈ L.map (·.1)
      · rw [if_pos z, if_pos (List.mem_cons_of_mem _ z)]
      · rw [if_neg z, if_neg]
        intro q
        rcases List.mem_cons.mp q with q | q
        · exact e q.symm
        · exact z q
def vlQ (L : Tm) (x : Rat) (T : Tm) : Rat := T.foldl (fun t c => t + c.2 * tv L c.1) x
theorem vl_fn {L : Tm} {x : Rat} {k0 kf kw : Nat} (h0 : Fn k0 x) (hw : ∀ c ∈ L, Fn kw c.2) (w1 : 1 ≤ kw) : ∀ (T : Tm), (∀ c ∈ T, Fn kf c.2) → Fn (k0 + T.length * (kf + kw + 1)) (vlQ L x T) := by
  intro T
  induction T generalizing k0 x with
  | nil => intro _; simpa [vlQ] using h0
  | cons c T ih =>
    intro h
    have := ih (k0 := k0 + (kf + kw) + 1) (x := x + c.2 * tv L c.1) (h0.plus ((h c List.mem_cons_self).times (tv_fn hw w1 _))) (fun d hd => h d (List.mem_cons_of_mem _ hd))
    refine Fn.mono this ?_
    rw [List.length_cons, Nat.succ_mul]
    omega
/-- every sum on the way is small enough -/
def VlOk (T L : Tm) (x : Rat) : Prop := ∀ n, Fn 2000 (vlQ L x (T.take n))
def sp_plain_value (K : PySem.W.Frag) (a : Ad) : Sp := fun vs H Q E => ∃ (u wv : V) (T L : Tm) (x : Rat) (kf kw : Nat), vs = [u, wv] ∧ PlV K H u T x ∧ WdQ K a.World H wv L ∧ VlOk T L x ∧ (∀ c ∈ T, Fn kf c.2) ∧ (∀ c ∈ L, Fn kw c.2) ∧ 1 ≤ kw ∧ T.length ≤ 900 ∧ kf + kw ≤ 2000 ∧
  ((∀ c ∈ T, c.1 ∈ keysQ L) → ∀ H' z, Same H H' → Rq K H' z (vlQ L x T) → Q z H') ∧ (∀ (j : Nat) c, T[j]? = some c → (∀ d ∈ T.take j, d.1 ∈ keysQ L) → c.1 ∉ keysQ L → ∀ H' v d, Same H H' → Spt H' v c.1 → H' d = some (.xd [("spot", v)]) → E (.ref a.NoSpot) (some d) H')
theorem c_plain_value (T : Txt K mg a) : Cl P w K mg base 5 "plain_value" P_plain_value (sp_plain_value K a) [] :=
  T.d_plain_value.cl sc_plain_value (fun vs H Q E h => by obtain ⟨u, v, T1, L, x1, kf, kw, rfl, _⟩ := h; rfl) fun f cdv A outer s H vs Q E hr h => by
    obtain ⟨u, wv, T1, L, x, kf, kw, rfl, hu, hw, fx, f1, f2, w1, len, kk, go1, go2⟩ := h
    obtain ⟨p1, t1, r1, xs1, q1, rfl, a1, b1, c1, d1, e1⟩ := hu.at0
    refine ⟨_, ((pss_cons (ps_set (i := 2) sc_plain_value.nd rfl (Or.inl rfl) (pe_ix ix_tup (pv 0) pe_int (fun _ _ => rfl)))
 (pss_cons (ps_for (passes_of rfl) rfl (pi_tup (pe_ix ix_tup (pv 0) pe_int (fun _ _ => rfl))) (pg_tup rfl (pgs_cons (pg_name (i := 3) sc_plain_value.nd rfl (Or.inl rfl)) (pgs_cons (pg_name (i := 4) sc_plain_value.nd rfl (Or.inl rfl)) pgs_nil)))
 (pss_one (ps_set (i := 2) sc_plain_value.nd rfl (Or.inl rfl) (pe_f (c_plus T) (takes_of rfl rfl rfl rfl) hr (by decide) rfl (pa_cons (pv 2) (pa_cons (pe_f (c_times T) (takes_of rfl rfl rfl rfl) hr (by decide) rfl (pa_cons (pv 4) (pa_cons (pe_ixC (o_World_getitem T) (takes_of rfl rfl rfl rfl) hr (by decide) (pv 1) (pv 3) (fun _ _ => rfl)) pa_nil))) pa_nil))))))
 (pss_one (ps_ret (pv 2)))))), ?_⟩
    have lx1 := Paired.length c1
    obtain ⟨wx, wdx, wd, wo, wk, rfl, w2, w3, w4⟩ := id hw
    refine ⟨_, rfl, p1, _, _, _, rfl, rfl, a1, at1, ?_⟩
    refine ⟨_, rfl, p1, _, _, _, rfl, rfl, a1, at0, t1, rfl, ⟨_, b1⟩, ?_⟩
    refine for_it (walk_tup (a := t1) (xs := xs1)) (fun j σ' H' => ∃ u c3 c4, σ' = [some (.ref p1), some (.ref wx), some u, c3, c4] ∧ Same H H' ∧ Rq K H' u (vlQ L x (T1.take j)) ∧ ∀ d ∈ T1.take j, d.1 ∈ keysQ L) ?_ ?_ ?_ ?_
    · exact ⟨_, none, none, rfl, Same.refl _, e1, fun d hd => nomatch hd⟩
    · rintro j σ' H' _ ⟨u, c3, c4, _, e, _⟩
      exact upT e b1
    · rintro j v' _ Hj Hk hj ⟨u, c3, c4, rfl, e3, hu, there⟩ ⟨eH, hv'⟩
      subst eH
      obtain ⟨c, hc, q, u', w', rfl, hq, ⟨qs, rfl, hqs⟩, hwq⟩ := paired_get c1 hv'
      refine ⟨q, _, rfl, upT e3 hq, rfl, _, _, rfl, _, _, rfl, rfl, ?_⟩
      refine ⟨_, rfl, _, rfl, _, rfl, _, rfl, wx, wdx, _, rfl, e3 _ _ w2, Hk, .ref wx, .ref qs, _, rfl, hw.up e3, Same.refl _, .inl ⟨c.1, ⟨qs, rfl, e3 _ _ hqs⟩, fun z r eo hz => ?_, fun eo => ?_⟩⟩
      · rw [look_nd] at eo
        by_cases hin : c.1 ∈ keysQ L
        · rw [if_pos hin] at eo
          cases eo
          have fc := f1 c (List.mem_of_getElem? hc)
          have fw := tv_fn f2 w1 c.1
          have ft : Fn 2000 (vlQ L x (T1.take j)) := fx j
          have lj : (T1.take j).length + 1 ≤ T1.length := by rw [List.length_take]; omega
          have mulj : ((T1.take j).length + 1) * (kf + kw + 1) ≤ T1.length * (kf + kw + 1) := Nat.mul_le_mul_right _ lj
          rw [Nat.succ_mul] at mulj
          refine two_times (F := Hk) (E := E) (hwq.of e3) hz (fc.mono (by omega)) (fw.mono (by omega)) (Same.refl _) fun F' H' z2 st hz2 => ?_
          refine two_plus (F := H') (E := E) (hu.of st.same) (hz2.of st.fh) (ft.mono (by omega)) ((fc.times fw).mono (by omega)) (Same.refl _) fun F2 H2 z3 st2 hz3 => ?_
          have tk : T1.take (j + 1) = T1.take j ++ [c] := by rw [List.take_add_one, hc]; rfl
          refine ⟨z3, _, _, rfl, e3.trans (st.same.trans st2.same), ?_, fun d hd => ?_⟩
          · rw [tk]
            unfold vlQ
            rw [List.foldl_append]
            exact hz3.of st2.fh
          · rw [tk] at hd
            rcases List.mem_append.mp hd with z | z
            · exact there d z
            · rw [List.mem_singleton.mp z]
              exact hin
        · rw [if_neg hin] at eo
          cases eo
      · rw [look_nd] at eo
        have hin : c.1 ∉ keysQ L := fun hin => by rw [if_pos hin] at eo; cases eo
        intro F' H' d st post
        exact go2 j c hc there hin H' _ d (e3.trans st.same) ⟨qs, rfl, st.same _ _ (e3 _ _ hqs)⟩ (st.fh _ _ post)
    · rintro _ H3 ⟨u, c3, c4, rfl, e3, hu, there⟩
      rw [List.take_of_length_le (by omega)] at hu there
      exact ⟨_, rfl, go1 there _ _ e3 hu⟩
end
end K33

set_option Elab.async false
set_option linter.all false
set_option maxRecDepth 100000
set_option maxHeartbeats 4000000
namespace K33
open PySem PySem.Spec PyProof.Rows L2 Ew
/-- the terms without the ground -/
def ngQ (L : Tm) : Tm := L.filter fun c => decide (c.1 ≠ ground)
theorem ng_snoc_in {L : Tm} {c : Spot × Rat} (h : c.1 ≠ ground) : ngQ (L ++ [c]) = ngQ L ++ [c] := by
  unfold ngQ
  rw [List.filter_append, List.filter_cons_of_pos (by simpa using h)]
  rfl
theorem ng_snoc_out {L : Tm} {c : Spot × Rat} (h : c.1 = ground) : ngQ (L ++ [c]) = ngQ L := by
  unfold ngQ
  rw [List.filter_append, List.filter_cons_of_neg (by simpa using h)]
  exact List.append_nil _
theorem tot_ng {L : Tm} (s : Spot) : tot (ngQ L) s = if s = ground then 0 else tot L s := by
  unfold tot ngQ
  rw [List.filter_filter]
  by_cases h : s = ground
  · rw [if_pos h]
    have : (L.filter fun c => decide (c.1 = s) && decide (c.1 ≠ ground)) = [] := by
      rw [List.filter_eq_nil_iff]
      intro c _ z
      rw [Bool.and_eq_true] at z
      exact (of_decide_eq_true z.2) ((of_decide_eq_true z.1).trans h)
    rw [this]
    rfl
  · rw [if_neg h]
    congr 2
    apply List.filter_congr
    intro c _
    by_cases e : c.1 = s
    · have : c.1 ≠ ground := fun z => h (e.symm.trans z)
      simp [e, this, h]
    · simp [e]
/-- a thing that is no term -/
inductive WrongF (K : PySem.W.Frag) (F : Hp) : V → Prop
  | nt {v : V} {T : String} (k : Kd K F v T) (n : T ≠ "tuple") : WrongF K F v
  | len {p : Addr} {xs : List V} (h : SqT K F p xs) (l : xs.length ≠ 2) : WrongF K F (.ref p)
  | spot {p : Addr} {u w : V} (h : SqT K F p [u, w]) (n : NotSp K F u) : WrongF K F (.ref p)
  | ratio {p : Addr} {u w : V} {s : Spot} (h : SqT K F p [u, w]) (hs : Spt F u s) (n : NotRt K F w) : WrongF K F (.ref p)
theorem WrongF.up {K : PySem.W.Frag} {F F' : Hp} {v : V} (h : WrongF K F v) (e : Same F F') : WrongF K F' v := by
  cases h with
  | nt k n => exact .nt (k.up e) n
  | len h l => exact .len (upT e h) l
  | spot h n => exact .spot (upT e h) (n.up e)
  | ratio h hs n => exact .ratio (upT e h) (hs.up e) (n.up e)
theorem PrQ.up {K : PySem.W.Frag} {H H' : Hp} {v : V} {c : Spot × Rat} (h : PrQ K H v c) (e : Same H H') : PrQ K H' v c := h.ts (Same.ts e)
/-- the items begin with the terms of L -/
def BegQ (K : PySem.W.Frag) (H : Hp) (xs : List V) (L : Tm) : Prop := L.length ≤ xs.length ∧ ∀ (i : Nat) c, L[i]? = some c → ∃ x, xs[i]? = some x ∧ PrQ K H x c
theorem BegQ.up {K : PySem.W.Frag} {F F' : Hp} {xs : List V} {L : Tm} (h : BegQ K F xs L) (e : Same F F') : BegQ K F' xs L := ⟨h.1, fun i c hc => by obtain ⟨x, h1, h2⟩ := h.2 i c hc; exact ⟨x, h1, h2.up e⟩⟩
/-- what is asked of a row of terms that are added up -/
structure OkT (L : Tm) : Prop where
  sok : ∀ c ∈ L, PyData.strOk c.1.1 = true
  one : ∀ c ∈ L, Fn 2000 c.2
  sum : ∀ n s, Fn 2000 (tot (L.take n) s)
section
variable {P : Program} {w : World} {K : PySem.W.Frag} {mg : Str → Option Value} {base : Heap} {a : Ad}
def sp__factors_of (K : PySem.W.Frag) (a : Ad) : Sp := fun vs H Q E => ∃ (p : Addr) (xs : List V) (L : Tm), vs = [.ref p] ∧ Row K H p xs ∧ xs.length ≤ 900 ∧ BegQ K H xs L ∧ OkT L ∧ (∀ x, xs[L.length]? = some x → WrongF K H x) ∧
  (L.length = xs.length → ∀ H' D kvs, Same H H' → H D = none → H' D = some (.dT kvs) → KvQ K H' kvs (sumQ (ngQ L)) → Q (.ref D) H') ∧
  (L.length < xs.length → ∀ H' d, Same H H' → H' d = some (.xd [("place", .int (L.length : Nat))]) → E (.ref a.BadForm) (some d) H')
theorem c__factors_of (T : Txt K mg a) : Cl P w K mg base 5 "_factors_of" P__factors_of (sp__factors_of K a) [] :=
  T.d__factors_of.cl sc__factors_of (fun vs H Q E h => by obtain ⟨p, xs, L, rfl, _⟩ := h; rfl) fun f cdv A outer s H vs Q E hr h => by
    obtain ⟨p, xs, L, rfl, hp, hl, hb, ok, kw, k1, k2⟩ := h
    refine ⟨_, ((pss_cons (ps_if (pt_not (pt_val (pe_f (c_is_row T) (takes_of rfl rfl rfl rfl) hr (by decide) rfl (pa_cons (pv 0) pa_nil))))
 (pss_one (ps_raise1 rfl (takes_of rfl rfl rfl rfl) (x_BadForm T) hr (by decide) rfl pe_int))
 pss_nil)
 (pss_cons (ps_set (i := 1) sc__factors_of.nd rfl (Or.inl rfl) pe_dnewT)
 (pss_cons (ps_for (passes_of rfl) rfl (pi_enumX (by rfl) T.n_enumerate (pa_cons (pv 0) pa_nil)) (pg_tup rfl (pgs_cons (pg_name (i := 2) sc__factors_of.nd rfl (Or.inl rfl)) (pgs_cons (pg_name (i := 3) sc__factors_of.nd rfl (Or.inl rfl)) pgs_nil)))
 (pss_cons (ps_if (PW.pt (pw_or (pt_not (pt_val (pe_f (c_is_tuple_of T) (takes_of rfl rfl rfl rfl) hr (by decide) rfl (pa_cons (pv 3) (pa_cons pe_int pa_nil))))) (pw_or (pt_not (pt_val (pe_f (c_is_spot T) (takes_of rfl rfl rfl rfl) hr (by decide) rfl (pa_cons (pe_ix ix_tup (pv 3) pe_int (fun _ _ => rfl)) pa_nil)))) (pw_or1 (pt_not (pt_val (pe_f (c_is_ratio T) (takes_of rfl rfl rfl rfl) hr (by decide) rfl (pa_cons (pe_ix ix_tup (pv 3) pe_int (fun _ _ => rfl)) pa_nil))))))))
 (pss_one (ps_raise1 rfl (takes_of rfl rfl rfl rfl) (x_BadForm T) hr (by decide) rfl (pv 2)))
 pss_nil)
 (pss_cons (ps_asg (pv 3) (pg_tup rfl (pgs_cons (pg_name (i := 4) sc__factors_of.nd rfl (Or.inl rfl)) (pgs_cons (pg_name (i := 5) sc__factors_of.nd rfl (Or.inl rfl)) pgs_nil))))
 (pss_one (ps_if (pt_cmpR (op_neD hr.units) (pv 4) (pe_glob (by rfl) T.k_GROUND rfl (v := .ref a.aG)) (nomark _))
 (pss_one (ps_dput (hu_of hr) (pv 1) (pv 4) (pe_f (c_plus T) (takes_of rfl rfl rfl rfl) hr (by decide) rfl (pa_cons (pe_dget2 (hu_of hr) (pv 1) (pv 4) (pe_tup (pa_cons pe_int (pa_cons pe_int pa_nil))) (by exact ⟨by rfl, by rfl, by rfl, by rfl⟩)) (pa_cons (pv 5) pa_nil))) rfl))
 pss_nil)))))
 (pss_one (ps_ret (pv 1))))))), ?_⟩
    refine ⟨_, rfl, H, p, xs, rfl, hp, Same.refl _, fun F1 H1 v1 s1 e1 => ?_⟩
    subst e1
    have g1 := s1.same
    refine ⟨true, rfl, iteF ?_⟩
    refine fun D hD => ?_
    have h0D : H D = none := by
      cases e : H D with
      | none => rfl
      | some u => rw [g1 _ _ e] at hD; cases hD
    have sD : Same H (upd H1 D (.dT [])) := g1.trans (same_new hD)
    have hD1 : (upd H1 D (.dT [])) D = some (.dT []) := upd_same
    generalize upd H1 D (.dT []) = H2 at sD hD1
    refine row_pick (F := H) (xs := xs) rfl hp sD fun J G wk hG => ?_
    refine for_it wk (fun j σ' H' => ∃ kvs c2 c3 c4 c5, σ' = [some (.ref p), some (.ref D), c2, c3, c4, c5] ∧ Same H H' ∧ H' D = some (.dT kvs) ∧ KvQ K H' kvs (sumQ (ngQ (L.take j))) ∧ j ≤ L.length ∧ kvs.length ≤ j) ?_ ?_ ?_ ?_
    · exact ⟨[], none, none, none, none, rfl, sD, hD1, .nil, Nat.zero_le _, Nat.le_refl _⟩
    · rintro j σ' H' _ ⟨kvs, c2, c3, c4, c5, _, e2, _⟩
      exact hG _ e2
    · rintro j _ _ H3 _ hj ⟨kvs, c2, c3, c4, c5, rfl, e3, h3D, kv, hjL, kl⟩ ⟨U, y, x, rfl, hU, rfl, ey, hx⟩
      cases ey
      have hx : xs[j]? = some x := hx
      have nDU : D ≠ U := fun z => by rw [z, hU] at h3D; cases h3D
      have e4 : Same H3 (upd H3 U (.tup [.int (j : Nat), x])) := same_new hU
      have hU4 : SqT K (upd H3 U (.tup [.int (j : Nat), x])) U [.int (j : Nat), x] := sq_new
      generalize upd H3 U (.tup [.int (j : Nat), x]) = H4 at e4 hU4
      have e5 := e3.trans e4
      have h4D := e4 _ _ h3D
      have kv4 := kv.ts (Same.ts e4)
      refine ⟨U, _, rfl, hU4, rfl, _, _, rfl, _, _, rfl, rfl, ?_⟩
      by_cases hj' : j < L.length
      · obtain ⟨c, hc⟩ : ∃ c, L[j]? = some c := ⟨_, List.getElem?_eq_getElem hj'⟩
        have hm : c ∈ L := List.mem_of_getElem? hc
        obtain ⟨x', hx', q, u, wv, rfl, hq, ⟨qs, rfl, hqs⟩, hr⟩ := hb.2 j c hc
        rw [hx] at hx'
        cases hx'
        have hq4 := upT e5 hq
        have hqs4 := e5 _ _ hqs
        have hr4 := hr.of e5
        refine ⟨_, rfl, _, _, rfl, .inl ⟨q, _, rfl, hq4, true, rfl, iteF ?_⟩⟩
        refine ⟨_, rfl, q, _, _, _, rfl, rfl, hq4, at0, _, rfl, .inl ⟨qs, c.1, rfl, SqT.of hqs4, true, rfl, iteF ?_⟩⟩
        refine ⟨_, rfl, q, _, _, _, rfl, rfl, hq4, at1, arg1 (sp_is_ratio K) (is_ratio hr4 (nd_low _) ?_)⟩
        refine ⟨true, rfl, iteF ?_⟩
        refine ⟨_, rfl, q, _, rfl, hq4, rfl, _, _, rfl, _, _, rfl, rfl, ?_⟩
        refine ⟨_, rfl, spD c.1, spD ground, dp_sp (SqT.of hqs4), dp_sp (T.t_GROUND _), (fl_sp (ok.sok c hm)).sh (by decide), (fl_sp (by decide +kernel)).sh (by decide), _, rfl, ?_⟩
        rw [eqv_sp]
        have tk : L.take (j + 1) = L.take j ++ [c] := by rw [List.take_add_one, hc]; rfl
        by_cases eg : c.1 = ground
        · rw [decide_eq_true eg]
          refine iteF ⟨kvs, _, _, _, _, rfl, e5, h4D, ?_, hj', by omega⟩
          rw [tk, ng_snoc_out eg]
          exact kv4
        · rw [decide_eq_false eg]
          refine iteT (put_plus rfl rfl rfl h4D kv4 (by omega) hqs4 hr4 ?_ (ok.one c hm) fun H' kvs' sx hD' kv' kl' => ?_)
          · rw [tv_sum, tot_ng, if_neg eg]
            exact ok.sum j _
          · refine ⟨kvs', _, _, _, _, rfl, sx.same e5 h0D, hD', ?_, hj', by omega⟩
            rw [tk, ng_snoc_in eg, sumQ_snoc]
            exact kv'
      · have ej : j = L.length := by omega
        have wr := (kw x (by rw [← ej]; exact hx)).up e5
        have kr : ∀ d, H4 d = none → E (.ref a.BadForm) (some d) (upd H4 d (.xd [("place", .int (j : Nat))])) := fun d hd => by
          have := k2 (by omega) _ d (e5.trans (same_new (o := .xd [("place", .int (j : Nat))]) hd))
          rw [← ej] at this
          exact this upd_same
        cases wr with
        | nt kd n => exact ⟨_, rfl, _, _, rfl, .inr ⟨_, kd.ty, kd.kit (.inr rfl) n, _, rfl, iteT ⟨_, rfl, kr⟩⟩⟩
        | @len q ys hq l =>
          refine ⟨_, rfl, _, _, rfl, .inl ⟨q, ys, rfl, hq, _, rfl, ?_⟩⟩
          rw [decide_eq_false (fun z => l (by have := V.int.inj z; omega))]
          exact iteT ⟨_, rfl, kr⟩
        | @spot q u wv hq n =>
          refine ⟨_, rfl, _, _, rfl, .inl ⟨q, _, rfl, hq, true, rfl, iteF ?_⟩⟩
          exact ⟨_, rfl, q, _, _, _, rfl, rfl, hq, at0, _, rfl, .inr ⟨n, _, rfl, iteT ⟨_, rfl, kr⟩⟩⟩
        | @ratio q u wv sp hq hs n =>
          obtain ⟨qs, rfl, hqs⟩ := hs
          refine ⟨_, rfl, _, _, rfl, .inl ⟨q, _, rfl, hq, true, rfl, iteF ?_⟩⟩
          refine ⟨_, rfl, q, _, _, _, rfl, rfl, hq, at0, _, rfl, .inl ⟨qs, sp, rfl, SqT.of hqs, true, rfl, iteF ?_⟩⟩
          exact ⟨_, rfl, q, _, _, _, rfl, rfl, hq, at1, arg1 (sp_is_ratio K) (not_ratio n ⟨false, rfl, iteT ⟨_, rfl, kr⟩⟩)⟩
    · rintro _ H3 ⟨kvs, c2, c3, c4, c5, rfl, e3, h3D, kv, hjL, kl⟩
      have lx : L.length = xs.length := Nat.le_antisymm hb.1 hjL
      have tk : L.take xs.length = L := by rw [← lx]; exact List.take_length
      rw [tk] at kv
      exact ⟨_, rfl, k1 lx _ D kvs e3 h0D h3D kv⟩
end
end K33

set_option Elab.async false
set_option linter.all false
set_option maxRecDepth 100000
set_option maxHeartbeats 4000000
namespace K33
open PySem PySem.Spec PyProof.Rows L2 Ew
/-! ### forms -/
/-- at v a form: its terms, what is left -/
def FmV (K : PySem.W.Frag) (C : Addr) (H : Hp) (v : V) (T : Tm) (x : Rat) : Prop := ∃ o dx t r, v = .ref o ∧ H o = some (.ins C dx [("terms", t), ("rest", r)]) ∧ TmV K H t T ∧ Rq K H r x
theorem FmV.up {K : PySem.W.Frag} {C : Addr} {H H' : Hp} {v : V} {T : Tm} {x : Rat} (h : FmV K C H v T x) (e : Same H H') : FmV K C H' v T x := by
  obtain ⟨o, dx, t, r, h1, h2, h3, h4⟩ := h
  exact ⟨o, dx, t, r, h1, e _ _ h2, h3.ts (Same.ts e), h4.of e⟩
section
variable {P : Program} {w : World} {K : PySem.W.Frag} {mg : Str → Option Value} {base : Heap} {a : Ad}
def sp_Finit (K : PySem.W.Frag) (a : Ad) : Sp := fun vs H Q E => ∃ (o dx p : Addr) (r : V) (xs : List V) (L : Tm) (ob : Option Rat), vs = [.ref o, .ref p, r] ∧ H o = some (.ins a.Form dx []) ∧ Row K H p xs ∧ xs.length ≤ 900 ∧ BegQ K H xs L ∧ OkT L ∧ (∀ x, xs[L.length]? = some x → WrongF K H x) ∧
  ((∃ y, ob = some y ∧ Rq K H r y) ∨ ob = none ∧ NotRt K H r) ∧
  (∀ y, L.length = xs.length → ob = some y → ∀ H' t r' T, SameX o H H' → H' o = some (.ins a.Form dx [("terms", t), ("rest", r')]) → TmV K H' t T → Rq K H' r' y → IsPf T (tot (ngQ L)) → Q .non H') ∧
  (L.length < xs.length → ∀ H' d, Same H H' → H' d = some (.xd [("place", .int (L.length : Nat))]) → E (.ref a.BadForm) (some d) H') ∧
  (L.length = xs.length → ob = none → ∀ H' d, Same H H' → H' d = some (.xd [("place", .int (-1))]) → E (.ref a.BadForm) (some d) H')
theorem b_Form (T : Txt K mg a) : BodyOk P w K mg base N_FormD_initD "Form.__init__" s_FormD_initD 5 (sp_Finit K a) := fun f cdv A outer s H vs Q E hr h => by
    obtain ⟨o, dx, p, r, xs, L, ob, rfl, ho, hp, hl, hb, ok, kw, hob, k1, k2, k3⟩ := h
    refine ⟨_, ((pss_cons (ps_set (i := 3) sc_FormD_initD.nd rfl (Or.inl rfl) (pe_f (c__factors_of T) (takes_of rfl rfl rfl rfl) hr (by decide) rfl (pa_cons (pv 1) pa_nil)))
 (pss_cons (ps_if (pt_not (pt_val (pe_f (c_is_ratio T) (takes_of rfl rfl rfl rfl) hr (by decide) rfl (pa_cons (pv 2) pa_nil))))
 (pss_one (ps_raise1 rfl (takes_of rfl rfl rfl rfl) (x_BadForm T) hr (by decide) rfl (pe_un un_neg pe_int)))
 pss_nil)
 (pss_one (ps_asg (pe_f (c_plain_form T) (takes_of rfl rfl rfl rfl) hr (by decide) rfl (pa_cons (pe_keep (pv 3)) (pa_cons (pv 2) pa_nil))) (pg_tup rfl (pgs_cons (pg_fld (pv 0)) (pgs_cons (pg_fld (pv 0)) pgs_nil)))))))), ?_⟩
    refine ⟨_, rfl, p, xs, L, rfl, hp, hl, hb, ok, kw, fun lx H1 D kvs e1 hD h1D kv => ?_, fun lx H' d e hd => k2 lx H' d e hd⟩
    rcases hob with ⟨y, rfl, hy⟩ | ⟨rfl, n⟩
    · refine ⟨_, rfl, arg1 (sp_is_ratio K) (is_ratio (hy.of e1) (nd_low _) ⟨true, rfl, iteF ?_⟩)⟩
      have h0 : o ≠ D := fun z => by rw [z, hD] at ho; cases ho
      refine ⟨_, rfl, D, _, h1D, trivial, fun obj => ?_⟩
      have e2 : Same H (upd H1 D (.frz obj (.dT kvs))) := SameX.same (D := D) (H := H1) (fun p o n z => by rw [upd_ne n]; exact z) e1 hD
      have h2D : (upd H1 D (.frz obj (.dT kvs))) D = some (.frz obj (.dT kvs)) := upd_same
      have kv2 := kv.ts (TS.refl.upd (p := D) (o := .frz obj (.dT kvs)) fun u e => by rw [h1D] at e; cases e; exact trivial)
      generalize upd H1 D (.frz obj (.dT kvs)) = H2 at e2 h2D kv2
      refine ⟨_, rfl, D, obj, kvs, sumQ (ngQ L), y, r, rfl, h2D, kv2, sum_nodup.1, ?_, hy.of e2, fun H3 v T' e3 pf pl => ?_⟩
      · refine Nat.le_trans sum_nodup.2 ?_
        have := List.length_filter_le (fun c : Spot × Rat => decide (c.1 ≠ ground)) L
        unfold ngQ
        omega
      obtain ⟨q, t, r', rfl, hq, ht, hr'⟩ := pl
      have ho3 := e3 _ _ (e2 _ _ ho)
      refine ⟨q, _, rfl, hq, rfl, _, _, rfl, _, rfl, o, a.Form, dx, [], rfl, ho3, T.fki.cl, T.fnT, by decide, _, _, rfl, _, rfl, o, a.Form, dx, [("terms", t)], rfl, upd_same, T.fki.cl, T.fnR, Nat.le_of_ble_eq_true rfl, rfl, ?_⟩
      have m3 : ∀ u, H3 o = some u → Mut (some u) := fun u e => by rw [ho3] at e; cases e; exact trivial
      refine k1 y lx rfl _ t r' T' ?_ upd_same ?_ ?_ ?_
      · intro p u n e
        rw [upd_ne n, upd_ne n]
        exact e3 _ _ (e2 _ _ e)
      · rw [upd_upd]
        exact ht.ts (TS.refl.upd m3)
      · rw [upd_upd]
        exact hr'.ts (TS.refl.upd m3)
      · have : tot (ngQ L) = tv (sumQ (ngQ L)) := funext fun s => tv_sum.symm
        rw [this]
        exact pf
    · refine ⟨_, rfl, arg1 (sp_is_ratio K) (not_ratio (n.up e1) ⟨false, rfl, iteT ?_⟩)⟩
      exact ⟨_, rfl, fun d hd => k3 lx rfl _ d (e1.trans (same_new hd)) upd_same⟩
theorem f_Form (T : Txt K mg a) (j : Nat) (hj : j ≤ 2) : ∃ f fd ds, Mk K a.Form f ∧ FnOk P w K mg base (L2.CX P w) 6 f fd P_FormD_initD (sp_Finit K a) ∧ Binds K fd P_FormD_initD ds ∧ Vals (([.ref a.aE, .ref a.aZ] : List V).drop j) ds := by
  obtain ⟨f, fd, M, F, hb⟩ := T.i_Form
  obtain ⟨ds, hd, b⟩ := hb j hj
  exact ⟨f, fd, ds, M, F.ok sc_FormD_initD (fun vs H Q E h => by obtain ⟨o, dx, p, r, xs, L, ob, rfl, _⟩ := h; rfl) fun cdv A outer s H vs Q E hr hs => b_Form T f cdv A outer s H vs Q E hr hs, b, hd⟩
theorem mk_Form (T : Txt K mg a) : Mkr P w K mg base 6 "Form" a.Form P_FormD_initD (sp_Finit K a) := by
  obtain ⟨f, fd, ds, M, F, b, hd⟩ := f_Form (P := P) (w := w) (base := base) T 2 (by decide)
  cases hd
  exact ⟨T.g_Form, f, fd, M, F, b⟩
theorem mk_Form1 (T : Txt K mg a) : MkrD P w K mg base 6 "Form" a.Form P_FormD_initD (sp_Finit K a) [.ref a.aZ] := ⟨T.g_Form, f_Form T 1 (by decide)⟩
theorem mk_Form0 (T : Txt K mg a) : MkrD P w K mg base 6 "Form" a.Form P_FormD_initD (sp_Finit K a) [.ref a.aE, .ref a.aZ] := ⟨T.g_Form, f_Form T 0 (by decide)⟩
/-- Form(row, rest), what stands before the call -/
theorem mk_fm {H : Hp} {p : Addr} {r : V} {xs : List V} {L : Tm} {ob : Option Rat} {Q : VK} {E : XK} (hp : Row K H p xs) (hl : xs.length ≤ 900) (hb : BegQ K H xs L) (ok : OkT L) (kw : ∀ x, xs[L.length]? = some x → WrongF K H x)
    (hob : (∃ y, ob = some y ∧ Rq K H r y) ∨ ob = none ∧ NotRt K H r) (k1 : ∀ y, L.length = xs.length → ob = some y → ∀ H' z T, Same H H' → FmV K a.Form H' z T y → IsPf T (tot (ngQ L)) → Q z H')
    (k2 : L.length < xs.length → ∀ H' d, Same H H' → H' d = some (.xd [("place", .int (L.length : Nat))]) → E (.ref a.BadForm) (some d) H')
    (k3 : L.length = xs.length → ob = none → ∀ H' d, Same H H' → H' d = some (.xd [("place", .int (-1))]) → E (.ref a.BadForm) (some d) H') :
    ∀ o d, H o = none → H d = none → d ≠ o → sp_Finit K a (.ref o :: [.ref p, r]) (upd (upd H d (.own o)) o (.ins a.Form d [])) (fun v H2 => v = .non ∧ Q (.ref o) H2) E := by
  intro o d ho hd ne
  have ho' : (upd H d (.own o)) o = none := by rw [upd_ne (Ne.symm ne)]; exact ho
  have e0 : Same H (upd (upd H d (.own o)) o (.ins a.Form d [])) := (same_new hd).trans (same_new ho')
  refine ⟨o, d, p, r, xs, L, ob, rfl, upd_same, ?_, hl, hb.up e0, ok, fun x hx => (kw x hx).up e0, ?_, ?_, fun lx H' d' e h => k2 lx H' d' (e0.trans e) h, fun lx eo H' d' e h => k3 lx eo H' d' (e0.trans e) h⟩
  · exact hp.imp (fun z => upL e0 z) fun z => upT e0 z
  · rcases hob with ⟨y, h1, h2⟩ | ⟨h1, h2⟩
    · exact .inl ⟨y, h1, h2.of e0⟩
    · exact .inr ⟨h1, h2.up e0⟩
  · intro y lx eo H' t r' T' sx h1 h2 h3 pf
    exact ⟨rfl, k1 y lx eo H' _ T' (sx.same e0 ho) ⟨o, d, t, r', rfl, h1, h2, h3⟩ pf⟩
end
end K33

set_option Elab.async false
set_option linter.all false
set_option maxRecDepth 100000
set_option maxHeartbeats 4000000
namespace K33
open PySem PySem.Spec PyProof.Rows L2 Ew
theorem nodup_len {α : Type} [DecidableEq α] : ∀ {L M : List α}, L.Nodup → (∀ x ∈ L, x ∈ M) → L.length ≤ M.length
  | [], _, _, _ => Nat.zero_le _
  | x :: L, M, nd, h => by
    rw [List.nodup_cons] at nd
    have hx := h x List.mem_cons_self
    have := nodup_len (M := M.erase x) nd.2 fun y hy => (List.mem_erase_of_ne (fun z => nd.1 (by rw [← z]; exact hy))).mpr (h y (List.mem_cons_of_mem _ hy))
    rw [List.length_erase_of_mem hx] at this
    have := List.length_pos_of_mem hx
    rw [List.length_cons]
    omega
theorem paired_getR {α β : Type} {R : α → β → Prop} : ∀ {xs : List α} {L : List β}, Paired R xs L → ∀ {i : Nat} {c : β}, L[i]? = some c → ∃ x, xs[i]? = some x ∧ R x c
  | _, _, .nil, i, c, h => by cases h
  | _, _, .cons r t, 0, c, h => ⟨_, rfl, by cases h; exact r⟩
  | _, _, .cons r t, i + 1, c, h => paired_getR t (i := i) h
/-- spots that may stand in a form -/
def OkS (S : List Spot) : Prop := ∀ s ∈ S, s ≠ ground ∧ PyData.strOk s.1 = true
/-- the terms of a form: of these spots, with numbers of k bits -/
structure OkF (S : List Spot) (k : Nat) (T : Tm) : Prop where
  pf : IsPf T (tv T)
  sb : ∀ s ∈ keysQ T, s ∈ S
  fn : ∀ c ∈ T, Fn k c.2
section
variable {S : List Spot} {k l : Nat} {T T1 T2 : Tm} {f : Spot → Rat}
theorem OkF.mono (h : OkF S k T) (z : k ≤ l) : OkF S l T := ⟨h.pf, h.sb, fun c hc => (h.fn c hc).mono z⟩
theorem OkF.of (h : IsPf T f) (hs : ∀ s, f s ≠ 0 → s ∈ S) (hf : ∀ s, Fn k (f s)) : OkF S k T := by
  have e : tv T = f := funext fun s => h.tv s
  refine ⟨by rw [e]; exact h, fun s hs' => hs s (h.key.mp hs'), fun c hc => ?_⟩
  rw [((h.mem c).mp hc).1]
  exact hf _
theorem OkF.len (h : OkF S k T) : T.length ≤ S.length := by
  have := nodup_len h.pf.nodup h.sb
  unfold keysQ at this
  rwa [List.length_map] at this
theorem OkF.tvfn (h : OkF S k T) (k1 : 1 ≤ k) (s : Spot) : Fn k (tv T s) := tv_fn h.fn k1 s
theorem OkF.tvin (h : OkF S k T) {s : Spot} (z : tv T s ≠ 0) : s ∈ S := h.sb s (h.pf.key.mpr z)
theorem OkF.okT (h : OkF S k T) (hS : OkS S) (k1 : 1 ≤ k) (k2 : k ≤ 2000) : OkT T :=
  ⟨fun c hc => (hS c.1 (h.sb _ (List.mem_map.mpr ⟨c, hc, rfl⟩))).2, fun c hc => (h.fn c hc).mono k2, fun n s => (tot_take h.pf.nodup h.fn k1 n s).mono k2⟩
theorem OkF.ng (h : OkF S k T) (hS : OkS S) : ngQ T = T := by
  unfold ngQ
  rw [List.filter_eq_self]
  intro c hc
  simpa using (hS c.1 (h.sb _ (List.mem_map.mpr ⟨c, hc, rfl⟩))).1
end
section
variable {P : Program} {w : World} {K : PySem.W.Frag} {mg : Str → Option Value} {base : Heap} {a : Ad}
theorem FmV.at_ {H : Hp} {v : V} {T : Tm} {x : Rat} (h : FmV K a.Form H v T x) : ∃ o dx t r xs q, v = .ref o ∧ H o = some (.ins a.Form dx [("terms", .ref t), ("rest", r)]) ∧ SqT K H t xs ∧ Paired (PrQ K H) xs T ∧ r = .ref q ∧ Rq K H r x := by
  obtain ⟨o, dx, t, r, rfl, h1, ⟨t', xs, rfl, h2, h3⟩, h4⟩ := h
  obtain ⟨q, rfl, _⟩ := id h4
  exact ⟨o, dx, t', _, xs, q, rfl, h1, h2, h3, rfl, h4⟩
def sp_Fplain (K : PySem.W.Frag) (a : Ad) : Sp := fun vs H Q _ => ∃ (v : V) (T : Tm) (x : Rat), vs = [v] ∧ FmV K a.Form H v T x ∧ ∀ H' z, Same H H' → PlV K H' z T x → Q z H'
theorem m_Form_plain (T : Txt K mg a) : Mt P w K mg base 1 a.Form "plain" P_Form_plain (sp_Fplain K a) [] := by
  obtain ⟨f, fd, M, F, b⟩ := T.m_plain.ex
  refine ⟨T.fki.cl, f, fd, [], M, fun_ok F sc_Form_plain (fun vs H Q E h => by obtain ⟨v, T, x, rfl, _⟩ := h; rfl) fun f cdv A outer s H vs Q E hr h => ?_, b, .nil⟩
  obtain ⟨v, Tm', x, rfl, hv, k⟩ := h
  obtain ⟨o, dx, t, r, rfl, h1, h2, h3⟩ := hv
  refine ⟨_, ((pss_one (ps_ret (pe_tup (pa_cons (pe_fld (pv 0) rfl) (pa_cons (pe_fld (pv 0) rfl) pa_nil)))))), ?_⟩
  refine ⟨_, rfl, o, a.Form, dx, _, _, rfl, h1, T.fki.cl, T.fnT, rfl, _, rfl, o, a.Form, dx, _, _, rfl, h1, T.fki.cl, T.fnR, rfl, by show 2 ≤ sizeLine; decide, fun q hq => ?_⟩
  exact k _ _ (same_new hq) ⟨q, t, r, rfl, sq_new, h2.ts (TS.new hq), h3.ts (TS.new hq)⟩
def sp_form_of (K : PySem.W.Frag) (a : Ad) : Sp := fun vs H Q _ => ∃ (v : V) (T : Tm) (x : Rat) (S : List Spot), vs = [v] ∧ PlV K H v T x ∧ OkF S 2000 T ∧ OkS S ∧ S.length ≤ 900 ∧ ∀ H' z, Same H H' → FmV K a.Form H' z T x → Q z H'
theorem c_form_of (T : Txt K mg a) : Cl P w K mg base 8 "form_of" P_form_of (sp_form_of K a) [] :=
  T.d_form_of.cl sc_form_of (fun vs H Q E h => by obtain ⟨v, T, x, S, rfl, _⟩ := h; rfl) fun f cdv A outer s H vs Q E hr h => by
    obtain ⟨v, Tt, x, S, rfl, hv, ok, hS, lS, k⟩ := h
    obtain ⟨p1, t1, r1, xs1, q1, rfl, a1, b1, c1, d1, e1⟩ := hv.at0
    refine ⟨_, ((pss_cons (ps_asg (pv 0) (pg_tup rfl (pgs_cons (pg_name (i := 1) sc_form_of.nd rfl (Or.inl rfl)) (pgs_cons (pg_name (i := 2) sc_form_of.nd rfl (Or.inl rfl)) pgs_nil))))
 (pss_one (ps_ret (pe_mkW (mk_Form T) (takes_of rfl rfl rfl rfl) hr (by decide) rfl (pa_cons (pv 1) (pa_cons (pv 2) pa_nil))))))), ?_⟩
    have lx := Paired.length c1
    have lT := ok.len
    refine ⟨_, rfl, p1, _, rfl, a1, rfl, _, _, rfl, _, _, rfl, rfl, ?_⟩
    refine ⟨_, rfl, _, rfl, mk_fm (L := Tt) (ob := some x) (.inr b1) (by omega) ⟨by omega, fun i c hc => paired_getR c1 hc⟩ (ok.okT hS (by decide) (by decide)) (fun z hz => ?_) (.inl ⟨x, rfl, e1⟩) (fun y _ ey H' z T' e fm pf => ?_) (fun z => absurd z (by omega)) fun _ z => nomatch z⟩
    · rw [List.getElem?_eq_none (by omega)] at hz
      cases hz
    · cases ey
      rw [ok.ng hS] at pf
      have : T' = Tt := pf.uniq ok.pf fun s => tot_nodup ok.pf.nodup s
      subst this
      exact k H' z e fm
end
end K33

set_option Elab.async false
set_option linter.all false
set_option maxRecDepth 100000
set_option maxHeartbeats 4000000
namespace K33
open PySem PySem.Spec PyProof.Rows L2 Ew
section
variable {P : Program} {w : World} {K : PySem.W.Frag} {mg : Str → Option Value} {base : Heap} {a : Ad}
theorem FmV.ty (T : Txt K mg a) {H : Hp} {v : V} {T1 : Tm} {x : Rat} (h : FmV K a.Form H v T1 x) : TyX K H v (.ref a.Form) := by
  obtain ⟨o, dx, t, r, rfl, h1, _⟩ := h
  exact T.fki.ty h1
theorem FmV.ref {H : Hp} {v : V} {T1 : Tm} {x : Rat} (h : FmV K a.Form H v T1 x) : ∃ o dx fs, v = .ref o ∧ H o = some (.ins a.Form dx fs) ∧ fs.lookup ("plain" : Str) = none := by
  obtain ⟨o, dx, t, r, rfl, h1, _⟩ := h
  exact ⟨o, dx, _, rfl, h1, rfl⟩
/-- both of spots of S, with numbers of k bits -/
def sp_Fadd (K : PySem.W.Frag) (a : Ad) : Sp := fun vs H Q _ => ∃ (u v : V) (T1 T2 : Tm) (x1 x2 : Rat) (S : List Spot) (k : Nat), vs = [u, v] ∧ FmV K a.Form H u T1 x1 ∧ FmV K a.Form H v T2 x2 ∧ OkF S k T1 ∧ OkF S k T2 ∧ OkS S ∧ S.length ≤ 400 ∧ 1 ≤ k ∧ k ≤ 990 ∧ Fn 2000 x1 ∧ Fn 2000 x2 ∧
  ∀ H' z T, Same H H' → IsPf T (fun s => tv T1 s + tv T2 s) → FmV K a.Form H' z T (x1 + x2) → Q z H'
theorem okF_sum {S : List Spot} {k : Nat} {T1 T2 T : Tm} (h1 : OkF S k T1) (h2 : OkF S k T2) (k1 : 1 ≤ k) (pf : IsPf T (fun s => tv T1 s + tv T2 s)) : OkF S (k + k + 1) T := by
  refine OkF.of pf (fun s hs => ?_) fun s => (h1.tvfn k1 s).plus (h2.tvfn k1 s)
  by_cases z : tv T1 s = 0
  · refine h2.tvin fun q => hs ?_
    rw [z, q]
    grind
  · exact h1.tvin z
theorem o_Form_add (T : Txt K mg a) : OpC P w K mg base 9 a.Form (PySem.dunder Operator.Add.info.2) P_FormD_addD (sp_Fadd K a) := by
  obtain ⟨f, fd, M, F, b⟩ := T.o_add.ex
  refine ⟨T.fsf, f, fd, M, fun_ok F sc_FormD_addD (fun vs H Q E h => by obtain ⟨u, v, T1, T2, x1, x2, S, k, rfl, _⟩ := h; rfl) fun f cdv A outer s H vs Q E hr h => ?_, b⟩
  obtain ⟨u, v, T1, T2, x1, x2, S, k, rfl, hu, hv, ok1, ok2, hS, lS, k1, k2, f1, f2, go⟩ := h
  refine ⟨_, ((pss_cons (ps_if (pt_not (pt_val (pe_callB call_isi (by rfl) T.n_isinstance (by decide +kernel) (pa_cons (pv 1) (pa_cons (pe_glob (v := .ref a.Form) rfl T.g_Form rfl) pa_nil)))))
 (pss_one ps_never)
 pss_nil)
 (pss_one (ps_ret (pe_f (c_form_of T) (takes_of rfl rfl rfl rfl) hr (by decide) rfl (pa_cons (pe_f (c_plain_sum T) (takes_of rfl rfl rfl rfl) hr (by decide) rfl (pa_cons (pe_mf0 (m_Form_plain T) hr (by decide) (pv 0)) (pa_cons (pe_mf0 (m_Form_plain T) hr (by decide) (pv 1)) pa_nil))) pa_nil)))))), ?_⟩
  refine ⟨_, rfl, _, _, _, _, true, rfl, .own _, hv.ty T, kit_same, true, rfl, iteF ?_⟩
  obtain ⟨o1, dx1, fs1, rfl, h1, l1⟩ := hu.ref
  obtain ⟨o2, dx2, fs2, rfl, h2, l2⟩ := hv.ref
  refine ⟨_, rfl, o1, dx1, fs1, rfl, h1, l1, _, T1, x1, rfl, hu, fun H1 z1 e1 p1 => ?_⟩
  refine ⟨_, rfl, o2, dx2, fs2, rfl, e1 _ _ h2, l2, _, T2, x2, rfl, hv.up e1, fun H2 z2 e2 p2 => ?_⟩
  have len1 := ok1.len
  have len2 := ok2.len
  refine ⟨z1, z2, T1, T2, x1, x2, k, rfl, p1.ts (Same.ts e2), p2, ok1.pf.nodup, ok2.pf.nodup, by omega, ok1.fn, ok2.fn, k1, k2, f1, f2, fun H3 z3 T3 e3 pf p3 => ?_⟩
  exact ⟨z3, T3, x1 + x2, S, rfl, p3, (okF_sum ok1 ok2 k1 pf).mono (by omega), hS, by omega, fun H4 z4 e4 fm => go H4 z4 T3 (e1.trans (e2.trans (e3.trans e4))) pf fm⟩
def sp_Fscl (K : PySem.W.Frag) (a : Ad) : Sp := fun vs H Q _ => ∃ (u v : V) (T1 : Tm) (x1 y : Rat) (S : List Spot) (k l : Nat), vs = [u, v] ∧ FmV K a.Form H u T1 x1 ∧ Rq K H v y ∧ OkF S k T1 ∧ OkS S ∧ S.length ≤ 400 ∧ 1 ≤ k ∧ Fn l y ∧ k + l ≤ 2000 ∧ Fn 2000 x1 ∧
  ∀ H' z T, Same H H' → IsPf T (fun s => tv T1 s * y) → FmV K a.Form H' z T (x1 * y) → Q z H'
theorem okF_scl {S : List Spot} {k l : Nat} {T1 T : Tm} {y : Rat} (h1 : OkF S k T1) (k1 : 1 ≤ k) (fy : Fn l y) (pf : IsPf T (fun s => tv T1 s * y)) : OkF S (k + l) T := by
  refine OkF.of pf (fun s hs => ?_) fun s => (h1.tvfn k1 s).times fy
  refine h1.tvin fun z => hs ?_
  show tv T1 s * y = 0
  rw [z]
  grind
theorem o_Form_mul (T : Txt K mg a) : OpC P w K mg base 9 a.Form (PySem.dunder Operator.Mult.info.2) P_FormD_mulD (sp_Fscl K a) := by
  obtain ⟨f, fd, M, F, b⟩ := T.o_mul.ex
  refine ⟨T.fsf, f, fd, M, fun_ok F sc_FormD_mulD (fun vs H Q E h => by obtain ⟨u, v, T1, x1, y, S, k, l, rfl, _⟩ := h; rfl) fun f cdv A outer s H vs Q E hr h => ?_, b⟩
  obtain ⟨u, v, T1, x1, y, S, k, l, rfl, hu, hv, ok1, hS, lS, k1, fy, kl, f1, go⟩ := h
  refine ⟨_, ((pss_cons (ps_if (pt_not (pt_val (pe_f (c_is_ratio T) (takes_of rfl rfl rfl rfl) hr (by decide) rfl (pa_cons (pv 1) pa_nil))))
 (pss_one ps_never)
 pss_nil)
 (pss_one (ps_ret (pe_f (c_form_of T) (takes_of rfl rfl rfl rfl) hr (by decide) rfl (pa_cons (pe_f (c_plain_scaled T) (takes_of rfl rfl rfl rfl) hr (by decide) rfl (pa_cons (pe_mf0 (m_Form_plain T) hr (by decide) (pv 0)) (pa_cons (pv 1) pa_nil))) pa_nil)))))), ?_⟩
  refine ⟨_, rfl, arg1 (sp_is_ratio K) (is_ratio hv (nd_low _) ⟨true, rfl, iteF ?_⟩)⟩
  obtain ⟨o1, dx1, fs1, rfl, h1, l1⟩ := hu.ref
  refine ⟨_, rfl, o1, dx1, fs1, rfl, h1, l1, _, T1, x1, rfl, hu, fun H1 z1 e1 p1 => ?_⟩
  have len1 := ok1.len
  refine ⟨_, rfl, z1, v, T1, x1, y, rfl, p1, hv.of e1, ok1.pf.nodup, by omega, (ok1.mono (by omega)).fn, f1, fy.mono (by omega), fun H3 z3 T3 e3 pf p3 => ?_⟩
  exact ⟨z3, T3, x1 * y, S, rfl, p3, (okF_scl ok1 k1 fy pf).mono kl, hS, by omega, fun H4 z4 e4 fm => go H4 z4 T3 (e1.trans (e3.trans e4)) pf fm⟩
theorem fn_mone : Fn 1 (-1) := ⟨by unfold Sz; decide +kernel, by unfold Sz; decide +kernel⟩
theorem mone_rq {K : PySem.W.Frag} {H : Hp} {t : Addr} (h : SqT K H t [.int (-1), .int 1]) : Rq K H (.ref t) (-1) := ⟨t, rfl, by rw [nd_mone]; exact h⟩
def sp_Fneg (K : PySem.W.Frag) (a : Ad) : Sp := fun vs H Q _ => ∃ (u : V) (T1 : Tm) (x1 : Rat) (S : List Spot) (k : Nat), vs = [u] ∧ FmV K a.Form H u T1 x1 ∧ OkF S k T1 ∧ OkS S ∧ S.length ≤ 400 ∧ 1 ≤ k ∧ k ≤ 1900 ∧ Fn 2000 x1 ∧
  ∀ H' z T, Same H H' → IsPf T (fun s => tv T1 s * (-1)) → FmV K a.Form H' z T (x1 * (-1)) → Q z H'
theorem o_Form_neg (T : Txt K mg a) : OpC P w K mg base 9 a.Form "__neg__" P_FormD_negD (sp_Fneg K a) := by
  obtain ⟨f, fd, M, F, b⟩ := T.o_neg.ex
  refine ⟨T.fsf, f, fd, M, fun_ok F sc_FormD_negD (fun vs H Q E h => by obtain ⟨u, T1, x1, S, k, rfl, _⟩ := h; rfl) fun f cdv A outer s H vs Q E hr h => ?_, b⟩
  obtain ⟨u, T1, x1, S, k, rfl, hu, ok1, hS, lS, k1, k2, f1, go⟩ := h
  refine ⟨_, ((pss_one (ps_ret (pe_f (c_form_of T) (takes_of rfl rfl rfl rfl) hr (by decide) rfl (pa_cons (pe_f (c_plain_scaled T) (takes_of rfl rfl rfl rfl) hr (by decide) rfl (pa_cons (pe_mf0 (m_Form_plain T) hr (by decide) (pv 0)) (pa_cons (pe_tup (pa_cons (pe_un un_neg pe_int) (pa_cons pe_int pa_nil))) pa_nil))) pa_nil))))), ?_⟩
  obtain ⟨o1, dx1, fs1, rfl, h1, l1⟩ := hu.ref
  refine ⟨_, rfl, o1, dx1, fs1, rfl, h1, l1, _, T1, x1, rfl, hu, fun H1 z1 e1 p1 => ?_⟩
  have len1 := ok1.len
  refine ⟨_, rfl, by show 2 ≤ sizeLine; decide, fun t ht => ?_⟩
  refine ⟨z1, .ref t, T1, x1, -1, rfl, p1.ts (TS.new ht), mone_rq sq_new, ok1.pf.nodup, by omega, (ok1.mono (by omega)).fn, f1, fn_mone.mono (by decide), fun H3 z3 T3 e3 pf p3 => ?_⟩
  exact ⟨z3, T3, x1 * (-1), S, rfl, p3, (okF_scl ok1 k1 fn_mone pf).mono (by omega), hS, by omega, fun H4 z4 e4 fm => go H4 z4 T3 (e1.trans ((same_new ht).trans (e3.trans e4))) pf fm⟩
def sp_Fsub (K : PySem.W.Frag) (a : Ad) : Sp := fun vs H Q _ => ∃ (u v : V) (T1 T2 : Tm) (x1 x2 : Rat) (S : List Spot) (k : Nat), vs = [u, v] ∧ FmV K a.Form H u T1 x1 ∧ FmV K a.Form H v T2 x2 ∧ OkF S k T1 ∧ OkF S k T2 ∧ OkS S ∧ S.length ≤ 400 ∧ 1 ≤ k ∧ k ≤ 980 ∧ Fn 1900 x1 ∧ Fn 1900 x2 ∧
  ∀ H' z T, Same H H' → IsPf T (fun s => tv T1 s + tv T2 s * (-1)) → FmV K a.Form H' z T (x1 + x2 * (-1)) → Q z H'
theorem o_Form_sub (T : Txt K mg a) : OpC P w K mg base 9 a.Form (PySem.dunder Operator.Sub.info.2) P_FormD_subD (sp_Fsub K a) := by
  obtain ⟨f, fd, M, F, b⟩ := T.o_sub.ex
  refine ⟨T.fsf, f, fd, M, fun_ok F sc_FormD_subD (fun vs H Q E h => by obtain ⟨u, v, T1, T2, x1, x2, S, k, rfl, _⟩ := h; rfl) fun f cdv A outer s H vs Q E hr h => ?_, b⟩
  obtain ⟨u, v, T1, T2, x1, x2, S, k, rfl, hu, hv, ok1, ok2, hS, lS, k1, k2, f1, f2, go⟩ := h
  refine ⟨_, ((pss_cons (ps_if (pt_not (pt_val (pe_callB call_isi (by rfl) T.n_isinstance (by decide +kernel) (pa_cons (pv 1) (pa_cons (pe_glob (v := .ref a.Form) rfl T.g_Form rfl) pa_nil)))))
 (pss_one ps_never)
 pss_nil)
 (pss_one (ps_ret (pe_f (c_form_of T) (takes_of rfl rfl rfl rfl) hr (by decide) rfl (pa_cons (pe_f (c_plain_sum T) (takes_of rfl rfl rfl rfl) hr (by decide) rfl (pa_cons (pe_mf0 (m_Form_plain T) hr (by decide) (pv 0)) (pa_cons (pe_f (c_plain_scaled T) (takes_of rfl rfl rfl rfl) hr (by decide) rfl (pa_cons (pe_mf0 (m_Form_plain T) hr (by decide) (pv 1)) (pa_cons (pe_tup (pa_cons (pe_un un_neg pe_int) (pa_cons pe_int pa_nil))) pa_nil))) pa_nil))) pa_nil)))))), ?_⟩
  refine ⟨_, rfl, _, _, _, _, true, rfl, .own _, hv.ty T, kit_same, true, rfl, iteF ?_⟩
  obtain ⟨o1, dx1, fs1, rfl, h1, l1⟩ := hu.ref
  obtain ⟨o2, dx2, fs2, rfl, h2, l2⟩ := hv.ref
  refine ⟨_, rfl, o1, dx1, fs1, rfl, h1, l1, _, T1, x1, rfl, hu, fun H1 z1 e1 p1 => ?_⟩
  refine ⟨_, rfl, o2, dx2, fs2, rfl, e1 _ _ h2, l2, _, T2, x2, rfl, hv.up e1, fun H2 z2 e2 p2 => ?_⟩
  have len1 := ok1.len
  have len2 := ok2.len
  refine ⟨_, rfl, by show 2 ≤ sizeLine; decide, fun t ht => ?_⟩
  have et := same_new ht (o := .tup [.int (-1), .int 1])
  refine ⟨z2, .ref t, T2, x2, -1, rfl, p2.ts (TS.new ht), mone_rq sq_new, ok2.pf.nodup, by omega, (ok2.mono (by omega)).fn, f2.mono (by decide), fn_mone.mono (by decide), fun H3 z3 T3 e3 pf3 p3 => ?_⟩
  have ok3 := okF_scl ok2 k1 fn_mone pf3
  have len3 := ok3.len
  refine ⟨z1, z3, T1, T3, x1, x2 * (-1), k + 1, rfl, p1.ts (Same.ts (e2.trans (et.trans e3))), p3, ok1.pf.nodup, ok3.pf.nodup, by omega, (ok1.mono (Nat.le_succ k)).fn, ok3.fn, by omega, by omega, f1.mono (by decide), (f2.times fn_mone).mono (by decide), fun H4 z4 T4 e4 pf4 p4 => ?_⟩
  have ef : (fun s => tv T1 s + tv T3 s) = fun s => tv T1 s + tv T2 s * (-1) := funext fun s => by rw [pf3.tv s]
  exact ⟨z4, T4, x1 + x2 * (-1), S, rfl, p4, (okF_sum (ok1.mono (Nat.le_succ k)) ok3 (by omega) pf4).mono (by omega), hS, by omega, fun H5 z5 e5 fm => go H5 z5 T4 (e1.trans (e2.trans (et.trans (e3.trans (e4.trans e5))))) (by rw [← ef]; exact pf4) fm⟩
end
end K33

set_option Elab.async false
set_option linter.all false
set_option maxRecDepth 100000
set_option maxHeartbeats 4000000
namespace K33
open PySem PySem.Spec PyProof.Rows L2 Ew
/-! ### forms compared, asked, made of a spot -/
def rqD (x : Rat) : PyData := intT [(nd x).1, (nd x).2]
def cD (c : Spot × Rat) : PyData := .tuple [spD c.1, rqD c.2]
def tmD (T : Tm) : PyData := .tuple (T.map cD)
def plD (T : Tm) (x : Rat) : PyData := .tuple [tmD T, rqD x]
theorem eqv_rq (x y : Rat) : PyData.eqv (rqD x) (rqD y) = decide (x = y) := by
  unfold rqD
  rw [eqv_ints]
  by_cases h : x = y
  · subst h; simp
  · rw [decide_eq_false h, decide_eq_false]
    intro z
    simp only [List.cons.injEq, and_true] at z
    exact h (nd_inj (Prod.ext z.1 z.2))
theorem eqv_c (c d : Spot × Rat) : PyData.eqv (cD c) (cD d) = decide (c = d) := by
  unfold cD
  rw [PyData.eqv, PyData.eqvAll, PyData.eqvAll, PyData.eqvAll, eqv_sp, eqv_rq]
  obtain ⟨a, b⟩ := c
  obtain ⟨a', b'⟩ := d
  by_cases h1 : a = a' <;> by_cases h2 : b = b' <;> simp [h1, h2]
theorem eqvAll_c : ∀ T U : Tm, PyData.eqvAll (T.map cD) (U.map cD) = decide (T = U)
  | [], [] => rfl
  | [], y :: b => rfl
  | x :: a, [] => rfl
  | x :: a, y :: b => by
    rw [List.map_cons, List.map_cons, PyData.eqvAll, eqv_c, eqvAll_c a b]
    by_cases h1 : x = y <;> by_cases h2 : a = b <;> simp [h1, h2]
theorem eqv_tm (T U : Tm) : PyData.eqv (tmD T) (tmD U) = decide (T = U) := by
  unfold tmD
  rw [PyData.eqv, eqvAll_c]
theorem eqv_pl (T U : Tm) (x y : Rat) : PyData.eqv (plD T x) (plD U y) = decide (T = U ∧ x = y) := by
  unfold plD
  rw [PyData.eqv, PyData.eqvAll, PyData.eqvAll, PyData.eqvAll, eqv_tm, eqv_rq]
  by_cases h1 : T = U <;> by_cases h2 : x = y <;> simp [h1, h2]
theorem fl_rq {n : Nat} (x : Rat) : Fl (n + 1) (rqD x) := fl_ints _
theorem fl_c {c : Spot × Rat} (h : PyData.strOk c.1.1 = true) : Fl 2 (cD c) := Fl.tup (.cons (fl_sp h) (.cons (fl_rq _) .nil))
def SokT (T : Tm) : Prop := ∀ c ∈ T, PyData.strOk c.1.1 = true
theorem fl_tm {T : Tm} (h : SokT T) : Fl 3 (tmD T) := Fl.tup (FlA.all fun d hd => by
  obtain ⟨c, hc, rfl⟩ := List.mem_map.mp hd
  exact fl_c (h c hc))
theorem fl_pl {T : Tm} (h : SokT T) (x : Rat) : Fl 4 (plD T x) := Fl.tup (.cons (fl_tm h) (.cons (fl_rq _) .nil))
theorem OkF.sok {S : List Spot} {k : Nat} {T : Tm} (h : OkF S k T) (hS : OkS S) : SokT T := fun c hc => (hS c.1 (h.sb _ (List.mem_map.mpr ⟨c, hc, rfl⟩))).2
section
variable {K : PySem.W.Frag} {H : Hp} {v : V} {c : Spot × Rat} {T : Tm} {x : Rat}
theorem Rq.dp (h : Rq K H v x) : Dp K H v (rqD x) := Rt.dp h
theorem PrQ.dp (h : PrQ K H v c) : Dp K H v (cD c) := by
  obtain ⟨q, u, w, rfl, h2, h3, h4⟩ := h
  exact .tup h2 (.cons h3.dp (.cons h4.dp .nil))
theorem dp_prs : ∀ {xs : List V} {T : Tm}, Paired (PrQ K H) xs T → DpAll K H xs (T.map cD)
  | _, _, .nil => .nil
  | _, _, .cons h t => .cons h.dp (dp_prs t)
theorem TmV.dp (h : TmV K H v T) : Dp K H v (tmD T) := by
  obtain ⟨p, xs, rfl, h2, h3⟩ := h
  exact .tup h2 (dp_prs h3)
theorem PlV.dp (h : PlV K H v T x) : Dp K H v (plD T x) := by
  obtain ⟨p, t, r, rfl, h2, h3, h4⟩ := h
  exact .tup h2 (.cons h3.dp (.cons h4.dp .nil))
end
section
variable {P : Program} {w : World} {K : PySem.W.Frag} {mg : Str → Option Value} {base : Heap} {a : Ad}
def sp_Feq (K : PySem.W.Frag) (a : Ad) : Sp := fun vs H Q _ => ∃ (u v : V) (T1 : Tm) (x1 : Rat), vs = [u, v] ∧ FmV K a.Form H u T1 x1 ∧ SokT T1 ∧
  ((∃ T2 x2, FmV K a.Form H v T2 x2 ∧ SokT T2 ∧ Q (.bl (decide (T1 = T2 ∧ x1 = x2))) H) ∨ ∃ ty, ty ≠ "" ∧ Kd K H v ty ∧ Q (.bl false) H)
theorem o_Form_eq (T : Txt K mg a) : OwC P w K mg base 1 a.Form "__eq__" P_FormD_eqD (sp_Feq K a) := by
  obtain ⟨f, fd, M, hfn, F, b⟩ := T.o_feq.ex
  refine ⟨f, fd, M, hfn, fun_ok F sc_FormD_eqD (fun vs H Q E h => by obtain ⟨u, v, T1, x1, rfl, _⟩ := h; rfl) fun f cdv A outer s H vs Q E hr h => ?_, b⟩
  obtain ⟨u, v, T1, x1, rfl, hu, s1, h⟩ := h
  obtain ⟨o1, dx1, t1, r1, rfl, h1, h2, h3⟩ := id hu
  refine ⟨_, ((pss_one (ps_ret (pe_and (pe_callB call_isi (by rfl) T.n_isinstance (by decide +kernel) (pa_cons (pv 1) (pa_cons (pe_glob (v := .ref a.Form) rfl T.g_Form rfl) pa_nil))) (pe_and (pe_cmpR (op_eqD hr.units) (pe_fld (pv 0) rfl) (pe_fld (pv 1) rfl) (nomark _)) (pe_one (pe_cmpR (op_eqD hr.units) (pe_fld (pv 0) rfl) (pe_fld (pv 1) rfl) (nomark _)))))))), ?_⟩
  rcases h with ⟨T2, x2, hv, s2, k⟩ | ⟨ty, _, kd, k⟩
  · refine ⟨_, rfl, _, _, _, _, true, rfl, .own _, hv.ty T, kit_same, true, rfl, iteT ?_⟩
    obtain ⟨o2, dx2, t2, r2, rfl, g1, g2, g3⟩ := id hv
    refine ⟨_, rfl, o1, a.Form, dx1, _, _, rfl, h1, T.fki.cl, T.fnT, rfl, _, rfl, o2, a.Form, dx2, _, _, rfl, g1, T.fki.cl, T.fnT, rfl, tmD T1, tmD T2, h2.dp, g2.dp, (fl_tm s1).sh (by decide), (fl_tm s2).sh (by decide), ?_⟩
    rw [eqv_tm]
    by_cases e : T1 = T2
    · rw [decide_eq_true e]
      refine ⟨true, rfl, iteT ?_⟩
      refine ⟨_, rfl, o1, a.Form, dx1, _, _, rfl, h1, T.fki.cl, T.fnR, rfl, _, rfl, o2, a.Form, dx2, _, _, rfl, g1, T.fki.cl, T.fnR, rfl, rqD x1, rqD x2, h3.dp, g3.dp, (fl_rq (n := 0) _).sh (by decide), (fl_rq (n := 0) _).sh (by decide), ?_⟩
      rw [eqv_rq]
      have : decide (T1 = T2 ∧ x1 = x2) = decide (x1 = x2) := by simp [e]
      rw [← this]
      exact k
    · rw [decide_eq_false e]
      have : decide (T1 = T2 ∧ x1 = x2) = false := by simp [e]
      rw [this] at k
      exact ⟨false, rfl, iteF k⟩
  · exact ⟨_, rfl, _, _, _, _, false, rfl, .own _, kd.ty, T.fno ty (by cases kd <;> simp), false, rfl, iteF k⟩
def sp_Fcall (K : PySem.W.Frag) (a : Ad) : Sp := fun vs H Q E => ∃ (u wv : V) (T L : Tm) (x : Rat) (kf kw : Nat), vs = [u, wv] ∧ FmV K a.Form H u T x ∧ WdQ K a.World H wv L ∧ VlOk T L x ∧ (∀ c ∈ T, Fn kf c.2) ∧ (∀ c ∈ L, Fn kw c.2) ∧ 1 ≤ kw ∧ T.length ≤ 900 ∧ kf + kw ≤ 2000 ∧
  ((∀ c ∈ T, c.1 ∈ keysQ L) → ∀ H' z, Same H H' → Rq K H' z (vlQ L x T) → Q z H') ∧ (∀ (j : Nat) c, T[j]? = some c → (∀ d ∈ T.take j, d.1 ∈ keysQ L) → c.1 ∉ keysQ L → ∀ H' v d, Same H H' → Spt H' v c.1 → H' d = some (.xd [("spot", v)]) → E (.ref a.NoSpot) (some d) H')
theorem k_Form (T : Txt K mg a) : ClmC P w K mg base 6 a.Form P_FormD_callD (sp_Fcall K a) := by
  obtain ⟨f, fd, M, F, b⟩ := T.c_Form
  refine ⟨f, fd, M, fun_ok F sc_FormD_callD (fun vs H Q E h => by obtain ⟨u, wv, T1, L, x, kf, kw, rfl, _⟩ := h; rfl) fun f cdv A outer s H vs Q E hr h => ?_, b⟩
  obtain ⟨u, wv, T1, L, x, kf, kw, rfl, hu, hw, f0, f1, f2, w1, len, kk, go1, go2⟩ := h
  refine ⟨_, ((pss_one (ps_ret (pe_f (c_plain_value T) (takes_of rfl rfl rfl rfl) hr (by decide) rfl (pa_cons (pe_mf0 (m_Form_plain T) hr (by decide) (pv 0)) (pa_cons (pv 1) pa_nil)))))), ?_⟩
  obtain ⟨o1, dx1, fs1, rfl, h1, l1⟩ := hu.ref
  refine ⟨_, rfl, o1, dx1, fs1, rfl, h1, l1, _, T1, x, rfl, hu, fun H1 z1 e1 p1 => ?_⟩
  refine ⟨_, rfl, z1, wv, T1, L, x, kf, kw, rfl, p1, hw.up e1, f0, f1, f2, w1, len, kk, fun hin H' z e hz => go1 hin H' z (e1.trans e) hz, fun j c hc th nin H' v d e hs hd => go2 j c hc th nin H' v d (e1.trans e) hs hd⟩
def sp_Fof (K : PySem.W.Frag) (a : Ad) : Sp := fun vs H Q _ => ∃ (v : V) (s : Spot), vs = [v] ∧ Spt H v s ∧ PyData.strOk s.1 = true ∧ ∀ H' z T, Same H H' → FmV K a.Form H' z T 0 → IsPf T (tot (ngQ [(s, 1)])) → Q z H'
theorem fn_one : Fn 1 1 := ⟨by unfold Sz; decide +kernel, by unfold Sz; decide +kernel⟩
theorem one_rq {H : Hp} {t : Addr} (h : SqT K H t [.int 1, .int 1]) : Rq K H (.ref t) 1 := ⟨t, rfl, h⟩
theorem m_Form_of (T : Txt K mg a) : Sm P w K mg base 8 a.Form "of" P_Form_of (sp_Fof K a) := by
  obtain ⟨mc, p, g, fd, S, F, b⟩ := T.m_of.ex
  refine ⟨mc, p, g, fd, S, fun_ok F sc_Form_of (fun vs H Q E h => by obtain ⟨v, s, rfl, _⟩ := h; rfl) fun f cdv A outer s H vs Q E hr h => ?_, b⟩
  obtain ⟨v, sp, rfl, hv, sok, k⟩ := h
  refine ⟨_, ((pss_one (ps_ret (pe_mkD (mk_Form1 T) hr (by decide) rfl (pa_cons (pe_lst (pa_cons (pe_tup (pa_cons (pv 0) (pa_cons (pe_tup (pa_cons pe_int (pa_cons pe_int pa_nil))) pa_nil))) pa_nil)) pa_nil))))), ?_⟩
  refine ⟨_, rfl, by show 2 ≤ sizeLine; decide, fun q1 hq1 => ⟨by show 2 ≤ sizeLine; decide, fun q2 hq2 => ⟨by show 1 ≤ sizeLine; decide, fun q3 hq3 => ?_⟩⟩⟩
  have t1 := TS.new (o := .tup [.int 1, .int 1]) hq1
  have e1 := same_new (o := .tup [.int 1, .int 1]) hq1
  have r1 : SqT K (upd H q1 (.tup [.int 1, .int 1])) q1 [.int 1, .int 1] := sq_new
  generalize upd H q1 (.tup [.int 1, .int 1]) = H1 at *
  have e2 := same_new (o := .tup [v, .ref q1]) hq2
  have r2 : SqT K (upd H1 q2 (.tup [v, .ref q1])) q2 [v, .ref q1] := sq_new
  generalize upd H1 q2 (.tup [v, .ref q1]) = H2 at *
  have e3 := same_new (o := .lst [.ref q2]) hq3
  have r3 : SqL K (upd H2 q3 (.lst [.ref q2])) q3 [.ref q2] := SqL.of upd_same
  generalize upd H2 q3 (.lst [.ref q2]) = H3 at *
  have eT := e1.trans (e2.trans e3)
  have pr : PrQ K H3 (.ref q2) (sp, 1) := ⟨q2, v, .ref q1, rfl, upT e3 r2, (hv.up eT), (one_rq r1).of (e2.trans e3)⟩
  refine mk_fm (L := [(sp, 1)]) (ob := some 0) (.inl r3) (by show 1 ≤ 900; decide) ⟨Nat.le_refl _, fun i c hc => ?_⟩ ⟨fun c hc => ?_, fun c hc => ?_, fun n s => ?_⟩ (fun z hz => by cases hz) (.inl ⟨0, rfl, ⟨_, rfl, T.t_Z _⟩⟩) (fun y _ ey H' z T' e fm pf => ?_) (fun z => absurd z (by simp)) fun _ z => nomatch z
  · cases i with
    | zero => cases hc; exact ⟨_, rfl, pr⟩
    | succ i => cases hc
  · rw [List.mem_singleton.mp hc]
    exact sok
  · rw [List.mem_singleton.mp hc]
    exact fn_one.mono (by decide)
  · refine (tot_take (T := [(sp, 1)]) (k := 1) (by simp [keysQ]) (fun c hc => ?_) (by decide) n s).mono (by decide)
    rw [List.mem_singleton.mp hc]
    exact fn_one
  · cases ey
    exact k H' z T' (eT.trans e) fm pf
end
end K33

set_option Elab.async false
set_option linter.all false
set_option maxRecDepth 100000
set_option maxHeartbeats 4000000
namespace K33
open PySem PySem.Spec PyProof.Rows L2 Ew
section
variable {K : PySem.W.Frag} {b p : Addr} {F H F' H' : Hp} {o : HO}
theorem rawB (s : Sb b F H F' H') (B : Bag K b F' H') (hp : H' p = none) : Sb b F H F' (upd H' p o) ∧ Bag K b F' (upd H' p o) := by
  have nb : ¬ p = b := fun z => (memB K b).there B z hp
  exact ⟨s.raw hp (s.fresh (fun x z => (memB K b).there B z) hp), (memB K b).put B nb⟩
theorem mutB (s : Sb b F H F' H') (B : Bag K b F' H') (hf : F' p = none) (h0 : H p = none) (nb : p ≠ b) : Sb b F H F' (upd H' p o) ∧ Bag K b F' (upd H' p o) := ⟨s.mut hf h0, (memB K b).put B nb⟩
theorem freezeB (s : Sb b F H F' H') (B : Bag K b F' H') (hf : F' p = none) (h0 : H p = none) (nb : p ≠ b) (e : H' p = some o) : Sb b F H (upd F' p o) H' ∧ Bag K b (upd F' p o) H' := by
  refine ⟨s.freeze hf h0 e, (memB K b).grow B (same_new hf) fun x z => ?_⟩
  rw [upd_ne (fun q => nb (by rw [← q]; exact z))]
  exact (memB K b).off B z
end
/-- things that are spots, one after the other -/
def Ss (F : Hp) (xs : List V) (ps : List Spot) : Prop := xs.length = ps.length ∧ ∀ (i : Nat) p, ps[i]? = some p → ∃ x, xs[i]? = some x ∧ Spt F x p
theorem Ss.up {F F' : Hp} {xs : List V} {ps : List Spot} (h : Ss F xs ps) (e : Same F F') : Ss F' xs ps := ⟨h.1, fun i p hp => by obtain ⟨x, h1, h2⟩ := h.2 i p hp; exact ⟨x, h1, h2.up e⟩⟩
theorem Ss.one {F : Hp} {x : V} {p : Spot} (h : Spt F x p) : Ss F [x] [p] := ⟨rfl, fun i q hq => by
  cases i with
  | zero => cases hq; exact ⟨x, rfl, h⟩
  | succ i => simp at hq⟩
theorem Ss.snoc {F : Hp} {xs : List V} {ps : List Spot} {x : V} {p : Spot} (h : Ss F xs ps) (k : Spt F x p) : Ss F (xs ++ [x]) (ps ++ [p]) := by
  refine ⟨by rw [List.length_append, List.length_append, h.1]; rfl, fun i q hq => ?_⟩
  rcases Nat.lt_or_ge i ps.length with hi | hi
  · rw [List.getElem?_append_left hi] at hq
    obtain ⟨y, h1, h2⟩ := h.2 i q hq
    exact ⟨y, by rw [List.getElem?_append_left (by rw [h.1]; exact hi)]; exact h1, h2⟩
  · rw [List.getElem?_append_right hi] at hq
    have e0 : i - ps.length = 0 := by
      rcases Nat.eq_zero_or_pos (i - ps.length) with z | z
      · exact z
      · rw [List.getElem?_eq_none (by rw [List.length_singleton]; exact z)] at hq; cases hq
    rw [e0] at hq
    cases hq
    exact ⟨x, by rw [List.getElem?_append_right (by rw [h.1]; exact hi), h.1, e0]; rfl, k⟩
theorem Ss.dp {K : PySem.W.Frag} {F : Hp} : ∀ {xs : List V} {ps : List Spot}, Ss F xs ps → DpAll K F xs (ps.map spD)
  | [], [], _ => .nil
  | [], p :: ps, h => by have := h.1; simp at this
  | x :: xs, [], h => by have := h.1; simp at this
  | x :: xs, p :: ps, h => by
    obtain ⟨y, e, hy⟩ := h.2 0 p rfl
    cases e
    exact .cons hy.dp (Ss.dp ⟨by simpa using h.1, fun i q hq => h.2 (i + 1) q hq⟩)
theorem eqv_any (p : Spot) : ∀ ps : List Spot, ((ps.map spD).any fun z => PyData.eqv z (spD p)) = decide (p ∈ ps)
  | [] => by simp
  | q :: ps => by
    rw [List.map_cons, List.any_cons, eqv_any p ps, eqv_sp]
    by_cases h : q = p
    · subst h; simp
    · by_cases h2 : p ∈ ps <;> simp [h, h2, Ne.symm h]
theorem fl_spots {ps : List Spot} (h : ∀ p ∈ ps, PyData.strOk p.1 = true) : Fl 2 (.list (ps.map spD)) := Fl.lst (FlA.all fun d hd => by
  obtain ⟨p, hp, rfl⟩ := List.mem_map.mp hd
  exact fl_sp (h p hp))
/-- spot (not) in spots -/
theorem not_in {K : PySem.W.Frag} {H : Hp} {l : Addr} {xs : List V} {ps : List Spot} {v : V} {p : Spot} {Q : VK} (hl : SqL K H l xs) (h : Ss H xs ps) (ok : ∀ p ∈ ps, PyData.strOk p.1 = true) (hv : Spt H v p) (sv : PyData.strOk p.1 = true) (k : Q (.bl (!decide (p ∈ ps))) H) : rNotInD K v (.ref l) H Q := by
  refine ⟨spD p, ps.map spD, hv.dp, .lst hl h.dp, (fl_sp sv).sh (by decide), (fl_spots ok).sh (by decide), ?_⟩
  rw [eqv_any]
  exact k
theorem gn {i : Nat} {x : V} {σ : L2.St} {H : Hp} {R : L2.St → Hp → Prop} (h : R (σ.set i (some x)) H) : gName i x σ H R := h
theorem atI_last {α : Type} {xs : List α} {x : α} (h : xs[xs.length - 1]? = some x) : atI xs (-1) = some x := by
  have l : 0 < xs.length := by have := (List.getElem?_eq_some_iff.mp h).1; omega
  unfold atI
  unfold ixN
  rw [if_neg (by decide), if_pos (by omega)]
  have e : ((-1 : Int) + (xs.length : Int)).toNat = xs.length - 1 := by omega
  rw [e]
  exact h
section
variable {P : Program} {w : World} {K : PySem.W.Frag} {mg : Str → Option Value} {base : Heap} {a : Ad}
def sp__law_one_in (K : PySem.W.Frag) : Sp := fun vs H Q _ => ∃ (F : Hp) (b : Addr) (many : Int), vs = [.ref b, .int many] ∧ Bag K b F H ∧ Same F H ∧ 0 < many ∧ Sz 8000 many ∧
  ∀ H' (c : Bool), Sb b F H F H' → Bag K b F H' → Q (.bl c) H'
theorem c__law_one_in (T : Txt K mg a) : Cl P w K mg base 2 "_law_one_in" P__law_one_in (sp__law_one_in K) [] :=
  T.d__law_one_in.cl sc__law_one_in (fun vs H Q E h => by obtain ⟨F, b, u, rfl, _⟩ := h; rfl) fun f cdv A outer s H vs Q E hr h => by
    obtain ⟨F, b, many, rfl, hB, hf, h0, hz, k⟩ := h
    refine ⟨_, ((pss_one (ps_ret (pe_cmpR op_eq (pe_f (c__law_pick T) (takes_of rfl rfl rfl rfl) hr (by decide) rfl (pa_cons (pv 0) (pa_cons (pv 1) pa_nil))) pe_int (nomark _))))), ?_⟩
    exact ⟨_, rfl, _, rfl, F, b, _, rfl, hB, hf, h0, hz, fun H' i s1 B1 h1 h2 => ⟨rfl, k H' _ s1 B1⟩⟩

def rLenS (K : PySem.W.Frag) : List V → Hp → VK → Prop := fun xs H Q => ∃ p ys, xs = [.ref p] ∧ (SqL K H p ys ∨ SqT K H p ys) ∧ Q (.int ys.length) H
def sp__law_shuffled (K : PySem.W.Frag) : Sp := fun vs H Q _ => ∃ (F : Hp) (b l : Addr) (xs : List V), vs = [.ref b, .ref l] ∧ Bag K b F H ∧ Same F H ∧ SqL K F l xs ∧ xs.length ≤ 1000 ∧
  ∀ F' H' D ys, Sb b F H F' H' → Bag K b F' H' → F' D = some (.lst ys) → ys.Perm xs → Q (.ref D) H'
theorem perm_erase {α : Type} : ∀ {xs : List α} {k : Nat} {y : α}, xs[k]? = some y → (y :: xs.eraseIdx k).Perm xs
  | [], k, y, h => by simp at h
  | x :: xs, 0, y, h => by
    simp only [List.getElem?_cons_zero, Option.some.injEq] at h
    subst h
    exact .refl _
  | x :: xs, k + 1, y, h => by
    rw [List.eraseIdx_cons_succ]
    exact (List.Perm.swap x y _).trans ((perm_erase (xs := xs) h).cons x)
theorem c__law_shuffled (T : Txt K mg a) : Cl P w K mg base 3 "_law_shuffled" P__law_shuffled (sp__law_shuffled K) [] :=
  T.d__law_shuffled.cl sc__law_shuffled (fun vs H Q E h => by obtain ⟨F, b, l, xs, rfl, _⟩ := h; rfl) fun f cdv A outer s H vs Q E hr h => by
    obtain ⟨F, b, l, xs, rfl, hB, hf, hl, xl, k⟩ := h
    refine ⟨_, ((pss_cons (ps_set (i := 2) sc__law_shuffled.nd rfl (Or.inr rfl) (pe_callTy call_list_of (by rfl) T.n_list (by decide +kernel) (pa_cons (pv 1) pa_nil)))
 (pss_one (ps_ret (pe_lc (own := [("_law_thing", 3)]) (g := (gName 3)) (by rfl) sc__law_shuffled.nd (pi_list (pv 1)) (blkOk_by (own := [("_law_thing", 3)]) (N := N__law_shuffled) (sc := defScope s__law_shuffled) (by decide +kernel)) (fun _ _ _ _ _ => (pg_name (i := 3) sc__law_shuffled.nd rfl (Or.inl rfl) (hf := .inr rfl))) (fun _ _ _ _ _ => pts_nil) (fun _ _ _ _ _ => (by show PE _ _ (tBM K "list" rPopAt (tVar 2) (tCons (tF (sp__law_pick K) [] (fun _ _ _ _ => False) (tCons (tVar 0) (tCons (tCB (rLenS K) (tCons (tVar 2) tNil)) tNil))) tNil)); exact pe_bm PySem.F.plainAttrs_list PySem.F.slot_list_pop PySem.F.type_list_pop mt_popAt (pv 2) (pa_cons (pe_f (c__law_pick T) takes0 hr (by decide) rfl (pa_cons (pv 0) (pa_cons (pe_callB (r := rLenS K) call_len_seq (by rfl) T.n_len (by decide +kernel) (pa_cons (pv 2) pa_nil)) pa_nil))) pa_nil)))))))), ?_⟩
    refine ⟨_, rfl, l, xs, rfl, .inl (upL hf hl), fun R hR => ?_⟩
    have nRb : R ≠ b := fun z => (memB K b).there hB z hR
    have fR : F R = none := hf.free hR
    obtain ⟨s1, B1⟩ := rawB (o := .lst xs) (Stm.refl hf) hB hR
    refine ⟨_, rfl, l, rfl, ⟨xs, upL s1.fh hl⟩, fun D hD => ?_⟩
    have nDR : D ≠ R := fun z => by rw [z, upd_same] at hD; cases hD
    have h0D : H D = none := by rwa [upd_ne nDR] at hD
    have fD : F D = none := hf.free h0D
    have nDb : D ≠ b := fun z => (memB K b).there hB z h0D
    refine lc_it (walk_list (xs := xs)) (fun i H' => ∃ F' acc rest, Sb b F H F' H' ∧ Bag K b F' H' ∧ F' D = none ∧ F' R = none ∧ H' D = some (.lst acc) ∧ H' R = some (.lst rest) ∧ (acc ++ rest).Perm xs ∧ acc.length = i) ?_ ?_ ?_ ?_
    · obtain ⟨s2, B2⟩ := rawB (o := .lst []) s1 B1 hD
      exact ⟨F, [], xs, s2, B2, fD, fR, upd_same, by rw [upd_ne (Ne.symm nDR), upd_same], List.Perm.refl _, rfl⟩
    · rintro i H' _ ⟨F', acc, rest, s1, _⟩
      exact upL s1.fh (upL s1.ff hl)
    · rintro i x H2o H2 hi ⟨F2, acc, rest, s2, B2, f2D, f2R, h2D, h2R, pm, al⟩ ⟨eH, hx⟩
      subst eH
      have rl : rest.length = xs.length - i := by have := pm.length_eq; rw [List.length_append] at this; omega
      refine ⟨rfl, lc_yes ⟨_, rfl, .inl ⟨rfl, rest, SqL.of h2R⟩, _, rfl, _, rfl, R, rest, rfl, .inl (SqL.of h2R), F2, b, _, rfl, B2, s2.fh, by omega, sz_len (by omega), fun H3 n s3 B3 n0 n1 => ?_⟩⟩
      have t3 := seqB s2 B2 s3
      have h3D : H3 D = some (.lst acc) := s3.hh D _ nDb h2D
      have h3R : H3 R = some (.lst rest) := s3.hh R _ nRb h2R
      obtain ⟨y, hy⟩ : ∃ y, rest[n.toNat]? = some y := ⟨_, List.getElem?_eq_getElem (by omega)⟩
      have r0 : H R = none := hR
      obtain ⟨s4, B4⟩ := mutB (o := .lst (rest.eraseIdx n.toNat)) t3 B3 f2R r0 nRb
      have h4D : (upd H3 R (.lst (rest.eraseIdx n.toNat))) D = some (.lst acc) := by rw [upd_ne nDR]; exact h3D
      obtain ⟨s5, B5⟩ := mutB (o := .lst (acc ++ [y])) s4 B4 f2D h0D nDb
      refine ⟨R, rest, n, n.toNat, y, rfl, rfl, h3R, by omega, by omega, seqIndex_of n0 n1, hy, acc, h4D, by rw [sizeLine_eq]; omega, F2, acc ++ [y], rest.eraseIdx n.toNat, s5, B5, f2D, f2R, upd_same, by rw [upd_ne (Ne.symm nDR), upd_same], ?_, by rw [List.length_append, al]; rfl⟩
      rw [List.append_assoc]
      exact ((perm_erase hy).append_left acc).trans pm
    · rintro H2 ⟨F2, acc, rest, s2, B2, f2D, f2R, h2D, h2R, pm, al⟩
      have rl : rest.length = 0 := by have := pm.length_eq; rw [List.length_append] at this; omega
      rw [List.length_eq_zero_iff.mp rl, List.append_nil] at pm
      obtain ⟨s3, B3⟩ := freezeB s2 B2 f2D h0D nDb h2D
      exact k _ _ D acc s3 B3 upd_same pm
end
/-! ### things that are alike -/
/-- the same data, as the law looks at it -/
def Ex (K : PySem.W.Frag) (H : Hp) : Nat → V → V → Prop
  | 0, _, _ => False
  | n + 1, u, v => (∃ i : Int, u = .int i ∧ v = .int i) ∨ (∃ z : Str, u = .str z ∧ v = .str z ∧ PyData.strOk z = true) ∨ ∃ (p q : Addr) (xs ys : List V), u = .ref p ∧ v = .ref q ∧ SqT K H p xs ∧ SqT K H q ys ∧ xs.length ≤ 1000 ∧ Paired (Ex K H n) xs ys
section
variable {P : Program} {w : World} {K : PySem.W.Frag} {mg : Str → Option Value} {base : Heap} {a : Ad}
def sp__law_exact (K : PySem.W.Frag) (n : Nat) : Sp := fun vs H Q _ => ∃ (u v : V), vs = [u, v] ∧ Ex K H n u v ∧ Q (.bl true) H
theorem c__law_exactN (T : Txt K mg a) : ∀ n : Nat, Cl P w K mg base (n + 1) "_law_exact" P__law_exact (sp__law_exact K n) [] := by
  intro n
  induction n with
  | zero =>
    refine T.d__law_exact.cl sc__law_exact (fun vs H Q E h => by obtain ⟨u, v, rfl, _⟩ := h; rfl) fun f cdv A outer s H vs Q E hr h => ?_
    obtain ⟨u, v, rfl, h, k⟩ := h
    exact h.elim
  | succ n ih =>
    refine T.d__law_exact.cl sc__law_exact (fun vs H Q E h => by obtain ⟨u, v, rfl, _⟩ := h; rfl) fun f cdv A outer s H vs Q E hr h => ?_
    obtain ⟨u, v, rfl, h, k⟩ := h
    refine ⟨_, ((pss_cons (ps_if (pt_val (pe_callB call_isi (by rfl) T.n_isinstance (by decide +kernel) (pa_cons (pv 1) (pa_cons (pe_bltn (v := .ty "tuple") (by rfl) T.n_tuple (by decide +kernel) rfl) pa_nil))))
 (pss_cons (ps_if (PW.pt (pw_or (pt_not (pt_val (pe_callB call_isi (by rfl) T.n_isinstance (by decide +kernel) (pa_cons (pv 0) (pa_cons (pe_bltn (v := .ty "tuple") (by rfl) T.n_tuple (by decide +kernel) rfl) pa_nil))))) (pw_or1 (pt_cmpR op_ne (pe_callB call_len_seq (by rfl) T.n_len (by decide +kernel) (pa_cons (pv 0) pa_nil)) (pe_callB call_len_seq (by rfl) T.n_len (by decide +kernel) (pa_cons (pv 1) pa_nil)) (nomark _)))))
 (pss_one (ps_ret pe_bl))
 pss_nil)
 (pss_cons (ps_for (passes_of rfl) rfl (pi_range1 (by rfl) T.n_range (pa_cons (pe_callB call_len_seq (by rfl) T.n_len (by decide +kernel) (pa_cons (pv 1) pa_nil)) pa_nil)) (pg_name (i := 2) sc__law_exact.nd rfl (Or.inl rfl))
 (pss_one (ps_if (pt_not (pt_val (pe_f ih (takes_of rfl rfl rfl rfl) hr (Nat.le_refl _) rfl (pa_cons (pe_ix ix_tup (pv 0) (pv 2) (fun _ _ => rfl)) (pa_cons (pe_ix ix_tup (pv 1) (pv 2) (fun _ _ => rfl)) pa_nil)))))
 (pss_one (ps_ret pe_bl))
 pss_nil)))
 (pss_one (ps_ret pe_bl))))
 pss_nil)
 (pss_cons (ps_if (pt_val (pe_callB call_isi (by rfl) T.n_isinstance (by decide +kernel) (pa_cons (pv 1) (pa_cons (pe_bltn (v := .ty "str") (by rfl) T.n_str (by decide +kernel) rfl) pa_nil))))
 (pss_one (ps_ret (pe_and (pe_callB call_isi (by rfl) T.n_isinstance (by decide +kernel) (pa_cons (pv 0) (pa_cons (pe_bltn (v := .ty "str") (by rfl) T.n_str (by decide +kernel) rfl) pa_nil))) (pe_one (pe_cmpR (op_eqD hr.units) (pv 0) (pv 1) (nomark _))))))
 pss_nil)
 (pss_one (ps_ret (pe_and (pe_f (c__law_integer T) (takes_of rfl rfl rfl rfl) hr (by omega) rfl (pa_cons (pv 0) pa_nil)) (pe_one (pe_cmpR (op_eqD hr.units) (pv 0) (pv 1) (nomark _))))))))), ?_⟩
    rcases h with ⟨i, rfl, rfl⟩ | ⟨z, rfl, rfl, hz⟩ | ⟨p, q, xs, ys, rfl, rfl, hx, hy, big, pr⟩
    · refine ⟨_, rfl, _, _, _, _, false, rfl, .ty _, .base (.int _), kit_ty (by decide +kernel), false, rfl, iteF ?_⟩
      refine ⟨_, rfl, _, _, _, _, false, rfl, .ty _, .base (.int _), kit_ty (by decide +kernel), false, rfl, iteF ?_⟩
      refine ⟨_, rfl, _, rfl, .inl ⟨_, rfl, true, rfl, iteT ?_⟩⟩
      refine ⟨_, rfl, _, rfl, .int i, .int i, .int _, .int _, (Fl.int (n := 0)).sh (by decide), (Fl.int (n := 0)).sh (by decide), ?_⟩
      have : PyData.eqv (.int i) (.int i) = true := by rw [PyData.eqv]; exact decide_eq_true rfl
      rw [this]
      exact k
    · refine ⟨_, rfl, _, _, _, _, false, rfl, .ty _, .base (.str _), kit_ty (by decide +kernel), false, rfl, iteF ?_⟩
      refine ⟨_, rfl, _, _, _, _, true, rfl, .ty _, .base (.str _), kit_ty (by decide +kernel), true, rfl, iteT ?_⟩
      refine ⟨_, rfl, _, _, _, _, true, rfl, .ty _, .base (.str _), kit_ty (by decide +kernel), true, rfl, iteT ?_⟩
      refine ⟨_, rfl, _, rfl, .str z, .str z, .str _, .str _, (Fl.str (n := 0) hz).sh (by decide), (Fl.str (n := 0) hz).sh (by decide), ?_⟩
      have : PyData.eqv (.str z) (.str z) = true := by rw [PyData.eqv]; exact decide_eq_true rfl
      rw [this]
      exact k
    · have len := Paired.length pr
      refine ⟨_, rfl, _, _, _, _, true, rfl, .ty _, ty_sqT hy, kit_ty (by decide +kernel), true, rfl, iteT ?_⟩
      refine ⟨_, rfl, _, _, _, _, true, rfl, .ty _, ty_sqT hx, kit_ty (by decide +kernel), true, rfl, iteF ?_⟩
      refine ⟨_, rfl, p, xs, rfl, .inr hx, _, rfl, q, ys, rfl, .inr hy, rfl, _, rfl, ?_⟩
      refine iteN (by simp [len]) ?_
      refine ⟨_, rfl, q, ys, rfl, .inr hy, _, rfl, by omega, by omega, ?_⟩
      refine for_it walk_range (fun j σ' H' => ∃ c2, σ' = [some (.ref p), some (.ref q), c2] ∧ H' = H) ?_ (fun _ _ _ _ _ => trivial) ?_ ?_
      · exact ⟨none, rfl, rfl⟩
      · rintro j _ _ H3 _ hj ⟨c2, rfl, rfl⟩ ⟨rfl, rfl⟩
        have hjl : j < ys.length := by omega
        obtain ⟨x, hxj⟩ : ∃ x, xs[j]? = some x := ⟨_, List.getElem?_eq_getElem (by omega)⟩
        obtain ⟨y, hyj, hxy⟩ := paired_get pr hxj
        have e0 : ((0 : Int) + (j : Int)).toNat = j := by omega
        refine ⟨_, rfl, _, rfl, p, _, _, x, rfl, rfl, hx, atI_int (by omega) (by omega) (by rw [e0]; exact hxj), _, rfl, _, rfl, q, _, _, y, rfl, rfl, hy, atI_int (by omega) (by omega) (by rw [e0]; exact hyj), x, y, rfl, hxy, true, rfl, iteF ?_⟩
        exact ⟨_, rfl, rfl⟩
      · rintro _ H3 ⟨c2, rfl, rfl⟩
        exact k
theorem c__law_exact (T : Txt K mg a) : Cl P w K mg base 7 "_law_exact" P__law_exact (sp__law_exact K 6) [] := c__law_exactN T 6
end
end K33

set_option Elab.async false
set_option linter.all false
set_option maxRecDepth 100000
set_option maxHeartbeats 4000000
namespace K33
open PySem PySem.Spec PyProof.Rows L2 Ew
section
variable {K : PySem.W.Frag} {H : Hp} {u v : V} {s : Spot} {x : Rat} {c : Spot × Rat} {T : Tm} {n : Nat}
theorem Ex.int {i : Int} : Ex K H (n + 1) (.int i) (.int i) := .inl ⟨i, rfl, rfl⟩
theorem ex_sp (h : Spt H u s) (k : Spt H v s) (sok : PyData.strOk s.1 = true) : Ex K H (n + 2) u v := by
  obtain ⟨p, rfl, hp⟩ := h
  obtain ⟨q, rfl, hq⟩ := k
  exact .inr (.inr ⟨p, q, _, _, rfl, rfl, SqT.of hp, SqT.of hq, by show 3 ≤ 1000; decide, .cons (.inr (.inl ⟨_, rfl, rfl, sok⟩)) (.cons Ex.int (.cons Ex.int .nil))⟩)
theorem ex_rq (h : Rq K H u x) (k : Rq K H v x) : Ex K H (n + 2) u v := by
  obtain ⟨p, rfl, hp⟩ := h
  obtain ⟨q, rfl, hq⟩ := k
  exact .inr (.inr ⟨p, q, _, _, rfl, rfl, hp, hq, by show 2 ≤ 1000; decide, .cons Ex.int (.cons Ex.int .nil)⟩)
theorem ex_pr (h : PrQ K H u c) (k : PrQ K H v c) (sok : PyData.strOk c.1.1 = true) : Ex K H (n + 3) u v := by
  obtain ⟨p, a, b, rfl, hp, h1, h2⟩ := h
  obtain ⟨q, a', b', rfl, hq, k1, k2⟩ := k
  exact .inr (.inr ⟨p, q, _, _, rfl, rfl, hp, hq, by show 2 ≤ 1000; decide, .cons (ex_sp h1 k1 sok) (.cons (ex_rq h2 k2) .nil)⟩)
theorem ex_prs : ∀ {xs ys : List V} {T : Tm}, Paired (PrQ K H) xs T → Paired (PrQ K H) ys T → SokT T → Paired (Ex K H (n + 3)) xs ys
  | _, _, _, .nil, .nil, _ => .nil
  | _, _, _, .cons h t, .cons k u, s => .cons (ex_pr h k (s _ List.mem_cons_self)) (ex_prs t u fun c hc => s c (List.mem_cons_of_mem _ hc))
theorem ex_tm (h : TmV K H u T) (k : TmV K H v T) (sok : SokT T) (l : T.length ≤ 1000) : Ex K H (n + 4) u v := by
  obtain ⟨p, xs, rfl, hp, h1⟩ := h
  obtain ⟨q, ys, rfl, hq, k1⟩ := k
  exact .inr (.inr ⟨p, q, _, _, rfl, rfl, hp, hq, by rw [Paired.length h1]; exact l, ex_prs h1 k1 sok⟩)
theorem ex_pl (h : PlV K H u T x) (k : PlV K H v T x) (sok : SokT T) (l : T.length ≤ 1000) : Ex K H (n + 5) u v := by
  obtain ⟨p, a, b, rfl, hp, h1, h2⟩ := h
  obtain ⟨q, a', b', rfl, hq, k1, k2⟩ := k
  exact .inr (.inr ⟨p, q, _, _, rfl, rfl, hp, hq, by show 2 ≤ 1000; decide, .cons (ex_tm h1 k1 sok l) (.cons (ex_rq h2 k2) .nil)⟩)
end
section
variable {P : Program} {w : World} {K : PySem.W.Frag} {mg : Str → Option Value} {base : Heap} {a : Ad}
def sp__law_is (K : PySem.W.Frag) (a : Ad) : Sp := fun vs H Q _ => ∃ (u v : V) (T : Tm) (x : Rat), vs = [u, v] ∧ FmV K a.Form H u T x ∧ PlV K H v T x ∧ SokT T ∧ T.length ≤ 900 ∧ ∀ H', Same H H' → Q (.bl true) H'
theorem c__law_is (T : Txt K mg a) : Cl P w K mg base 8 "_law_is" P__law_is (sp__law_is K a) [] :=
  T.d__law_is.cl sc__law_is (fun vs H Q E h => by obtain ⟨u, v, T, x, rfl, _⟩ := h; rfl) fun f cdv A outer s H vs Q E hr h => by
    obtain ⟨u, v, T1, x, rfl, hu, hv, sok, len, k⟩ := h
    refine ⟨_, ((pss_cons (ps_if (PW.pt (pw_or (pt_not (pt_val (pe_callB call_isi (by rfl) T.n_isinstance (by decide +kernel) (pa_cons (pv 0) (pa_cons (pe_glob (v := .ref a.Form) rfl T.g_Form rfl) pa_nil))))) (pw_or1 (pt_not (pt_val (pe_f (c__law_exact T) (takes_of rfl rfl rfl rfl) hr (by decide) rfl (pa_cons (pe_mf0 (m_Form_plain T) hr (by decide) (pv 0)) (pa_cons (pv 1) pa_nil))))))))
 (pss_one (ps_ret pe_bl))
 pss_nil)
 (pss_one (ps_ret (pe_and (pe_f (c__law_exact T) (takes_of rfl rfl rfl rfl) hr (by decide) rfl (pa_cons (pe_fld (pv 0) rfl) (pa_cons (pe_ix ix_tup (pv 1) pe_int (fun _ _ => rfl)) pa_nil))) (pe_one (pe_f (c__law_exact T) (takes_of rfl rfl rfl rfl) hr (by decide) rfl (pa_cons (pe_fld (pv 0) rfl) (pa_cons (pe_ix ix_tup (pv 1) pe_int (fun _ _ => rfl)) pa_nil))))))))), ?_⟩
    refine ⟨_, rfl, _, _, _, _, true, rfl, .own _, hu.ty T, kit_same, true, rfl, iteF ?_⟩
    obtain ⟨o1, dx1, t1, r1, rfl, h1, h2, h3⟩ := id hu
    obtain ⟨p2, t2, r2, rfl, g1, g2, g3⟩ := id hv
    refine ⟨_, rfl, o1, dx1, _, rfl, h1, rfl, _, T1, x, rfl, hu, fun H1 z1 e1 p1 => ?_⟩
    refine ⟨_, rfl, z1, _, rfl, ex_pl (n := 1) p1 (hv.ts (Same.ts e1)) sok (by omega), true, rfl, iteF ?_⟩
    refine ⟨_, rfl, o1, a.Form, dx1, _, _, rfl, e1 _ _ h1, T.fki.cl, T.fnT, rfl, _, rfl, p2, _, _, _, rfl, rfl, upT e1 g1, at0, _, _, rfl, ex_tm (n := 2) (h2.ts (Same.ts e1)) (g2.ts (Same.ts e1)) sok (by omega), true, rfl, iteT ?_⟩
    exact ⟨_, rfl, o1, a.Form, dx1, _, _, rfl, e1 _ _ h1, T.fki.cl, T.fnR, rfl, _, rfl, p2, _, _, _, rfl, rfl, upT e1 g1, at1, _, _, rfl, ex_rq (n := 4) (h3.of e1) (g3.of e1), k H1 e1⟩
def sp__law_alike (K : PySem.W.Frag) (a : Ad) : Sp := fun vs H Q _ => ∃ (u v : V) (T1 T2 : Tm) (x1 x2 : Rat) (d : Bool), vs = [u, v, .bl d] ∧ FmV K a.Form H u T1 x1 ∧ FmV K a.Form H v T2 x2 ∧ SokT T1 ∧ SokT T2 ∧ d = decide (T1 = T2 ∧ x1 = x2) ∧ Q (.bl true) H
theorem c__law_alike (T : Txt K mg a) : Cl P w K mg base 2 "_law_alike" P__law_alike (sp__law_alike K a) [] :=
  T.d__law_alike.cl sc__law_alike (fun vs H Q E h => by obtain ⟨u, v, T1, T2, x1, x2, d, rfl, _⟩ := h; rfl) fun f cdv A outer s H vs Q E hr h => by
    obtain ⟨u, v, T1, T2, x1, x2, d, rfl, hu, hv, s1, s2, hd, k⟩ := h
    refine ⟨_, ((pss_cons (ps_set (i := 3) sc__law_alike.nd rfl (Or.inl rfl) (pe_cmp (pc_eqC (o_Form_eq T) T.fnf (takes_of rfl rfl rfl rfl) hr (by decide) (pv 0) (pv 1)) rfl))
 (pss_one (ps_ret (pe_and (pe_callB call_isi (by rfl) T.n_isinstance (by decide +kernel) (pa_cons (pv 3) (pa_cons (pe_bltn (v := .ty "bool") (by rfl) T.n_bool (by decide +kernel) rfl) pa_nil))) (pe_one (pe_cmpR (op_eqD hr.units) (pv 3) (pv 2) (nomark _)))))))), ?_⟩
    obtain ⟨o1, dx1, fs1, rfl, h1, l1⟩ := hu.ref
    obtain ⟨o2, dx2, fs2, rfl, h2, l2⟩ := hv.ref
    refine ⟨_, rfl, _, rfl, o1, dx1, fs1, rfl, h1, .inr (.inr (.inr (.inr ⟨o2, rfl, .inl ⟨_, _, h2⟩⟩))), _, _, T1, x1, rfl, hu, s1, .inl ⟨T2, x2, hv, s2, ?_⟩⟩
    rw [← hd]
    refine gn ?_
    refine ⟨_, rfl, _, _, _, _, true, rfl, .ty _, .base (.bl _), kit_ty (by decide +kernel), true, rfl, iteT ?_⟩
    refine ⟨_, rfl, _, rfl, .bool d, .bool d, .bl _, .bl _, by cases d <;> rfl, by cases d <;> rfl, ?_⟩
    have : PyData.eqv (.bool d) (.bool d) = true := by cases d <;> rfl
    rw [this]
    exact k
def sp__law_ground : Sp := fun vs H Q _ => vs = [] ∧ ∀ p, H p = none → Q (.ref p) (upd H p (.tup (spV ground)))
theorem c__law_ground (T : Txt K mg a) : Cl P w K mg base 1 "_law_ground" P__law_ground sp__law_ground [] :=
  T.d__law_ground.cl sc__law_ground (fun vs H Q E h => by obtain ⟨rfl, _⟩ := h; rfl) fun f cdv A outer s H vs Q E hr h => by
    obtain ⟨rfl, k⟩ := h
    exact ⟨_, ((pss_one (ps_ret (pe_tup (pa_cons pe_str (pa_cons pe_int (pa_cons pe_int pa_nil))))))), by show 3 ≤ sizeLine; decide, fun p hp => k p hp⟩
end
end K33

set_option Elab.async false
set_option linter.all false
set_option maxRecDepth 100000
set_option maxHeartbeats 4000000
namespace K33
open PySem PySem.Spec PyProof.Rows L2 Ew
theorem paired_nz {R : V → Spot × Rat → Prop} {C : Tm} {ys : List V} (h : Paired (fun y i => ∃ c, C[i]? = some c ∧ R y c) ys ((List.range C.length).filter (nzQ C))) : Paired R ys (C.filter fun c => decide (c.2 ≠ 0)) := by
  have : ∀ {ys : List V} {is : List Nat}, Paired (fun y i => ∃ c, C[i]? = some c ∧ R y c) ys is → ∃ cs : Tm, is.map (fun i => C[i]?) = cs.map some ∧ Paired R ys cs := by
    intro ys is h
    induction h with
    | nil => exact ⟨[], rfl, .nil⟩
    | cons h t ih =>
      obtain ⟨c, h1, h2⟩ := h
      obtain ⟨cs, e, p⟩ := ih
      exact ⟨c :: cs, by rw [List.map_cons, List.map_cons, h1, e], .cons h2 p⟩
  obtain ⟨cs, e, p⟩ := this h
  rw [nz_row] at e
  have ecs : C.filter (fun c => decide (c.2 ≠ 0)) = cs := List.map_inj_right (fun _ _ => Option.some.inj) |>.mp e
  rw [ecs]
  exact p
theorem KvQ.keys {K : PySem.W.Frag} {H : Hp} {kvs : List (List Key × V)} {D : Tm} (h : KvQ K H kvs D) : kvs.map (·.1) = (keysQ D).map spK := by
  unfold keysQ
  induction h with
  | nil => rfl
  | cons h t ih => rw [List.map_cons, List.map_cons, List.map_cons, ih, h.1]
section
variable {P : Program} {w : World} {K : PySem.W.Frag} {mg : Str → Option Value} {base : Heap} {a : Ad}
def sp__law_added (K : PySem.W.Frag) : Sp := fun vs H Q _ => ∃ (D qs : Addr) (v : V) (kvs : List (List Key × V)) (Tb : Tm) (s : Spot) (x : Rat), vs = [.ref D, .ref qs, v] ∧ H D = some (.dT kvs) ∧ KvQ K H kvs Tb ∧ kvs.length < 999 ∧ H qs = some (.tup (spV s)) ∧ PyData.strOk s.1 = true ∧ Rq K H v x ∧ (s ≠ ground → Fn 2000 (tv Tb s)) ∧ Fn 2000 x ∧
  ∀ H' kvs', SameX D H H' → H' D = some (.dT kvs') → KvQ K H' kvs' (if s = ground then Tb else addQ Tb (s, x)) → kvs'.length ≤ kvs.length + 1 → Q (.ref D) H'
theorem c__law_added (T : Txt K mg a) : Cl P w K mg base 4 "_law_added" P__law_added (sp__law_added K) [] :=
  T.d__law_added.cl sc__law_added (fun vs H Q E h => by obtain ⟨D, qs, v, kvs, Tb, s, x, rfl, _⟩ := h; rfl) fun f cdv A outer s H vs Q E hr h => by
    obtain ⟨D, qs, v, kvs, Tb, sp, x, rfl, hD, kv, kl, hs, sok, hx, f1, f2, k⟩ := h
    refine ⟨_, ((pss_cons (ps_if (pt_cmpR (op_neD hr.units) (pv 1) (pe_f0 (c__law_ground T) hr (by decide) rfl) (nomark _))
 (pss_one (ps_dput (hu_of hr) (pv 0) (pv 1) (pe_f (c__law_plus T) (takes_of rfl rfl rfl rfl) hr (by decide) rfl (pa_cons (pe_dget2 (hu_of hr) (pv 0) (pv 1) (pe_tup (pa_cons pe_int (pa_cons pe_int pa_nil))) (by exact ⟨by rfl, by rfl, by rfl, by rfl⟩)) (pa_cons (pv 2) pa_nil))) rfl))
 pss_nil)
 (pss_one (ps_ret (pv 0))))), ?_⟩
    refine ⟨_, rfl, rfl, fun t ht => ?_⟩
    have e1 := same_new (o := .tup (spV ground)) ht
    have ht1 : (upd H t (.tup (spV ground))) t = some (.tup (spV ground)) := upd_same
    generalize upd H t (.tup (spV ground)) = H1 at e1 ht1
    refine ⟨spD sp, spD ground, dp_sp (SqT.of (e1 _ _ hs)), dp_sp (SqT.of ht1), (fl_sp sok).sh (by decide), (fl_sp (by decide +kernel)).sh (by decide), _, rfl, ?_⟩
    rw [eqv_sp]
    by_cases eg : sp = ground
    · rw [decide_eq_true eg]
      rw [if_pos eg] at k
      exact iteF ⟨_, rfl, k H1 kvs (fun p o _ e => e1 p o e) (e1 _ _ hD) (kv.ts (Same.ts e1)) (Nat.le_succ _)⟩
    · rw [decide_eq_false eg]
      rw [if_neg eg] at k
      refine iteT (put_plus rfl rfl rfl (e1 _ _ hD) (kv.ts (Same.ts e1)) (by omega) (e1 _ _ hs) (hx.of e1) (f1 eg) f2 fun H' kvs' sx hD' kv' kl' => ?_)
      exact ⟨_, rfl, k H' kvs' (fun p o n e => sx p o n (e1 p o e)) hD' kv' kl'⟩
def sp__law_plain_of (K : PySem.W.Frag) : Sp := fun vs H Q _ => ∃ (r : Addr) (n : V) (xs : List V) (L : Tm) (x : Rat), vs = [.ref r, n] ∧ SqL K H r xs ∧ Paired (PrQ K H) xs L ∧ L.length ≤ 900 ∧ OkT L ∧ Rq K H n x ∧
  ∀ H' z T, Same H H' → IsPf T (tot (ngQ L)) → PlV K H' z T x → Q z H'
theorem c__law_plain_of (T : Txt K mg a) : Cl P w K mg base 5 "_law_plain_of" P__law_plain_of (sp__law_plain_of K) [] :=
  T.d__law_plain_of.cl sc__law_plain_of (fun vs H Q E h => by obtain ⟨r, n, xs, L, x, rfl, _⟩ := h; rfl) fun f cdv A outer s H vs Q E hr h => by
    obtain ⟨r, n, xs, L, x, rfl, hr', pr, len, ok, hx, k⟩ := h
    refine ⟨_, ((pss_cons (ps_set (i := 2) sc__law_plain_of.nd rfl (Or.inr rfl) pe_dnewT)
 (pss_cons (ps_for (passes_of rfl) rfl (pi_list (pv 0)) (pg_tup rfl (pgs_cons (pg_name (i := 3) sc__law_plain_of.nd rfl (Or.inl rfl)) (pgs_cons (pg_name (i := 4) sc__law_plain_of.nd rfl (Or.inl rfl)) pgs_nil)))
 (pss_one (ps_set (i := 2) sc__law_plain_of.nd rfl (Or.inr rfl) (pe_f (c__law_added T) (takes_of rfl rfl rfl rfl) hr (by decide) rfl (pa_cons (pv 2) (pa_cons (pv 3) (pa_cons (pv 4) pa_nil)))))))
 (pss_one (ps_ret (pe_tup (pa_cons (pe_callTy call_tuple_of (by rfl) T.n_tuple (by decide +kernel) (pa_cons (pe_lc (own := [("_law_spot", 3)]) (g := (gName 3)) (by rfl) sc__law_plain_of.nd (pi_list (pe_callB (call_sortD rfl hr.units) (by rfl) T.n_sorted (by decide +kernel) (pa_cons (pv 2) pa_nil))) (blkOk_by (own := [("_law_spot", 3)]) (N := N__law_plain_of) (sc := defScope s__law_plain_of) (by decide +kernel)) (fun _ _ _ _ _ => (pg_name (i := 3) sc__law_plain_of.nd rfl (Or.inl rfl) (hf := .inr rfl))) (fun _ _ _ _ _ => (pts_one (pt_cmpR op_ne (pe_ix (r := rIxT K) ix_tup (pe_dget (hu_of hr) (pv 2) (pv 3) (fun _ _ => rfl)) pe_int (fun _ _ => rfl)) pe_int (nomark _)))) (fun _ _ _ _ _ => (pe_tup (pa_cons (pv 3) (pa_cons (pe_dget (hu_of hr) (pv 2) (pv 3) (fun _ _ => rfl)) pa_nil))))) pa_nil)) (pa_cons (pv 1) pa_nil)))))))), ?_⟩
    refine fun D hD => ?_
    have sD := same_new hD (o := .dT [])
    have hD1 : (upd H D (.dT [])) D = some (.dT []) := upd_same
    generalize upd H D (.dT []) = H1 at sD hD1
    have lx := Paired.length pr
    refine ⟨_, rfl, r, rfl, ⟨_, upL sD hr'⟩, ?_⟩
    refine for_it (walk_list (a := r) (xs := xs)) (fun j σ' H' => ∃ kvs c3 c4, σ' = [some (.ref r), some n, some (.ref D), c3, c4] ∧ Same H H' ∧ H' D = some (.dT kvs) ∧ KvQ K H' kvs (sumQ (ngQ (L.take j))) ∧ kvs.length ≤ j) ?_ ?_ ?_ ?_
    · exact ⟨[], none, none, rfl, sD, hD1, .nil, Nat.le_refl _⟩
    · rintro j σ' H' _ ⟨kvs, c3, c4, _, e, _⟩
      exact upL e hr'
    · rintro j v _ Hj Hk hj ⟨kvs, c3, c4, rfl, e3, hDk, kv, kl⟩ ⟨eH, hv⟩
      subst eH
      obtain ⟨c, hc, q, u', w', rfl, hq, ⟨qs, rfl, hqs⟩, hw⟩ := paired_get pr hv
      have hm : c ∈ L := List.mem_of_getElem? hc
      refine ⟨q, _, rfl, upT e3 hq, rfl, _, _, rfl, _, _, rfl, rfl, ?_⟩
      refine ⟨_, rfl, _, rfl, _, rfl, D, qs, w', kvs, sumQ (ngQ (L.take j)), c.1, c.2, rfl, hDk, kv, by omega, e3 _ _ hqs, ok.sok c hm, hw.of e3, fun ng => ?_, ok.one c hm, fun H' kvs' sx hD' kv' kl' => ?_⟩
      · rw [tv_sum, tot_ng, if_neg ng]
        exact ok.sum j _
      · refine ⟨kvs', _, _, rfl, sx.same e3 hD, hD', ?_, by omega⟩
        have tk : L.take (j + 1) = L.take j ++ [c] := by rw [List.take_add_one, hc]; rfl
        rw [tk]
        by_cases eg : c.1 = ground
        · rw [if_pos eg] at kv'
          rw [ng_snoc_out eg]
          exact kv'
        · rw [if_neg eg] at kv'
          rw [ng_snoc_in eg, sumQ_snoc]
          exact kv'
    · rintro _ H3 ⟨kvs, c3, c4, rfl, e3, hD3, kv, kl⟩
      rw [List.take_of_length_le (by omega)] at kv
      generalize eDq : sumQ (ngQ L) = Dq at kv
      have nd : (keysQ Dq).Nodup := by rw [← eDq]; exact sum_nodup.1
      have ek := kv.keys
      refine ⟨_, rfl, D, kvs, rfl, hD3, ?_, ?_, fun p2 bs hp2 ik => ?_⟩
      · have : kvs.map (fun c => keyP c.1) = (keysQ Dq).map fun s => keyP (spK s) := by
          have : kvs.map (fun c => keyP c.1) = (kvs.map (·.1)).map keyP := by rw [List.map_map]; rfl
          rw [this, ek, List.map_map]
          rfl
        rw [this]
        intro x hx y hy
        obtain ⟨s, _, rfl⟩ := List.mem_map.mp hx
        obtain ⟨t, _, rfl⟩ := List.mem_map.mp hy
        exact alike_sp s t
      · have : kvs.map (fun c => keyP c.1) = (keysQ Dq).map fun s => keyP (spK s) := by
          have : kvs.map (fun c => keyP c.1) = (kvs.map (·.1)).map keyP := by rw [List.map_map]; rfl
          rw [this, ek, List.map_map]
          rfl
        rw [this]
        refine .inl fun x hx => ?_
        obtain ⟨s, _, rfl⟩ := List.mem_map.mp hx
        exact ⟨_, _, rfl⟩
      obtain ⟨k1, k2, k3⟩ := keys_alike ik
      generalize (kvs.map (·.1)).zip bs = ps at k1 k2 k3 ⊢
      have ndp : (ps.map (·.1)).Nodup := by
        rw [k1, ek]
        exact List.pairwise_map.mpr (nd.imp fun {a b} z e => z (spK_inj e))
      have sp : ∀ q ∈ ps, ∃ s, q.1 = spK s := fun q hq => by
        have : q.1 ∈ ps.map (·.1) := List.mem_map.mpr ⟨q, hq, rfl⟩
        rw [k1, ek] at this
        obtain ⟨s, _, e⟩ := List.mem_map.mp this
        exact ⟨s, e.symm⟩
      obtain ⟨S, eS, so, mS⟩ := srt_spots sp ndp
      have mS2 : ∀ s, s ∈ S ↔ s ∈ keysQ Dq := fun s => by
        rw [mS, k1, ek]
        exact ⟨fun z => by
          obtain ⟨t, h1, h2⟩ := List.mem_map.mp z
          rwa [← spK_inj h2], fun z => List.mem_map.mpr ⟨s, z, rfl⟩⟩
      have lS : (srt ps).length = S.length := by rw [← List.length_map (f := (·.1)), eS, List.length_map]
      have lp : S.length ≤ 1000 := by
        rw [← lS]
        unfold srt
        rw [List.length_mergeSort]
        have : ps.length = kvs.length := by rw [← List.length_map (f := (·.1)), k1, List.length_map]
        omega
      have s2 : Same H (upd H3 p2 (.lst (refsOf (srt ps)))) := e3.trans (same_new hp2)
      have h2p : (upd H3 p2 (.lst (refsOf (srt ps)))) p2 = some (.lst (refsOf (srt ps))) := upd_same
      have t12 : Same H3 (upd H3 p2 (.lst (refsOf (srt ps)))) := same_new hp2
      generalize upd H3 p2 (.lst (refsOf (srt ps))) = H2 at s2 h2p t12
      have xl : (refsOf (srt ps)).length = S.length := by unfold refsOf; rw [List.length_map, lS]
      obtain ⟨C, eC⟩ : ∃ C : Tm, C = S.map fun s => (s, tv Dq s) := ⟨_, rfl⟩
      have lC : C.length = (refsOf (srt ps)).length := by rw [eC, List.length_map, xl]
      refine ⟨p2, rfl, ⟨_, SqL.of h2p⟩, fun D2 hD2 => ?_⟩
      refine lcH (walk_list (xs := refsOf (srt ps))) (nzQ C) (Same.refl H2) hD2 (fun i H y => ∃ c, C[i]? = some c ∧ PrQ K H y c) (fun i H H' y e z => by
        obtain ⟨c, h1, h2⟩ := z
        exact ⟨c, h1, h2.ts e⟩) (by omega) (fun F' H' e1 e2 e3 => upL e3 (SqL.of h2p)) ?_ ?_
      · rintro i v F' _ H' Kt Kn hi s3 ⟨eH, hv⟩ ky kn
        subst eH
        unfold refsOf at hv
        rw [List.getElem?_map] at hv
        obtain ⟨q, hq, rfl⟩ := Option.map_eq_some_iff.mp hv
        have hqp : q ∈ ps := (List.mergeSort_perm _ _).mem_iff.mp (List.mem_of_getElem? hq)
        obtain ⟨sp1, hs1, e1⟩ : ∃ s, S[i]? = some s ∧ q.1 = spK s := by
          have : ((srt ps).map (·.1))[i]? = some q.1 := by rw [List.getElem?_map, hq]; rfl
          rw [eS, List.getElem?_map] at this
          obtain ⟨s, h1, h2⟩ := Option.map_eq_some_iff.mp this
          exact ⟨s, h1, h2.symm⟩
        have same : Same H3 H' := t12.trans s3.same
        have hqH : H' q.2 = some (.tup (spV sp1)) := by
          have := same _ _ (k3 q hqp)
          rw [e1] at this
          exact this
        obtain ⟨w', g1, g2, g3⟩ : ∃ w', valV kvs (spK sp1) = some w' ∧ sp1 ∈ keysQ Dq ∧ Rq K H3 w' (tv Dq sp1) := by
          rcases kv.get sp1 with ⟨_, n⟩ | z
          · exact absurd ((mS2 sp1).mp (List.mem_of_getElem? hs1)) n
          · exact z
        have dg : ∀ {G : Hp}, Same H' G → DGet G D (.ref q.2) (some w') := fun e => .inr ⟨kvs, spK sp1, q.2, .inl (e _ _ (same _ _ hD3)), rfl, e _ _ hqH, g1.symm⟩
        have hc : C[i]? = some (sp1, tv Dq sp1) := by rw [eC, List.getElem?_map, hs1]; rfl
        obtain ⟨pw, rfl, hpw⟩ := g3.of same
        unfold nzQ at ky kn
        rw [hc] at ky kn
        dsimp only at ky kn
        refine ⟨rfl, ?_⟩
        refine ⟨_, rfl, _, rfl, D, _, rfl, dg (Same.refl _), pw, _, _, _, rfl, rfl, hpw, at0, rfl, _, rfl, ?_⟩
        by_cases z : tv Dq sp1 = 0
        · have e0 : (!decide (V.int (K33.nd (tv Dq sp1)).1 = V.int 0)) = false := by rw [z]; rfl
          rw [e0]
          refine iteF (kn ?_ F' H' (.refl s3.fh))
          rw [z]
          rfl
        · have e0 : (!decide (V.int (K33.nd (tv Dq sp1)).1 = V.int 0)) = true := by
            rw [decide_eq_false]
            · rfl
            · intro y
              exact z (Rat.num_eq_zero.mp (V.int.inj y))
          rw [e0]
          refine iteT ⟨_, rfl, _, rfl, _, rfl, D, _, rfl, dg (Same.refl _), by show 2 ≤ sizeLine; decide, fun t ht => ?_⟩
          refine ky (by simpa using z) _ _ _ (stp_new s3.fh ht) ⟨(sp1, tv Dq sp1), rfl, t, _, _, rfl, sq_new, ⟨q.2, rfl, tup_ts (TS.new ht) hqH⟩, ⟨pw, rfl, sqT_ts (TS.new ht) hpw⟩⟩
      · intro F4 H4 zs s4 hD4 pr4
        rw [← lC] at pr4
        have pr5 := paired_nz pr4
        refine ⟨D2, zs, rfl, .inl ⟨SqL.of (s4.fh _ _ hD4), fun l hl => ?_⟩⟩
        have e5 : Same H (upd H4 l (.tup zs)) := s2.trans (s4.same.trans (same_new hl))
        have t5 := TS.new (o := .tup zs) hl
        have l5 : (upd H4 l (.tup zs)) l = some (.tup zs) := upd_same
        generalize upd H4 l (.tup zs) = H5 at e5 t5 l5
        refine ⟨_, rfl, by show 2 ≤ sizeLine; decide, fun z hz => ?_⟩
        refine k _ _ (C.filter fun c => decide (c.2 ≠ 0)) (e5.trans (same_new hz)) ⟨?_, fun c => ?_⟩ ⟨z, .ref l, n, rfl, sq_new, ⟨l, zs, rfl, SqT.of (tup_ts (TS.new hz) l5), Paired.mapP pr5 fun _ _ y => (y.ts t5).ts (TS.new hz)⟩, (hx.of e5).ts (TS.new hz)⟩
        · have : keysQ C = S := by rw [eC]; unfold keysQ; rw [List.map_map]; exact List.map_id S
          unfold Srt keysQ
          refine List.Pairwise.sublist ((List.filter_sublist).map _) ?_
          show Srt (keysQ C)
          rw [this]
          exact so
        · have ef : tot (ngQ L) = tv Dq := funext fun s => by rw [← eDq, tv_sum]
          rw [ef, List.mem_filter, eC, List.mem_map]
          constructor
          · rintro ⟨⟨s, hs, rfl⟩, h2⟩
            exact ⟨rfl, by simpa using h2⟩
          · rintro ⟨h1, h2⟩
            refine ⟨⟨c.1, (mS2 _).mpr (Classical.byContradiction fun n => h2 (h1.trans (tv_out n))), by rw [← h1]⟩, by simpa using h2⟩
end
end K33

set_option Elab.async false
set_option linter.all false
set_option maxRecDepth 100000
set_option maxHeartbeats 4000000
namespace K33
open PySem PySem.Spec PyProof.Rows L2 Ew
theorem stp_keep {F H H' : Hp} (h : Same F H) (e : Same H H') : Stp F H F H' := ⟨Same.refl _, h.trans e, fun a o _ z => e a o z, fun a n _ => n⟩
/-- a row of two forms' terms -/
theorem okT_two {S : List Spot} {k : Nat} {T1 T2 : Tm} (n1 : (keysQ T1).Nodup) (n2 : (keysQ T2).Nodup) (s1 : SokT T1) (s2 : SokT T2) (f1 : ∀ c ∈ T1, Fn k c.2) (f2 : ∀ c ∈ T2, Fn k c.2) (k1 : 1 ≤ k) (k2 : k ≤ 990) : OkT (T1 ++ T2) := by
  refine ⟨fun c hc => ?_, fun c hc => ?_, fun n s => ?_⟩
  · rcases List.mem_append.mp hc with z | z
    · exact s1 c z
    · exact s2 c z
  · rcases List.mem_append.mp hc with z | z
    · exact (f1 c z).mono (by omega)
    · exact (f2 c z).mono (by omega)
  · rw [List.take_append, tot_app]
    exact ((tot_take n1 f1 k1 _ _).plus (tot_take n2 f2 k1 _ _)).mono (by omega)
theorem ng_app {L M : Tm} : ngQ (L ++ M) = ngQ L ++ ngQ M := by unfold ngQ; rw [List.filter_append]
theorem ng_scl {T : Tm} {y : Rat} (h : ngQ T = T) : ngQ (sclQ T y) = sclQ T y := by
  unfold ngQ at *
  rw [List.filter_eq_self] at *
  intro c hc
  obtain ⟨d, hd, rfl⟩ := List.mem_map.mp hc
  exact h d hd
theorem sok_scl {T : Tm} {y : Rat} (h : SokT T) : SokT (sclQ T y) := fun c hc => by
  obtain ⟨d, hd, rfl⟩ := List.mem_map.mp hc
  exact h d hd
theorem fn_scl {T : Tm} {y : Rat} {k l : Nat} (h : ∀ c ∈ T, Fn k c.2) (fy : Fn l y) : ∀ c ∈ sclQ T y, Fn (k + l) c.2 := fun c hc => by
  obtain ⟨d, hd, rfl⟩ := List.mem_map.mp hc
  exact (h d hd).times fy
section
variable {P : Program} {w : World} {K : PySem.W.Frag} {mg : Str → Option Value} {base : Heap} {a : Ad}
def sp__law_summed (K : PySem.W.Frag) : Sp := fun vs H Q _ => ∃ (u v : V) (g : Int) (y : Rat) (T1 T2 : Tm) (x1 x2 : Rat) (S : List Spot) (k : Nat), vs = [u, v, .int g] ∧ nd y = (g, 1) ∧ Fn 1 y ∧ PlV K H u T1 x1 ∧ PlV K H v T2 x2 ∧ OkF S k T1 ∧ OkF S k T2 ∧ OkS S ∧ S.length ≤ 400 ∧ 1 ≤ k ∧ k ≤ 980 ∧ Fn 1900 x1 ∧ Fn 1900 x2 ∧
  ∀ H' z T, Same H H' → IsPf T (fun s => tv T1 s + tv T2 s * y) → PlV K H' z T (x1 + x2 * y) → Q z H'
theorem c__law_summed (T : Txt K mg a) : Cl P w K mg base 6 "_law_summed" P__law_summed (sp__law_summed K) [] :=
  T.d__law_summed.cl sc__law_summed (fun vs H Q E h => by obtain ⟨u, v, g, y, T1, T2, x1, x2, S, k, rfl, _⟩ := h; rfl) fun f cdv A outer s H vs Q E hr h => by
    obtain ⟨u, v, g, y, T1, T2, x1, x2, S, k, rfl, hg, fy, hu, hv, ok1, ok2, hS, lS, k1, k2, fx1, fx2, go⟩ := h
    obtain ⟨p1, t1, r1, xs1, q1, rfl, a1, b1, c1, d1, e1⟩ := hu.at0
    obtain ⟨p2, t2, r2, xs2, q2, rfl, a2, b2, c2, d2, e2⟩ := hv.at0
    refine ⟨_, ((pss_cons (ps_set (i := 3) sc__law_summed.nd rfl (Or.inl rfl) (pe_op op_cat (pe_callTy call_list_of (by rfl) T.n_list (by decide +kernel) (pa_cons (pe_ix ix_tup (pv 0) pe_int (fun _ _ => rfl)) pa_nil)) (pe_lc (own := [("_law_pair", 4)]) (g := (gName 4)) (by rfl) sc__law_summed.nd (pi_tup (pe_ix ix_tup (pv 1) pe_int (fun _ _ => rfl))) (blkOk_by (own := [("_law_pair", 4)]) (N := N__law_summed) (sc := defScope s__law_summed) (by decide +kernel)) (fun _ _ _ _ _ => (pg_name (i := 4) sc__law_summed.nd rfl (Or.inl rfl) (hf := .inr rfl))) (fun _ _ _ _ _ => pts_nil) (fun _ _ _ _ _ => (pe_tup (pa_cons (pe_ix (r := rIxT K) ix_tup (pv 4) pe_int (fun _ _ => rfl)) (pa_cons (pe_f (c__law_times T) takes0 hr (by decide) rfl (pa_cons (pe_ix (r := rIxT K) ix_tup (pv 4) pe_int (fun _ _ => rfl)) (pa_cons (pe_tup (pa_cons (pv 2) (pa_cons pe_int pa_nil))) pa_nil))) pa_nil)))))))
 (pss_one (ps_ret (pe_f (c__law_plain_of T) (takes_of rfl rfl rfl rfl) hr (by decide) rfl (pa_cons (pv 3) (pa_cons (pe_f (c__law_plus T) (takes_of rfl rfl rfl rfl) hr (by decide) rfl (pa_cons (pe_ix ix_tup (pv 0) pe_int (fun _ _ => rfl)) (pa_cons (pe_f (c__law_times T) (takes_of rfl rfl rfl rfl) hr (by decide) rfl (pa_cons (pe_ix ix_tup (pv 1) pe_int (fun _ _ => rfl)) (pa_cons (pe_tup (pa_cons (pv 2) (pa_cons pe_int pa_nil))) pa_nil))) pa_nil))) pa_nil))))))), ?_⟩
    have lx1 := Paired.length c1
    have lx2 := Paired.length c2
    have len1 := ok1.len
    have len2 := ok2.len
    refine ⟨_, rfl, p1, _, _, _, rfl, rfl, a1, at0, ?_⟩
    refine ⟨t1, xs1, rfl, .inr b1, fun q3 hq3 => ?_⟩
    have e3 := same_new (o := .lst xs1) hq3
    have h3 : (upd H q3 (.lst xs1)) q3 = some (.lst xs1) := upd_same
    generalize upd H q3 (.lst xs1) = H1 at e3 h3
    refine ⟨_, rfl, p2, _, _, _, rfl, rfl, upT e3 a2, at0, t2, rfl, ⟨_, upT e3 b2⟩, fun D hD => ?_⟩
    refine lcH (walk_tup (a := t2) (xs := xs2)) (fun _ => true) (Same.refl H1) hD (fun i H z => ∃ c, (sclQ T2 y)[i]? = some c ∧ PrQ K H z c) (fun i H H' z e h => by
      obtain ⟨c, h1, h2⟩ := h
      exact ⟨c, h1, h2.ts e⟩) (by omega) (fun F' H' _ _ e4 => upT e4 (upT e3 b2)) ?_ ?_
    · rintro i v' F' _ H' Kt Kn hi s3 ⟨eH, hv⟩ ky kn
      subst eH
      have same := e3.trans s3.same
      obtain ⟨c, hc, q, u', w', rfl, hq, ⟨qs, rfl, hqs⟩, hw⟩ := paired_get c2 hv
      refine ⟨rfl, lc_yes ⟨_, rfl, q, _, _, _, rfl, rfl, upT same hq, at0, _, rfl, q, _, _, _, rfl, rfl, upT same hq, at1, _, rfl, by show 2 ≤ sizeLine; decide, fun t ht => ?_⟩⟩
      have e5 := same_new (o := .tup [.int g, .int 1]) ht
      have h5 : Rq K (upd H' t (.tup [.int g, .int 1])) (.ref t) y := ⟨t, rfl, by rw [hg]; exact sq_new⟩
      generalize upd H' t (.tup [.int g, .int 1]) = H5 at e5 h5
      refine two_times (F := H5) (E := E) (hw.of (same.trans e5)) h5 ((ok2.mono (by omega)).fn c (List.mem_of_getElem? hc)) (fy.mono (by decide)) (Same.refl _) fun F2 H2 z st hz => ?_
      refine ⟨by show 2 ≤ sizeLine; decide, fun t' ht' => ?_⟩
      have e6 : Same H' (upd H2 t' (.tup [.ref qs, z])) := e5.trans (st.same.trans (same_new ht'))
      refine ky rfl _ F' _ (stp_keep s3.fh e6) ⟨(c.1, c.2 * y), by unfold sclQ; rw [List.getElem?_map, hc]; rfl, t', _, _, rfl, sq_new, ⟨qs, rfl, e6 _ _ (same _ _ hqs)⟩, (hz.of st.fh).ts (TS.new ht')⟩
    · intro F3 H3 zs s3 hD3 pr3
      have lsc : (sclQ T2 y).length = xs2.length := by unfold sclQ; rw [List.length_map]; omega
      rw [← lsc] at pr3
      have pr4 := paired_all pr3
      have lz := Paired.length pr4
      have e4 := e3.trans s3.same
      refine ⟨q3, D, xs1, zs, rfl, rfl, s3.same _ _ h3, s3.fh _ _ hD3, by rw [sizeLine_eq]; omega, fun l hl => ?_⟩
      have e5 : Same H (upd H3 l (.lst (xs1 ++ zs))) := e4.trans (same_new hl)
      have e35 : Same H3 (upd H3 l (.lst (xs1 ++ zs))) := same_new hl
      have h5 : SqL K (upd H3 l (.lst (xs1 ++ zs))) l (xs1 ++ zs) := SqL.of upd_same
      generalize upd H3 l (.lst (xs1 ++ zs)) = H5 at e5 e35 h5
      refine ⟨_, rfl, _, rfl, p1, _, _, _, rfl, rfl, upT e5 a1, at1, _, rfl, p2, _, _, _, rfl, rfl, upT e5 a2, at1, _, rfl, by show 2 ≤ sizeLine; decide, fun t ht => ?_⟩
      have e6 := same_new (o := .tup [.int g, .int 1]) ht
      have h6 : Rq K (upd H5 t (.tup [.int g, .int 1])) (.ref t) y := ⟨t, rfl, by rw [hg]; exact sq_new⟩
      generalize upd H5 t (.tup [.int g, .int 1]) = H6 at e6 h6
      refine two_times (F := H6) (E := E) (e2.of (e5.trans e6)) h6 (fx2.mono (by decide)) (fy.mono (by decide)) (Same.refl _) fun F7 H7 z7 s7 hz7 => ?_
      refine two_plus (F := H7) (E := E) (e1.of (e5.trans (e6.trans s7.same))) (hz7.of s7.fh) (fx1.mono (by decide)) ((fx2.times fy).mono (by decide)) (Same.refl _) fun F8 H8 z8 s8 hz8 => ?_
      have e58 : Same H5 H8 := e6.trans (s7.same.trans s8.same)
      refine ⟨l, z8, xs1 ++ zs, T1 ++ sclQ T2 y, x1 + x2 * y, rfl, upL e58 h5, Paired.app (Paired.mapP c1 fun _ _ z => z.up (e5.trans e58)) (Paired.mapP pr4 fun _ _ z => z.up (e35.trans e58)), by rw [List.length_append, lsc]; omega, ?_, hz8.of s8.fh, fun H9 z9 T9 e9 pf pl => go H9 z9 T9 (e5.trans (e58.trans e9)) ?_ pl⟩
      · exact okT_two (S := S) (k := k + 1) ok1.pf.nodup (by rw [keys_scl]; exact ok2.pf.nodup) (ok1.sok hS) (sok_scl (ok2.sok hS)) (ok1.mono (Nat.le_succ k)).fn (fn_scl ok2.fn fy) (by omega) (by omega)
      · have : (fun s => tv T1 s + tv T2 s * y) = tot (ngQ (T1 ++ sclQ T2 y)) := funext fun s => by
          rw [ng_app, tot_app, ok1.ng hS, ng_scl (ok2.ng hS), tot_nodup ok1.pf.nodup, tot_nodup (by rw [keys_scl]; exact ok2.pf.nodup), tv_scl]
        rw [this]
        exact pf
def sp__law_multiplied (K : PySem.W.Frag) : Sp := fun vs H Q _ => ∃ (u v : V) (y : Rat) (T1 : Tm) (x1 : Rat) (S : List Spot) (k l : Nat), vs = [u, v] ∧ Rq K H v y ∧ Fn l y ∧ PlV K H u T1 x1 ∧ OkF S k T1 ∧ OkS S ∧ S.length ≤ 400 ∧ 1 ≤ k ∧ k + l ≤ 2000 ∧ Fn 2000 x1 ∧ l ≤ 2000 ∧
  ∀ H' z T, Same H H' → IsPf T (fun s => tv T1 s * y) → PlV K H' z T (x1 * y) → Q z H'
theorem c__law_multiplied (T : Txt K mg a) : Cl P w K mg base 6 "_law_multiplied" P__law_multiplied (sp__law_multiplied K) [] :=
  T.d__law_multiplied.cl sc__law_multiplied (fun vs H Q E h => by obtain ⟨u, v, y, T1, x1, S, k, l, rfl, _⟩ := h; rfl) fun f cdv A outer s H vs Q E hr h => by
    obtain ⟨u, v, y, T1, x1, S, k, l, rfl, hy, fy, hu, ok1, hS, lS, k1, kl, fx1, l2, go⟩ := h
    obtain ⟨p1, t1, r1, xs1, q1, rfl, a1, b1, c1, d1, e1⟩ := hu.at0
    refine ⟨_, ((pss_cons (ps_setLc (i := 2) (own := [("_law_pair", 3)]) (g := (gName 3)) (by rfl) sc__law_multiplied.nd rfl rfl (sw_true rfl rfl rfl (by decide +kernel)) (pi_tup (pe_ix ix_tup (pv 0) pe_int (fun _ _ => rfl))) (blkOk_by (own := [("_law_pair", 3)]) (N := N__law_multiplied) (sc := defScope s__law_multiplied) (by decide +kernel)) (fun _ _ _ _ _ => (pg_name (i := 3) sc__law_multiplied.nd rfl (Or.inl rfl) (hf := .inr rfl))) (fun _ _ _ _ _ => pts_nil) (fun _ _ _ _ _ => (pe_tup (pa_cons (pe_ix (r := rIxT K) ix_tup (pv 3) pe_int (fun _ _ => rfl)) (pa_cons (pe_f (c__law_times T) takes0 hr (by decide) rfl (pa_cons (pe_ix (r := rIxT K) ix_tup (pv 3) pe_int (fun _ _ => rfl)) (pa_cons (pv 1) pa_nil))) pa_nil)))))
 (pss_one (ps_ret (pe_f (c__law_plain_of T) (takes_of rfl rfl rfl rfl) hr (by decide) rfl (pa_cons (pv 2) (pa_cons (pe_f (c__law_times T) (takes_of rfl rfl rfl rfl) hr (by decide) rfl (pa_cons (pe_ix ix_tup (pv 0) pe_int (fun _ _ => rfl)) (pa_cons (pv 1) pa_nil))) pa_nil))))))), ?_⟩
    have lx1 := Paired.length c1
    have len1 := ok1.len
    refine ⟨_, rfl, p1, _, _, _, rfl, rfl, a1, at0, t1, rfl, ⟨_, b1⟩, fun D hD => ?_⟩
    refine lcH (walk_tup (a := t1) (xs := xs1)) (fun _ => true) (Same.refl H) hD (fun i H z => ∃ c, (sclQ T1 y)[i]? = some c ∧ PrQ K H z c) (fun i H H' z e h => by
      obtain ⟨c, h1, h2⟩ := h
      exact ⟨c, h1, h2.ts e⟩) (by omega) (fun F' H' _ _ e3 => upT e3 b1) ?_ ?_
    · rintro i v' F' _ H' Kt Kn hi s3 ⟨eH, hv⟩ ky kn
      subst eH
      have same := s3.same
      obtain ⟨c, hc, q, u', w', rfl, hq, ⟨qs, rfl, hqs⟩, hw⟩ := paired_get c1 hv
      refine ⟨rfl, lc_yes ⟨_, rfl, q, _, _, _, rfl, rfl, upT same hq, at0, _, rfl, q, _, _, _, rfl, rfl, upT same hq, at1, _, rfl, ?_⟩⟩
      refine two_times (F := H') (E := E) (hw.of same) (hy.of same) ((ok1.mono (by omega)).fn c (List.mem_of_getElem? hc)) (fy.mono l2) (Same.refl _) fun F2 H2 z st hz => ?_
      refine ⟨by show 2 ≤ sizeLine; decide, fun t ht => ?_⟩
      have e6 : Same H' (upd H2 t (.tup [.ref qs, z])) := st.same.trans (same_new ht)
      exact ky rfl _ F' _ (stp_keep s3.fh e6) ⟨(c.1, c.2 * y), by unfold sclQ; rw [List.getElem?_map, hc]; rfl, t, _, _, rfl, sq_new, ⟨qs, rfl, e6 _ _ (same _ _ hqs)⟩, (hz.of st.fh).ts (TS.new ht)⟩
    · intro F3 H3 zs s3 hD3 pr3
      have lsc : (sclQ T1 y).length = xs1.length := by unfold sclQ; rw [List.length_map]; omega
      rw [← lsc] at pr3
      have pr4 := paired_all pr3
      have e5 := s3.same
      refine ⟨_, rfl, _, rfl, p1, _, _, _, rfl, rfl, upT e5 a1, at1, _, rfl, ?_⟩
      refine two_times (F := H3) (E := E) (e1.of e5) (hy.of e5) fx1 (fy.mono l2) (Same.refl _) fun F7 H7 z7 s7 hz7 => ?_
      refine ⟨D, z7, zs, sclQ T1 y, x1 * y, rfl, SqL.of (s7.same _ _ (s3.fh _ _ hD3)), Paired.mapP pr4 fun _ _ z => z.up s7.same, by omega, ?_, hz7.of s7.fh, fun H9 z9 T9 e9 pf pl => go H9 z9 T9 (e5.trans (s7.same.trans e9)) ?_ pl⟩
      · refine ⟨sok_scl (ok1.sok hS), fun c hc => (fn_scl ok1.fn fy c hc).mono kl, fun n s => ?_⟩
        exact (tot_take (by rw [keys_scl]; exact ok1.pf.nodup) (fn_scl ok1.fn fy) (by omega) n s).mono kl
      · have : (fun s => tv T1 s * y) = tot (ngQ (sclQ T1 y)) := funext fun s => by
          rw [ng_scl (ok1.ng hS), tot_nodup (by rw [keys_scl]; exact ok1.pf.nodup), tv_scl]
        rw [this]
        exact pf
end
end K33

set_option Elab.async false
set_option linter.all false
set_option maxRecDepth 100000
set_option maxHeartbeats 4000000
namespace K33
open PySem PySem.Spec PyProof.Rows L2 Ew
section
variable {P : Program} {w : World} {K : PySem.W.Frag} {mg : Str → Option Value} {base : Heap} {a : Ad}
def sp__law_plain_value (K : PySem.W.Frag) : Sp := fun vs H Q _ => ∃ (D : Addr) (u : V) (kvs : List (List Key × V)) (T L : Tm) (x : Rat) (kf kw : Nat), vs = [.ref D, u] ∧ H D = some (.dT kvs) ∧ KvQ K H kvs L ∧ PlV K H u T x ∧ VlOk T L x ∧ (∀ c ∈ T, Fn kf c.2) ∧ (∀ c ∈ L, Fn kw c.2) ∧ 1 ≤ kw ∧ T.length ≤ 900 ∧ kf + kw ≤ 2000 ∧
  (∀ c ∈ T, c.1 ∈ keysQ L) ∧ ∀ H' z, Same H H' → Rq K H' z (vlQ L x T) → Q z H'
theorem c__law_plain_value (T : Txt K mg a) : Cl P w K mg base 4 "_law_plain_value" P__law_plain_value (sp__law_plain_value K) [] :=
  T.d__law_plain_value.cl sc__law_plain_value (fun vs H Q E h => by obtain ⟨D, u, kvs, T, L, x, kf, kw, rfl, _⟩ := h; rfl) fun f cdv A outer s H vs Q E hr h => by
    obtain ⟨D, u, kvs, T1, L, x, kf, kw, rfl, hD, kv, hu, fx, f1, f2, w1, len, kk, there, go⟩ := h
    obtain ⟨p1, t1, r1, xs1, q1, rfl, a1, b1, c1, d1, e1⟩ := hu.at0
    refine ⟨_, ((pss_cons (ps_set (i := 2) sc__law_plain_value.nd rfl (Or.inl rfl) (pe_ix ix_tup (pv 1) pe_int (fun _ _ => rfl)))
 (pss_cons (ps_for (passes_of rfl) rfl (pi_tup (pe_ix ix_tup (pv 1) pe_int (fun _ _ => rfl))) (pg_tup rfl (pgs_cons (pg_name (i := 3) sc__law_plain_value.nd rfl (Or.inl rfl)) (pgs_cons (pg_name (i := 4) sc__law_plain_value.nd rfl (Or.inl rfl)) pgs_nil)))
 (pss_cons (ps_set (i := 5) sc__law_plain_value.nd rfl (Or.inl rfl) (pe_ifExp (pt_val (pe_f (c__law_integer T) (takes_of rfl rfl rfl rfl) hr (by decide) rfl (pa_cons (pe_dget (hu_of hr) (pv 0) (pv 3) (fun _ _ => rfl)) pa_nil))) (pe_tup (pa_cons (pe_dget (hu_of hr) (pv 0) (pv 3) (fun _ _ => rfl)) (pa_cons pe_int pa_nil))) (pe_dget (hu_of hr) (pv 0) (pv 3) (fun _ _ => rfl))))
 (pss_one (ps_set (i := 2) sc__law_plain_value.nd rfl (Or.inl rfl) (pe_f (c__law_plus T) (takes_of rfl rfl rfl rfl) hr (by decide) rfl (pa_cons (pv 2) (pa_cons (pe_f (c__law_times T) (takes_of rfl rfl rfl rfl) hr (by decide) rfl (pa_cons (pv 4) (pa_cons (pv 5) pa_nil))) pa_nil)))))))
 (pss_one (ps_ret (pv 2)))))), ?_⟩
    have lx1 := Paired.length c1
    refine ⟨_, rfl, p1, _, _, _, rfl, rfl, a1, at1, ?_⟩
    refine ⟨_, rfl, p1, _, _, _, rfl, rfl, a1, at0, t1, rfl, ⟨_, b1⟩, ?_⟩
    refine for_it (walk_tup (a := t1) (xs := xs1)) (fun j σ' H' => ∃ u c3 c4 c5, σ' = [some (.ref D), some (.ref p1), some u, c3, c4, c5] ∧ Same H H' ∧ Rq K H' u (vlQ L x (T1.take j))) ?_ ?_ ?_ ?_
    · exact ⟨_, none, none, none, rfl, Same.refl _, e1⟩
    · rintro j σ' H' _ ⟨u, c3, c4, c5, _, e, _⟩
      exact upT e b1
    · rintro j v' _ Hj Hk hj ⟨u, c3, c4, c5, rfl, e3, hu⟩ ⟨eH, hv'⟩
      subst eH
      obtain ⟨c, hc, q, u', w', rfl, hq, ⟨qs, rfl, hqs⟩, hwq⟩ := paired_get c1 hv'
      have hm : c ∈ T1 := List.mem_of_getElem? hc
      refine ⟨q, _, rfl, upT e3 hq, rfl, _, _, rfl, _, _, rfl, rfl, ?_⟩
      obtain ⟨wv, g1, g2, g3⟩ : ∃ wv, valV kvs (spK c.1) = some wv ∧ c.1 ∈ keysQ L ∧ Rq K H wv (tv L c.1) := by
        rcases kv.get c.1 with ⟨_, n⟩ | z
        · exact absurd (there c hm) n
        · exact z
      have dg : DGet Hk D (.ref qs) (some wv) := .inr ⟨kvs, spK c.1, qs, .inl (e3 _ _ hD), rfl, e3 _ _ hqs, g1.symm⟩
      obtain ⟨pw, rfl, hpw⟩ := g3.of e3
      refine ⟨_, rfl, _, rfl, D, _, rfl, dg, _, rfl, .inr ⟨.inr ⟨_, ty_sqT hpw, kit_ty (by decide +kernel)⟩, false, rfl, iteF ⟨_, rfl, _, rfl, D, _, rfl, dg, ?_⟩⟩⟩
      have fc := f1 c hm
      have fw := tv_fn f2 w1 c.1
      have ft : Fn 2000 (vlQ L x (T1.take j)) := fx j
      have lj : (T1.take j).length + 1 ≤ T1.length := by rw [List.length_take]; omega
      have mulj : ((T1.take j).length + 1) * (kf + kw + 1) ≤ T1.length * (kf + kw + 1) := Nat.mul_le_mul_right _ lj
      rw [Nat.succ_mul] at mulj
      refine gn ?_
      refine ⟨_, rfl, _, rfl, _, rfl, ?_⟩
      refine two_times (F := Hk) (E := E) (hwq.of e3) ⟨pw, rfl, hpw⟩ (fc.mono (by omega)) (fw.mono (by omega)) (Same.refl _) fun F' H' z2 st hz2 => ?_
      refine two_plus (F := H') (E := E) (hu.of st.same) (hz2.of st.fh) (ft.mono (by omega)) ((fc.times fw).mono (by omega)) (Same.refl _) fun F2 H2 z3 st2 hz3 => ?_
      have tk : T1.take (j + 1) = T1.take j ++ [c] := by rw [List.take_add_one, hc]; rfl
      refine ⟨z3, _, _, _, rfl, e3.trans (st.same.trans st2.same), ?_⟩
      rw [tk]
      unfold vlQ
      rw [List.foldl_append]
      exact hz3.of st2.fh
    · rintro _ H3 ⟨u, c3, c4, c5, rfl, e3, hu⟩
      rw [List.take_of_length_le (by omega)] at hu
      exact ⟨_, rfl, go _ _ e3 hu⟩
def sp__law_lacking (K : PySem.W.Frag) (a : Ad) : Sp := fun vs H Q _ => ∃ (u wv : V) (T L : Tm) (x : Rat) (kf kw j : Nat) (c : Spot × Rat), vs = [u, wv] ∧ FmV K a.Form H u T x ∧ WdQ K a.World H wv L ∧ VlOk T L x ∧ (∀ c ∈ T, Fn kf c.2) ∧ (∀ c ∈ L, Fn kw c.2) ∧ 1 ≤ kw ∧ T.length ≤ 900 ∧ kf + kw ≤ 2000 ∧
  T[j]? = some c ∧ (∀ d ∈ T, d.1 ≠ c.1 → d.1 ∈ keysQ L) ∧ c.1 ∉ keysQ L ∧ (keysQ T).Nodup ∧ ∀ H' v, Same H H' → Spt H' v c.1 → Q v H'
theorem c__law_lacking (T : Txt K mg a) : Cl P w K mg base 7 "_law_lacking" P__law_lacking (sp__law_lacking K a) [] :=
  T.d__law_lacking.cl sc__law_lacking (fun vs H Q E h => by obtain ⟨u, wv, T, L, x, kf, kw, j, c, rfl, _⟩ := h; rfl) fun f cdv A outer s H vs Q E hr h => by
    obtain ⟨u, wv, T1, L, x, kf, kw, j, c, rfl, hu, hw, f0, f1, f2, w1, len, kk, hc, th, nin, nd, go⟩ := h
    refine ⟨_, ((pss_cons (ps_tryN rfl rfl sc__law_lacking.nd (takes_of rfl rfl rfl rfl)
 (fun W pn xe tk tkp => (pss_one (ps_expr (pe_callI (k_Form T) tk hr (by decide) (pv 0) (pa_cons (pv 1) pa_nil)))))
 (.nm (i := 2) rfl rfl ⟨rfl, by decide, .inl T.g_NoSpot⟩ (fun xa oe cls d pn hz hf => (pss_one (ps_ret (pe_xf T.xf_NoSpot T.no_NoSpot_spot hz hf (pv 2))))) (.pl ⟨rfl, by decide, .inl T.g_EllError⟩ (fun xa oe cls d pn hz hf => (pss_one (ps_ret pe_non))) .nil)))
 (pss_one (ps_ret pe_non)))), ?_⟩
    obtain ⟨o1, dx1, fs1, rfl, h1, l1⟩ := hu.ref
    refine ⟨_, rfl, o1, rfl, _, rfl, ⟨_, _, h1⟩, .ref o1, wv, T1, L, x, kf, kw, rfl, hu, hw, f0, f1, f2, w1, len, kk, fun hin => ?_, fun i d hd thd ndn H' v dd e hs hdd => ?_⟩
    · exact absurd (hin c (List.mem_of_getElem? hc)) nin
    · have edc : d.1 = c.1 := Classical.byContradiction fun z => ndn (th d (List.mem_of_getElem? hd) z)
      refine ⟨true, T.em_NoSpot, fun _ ea hea => ?_, fun z => nomatch z⟩
      exact ⟨_, rfl, rfl, rfl, dd, _, v, rfl, hdd, rfl, go H' v e (edc ▸ hs)⟩
def sp__law_refused (K : PySem.W.Frag) (a : Ad) : Sp := fun vs H Q _ => ∃ (p : Addr) (r : V) (xs : List V) (L : Tm) (ob : Option Rat), vs = [.ref p, r] ∧ Row K H p xs ∧ xs.length ≤ 900 ∧ BegQ K H xs L ∧ OkT L ∧ (∀ x, xs[L.length]? = some x → WrongF K H x) ∧ ((∃ y, ob = some y ∧ Rq K H r y) ∨ ob = none ∧ NotRt K H r) ∧
  (L.length < xs.length → ∀ H', Same H H' → Q (.int (L.length : Nat)) H') ∧ (L.length = xs.length → ob = none → ∀ H', Same H H' → Q (.int (-1)) H') ∧ (∀ y, L.length = xs.length → ob = some y → ∀ H', Same H H' → Q (.str "none") H')
theorem c__law_refused (T : Txt K mg a) : Cl P w K mg base 8 "_law_refused" P__law_refused (sp__law_refused K a) [] :=
  T.d__law_refused.cl sc__law_refused (fun vs H Q E h => by obtain ⟨p, r, xs, L, ob, rfl, _⟩ := h; rfl) fun f cdv A outer s H vs Q E hr h => by
    obtain ⟨p, r, xs, L, ob, rfl, hp, hl, hb, ok, kw, hob, k1, k2, k3⟩ := h
    refine ⟨_, ((pss_cons (ps_tryN rfl rfl sc__law_refused.nd (takes_of rfl rfl rfl rfl)
 (fun W pn xe tk tkp => (pss_one (ps_expr (pe_mkW (mk_Form T) tk hr (by decide) rfl (pa_cons (pv 0) (pa_cons (pv 1) pa_nil))))))
 (.nm (i := 2) rfl rfl ⟨rfl, by decide, .inl T.g_BadForm⟩ (fun xa oe cls d pn hz hf => (pss_cons (ps_if (PW.pt (pw_or (pt_not (pt_val (pe_callB (call_isErrC T.e_BadForm hz hf) (by rfl) T.n_isinstance (by decide +kernel) (pa_cons (pv 2) (pa_cons (pe_glob (v := .ref a.EllError) rfl T.g_EllError rfl) pa_nil))))) (pw_or (pt_not (pt_val (pe_callB (call_isErrC T.e_BadForm hz hf) (by rfl) T.n_isinstance (by decide +kernel) (pa_cons (pv 2) (pa_cons (pe_bltn (v := .ty "ValueError") (by rfl) T.n_ValueError (by decide +kernel) rfl) pa_nil))))) (pw_or1 (pt_val (pe_callB (call_isErrC T.e_BadForm hz hf) (by rfl) T.n_isinstance (by decide +kernel) (pa_cons (pv 2) (pa_cons (pe_glob (v := .ref a.BadRatio) rfl T.g_BadRatio rfl) pa_nil))))))))
 (pss_one (ps_ret pe_non))
 pss_nil)
 (pss_one (ps_ret (pe_xf T.xf_BadForm T.no_BadForm_place hz hf (pv 2)))))) (.pl ⟨rfl, by decide, .inl T.g_EllError⟩ (fun xa oe cls d pn hz hf => (pss_one (ps_ret pe_non))) .nil)))
 (pss_one (ps_ret pe_str)))), ?_⟩
    have suite : ∀ (n : Int) (d : Addr) (H' : Hp), H' d = some (.xd [("place", .int n)]) → Q (.int n) H' →
        wN K (fun cls d x H => E cls d H) { nx := tRet (tC (.str "none")) { nx := fun x H' => Q .non H', rt := Q }, rt := Q }
          [(.ref a.BadForm, some 2, fun xa cls d => tSeq (tIfS (tOr (tNot (tB (tCB (fun xs H Q => cls = .ref a.BadForm ∧ rIsErr K a.BadForm xa d xs H Q) (tCons (tVar 2) (tCons (tC (.ref a.EllError)) tNil)))))
            (tOr (tNot (tB (tCB (fun xs H Q => cls = .ref a.BadForm ∧ rIsErr K a.BadForm xa d xs H Q) (tCons (tVar 2) (tCons (tC (.ty "ValueError")) tNil)))))
              (tB (tCB (fun xs H Q => cls = .ref a.BadForm ∧ rIsErr K a.BadForm xa d xs H Q) (tCons (tVar 2) (tCons (tC (.ref a.BadRatio)) tNil)))))) (tRet (tC .non)) tNext) (tRet (tXf xa cls d a.BadForm "place" (tVar 2)))),
           (.ref a.EllError, none, fun xa cls d => tRet (tC .non))] (.ref a.BadForm) (some d) (L2.start N__law_refused [.ref p, r]) H' := by
      intro n d H' hd q
      refine ⟨true, T.em_BadForm, fun _ ea hea => ?_, fun z => nomatch z⟩
      refine ⟨_, rfl, rfl, fun d' z => ⟨_, by cases z; exact hd⟩, .inl ⟨_, _, true, rfl, .own _, T.ke_BadForm, true, rfl, iteF ?_⟩⟩
      refine ⟨_, rfl, rfl, fun d' z => ⟨_, by cases z; exact hd⟩, .inl ⟨_, _, true, rfl, .ty _, T.kv_BadForm, true, rfl, iteF ?_⟩⟩
      refine ⟨_, rfl, rfl, fun d' z => ⟨_, by cases z; exact hd⟩, .inl ⟨_, _, false, rfl, .own _, T.kn_BadForm, false, rfl, iteF ?_⟩⟩
      exact ⟨_, rfl, rfl, rfl, d, _, .int n, rfl, hd, rfl, q⟩
    refine ⟨_, rfl, _, rfl, fun o d ho hd ne => mk_fm (a := a) (Q := fun _ H' => Q (.str "none") H') hp hl hb ok kw hob (fun y lx ey H' z T' e fm pf => k3 y lx ey H' e) (fun lx H' d e hd => ?_) (fun lx eo H' d e hd => ?_) o d ho hd ne⟩
    · exact suite _ d H' hd (k1 lx H' e)
    · exact suite _ d H' hd (k2 lx eo H' e)
end
end K33

set_option Elab.async false
set_option linter.all false
set_option maxRecDepth 100000
set_option maxHeartbeats 4000000
namespace K33
open PySem PySem.Spec PyProof.Rows L2 Ew
theorem pf_zero {T : Tm} {f : Spot → Rat} (h : IsPf T f) (z : ∀ s, f s = 0) : T = [] := by
  cases T with
  | nil => rfl
  | cons c T =>
    have := (h.mem c).mp List.mem_cons_self
    exact absurd (this.1.trans (z _)) this.2
theorem nd_oneI : nd 1 = ((1 : Int), 1) := rfl
section
variable {P : Program} {w : World} {K : PySem.W.Frag} {mg : Str → Option Value} {base : Heap} {a : Ad}
theorem pl_empty {H : Hp} {q1 q2 q3 : Addr} (h1 : SqT K H q1 []) (h2 : SqT K H q2 [.int 0, .int 1]) (h3 : SqT K H q3 [.ref q1, .ref q2]) : PlV K H (.ref q3) [] 0 := ⟨q3, _, _, rfl, h3, ⟨q1, [], rfl, h1, .nil⟩, ⟨q2, rfl, h2⟩⟩
theorem pl_eq {H : Hp} {v : V} {T T' : Tm} {x x' : Rat} (h : PlV K H v T' x') (eT : T = T') (ex : x = x') : PlV K H v T x := by
  subst eT ex
  exact h
theorem okF_sub {S : List Spot} {k : Nat} {T1 T2 T : Tm} (h1 : OkF S k T1) (h2 : OkF S k T2) (k1 : 1 ≤ k) (pf : IsPf T (fun s => tv T1 s + tv T2 s * (-1))) : OkF S (k + (k + 1) + 1) T := by
  refine OkF.of pf (fun s hs => ?_) fun s => (h1.tvfn k1 s).plus ((h2.tvfn k1 s).times fn_mone)
  by_cases z : tv T1 s = 0
  · refine h2.tvin fun q => hs ?_
    rw [z, q]
    grind
  · exact h1.tvin z
def sp__law_operators (K : PySem.W.Frag) (a : Ad) : Sp := fun vs H Q _ => ∃ (u v n d0 d1 : V) (l : Addr) (T1 T2 : Tm) (x1 x2 y : Rat) (S : List Spot) (k m : Nat), vs = [u, v, .ref l, n] ∧ FmV K a.Form H u T1 x1 ∧ FmV K a.Form H v T2 x2 ∧ SqL K H l [d0, d1] ∧ PlV K H d0 T1 x1 ∧ PlV K H d1 T2 x2 ∧ Rq K H n y ∧
  OkF S k T1 ∧ OkF S k T2 ∧ OkS S ∧ S.length ≤ 400 ∧ 1 ≤ k ∧ k ≤ 980 ∧ Fn m y ∧ m ≤ 900 ∧ Fn 1900 x1 ∧ Fn 1900 x2 ∧ ∀ H', Same H H' → Q (.bl true) H'
theorem c__law_operators (T : Txt K mg a) : Cl P w K mg base 10 "_law_operators" P__law_operators (sp__law_operators K a) [] :=
  T.d__law_operators.cl sc__law_operators (fun vs H Q E h => by obtain ⟨u, v, n, d0, d1, l, T1, T2, x1, x2, y, S, k, m, rfl, _⟩ := h; rfl) fun f cdv A outer s H vs Q E hr h => by
    obtain ⟨u, v, n, d0, d1, l, T1, T2, x1, x2, y, S, k, m, rfl, hu, hv, hl, hd0, hd1, hn, ok1, ok2, hS, lS, k1, k2, fy, m1, f1, f2, go⟩ := h
    obtain ⟨o1, dx1, fs1, rfl, h1, l1⟩ := hu.ref
    obtain ⟨o2, dx2, fs2, rfl, h2, l2⟩ := hv.ref
    refine ⟨_, ((pss_cons (ps_if (pt_not (pt_val (pe_f (c__law_is T) (takes_of rfl rfl rfl rfl) hr (by decide) rfl (pa_cons (pe_bop (o_Form_add T) (takes_of rfl rfl rfl rfl) hr (by decide) (pv 0) (pv 1)) (pa_cons (pe_f (c__law_summed T) (takes_of rfl rfl rfl rfl) hr (by decide) rfl (pa_cons (pe_ix ix_list (pv 2) pe_int (fun _ _ => rfl)) (pa_cons (pe_ix ix_list (pv 2) pe_int (fun _ _ => rfl)) (pa_cons pe_int pa_nil)))) pa_nil)))))
 (pss_one (ps_ret pe_bl))
 pss_nil)
 (pss_cons (ps_if (pt_not (pt_val (pe_f (c__law_is T) (takes_of rfl rfl rfl rfl) hr (by decide) rfl (pa_cons (pe_bop (o_Form_sub T) (takes_of rfl rfl rfl rfl) hr (by decide) (pv 0) (pv 1)) (pa_cons (pe_f (c__law_summed T) (takes_of rfl rfl rfl rfl) hr (by decide) rfl (pa_cons (pe_ix ix_list (pv 2) pe_int (fun _ _ => rfl)) (pa_cons (pe_ix ix_list (pv 2) pe_int (fun _ _ => rfl)) (pa_cons (pe_un un_neg pe_int) pa_nil)))) pa_nil)))))
 (pss_one (ps_ret pe_bl))
 pss_nil)
 (pss_cons (ps_if (pt_not (pt_val (pe_f (c__law_is T) (takes_of rfl rfl rfl rfl) hr (by decide) rfl (pa_cons (pe_bop (o_Form_sub T) (takes_of rfl rfl rfl rfl) hr (by decide) (pv 1) (pv 0)) (pa_cons (pe_f (c__law_summed T) (takes_of rfl rfl rfl rfl) hr (by decide) rfl (pa_cons (pe_ix ix_list (pv 2) pe_int (fun _ _ => rfl)) (pa_cons (pe_ix ix_list (pv 2) pe_int (fun _ _ => rfl)) (pa_cons (pe_un un_neg pe_int) pa_nil)))) pa_nil)))))
 (pss_one (ps_ret pe_bl))
 pss_nil)
 (pss_cons (ps_if (PW.pt (pw_or (pt_not (pt_val (pe_f (c__law_is T) (takes_of rfl rfl rfl rfl) hr (by decide) rfl (pa_cons (pe_bop (o_Form_sub T) (takes_of rfl rfl rfl rfl) hr (by decide) (pv 0) (pv 0)) (pa_cons (pe_tup (pa_cons (pe_tup pa_nil) (pa_cons (pe_tup (pa_cons pe_int (pa_cons pe_int pa_nil))) pa_nil))) pa_nil))))) (pw_or1 (pt_not (pt_val (pe_f (c__law_is T) (takes_of rfl rfl rfl rfl) hr (by decide) rfl (pa_cons (pe_nop (o_Form_neg T) (takes_of rfl rfl rfl rfl) hr (by decide) (pv 0)) (pa_cons (pe_f (c__law_multiplied T) (takes_of rfl rfl rfl rfl) hr (by decide) rfl (pa_cons (pe_ix ix_list (pv 2) pe_int (fun _ _ => rfl)) (pa_cons (pe_tup (pa_cons (pe_un un_neg pe_int) (pa_cons pe_int pa_nil))) pa_nil))) pa_nil))))))))
 (pss_one (ps_ret pe_bl))
 pss_nil)
 (pss_cons (ps_if (pt_not (pt_val (pe_f (c__law_is T) (takes_of rfl rfl rfl rfl) hr (by decide) rfl (pa_cons (pe_binT (o_Form_mul T) T.ftr (takes_of rfl rfl rfl rfl) hr (by decide) (pv 0) (pv 3)) (pa_cons (pe_f (c__law_multiplied T) (takes_of rfl rfl rfl rfl) hr (by decide) rfl (pa_cons (pe_ix ix_list (pv 2) pe_int (fun _ _ => rfl)) (pa_cons (pv 3) pa_nil))) pa_nil)))))
 (pss_one (ps_ret pe_bl))
 pss_nil)
 (pss_cons (ps_if (pt_not (pt_val (pe_f (c__law_is T) (takes_of rfl rfl rfl rfl) hr (by decide) rfl (pa_cons (pe_binT (o_Form_mul T) T.ftr (takes_of rfl rfl rfl rfl) hr (by decide) (pv 1) (pe_tup (pa_cons pe_int (pa_cons pe_int pa_nil)))) (pa_cons (pe_tup (pa_cons (pe_tup pa_nil) (pa_cons (pe_tup (pa_cons pe_int (pa_cons pe_int pa_nil))) pa_nil))) pa_nil)))))
 (pss_one (ps_ret pe_bl))
 pss_nil)
 (pss_one (ps_ret (pe_and (pe_f (c__law_is T) (takes_of rfl rfl rfl rfl) hr (by decide) rfl (pa_cons (pv 0) (pa_cons (pe_ix ix_list (pv 2) pe_int (fun _ _ => rfl)) pa_nil))) (pe_one (pe_f (c__law_is T) (takes_of rfl rfl rfl rfl) hr (by decide) rfl (pa_cons (pv 1) (pa_cons (pe_ix ix_list (pv 2) pe_int (fun _ _ => rfl)) pa_nil)))))))))))))), ?_⟩
    have len1 := ok1.len
    have len2 := ok2.len
    -- first + second
    refine ⟨_, rfl, _, rfl, o1, o2, dx1, dx2, fs1, fs2, rfl, rfl, h1, h2, _, _, T1, T2, x1, x2, S, k, rfl, hu, hv, ok1, ok2, hS, lS, k1, by omega, f1.mono (by decide), f2.mono (by decide), fun H1 z1 T3 e1 pf3 hz1 => ?_⟩
    refine ⟨_, rfl, l, _, _, _, rfl, rfl, upL e1 hl, at0, _, rfl, l, _, _, _, rfl, rfl, upL e1 hl, at1, d0, d1, 1, 1, T1, T2, x1, x2, S, k, rfl, nd_oneI, fn_one, hd0.ts (Same.ts e1), hd1.ts (Same.ts e1), ok1, ok2, hS, lS, k1, k2, f1, f2, fun H2 z2 T4 e2 pf4 hz2 => ?_⟩
    have ok3 := okF_sum ok1 ok2 k1 pf3
    have lt3 := ok3.len
    refine ⟨z1, z2, T3, x1 + x2, rfl, hz1.up e2, pl_eq hz2 (pf3.uniq pf4 fun s => by grind) (by grind), ok3.sok hS, by omega, fun H3 e3 => ⟨true, rfl, iteF ?_⟩⟩
    have eA := e1.trans (e2.trans e3)
    clear hz1 hz2 pf3 pf4 ok3 lt3 e1 e2 e3
    -- first - second
    refine ⟨_, rfl, _, rfl, o1, o2, dx1, dx2, fs1, fs2, rfl, rfl, eA _ _ h1, eA _ _ h2, _, _, T1, T2, x1, x2, S, k, rfl, hu.up eA, hv.up eA, ok1, ok2, hS, lS, k1, k2, f1, f2, fun H1 z1 T3 e1 pf3 hz1 => ?_⟩
    have eB := eA.trans e1
    refine ⟨_, rfl, l, _, _, _, rfl, rfl, upL eB hl, at0, _, rfl, l, _, _, _, rfl, rfl, upL eB hl, at1, _, rfl, d0, d1, -1, -1, T1, T2, x1, x2, S, k, rfl, nd_mone, fn_mone, hd0.ts (Same.ts eB), hd1.ts (Same.ts eB), ok1, ok2, hS, lS, k1, k2, f1, f2, fun H2 z2 T4 e2 pf4 hz2 => ?_⟩
    have ok3 := okF_sub ok1 ok2 k1 pf3
    have lt3 := ok3.len
    refine ⟨z1, z2, T3, x1 + x2 * -1, rfl, hz1.up e2, pl_eq hz2 (pf3.uniq pf4 fun s => rfl) rfl, ok3.sok hS, by omega, fun H3 e3 => ⟨true, rfl, iteF ?_⟩⟩
    have eC := eB.trans (e2.trans e3)
    clear hz1 hz2 pf3 pf4 ok3 lt3 e1 e2 e3 eB eA
    -- second - first
    refine ⟨_, rfl, _, rfl, o2, o1, dx2, dx1, fs2, fs1, rfl, rfl, eC _ _ h2, eC _ _ h1, _, _, T2, T1, x2, x1, S, k, rfl, hv.up eC, hu.up eC, ok2, ok1, hS, lS, k1, k2, f2, f1, fun H1 z1 T3 e1 pf3 hz1 => ?_⟩
    have eB := eC.trans e1
    refine ⟨_, rfl, l, _, _, _, rfl, rfl, upL eB hl, at1, _, rfl, l, _, _, _, rfl, rfl, upL eB hl, at0, _, rfl, d1, d0, -1, -1, T2, T1, x2, x1, S, k, rfl, nd_mone, fn_mone, hd1.ts (Same.ts eB), hd0.ts (Same.ts eB), ok2, ok1, hS, lS, k1, k2, f2, f1, fun H2 z2 T4 e2 pf4 hz2 => ?_⟩
    have ok3 := okF_sub ok2 ok1 k1 pf3
    have lt3 := ok3.len
    refine ⟨z1, z2, T3, x2 + x1 * -1, rfl, hz1.up e2, pl_eq hz2 (pf3.uniq pf4 fun s => rfl) rfl, ok3.sok hS, by omega, fun H3 e3 => ⟨true, rfl, iteF ?_⟩⟩
    have eD := eB.trans (e2.trans e3)
    clear hz1 hz2 pf3 pf4 ok3 lt3 e1 e2 e3 eB eC
    -- first - first
    refine ⟨_, rfl, _, rfl, o1, o1, dx1, dx1, fs1, fs1, rfl, rfl, eD _ _ h1, eD _ _ h1, _, _, T1, T1, x1, x1, S, k, rfl, hu.up eD, hu.up eD, ok1, ok1, hS, lS, k1, k2, f1, f1, fun H1 z1 T3 e1 pf3 hz1 => ?_⟩
    refine ⟨Nat.zero_le _, fun q1 hq1 => ⟨by show 2 ≤ sizeLine; decide, fun q2 hq2 => ⟨by show 2 ≤ sizeLine; decide, fun q3 hq3 => ?_⟩⟩⟩
    have g1 := same_new (o := .tup []) hq1
    have r1 : SqT K (upd H1 q1 (.tup [])) q1 [] := sq_new
    generalize upd H1 q1 (.tup []) = G1 at *
    have g2 := same_new (o := .tup [.int 0, .int 1]) hq2
    have r2 : SqT K (upd G1 q2 (.tup [.int 0, .int 1])) q2 [.int 0, .int 1] := sq_new
    generalize upd G1 q2 (.tup [.int 0, .int 1]) = G2 at *
    have g3 := same_new (o := .tup [.ref q1, .ref q2]) hq3
    have r3 : SqT K (upd G2 q3 (.tup [.ref q1, .ref q2])) q3 [.ref q1, .ref q2] := sq_new
    generalize upd G2 q3 (.tup [.ref q1, .ref q2]) = G3 at *
    refine ⟨z1, .ref q3, T3, x1 + x1 * -1, rfl, hz1.up (g1.trans (g2.trans g3)), pl_eq (pl_empty (upT (g2.trans g3) r1) (upT g3 r2) r3) (pf_zero pf3 fun s => by grind) (by grind), (okF_sub ok1 ok1 k1 pf3).sok hS, by have := (okF_sub ok1 ok1 k1 pf3).len; omega, fun H3 e3 => ⟨true, rfl, iteF ?_⟩⟩
    have eE := eD.trans (e1.trans (g1.trans (g2.trans (g3.trans e3))))
    clear hz1 pf3 e1 e3 g1 g2 g3 r1 r2 r3 eD hq1 hq2 hq3
    -- -first
    refine ⟨_, rfl, o1, dx1, fs1, rfl, eE _ _ h1, _, T1, x1, S, k, rfl, hu.up eE, ok1, hS, lS, k1, by omega, f1.mono (by decide), fun H1 z1 T3 e1 pf3 hz1 => ?_⟩
    have eB := eE.trans e1
    refine ⟨_, rfl, l, _, _, _, rfl, rfl, upL eB hl, at0, _, rfl, by show 2 ≤ sizeLine; decide, fun t ht => ?_⟩
    have g1 := same_new (o := .tup [.int (-1), .int 1]) ht
    have r1 : Rq K (upd H1 t (.tup [.int (-1), .int 1])) (.ref t) (-1) := mone_rq sq_new
    generalize upd H1 t (.tup [.int (-1), .int 1]) = G1 at *
    refine ⟨d0, .ref t, -1, T1, x1, S, k, 1, rfl, r1, fn_mone, hd0.ts (Same.ts (eB.trans g1)), ok1, hS, lS, k1, by omega, f1.mono (by decide), by decide, fun H2 z2 T4 e2 pf4 hz2 => ?_⟩
    have ok3 := okF_scl ok1 k1 fn_mone pf3
    have lt3 := ok3.len
    refine ⟨z1, z2, T3, x1 * -1, rfl, hz1.up (g1.trans e2), pl_eq hz2 (pf3.uniq pf4 fun s => rfl) rfl, ok3.sok hS, by omega, fun H3 e3 => ⟨true, rfl, iteF ?_⟩⟩
    have eF := eB.trans (g1.trans (e2.trans e3))
    clear hz1 hz2 pf3 pf4 ok3 lt3 e1 e2 e3 eB eE g1 r1 ht
    -- first * number
    obtain ⟨qn, rfl, hqn⟩ := id hn
    refine ⟨_, rfl, _, rfl, o1, qn, dx1, fs1, _, rfl, rfl, eF _ _ h1, upT eF hqn, _, _, T1, x1, y, S, k, m, rfl, hu.up eF, hn.of eF, ok1, hS, lS, k1, fy, by omega, f1.mono (by decide), fun H1 z1 T3 e1 pf3 hz1 => ?_⟩
    have eB := eF.trans e1
    refine ⟨_, rfl, l, _, _, _, rfl, rfl, upL eB hl, at0, _, rfl, d0, _, y, T1, x1, S, k, m, rfl, hn.of eB, fy, hd0.ts (Same.ts eB), ok1, hS, lS, k1, by omega, f1.mono (by decide), by omega, fun H2 z2 T4 e2 pf4 hz2 => ?_⟩
    have ok3 := okF_scl ok1 k1 fy pf3
    have lt3 := ok3.len
    refine ⟨z1, z2, T3, x1 * y, rfl, hz1.up e2, pl_eq hz2 (pf3.uniq pf4 fun s => rfl) rfl, ok3.sok hS, by omega, fun H3 e3 => ⟨true, rfl, iteF ?_⟩⟩
    have eG := eB.trans (e2.trans e3)
    clear hz1 hz2 pf3 pf4 ok3 lt3 e1 e2 e3 eB eF
    -- second * (0, 1)
    refine ⟨_, rfl, by show 2 ≤ sizeLine; decide, fun t ht => ?_⟩
    have g0 := same_new (o := .tup [.int 0, .int 1]) ht
    have r0 : SqT K (upd H3 t (.tup [.int 0, .int 1])) t [.int 0, .int 1] := sq_new
    generalize upd H3 t (.tup [.int 0, .int 1]) = G0 at *
    have eH := eG.trans g0
    refine ⟨o2, t, dx2, fs2, _, rfl, rfl, eH _ _ h2, r0, _, _, T2, x2, 0, S, k, 1, rfl, hv.up eH, ⟨t, rfl, r0⟩, ok2, hS, lS, k1, fn_zero, by omega, f2.mono (by decide), fun H1 z1 T3 e1 pf3 hz1 => ?_⟩
    refine ⟨Nat.zero_le _, fun q1 hq1 => ⟨by show 2 ≤ sizeLine; decide, fun q2 hq2 => ⟨by show 2 ≤ sizeLine; decide, fun q3 hq3 => ?_⟩⟩⟩
    have g1 := same_new (o := .tup []) hq1
    have r1 : SqT K (upd H1 q1 (.tup [])) q1 [] := sq_new
    generalize upd H1 q1 (.tup []) = G1 at *
    have g2 := same_new (o := .tup [.int 0, .int 1]) hq2
    have r2 : SqT K (upd G1 q2 (.tup [.int 0, .int 1])) q2 [.int 0, .int 1] := sq_new
    generalize upd G1 q2 (.tup [.int 0, .int 1]) = G2 at *
    have g3 := same_new (o := .tup [.ref q1, .ref q2]) hq3
    have r3 : SqT K (upd G2 q3 (.tup [.ref q1, .ref q2])) q3 [.ref q1, .ref q2] := sq_new
    generalize upd G2 q3 (.tup [.ref q1, .ref q2]) = G3 at *
    refine ⟨z1, .ref q3, T3, x2 * 0, rfl, hz1.up (g1.trans (g2.trans g3)), pl_eq (pl_empty (upT (g2.trans g3) r1) (upT g3 r2) r3) (pf_zero pf3 fun s => by grind) (by grind), (okF_scl ok2 k1 fn_zero pf3).sok hS, by have := (okF_scl ok2 k1 fn_zero pf3).len; omega, fun H4 e4 => ⟨true, rfl, iteF ?_⟩⟩
    have eI := eH.trans (e1.trans (g1.trans (g2.trans (g3.trans e4))))
    clear hz1 pf3 e1 e4 g0 g1 g2 g3 r0 r1 r2 r3 eG eH hq1 hq2 hq3 ht
    -- the forms as they were
    refine ⟨_, rfl, _, rfl, l, _, _, _, rfl, rfl, upL eI hl, at0, .ref o1, d0, T1, x1, rfl, hu.up eI, hd0.ts (Same.ts eI), ok1.sok hS, by omega, fun H5 e5 => ⟨true, rfl, iteT ?_⟩⟩
    have eJ := eI.trans e5
    exact ⟨_, rfl, _, rfl, l, _, _, _, rfl, rfl, upL eJ hl, at1, .ref o2, d1, T2, x2, rfl, hv.up eJ, hd1.ts (Same.ts eJ), ok2.sok hS, by omega, fun H6 e6 => go H6 (eJ.trans e6)⟩
end
end K33

set_option Elab.async false
set_option linter.all false
set_option maxRecDepth 100000
set_option maxHeartbeats 4000000
namespace K33
open PySem PySem.Spec PyProof.Rows L2 Ew
/-! ### rows of odd things -/
/-- te tells v and changes nothing -/
def Ev (F0 : Hp) (σ : L2.St) (te : TE) (v : V) : Prop := ∀ (H : Hp) (Q : VK), Same F0 H → Q v H → te σ H Q
def EvL (F0 : Hp) (σ : L2.St) (t : TA) (vs : List V) : Prop := ∀ (H : Hp) (Q : List V → Hp → Prop), Same F0 H → Q vs H → t σ H Q
/-- te makes a thing of which P holds -/
def Mk (F0 : Hp) (σ : L2.St) (te : TE) (P : Hp → V → Prop) : Prop := ∀ (F H : Hp) (Q : VK), Same F0 F → Same F H → (∀ F' H' v, Stp F H F' H' → P F' v → Q v H') → te σ H Q
def MkL (F0 : Hp) (σ : L2.St) (t : TA) (n : Nat) (P : Hp → V → Prop) : Prop := ∀ (F H : Hp) (Q : List V → Hp → Prop), Same F0 F → Same F H → (∀ F' H' vs, Stp F H F' H' → vs.length = n → (∀ v ∈ vs, P F' v) → Q vs H') → t σ H Q
/-- what holds later too -/
def Up (P : Hp → V → Prop) : Prop := ∀ F F' v, Same F F' → P F v → P F' v
section
variable {K : PySem.W.Frag} {F0 : Hp} {σ : L2.St} {te ta tb : TE} {ts : TA} {P R : Hp → V → Prop} {v x : V} {xs vs : List V} {p : Addr} {i j : Int} {n : Nat}
theorem Ev.var {k : Nat} (h : σ[k]? = some (some v)) : Ev F0 σ (tVar k) v := fun H Q _ q => ⟨v, h, q⟩
theorem Ev.c : Ev F0 σ (tC v) v := fun H Q _ q => q
theorem Ev.ix (h : Ev F0 σ te (.ref p)) (hs : SqT K F0 p xs) (ha : atI xs i = some v) : Ev F0 σ (tOp (rIxT K) te (tC (.int i))) v := fun H Q e q => h H _ e ⟨p, xs, i, v, rfl, rfl, upT e hs, ha, q⟩
theorem Ev.ixL (h : Ev F0 σ te (.ref p)) (h2 : Ev F0 σ tb (.int i)) (hs : SqL K F0 p xs) (ha : atI xs i = some v) : Ev F0 σ (tOp (rIxL K) te tb) v := fun H Q e q => h H _ e (h2 H _ e ⟨p, xs, i, v, rfl, rfl, upL e hs, ha, q⟩)
theorem Ev.i0 {g : Int → Int → V} (h : Ev F0 σ ta (.int i)) (h2 : Ev F0 σ tb (.int j)) : Ev F0 σ (tOp (rI0 g) ta tb) (g i j) := fun H Q e q => h H _ e (h2 H _ e ⟨i, j, rfl, rfl, q⟩)
theorem Ev.iC {g : Int → Int → V} {C : Int → Int → Prop} (h : Ev F0 σ ta (.int i)) (h2 : Ev F0 σ tb (.int j)) (hc : C i j) : Ev F0 σ (tOp (rI C g) ta tb) (g i j) := fun H Q e q => h H _ e (h2 H _ e ⟨i, j, rfl, rfl, hc, q⟩)
theorem EvL.nil : EvL F0 σ tNil [] := fun H Q _ q => q
theorem EvL.cons (h : Ev F0 σ te v) (t : EvL F0 σ ts vs) : EvL F0 σ (tCons te ts) (v :: vs) := fun H Q e q => h H _ e (t H _ e q)
theorem Mk.ev (h : Ev F0 σ te v) (hp : ∀ F, Same F0 F → P F v) : Mk F0 σ te P := fun F H Q e e1 k => h H Q (e.trans e1) (k F H v (.refl e1) (hp F e))
theorem Mk.tup (h : EvL F0 σ ts xs) (hl : xs.length ≤ 1000) (hp : ∀ F q, Same F0 F → F q = some (.tup xs) → P F (.ref q)) : Mk F0 σ (tTup ts) P := fun F H Q e e1 k =>
  h H _ (e.trans e1) ⟨by rw [sizeLine_eq]; omega, fun q hq => k _ _ _ (stp_new e1 hq) (hp _ q (e.trans (same_new (e1.free hq))) upd_same)⟩
theorem Mk.lst (h : EvL F0 σ ts xs) (hl : xs.length ≤ 1000) (hp : ∀ F q, Same F0 F → F q = some (.lst xs) → P F (.ref q)) : Mk F0 σ (tLst ts) P := fun F H Q e e1 k =>
  h H _ (e.trans e1) ⟨by rw [sizeLine_eq]; omega, fun q hq => k _ _ _ (stp_new e1 hq) (hp _ q (e.trans (same_new (e1.free hq))) upd_same)⟩
theorem Mk.list_of (h : Ev F0 σ te (.ref p)) (hs : SqL K F0 p xs ∨ SqT K F0 p xs) (hp : ∀ F q, Same F0 F → F q = some (.lst xs) → P F (.ref q)) :
    Mk F0 σ (tCB (fun xs H Q => ∃ p ys, xs = [.ref p] ∧ (SqL K H p ys ∨ SqT K H p ys) ∧ ∀ l, H l = none → Q (.ref l) (upd H l (.lst ys))) (tCons te tNil)) P := fun F H Q e e1 k =>
  h H _ (e.trans e1) ⟨p, xs, rfl, hs.imp (upL (e.trans e1)) (upT (e.trans e1)), fun q hq => k _ _ _ (stp_new e1 hq) (hp _ q (e.trans (same_new (e1.free hq))) upd_same)⟩
/-- a tuple joined with a new one -/
theorem Mk.cat (h : Ev F0 σ te (.ref p)) (hs : SqT K F0 p xs) (t : EvL F0 σ ts vs) (n1 : xs ≠ []) (n2 : vs ≠ []) (hl : xs.length + vs.length ≤ 1000) (hp : ∀ F q, Same F0 F → F q = some (.tup (xs ++ vs)) → P F (.ref q)) :
    Mk F0 σ (tOp (rCatT K) te (tTup ts)) P := fun F H Q e e1 k =>
  h H _ (e.trans e1) (t H _ (e.trans e1) ⟨by rw [sizeLine_eq]; omega, fun q hq => ⟨p, q, xs, vs, rfl, rfl, upT (same_new hq) (upT (e.trans e1) hs), sq_new, n1, by rw [sizeLine_eq]; omega, fun z => absurd z n2, fun _ q2 hq2 =>
    k _ _ _ ((stp_new e1 hq).newP hq2) (hp _ q2 (e.trans ((same_new (e1.free hq)).trans (same_new ((stp_new e1 hq).fh.free hq2)))) upd_same)⟩⟩)
theorem MkL.nil : MkL F0 σ tNil 0 P := fun F H Q e e1 k => k F H [] (.refl e1) rfl fun _ z => nomatch z
theorem MkL.cons (up : Up P) (h : Mk F0 σ te P) (t : MkL F0 σ ts n P) : MkL F0 σ (tCons te ts) (n + 1) P := fun F H Q e e1 k =>
  h F H _ e e1 fun F1 H1 v s1 hv => t F1 H1 _ (e.trans s1.ff) s1.fh fun F2 H2 vs s2 hl hvs => k F2 H2 (v :: vs) (s1.transP s2) (by rw [List.length_cons, hl]) fun u hu => by
    rcases List.mem_cons.mp hu with rfl | hu
    · exact up _ _ _ s2.ff hv
    · exact hvs u hu
/-- a tuple of two or three, the last one made -/
theorem Mk.tup1 (h : Mk F0 σ te R) (hp : ∀ F q u, Same F0 F → R F u → F q = some (.tup [u]) → P F (.ref q)) (up : Up R) : Mk F0 σ (tTup (tCons te tNil)) P := fun F H Q e e1 k =>
  h F H _ e e1 fun F1 H1 v s1 hv => ⟨by show 1 ≤ sizeLine; decide, fun q hq => k _ _ _ (s1.newP hq) (hp _ q v (e.trans (s1.ff.trans (same_new (s1.fh.free hq)))) (up _ _ _ (same_new (s1.fh.free hq)) hv) upd_same)⟩
theorem Mk.last (t : Ev F0 σ ta x) (h : Mk F0 σ te R) (hp : ∀ F q u, Same F0 F → R F u → F q = some (.tup [x, u]) → P F (.ref q)) (up : Up R) : Mk F0 σ (tTup (tCons ta (tCons te tNil))) P := fun F H Q e e1 k =>
  t H _ (e.trans e1) (h F H _ e e1 fun F1 H1 v s1 hv => ⟨by show 2 ≤ sizeLine; decide, fun q hq => k _ _ _ (s1.newP hq) (hp _ q v (e.trans (s1.ff.trans (same_new (s1.fh.free hq)))) (up _ _ _ (same_new (s1.fh.free hq)) hv) upd_same)⟩)
theorem Mk.first (h : Mk F0 σ te R) (t : Ev F0 σ ta x) (hp : ∀ F q u, Same F0 F → R F u → F q = some (.tup [u, x]) → P F (.ref q)) (up : Up R) : Mk F0 σ (tTup (tCons te (tCons ta tNil))) P := fun F H Q e e1 k =>
  h F H _ e e1 fun F1 H1 v s1 hv => t H1 _ (e.trans (s1.ff.trans s1.fh)) ⟨by show 2 ≤ sizeLine; decide, fun q hq => k _ _ _ (s1.newP hq) (hp _ q v (e.trans (s1.ff.trans (same_new (s1.fh.free hq)))) (up _ _ _ (same_new (s1.fh.free hq)) hv) upd_same)⟩
theorem Mk.last3 {y : V} (t : Ev F0 σ ta x) (t2 : Ev F0 σ tb y) (h : Mk F0 σ te R) (hp : ∀ F q u, Same F0 F → R F u → F q = some (.tup [x, y, u]) → P F (.ref q)) (up : Up R) : Mk F0 σ (tTup (tCons ta (tCons tb (tCons te tNil)))) P := fun F H Q e e1 k =>
  t H _ (e.trans e1) (t2 H _ (e.trans e1) (h F H _ e e1 fun F1 H1 v s1 hv => ⟨by show 3 ≤ sizeLine; decide, fun q hq => k _ _ _ (s1.newP hq) (hp _ q v (e.trans (s1.ff.trans (same_new (s1.fh.free hq)))) (up _ _ _ (same_new (s1.fh.free hq)) hv) upd_same)⟩))
end
theorem at_nat {xs : List V} {i : Nat} (h : i < xs.length) : atI xs (i : Int) = xs[i]? := by
  have e : ixN xs.length (i : Int) = some i := by
    unfold ixN
    rw [if_pos (by omega), if_pos (by omega)]
    simp
  unfold atI
  rw [e]
  rfl
section
variable {K : PySem.W.Frag} {F0 : Hp} {σ : L2.St} {te ta tb : TE} {ts : TA} {P R : Hp → V → Prop} {v x : V} {xs vs : List V} {p : Addr} {i j : Int} {n : Nat}
theorem Mk.cut2 {x y z : V} (h : Ev F0 σ te (.ref p)) (hs : SqT K F0 p [x, y, z]) (hp : ∀ F q, Same F0 F → F q = some (.tup [x, y]) → P F (.ref q)) : Mk F0 σ (tSl (rSlT K) te tNoPart (tPart (tC (.int 2)))) P := fun F H Q e e1 k =>
  h H _ (e.trans e1) ⟨2, rfl, p, _, rfl, upT (e.trans e1) hs, by show ¬ (HT.sIx 3 0 none = 0 ∧ HT.sIx 3 3 (some 2) = 3); decide, fun q hq => k _ _ _ (stp_new (o := .tup [x, y]) e1 hq) (hp _ q (e.trans (same_new (e1.free hq))) upd_same)⟩
theorem Ev.text {i : Int} (h : Ev F0 σ te (.int i)) (hi : i.natAbs.log2 < 1920) : Ev F0 σ (tCB (fun xs H Q => ∃ i, xs = [.int i] ∧ i.natAbs.log2 < 1920 ∧ Q (.str (Str.ofString (toString i))) H) (tCons te tNil)) (.str (Str.ofString (toString i))) := fun H Q e q => h H _ e ⟨i, rfl, hi, q⟩
theorem Ev.neg {g : Int → V} (h : Ev F0 σ te (.int i)) : Ev F0 σ (tUn (rU g) te) (g i) := fun H Q e q => h H _ e ⟨i, rfl, q⟩
/-- a list of things made -/
theorem MkL.lst {F H : Hp} {Q : VK} (h : MkL F0 σ ts n P) (up : Up P) (hn : n ≤ 1000) (e : Same F0 F) (e1 : Same F H) (k : ∀ F' H' p zs, Stp F H F' H' → F' p = some (.lst zs) → zs.length = n → (∀ v ∈ zs, P F' v) → Q (.ref p) H') : tLst ts σ H Q :=
  h F H _ e e1 fun F1 H1 zs s1 hl hv => ⟨by rw [sizeLine_eq]; omega, fun q hq => k _ _ q zs (s1.newP hq) upd_same hl fun v hv' => up _ _ _ (same_new (s1.fh.free hq)) (hv v hv')⟩
/-- a list joined with a new one -/
theorem MkL.cat {F H : Hp} {Q : VK} {k0 m : Nat} {p : Addr} {zs : List V} (h0 : σ[k0]? = some (some (.ref p))) (hp : F p = some (.lst zs)) (hz : zs.length = m) (all : ∀ v ∈ zs, P F v) (h : MkL F0 σ ts n P) (up : Up P) (hn : m + n ≤ 1000) (e : Same F0 F) (e1 : Same F H)
    (k : ∀ F' H' p zs, Stp F H F' H' → F' p = some (.lst zs) → zs.length = m + n → (∀ v ∈ zs, P F' v) → Q (.ref p) H') : tOp rCat (tVar k0) (tLst ts) σ H Q :=
  ⟨_, h0, MkL.lst h up (by omega) e e1 fun F1 H1 q ws s1 hq hl hw => ⟨p, q, zs, ws, rfl, rfl, s1.fh _ _ (s1.ff _ _ hp), s1.fh _ _ hq, by rw [sizeLine_eq]; omega, fun r hr => k _ _ r (zs ++ ws) (s1.newP hr) upd_same (by rw [List.length_append]; omega) fun v hv => by
    refine up _ _ _ (same_new (s1.fh.free hr)) ?_
    rcases List.mem_append.mp hv with hv | hv
    · exact up _ _ _ s1.ff (all v hv)
    · exact hw v hv⟩⟩
theorem up_notSp : Up (NotSp K) := fun _ _ _ e h => h.up e
theorem up_notRt : Up (NotRt K) := fun _ _ _ e h => h.up e
end
theorem no_two (n d : Int) : ¬ Low (2 * n, 2 * d) := fun z => by
  have h := z.2
  dsimp only at h
  rw [Int.natAbs_mul, Int.natAbs_mul, Nat.gcd_mul_left] at h
  have : (2 : Int).natAbs = 2 := rfl
  rw [this] at h
  omega
theorem int_item {ns : List Int} {i : Nat} {x : V} (h : (ns.map V.int)[i]? = some x) : ∃ d, ns[i]? = some d ∧ x = V.int d := by
  rw [List.getElem?_map, Option.map_eq_some_iff] at h
  obtain ⟨d, h1, h2⟩ := h
  exact ⟨d, h1, h2.symm⟩
section
variable {P : Program} {w : World} {K : PySem.W.Frag} {mg : Str → Option Value} {base : Heap} {a : Ad}
def sp__law_bag_of (K : PySem.W.Frag) : Sp := fun vs H Q _ => ∃ (F : Hp) (p : Addr) (ns : List Int), vs = [.ref p] ∧ SqL K F p (ns.map V.int) ∧ ns.length ≤ 1000 ∧ Same F H ∧ ∀ F' H' b, Stp F H F' H' → Bag K b F' H' → Q (.ref b) H'
theorem c__law_bag_of (T : Txt K mg a) : Cl P w K mg base 1 "_law_bag_of" P__law_bag_of (sp__law_bag_of K) [] :=
  T.d__law_bag_of.cl sc__law_bag_of (fun vs H Q E h => by obtain ⟨F, p, ns, rfl, _⟩ := h; rfl) fun f cdv A outer s H vs Q E hr h => by
    obtain ⟨F, p, ns, rfl, hp, hn, hf, k⟩ := h
    refine ⟨_, ((pss_cons (ps_set (i := 1) sc__law_bag_of.nd rfl (Or.inl rfl) pe_int)
 (pss_cons (ps_for (passes_of rfl) rfl (pi_list (pv 0)) (pg_name (i := 2) sc__law_bag_of.nd rfl (Or.inl rfl))
 (pss_one (ps_set (i := 1) sc__law_bag_of.nd rfl (Or.inl rfl) (pe_op op_mod (pe_callTy call_int1 (by rfl) T.n_int (by decide +kernel) (pa_cons (pe_op op_add (pe_op op_add (pe_op op_mul (pv 1) pe_int) (pv 2)) pe_int) pa_nil)) pe_int))))
 (pss_one (ps_ret (pe_disp (pps_cons pe_str (pe_lc (own := [("_law_cell", 2)]) (g := (gName 2)) (by rfl) sc__law_bag_of.nd (pi_list (pv 0)) (blkOk_by (own := [("_law_cell", 2)]) (N := N__law_bag_of) (sc := defScope s__law_bag_of) (by decide +kernel)) (fun _ _ _ _ _ => (pg_name (i := 2) sc__law_bag_of.nd rfl (Or.inl rfl) (hf := .inr rfl))) (fun _ _ _ _ _ => pts_nil) (fun _ _ _ _ _ => (pv 2))) (pps_cons pe_str pe_int (pps_cons pe_str pe_int (pps_cons pe_str (pv 1) (pps_cons pe_str pe_int pps_nil))))) (by rfl) (by rfl) (fun z => by cases z) (by decide))))))), ?_⟩
    refine ⟨_, rfl, p, rfl, ⟨_, upL hf hp⟩, ?_⟩
    refine for_list (fun i σ' H' => H = H' ∧ ∃ (m : Int) (c : Option V), σ' = [some (.ref p), some (.int m), c]) ⟨rfl, 7, none, rfl⟩ (fun i σ' H' _ q => by rw [← q.1]; exact upL hf hp) ?_ ?_
    · rintro i x _ _ hx ⟨rfl, m, c, rfl⟩
      obtain ⟨d, hd, rfl⟩ := int_item hx
      refine ⟨_, rfl, _, _, rfl, rfl, .inr ⟨by decide, by decide⟩, _, rfl, _, _, rfl, rfl, _, _, rfl, rfl, .inl ⟨_, rfl, _, _, rfl, rfl, (by decide : (0 : Int) < 1000003), ?_⟩⟩
      exact ⟨rfl, _, _, rfl⟩
    · rintro _ _ ⟨rfl, m, c, rfl⟩
      intro b hb
      have s0 : Stp F H F (upd H b (.dK [])) := (Stm.refl hf).raw hb hb
      refine ⟨_, rfl, p, rfl, ⟨_, upL s0.fh hp⟩, fun D hD => ?_⟩
      refine lcM memP walk_list s0.fh trivial hD (fun i _ y => ∃ d, ns[i]? = some d ∧ y = V.int d) (fun _ _ _ _ _ z => z) (by rw [List.length_map]; omega) (fun F' H' e1 e2 => upL e2 (upL e1 hp)) ?_ ?_
      · rintro i x F' H1 H'' Kt Kn hi s1 _ ⟨rfl, hx⟩ kk
        obtain ⟨d, hd, rfl⟩ := int_item hx
        exact ⟨rfl, lc_yes ⟨_, rfl, kk _ _ _ (.refl s1.fh) trivial ⟨d, hd, rfl⟩⟩⟩
      · intro F' H1 ys s1 _ hD' hy hr'
        rw [List.length_map] at hy
        obtain rfl := map_of hy hr'
        have fb : F' b = none := s1.nw b (hf.free hb) (by rw [upd_same]; exact fun z => nomatch z)
        refine ⟨_, rfl, s1.same b _ upd_same, bk D 0 0 m 0, rfl, (by show 5 ≤ 15; decide), ?_⟩
        refine k F' _ b ((s0.transP s1).mut fb hb) ⟨fb, D, ns, 0, 0, m, 0, by decide, hn, SqL.of hD', ?_⟩
        rw [upd_same]
        rfl
end
theorem arg2 (sp : Sp) {u v : V} {σ : L2.St} {H : Hp} {Q : VK} {E : XK} (h : sp [u, v] H Q E) : tNil σ H fun xs H2 => sp ((u :: v :: xs) ++ []) H2 Q E := h
theorem arg3 (sp : Sp) {u v x : V} {σ : L2.St} {H : Hp} {Q : VK} {E : XK} (h : sp [u, v, x] H Q E) : tNil σ H fun xs H2 => sp ((u :: v :: x :: xs) ++ []) H2 Q E := h
theorem seq_asg {te : TE} {g : TG} {u : TS} {D : Ends} {σ : L2.St} {H : Hp} (h : te σ H fun v H1 => g v σ H1 fun σ2 H2 => u D σ2 H2) : tSeq (tAsg te g) u D σ H := h
theorem op_in {r : R2} {ta tb : TE} {σ : L2.St} {H : Hp} {Q : VK} (h : ta σ H fun x H1 => tb σ H1 fun y H2 => r x y H2 Q) : tOp r ta tb σ H Q := h
theorem rat_ex {n d : Int} {k : Nat} (h0 : d ≠ 0) (hn : Sz k n) (hd : Sz k d) : ∃ x : Rat, rat n d = nd x ∧ Fn k x := by
  have d0 : (d : Rat) ≠ 0 := fun z => h0 (by exact_mod_cast z)
  have e : rat n d = nd ((n : Rat) / (d : Rat)) := rat_nd h0 (by generalize (n : Rat) = a at *; generalize (d : Rat) = b at *; grind)
  have z := rat_sz hn hd
  rw [e] at z
  exact ⟨_, e, z.1, z.2⟩
theorem low_ex {n d : Int} {k : Nat} (l : Low (n, d)) (hn : Sz k n) (hd : Sz k d) : ∃ x : Rat, (n, d) = nd x ∧ Fn k x := by
  have h0 : d ≠ 0 := by have := l.1; dsimp only at this; omega
  have d0 : (d : Rat) ≠ 0 := fun z => h0 (by exact_mod_cast z)
  have e : (n, d) = nd ((n : Rat) / (d : Rat)) := low_nd l (by dsimp only; generalize (n : Rat) = a at *; generalize (d : Rat) = b at *; grind)
  refine ⟨_, e, ?_, ?_⟩ <;> rw [← e]
  · exact hn
  · exact hd
def NumV (K : PySem.W.Frag) (F : Hp) (v : V) : Prop := ∃ x, Rq K F v x ∧ Fn 41 x
theorem up_num {K : PySem.W.Frag} : Up (NumV K) := fun F F' v e h => by
  obtain ⟨x, h1, h2⟩ := h
  exact ⟨x, h1.up e, h2⟩
theorem num_c {K : PySem.W.Frag} {F : Hp} {q : Addr} {n d : Int} (h : F q = some (.tup [.int n, .int d])) (z : 1 ≤ d ∧ Nat.gcd n.natAbs d.natAbs = 1 ∧ n.natAbs < 128 ∧ d.natAbs < 128) : NumV K F (.ref q) := by
  obtain ⟨x, e, f⟩ := low_ex (k := 41) (n := n) (d := d) ⟨z.1, z.2.1⟩ (sz_of 7 z.2.2.1 (by decide)) (sz_of 7 z.2.2.2 (by decide))
  exact ⟨x, ⟨q, rfl, by rw [← e]; exact SqT.of h⟩, f⟩
section
variable {P : Program} {w : World} {K : PySem.W.Frag} {mg : Str → Option Value} {base : Heap} {a : Ad}
def sp__law_number_of (K : PySem.W.Frag) : Sp := fun vs H Q _ => ∃ (F : Hp) (b : Addr), vs = [.ref b] ∧ Bag K b F H ∧ Same F H ∧ ∀ F' H' v, Sb b F H F' H' → Bag K b F' H' → NumV K F' v → Q v H'
theorem c__law_number_of (T : Txt K mg a) : Cl P w K mg base 3 "_law_number_of" P__law_number_of (sp__law_number_of K) [] :=
  T.d__law_number_of.cl sc__law_number_of (fun vs H Q E h => by obtain ⟨F, b, rfl, _⟩ := h; rfl) fun f cdv A outer s H vs Q E hr h => by
    obtain ⟨F, b, rfl, hB, hf, k⟩ := h
    refine ⟨_, ((pss_cons (ps_set (i := 1) sc__law_number_of.nd rfl (Or.inl rfl) (pe_f (c__law_pick T) (takes_of rfl rfl rfl rfl) hr (by decide) rfl (pa_cons (pv 0) (pa_cons pe_int pa_nil))))
 (pss_cons (ps_if (pt_cmpR op_lt (pv 1) pe_int (nomark _))
 (pss_one (ps_ret (pe_f (c__law_choice T) (takes_of rfl rfl rfl rfl) hr (by decide) rfl (pa_cons (pv 0) (pa_cons (pe_lst (pa_cons (pe_tup (pa_cons pe_int (pa_cons pe_int pa_nil))) (pa_cons (pe_tup (pa_cons (pe_un un_neg pe_int) (pa_cons pe_int pa_nil))) (pa_cons (pe_tup (pa_cons pe_int (pa_cons pe_int pa_nil))) (pa_cons (pe_tup (pa_cons pe_int (pa_cons pe_int pa_nil))) (pa_cons (pe_tup (pa_cons (pe_un un_neg pe_int) (pa_cons pe_int pa_nil))) (pa_cons (pe_tup (pa_cons pe_int (pa_cons pe_int pa_nil))) pa_nil))))))) pa_nil)))))
 pss_nil)
 (pss_cons (ps_if (pt_cmpR op_eq (pv 1) pe_int (nomark _))
 (pss_one (ps_ret (pe_f (c__law_ratio T) (takes_of rfl rfl rfl rfl) hr (by decide) rfl (pa_cons (pe_op op_sub (pe_f (c__law_pick T) (takes_of rfl rfl rfl rfl) hr (by decide) rfl (pa_cons (pv 0) (pa_cons pe_int pa_nil))) pe_int) (pa_cons (pe_op op_add pe_int (pe_f (c__law_pick T) (takes_of rfl rfl rfl rfl) hr (by decide) rfl (pa_cons (pv 0) (pa_cons pe_int pa_nil)))) pa_nil)))))
 pss_nil)
 (pss_cons (ps_set (i := 2) sc__law_number_of.nd rfl (Or.inl rfl) (pe_f (c__law_pick T) (takes_of rfl rfl rfl rfl) hr (by decide) rfl (pa_cons (pv 0) (pa_cons (pe_op op_pow pe_int pe_int) pa_nil))))
 (pss_cons (ps_if (pt_val (pe_f (c__law_one_in T) (takes_of rfl rfl rfl rfl) hr (by decide) rfl (pa_cons (pv 0) (pa_cons pe_int pa_nil))))
 (pss_one (ps_set (i := 2) sc__law_number_of.nd rfl (Or.inl rfl) (pe_op op_sub pe_int (pv 2))))
 pss_nil)
 (pss_one (ps_ret (pe_f (c__law_ratio T) (takes_of rfl rfl rfl rfl) hr (by decide) rfl (pa_cons (pv 2) (pa_cons (pe_op op_add pe_int (pe_f (c__law_pick T) (takes_of rfl rfl rfl rfl) hr (by decide) rfl (pa_cons (pv 0) (pa_cons (pe_op op_pow pe_int pe_int) pa_nil)))) pa_nil))))))))))), ?_⟩
    refine ⟨_, rfl, F, b, _, rfl, hB, hf, by decide, sz_of 3 (by decide) (by decide), fun H1 way s1 B1 w0 w4 => ?_⟩
    refine gn ?_
    refine ⟨_, rfl, _, _, rfl, rfl, _, rfl, ?_⟩
    refine ite2 (fun e => ?_) (fun e => ?_)
    · refine ⟨_, rfl, ?_⟩
      refine MkL.lst (F0 := F) (P := NumV K) (MkL.cons up_num (Mk.tup (EvL.cons Ev.c (EvL.cons Ev.c EvL.nil)) (Nat.le_of_ble_eq_true rfl) fun F' q' e h => num_c h (by decide)) (MkL.cons up_num (Mk.tup (EvL.cons (Ev.neg Ev.c) (EvL.cons Ev.c EvL.nil)) (Nat.le_of_ble_eq_true rfl) fun F' q' e h => num_c (n := -1) h (by decide)) (MkL.cons up_num (Mk.tup (EvL.cons Ev.c (EvL.cons Ev.c EvL.nil)) (Nat.le_of_ble_eq_true rfl) fun F' q' e h => num_c h (by decide)) (MkL.cons up_num (Mk.tup (EvL.cons Ev.c (EvL.cons Ev.c EvL.nil)) (Nat.le_of_ble_eq_true rfl) fun F' q' e h => num_c h (by decide)) (MkL.cons up_num (Mk.tup (EvL.cons (Ev.neg Ev.c) (EvL.cons Ev.c EvL.nil)) (Nat.le_of_ble_eq_true rfl) fun F' q' e h => num_c (n := -1) h (by decide)) (MkL.cons up_num (Mk.tup (EvL.cons Ev.c (EvL.cons Ev.c EvL.nil)) (Nat.le_of_ble_eq_true rfl) fun F' q' e h => num_c h (by decide)) MkL.nil)))))) up_num (by decide) (Same.refl F) s1.fh fun F2 H2 p2 z2 st2 hp2 hl2 hv2 => ?_
      obtain ⟨s2, B2⟩ := pureB s1 B1 st2
      refine arg2 (sp__law_choice K) ⟨F2, b, .ref p2, z2, rfl, .inl ⟨p2, rfl, SqL.of hp2⟩, (fun z => by rw [z] at hl2; cases hl2), by omega, B2, s2.fh, fun H3 v j s3 B3 hj => ?_⟩
      exact k _ _ v (seqB s2 B2 s3) B3 (hv2 v (List.mem_of_getElem? hj))
    refine ⟨_, rfl, rfl, _, rfl, ?_⟩
    by_cases w2 : way = 2
    · refine iteY (vint_eq w2) ?_
      refine ⟨_, rfl, F, b, _, rfl, B1, s1.fh, by decide, sz_of 6 (by decide) (by decide), fun H2 m s2 B2 m0 m1 => ?_⟩
      refine ⟨_, _, rfl, rfl, _, rfl, F, b, _, rfl, B2, s2.fh, by decide, sz_of 6 (by decide) (by decide), fun H3 l s3 B3 l0 l1 => ⟨_, _, rfl, rfl, ?_⟩⟩
      have d0 : (1 + l : Int) ≠ 0 := by omega
      refine ⟨F, _, _, rfl, d0, sz_of 40 (by omega) (by decide), s3.fh, fun F' H' v st hv => ?_⟩
      obtain ⟨s5, B5⟩ := pureB (seqB (seqB s1 B1 s2) B2 s3) B3 st
      obtain ⟨x, e, fx⟩ := rat_ex (k := 41) d0 (sz_of 40 (by omega) (by decide) : Sz 41 (m - 20)) (sz_of 40 (by omega) (by decide))
      exact k F' H' v s5 B5 ⟨x, by unfold Rq; rw [← e]; exact hv, fx⟩
    · refine iteN (vint_ne w2) ?_
      refine ⟨_, rfl, _, _, rfl, rfl, ⟨by decide, by decide, by decide⟩, F, b, _, rfl, B1, s1.fh, by decide, sz_of 41 (by decide) (by decide), fun H2 n s2 B2 n0 n1 => ?_⟩
      have n1 : n < 1000000000000 := n1
      refine gn ?_
      dsimp only
      refine seq_with (fun σ' H' => ∃ n', σ' = [some (.ref b), some (.int way), some (.int n')] ∧ Sb b F H F H' ∧ Bag K b F H' ∧ n'.natAbs < 2 ^ 41) (fun u hu => ?_) ?_
      · refine ⟨_, rfl, F, b, _, rfl, B2, s2.fh, by decide, sz_of 3 (by decide) (by decide), fun H3 t s3 B3 => ⟨t, rfl, ?_⟩⟩
        have s13 := seqB (seqB s1 B1 s2) B2 s3
        cases t with
        | true => exact iteT ⟨_, rfl, _, _, rfl, rfl, hu _ _ ⟨0 - n, rfl, s13, B3, by omega⟩⟩
        | false => exact iteF (hu _ _ ⟨n, rfl, s13, B3, by omega⟩)
      rintro _ H3 ⟨n', rfl, s3, B3, hn'⟩
      refine ⟨_, rfl, _, rfl, _, _, rfl, rfl, ⟨by decide, by decide, by decide⟩, F, b, _, rfl, B3, s3.fh, by decide, sz_of 20 (by decide) (by decide), fun H4 l s4 B4 l0 l1 => ⟨_, _, rfl, rfl, ?_⟩⟩
      have l1 : l < 1000000 := l1
      have d0 : (1 + l : Int) ≠ 0 := by omega
      refine ⟨F, _, _, rfl, d0, sz_of 40 (by omega) (by decide), s4.fh, fun F' H' v st hv => ?_⟩
      obtain ⟨s5, B5⟩ := pureB (seqB s3 B3 s4) B4 st
      obtain ⟨x, e, fx⟩ := rat_ex (k := 41) d0 (sz_of 41 hn' (by decide) : Sz 41 n') (sz_of 40 (by omega) (by decide))
      exact k F' H' v s5 B5 ⟨x, by unfold Rq; rw [← e]; exact hv, fx⟩
end
end K33

set_option Elab.async false
set_option linter.all false
set_option maxRecDepth 100000
set_option maxHeartbeats 4000000
namespace K33
open PySem PySem.Spec PyProof.Rows L2 Ew
open SX (S)
/-- spot in spots -/
theorem is_in {K : PySem.W.Frag} {H : Hp} {l : Addr} {xs : List V} {ps : List Spot} {v : V} {p : Spot} {Q : VK} (hl : SqL K H l xs) (h : Ss H xs ps) (ok : ∀ p ∈ ps, PyData.strOk p.1 = true) (hv : Spt H v p) (sv : PyData.strOk p.1 = true) (k : Q (.bl (decide (p ∈ ps))) H) : rInD K v (.ref l) H Q := by
  refine ⟨spD p, ps.map spD, hv.dp, .lst hl h.dp, (fl_sp sv).sh (by decide), (fl_spots ok).sh (by decide), ?_⟩
  rw [eqv_any]
  exact k
/-- spots that are drawn -/
structure Pool (j : Nat) (ps : List Spot) : Prop where
  len : ps.length = j
  nd : ps.Nodup
  ng : ∀ p ∈ ps, p ≠ ground
  ok : ∀ p ∈ ps, PyData.strOk p.1 = true
  lt : ∀ p ∈ ps, p.2.1 < 2 + (j : Int)
theorem Pool.snoc {j : Nat} {ps : List Spot} {p : Spot} (h : Pool j ps) (n : p ∉ ps) (g : p ≠ ground) (o : PyData.strOk p.1 = true) (l : p.2.1 < 2 + ((j + 1 : Nat) : Int)) : Pool (j + 1) (ps ++ [p]) where
  len := by rw [List.length_append, h.len]; rfl
  nd := by
    rw [List.nodup_append]
    refine ⟨h.nd, by simp, fun x hx y hy => ?_⟩
    rw [List.mem_singleton.mp hy]
    exact fun z => n (z ▸ hx)
  ng := fun q hq => by
    rcases List.mem_append.mp hq with z | z
    · exact h.ng q z
    · rw [List.mem_singleton.mp z]; exact g
  ok := fun q hq => by
    rcases List.mem_append.mp hq with z | z
    · exact h.ok q z
    · rw [List.mem_singleton.mp z]; exact o
  lt := fun q hq => by
    rcases List.mem_append.mp hq with z | z
    · have := h.lt q z; omega
    · rw [List.mem_singleton.mp z]; exact l
theorem eight {t : Int} (h0 : 0 ≤ t) (h1 : t < 8) : ∃ i : Int, atI [V.int 0, .int 0, .int 0, .int 1, .int 1, .int 1, .int 2, .int 3] t = some (.int i) ∧ 0 ≤ i ∧ i < 4 := by
  have : t = 0 ∨ t = 1 ∨ t = 2 ∨ t = 3 ∨ t = 4 ∨ t = 5 ∨ t = 6 ∨ t = 7 := by omega
  rcases this with rfl | rfl | rfl | rfl | rfl | rfl | rfl | rfl <;> exact ⟨_, rfl, by decide, by decide⟩
theorem strOk_S {L : List Nat} (h : ∀ c ∈ L, c < 1114112) : PyData.strOk (S L) = true := by
  unfold PyData.strOk
  show L.toArray.all _ = true
  rw [List.all_toArray, List.all_eq_true]
  intro c hc
  exact decide_eq_true (h c hc)
theorem names_at {ns : List (List Nat)} (h : ns.length = 2) (nm : Nams ns) {i : Int} (h0 : 0 ≤ i) (h1 : i < 4) : ∃ z, atI (tsL ns ++ [V.str "ground", .str ""]) i = some (.str z) ∧ PyData.strOk z = true := by
  match ns, h with
  | [n1, n2], _ =>
    have o1 : PyData.strOk (S n1) = true := strOk_S fun c hc => by have := (nm.2 n1 (by simp)).lt c hc; omega
    have o2 : PyData.strOk (S n2) = true := strOk_S fun c hc => by have := (nm.2 n2 (by simp)).lt c hc; omega
    have : i = 0 ∨ i = 1 ∨ i = 2 ∨ i = 3 := by omega
    rcases this with rfl | rfl | rfl | rfl
    · exact ⟨_, rfl, o1⟩
    · exact ⟨_, rfl, o2⟩
    · exact ⟨_, rfl, by decide +kernel⟩
    · exact ⟨_, rfl, by decide +kernel⟩
section
variable {P : Program} {w : World} {K : PySem.W.Frag} {mg : Str → Option Value} {base : Heap} {a : Ad}
def sp__law_pool_of (K : PySem.W.Frag) : Sp := fun vs H Q _ => ∃ (F : Hp) (b : Addr), vs = [.ref b] ∧ Bag K b F H ∧ Same F H ∧
  ∀ F' H' l xs ps j, Sb b F H F' H' → Bag K b F' H' → F' l = some (.lst xs) → Ss F' xs ps → Pool j ps → 1 ≤ j → j ≤ 5 → Q (.ref l) H'
theorem c__law_pool_of (T : Txt K mg a) : Cl P w K mg base 4 "_law_pool_of" P__law_pool_of (sp__law_pool_of K) [] :=
  T.d__law_pool_of.cl sc__law_pool_of (fun vs H Q E h => by obtain ⟨F, b, rfl, _⟩ := h; rfl) fun f cdv A outer s H vs Q E hr h => by
    obtain ⟨F, b, rfl, hB, hf, k⟩ := h
    refine ⟨_, ((pss_cons (ps_set (i := 1) sc__law_pool_of.nd rfl (Or.inl rfl) (pe_op op_cat (pe_f (c__law_names_of T) (takes_of rfl rfl rfl rfl) hr (by decide) rfl (pa_cons (pv 0) (pa_cons pe_int pa_nil))) (pe_lst (pa_cons pe_str (pa_cons pe_str pa_nil)))))
 (pss_cons (ps_set (i := 2) sc__law_pool_of.nd rfl (Or.inl rfl) (pe_lst pa_nil))
 (pss_cons (ps_for (passes_of rfl) rfl (pi_range1 (by rfl) T.n_range (pa_cons (pe_op op_add pe_int (pe_f (c__law_pick T) (takes_of rfl rfl rfl rfl) hr (by decide) rfl (pa_cons (pv 0) (pa_cons pe_int pa_nil)))) pa_nil)) (pg_name (i := 3) sc__law_pool_of.nd rfl (Or.inl rfl))
 (pss_cons (ps_set (i := 4) sc__law_pool_of.nd rfl (Or.inl rfl) (pe_ix ix_list (pv 1) (pe_ix ix_list (pe_lst (pa_cons pe_int (pa_cons pe_int (pa_cons pe_int (pa_cons pe_int (pa_cons pe_int (pa_cons pe_int (pa_cons pe_int (pa_cons pe_int pa_nil))))))))) (pe_f (c__law_pick T) (takes_of rfl rfl rfl rfl) hr (by decide) rfl (pa_cons (pv 0) (pa_cons pe_int pa_nil))) (fun _ _ => rfl)) (fun _ _ => rfl)))
 (pss_cons (ps_set (i := 5) sc__law_pool_of.nd rfl (Or.inl rfl) (pe_f (c__law_pick T) (takes_of rfl rfl rfl rfl) hr (by decide) rfl (pa_cons (pv 0) (pa_cons pe_int pa_nil))))
 (pss_cons (ps_if (pt_val (pe_f (c__law_one_in T) (takes_of rfl rfl rfl rfl) hr (by decide) rfl (pa_cons (pv 0) (pa_cons pe_int pa_nil))))
 (pss_one (ps_set (i := 5) sc__law_pool_of.nd rfl (Or.inl rfl) (pe_f (c__law_pick T) (takes_of rfl rfl rfl rfl) hr (by decide) rfl (pa_cons (pv 0) (pa_cons (pe_op op_pow pe_int pe_int) pa_nil)))))
 pss_nil)
 (pss_cons (ps_set (i := 6) sc__law_pool_of.nd rfl (Or.inl rfl) (pe_tup (pa_cons (pv 4) (pa_cons (pe_op op_sub (pe_f (c__law_pick T) (takes_of rfl rfl rfl rfl) hr (by decide) rfl (pa_cons (pv 0) (pa_cons pe_int pa_nil))) pe_int) (pa_cons (pv 5) pa_nil)))))
 (pss_cons (ps_if (PW.pt (pw_or (pt_cmpR (op_inD (units5 hr)) (pv 6) (pv 2) (by rfl)) (pw_or1 (pt_cmpR op_eq (pv 4) pe_str (nomark _)))))
 (pss_one (ps_set (i := 6) sc__law_pool_of.nd rfl (Or.inl rfl) (pe_tup (pa_cons (pv 4) (pa_cons (pe_op op_add pe_int (pv 3)) (pa_cons (pv 5) pa_nil))))))
 pss_nil)
 (pss_one (ps_expr (pe_bm PySem.F.plainAttrs_list PySem.F.slot_list_append PySem.F.type_list_append mt_append (pv 2) (pa_cons (pv 6) pa_nil))))))))))
 (pss_one (ps_ret (pv 2))))))), ?_⟩
    refine ⟨_, rfl, F, b, 2, rfl, hB, hf, by decide, by decide, fun F1 H1 p1 ns s1 B1 hp1 nl nm => ⟨by show 2 ≤ sizeLine; decide, fun q1 hq1 => ?_⟩⟩
    obtain ⟨s2, B2⟩ := newB (o := .lst [.str "ground", .str ""]) s1 B1 hq1
    have e12 := same_new (o := .lst [.str "ground", .str ""]) (s1.fh.free hq1)
    have hq1f : (upd F1 q1 (.lst [.str "ground", .str ""])) q1 = some (.lst [.str "ground", .str ""]) := upd_same
    have hp1f := e12 _ _ hp1
    generalize upd F1 q1 (.lst [.str "ground", .str ""]) = F2 at *
    generalize upd H1 q1 (.lst [.str "ground", .str ""]) = H2 at *
    refine ⟨p1, q1, _, _, rfl, rfl, s2.fh _ _ hp1f, s2.fh _ _ hq1f, ?_, fun l1 hl1 => ?_⟩
    · rw [sizeLine_eq]
      have : (tsL ns).length = 2 := by rw [tsL_len]; omega
      rw [this]
      decide
    obtain ⟨s3, B3⟩ := newB (o := .lst (tsL ns ++ [.str "ground", .str ""])) s2 B2 hl1
    have hl1f : (upd F2 l1 (.lst (tsL ns ++ [.str "ground", .str ""]))) l1 = some (.lst (tsL ns ++ [.str "ground", .str ""])) := upd_same
    generalize upd F2 l1 (.lst (tsL ns ++ [.str "ground", .str ""])) = F3 at s3 B3 hl1f
    generalize upd H2 l1 (.lst (tsL ns ++ [.str "ground", .str ""])) = H3 at s3 B3
    refine gn ?_
    refine ⟨Nat.zero_le _, fun l2 hl2 => ?_⟩
    have nl2b : l2 ≠ b := fun z => (memB K b).there B3 z hl2
    have h0l2 : H l2 = none := s3.fresh (fun x z => (memB K b).there B3 z) hl2
    have f3l2 : F3 l2 = none := s3.fh.free hl2
    obtain ⟨s4, B4⟩ := rawB (o := .lst []) s3 B3 hl2
    have h4l2 : (upd H3 l2 (.lst [])) l2 = some (.lst []) := upd_same
    generalize upd H3 l2 (.lst []) = H4 at s4 B4 h4l2
    refine ⟨_, rfl, F3, b, 5, rfl, B4, s4.fh, by decide, sz_of 3 (by decide) (by decide), fun H5 m s5 B5 m0 m1 => ⟨_, _, rfl, rfl, _, rfl, by omega, by omega, ?_⟩⟩
    have s45 := seqB s4 B4 s5
    refine for_it walk_range (fun j σ' H' => ∃ F' xs ps c3 c4 c5 c6, σ' = [some (.ref b), some (.ref l1), some (.ref l2), c3, c4, c5, c6] ∧ Sb b F H F' H' ∧ Bag K b F' H' ∧ Same F3 F' ∧ F' l2 = none ∧ H' l2 = some (.lst xs) ∧ Ss F' xs ps ∧ Pool j ps) ?_ (fun _ _ _ _ _ => trivial) ?_ ?_
    · exact ⟨F3, [], [], none, none, none, none, rfl, s45, B5, Same.refl _, f3l2, s5.hh l2 _ nl2b h4l2, ⟨rfl, fun i p h => by simp at h⟩, ⟨rfl, by simp, (fun p h => nomatch h), (fun p h => nomatch h), (fun p h => nomatch h)⟩⟩
    · rintro j _ _ H6o H6 hj ⟨F6, xs, ps, c3, c4, c5, c6, rfl, s6, B6, e6, f6, h6, ss, pool⟩ ⟨eH, rfl⟩
      subst eH
      refine ⟨_, rfl, by show 8 ≤ sizeLine; decide, fun q hq => ?_⟩
      have nql : l2 ≠ q := fun z => by rw [← z, h6] at hq; cases hq
      obtain ⟨s7, B7⟩ := newB (o := .lst [.int 0, .int 0, .int 0, .int 1, .int 1, .int 1, .int 2, .int 3]) s6 B6 hq
      have e7 := same_new (o := .lst [.int 0, .int 0, .int 0, .int 1, .int 1, .int 1, .int 2, .int 3]) (s6.fh.free hq)
      have f7 : (upd F6 q (.lst [.int 0, .int 0, .int 0, .int 1, .int 1, .int 1, .int 2, .int 3])) l2 = none := by rw [upd_ne nql]; exact f6
      have h7 : (upd H6 q (.lst [.int 0, .int 0, .int 0, .int 1, .int 1, .int 1, .int 2, .int 3])) l2 = some (.lst xs) := by rw [upd_ne nql]; exact h6
      have hqf : (upd F6 q (.lst [.int 0, .int 0, .int 0, .int 1, .int 1, .int 1, .int 2, .int 3])) q = some (.lst [.int 0, .int 0, .int 0, .int 1, .int 1, .int 1, .int 2, .int 3]) := upd_same
      generalize upd F6 q (.lst [.int 0, .int 0, .int 0, .int 1, .int 1, .int 1, .int 2, .int 3]) = F7 at s7 B7 e7 f7 hqf
      generalize upd H6 q (.lst [.int 0, .int 0, .int 0, .int 1, .int 1, .int 1, .int 2, .int 3]) = H7 at s7 B7 h7
      refine ⟨_, rfl, F7, b, 8, rfl, B7, s7.fh, by decide, sz_of 4 (by decide) (by decide), fun H8 t s8 B8 t0 t1 => ?_⟩
      obtain ⟨i, hi, i0, i3⟩ := eight t0 t1
      obtain ⟨z, hz, zok⟩ := names_at (i := i) (by omega) nm i0 i3
      have e37 := e6.trans e7
      refine ⟨q, _, _, _, rfl, rfl, SqL.of (s8.fh _ _ hqf), hi, l1, _, _, _, rfl, rfl, SqL.of (s8.fh _ _ (e37 _ _ hl1f)), hz, ?_⟩
      have t8 := seqB s7 B7 s8
      have h8 := s8.hh l2 _ nl2b h7
      refine gn ?_
      refine ⟨_, rfl, F7, b, 4, rfl, B8, s8.fh, by decide, sz_of 4 (by decide) (by decide), fun H9 d s9 B9 d0 d1 => ?_⟩
      have t9 := seqB t8 B8 s9
      have h9 := s9.hh l2 _ nl2b h8
      refine gn ?_
      dsimp only
      refine seq_with (fun σ' H' => ∃ d', σ' = [some (.ref b), some (.ref l1), some (.ref l2), some (.int (0 + (j : Int))), some (.str z), some (.int d'), c6] ∧ Sb b F H F7 H' ∧ Bag K b F7 H' ∧ H' l2 = some (.lst xs)) (fun u hu => ?_) ?_
      · refine ⟨_, rfl, F7, b, _, rfl, B9, s9.fh, by decide, sz_of 4 (by decide) (by decide), fun H10 c s10 B10 => ⟨c, rfl, ?_⟩⟩
        have t10 := seqB t9 B9 s10
        have h10 := s10.hh l2 _ nl2b h9
        cases c with
        | true =>
          refine iteT ⟨_, rfl, _, _, rfl, rfl, ⟨by decide, by decide, by decide⟩, F7, b, _, rfl, B10, s10.fh, by decide, sz_of 31 (by decide) (by decide), fun H11 d' s11 B11 d0' d1' => ?_⟩
          exact hu _ _ ⟨d', rfl, seqB t10 B10 s11, B11, s11.hh l2 _ nl2b h10⟩
        | false => exact iteF (hu _ _ ⟨d, rfl, t10, B10, h10⟩)
      clear t8 t9 h8 h9 s8 s9 B8 B9
      rintro _ H10 ⟨d', rfl, s10, B10, h10⟩
      refine ⟨_, rfl, _, rfl, F7, b, 3, rfl, B10, s10.fh, by decide, sz_of 4 (by decide) (by decide), fun H11 e s11 B11 e0 e1 => ⟨_, _, rfl, rfl, _, rfl, by show 3 ≤ sizeLine; decide, fun u1 hu1 => ?_⟩⟩
      have t11 := seqB s10 B10 s11
      have h11 := s11.hh l2 _ nl2b h10
      have nu1 : l2 ≠ u1 := fun z => by rw [← z, h11] at hu1; cases hu1
      obtain ⟨s12, B12⟩ := newB (o := .tup [.str z, .int (e - 1), .int d']) t11 B11 hu1
      have e12' := same_new (o := .tup [.str z, .int (e - 1), .int d']) (t11.fh.free hu1)
      have f12 : (upd F7 u1 (.tup [.str z, .int (e - 1), .int d'])) l2 = none := by rw [upd_ne nu1]; exact f7
      have h12 : (upd H11 u1 (.tup [.str z, .int (e - 1), .int d'])) l2 = some (.lst xs) := by rw [upd_ne nu1]; exact h11
      have su1 : Spt (upd F7 u1 (.tup [.str z, .int (e - 1), .int d'])) (.ref u1) (z, e - 1, d') := ⟨u1, rfl, upd_same⟩
      generalize upd F7 u1 (.tup [.str z, .int (e - 1), .int d']) = F12 at s12 B12 e12' f12 su1
      generalize upd H11 u1 (.tup [.str z, .int (e - 1), .int d']) = H12 at s12 B12 h12
      have ss12 := (ss.up e7).up e12'
      refine gn ?_
      dsimp only
      refine seq_with (fun σ' H' => ∃ F' v p, σ' = [some (.ref b), some (.ref l1), some (.ref l2), some (.int (0 + (j : Int))), some (.str z), some (.int d'), some v] ∧ Sb b F H F' H' ∧ Bag K b F' H' ∧ Same F3 F' ∧ F' l2 = none ∧ H' l2 = some (.lst xs) ∧ Ss F' xs ps ∧ Spt F' v p ∧ p ∉ ps ∧ p ≠ ground ∧ PyData.strOk p.1 = true ∧ p.2.1 < 2 + ((j + 1 : Nat) : Int)) (fun u hu => ?_) ?_
      · have again : ∀ {D : Ends}, D.nx = u { nx := fun σ' H' => ∃ F' xs ps c3 c4 c5 c6, σ' = [some (.ref b), some (.ref l1), some (.ref l2), c3, c4, c5, c6] ∧ Sb b F H F' H' ∧ Bag K b F' H' ∧ Same F3 F' ∧ F' l2 = none ∧ H' l2 = some (.lst xs) ∧ Ss F' xs ps ∧ Pool (j + 1) ps, rt := Q, bk := tRet (tVar 2) { nx := fun x H' => Q .non H', rt := Q }, ct := fun σ' H' => ∃ F' xs ps c3 c4 c5 c6, σ' = [some (.ref b), some (.ref l1), some (.ref l2), c3, c4, c5, c6] ∧ Sb b F H F' H' ∧ Bag K b F' H' ∧ Same F3 F' ∧ F' l2 = none ∧ H' l2 = some (.lst xs) ∧ Ss F' xs ps ∧ Pool (j + 1) ps } →
            tAsg (tTup (tCons (tVar 4) (tCons (tOp (rI0 fun i j => V.int (i + j)) (tC (V.int 2)) (tVar 3)) (tCons (tVar 5) tNil)))) (gName 6) D [some (.ref b), some (.ref l1), some (.ref l2), some (.int (0 + (j : Int))), some (.str z), some (.int d'), some (.ref u1)] H12 := by
          intro D eD
          refine ⟨_, rfl, _, rfl, _, _, rfl, rfl, _, rfl, by show 3 ≤ sizeLine; decide, fun u2 hu2 => ?_⟩
          have nu2 : l2 ≠ u2 := fun z => by rw [← z, h12] at hu2; cases hu2
          obtain ⟨s13, B13⟩ := newB (o := .tup [.str z, .int (2 + (0 + (j : Int))), .int d']) s12 B12 hu2
          have e13 := same_new (o := .tup [.str z, .int (2 + (0 + (j : Int))), .int d']) (s12.fh.free hu2)
          refine gn ?_
          rw [eD]
          refine hu _ _ ⟨_, _, (z, 2 + (0 + (j : Int)), d'), rfl, s13, B13, e37.trans (e12'.trans e13), by rw [upd_ne nu2]; exact f12, by rw [upd_ne nu2]; exact h12, ss12.up e13, ⟨u2, rfl, upd_same⟩, fun hin => ?_, fun eg => ?_, zok, ?_⟩
          · have := pool.lt _ hin
            dsimp only at this
            omega
          · have := congrArg (fun p : Spot => p.2.1) eg
            dsimp only [ground] at this
            omega
          · dsimp only
            omega
        refine ⟨_, rfl, _, rfl, is_in (SqL.of h12) (ss12.up s12.fh) pool.ok (su1.up s12.fh) zok ⟨_, rfl, ?_⟩⟩
        by_cases hin : ((z, e - 1, d') : Spot) ∈ ps
        · rw [decide_eq_true hin]
          exact iteT (again rfl)
        · rw [decide_eq_false hin]
          refine iteF ⟨_, rfl, rfl, _, rfl, ?_⟩
          refine ite2 (fun eg => again rfl) (fun eg => ?_)
          refine hu _ _ ⟨F12, _, (z, e - 1, d'), rfl, s12, B12, e37.trans e12', f12, h12, ss12, su1, hin, fun q => eg ?_, zok, by dsimp only; omega⟩
          have e1 := congrArg (fun p : Spot => p.1) q
          dsimp only at e1
          rw [e1]
          decide +kernel
      clear ss12 su1
      rintro _ H14 ⟨F14, v, p, rfl, s14, B14, e14, f14, h14, ss14, sv, np, ng, ok, lt⟩
      refine ⟨_, rfl, .inl ⟨rfl, _, SqL.of h14⟩, _, rfl, l2, _, _, rfl, rfl, h14, ?_, ?_⟩
      · have := ss14.1
        have := pool.len
        rw [sizeLine_eq]
        omega
      · obtain ⟨s', B'⟩ := mutB (o := .lst (xs ++ [v])) s14 B14 f14 h0l2 nl2b
        exact ⟨F14, xs ++ [v], ps ++ [p], _, _, _, _, rfl, s', B', e14, f14, upd_same, ss14.snoc sv, pool.snoc np ng ok lt⟩
    · rintro _ H6 ⟨F6, xs, ps, c3, c4, c5, c6, rfl, s6, B6, e6, f6, h6, ss, pool⟩
      obtain ⟨s7, B7⟩ := freezeB s6 B6 f6 h0l2 nl2b h6
      exact ⟨_, rfl, k _ _ l2 xs ps _ s7 B7 upd_same (ss.up (same_new f6)) pool (by omega) (by omega)⟩
end
end K33

set_option Elab.async false
set_option linter.all false
set_option maxRecDepth 100000
set_option maxHeartbeats 4000000
namespace K33
open PySem PySem.Spec PyProof.Rows L2 Ew
theorem paired_pick {R : V → Spot × Rat → Prop} : ∀ {ys : List V}, (∀ (j : Nat) y, ys[j]? = some y → ∃ c, R y c) → ∃ L : Tm, Paired R ys L
  | [], _ => ⟨[], .nil⟩
  | y :: ys, h => by
    obtain ⟨c, hc⟩ := h 0 y rfl
    obtain ⟨L, hL⟩ := paired_pick fun j z hz => h (j + 1) z hz
    exact ⟨c :: L, .cons hc hL⟩
theorem paired_mem {α β : Type} {R : α → β → Prop} {xs : List α} {L : List β} (h : Paired R xs L) : ∀ c ∈ L, ∃ x ∈ xs, R x c := by
  intro c hc
  obtain ⟨i, hi⟩ := List.mem_iff_getElem?.mp hc
  obtain ⟨x, h1, h2⟩ := paired_getR h hi
  exact ⟨x, List.mem_of_getElem? h1, h2⟩
/-- a drawn row -/
structure RowL (ps : List Spot) (L : Tm) : Prop where
  len : L.length ≤ 9
  sp : ∀ c ∈ L, c.1 = ground ∨ c.1 ∈ ps
  fn : ∀ c ∈ L, Fn 41 c.2
section
variable {P : Program} {w : World} {K : PySem.W.Frag} {mg : Str → Option Value} {base : Heap} {a : Ad}
def sp__law_row_of (K : PySem.W.Frag) : Sp := fun vs H Q _ => ∃ (F : Hp) (b l : Addr) (xs : List V) (ps : List Spot) (j : Nat), vs = [.ref b, .ref l] ∧ Bag K b F H ∧ Same F H ∧ F l = some (.lst xs) ∧ Ss F xs ps ∧ Pool j ps ∧ j ≤ 5 ∧
  ∀ F' H' r ys L, Sb b F H F' H' → Bag K b F' H' → F' r = some (.lst ys) → Paired (PrQ K F') ys L → RowL ps L → Q (.ref r) H'
theorem c__law_row_of (T : Txt K mg a) : Cl P w K mg base 4 "_law_row_of" P__law_row_of (sp__law_row_of K) [] :=
  T.d__law_row_of.cl sc__law_row_of (fun vs H Q E h => by obtain ⟨F, b, l, xs, ps, j, rfl, _⟩ := h; rfl) fun f cdv A outer s H vs Q E hr h => by
    obtain ⟨F, b, l, xs, ps, j, rfl, hB, hf, hl, ss, pool, j5, k⟩ := h
    refine ⟨_, ((pss_cons (ps_set (i := 2) sc__law_row_of.nd rfl (Or.inr rfl) (pe_op op_cat (pv 1) (pe_lst (pa_cons (pe_f0 (c__law_ground T) hr (by decide) rfl) pa_nil))))
 (pss_one (ps_ret (pe_lc (own := [("_law_k", 3)]) (g := (gName 3)) (by rfl) sc__law_row_of.nd (pi_range1 (by rfl) T.n_range (pa_cons (pe_f (c__law_pick T) (takes_of rfl rfl rfl rfl) hr (by decide) rfl (pa_cons (pv 0) (pa_cons pe_int pa_nil))) pa_nil)) (blkOk_by (own := [("_law_k", 3)]) (N := N__law_row_of) (sc := defScope s__law_row_of) (by decide +kernel)) (fun _ _ _ _ _ => (pg_name (i := 3) sc__law_row_of.nd rfl (Or.inl rfl) (hf := .inr rfl))) (fun _ _ _ _ _ => pts_nil) (fun _ _ _ _ _ => (pe_tup (pa_cons (pe_f (c__law_choice T) takes0 hr (by decide) rfl (pa_cons (pv 0) (pa_cons (pv 2) pa_nil))) (pa_cons (pe_f (c__law_number_of T) takes0 hr (by decide) rfl (pa_cons (pv 0) pa_nil)) pa_nil))))))))), ?_⟩
    refine ⟨_, rfl, rfl, fun t ht => ⟨by show 1 ≤ sizeLine; decide, fun q hq => ?_⟩⟩
    obtain ⟨s1, B1⟩ := newB (o := .tup (spV ground)) (Stm.refl hf) hB ht
    have g1 : Spt (upd F t (.tup (spV ground))) (.ref t) ground := ⟨t, rfl, upd_same⟩
    have e1 := same_new (o := .tup (spV ground)) (hf.free ht)
    generalize upd F t (.tup (spV ground)) = F1 at s1 B1 g1 e1
    generalize upd H t (.tup (spV ground)) = H1 at s1 B1 hq
    obtain ⟨s2, B2⟩ := newB (o := .lst [.ref t]) s1 B1 hq
    have e2 := same_new (o := .lst [.ref t]) (s1.fh.free hq)
    have hq2 : (upd F1 q (.lst [.ref t])) q = some (.lst [.ref t]) := upd_same
    generalize upd F1 q (.lst [.ref t]) = F2 at s2 B2 e2 hq2
    generalize upd H1 q (.lst [.ref t]) = H2 at s2 B2
    have lx : xs.length ≤ 5 := by have := ss.1; have := pool.len; omega
    refine ⟨l, q, xs, _, rfl, rfl, s2.fh _ _ (e2 _ _ (e1 _ _ hl)), s2.fh _ _ hq2, by rw [sizeLine_eq]; show xs.length + 1 ≤ _; omega, fun p hp => ?_⟩
    obtain ⟨s3, B3⟩ := newB (o := .lst (xs ++ [.ref t])) s2 B2 hp
    have e3 := same_new (o := .lst (xs ++ [.ref t])) (s2.fh.free hp)
    have hp3 : (upd F2 p (.lst (xs ++ [.ref t]))) p = some (.lst (xs ++ [.ref t])) := upd_same
    generalize upd F2 p (.lst (xs ++ [.ref t])) = F3 at s3 B3 e3 hp3
    generalize upd H2 p (.lst (xs ++ [.ref t])) = H3 at s3 B3
    have all : ∀ v ∈ xs ++ [V.ref t], ∃ sp, Spt F3 v sp ∧ (sp = ground ∨ sp ∈ ps) := fun v hv => by
      rcases List.mem_append.mp hv with z | z
      · obtain ⟨i, hi⟩ := List.mem_iff_getElem?.mp z
        have hlt : i < ps.length := by have := (List.getElem?_eq_some_iff.mp hi).1; have := ss.1; omega
        obtain ⟨x, h1, h2⟩ := ss.2 i _ (List.getElem?_eq_getElem hlt)
        rw [hi] at h1
        cases h1
        exact ⟨_, h2.up (e1.trans (e2.trans e3)), .inr (List.getElem_mem hlt)⟩
      · rw [List.mem_singleton.mp z]
        exact ⟨ground, g1.up (e2.trans e3), .inl rfl⟩
    refine gn ?_
    refine ⟨_, rfl, F3, b, 10, rfl, B3, s3.fh, by decide, sz_of 4 (by decide) (by decide), fun H4 m s4 B4 m0 m1 => ⟨_, rfl, by omega, by omega, fun D hD => ?_⟩⟩
    have s34 := seqB s3 B3 s4
    refine lcM (memB K b) walk_range s4.fh B4 hD (fun i F y => ∃ c : Spot × Rat, PrQ K F y c ∧ (c.1 = ground ∨ c.1 ∈ ps) ∧ Fn 41 c.2) (fun _ _ _ _ e z => by
      obtain ⟨c, h1, h2⟩ := z
      exact ⟨c, h1.up e, h2⟩) (by omega) (fun F' H' e1 e2 => trivial) ?_ ?_
    · rintro i y F5 H5 H'' Kt Kn hi s5 B5 ⟨rfl, rfl⟩ kk
      refine ⟨rfl, lc_yes ⟨_, rfl, _, rfl, F5, b, .ref p, xs ++ [.ref t], rfl, .inl ⟨p, rfl, SqL.of (s5.ff _ _ hp3)⟩, by simp, by rw [List.length_append]; show xs.length + 1 ≤ 1000; omega, B5, s5.fh, fun H6 v jj s6 B6 hj => ?_⟩⟩
      obtain ⟨sp, hsp, hin⟩ := all v (List.mem_of_getElem? hj)
      refine ⟨_, rfl, F5, b, rfl, B6, s6.fh, fun F7 H7 u s7 B7 nu => ⟨by show 2 ≤ sizeLine; decide, fun z hz => ?_⟩⟩
      obtain ⟨x, hx, fx⟩ := nu
      obtain ⟨s8, B8⟩ := newB (o := .tup [v, u]) (seqB s6 B6 s7) B7 hz
      have e8 := same_new (o := .tup [v, u]) (s7.fh.free hz)
      exact kk _ _ _ s8 B8 ⟨(sp, x), ⟨z, v, u, rfl, sq_new, (hsp.up (s5.ff.trans s7.ff)).up e8, hx.up e8⟩, hin, fx⟩
    · intro F5 H5 ys s5 B5 hD5 hy hr'
      obtain ⟨L, pr⟩ := paired_pick (R := fun y c => PrQ K F5 y c ∧ (c.1 = ground ∨ c.1 ∈ ps) ∧ Fn 41 c.2) hr'
      have lL := Paired.length pr
      refine k F5 H5 D ys L (seqB s34 B4 s5) B5 hD5 (Paired.mapP pr fun _ _ z => z.1) ⟨by omega, fun c hc => ?_, fun c hc => ?_⟩
      · obtain ⟨x, _, h⟩ := paired_mem pr c hc
        exact h.2.1
      · obtain ⟨x, _, h⟩ := paired_mem pr c hc
        exact h.2.2
end
end K33

set_option Elab.async false
set_option linter.all false
set_option maxRecDepth 100000
set_option maxHeartbeats 4000000
namespace K33
open PySem PySem.Spec PyProof.Rows L2 Ew
/-! ### how often a spot stands in a row -/
def cnt (L : Tm) (s : Spot) : Nat := (L.filter fun c => decide (c.1 = s)).length
section
variable {L M : Tm} {s : Spot} {k m : Nat} {c : Spot × Rat}
theorem cnt_app : cnt (L ++ M) s = cnt L s + cnt M s := by unfold cnt; rw [List.filter_append, List.length_append]
theorem cnt_perm (h : L.Perm M) : cnt L s = cnt M s := (h.filter _).length_eq
theorem cnt_take (n : Nat) : cnt (L.take n) s ≤ cnt L s := ((List.take_sublist n L).filter _).length_le
theorem cnt_len : cnt L s ≤ L.length := List.length_filter_le _ _
theorem cnt_nodup (h : (keysQ L).Nodup) : cnt L s ≤ 1 := by
  unfold cnt
  have : ((L.filter fun c => decide (c.1 = s)).map (·.1)).Nodup := (List.filter_sublist.map _).nodup h
  generalize hg : (L.filter fun c => decide (c.1 = s)) = G at this
  match G, this with
  | [], _ => exact Nat.zero_le _
  | [_], _ => exact Nat.le_refl _
  | a :: b :: G, nd =>
    have ha : a ∈ L.filter fun c => decide (c.1 = s) := by rw [hg]; simp
    have hb : b ∈ L.filter fun c => decide (c.1 = s) := by rw [hg]; simp
    have e1 : a.1 = s := by simpa using (List.mem_filter.mp ha).2
    have e2 : b.1 = s := by simpa using (List.mem_filter.mp hb).2
    rw [List.map_cons, List.map_cons, List.nodup_cons] at nd
    exact absurd (by rw [e1, e2]; exact List.mem_cons_self) nd.1
theorem sum_fn : ∀ {L : List Rat} {k : Nat}, (∀ x ∈ L, Fn k x) → Fn (1 + L.length * (k + 1)) L.sum
  | [], k, _ => fn_zero.mono (by omega)
  | x :: L, k, h => by
    have := (h x List.mem_cons_self).plus (sum_fn fun y hy => h y (List.mem_cons_of_mem _ hy))
    rw [List.sum_cons]
    refine this.mono ?_
    rw [List.length_cons, Nat.succ_mul]
    omega
theorem tot_fn (h : ∀ c ∈ L, Fn k c.2) (hm : cnt L s ≤ m) : Fn (1 + m * (k + 1)) (tot L s) := by
  unfold tot
  refine (sum_fn (k := k) fun x hx => ?_).mono ?_
  · obtain ⟨c, hc, rfl⟩ := List.mem_map.mp hx
    exact h c (List.mem_filter.mp hc).1
  · rw [List.length_map]
    have : (L.filter fun c => decide (c.1 = s)).length * (k + 1) ≤ m * (k + 1) := Nat.mul_le_mul_right _ hm
    omega
theorem okT_cnt (hs : SokT L) (h : ∀ c ∈ L, Fn k c.2) (hm : ∀ s, cnt L s ≤ m) (k1 : 1 + m * (k + 1) ≤ 2000) (k2 : k ≤ 2000) : OkT L :=
  ⟨hs, fun c hc => (h c hc).mono k2, fun n s => (tot_fn (k := k) (m := m) (fun c hc => h c (List.mem_of_mem_take hc)) (Nat.le_trans (cnt_take n) (hm s))).mono k1⟩
theorem sum_perm : ∀ {L M : List Rat}, L.Perm M → L.sum = M.sum := by
  intro L M h
  induction h with
  | nil => rfl
  | cons x _ ih => rw [List.sum_cons, List.sum_cons, ih]
  | swap x y l =>
    rw [List.sum_cons, List.sum_cons, List.sum_cons, List.sum_cons]
    generalize l.sum = z
    grind
  | trans _ _ i1 i2 => exact i1.trans i2
theorem tot_perm (h : L.Perm M) : tot L s = tot M s := sum_perm ((h.filter _).map _)
theorem ng_perm (h : L.Perm M) : (ngQ L).Perm (ngQ M) := h.filter _
end
/-! ### what stays while the bag is asked -/
def TI (H H' : Hp) : Prop := ∀ p o, H p = some o → (¬ Mut (some o) ∨ ∃ C dx fs, o = .ins C dx fs) → H' p = some o
theorem TI.ts {H H' : Hp} (h : TI H H') : TS H H' := fun p o e n => h p o e (.inl n)
theorem TI.trans {H H' H2 : Hp} (a : TI H H') (b : TI H' H2) : TI H H2 := fun p o e n => b p o (a p o e n) n
theorem TI.of {H H' : Hp} (e : Same H H') : TI H H' := fun p o h _ => e p o h
theorem TI.mut {H : Hp} {p : Addr} {o o' : HO} (h : H p = some o) (m : Mut (some o)) (n : ∀ C dx fs, o ≠ .ins C dx fs) : TI H (upd H p o') := fun x u e k => by
  have ne : x ≠ p := fun z => by
    rw [z, h] at e
    cases e
    rcases k with k | ⟨C, dx, fs, k⟩
    · exact k m
    · exact n _ _ _ k
  rw [upd_ne ne]
  exact e
theorem Sb.ti {K : PySem.W.Frag} {b : Addr} {F H F' H' : Hp} (s : Sb b F H F' H') (B : Bag K b F H) : TI H H' := fun p o e k => by
  refine s.hh p o (fun z => ?_) e
  obtain ⟨_, la, ns, at_, rest, mixed, count, _, _, _, h⟩ := B
  rw [z, h] at e
  cases e
  rcases k with k | ⟨C, dx, fs, k⟩
  · exact k trivial
  · cases k
theorem FmV.ti {K : PySem.W.Frag} {C : Addr} {H H' : Hp} {v : V} {T : Tm} {x : Rat} (h : FmV K C H v T x) (e : TI H H') : FmV K C H' v T x := by
  obtain ⟨o, dx, t, r, h1, h2, h3, h4⟩ := h
  exact ⟨o, dx, t, r, h1, e _ _ h2 (.inr ⟨_, _, _, rfl⟩), h3.ts e.ts, h4.ts e.ts⟩
theorem Paired.permL {α β : Type} {R : α → β → Prop} {xs ys : List α} (h : ys.Perm xs) : ∀ {L : List β}, Paired R xs L → ∃ M, M.Perm L ∧ Paired R ys M := by
  induction h with
  | nil => exact fun p => ⟨_, .refl _, p⟩
  | cons x _ ih =>
    intro L p
    cases p with
    | cons h t =>
      obtain ⟨M, h1, h2⟩ := ih t
      exact ⟨_ :: M, h1.cons _, .cons h h2⟩
  | swap x y l =>
    intro L p
    cases p with
    | cons h t => cases t with
      | cons h2 t2 => exact ⟨_, .swap _ _ _, .cons h2 (.cons h t2)⟩
  | trans _ _ i1 i2 =>
    intro L p
    obtain ⟨M, h1, h2⟩ := i2 p
    obtain ⟨N, h3, h4⟩ := i1 h2
    exact ⟨N, h3.trans h1, h4⟩
theorem BegQ.of {K : PySem.W.Frag} {H : Hp} {xs : List V} {L : Tm} (h : Paired (PrQ K H) xs L) : BegQ K H xs L := ⟨by rw [Paired.length h]; exact Nat.le_refl _, fun i c hc => paired_getR h hc⟩
/-- a row out of a pool -/
theorem Pool.okS {j : Nat} {ps : List Spot} (h : Pool j ps) : OkS ps := fun s hs => ⟨h.ng s hs, h.ok s hs⟩
theorem RowL.sok {j : Nat} {ps : List Spot} {L : Tm} (h : RowL ps L) (p : Pool j ps) : SokT L := fun c hc => by
  rcases h.sp c hc with z | z
  · rw [z]; decide +kernel
  · exact p.ok _ z
theorem RowL.okT {j : Nat} {ps : List Spot} {L : Tm} (h : RowL ps L) (p : Pool j ps) : OkT L := okT_cnt (k := 41) (m := 9) (h.sok p) h.fn (fun s => Nat.le_trans cnt_len h.len) (by decide) (by decide)
theorem RowL.okF {j : Nat} {ps : List Spot} {L T : Tm} (h : RowL ps L) (p : Pool j ps) (pf : IsPf T (tot (ngQ L))) : OkF ps 380 T := by
  refine OkF.of pf (fun s hs => ?_) fun s => ?_
  · rw [tot_ng] at hs
    by_cases g : s = ground
    · rw [if_pos g] at hs; exact absurd rfl hs
    · rw [if_neg g] at hs
      refine Classical.byContradiction fun n => hs ?_
      unfold tot
      have : (L.filter fun c => decide (c.1 = s)) = [] := by
        rw [List.filter_eq_nil_iff]
        intro c hc z
        have e : c.1 = s := by simpa using z
        rcases h.sp c hc with q | q
        · exact g (e.symm.trans q)
        · exact n (e ▸ q)
      rw [this]
      rfl
  · rw [tot_ng]
    by_cases g : s = ground
    · rw [if_pos g]; exact fn_zero.mono (by decide)
    · rw [if_neg g]; exact (tot_fn (k := 41) (m := 9) h.fn (Nat.le_trans cnt_len h.len)).mono (by decide)
end K33

set_option Elab.async false
set_option linter.all false
set_option maxRecDepth 100000
set_option maxHeartbeats 4000000
namespace K33
open PySem PySem.Spec PyProof.Rows L2 Ew
section
variable {P : Program} {w : World} {K : PySem.W.Frag} {mg : Str → Option Value} {base : Heap} {a : Ad}
/-- the same, what comes behind speaks of the place -/
theorem mk_fmA {H : Hp} {p : Addr} {r : V} {xs : List V} {L : Tm} {x : Rat} {Qo : Addr → Hp → Prop} {E : XK} (hp : Row K H p xs) (hl : xs.length ≤ 900) (pr : Paired (PrQ K H) xs L) (ok : OkT L) (hx : Rq K H r x)
    (k1 : ∀ H' o T, Same H H' → FmV K a.Form H' (.ref o) T x → IsPf T (tot (ngQ L)) → Qo o H') :
    ∀ o d, H o = none → H d = none → d ≠ o → sp_Finit K a (.ref o :: [.ref p, r]) (upd (upd H d (.own o)) o (.ins a.Form d [])) (fun v H2 => v = .non ∧ Qo o H2) E := by
  intro o d ho hd ne
  have lx := Paired.length pr
  have ho' : (upd H d (.own o)) o = none := by rw [upd_ne (Ne.symm ne)]; exact ho
  have e0 : Same H (upd (upd H d (.own o)) o (.ins a.Form d [])) := (same_new hd).trans (same_new ho')
  refine ⟨o, d, p, r, xs, L, some x, rfl, upd_same, hp.imp (fun z => upL e0 z) (fun z => upT e0 z), hl, (BegQ.of pr).up e0, ok, fun z hz => ?_, .inl ⟨x, rfl, hx.of e0⟩, ?_, fun lt => absurd lt (by omega), fun _ z => nomatch z⟩
  · rw [List.getElem?_eq_none (by omega)] at hz
    cases hz
  · intro y _ eo H' t r' T' sx h1 h2 h3 pf
    cases eo
    exact ⟨rfl, k1 H' o T' (sx.same e0 ho) ⟨o, d, t, r', rfl, h1, h2, h3⟩ pf⟩
theorem tot_none {L : Tm} {s : Spot} (h : ∀ c ∈ L, c.1 ≠ s) : tot L s = 0 := by
  unfold tot
  have : (L.filter fun c => decide (c.1 = s)) = [] := List.filter_eq_nil_iff.mpr fun c hc => by simp [h c hc]
  rw [this]
  rfl
theorem IsPf.sok {T L : Tm} (h : IsPf T (tot (ngQ L))) (hL : SokT L) : SokT T := fun c hc => by
  obtain ⟨h1, h2⟩ := (h.mem c).mp hc
  refine Classical.byContradiction fun n => h2 ?_
  rw [h1]
  refine tot_none fun d hd e => n ?_
  rw [← e]
  exact hL d (List.mem_filter.mp hd).1
theorem nd_third : nd (1/3) = (1, 3) := by decide +kernel
theorem third_rq {H : Hp} {t : Addr} (h : SqT K H t [.int 1, .int 3]) : Rq K H (.ref t) (1/3) := ⟨t, rfl, by rw [nd_third]; exact h⟩
theorem fn_third : Fn 2 (1/3) := ⟨by unfold Sz; decide +kernel, by unfold Sz; decide +kernel⟩
def sp__law_equal_ones (K : PySem.W.Frag) (a : Ad) : Sp := fun vs H Q _ => ∃ (F : Hp) (b dl pl : Addr) (u v n d0 d1 : V) (xs : List V) (ps : List Spot) (j : Nat) (T1 T2 : Tm) (x1 x2 y : Rat), vs = [.ref b, u, v, .ref dl, .ref pl, n] ∧ Bag K b F H ∧ Same F H ∧
  FmV K a.Form H u T1 x1 ∧ FmV K a.Form H v T2 x2 ∧ SqL K F dl [d0, d1] ∧ PlV K H d0 T1 x1 ∧ PlV K H d1 T2 x2 ∧ F pl = some (.lst xs) ∧ Ss F xs ps ∧ Pool j ps ∧ 1 ≤ j ∧ j ≤ 5 ∧ Rq K H n y ∧ Fn 41 y ∧ OkF ps 380 T1 ∧ OkF ps 380 T2 ∧ Fn 41 x1 ∧ Fn 41 x2 ∧
  ∀ F' H', Sb b F H F' H' → Bag K b F' H' → Q (.bl true) H'
theorem c__law_equal_ones (T : Txt K mg a) : Cl P w K mg base 9 "_law_equal_ones" P__law_equal_ones (sp__law_equal_ones K a) [] :=
  T.d__law_equal_ones.cl sc__law_equal_ones (fun vs H Q E h => by obtain ⟨F, b, dl, pl, u, v, n, d0, d1, xs, ps, j, T1, T2, x1, x2, y, rfl, _⟩ := h; rfl) fun f cdv A outer s H vs Q E hr h => by
    obtain ⟨F, b, dl, pl, u, v, n, d0, d1, xs, ps, j, T1, T2, x1, x2, y, rfl, hB, hf, hu, hv, hdl, hd0, hd1, hpl, ss, pool, j1, j5, hn, fy, ok1, ok2, fx1, fx2, k⟩ := h
    refine ⟨_, ((pss_cons (ps_set (i := 6) sc__law_equal_ones.nd rfl (Or.inl rfl) (pe_op op_cat (pe_callTy call_list_of (by rfl) T.n_list (by decide +kernel) (pa_cons (pe_ix ix_tup (pe_ix ix_list (pv 3) pe_int (fun _ _ => rfl)) pe_int (fun _ _ => rfl)) pa_nil)) (pe_lst (pa_cons (pe_tup (pa_cons (pe_ix ix_list (pv 4) pe_int (fun _ _ => rfl)) (pa_cons (pv 5) pa_nil))) (pa_cons (pe_tup (pa_cons (pe_ix ix_list (pv 4) pe_int (fun _ _ => rfl)) (pa_cons (pe_f (c__law_times T) (takes_of rfl rfl rfl rfl) hr (by decide) rfl (pa_cons (pv 5) (pa_cons (pe_tup (pa_cons (pe_un un_neg pe_int) (pa_cons pe_int pa_nil))) pa_nil))) pa_nil))) (pa_cons (pe_tup (pa_cons (pe_f0 (c__law_ground T) hr (by decide) rfl) (pa_cons (pv 5) pa_nil))) pa_nil))))))
 (pss_cons (ps_set (i := 7) sc__law_equal_ones.nd rfl (Or.inl rfl) (pe_mkW (mk_Form T) (takes_of rfl rfl rfl rfl) hr (by decide) rfl (pa_cons (pe_f (c__law_shuffled T) (takes_of rfl rfl rfl rfl) hr (by decide) rfl (pa_cons (pv 0) (pa_cons (pv 6) pa_nil))) (pa_cons (pe_ix ix_tup (pe_ix ix_list (pv 3) pe_int (fun _ _ => rfl)) pe_int (fun _ _ => rfl)) pa_nil))))
 (pss_cons (ps_if (PW.pt (pw_or (pt_not (pt_val (pe_f (c__law_is T) (takes_of rfl rfl rfl rfl) hr (by decide) rfl (pa_cons (pv 7) (pa_cons (pe_ix ix_list (pv 3) pe_int (fun _ _ => rfl)) pa_nil))))) (pw_or (pt_not (pt_val (pe_f (c__law_alike T) (takes_of rfl rfl rfl rfl) hr (by decide) rfl (pa_cons (pv 7) (pa_cons (pv 1) (pa_cons pe_bl pa_nil)))))) (pw_or1 (pt_not (pt_val (pe_f (c__law_alike T) (takes_of rfl rfl rfl rfl) hr (by decide) rfl (pa_cons (pv 1) (pa_cons (pv 7) (pa_cons pe_bl pa_nil))))))))))
 (pss_one (ps_ret pe_bl))
 pss_nil)
 (pss_cons (ps_if (PW.pt (pw_or (pt_not (pt_val (pe_f (c__law_alike T) (takes_of rfl rfl rfl rfl) hr (by decide) rfl (pa_cons (pv 1) (pa_cons (pv 2) (pa_cons (pe_cmpR (op_eqD hr.units) (pe_ix ix_list (pv 3) pe_int (fun _ _ => rfl)) (pe_ix ix_list (pv 3) pe_int (fun _ _ => rfl)) (nomark _)) pa_nil)))))) (pw_or1 (pt_not (pt_val (pe_f (c__law_alike T) (takes_of rfl rfl rfl rfl) hr (by decide) rfl (pa_cons (pv 2) (pa_cons (pv 1) (pa_cons (pe_cmpR (op_eqD hr.units) (pe_ix ix_list (pv 3) pe_int (fun _ _ => rfl)) (pe_ix ix_list (pv 3) pe_int (fun _ _ => rfl)) (nomark _)) pa_nil)))))))))
 (pss_one (ps_ret pe_bl))
 pss_nil)
 (pss_cons (ps_set (i := 8) sc__law_equal_ones.nd rfl (Or.inl rfl) (pe_mkW (mk_Form T) (takes_of rfl rfl rfl rfl) hr (by decide) rfl (pa_cons (pe_op op_cat (pv 6) (pe_lst (pa_cons (pe_tup (pa_cons (pe_f (c__law_choice T) (takes_of rfl rfl rfl rfl) hr (by decide) rfl (pa_cons (pv 0) (pa_cons (pv 4) pa_nil))) (pa_cons (pe_tup (pa_cons pe_int (pa_cons pe_int pa_nil))) pa_nil))) pa_nil))) (pa_cons (pe_ix ix_tup (pe_ix ix_list (pv 3) pe_int (fun _ _ => rfl)) pe_int (fun _ _ => rfl)) pa_nil))))
 (pss_cons (ps_if (PW.pt (pw_or (pt_not (pt_val (pe_f (c__law_alike T) (takes_of rfl rfl rfl rfl) hr (by decide) rfl (pa_cons (pv 1) (pa_cons (pv 8) (pa_cons pe_bl pa_nil)))))) (pw_or1 (pt_not (pt_val (pe_f (c__law_alike T) (takes_of rfl rfl rfl rfl) hr (by decide) rfl (pa_cons (pv 8) (pa_cons (pv 1) (pa_cons pe_bl pa_nil)))))))))
 (pss_one (ps_ret pe_bl))
 pss_nil)
 (pss_cons (ps_set (i := 9) sc__law_equal_ones.nd rfl (Or.inl rfl) (pe_mkW (mk_Form T) (takes_of rfl rfl rfl rfl) hr (by decide) rfl (pa_cons (pv 6) (pa_cons (pe_f (c__law_plus T) (takes_of rfl rfl rfl rfl) hr (by decide) rfl (pa_cons (pe_ix ix_tup (pe_ix ix_list (pv 3) pe_int (fun _ _ => rfl)) pe_int (fun _ _ => rfl)) (pa_cons (pe_tup (pa_cons pe_int (pa_cons pe_int pa_nil))) pa_nil))) pa_nil))))
 (pss_cons (ps_if (PW.pt (pw_or (pt_not (pt_val (pe_f (c__law_alike T) (takes_of rfl rfl rfl rfl) hr (by decide) rfl (pa_cons (pv 1) (pa_cons (pv 9) (pa_cons pe_bl pa_nil)))))) (pw_or1 (pt_not (pt_val (pe_f (c__law_alike T) (takes_of rfl rfl rfl rfl) hr (by decide) rfl (pa_cons (pv 9) (pa_cons (pv 1) (pa_cons pe_bl pa_nil)))))))))
 (pss_one (ps_ret pe_bl))
 pss_nil)
 (pss_one (ps_ret (pe_and (pe_not (pe_cmp (pc_eqC (o_Form_eq T) T.fnf (takes_of rfl rfl rfl rfl) hr (by decide) (pv 1) (pe_ix ix_list (pv 3) pe_int (fun _ _ => rfl))) rfl)) (pe_one (pe_not (pe_cmp (pc_eqC (o_Form_eq T) T.fnf (takes_of rfl rfl rfl rfl) hr (by decide) (pv 1) (pe_ix ix_tup (pe_ix ix_list (pv 3) pe_int (fun _ _ => rfl)) pe_int (fun _ _ => rfl))) rfl))))))))))))))), ?_⟩
    have lx := ss.1
    have lp := pool.len
    have len1 := ok1.len
    have hS := pool.okS
    obtain ⟨p1, t1, r1, xs1, q1, rfl, a1, b1, c1, rfl, e1⟩ := hd0.at0
    obtain ⟨p0, hp0⟩ : ∃ p, ps[0]? = some p := ⟨_, List.getElem?_eq_getElem (by omega)⟩
    obtain ⟨v0, hv0, qs0, rfl, hqs0⟩ := ss.2 0 p0 hp0
    have mp0 : p0 ∈ ps := List.mem_of_getElem? hp0
    have lx1 := Paired.length c1
    have av0 : atI xs (0 : Int) = some (.ref qs0) := atI_int (by omega) (by omega) hv0
    -- the row
    refine ⟨_, rfl, dl, _, _, _, rfl, rfl, upL hf hdl, at0, p1, _, _, _, rfl, rfl, a1, at0, t1, xs1, rfl, .inr b1, fun q2 hq2 => ?_⟩
    have g1 := same_new (o := .lst xs1) hq2
    have w1 : (upd H q2 (.lst xs1)) q2 = some (.lst xs1) := upd_same
    generalize upd H q2 (.lst xs1) = H1 at g1 w1
    -- (pool[0], number)
    refine ⟨_, rfl, pl, _, _, _, rfl, rfl, SqL.of (g1 _ _ (hf _ _ hpl)), av0, _, rfl, by show 2 ≤ sizeLine; decide, fun t2 ht2 => ?_⟩
    have g2 := g1.trans (same_new (o := .tup [.ref qs0, n]) ht2)
    have w2 : (upd H1 t2 (.tup [.ref qs0, n])) t2 = some (.tup [.ref qs0, n]) := upd_same
    have w12 := (same_new (o := .tup [.ref qs0, n]) ht2) _ _ w1
    generalize upd H1 t2 (.tup [.ref qs0, n]) = H2 at g2 w2 w12
    -- (pool[0], times(number, (-1, 1)))
    refine ⟨_, rfl, pl, _, _, _, rfl, rfl, SqL.of (g2 _ _ (hf _ _ hpl)), av0, _, rfl, _, rfl, by show 2 ≤ sizeLine; decide, fun t3 ht3 => ?_⟩
    have g3 := same_new (o := .tup [.int (-1), .int 1]) ht3
    have w3 : SqT K (upd H2 t3 (.tup [.int (-1), .int 1])) t3 [.int (-1), .int 1] := sq_new
    generalize upd H2 t3 (.tup [.int (-1), .int 1]) = H3 at g3 w3
    refine two_times (F := H3) (E := E) (hn.of (g2.trans g3)) (mone_rq w3) (fy.mono (by decide)) (fn_mone.mono (by decide)) (Same.refl _) fun F4 H4 z st4 hz => ?_
    have g4 := g3.trans st4.same
    have hz4 := hz.of st4.fh
    refine ⟨by show 2 ≤ sizeLine; decide, fun t5 ht5 => ?_⟩
    have g5 := g4.trans (same_new (o := .tup [.ref qs0, z]) ht5)
    have w5 : (upd H4 t5 (.tup [.ref qs0, z])) t5 = some (.tup [.ref qs0, z]) := upd_same
    have hz5 := hz4.of (same_new (o := .tup [.ref qs0, z]) ht5)
    generalize upd H4 t5 (.tup [.ref qs0, z]) = H5 at g5 w5 hz5
    -- (ground, number)
    refine ⟨rfl, fun t6 ht6 => ⟨_, rfl, by show 2 ≤ sizeLine; decide, fun t7 ht7 => ⟨by show 3 ≤ sizeLine; decide, fun q8 hq8 => ?_⟩⟩⟩
    have g6 := same_new (o := .tup (spV ground)) ht6
    have w6 : (upd H5 t6 (.tup (spV ground))) t6 = some (.tup (spV ground)) := upd_same
    generalize upd H5 t6 (.tup (spV ground)) = H6 at *
    have g7 := same_new (o := .tup [.ref t6, n]) ht7
    have w7 : (upd H6 t7 (.tup [.ref t6, n])) t7 = some (.tup [.ref t6, n]) := upd_same
    generalize upd H6 t7 (.tup [.ref t6, n]) = H7 at *
    have g8 := same_new (o := .lst [.ref t2, .ref t5, .ref t7]) hq8
    have w8 : (upd H7 q8 (.lst [.ref t2, .ref t5, .ref t7])) q8 = some (.lst [.ref t2, .ref t5, .ref t7]) := upd_same
    generalize upd H7 q8 (.lst [.ref t2, .ref t5, .ref t7]) = H8 at *
    have g28 := g5.trans (g6.trans (g7.trans g8))
    have g58 := g6.trans (g7.trans g8)
    refine ⟨q2, q8, xs1, _, rfl, rfl, g28 _ _ w12, w8, by rw [sizeLine_eq]; show xs1.length + 3 ≤ _; omega, fun q9 hq9 => ?_⟩
    have g9 := same_new (o := .lst (xs1 ++ [.ref t2, .ref t5, .ref t7])) hq9
    have w9 : (upd H8 q9 (.lst (xs1 ++ [.ref t2, .ref t5, .ref t7]))) q9 = some (.lst (xs1 ++ [.ref t2, .ref t5, .ref t7])) := upd_same
    have gH := g2.trans (g28.trans g9)
    have h0q9 : H q9 = none := by
      cases e : H q9 with
      | none => rfl
      | some o => rw [(g2.trans g28) _ _ e] at hq9; cases hq9
    generalize upd H8 q9 (.lst (xs1 ++ [.ref t2, .ref t5, .ref t7])) = H9 at *
    have g29 := g28.trans g9
    have g59 := g58.trans g9
    have pr3 : Paired (PrQ K H9) [V.ref t2, .ref t5, .ref t7] [(p0, y), (p0, y * -1), (ground, y)] :=
      .cons ⟨t2, _, _, rfl, SqT.of (g29 _ _ w2), ⟨qs0, rfl, gH _ _ (hf _ _ hqs0)⟩, hn.of gH⟩
        (.cons ⟨t5, _, _, rfl, SqT.of (g59 _ _ w5), ⟨qs0, rfl, gH _ _ (hf _ _ hqs0)⟩, hz5.of g59⟩
          (.cons ⟨t7, _, _, rfl, SqT.of ((g8.trans g9) _ _ w7), ⟨t6, rfl, (g7.trans (g8.trans g9)) _ _ w6⟩, hn.of gH⟩ .nil))
    have prR := Paired.app (Paired.mapP c1 fun _ _ q => q.up gH) pr3
    generalize eR : T1 ++ [(p0, y), (p0, y * -1), (ground, y)] = R at prR
    generalize eI : xs1 ++ [V.ref t2, .ref t5, .ref t7] = items at prR w9
    have li : items.length = xs1.length + 3 := by rw [← eI, List.length_append]; rfl
    clear g1 w1 g2 w2 w12 g3 w3 hz hz4 g4 g5 w5 hz5 g6 w6 g7 w7 g8 w8 g28 g58 g9 g29 g59 pr3 ht2 ht3 ht5 ht6 ht7 hq8 hq2
    have sokR : SokT R := fun c hc => by
      rw [← eR] at hc
      rcases List.mem_append.mp hc with q | q
      · exact ok1.sok hS c q
      · simp only [List.mem_cons, List.not_mem_nil, or_false] at q
        rcases q with rfl | rfl | rfl
        · exact pool.ok _ mp0
        · exact pool.ok _ mp0
        · show PyData.strOk ground.1 = true; decide +kernel
    have fnR : ∀ c ∈ R, Fn 380 c.2 := fun c hc => by
      rw [← eR] at hc
      rcases List.mem_append.mp hc with q | q
      · exact ok1.fn c q
      · simp only [List.mem_cons, List.not_mem_nil, or_false] at q
        rcases q with rfl | rfl | rfl
        · exact fy.mono (by decide)
        · exact (fy.times fn_mone).mono (by decide)
        · exact fy.mono (by decide)
    have cntR : ∀ s, cnt R s ≤ 4 := fun s => by
      rw [← eR, cnt_app]
      have h1 := cnt_nodup (s := s) ok1.pf.nodup
      have h2 := cnt_len (L := [(p0, y), (p0, y * -1), (ground, y)]) (s := s)
      have : [(p0, y), (p0, y * -1), (ground, y)].length = 3 := rfl
      omega
    have np0 : p0 ≠ ground := pool.ng _ mp0
    have totR : ∀ s, tot (ngQ R) s = tv T1 s := fun s => by
      rw [← eR, ng_app, tot_app, ok1.ng hS, tot_nodup ok1.pf.nodup, tot_ng]
      by_cases g : s = ground
      · rw [if_pos g]; grind
      · rw [if_neg g]
        have : tot [(p0, y), (p0, y * -1), (ground, y)] s = tot [(p0, y)] s + (tot [(p0, y * -1)] s + tot [(ground, y)] s) := by
          rw [show [(p0, y), (p0, y * -1), (ground, y)] = [(p0, y)] ++ ([(p0, y * -1)] ++ [(ground, y)]) from rfl, tot_app, tot_app]
        rw [this, tot_one, tot_one, tot_one]
        by_cases e : p0 = s
        · rw [if_pos e, if_pos e, if_neg (fun q => g q.symm)]; grind
        · rw [if_neg e, if_neg e, if_neg (fun q => g q.symm)]; grind
    obtain ⟨s9, B9⟩ := pureB (Stm.refl hf) hB (stp_keep hf gH)
    have nq9b : q9 ≠ b := fun q => (memB K b).there hB q h0q9
    obtain ⟨s10, B10⟩ := freezeB s9 B9 (hf.free h0q9) h0q9 nq9b w9
    have w10 : (upd F q9 (.lst items)) q9 = some (.lst items) := upd_same
    have e10 : Same F (upd F q9 (.lst items)) := same_new (hf.free h0q9)
    generalize upd F q9 (.lst items) = F10 at s10 B10 w10 e10
    have i9 : TI H H9 := TI.of gH
    refine gn ?_
    dsimp only
    -- again
    refine seq_asg ?_
    refine ⟨_, rfl, _, rfl, F10, b, q9, items, rfl, B10, s10.fh, SqL.of w10, by omega, fun F11 H11 D ys s11 B11 hD perm => ?_⟩
    have i11 := i9.trans (s11.ti B10)
    have s11' := seqB s10 B10 s11
    obtain ⟨M, pm, prM⟩ := Paired.permL perm (Paired.mapP prR fun _ _ q => q.ts (s11.ti B10).ts)
    have dl11 : SqL K H11 dl [.ref p1, d1] := upL s11'.fh (upL s11'.ff hdl)
    refine ⟨_, rfl, dl, _, _, _, rfl, rfl, dl11, at0, p1, _, _, _, rfl, rfl, sqT_ts i11.ts a1, at1, ?_⟩
    refine mk_fmA (.inl (SqL.of (s11.fh _ _ hD))) (by rw [perm.length_eq]; omega) prM (okT_cnt (k := 380) (m := 4) (fun c hc => sokR c (pm.mem_iff.mp hc)) (fun c hc => fnR c (pm.mem_iff.mp hc)) (fun s => by rw [cnt_perm pm]; exact cntR s) (by decide) (by decide)) (e1.ts i11.ts) fun H12 o12 T12 g12 fm12 pf12 => ?_
    have eT12 : T12 = T1 := pf12.uniq ok1.pf fun s => by rw [tot_perm (ng_perm pm)]; exact totR s
    rw [eT12] at fm12 pf12
    clear eT12
    obtain ⟨s12, B12⟩ := pureB s11' B11 (stp_keep s11'.fh g12)
    have i12 := i11.trans (TI.of g12)
    refine gn ?_
    have sok1 := ok1.sok hS
    have sok2 := ok2.sok hS
    -- it is the first's plain form, and alike
    have len1 := ok1.len
    have len2 := ok2.len
    have dl12 : SqL K H12 dl [.ref p1, d1] := upL s12.fh (upL s12.ff hdl)
    refine ⟨_, rfl, _, rfl, dl, _, _, _, rfl, rfl, dl12, at0, .ref o12, .ref p1, T1, x1, rfl, fm12, PlV.ts hd0 i12.ts, sok1, by omega, fun H13 g13 => ⟨true, rfl, iteF ?_⟩⟩
    have i13 := i12.trans (TI.of g13)
    have fm13 := fm12.up g13
    obtain ⟨s13, B13⟩ := pureB s12 B12 (stp_keep s12.fh g13)
    refine ⟨_, rfl, _, rfl, .ref o12, u, T1, T1, x1, x1, true, rfl, fm13, hu.ti i13, sok1, sok1, by simp, ⟨true, rfl, iteF ?_⟩⟩
    refine ⟨_, rfl, _, rfl, u, .ref o12, T1, T1, x1, x1, true, rfl, hu.ti i13, fm13, sok1, sok1, by simp, ⟨true, rfl, iteF ?_⟩⟩
    have dl13 : SqL K H13 dl [.ref p1, d1] := upL g13 dl12
    have q0 := PlV.ts hd0 i13.ts
    have q1' := PlV.ts hd1 i13.ts
    -- the first and the second
    refine ⟨_, rfl, _, rfl, _, rfl, dl, _, _, _, rfl, rfl, dl13, at0, _, rfl, dl, _, _, _, rfl, rfl, dl13, at1, plD T1 x1, plD T2 x2, q0.dp, q1'.dp, (fl_pl sok1 _).sh (by decide), (fl_pl sok2 _).sh (by decide), u, v, T1, T2, x1, x2, _, rfl, hu.ti i13, hv.ti i13, sok1, sok2, eqv_pl _ _ _ _, ⟨true, rfl, iteF ?_⟩⟩
    refine ⟨_, rfl, _, rfl, _, rfl, dl, _, _, _, rfl, rfl, dl13, at0, _, rfl, dl, _, _, _, rfl, rfl, dl13, at1, plD T1 x1, plD T2 x2, q0.dp, q1'.dp, (fl_pl sok1 _).sh (by decide), (fl_pl sok2 _).sh (by decide), v, u, T2, T1, x2, x1, _, rfl, hv.ti i13, hu.ti i13, sok2, sok1, by rw [eqv_pl]; exact decide_eq_decide.mpr ⟨fun z => ⟨z.1.symm, z.2.symm⟩, fun z => ⟨z.1.symm, z.2.symm⟩⟩, ⟨true, rfl, iteF ?_⟩⟩
    -- the other
    have jA : TI H9 H13 := (s11.ti B10).trans ((TI.of g12).trans (TI.of g13))
    refine ⟨_, rfl, _, rfl, _, rfl, F11, b, .ref pl, xs, rfl, .inl ⟨pl, rfl, SqL.of (s13.ff _ _ hpl)⟩, by intro z; rw [z] at lx; have : (0 : Nat) = ps.length := lx; omega, by omega, B13, s13.fh, fun H14 vp jj s14 B14 hj => ⟨by show 2 ≤ sizeLine; decide, fun t1' ht1 => ⟨by show 2 ≤ sizeLine; decide, fun t2' ht2 => ⟨by show 1 ≤ sizeLine; decide, fun q3 hq3 => ?_⟩⟩⟩⟩
    obtain ⟨pp, qp, mpp, rfl, hqp⟩ : ∃ pp qp, pp ∈ ps ∧ vp = .ref qp ∧ F qp = some (.tup (spV pp)) := by
      have hlt : jj < ps.length := by have := (List.getElem?_eq_some_iff.mp hj).1; omega
      obtain ⟨x, h1, qx, rfl, h2⟩ := ss.2 jj _ (List.getElem?_eq_getElem hlt)
      rw [hj] at h1
      cases h1
      exact ⟨_, qx, List.getElem_mem hlt, rfl, h2⟩
    have s14' := seqB s13 B13 s14
    have j14 := jA.trans (s14.ti B13)
    have i14 := i13.trans (s14.ti B13)
    have g1 := same_new (o := .tup [.int 1, .int 3]) ht1
    have w1 : SqT K (upd H14 t1' (.tup [.int 1, .int 3])) t1' [.int 1, .int 3] := sq_new
    generalize upd H14 t1' (.tup [.int 1, .int 3]) = H15 at *
    have g2 := same_new (o := .tup [.ref qp, .ref t1']) ht2
    have w2 : SqT K (upd H15 t2' (.tup [.ref qp, .ref t1'])) t2' [.ref qp, .ref t1'] := sq_new
    generalize upd H15 t2' (.tup [.ref qp, .ref t1']) = H16 at *
    have g3 := same_new (o := .lst [.ref t2']) hq3
    have w3 : (upd H16 q3 (.lst [.ref t2'])) q3 = some (.lst [.ref t2']) := upd_same
    generalize upd H16 q3 (.lst [.ref t2']) = H17 at *
    have g17 := g1.trans (g2.trans g3)
    have nq : F11 q9 = some (.lst items) := s11.ff _ _ w10
    refine ⟨q9, q3, items, _, rfl, rfl, g17 _ _ (s14.fh _ _ nq), w3, by rw [sizeLine_eq]; show items.length + 1 ≤ _; omega, fun q4 hq4 => ?_⟩
    have g4 := same_new (o := .lst (items ++ [.ref t2'])) hq4
    have w4 : (upd H17 q4 (.lst (items ++ [.ref t2']))) q4 = some (.lst (items ++ [.ref t2'])) := upd_same
    generalize upd H17 q4 (.lst (items ++ [.ref t2'])) = H18 at *
    have g18 := g17.trans g4
    have i18 := i14.trans (TI.of g18)
    have hqp18 : H18 qp = some (.tup (spV pp)) := g18 _ _ (s14'.fh _ _ (s14'.ff _ _ hqp))
    have pr5 : Paired (PrQ K H18) (items ++ [V.ref t2']) (R ++ [(pp, 1/3)]) := Paired.app (Paired.mapP prR fun _ _ q => q.ts (j14.trans (TI.of g18)).ts)
      (.cons ⟨t2', _, _, rfl, upT (g3.trans g4) w2, ⟨qp, rfl, hqp18⟩, third_rq (upT (g2.trans (g3.trans g4)) w1)⟩ .nil)
    have sok5 : SokT (R ++ [(pp, 1/3)]) := fun c hc => by
      rcases List.mem_append.mp hc with q | q
      · exact sokR c q
      · rw [List.mem_singleton.mp q]
        exact pool.ok _ mpp
    have dl18 : SqL K H18 dl [.ref p1, d1] := upL g18 (upL s14'.fh (upL s14'.ff hdl))
    refine ⟨_, rfl, dl, _, _, _, rfl, rfl, dl18, at0, p1, _, _, _, rfl, rfl, sqT_ts i18.ts a1, at1, ?_⟩
    refine mk_fmA (.inl (SqL.of w4)) (by rw [List.length_append]; show items.length + 1 ≤ _; omega) pr5 (okT_cnt (k := 380) (m := 5) sok5 (fun c hc => ?_) (fun s => ?_) (by decide) (by decide)) (e1.ts i18.ts) fun H19 o19 T19 g19 fm19 pf19 => ?_
    · rcases List.mem_append.mp hc with q | q
      · exact fnR c q
      · rw [List.mem_singleton.mp q]
        exact fn_third.mono (by decide)
    · rw [cnt_app]
      have h1 := cntR s
      have h2 := cnt_len (L := [(pp, (1/3 : Rat))]) (s := s)
      have : [(pp, (1/3 : Rat))].length = 1 := rfl
      omega
    have npp : pp ≠ ground := pool.ng _ mpp
    have ne19 : T1 ≠ T19 := fun z => by
      have e1 := pf19.tv pp
      rw [← z, ng_app, tot_app, totR pp, tot_ng, if_neg npp, tot_one, if_pos rfl] at e1
      have e2 : (0 : Rat) = 1/3 := by grind
      exact absurd e2 (by decide +kernel)
    obtain ⟨s19, B19⟩ := pureB s14' B14 (stp_keep s14'.fh (g18.trans g19))
    have i19 := i18.trans (TI.of g19)
    have j19 := j14.trans (TI.of (g18.trans g19))
    clear w1 w2 w3 w4 g1 g2 g3 g4 g17 pr5 dl18 i18 hqp18 ht1 ht2 hq3 hq4 g18 i14
    have sok19 : SokT T19 := pf19.sok sok5
    refine gn ?_
    refine ⟨_, rfl, _, rfl, u, .ref o19, T1, T19, x1, x1, false, rfl, hu.ti i19, fm19, sok1, sok19, by simp [ne19], ⟨true, rfl, iteF ?_⟩⟩
    refine ⟨_, rfl, _, rfl, .ref o19, u, T19, T1, x1, x1, false, rfl, fm19, hu.ti i19, sok19, sok1, by simp [Ne.symm ne19], ⟨true, rfl, iteF ?_⟩⟩
    -- moved
    have dl19 : SqL K H19 dl [.ref p1, d1] := upL s19.fh (upL s19.ff hdl)
    refine ⟨_, rfl, _, rfl, dl, _, _, _, rfl, rfl, dl19, at0, p1, _, _, _, rfl, rfl, sqT_ts i19.ts a1, at1, by show 2 ≤ sizeLine; decide, fun t1' ht1 => ?_⟩
    have g1 := same_new (o := .tup [.int 1, .int 1]) ht1
    have w1 : Rq K (upd H19 t1' (.tup [.int 1, .int 1])) (.ref t1') 1 := ⟨t1', rfl, by rw [nd_one]; exact sq_new⟩
    generalize upd H19 t1' (.tup [.int 1, .int 1]) = H20 at *
    refine two_plus (F := H20) (E := E) ((e1.ts i19.ts).of g1) w1 (fx1.mono (by decide)) (fn_one.mono (by decide)) (Same.refl _) fun F21 H21 z st hz => ?_
    have g21 := g1.trans st.same
    have hz21 := hz.of st.fh
    have i21 := i19.trans (TI.of g21)
    have j21 : TI H9 H21 := j19.trans (TI.of g21)
    refine mk_fmA (.inl (SqL.of (g21 _ _ (s19.fh _ _ nq)))) (by omega) (Paired.mapP prR fun _ _ q => q.ts j21.ts) (okT_cnt (k := 380) (m := 4) sokR fnR cntR (by decide) (by decide)) hz21 fun H22 o22 T22 g22 fm22 pf22 => ?_
    have eT22 : T22 = T1 := pf22.uniq ok1.pf totR
    rw [eT22] at fm22
    have i22 := i21.trans (TI.of g22)
    obtain ⟨s22, B22⟩ := pureB s19 B19 (stp_keep s19.fh (g21.trans g22))
    have nx : x1 ≠ x1 + 1 := fun q => by
      have : (0 : Rat) = 1 := by grind
      exact absurd this (by decide +kernel)
    refine gn ?_
    refine ⟨_, rfl, _, rfl, u, .ref o22, T1, T1, x1, x1 + 1, false, rfl, hu.ti i22, fm22, sok1, sok1, by simp [nx], ⟨true, rfl, iteF ?_⟩⟩
    refine ⟨_, rfl, _, rfl, .ref o22, u, T1, T1, x1 + 1, x1, false, rfl, fm22, hu.ti i22, sok1, sok1, by simp [Ne.symm nx], ⟨true, rfl, iteF ?_⟩⟩
    -- no form is its plain form
    have dl22 : SqL K H22 dl [.ref p1, d1] := upL s22.fh (upL s22.ff hdl)
    have hu22 := hu.ti i22
    obtain ⟨o1, dx1, fs1, rfl, h1, l1⟩ := hu22.ref
    have pw := sqT_ts i22.ts a1
    have tw := sqT_ts i22.ts b1
    refine ⟨_, rfl, _, rfl, dl, _, _, _, rfl, rfl, dl22, at0, o1, dx1, fs1, rfl, h1, .inr (.inr (.inr (.inr ⟨p1, rfl, .inr (.inr ⟨_, pw⟩)⟩))), _, _, T1, x1, rfl, hu22, sok1, .inr ⟨"tuple", by decide, .tup pw, ?_⟩⟩
    refine ⟨false, rfl, true, rfl, ?_⟩
    rw [if_pos rfl]
    refine ⟨_, rfl, _, rfl, dl, _, _, _, rfl, rfl, dl22, at0, p1, _, _, _, rfl, rfl, pw, at0, o1, dx1, fs1, rfl, h1, .inr (.inr (.inr (.inr ⟨t1, rfl, .inr (.inr ⟨_, tw⟩)⟩))), _, _, T1, x1, rfl, hu22, sok1, .inr ⟨"tuple", by decide, .tup tw, ?_⟩⟩
    exact ⟨false, rfl, k _ _ s22 B22⟩
end
end K33

set_option Elab.async false
set_option linter.all false
set_option maxRecDepth 100000
set_option maxHeartbeats 4000000
namespace Ew
open PySem PySem.Spec PyProof.Rows L2
/-! ### a display of one pair, its key a tuple -/
section
variable {X : Cx} {pos : Pos} {k v : Expr} {tk tv : TE}
def tDisT (tk tv : TE) : TE := fun σ H Q => ∀ p, H p = none → tk σ (upd H p (.dT [])) fun x H1 => tv σ H1 fun y H2 => ∃ b ks, x = .ref b ∧ H2 p = some (.dT []) ∧ H2 b = some (.tup (ks.map kV)) ∧ Q (.ref p) (upd H2 p (.dT [(ks, y)]))
/-- what stands when the key and the value are told -/
theorem one_pair {σ : L2.St} {pins : List (Addr × Obj)} {H : Hp} {s : Shared} {d b : Addr} {ks : List Key} {y : V} {r : Value} {h' : Heap} {t : Nat} (I : Inv X pins σ H s) (hd : H d = some (.dT [])) (hb : H b = some (.tup (ks.map kV))) (ry : RelV y r)
    (dd : h'.DictOfH (tupleKind (mixKind X.prog X.w)) d [(ks, b, r)]) (hs : Heap.SameBut d s.heap h') : Inv X pins σ (upd H d (.dT [(ks, y)])) { s with heap := h', toks := t } := by
  have sys := (dt_of I.hok hd).2.1
  have kept : (upd H d (.dT [(ks, y)])) b = some (.tup (ks.map kV)) := by
    rw [upd_ne fun z => by rw [z, hd] at hb; cases hb]
    exact hb
  obtain ⟨qo, es, ep, h1, h2, h3, h4, _, h5⟩ := dd
  exact d_write I (by rw [hd]; exact trivial) hs ⟨qo, h1⟩ ⟨by rw [sizeLine_eq]; show 1 ≤ _; omega, sys, [(ks, b, r)], .cons ⟨rfl, kept, ry⟩ .nil, qo, es, ep, h1, h2, h3, h4, h5⟩
theorem pe_disT (hu : X.A.units < cLine) (hk : PE X k tk) (hv : PE X v tv) : PE X (.Dict [some k] [v] pos) (tDisT tk tv) := .mk fun pins s σ H Q I q => by
  have fr : H s.heap.objs.size = none := I.hok.fresh (Nat.le_refl _)
  have J := I.laid (t' := s.toks) (h' := s.heap.push ⟨.type "dict", none, .dict #[] 0, #[]⟩) (fun _ _ e => Heap.get?_push_of_some _ e) (Nat.le_refl _) (dt_empty s.heap I.big)
  rw [arm_eval_Dict, zip_pairTrees [some k] [v] X.env pos rfl rfl, dictDisplay_pairs _ (fun z => by cases z) (by show 1 < 17; decide)]
  refine wpAny_bind (wpAny_standAt (wpAny_bind (wpAny_subDictH (knd := tupleKind (mixKind X.prog X.w)) (Q := fun d s' => wpAny (model X.prog X.w) X.A (pure (Value.ref d)) (fun v s' => ∃ x H', Inv X pins σ H' s' ∧ RelV x v ∧ Q x H') X.xe s') hu (by show 1 ≤ 15; decide) ?_)))
  refine pairTrees_cons_walk (thn (hk.run pins _ σ _ _ J (q _ fr)) fun u s1 ⟨x, H1, J1, rx, q1⟩ => thn (hv.run pins s1 σ H1 _ J1 q1) fun r s2 ⟨y, H2, J2, ry, b, ks, ex, hp, hb, q2⟩ => pairTrees_nil_walk ?_)
  subst ex
  obtain rfl : u = Value.ref b := rx
  obtain ⟨_, _, xs, rel, dd⟩ := dt_of J2.hok hp
  cases rel
  exact ⟨[(ks, b, r)], ⟨rfl, rfl, key_of J2.hok hb, trivial⟩, dd, fun h' tk' dd' hs => wpAny_pure ⟨.ref s.heap.objs.size, _, one_pair J2 hp hb ry dd' hs, rfl, q2⟩⟩
end
end Ew

set_option Elab.async false
set_option linter.all false
set_option maxRecDepth 100000
set_option maxHeartbeats 4000000
namespace K33
open PySem PySem.Spec PyProof.Rows L2 Ew
/-! ### how big a value can be -/
section
variable {L M R T : Tm} {s : Spot} {k m : Nat} {c : Spot × Rat} {x : Rat}
theorem cnt_cons : cnt (c :: R) s = (if c.1 = s then 1 else 0) + cnt R s := by
  unfold cnt
  rw [List.filter_cons]
  by_cases e : c.1 = s <;> simp [e]
  omega
def sumN (f : Spot → Nat) (T : Tm) : Nat := T.foldr (fun c t => f c.1 + t) 0
theorem sumN_cons {f : Spot → Nat} : sumN f (c :: T) = f c.1 + sumN f T := rfl
theorem sumN_add (f g : Spot → Nat) : ∀ T : Tm, sumN (fun s => f s + g s) T = sumN f T + sumN g T
  | [] => rfl
  | c :: T => by
    rw [sumN_cons, sumN_cons, sumN_cons, sumN_add f g T]
    omega
theorem sumN_mul (f : Spot → Nat) (n : Nat) : ∀ T : Tm, sumN (fun s => f s * n) T = sumN f T * n
  | [] => by show 0 = 0 * n; omega
  | c :: T => by
    rw [sumN_cons, sumN_cons, sumN_mul f n T, Nat.add_mul]
theorem sumN_const (n : Nat) : ∀ T : Tm, sumN (fun _ => n) T = T.length * n
  | [] => by show 0 = 0 * n; omega
  | c :: T => by
    rw [sumN_cons, sumN_const n T, List.length_cons, Nat.succ_mul]
    omega
theorem sumN_one (t : Spot) : ∀ {T : Tm}, (keysQ T).Nodup → sumN (fun s => if t = s then 1 else 0) T ≤ 1 ∧ (t ∉ keysQ T → sumN (fun s => if t = s then 1 else 0) T = 0)
  | [], _ => ⟨by show 0 ≤ 1; omega, fun _ => rfl⟩
  | c :: T, nd => by
    unfold keysQ at nd ⊢
    rw [List.map_cons, List.nodup_cons] at nd
    obtain ⟨h1, h2⟩ := sumN_one t (T := T) nd.2
    rw [sumN_cons]
    by_cases e : t = c.1
    · have := h2 (by rw [e]; exact nd.1)
      rw [if_pos e, this]
      refine ⟨Nat.le_refl _, fun q => absurd ?_ q⟩
      rw [List.map_cons, e]
      exact List.mem_cons_self
    · rw [if_neg e]
      refine ⟨by omega, fun q => ?_⟩
      have := h2 fun z => q (by rw [List.map_cons]; exact List.mem_cons_of_mem _ z)
      omega
theorem cnt_sum (nd : (keysQ T).Nodup) : ∀ R : Tm, sumN (cnt R) T ≤ R.length
  | [] => by
    have : sumN (cnt []) T = sumN (fun _ => 0) T := rfl
    rw [this, sumN_const]
    simp
  | c :: R => by
    have e : cnt (c :: R) = fun s => (if c.1 = s then 1 else 0) + cnt R s := funext fun s => cnt_cons
    rw [e, sumN_add, List.length_cons]
    have := cnt_sum nd R
    have := (sumN_one c.1 nd).1
    omega
theorem vl_fnS {g : Spot → Nat} {k0 kw : Nat} (h0 : Fn k0 x) (hw : ∀ c ∈ L, Fn kw c.2) (w1 : 1 ≤ kw) : ∀ (T : Tm), (∀ c ∈ T, Fn (g c.1) c.2) → Fn (k0 + sumN (fun s => g s + (kw + 1)) T) (vlQ L x T) := by
  intro T
  induction T generalizing k0 x with
  | nil => intro _; simpa [vlQ, sumN] using h0
  | cons c T ih =>
    intro h
    have := ih (k0 := k0 + (g c.1 + kw) + 1) (x := x + c.2 * tv L c.1) (h0.plus ((h c List.mem_cons_self).times (tv_fn hw w1 _))) (fun d hd => h d (List.mem_cons_of_mem _ hd))
    refine Fn.mono this ?_
    rw [sumN_cons]
    omega
theorem RowL.vl {j : Nat} {ps : List Spot} (h : RowL ps R) (p : Pool j ps) (j5 : j ≤ 5) (pf : IsPf T (tot (ngQ R))) (hx : Fn 41 x) (hw : ∀ c ∈ L, Fn 41 c.2) : VlOk T L x := fun n => by
  have hl : (T.take n).length ≤ 5 := by
    have := (h.okF p pf).len
    have := p.len
    rw [List.length_take]
    omega
  have nd : (keysQ (T.take n)).Nodup := by
    unfold keysQ
    exact ((List.take_sublist n T).map _).nodup pf.nodup
  have h1 := vl_fnS (L := L) (g := fun s => 1 + cnt R s * 42) hx hw (by decide) (T.take n) fun c hc => by
    have e := ((pf.mem c).mp (List.mem_of_mem_take hc)).1
    rw [e, tot_ng]
    by_cases g : c.1 = ground
    · rw [if_pos g]; exact fn_zero.mono (by omega)
    · rw [if_neg g]; exact tot_fn (k := 41) h.fn (Nat.le_refl _)
  refine h1.mono ?_
  rw [sumN_add, sumN_add, sumN_mul, sumN_const, sumN_const]
  have h2 := cnt_sum nd R
  have h3 := h.len
  omega
end
/-! ### a world of a row of given numbers -/
theorem Ss.pr {F : Hp} : ∀ {xs : List V} {ps : List Spot}, Ss F xs ps → Paired (fun v p => Spt F v p) xs ps
  | [], [], _ => .nil
  | [], p :: ps, h => by have := h.1; simp at this
  | x :: xs, [], h => by have := h.1; simp at this
  | x :: xs, p :: ps, h => by
    obtain ⟨v, h1, h2⟩ := h.2 0 p rfl
    cases h1
    exact .cons h2 (Ss.pr ⟨by simpa using h.1, fun i q hq => h.2 (i + 1) q hq⟩)
/-- what a filter leaves, by places -/
theorem idx_filter (M : List Spot) (f : Spot → Bool) : ((List.range M.length).filter fun i => f (M.getD i ground)).map (fun i => M.getD i ground) = M.filter f := by
  have e : (List.range M.length).map (fun i => M.getD i ground) = M := by
    refine List.ext_getElem (by rw [List.length_map, List.length_range]) fun i h1 h2 => ?_
    rw [List.getElem_map, List.getElem_range, List.getD_eq_getElem?_getD, List.getElem?_eq_getElem h2]
    rfl
  calc _ = ((List.range M.length).map fun i => M.getD i ground).filter f := by rw [List.filter_map]; rfl
    _ = M.filter f := by rw [e]
theorem paired_idx {K : PySem.W.Frag} {H : Hp} {M : List Spot} {L : Tm} : ∀ {zs : List V} {is : List Nat}, Paired (fun y i => ∃ p, M[i]? = some p ∧ PrQ K H y (p, tv L p)) zs is → Paired (PrQ K H) zs ((is.map fun i => M.getD i ground).map fun p => (p, tv L p))
  | _, _, .nil => .nil
  | _, _, .cons h t => by
    obtain ⟨p, h1, h2⟩ := h
    rw [List.map_cons, List.map_cons]
    refine .cons ?_ (paired_idx t)
    rw [List.getD_eq_getElem?_getD, h1]
    exact h2
theorem paired_flt {K : PySem.W.Frag} {H : Hp} {M : List Spot} {L : Tm} {zs : List V} {n : Nat} (f : Spot → Bool) (hn : n = M.length) (h : Paired (fun y i => ∃ p, M[i]? = some p ∧ PrQ K H y (p, tv L p)) zs ((List.range n).filter fun i => f (M.getD i ground))) :
    Paired (PrQ K H) zs ((M.filter f).map fun p => (p, tv L p)) := by
  subst hn
  have := paired_idx h
  rwa [idx_filter] at this
theorem keys_fr (N : List Spot) (L : Tm) : keysQ ((ground, 0) :: N.map fun p => (p, tv L p)) = ground :: N := by
  unfold keysQ
  rw [List.map_cons, List.map_map]
  show ground :: N.map (fun p => p) = _
  rw [List.map_id']
theorem nxt {D : Ends} {σ : L2.St} {H : Hp} (h : D.nx σ H) : tNext D σ H := h
theorem WdQ.ts {K : PySem.W.Frag} {C : Addr} {H H' : Hp} {v : V} {L : Tm} (h : WdQ K C H v L) (e : TI H H') : WdQ K C H' v L := by
  obtain ⟨x, dx, d, o, kvs, h1, h2, h3, h4⟩ := h
  exact ⟨x, dx, d, o, kvs, h1, e x _ h2 (.inr ⟨_, _, _, rfl⟩), frz_ts e.ts h3, Paired.mapP h4 fun _ _ z => ⟨z.1, z.2.ts e.ts⟩⟩
theorem tv_at {L : Tm} {s : Spot} : ∀ {N : List Spot}, s ∈ N → tv (N.map fun p => (p, tv L p)) s = tv L s
  | [], h => nomatch h
  | p :: N, h => by
    rw [List.map_cons, tv_cons]
    by_cases e : p = s
    · rw [if_pos e, e]
    · rw [if_neg e]
      refine tv_at ?_
      rcases List.mem_cons.mp h with z | z
      · exact absurd z.symm e
      · exact z
theorem vl_same {L M : Tm} {x : Rat} : ∀ {T : Tm}, (∀ c ∈ T, tv L c.1 = tv M c.1) → vlQ L x T = vlQ M x T := by
  intro T
  unfold vlQ
  induction T generalizing x with
  | nil => intro _; rfl
  | cons c T ih =>
    intro h
    rw [List.foldl_cons, List.foldl_cons, h c List.mem_cons_self]
    exact ih fun d hd => h d (List.mem_cons_of_mem _ hd)
section
variable {P : Program} {w : World} {K : PySem.W.Frag} {mg : Str → Option Value} {base : Heap} {a : Ad}
theorem mk_wq {H : Hp} {p : Addr} {xs : List V} {L : Tm} {Qo : Addr → Hp → Prop} {E : XK} (hp : Row K H p xs) (pr : Paired (PrQ K H) xs L) (ndp : (keysQ L).Nodup) (h0 : L[0]? = some (ground, 0)) (sok : SokT L) (len : L.length ≤ 1000)
    (k : ∀ H' o, Same H H' → WdQ K a.World H' (.ref o) L → Qo o H') :
    ∀ o d, H o = none → H d = none → d ≠ o → sp_Winit K a (.ref o :: [.ref p]) (upd (upd H d (.own o)) o (.ins a.World d [])) (fun v H2 => v = .non ∧ Qo o H2) E := by
  have lx := Paired.length pr
  have ne : xs ≠ [] := fun z => by
    rw [z] at lx
    have : L = [] := List.length_eq_zero_iff.mp lx.symm
    rw [this] at h0
    cases h0
  have lm : (L.map fun c => (c.1, nd c.2)).length = xs.length := by rw [List.length_map, lx]
  refine mk_wd (a := a) (L := L.map fun c => (c.1, nd c.2)) (Q := fun v H => match v with | .ref o => Qo o H | _ => False) hp (Same.refl H) (by omega) ⟨by omega, fun i s hs => ?_⟩ ⟨?_, fun s hs => ?_, fun s hs => ?_⟩ (fun s hs => ?_) (fun _ _ F' H' z st hw => ?_) (fun x hx => ?_) (fun h => ?_)
  · rw [List.getElem?_map] at hs
    obtain ⟨c, hc, rfl⟩ := Option.map_eq_some_iff.mp hs
    obtain ⟨x, h1, q, u, w, h2, h3, h4, h5⟩ := paired_getR pr hc
    exact ⟨x, h1, q, u, w, h2, h3, h4, h5, trivial⟩
  · rw [List.map_map]
    exact ndp
  · obtain ⟨c, hc, rfl⟩ := List.mem_map.mp hs
    exact nd_low c.2
  · rw [List.getElem?_map, h0] at hs
    cases hs
    exact ⟨rfl, rfl⟩
  · obtain ⟨c, hc, rfl⟩ := List.mem_map.mp hs
    exact sok c hc
  · obtain ⟨o, dx, d, ob, kvs, rfl, h⟩ := id hw
    exact k H' o st.same (hw.up st.fh)
  · have := (List.getElem?_eq_some_iff.mp hx).1
    omega
  · rcases h with h | h
    · omega
    · exact absurd h ne
def sp__law_called (K : PySem.W.Frag) (a : Ad) : Sp := fun vs H Q _ => ∃ (F : Hp) (b pl : Addr) (u v : V) (xs : List V) (ps : List Spot) (j : Nat) (T : Tm) (x : Rat), vs = [.ref b, u, v, .ref pl] ∧ Bag K b F H ∧ Same F H ∧
  FmV K a.Form H u T x ∧ PlV K H v T x ∧ F pl = some (.lst xs) ∧ Ss F xs ps ∧ Pool j ps ∧ j ≤ 5 ∧ OkF ps 380 T ∧ (∀ L : Tm, (∀ c ∈ L, Fn 41 c.2) → VlOk T L x) ∧
  ∀ F' H', Sb b F H F' H' → Bag K b F' H' → Q (.bl true) H'
theorem c__law_called (T : Txt K mg a) : Cl P w K mg base 9 "_law_called" P__law_called (sp__law_called K a) [] :=
  T.d__law_called.cl sc__law_called (fun vs H Q E h => by obtain ⟨F, b, pl, u, v, xs, ps, j, T1, x, rfl, _⟩ := h; rfl) fun f cdv A outer s H vs Q E hr h => by
    obtain ⟨F, b, pl, u, v, xs, ps, j, T1, x, rfl, hB, hf, hu, hv, hpl, ss, pool, j5, ok1, vlok, k⟩ := h
    refine ⟨_, ((pss_cons (ps_set (i := 4) sc__law_called.nd rfl (Or.inr rfl) (pe_disT (by have := hr.units; omega) (pe_f0 (c__law_ground T) hr (by decide) rfl) (pe_tup (pa_cons pe_int (pa_cons pe_int pa_nil)))))
 (pss_cons (ps_for (passes_of rfl) rfl (pi_list (pv 3)) (pg_name (i := 5) sc__law_called.nd rfl (Or.inl rfl))
 (pss_one (ps_dput (hu_of hr) (pv 4) (pv 5) (pe_f (c__law_number_of T) (takes_of rfl rfl rfl rfl) hr (by decide) rfl (pa_cons (pv 0) pa_nil)) rfl)))
 (pss_cons (ps_set (i := 6) sc__law_called.nd rfl (Or.inl rfl) (pe_f (c__law_shuffled T) (takes_of rfl rfl rfl rfl) hr (by decide) rfl (pa_cons (pv 0) (pa_cons (pv 3) pa_nil))))
 (pss_cons (ps_set (i := 7) sc__law_called.nd rfl (Or.inl rfl) (pe_mkW (mk_World T) (takes_of rfl rfl rfl rfl) hr (by decide) rfl (pa_cons (pe_op op_cat (pe_lst (pa_cons (pe_tup (pa_cons (pe_f0 (c__law_ground T) hr (by decide) rfl) (pa_cons (pe_tup (pa_cons pe_int (pa_cons pe_int pa_nil))) pa_nil))) pa_nil)) (pe_lc (own := [("_law_spot", 5)]) (g := (gName 5)) (by rfl) sc__law_called.nd (pi_list (pv 6)) (blkOk_by (own := [("_law_spot", 5)]) (N := N__law_called) (sc := defScope s__law_called) (by decide +kernel)) (fun _ _ _ _ _ => (pg_name (i := 5) sc__law_called.nd rfl (Or.inl rfl) (hf := .inr rfl))) (fun _ _ _ _ _ => pts_nil) (fun _ _ _ _ _ => (pe_tup (pa_cons (pv 5) (pa_cons (pe_dget (hu_of hr) (pv 4) (pv 5) (fun _ _ => rfl)) pa_nil)))))) pa_nil)))
 (pss_cons (ps_if (pt_not (pt_val (pe_f (c__law_exact T) (takes_of rfl rfl rfl rfl) hr (by decide) rfl (pa_cons (pe_callI (k_Form T) (takes_of rfl rfl rfl rfl) hr (by decide) (pv 1) (pa_cons (pv 7) pa_nil)) (pa_cons (pe_f (c__law_plain_value T) (takes_of rfl rfl rfl rfl) hr (by decide) rfl (pa_cons (pv 4) (pa_cons (pv 2) pa_nil))) pa_nil)))))
 (pss_one (ps_ret pe_bl))
 pss_nil)
 (pss_cons (ps_if (pt_cmpR (op_neD hr.units) (pe_ix ix_tup (pv 2) pe_int (fun _ _ => rfl)) (pe_tup pa_nil) (nomark _))
 (pss_cons (ps_set (i := 8) sc__law_called.nd rfl (Or.inr rfl) (pe_ix ix_tup (pe_f (c__law_choice T) (takes_of rfl rfl rfl rfl) hr (by decide) rfl (pa_cons (pv 0) (pa_cons (pe_ix ix_tup (pv 2) pe_int (fun _ _ => rfl)) pa_nil))) pe_int (fun _ _ => rfl)))
 (pss_cons (ps_set (i := 9) sc__law_called.nd rfl (Or.inl rfl) (pe_mkW (mk_World T) (takes_of rfl rfl rfl rfl) hr (by decide) rfl (pa_cons (pe_op op_cat (pe_lst (pa_cons (pe_tup (pa_cons (pe_f0 (c__law_ground T) hr (by decide) rfl) (pa_cons (pe_tup (pa_cons pe_int (pa_cons pe_int pa_nil))) pa_nil))) pa_nil)) (pe_lc (own := [("_law_spot", 5)]) (g := (gName 5)) (by rfl) sc__law_called.nd (pi_list (pv 6)) (blkOk_by (own := [("_law_spot", 5)]) (N := N__law_called) (sc := defScope s__law_called) (by decide +kernel)) (fun _ _ _ _ _ => (pg_name (i := 5) sc__law_called.nd rfl (Or.inl rfl) (hf := .inr rfl))) (fun _ _ _ _ _ => (pts_one (pt_cmpR (r := rNeD K) (op_neD (by exact hr.units)) (pv 5) (pv 8) (nomark _)))) (fun _ _ _ _ _ => (pe_tup (pa_cons (pv 5) (pa_cons (pe_dget (hu_of hr) (pv 4) (pv 5) (fun _ _ => rfl)) pa_nil)))))) pa_nil)))
 (pss_one (ps_if (pt_not (pt_val (pe_f (c__law_exact T) (takes_of rfl rfl rfl rfl) hr (by decide) rfl (pa_cons (pe_f (c__law_lacking T) (takes_of rfl rfl rfl rfl) hr (by decide) rfl (pa_cons (pv 1) (pa_cons (pv 9) pa_nil))) (pa_cons (pv 8) pa_nil)))))
 (pss_one (ps_ret pe_bl))
 pss_nil))))
 pss_nil)
 (pss_one (ps_ret (pe_f (c__law_exact T) (takes_of rfl rfl rfl rfl) hr (by decide) rfl (pa_cons (pe_callI (k_Form T) (takes_of rfl rfl rfl rfl) hr (by decide) (pv 1) (pa_cons (pv 7) pa_nil)) (pa_cons (pe_f (c__law_plain_value T) (takes_of rfl rfl rfl rfl) hr (by decide) rfl (pa_cons (pv 4) (pa_cons (pv 2) pa_nil))) pa_nil)))))))))))), ?_⟩
    have lx := ss.1
    have lp := pool.len
    have hS := pool.okS
    have sok1 := ok1.sok hS
    obtain ⟨o1, dx1, fs1, rfl, h1, l1⟩ := hu.ref
    have len1 := ok1.len
    have l5 : xs.length ≤ 5 := by omega
    refine fun D hD => ⟨rfl, fun g hg => ⟨by show 2 ≤ sizeLine; decide, fun t ht => ?_⟩⟩
    have nDb : D ≠ b := fun z => (memB K b).there hB z hD
    have fD : F D = none := hf.free hD
    obtain ⟨s1, B1⟩ := rawB (o := .dT []) (Stm.refl hf) hB hD
    have d1 : (upd H D (.dT [])) D = some (.dT []) := upd_same
    generalize upd H D (.dT []) = H1 at s1 B1 d1 hg ht
    have nDg : D ≠ g := fun z => by rw [← z, d1] at hg; cases hg
    obtain ⟨s2, B2⟩ := newB (o := .tup (spV ground)) s1 B1 hg
    have e2 := same_new (o := .tup (spV ground)) (s1.fh.free hg)
    have f2D : (upd F g (.tup (spV ground))) D = none := by rw [upd_ne nDg]; exact fD
    have d2 : (upd H1 g (.tup (spV ground))) D = some (.dT []) := by rw [upd_ne nDg]; exact d1
    have g2 : (upd F g (.tup (spV ground))) g = some (.tup (spV ground)) := upd_same
    generalize upd F g (.tup (spV ground)) = F2 at s2 B2 e2 f2D g2
    generalize upd H1 g (.tup (spV ground)) = H2 at s2 B2 d2 ht
    have nDt : D ≠ t := fun z => by rw [← z, d2] at ht; cases ht
    obtain ⟨s3, B3⟩ := newB (o := .tup [.int 0, .int 1]) s2 B2 ht
    have e3 := same_new (o := .tup [.int 0, .int 1]) (s2.fh.free ht)
    have f3D : (upd F2 t (.tup [.int 0, .int 1])) D = none := by rw [upd_ne nDt]; exact f2D
    have d3 : (upd H2 t (.tup [.int 0, .int 1])) D = some (.dT []) := by rw [upd_ne nDt]; exact d2
    have t3 : Rq K (upd F2 t (.tup [.int 0, .int 1])) (.ref t) 0 := ⟨t, rfl, by rw [nd_zero]; exact sq_new⟩
    have g3 := e3 _ _ g2
    generalize upd F2 t (.tup [.int 0, .int 1]) = F3 at s3 B3 e3 f3D t3 g3
    generalize upd H2 t (.tup [.int 0, .int 1]) = H3 at s3 B3 d3
    refine ⟨g, spK ground, rfl, d3, s3.fh _ _ g3, ?_⟩
    obtain ⟨s4, B4⟩ := mutB (o := .dT [(spK ground, .ref t)]) s3 B3 f3D hD nDb
    have d4 : (upd H3 D (.dT [(spK ground, .ref t)])) D = some (.dT [(spK ground, .ref t)]) := upd_same
    have kv4 : KvQ K F3 [(spK ground, .ref t)] [(ground, 0)] := .cons ⟨rfl, t3⟩ .nil
    generalize upd H3 D (.dT [(spK ground, .ref t)]) = H4 at s4 B4 d4
    refine gn ?_
    refine ⟨_, rfl, pl, rfl, ⟨xs, upL s4.fh (upL s4.ff (SqL.of hpl))⟩, ?_⟩
    refine for_it (walk_list (a := pl) (xs := xs)) (fun i σ' H' => ∃ F' kvs L c5, σ' = [some (.ref b), some (.ref o1), some v, some (.ref pl), some (.ref D), c5, none, none, none, none] ∧ Sb b F H F' H' ∧ Bag K b F' H' ∧ F' D = none ∧ H' D = some (.dT kvs) ∧ KvQ K F' kvs L ∧ keysQ L = ground :: ps.take i ∧ L[0]? = some (ground, 0) ∧ ∀ c ∈ L, Fn 41 c.2) ?_ ?_ ?_ ?_
    · exact ⟨F3, _, _, none, rfl, s4, B4, f3D, d4, kv4, rfl, rfl, fun c hc => by rw [List.mem_singleton.mp hc]; exact fn_zero.mono (by decide)⟩
    · rintro i σ' H' _ ⟨F', kvs, L, c5, _, s5, _⟩
      exact upL s5.fh (upL s5.ff (SqL.of hpl))
    · rintro i v' _ H5 H5' hi ⟨F5, kvs, L, c5, rfl, s5, B5, f5, h5, kv5, keys5, l0, fn5⟩ ⟨eH, hv'⟩
      subst eH
      obtain ⟨p, hp⟩ : ∃ p, ps[i]? = some p := ⟨_, List.getElem?_eq_getElem (by omega)⟩
      obtain ⟨v2, hv2, q, rfl, hq⟩ := ss.2 i p hp
      rw [hv'] at hv2
      cases hv2
      refine ⟨_, rfl, F5, b, rfl, B5, s5.fh, fun F6 H6 z s6 B6 nu => ?_⟩
      obtain ⟨y, hy, fy⟩ := nu
      have s56 := seqB s5 B5 s6
      have f6 : F6 D = none := s6.nw D f5 (by rw [h5]; exact fun z => nomatch z)
      have h6 : H6 D = some (.dT kvs) := s6.hh D _ nDb h5
      have kl := kv5.len
      have ll : L.length = i + 1 := by
        have : (keysQ L).length = i + 1 := by rw [keys5, List.length_cons, List.length_take]; omega
        rw [← this]
        unfold keysQ
        rw [List.length_map]
      refine ⟨_, rfl, _, rfl, D, _, rfl, DPut.t (k := spK p) h6 (s6.fh _ _ (s56.ff _ _ hq)) (by rw [sizeLine_eq]; omega), ?_⟩
      have nin : p ∉ keysQ L := by
        rw [keys5]
        intro z
        rcases List.mem_cons.mp z with z | z
        · exact pool.ng p (List.mem_of_getElem? hp) z
        · obtain ⟨m, hm⟩ := List.mem_iff_getElem?.mp z
          rw [List.getElem?_take] at hm
          by_cases lt : m < i
          · rw [if_pos lt] at hm
            exact absurd ((List.getElem?_inj (by omega) pool.nd).mp (hm.trans hp.symm)) (by omega)
          · rw [if_neg lt] at hm
            cases hm
      obtain ⟨s7, B7⟩ := mutB (o := .dT (putK kvs (spK p) z)) s56 B6 f6 hD nDb
      refine ⟨F6, _, putQ L p y, _, rfl, s7, B7, f6, upd_same, (kv5.ts (Same.ts s6.ff)).put hy, ?_, ?_, ?_⟩
      · rw [keys_put_out nin, keys5, List.take_add_one, hp]
        rfl
      · unfold putQ
        rw [if_neg nin, List.getElem?_append_left (by omega)]
        exact l0
      · unfold putQ
        rw [if_neg nin]
        intro c hc
        rcases List.mem_append.mp hc with q | q
        · exact fn5 c q
        · rw [List.mem_singleton.mp q]
          exact fy
    · rintro _ H5 ⟨F5, kvs, L, c5, rfl, s5, B5, f5, h5, kv5, keys5, l0, fn5⟩
      rw [List.take_of_length_le (by omega)] at keys5
      obtain ⟨s6, B6⟩ := freezeB s5 B5 f5 hD nDb h5
      have e6 : Same F5 (upd F5 D (.dT kvs)) := same_new f5
      have d6 : (upd F5 D (.dT kvs)) D = some (.dT kvs) := upd_same
      have kv6 := kv5.ts (Same.ts e6)
      generalize upd F5 D (.dT kvs) = F6 at s6 B6 e6 d6 kv6
      have i5 := s6.ti hB
      -- the order
      refine ⟨_, rfl, _, rfl, F6, b, pl, xs, rfl, B6, s6.fh, SqL.of (s6.ff _ _ hpl), by omega, fun F7 H7 O ys s7 B7 hO perm => ?_⟩
      obtain ⟨M, pm, prM⟩ := Paired.permL perm (ss.up (s6.ff.trans s7.ff)).pr
      have s67 := seqB s6 B6 s7
      have i7 := i5.trans (s7.ti B6)
      have d7 : F7 D = some (.dT kvs) := s7.ff _ _ d6
      have kv7 := kv6.ts (Same.ts s7.ff)
      have hM : ∀ p, p ∈ M ↔ p ∈ ps := fun p => pm.mem_iff
      have ndM : M.Nodup := pm.nodup_iff.mpr pool.nd
      have lM : M.length ≤ 5 := by have := pm.length_eq; omega
      have ly := Paired.length prM
      clear s1 B1 d1 s2 B2 e2 f2D d2 g2 s3 B3 e3 f3D d3 t3 g3 s4 B4 d4 kv4 s5 B5 f5 h5 kv5 s6 B6 e6 d6 kv6 i5
      refine gn ?_
      -- the world
      refine ⟨rfl, fun g1' hg1 => ⟨by show 2 ≤ sizeLine; decide, fun t1 ht1 => ⟨by show 2 ≤ sizeLine; decide, fun t2 ht2 => ⟨by show 1 ≤ sizeLine; decide, fun q1 hq1 => ?_⟩⟩⟩⟩
      have g1 := same_new (o := .tup (spV ground)) hg1
      have w1 : (upd H7 g1' (.tup (spV ground))) g1' = some (.tup (spV ground)) := upd_same
      generalize upd H7 g1' (.tup (spV ground)) = H8 at *
      have g2 := same_new (o := .tup [.int 0, .int 1]) ht1
      have w2 : Rq K (upd H8 t1 (.tup [.int 0, .int 1])) (.ref t1) 0 := ⟨t1, rfl, by rw [nd_zero]; exact sq_new⟩
      generalize upd H8 t1 (.tup [.int 0, .int 1]) = H9 at *
      have g3 := same_new (o := .tup [.ref g1', .ref t1]) ht2
      have w3 : SqT K (upd H9 t2 (.tup [.ref g1', .ref t1])) t2 [.ref g1', .ref t1] := sq_new
      generalize upd H9 t2 (.tup [.ref g1', .ref t1]) = H10 at *
      have g4 := same_new (o := .lst [.ref t2]) hq1
      have w4 : (upd H10 q1 (.lst [.ref t2])) q1 = some (.lst [.ref t2]) := upd_same
      generalize upd H10 q1 (.lst [.ref t2]) = H11 at *
      have hd11 : PrQ K H11 (.ref t2) (ground, 0) := ⟨t2, _, _, rfl, upT g4 w3, ⟨g1', rfl, (g2.trans (g3.trans g4)) _ _ w1⟩, w2.of (g3.trans g4)⟩
      have gA := g1.trans (g2.trans (g3.trans g4))
      have e11 : Same F7 H11 := fun p o z => gA _ _ (s67.fh _ _ z)
      clear g1 w1 g2 w2 g3 w3 g4 hg1 ht1 ht2 hq1
      refine ⟨_, rfl, O, rfl, ⟨ys, SqL.of (e11 _ _ hO)⟩, fun D2 hD2 => ?_⟩
      refine lcH (walk_list (a := O) (xs := ys)) (fun i => (fun _ => true) (M.getD i ground)) (Same.refl H11) hD2 (fun i H z => ∃ p, M[i]? = some p ∧ PrQ K H z (p, tv L p)) (fun i H H' z e h => by
        obtain ⟨c, h1, h2⟩ := h
        exact ⟨c, h1, h2.ts e⟩) (by omega) (fun F' H' _ _ e4 => upL e4 (SqL.of (e11 _ _ hO))) ?_ ?_
      · rintro i v' F' _ H' Kt Kn hi st ⟨eH, hv'⟩ ky kn
        subst eH
        have same := e11.trans st.same
        obtain ⟨p, hp, q, rfl, hq⟩ := paired_get prM hv'
        obtain ⟨z, hz1, hz2, hz3⟩ : ∃ w, valV kvs (spK p) = some w ∧ p ∈ keysQ L ∧ Rq K F7 w (tv L p) := by
          rcases kv7.get p with ⟨_, n⟩ | z
          · refine absurd ?_ n
            rw [keys5]
            exact List.mem_cons_of_mem _ ((hM p).mp (List.mem_of_getElem? hp))
          · exact z
        have dg : DGet H' D (.ref q) (some z) := .inr ⟨kvs, spK p, q, .inl (same _ _ d7), rfl, same _ _ hq, hz1.symm⟩
        refine ⟨rfl, lc_yes ⟨_, rfl, _, rfl, _, rfl, D, _, rfl, dg, by show 2 ≤ sizeLine; decide, fun t ht => ?_⟩⟩
        have e6 : Same H' (upd H' t (.tup [.ref q, z])) := same_new ht
        exact ky rfl _ F' _ (stp_keep st.fh e6) ⟨p, hp, t, _, _, rfl, sq_new, ⟨q, rfl, e6 _ _ (same _ _ hq)⟩, hz3.of (same.trans e6)⟩
      · intro F12 H12 zs s12 hz12 pr12
        have pr13 := paired_flt (fun _ => true) ly pr12
        have fM : M.filter (fun _ => true) = M := List.filter_eq_self.mpr fun _ _ => rfl
        rw [fM] at pr13
        have lz := Paired.length pr13
        rw [List.length_map] at lz
        have g12 := s12.same
        refine ⟨q1, D2, _, zs, rfl, rfl, g12 _ _ w4, s12.fh _ _ hz12, by rw [sizeLine_eq]; show 1 + zs.length ≤ _; omega, fun q2 hq2 => ?_⟩
        have g13 := same_new (o := .lst ([.ref t2] ++ zs)) hq2
        have w13 : SqL K (upd H12 q2 (.lst ([.ref t2] ++ zs))) q2 ([.ref t2] ++ zs) := SqL.of upd_same
        generalize upd H12 q2 (.lst ([.ref t2] ++ zs)) = H13 at *
        have prW : Paired (PrQ K H13) ([.ref t2] ++ zs) ((ground, 0) :: M.map fun p => (p, tv L p)) := .cons (hd11.up (g12.trans g13)) (Paired.mapP pr13 fun _ _ z => z.up g13)
        have sokM : SokT ((ground, 0) :: M.map fun p => (p, tv L p)) := fun c hc => by
          rcases List.mem_cons.mp hc with z | z
          · rw [z]; show PyData.strOk ground.1 = true; decide +kernel
          · obtain ⟨p, hp, rfl⟩ := List.mem_map.mp z
            exact pool.ok p ((hM p).mp hp)
        have ndW : (keysQ ((ground, 0) :: M.map fun p => (p, tv L p))).Nodup := by
          rw [keys_fr, List.nodup_cons]
          exact ⟨fun z => pool.ng ground ((hM ground).mp z) rfl, ndM⟩
        have fnW : ∀ c ∈ (ground, (0 : Rat)) :: M.map fun p => (p, tv L p), Fn 41 c.2 := fun c hc => by
          rcases List.mem_cons.mp hc with z | z
          · rw [z]; exact fn_zero.mono (by decide)
          · obtain ⟨p, hp, rfl⟩ := List.mem_map.mp z
            exact tv_fn fn5 (by decide) p
        refine mk_wq (.inl w13) prW ndW rfl sokM (by rw [List.length_cons, List.length_map]; omega) fun H14 o14 g14 wd14 => ?_
        have gB := gA.trans (g12.trans (g13.trans g14))
        clear g12 g13 w13 prW g14 hd11 e11 hz12 pr12 pr13 s12 hD2 hq2
        obtain ⟨s14, B14⟩ := pureB s67 B7 (stp_keep s67.fh gB)
        have i14 := i7.trans (TI.of gB)
        refine gn ?_
        have there : ∀ c ∈ T1, c.1 ∈ M := fun c hc => (hM _).mpr (ok1.sb _ (List.mem_map.mpr ⟨c, hc, rfl⟩))
        have thL : ∀ c ∈ T1, c.1 ∈ keysQ L := fun c hc => by rw [keys5]; exact List.mem_cons_of_mem _ ((hM _).mp (there c hc))
        have thW : ∀ c ∈ T1, c.1 ∈ keysQ ((ground, 0) :: M.map fun p => (p, tv L p)) := fun c hc => by rw [keys_fr]; exact List.mem_cons_of_mem _ (there c hc)
        have same : vlQ ((ground, 0) :: M.map fun p => (p, tv L p)) x T1 = vlQ L x T1 := vl_same fun c hc => by
          rw [tv_cons, if_neg fun z => pool.ng _ ((hM _).mp (there c hc)) z.symm]
          exact tv_at (there c hc)
        generalize (ground, (0 : Rat)) :: M.map (fun p => (p, tv L p)) = W at *
        have d14 : H14 D = some (.dT kvs) := s14.fh _ _ d7
        refine ⟨_, rfl, o1, rfl, _, rfl, ⟨_, _, i14 o1 _ h1 (.inr ⟨_, _, _, rfl⟩)⟩, .ref o1, .ref o14, T1, W, x, 380, 41, rfl, hu.ti i14, wd14, vlok W fnW, ok1.fn, fnW, by decide, by omega, by decide, fun hin H15 z15 g15 hz15 => ?_, fun i d hd thd ndn H' v dd e hs hdd => absurd (thW d (List.mem_of_getElem? hd)) ndn⟩
        refine ⟨_, rfl, _, rfl, D, v, kvs, T1, L, x, 380, 41, rfl, g15 _ _ d14, kv7.ts (Same.ts fun p o z => g15 _ _ (s14.fh _ _ z)), hv.ts (i14.trans (TI.of g15)).ts, vlok L fn5, ok1.fn, fn5, by decide, by omega, by decide, thL, fun H16 z16 g16 hz16 => ⟨z15, z16, rfl, ex_rq (n := 4) (hz15.of g16) (same ▸ hz16), true, rfl, iteF ?_⟩⟩
        obtain ⟨s16, B16⟩ := pureB s14 B14 (stp_keep s14.fh (g15.trans g16))
        have i16 := i14.trans (TI.of (g15.trans g16))
        have wd16 := wd14.up (g15.trans g16)
        obtain ⟨p1, t1', r1, xs1, q1', rfl, a1, b1, c1, rfl, e1⟩ := hv.at0
        have a16 := sqT_ts i16.ts a1
        have b16 := sqT_ts i16.ts b1
        have keep : ∀ {F' H'}, Sb b F7 H16 F' H' → TI H16 H' := fun z => z.ti B16
        refine nxt ?_
        dsimp only
        refine seq_with (fun σ' H' => ∃ c8 c9 F', σ' = [some (.ref b), some (.ref o1), some (.ref p1), some (.ref pl), some (.ref D), c5, some (.ref O), some (.ref o14), c8, c9] ∧ Sb b F7 H16 F' H' ∧ Bag K b F' H') (fun u hu' => ?_) ?_
        · refine ⟨_, rfl, p1, _, _, _, rfl, rfl, a16, at0, Nat.zero_le _, fun q0 hq0 => ?_⟩
          have g0 := same_new (o := .tup []) hq0
          have w0 : SqT K (upd H16 q0 (.tup [])) q0 [] := sq_new
          generalize upd H16 q0 (.tup []) = H17 at *
          have a17 := upT g0 a16
          have b17 := upT g0 b16
          have c17 : Paired (PrQ K H17) xs1 T1 := Paired.mapP c1 fun _ _ z => z.ts (i16.trans (TI.of g0)).ts
          refine ⟨tmD T1, tmD [], TmV.dp ⟨t1', xs1, rfl, b17, c17⟩, TmV.dp ⟨q0, [], rfl, w0, .nil⟩, (fl_tm sok1).sh (by decide), (fl_tm (T := []) fun _ z => nomatch z).sh (by decide), ?_⟩
          rw [eqv_tm]
          obtain ⟨s17, B17⟩ := pureB (Stm.refl s16.fh) B16 (stp_keep s16.fh g0)
          refine ⟨_, rfl, ?_⟩
          by_cases hT : T1 = []
          · rw [decide_eq_true hT]
            exact hu' _ _ ⟨_, _, F7, rfl, s17, B17⟩
          · rw [decide_eq_false hT]
            refine iteT ?_
            have ne1 : xs1 ≠ [] := fun z => by
              rw [z] at c1
              cases c1
              exact hT rfl
            have lx1 := Paired.length c1
            have i17 := i16.trans (TI.of g0)
            -- the spot that is left out
            refine ⟨_, rfl, _, rfl, p1, _, _, _, rfl, rfl, a17, at0, F7, b, .ref t1', xs1, rfl, .inr (.inr (.inr ⟨t1', rfl, fun F' H' st => sqT_ts (st.ti B17).ts b17⟩)), ne1, by omega, B17, s17.fh, fun H18 vp jj s18 B18 hj => ?_⟩
            obtain ⟨c, hc, qc, uc, wc, rfl, hqc, ⟨qs, rfl, hqs⟩, hwc⟩ := paired_get c17 hj
            have i18 := s18.ti B17
            refine ⟨qc, _, _, _, rfl, rfl, sqT_ts i18.ts hqc, at0, ?_⟩
            have hqs18 : H18 qs = some (.tup (spV c.1)) := tup_ts i18.ts hqs
            have s18' := seqB s17 B17 s18
            have hcT : c ∈ T1 := List.mem_of_getElem? hc
            have hcp : c.1 ∈ ps := (hM _).mp (there c hcT)
            refine gn ?_
            obtain ⟨h7s, hb7s, hc7s⟩ : Same F7 H18 ∧ TI H16 H18 ∧ True := ⟨s18'.fh.trans (Same.refl _), (TI.of g0).trans i18, trivial⟩
            -- the lesser world
            refine ⟨rfl, fun g1' hg1 => ⟨by show 2 ≤ sizeLine; decide, fun t1 ht1 => ⟨by show 2 ≤ sizeLine; decide, fun t2 ht2 => ⟨by show 1 ≤ sizeLine; decide, fun q1 hq1 => ?_⟩⟩⟩⟩
            have g1 := same_new (o := .tup (spV ground)) hg1
            have w1 : (upd H18 g1' (.tup (spV ground))) g1' = some (.tup (spV ground)) := upd_same
            generalize upd H18 g1' (.tup (spV ground)) = H19 at *
            have g2 := same_new (o := .tup [.int 0, .int 1]) ht1
            have w2 : Rq K (upd H19 t1 (.tup [.int 0, .int 1])) (.ref t1) 0 := ⟨t1, rfl, by rw [nd_zero]; exact sq_new⟩
            generalize upd H19 t1 (.tup [.int 0, .int 1]) = H20 at *
            have g3 := same_new (o := .tup [.ref g1', .ref t1]) ht2
            have w3 : SqT K (upd H20 t2 (.tup [.ref g1', .ref t1])) t2 [.ref g1', .ref t1] := sq_new
            generalize upd H20 t2 (.tup [.ref g1', .ref t1]) = H21 at *
            have g4 := same_new (o := .lst [.ref t2]) hq1
            have w4' : (upd H21 q1 (.lst [.ref t2])) q1 = some (.lst [.ref t2]) := upd_same
            generalize upd H21 q1 (.lst [.ref t2]) = H22 at *
            have hd22 : PrQ K H22 (.ref t2) (ground, 0) := ⟨t2, _, _, rfl, upT g4 w3, ⟨g1', rfl, (g2.trans (g3.trans g4)) _ _ w1⟩, w2.of (g3.trans g4)⟩
            have gC := g1.trans (g2.trans (g3.trans g4))
            have e22 : Same F7 H22 := fun p o z => gC _ _ (h7s _ _ z)
            have hqs22 := gC _ _ hqs18
            clear g1 w1 g2 w2 g3 w3 g4 hg1 ht1 ht2 hq1
            refine ⟨_, rfl, O, rfl, ⟨ys, SqL.of (e22 _ _ hO)⟩, fun D2 hD2 => ?_⟩
            refine lcH (walk_list (a := O) (xs := ys)) (fun i => (fun p => !decide (p = c.1)) (M.getD i ground)) (Same.refl H22) hD2 (fun i H z => ∃ p, M[i]? = some p ∧ PrQ K H z (p, tv L p)) (fun i H H' z e h => by
              obtain ⟨c, h1, h2⟩ := h
              exact ⟨c, h1, h2.ts e⟩) (by omega) (fun F' H' _ _ e4 => upL e4 (SqL.of (e22 _ _ hO))) ?_ ?_
            · rintro i v' F' _ H' Kt Kn hi st ⟨eH, hv'⟩ ky kn
              subst eH
              have same := e22.trans st.same
              obtain ⟨p, hp, q, rfl, hq⟩ := paired_get prM hv'
              obtain ⟨z, hz1, hz2, hz3⟩ : ∃ w, valV kvs (spK p) = some w ∧ p ∈ keysQ L ∧ Rq K F7 w (tv L p) := by
                rcases kv7.get p with ⟨_, n⟩ | z
                · refine absurd ?_ n
                  rw [keys5]
                  exact List.mem_cons_of_mem _ ((hM p).mp (List.mem_of_getElem? hp))
                · exact z
              have dg : DGet H' D (.ref q) (some z) := .inr ⟨kvs, spK p, q, .inl (same _ _ d7), rfl, same _ _ hq, hz1.symm⟩
              have pd : M.getD i ground = p := by rw [List.getD_eq_getElem?_getD, hp]; rfl
              have spp : PyData.strOk p.1 = true := pool.ok p ((hM p).mp (List.mem_of_getElem? hp))
              refine ⟨rfl, _, rfl, _, rfl, spD p, spD c.1, Spt.dp ⟨q, rfl, same _ _ hq⟩, Spt.dp ⟨qs, rfl, st.same _ _ hqs22⟩, (fl_sp spp).sh (by decide), (fl_sp (sok1 c hcT)).sh (by decide), _, rfl, ?_⟩
              rw [eqv_sp]
              by_cases e : p = c.1
              · rw [decide_eq_true e]
                exact kn (by rw [pd]; simp [e]) F' _ (stp_keep st.fh (Same.refl _))
              · rw [decide_eq_false e]
                refine iteT ⟨_, rfl, _, rfl, _, rfl, D, _, rfl, dg, by show 2 ≤ sizeLine; decide, fun t ht => ?_⟩
                have e6 : Same H' (upd H' t (.tup [.ref q, z])) := same_new ht
                exact ky (by rw [pd]; simp [e]) _ F' _ (stp_keep st.fh e6) ⟨p, hp, t, _, _, rfl, sq_new, ⟨q, rfl, e6 _ _ (same _ _ hq)⟩, hz3.of (same.trans e6)⟩
            · intro F12 H23 zs s12 hz12 pr12
              have pr13 := paired_flt (fun p => !decide (p = c.1)) ly pr12
              generalize hN : M.filter (fun p => !decide (p = c.1)) = N at pr13
              have hNm : ∀ p, p ∈ N ↔ p ∈ M ∧ p ≠ c.1 := fun p => by rw [← hN, List.mem_filter]; simp
              have ndN : N.Nodup := by rw [← hN]; exact List.filter_sublist.nodup ndM
              have lN : N.length ≤ M.length := by rw [← hN]; exact List.length_filter_le _ _
              have lz := Paired.length pr13
              rw [List.length_map] at lz
              have g12 := s12.same
              refine ⟨q1, D2, _, zs, rfl, rfl, g12 _ _ w4', s12.fh _ _ hz12, by rw [sizeLine_eq]; show 1 + zs.length ≤ _; omega, fun q2 hq2 => ?_⟩
              have g13 := same_new (o := .lst ([.ref t2] ++ zs)) hq2
              have w13 : SqL K (upd H23 q2 (.lst ([.ref t2] ++ zs))) q2 ([.ref t2] ++ zs) := SqL.of upd_same
              generalize upd H23 q2 (.lst ([.ref t2] ++ zs)) = H24 at *
              have prW : Paired (PrQ K H24) ([.ref t2] ++ zs) ((ground, 0) :: N.map fun p => (p, tv L p)) := .cons (hd22.up (g12.trans g13)) (Paired.mapP pr13 fun _ _ z => z.up g13)
              have sokN : SokT ((ground, 0) :: N.map fun p => (p, tv L p)) := fun c hc => by
                rcases List.mem_cons.mp hc with z | z
                · rw [z]; show PyData.strOk ground.1 = true; decide +kernel
                · obtain ⟨p, hp, rfl⟩ := List.mem_map.mp z
                  exact pool.ok p ((hM p).mp ((hNm p).mp hp).1)
              have ndW2 : (keysQ ((ground, 0) :: N.map fun p => (p, tv L p))).Nodup := by
                rw [keys_fr, List.nodup_cons]
                exact ⟨fun z => pool.ng ground ((hM ground).mp ((hNm _).mp z).1) rfl, ndN⟩
              have fnW2 : ∀ c ∈ (ground, (0 : Rat)) :: N.map fun p => (p, tv L p), Fn 41 c.2 := fun c hc => by
                rcases List.mem_cons.mp hc with z | z
                · rw [z]; exact fn_zero.mono (by decide)
                · obtain ⟨p, hp, rfl⟩ := List.mem_map.mp z
                  exact tv_fn fn5 (by decide) p
              refine mk_wq (.inl w13) prW ndW2 rfl sokN (by rw [List.length_cons, List.length_map]; omega) fun H25 o25 g25 wd25 => ?_
              have gD := gC.trans (g12.trans (g13.trans g25))
              clear g12 g13 w13 prW g25 hd22 e22 hz12 pr12 pr13 s12 hD2 hq2
              have i25 := i17.trans (i18.trans (TI.of gD))
              refine gn ?_
              have k1 : ∀ d ∈ T1, d.1 ≠ c.1 → d.1 ∈ keysQ ((ground, 0) :: N.map fun p => (p, tv L p)) := fun d hd ne => by
                rw [keys_fr]
                exact List.mem_cons_of_mem _ ((hNm _).mpr ⟨there d hd, ne⟩)
              have k2 : c.1 ∉ keysQ ((ground, 0) :: N.map fun p => (p, tv L p)) := by
                rw [keys_fr]
                intro z
                rcases List.mem_cons.mp z with z | z
                · exact pool.ng _ hcp z
                · exact ((hNm _).mp z).2 rfl
              generalize (ground, (0 : Rat)) :: N.map (fun p => (p, tv L p)) = W2 at *
              refine ⟨_, rfl, _, rfl, .ref o1, .ref o25, T1, W2, x, 380, 41, jj, c, rfl, hu.ti i25, wd25, vlok W2 fnW2, ok1.fn, fnW2, by decide, by omega, by decide, hc, k1, k2, ok1.pf.nodup, fun H26 v26 g26 spt => ?_⟩
              refine ⟨_, rfl, v26, .ref qs, rfl, ex_sp (n := 4) spt ⟨qs, rfl, g26 _ _ (gD _ _ hqs18)⟩ (sok1 c hcT), true, rfl, iteF ?_⟩
              obtain ⟨s26, B26⟩ := pureB s18' B18 (stp_keep s18'.fh (gD.trans g26))
              exact hu' _ _ ⟨_, _, F7, rfl, s26, B26⟩
        · rintro _ H30 ⟨c8, c9, F30, rfl, s30, B30⟩
          have i30 := i16.trans (s30.ti B16)
          have s30' := seqB s16 B16 s30
          refine ⟨_, rfl, o1, rfl, _, rfl, ⟨_, _, i30 o1 _ h1 (.inr ⟨_, _, _, rfl⟩)⟩, .ref o1, .ref o14, T1, W, x, 380, 41, rfl, hu.ti i30, WdQ.ts wd16 (s30.ti B16), vlok W fnW, ok1.fn, fnW, by decide, by omega, by decide, fun hin H15 z15 g15 hz15 => ?_, fun i d hd thd ndn H' v dd e hs hdd => absurd (thW d (List.mem_of_getElem? hd)) ndn⟩
          refine ⟨_, rfl, _, rfl, D, .ref p1, kvs, T1, L, x, 380, 41, rfl, g15 _ _ (s30.fh _ _ (s30.ff _ _ d7)), kv7.ts (Same.ts fun p o z => g15 _ _ (s30.fh _ _ (s30.ff _ _ z))), PlV.ts hv (i30.trans (TI.of g15)).ts, vlok L fn5, ok1.fn, fn5, by decide, by omega, by decide, thL, fun H16 z16 g16 hz16 => ⟨z15, z16, rfl, ex_rq (n := 4) (hz15.of g16) (same ▸ hz16), ?_⟩⟩
          obtain ⟨s31, B31⟩ := pureB s30' B30 (stp_keep s30'.fh (g15.trans g16))
          exact k _ _ s31 B31
end
end K33

set_option Elab.async false
set_option linter.all false
set_option maxRecDepth 100000
set_option maxHeartbeats 4000000
namespace K33
open PySem PySem.Spec PyProof.Rows L2 Ew
theorem up_wf {K : PySem.W.Frag} : Up (WrongF K) := fun _ _ _ e h => h.up e
theorem not_low {r : Int × Int} (h : decide (1 ≤ r.2 ∧ Nat.gcd r.1.natAbs r.2.natAbs = 1) = false) : ¬ Low r := fun z => by
  have := of_decide_eq_false h
  exact this ⟨z.1, z.2⟩
theorem Mk.spair {K : PySem.W.Frag} {F1 : Hp} {σ : L2.St} {te : TE} {v : V} (h2 : σ[2]? = some (some v)) (h : Mk F1 σ te (NotSp K)) : Mk F1 σ (tTup (tCons te (tCons (tVar 2) tNil))) (WrongF K) := Mk.first h (Ev.var h2) (fun F' q' u e hu h => .spot (SqT.of h) hu) up_notSp
theorem Mk.rpair {K : PySem.W.Frag} {F1 : Hp} {σ : L2.St} {te : TE} {v : V} {s0 : Spot} (h1 : σ[1]? = some (some v)) (spU : ∀ {F'}, Same F1 F' → Spt F' v s0) (h : Mk F1 σ te (NotRt K)) : Mk F1 σ (tTup (tCons (tVar 1) (tCons te tNil))) (WrongF K) := Mk.last (Ev.var h1) h (fun F' q' u e hu h => .ratio (SqT.of h) (spU e) hu) up_notRt
section
variable {P : Program} {w : World} {K : PySem.W.Frag} {mg : Str → Option Value} {base : Heap} {a : Ad}
/-- a choice of made things -/
theorem picked {F H F' H' : Hp} {b p : Addr} {zs : List V} {n : Nat} {Pv : Hp → V → Prop} {Q : VK} {E : XK} (s2 : Sb b F H F' H') (B2 : Bag K b F' H') (hp : F' p = some (.lst zs)) (hn : zs.length = n) (n0 : n ≠ 0) (n1 : n ≤ 1000) (all : ∀ v ∈ zs, Pv F' v)
    (k : ∀ H2 v, Sb b F' H' F' H2 → Bag K b F' H2 → Pv F' v → Q v H2) : sp__law_choice K [.ref b, .ref p] H' Q E :=
  ⟨F', b, .ref p, zs, rfl, .inl ⟨p, rfl, SqL.of hp⟩, fun z => n0 (by rw [← hn, z]; rfl), by omega, B2, s2.fh, fun H2 v j s3 B3 hj => k H2 v s3 B3 (all v (List.mem_of_getElem? hj))⟩
def sp__law_bad_rest (K : PySem.W.Frag) : Sp := fun vs H Q _ => ∃ (F : Hp) (b : Addr), vs = [.ref b] ∧ Bag K b F H ∧ Same F H ∧ ∀ F' H' z, Sb b F H F' H' → Bag K b F' H' → NotRt K F' z → Q z H'
theorem c__law_bad_rest (T : Txt K mg a) : Cl P w K mg base 3 "_law_bad_rest" P__law_bad_rest (sp__law_bad_rest K) [] :=
  T.d__law_bad_rest.cl sc__law_bad_rest (fun vs H Q E h => by obtain ⟨F, b, rfl, _⟩ := h; rfl) fun f cdv A outer s H vs Q E hr h => by
    obtain ⟨F, b, rfl, hB, hf, k⟩ := h
    refine ⟨_, ((pss_one (ps_ret (pe_f (c__law_choice T) (takes_of rfl rfl rfl rfl) hr (by decide) rfl (pa_cons (pv 0) (pa_cons (pe_lst (pa_cons (pe_tup (pa_cons pe_int (pa_cons pe_int pa_nil))) (pa_cons pe_non (pa_cons pe_int (pa_cons (pe_lst (pa_cons pe_int (pa_cons pe_int pa_nil))) (pa_cons (pe_tup (pa_cons pe_int (pa_cons pe_int pa_nil))) (pa_cons (pe_tup (pa_cons pe_int (pa_cons (pe_un un_neg pe_int) pa_nil))) (pa_cons (pe_tup (pa_cons pe_bl (pa_cons pe_int pa_nil))) (pa_cons pe_str (pa_cons (pe_tup (pa_cons pe_int (pa_cons pe_int pa_nil))) (pa_cons (pe_tup (pa_cons pe_int pa_nil)) (pa_cons (pe_tup (pa_cons pe_int (pa_cons pe_int (pa_cons pe_int pa_nil)))) pa_nil)))))))))))) pa_nil)))))), ?_⟩
    refine ⟨_, rfl, ?_⟩
    refine MkL.lst (F0 := F) (P := NotRt K)
      (MkL.cons up_notRt (Mk.tup (EvL.cons Ev.c (EvL.cons Ev.c EvL.nil)) (Nat.le_of_ble_eq_true rfl) fun F' q' e h => .low (r := (2, 4)) (SqT.of h) (not_low (by decide)))
      (MkL.cons up_notRt (Mk.ev Ev.c fun F' e => .nt .non (by decide))
      (MkL.cons up_notRt (Mk.ev Ev.c fun F' e => .nt (.int _) (by decide))
      (MkL.cons up_notRt (Mk.lst (EvL.cons Ev.c (EvL.cons Ev.c EvL.nil)) (Nat.le_of_ble_eq_true rfl) fun F' q' e h => .nt (.lst (SqL.of h)) (by decide))
      (MkL.cons up_notRt (Mk.tup (EvL.cons Ev.c (EvL.cons Ev.c EvL.nil)) (Nat.le_of_ble_eq_true rfl) fun F' q' e h => .low (r := (0, 0)) (SqT.of h) (not_low (by decide)))
      (MkL.cons up_notRt (Mk.tup (EvL.cons Ev.c (EvL.cons (Ev.neg Ev.c) EvL.nil)) (Nat.le_of_ble_eq_true rfl) fun F' q' e h => .low (r := (1, -1)) (SqT.of h) (not_low (by decide)))
      (MkL.cons up_notRt (Mk.tup (EvL.cons Ev.c (EvL.cons Ev.c EvL.nil)) (Nat.le_of_ble_eq_true rfl) fun F' q' e h => .one (SqT.of h) (.bl _) (by decide))
      (MkL.cons up_notRt (Mk.ev Ev.c fun F' e => .nt (.str _) (by decide))
      (MkL.cons up_notRt (Mk.tup (EvL.cons Ev.c (EvL.cons Ev.c EvL.nil)) (Nat.le_of_ble_eq_true rfl) fun F' q' e h => .low (r := (0, 3)) (SqT.of h) (not_low (by decide)))
      (MkL.cons up_notRt (Mk.tup (EvL.cons Ev.c EvL.nil) (Nat.le_of_ble_eq_true rfl) fun F' q' e h => .len (SqT.of h) (by show 1 ≠ 2; decide))
      (MkL.cons up_notRt (Mk.tup (EvL.cons Ev.c (EvL.cons Ev.c (EvL.cons Ev.c EvL.nil))) (Nat.le_of_ble_eq_true rfl) fun F' q' e h => .len (SqT.of h) (by show 3 ≠ 2; decide))
      MkL.nil))))))))))) up_notRt (by decide) (Same.refl F) hf fun F2 H2 p2 z2 st2 hp2 hl2 hv2 => ?_
    obtain ⟨s2, B2⟩ := pureB (Stm.refl hf) hB st2
    exact arg2 (sp__law_choice K) (picked (Pv := NotRt K) s2 B2 hp2 hl2 (by decide) (by decide) hv2 fun H4 v s4 B4 hv => k _ _ _ (seqB s2 B2 s4) B4 hv)
def sp__law_bad_pair (K : PySem.W.Frag) : Sp := fun vs H Q _ => ∃ (F : Hp) (b : Addr) (u : V) (s0 : Spot), vs = [.ref b, u] ∧ Bag K b F H ∧ Same F H ∧ Spt F u s0 ∧ ∀ F' H' z, Sb b F H F' H' → Bag K b F' H' → WrongF K F' z → Q z H'
theorem c__law_bad_pair (T : Txt K mg a) : Cl P w K mg base 3 "_law_bad_pair" P__law_bad_pair (sp__law_bad_pair K) [] :=
  T.d__law_bad_pair.cl sc__law_bad_pair (fun vs H Q E h => by obtain ⟨F, b, u, s0, rfl, _⟩ := h; rfl) fun f cdv A outer s H vs Q E hr h => by
    obtain ⟨F, b, u, s0, rfl, hB, hf, hu, k⟩ := h
    refine ⟨_, ((pss_cons (ps_set (i := 2) sc__law_bad_pair.nd rfl (Or.inl rfl) (pe_tup (pa_cons pe_int (pa_cons pe_int pa_nil))))
 (pss_one (ps_ret (pe_f (c__law_choice T) (takes_of rfl rfl rfl rfl) hr (by decide) rfl (pa_cons (pv 0) (pa_cons (pe_lst (pa_cons (pe_lst (pa_cons (pv 1) (pa_cons (pv 2) pa_nil))) (pa_cons (pe_tup (pa_cons (pv 1) pa_nil)) (pa_cons (pe_tup (pa_cons (pv 1) (pa_cons (pv 2) (pa_cons (pv 2) pa_nil)))) (pa_cons pe_non (pa_cons pe_int (pa_cons pe_str (pa_cons (pe_tup pa_nil) (pa_cons (pe_tup (pa_cons (pv 2) (pa_cons (pv 1) pa_nil))) (pa_cons (pe_tup (pa_cons (pe_tup (pa_cons (pe_ix ix_tup (pv 1) pe_int (fun _ _ => rfl)) (pa_cons (pe_ix ix_tup (pv 1) pe_int (fun _ _ => rfl)) pa_nil))) (pa_cons (pv 2) pa_nil))) (pa_cons (pe_tup (pa_cons (pe_lst (pa_cons (pe_ix ix_tup (pv 1) pe_int (fun _ _ => rfl)) (pa_cons pe_int (pa_cons pe_int pa_nil)))) (pa_cons (pv 2) pa_nil))) (pa_cons (pe_tup (pa_cons (pe_tup (pa_cons (pe_ix ix_tup (pv 1) pe_int (fun _ _ => rfl)) (pa_cons pe_bl (pa_cons pe_int pa_nil)))) (pa_cons (pv 2) pa_nil))) (pa_cons (pe_tup (pa_cons (pe_tup (pa_cons (pe_ix ix_tup (pv 1) pe_int (fun _ _ => rfl)) (pa_cons pe_int (pa_cons pe_bl pa_nil)))) (pa_cons (pv 2) pa_nil))) (pa_cons (pe_tup (pa_cons (pe_tup (pa_cons pe_int (pa_cons pe_int (pa_cons pe_int pa_nil)))) (pa_cons (pv 2) pa_nil))) (pa_cons (pe_tup (pa_cons (pe_tup (pa_cons (pe_ix ix_tup (pv 1) pe_int (fun _ _ => rfl)) (pa_cons pe_int (pa_cons pe_int (pa_cons pe_int pa_nil))))) (pa_cons (pv 2) pa_nil))) (pa_cons (pe_tup (pa_cons (pe_ix ix_tup (pv 1) pe_int (fun _ _ => rfl)) (pa_cons (pv 2) pa_nil))) (pa_cons (pe_tup (pa_cons (pe_tup (pa_cons (pe_ix ix_tup (pv 1) pe_int (fun _ _ => rfl)) (pa_cons pe_str (pa_cons pe_int pa_nil)))) (pa_cons (pv 2) pa_nil))) (pa_cons (pe_tup (pa_cons pe_non (pa_cons (pv 2) pa_nil))) (pa_cons (pe_tup (pa_cons (pv 1) (pa_cons (pe_tup (pa_cons pe_int (pa_cons pe_int pa_nil))) pa_nil))) (pa_cons (pe_tup (pa_cons (pv 1) (pa_cons (pe_tup (pa_cons pe_int (pa_cons pe_int pa_nil))) pa_nil))) (pa_cons (pe_tup (pa_cons (pv 1) (pa_cons (pe_tup (pa_cons pe_int (pa_cons (pe_un un_neg pe_int) pa_nil))) pa_nil))) (pa_cons (pe_tup (pa_cons (pv 1) (pa_cons pe_int pa_nil))) (pa_cons (pe_tup (pa_cons (pv 1) (pa_cons (pe_lst (pa_cons pe_int (pa_cons pe_int pa_nil))) pa_nil))) (pa_cons (pe_tup (pa_cons (pv 1) (pa_cons (pe_tup (pa_cons pe_bl (pa_cons pe_int pa_nil))) pa_nil))) (pa_cons (pe_tup (pa_cons (pv 1) (pa_cons (pe_tup (pa_cons pe_int (pa_cons pe_int pa_nil))) pa_nil))) (pa_cons (pe_tup (pa_cons (pv 1) (pa_cons (pe_tup (pa_cons pe_int (pa_cons pe_int (pa_cons pe_int pa_nil)))) pa_nil))) (pa_cons (pe_tup (pa_cons (pv 1) (pa_cons (pe_tup (pa_cons pe_int pa_nil)) pa_nil))) (pa_cons (pe_tup (pa_cons (pv 1) (pa_cons pe_non pa_nil))) (pa_cons (pe_tup (pa_cons (pv 1) (pa_cons pe_str pa_nil))) (pa_cons (pe_tup (pa_cons (pv 1) (pa_cons (pe_tup (pa_cons pe_int (pa_cons pe_str pa_nil))) pa_nil))) pa_nil)))))))))))))))))))))))))))))) pa_nil))))))), ?_⟩
    refine ⟨by show 2 ≤ sizeLine; decide, fun t ht => ?_⟩
    obtain ⟨s1, B1⟩ := newB (o := .tup [.int 1, .int 1]) (Stm.refl hf) hB ht
    have oneT : SqT K (upd F t (.tup [.int 1, .int 1])) t [.int 1, .int 1] := sq_new
    have hu1 := hu.up (same_new (o := .tup [.int 1, .int 1]) (hf.free ht))
    generalize upd F t (.tup [.int 1, .int 1]) = F1 at s1 B1 oneT hu1
    generalize upd H t (.tup [.int 1, .int 1]) = H1 at s1 B1
    obtain ⟨qs, rfl, hqs⟩ := hu1
    have spT : SqT K F1 qs (spV s0) := SqT.of hqs
    have spU : ∀ {F'}, Same F1 F' → Spt F' (.ref qs) s0 := fun e => ⟨qs, rfl, e _ _ hqs⟩
    refine gn ?_
    refine ⟨_, rfl, ?_⟩
    refine MkL.lst (F0 := F1) (P := WrongF K)
      (MkL.cons up_wf (Mk.lst (EvL.cons (Ev.var rfl) (EvL.cons (Ev.var rfl) EvL.nil)) (Nat.le_of_ble_eq_true rfl) fun F' q' e h => .nt (.lst (SqL.of h)) (by decide))
      (MkL.cons up_wf (Mk.tup (EvL.cons (Ev.var rfl) EvL.nil) (Nat.le_of_ble_eq_true rfl) fun F' q' e h => .len (SqT.of h) (by show 1 ≠ 2; decide))
      (MkL.cons up_wf (Mk.tup (EvL.cons (Ev.var rfl) (EvL.cons (Ev.var rfl) (EvL.cons (Ev.var rfl) EvL.nil))) (Nat.le_of_ble_eq_true rfl) fun F' q' e h => .len (SqT.of h) (by show 3 ≠ 2; decide))
      (MkL.cons up_wf (Mk.ev Ev.c fun F' e => .nt .non (by decide))
      (MkL.cons up_wf (Mk.ev Ev.c fun F' e => .nt (.int _) (by decide))
      (MkL.cons up_wf (Mk.ev Ev.c fun F' e => .nt (.str _) (by decide))
      (MkL.cons up_wf (Mk.tup EvL.nil (Nat.le_of_ble_eq_true rfl) fun F' q' e h => .len (SqT.of h) (by show 0 ≠ 2; decide))
      (MkL.cons up_wf (Mk.tup (EvL.cons (Ev.var rfl) (EvL.cons (Ev.var rfl) EvL.nil)) (Nat.le_of_ble_eq_true rfl) fun F' q' e h => .spot (SqT.of h) (.len (upT e oneT) (by show 2 ≠ 3; decide)))
      (MkL.cons up_wf (Mk.spair rfl (Mk.tup (EvL.cons (Ev.ix (Ev.var rfl) spT rfl) (EvL.cons (Ev.ix (Ev.var rfl) spT rfl) EvL.nil)) (Nat.le_of_ble_eq_true rfl) fun F' q' e h => .len (SqT.of h) (by show 2 ≠ 3; decide)))
      (MkL.cons up_wf (Mk.spair rfl (Mk.lst (EvL.cons (Ev.ix (Ev.var rfl) spT rfl) (EvL.cons Ev.c (EvL.cons Ev.c EvL.nil))) (Nat.le_of_ble_eq_true rfl) fun F' q' e h => .nt (.lst (SqL.of h)) (by decide)))
      (MkL.cons up_wf (Mk.spair rfl (Mk.tup (EvL.cons (Ev.ix (Ev.var rfl) spT rfl) (EvL.cons Ev.c (EvL.cons Ev.c EvL.nil))) (Nat.le_of_ble_eq_true rfl) fun F' q' e h => .st (SqT.of h) (.bl _) (by decide)))
      (MkL.cons up_wf (Mk.spair rfl (Mk.tup (EvL.cons (Ev.ix (Ev.var rfl) spT rfl) (EvL.cons Ev.c (EvL.cons Ev.c EvL.nil))) (Nat.le_of_ble_eq_true rfl) fun F' q' e h => .day (SqT.of h) (.bl _) (by decide)))
      (MkL.cons up_wf (Mk.spair rfl (Mk.tup (EvL.cons Ev.c (EvL.cons Ev.c (EvL.cons Ev.c EvL.nil))) (Nat.le_of_ble_eq_true rfl) fun F' q' e h => .name (SqT.of h) (.int _) (by decide)))
      (MkL.cons up_wf (Mk.spair rfl (Mk.tup (EvL.cons (Ev.ix (Ev.var rfl) spT rfl) (EvL.cons Ev.c (EvL.cons Ev.c (EvL.cons Ev.c EvL.nil)))) (Nat.le_of_ble_eq_true rfl) fun F' q' e h => .len (SqT.of h) (by show 4 ≠ 3; decide)))
      (MkL.cons up_wf (Mk.tup (EvL.cons (Ev.ix (Ev.var rfl) spT rfl) (EvL.cons (Ev.var rfl) EvL.nil)) (Nat.le_of_ble_eq_true rfl) fun F' q' e h => .spot (SqT.of h) (.nt (.str _) (by decide)))
      (MkL.cons up_wf (Mk.spair rfl (Mk.tup (EvL.cons (Ev.ix (Ev.var rfl) spT rfl) (EvL.cons Ev.c (EvL.cons Ev.c EvL.nil))) (Nat.le_of_ble_eq_true rfl) fun F' q' e h => .st (SqT.of h) (.str _) (by decide)))
      (MkL.cons up_wf (Mk.tup (EvL.cons Ev.c (EvL.cons (Ev.var rfl) EvL.nil)) (Nat.le_of_ble_eq_true rfl) fun F' q' e h => .spot (SqT.of h) (.nt .non (by decide)))
      (MkL.cons up_wf (Mk.rpair rfl spU (Mk.tup (EvL.cons Ev.c (EvL.cons Ev.c EvL.nil)) (Nat.le_of_ble_eq_true rfl) fun F' q' e h => .low (r := (2, 4)) (SqT.of h) (not_low (by decide))))
      (MkL.cons up_wf (Mk.rpair rfl spU (Mk.tup (EvL.cons Ev.c (EvL.cons Ev.c EvL.nil)) (Nat.le_of_ble_eq_true rfl) fun F' q' e h => .low (r := (1, 0)) (SqT.of h) (not_low (by decide))))
      (MkL.cons up_wf (Mk.rpair rfl spU (Mk.tup (EvL.cons Ev.c (EvL.cons (Ev.neg Ev.c) EvL.nil)) (Nat.le_of_ble_eq_true rfl) fun F' q' e h => .low (r := (1, -2)) (SqT.of h) (not_low (by decide))))
      (MkL.cons up_wf (Mk.tup (EvL.cons (Ev.var rfl) (EvL.cons Ev.c EvL.nil)) (Nat.le_of_ble_eq_true rfl) fun F' q' e h => .ratio (SqT.of h) (spU e) (.nt (.int _) (by decide)))
      (MkL.cons up_wf (Mk.rpair rfl spU (Mk.lst (EvL.cons Ev.c (EvL.cons Ev.c EvL.nil)) (Nat.le_of_ble_eq_true rfl) fun F' q' e h => .nt (.lst (SqL.of h)) (by decide)))
      (MkL.cons up_wf (Mk.rpair rfl spU (Mk.tup (EvL.cons Ev.c (EvL.cons Ev.c EvL.nil)) (Nat.le_of_ble_eq_true rfl) fun F' q' e h => .one (SqT.of h) (.bl _) (by decide)))
      (MkL.cons up_wf (Mk.rpair rfl spU (Mk.tup (EvL.cons Ev.c (EvL.cons Ev.c EvL.nil)) (Nat.le_of_ble_eq_true rfl) fun F' q' e h => .low (r := (0, 2)) (SqT.of h) (not_low (by decide))))
      (MkL.cons up_wf (Mk.rpair rfl spU (Mk.tup (EvL.cons Ev.c (EvL.cons Ev.c (EvL.cons Ev.c EvL.nil))) (Nat.le_of_ble_eq_true rfl) fun F' q' e h => .len (SqT.of h) (by show 3 ≠ 2; decide)))
      (MkL.cons up_wf (Mk.rpair rfl spU (Mk.tup (EvL.cons Ev.c EvL.nil) (Nat.le_of_ble_eq_true rfl) fun F' q' e h => .len (SqT.of h) (by show 1 ≠ 2; decide)))
      (MkL.cons up_wf (Mk.tup (EvL.cons (Ev.var rfl) (EvL.cons Ev.c EvL.nil)) (Nat.le_of_ble_eq_true rfl) fun F' q' e h => .ratio (SqT.of h) (spU e) (.nt .non (by decide)))
      (MkL.cons up_wf (Mk.tup (EvL.cons (Ev.var rfl) (EvL.cons Ev.c EvL.nil)) (Nat.le_of_ble_eq_true rfl) fun F' q' e h => .ratio (SqT.of h) (spU e) (.nt (.str _) (by decide)))
      (MkL.cons up_wf (Mk.rpair rfl spU (Mk.tup (EvL.cons Ev.c (EvL.cons Ev.c EvL.nil)) (Nat.le_of_ble_eq_true rfl) fun F' q' e h => .two (SqT.of h) (.str _) (by decide)))
      MkL.nil))))))))))))))))))))))))))))) up_wf (by decide) (Same.refl F1) s1.fh fun F2 H2 p2 z2 st2 hp2 hl2 hv2 => ?_
    obtain ⟨s2, B2⟩ := pureB s1 B1 st2
    exact arg2 (sp__law_choice K) (picked (Pv := WrongF K) s2 B2 hp2 hl2 (by decide) (by decide) hv2 fun H4 v s4 B4 hv => k _ _ _ (seqB s2 B2 s4) B4 hv)
end
end K33

set_option Elab.async false
set_option linter.all false
set_option maxRecDepth 100000
set_option maxHeartbeats 4000000
namespace K33
open PySem PySem.Spec PyProof.Rows L2 Ew
/-! ### a row with something that is no pair -/
section
variable {zs : List V} {w : V} {q i : Nat}
theorem ins_at (h : i < q) (h2 : i < zs.length) : (zs.take q ++ [w] ++ zs.drop q)[i]? = zs[i]? := by
  rw [List.append_assoc, List.getElem?_append_left (by rw [List.length_take]; omega), List.getElem?_take, if_pos h]
theorem ins_mid (h : q ≤ zs.length) : (zs.take q ++ [w] ++ zs.drop q)[q]? = some w := by
  have e : (zs.take q).length = q := by rw [List.length_take]; omega
  rw [List.append_assoc, List.getElem?_append_right (by omega), e, Nat.sub_self]
  rfl
theorem ins_len (h : q ≤ zs.length) : (zs.take q ++ [w] ++ zs.drop q).length = zs.length + 1 := by
  rw [List.length_append, List.length_append, List.length_take, List.length_drop, List.length_singleton]
  omega
end
structure Spoilt (K : PySem.W.Frag) (F : Hp) (zs : List V) (L : Tm) (p : Nat) : Prop where
  beg : ∀ i c, i < p → L[i]? = some c → ∃ x, zs[i]? = some x ∧ PrQ K F x c
  bad : ∃ w, zs[p]? = some w ∧ WrongF K F w
theorem Spoilt.up {K : PySem.W.Frag} {F F' : Hp} {zs : List V} {L : Tm} {p : Nat} (h : Spoilt K F zs L p) (e : Same F F') : Spoilt K F' zs L p where
  beg := fun i c hi hc => by obtain ⟨x, h1, h2⟩ := h.beg i c hi hc; exact ⟨x, h1, h2.up e⟩
  bad := by obtain ⟨w, h1, h2⟩ := h.bad; exact ⟨w, h1, h2.up e⟩
theorem Spoilt.new {K : PySem.W.Frag} {F : Hp} {ys : List V} {w : V} {L : Tm} {p : Nat} (pr : Paired (PrQ K F) ys L) (hp : p ≤ L.length) (hw : WrongF K F w) : Spoilt K F (ys.take p ++ [w] ++ ys.drop p) L p where
  beg := fun i c hi hc => by
    obtain ⟨x, h1, h2⟩ := paired_getR pr hc
    have l := Paired.length pr
    exact ⟨x, by rw [ins_at hi (by omega)]; exact h1, h2⟩
  bad := ⟨w, ins_mid (by have := Paired.length pr; omega), hw⟩
theorem Spoilt.ins {K : PySem.W.Frag} {F : Hp} {zs : List V} {w : V} {L : Tm} {p q : Nat} (h : Spoilt K F zs L p) (hp : p < q) : Spoilt K F (zs.take q ++ [w] ++ zs.drop q) L p where
  beg := fun i c hi hc => by
    obtain ⟨x, h1, h2⟩ := h.beg i c hi hc
    exact ⟨x, by rw [ins_at (by omega) (List.getElem?_eq_some_iff.mp h1).1]; exact h1, h2⟩
  bad := by
    obtain ⟨x, h1, h2⟩ := h.bad
    exact ⟨x, by rw [ins_at hp (List.getElem?_eq_some_iff.mp h1).1]; exact h1, h2⟩
theorem Spoilt.begq {K : PySem.W.Frag} {F : Hp} {zs : List V} {L : Tm} {p : Nat} (h : Spoilt K F zs L p) (hp : p ≤ L.length) : (L.take p).length = p ∧ p < zs.length ∧ BegQ K F zs (L.take p) ∧ ∀ x, zs[(L.take p).length]? = some x → WrongF K F x := by
  have l : (L.take p).length = p := by rw [List.length_take]; omega
  obtain ⟨w, h1, h2⟩ := h.bad
  have lz := (List.getElem?_eq_some_iff.mp h1).1
  refine ⟨l, lz, ⟨by omega, fun i c hc => ?_⟩, fun x hx => ?_⟩
  · have hi := (List.getElem?_eq_some_iff.mp hc).1
    rw [List.getElem?_take, if_pos (by omega)] at hc
    exact h.beg i c (by omega) hc
  · rw [l, h1] at hx
    cases hx
    exact h2
theorem RowL.take {ps : List Spot} {L : Tm} (h : RowL ps L) (n : Nat) : RowL ps (L.take n) where
  len := by have := h.len; rw [List.length_take]; omega
  sp := fun c hc => h.sp c (List.mem_of_mem_take hc)
  fn := fun c hc => h.fn c (List.mem_of_mem_take hc)
section
variable {P : Program} {w : World} {K : PySem.W.Frag} {mg : Str → Option Value} {base : Heap} {a : Ad}
def sp__law_refusals (K : PySem.W.Frag) (a : Ad) : Sp := fun vs H Q _ => ∃ (F : Hp) (b r pl : Addr) (ys xs : List V) (L : Tm) (ps : List Spot) (j : Nat), vs = [.ref b, .ref r, .ref pl] ∧ Bag K b F H ∧ Same F H ∧ F r = some (.lst ys) ∧ Paired (PrQ K F) ys L ∧ RowL ps L ∧ F pl = some (.lst xs) ∧ Ss F xs ps ∧ Pool j ps ∧ 1 ≤ j ∧ j ≤ 5 ∧
  ∀ F' H', Sb b F H F' H' → Bag K b F' H' → Q (.bl true) H'
theorem c__law_refusals (T : Txt K mg a) : Cl P w K mg base 9 "_law_refusals" P__law_refusals (sp__law_refusals K a) [] :=
  T.d__law_refusals.cl sc__law_refusals (fun vs H Q E h => by obtain ⟨F, b, r, pl, ys, xs, L, ps, j, rfl, _⟩ := h; rfl) fun f cdv A outer s H vs Q E hr h => by
    obtain ⟨F, b, r, pl', ys, xs, L, ps, j, rfl, hB, hf, hr0, pr, rowL, hpl, ss, pool, j1, j5, k⟩ := h
    refine ⟨_, ((pss_cons (ps_set (i := 3) sc__law_refusals.nd rfl (Or.inl rfl) (pe_f (c__law_pick T) (takes_of rfl rfl rfl rfl) hr (by decide) rfl (pa_cons (pv 0) (pa_cons (pe_op op_add (pe_callB call_len_seq (by rfl) T.n_len (by decide +kernel) (pa_cons (pv 1) pa_nil)) pe_int) pa_nil))))
 (pss_cons (ps_set (i := 4) sc__law_refusals.nd rfl (Or.inl rfl) (pe_callTy call_list_of (by rfl) T.n_list (by decide +kernel) (pa_cons (pv 1) pa_nil)))
 (pss_cons (ps_expr (pe_bm PySem.F.plainAttrs_list PySem.F.slot_list_insert PySem.F.type_list_insert mt_insert (pv 4) (pa_cons (pv 3) (pa_cons (pe_f (c__law_bad_pair T) (takes_of rfl rfl rfl rfl) hr (by decide) rfl (pa_cons (pv 0) (pa_cons (pe_f (c__law_choice T) (takes_of rfl rfl rfl rfl) hr (by decide) rfl (pa_cons (pv 0) (pa_cons (pv 2) pa_nil))) pa_nil))) pa_nil))))
 (pss_cons (ps_if (pt_val (pe_f (c__law_one_in T) (takes_of rfl rfl rfl rfl) hr (by decide) rfl (pa_cons (pv 0) (pa_cons pe_int pa_nil))))
 (pss_cons (ps_set (i := 5) sc__law_refusals.nd rfl (Or.inl rfl) (pe_op op_add (pe_op op_add (pv 3) pe_int) (pe_f (c__law_pick T) (takes_of rfl rfl rfl rfl) hr (by decide) rfl (pa_cons (pv 0) (pa_cons (pe_op op_sub (pe_callB call_len_seq (by rfl) T.n_len (by decide +kernel) (pa_cons (pv 4) pa_nil)) (pv 3)) pa_nil)))))
 (pss_one (ps_expr (pe_bm PySem.F.plainAttrs_list PySem.F.slot_list_insert PySem.F.type_list_insert mt_insert (pv 4) (pa_cons (pv 5) (pa_cons (pe_f (c__law_bad_pair T) (takes_of rfl rfl rfl rfl) hr (by decide) rfl (pa_cons (pv 0) (pa_cons (pe_f (c__law_choice T) (takes_of rfl rfl rfl rfl) hr (by decide) rfl (pa_cons (pv 0) (pa_cons (pv 2) pa_nil))) pa_nil))) pa_nil))))))
 pss_nil)
 (pss_cons (ps_set (i := 6) sc__law_refusals.nd rfl (Or.inl rfl) (pe_f (c__law_number_of T) (takes_of rfl rfl rfl rfl) hr (by decide) rfl (pa_cons (pv 0) pa_nil)))
 (pss_cons (ps_set (i := 7) sc__law_refusals.nd rfl (Or.inl rfl) (pe_f (c__law_bad_rest T) (takes_of rfl rfl rfl rfl) hr (by decide) rfl (pa_cons (pv 0) pa_nil)))
 (pss_cons (ps_set (i := 8) sc__law_refusals.nd rfl (Or.inl rfl) (pe_lst (pa_cons (pe_f (c__law_refused T) (takes_of rfl rfl rfl rfl) hr (by decide) rfl (pa_cons (pv 4) (pa_cons (pv 6) pa_nil))) (pa_cons (pe_f (c__law_refused T) (takes_of rfl rfl rfl rfl) hr (by decide) rfl (pa_cons (pe_callTy call_tuple_of (by rfl) T.n_tuple (by decide +kernel) (pa_cons (pv 4) pa_nil)) (pa_cons (pv 7) pa_nil))) (pa_cons (pe_f (c__law_refused T) (takes_of rfl rfl rfl rfl) hr (by decide) rfl (pa_cons (pv 1) (pa_cons (pv 7) pa_nil))) pa_nil)))))
 (pss_cons (ps_set (i := 9) sc__law_refusals.nd rfl (Or.inl rfl) (pe_lst (pa_cons (pv 3) (pa_cons (pv 3) (pa_cons (pe_un un_neg pe_int) pa_nil)))))
 (pss_cons (ps_for (passes_of rfl) rfl (pi_range1 (by rfl) T.n_range (pa_cons pe_int pa_nil)) (pg_name (i := 10) sc__law_refusals.nd rfl (Or.inl rfl))
 (pss_one (ps_if (PW.pt (pw_or (pt_not (pt_val (pe_f (c__law_integer T) (takes_of rfl rfl rfl rfl) hr (by decide) rfl (pa_cons (pe_ix ix_list (pv 8) (pv 10) (fun _ _ => rfl)) pa_nil)))) (pw_or1 (pt_cmpR op_ne (pe_ix ix_list (pv 8) (pv 10) (fun _ _ => rfl)) (pe_ix ix_list (pv 9) (pv 10) (fun _ _ => rfl)) (nomark _)))))
 (pss_one (ps_ret pe_bl))
 pss_nil)))
 (pss_one (ps_ret (pe_cmpR op_eq (pe_f (c__law_refused T) (takes_of rfl rfl rfl rfl) hr (by decide) rfl (pa_cons (pv 1) (pa_cons (pv 6) pa_nil))) pe_str (nomark _)))))))))))))), ?_⟩
    have lx := ss.1
    have lp := pool.len
    have ly := Paired.length pr
    have ll := rowL.len
    refine ⟨_, rfl, _, rfl, r, ys, rfl, .inl (SqL.of (hf _ _ hr0)), _, _, rfl, rfl, F, b, _, rfl, hB, hf, by omega, sz_len (n := ys.length + 1) (by omega), fun H1 m s1 B1 m0 m1 => ?_⟩
    obtain ⟨p, rfl⟩ : ∃ p : Nat, m = (p : Int) := ⟨m.toNat, by omega⟩
    have pl : p ≤ L.length := by omega
    refine gn ?_
    refine ⟨_, rfl, r, ys, rfl, .inl (SqL.of (s1.fh _ _ (s1.ff _ _ hr0))), fun Z hZ => ?_⟩
    have nZb : Z ≠ b := fun z => (memB K b).there B1 z hZ
    have h0Z : H Z = none := s1.fresh (fun x z => (memB K b).there B1 z) hZ
    have f1Z : F Z = none := s1.fh.free hZ
    obtain ⟨s2, B2⟩ := rawB (o := .lst ys) s1 B1 hZ
    have hZ2 : (upd H1 Z (.lst ys)) Z = some (.lst ys) := upd_same
    generalize upd H1 Z (.lst ys) = H2 at s2 B2 hZ2
    refine gn ?_
    refine ⟨_, rfl, .inl ⟨rfl, ys, SqL.of hZ2⟩, _, rfl, _, rfl, _, rfl, _, rfl, F, b, .ref pl', xs, rfl, .inl ⟨pl', rfl, SqL.of hpl⟩, by intro z; rw [z] at lx; have : (0 : Nat) = ps.length := lx; omega, by omega, B2, s2.fh, fun H3 vp jj s3 B3 hj => ?_⟩
    have p63 : (p : Int) < 2 ^ 63 := by have : (2 : Int) ^ 63 = 9223372036854775808 := by decide
                                        omega
    have spot : ∀ {i : Nat} {v : V}, xs[i]? = some v → ∃ sp, Spt F v sp := fun {i v} hv => by
      have hlt : i < ps.length := by have := (List.getElem?_eq_some_iff.mp hv).1; omega
      obtain ⟨x, h1, h2⟩ := ss.2 i _ (List.getElem?_eq_getElem hlt)
      rw [hv] at h1
      cases h1
      exact ⟨_, h2⟩
    obtain ⟨sp1, hsp1⟩ := spot hj
    have t3 := seqB s2 B2 s3
    have hZ3 := s3.hh Z _ nZb hZ2
    refine ⟨F, b, vp, sp1, rfl, B3, t3.fh, hsp1, fun F4 H4 z s4 B4 wz => ?_⟩
    have t4 := seqB t3 B3 s4
    have hZ4 := s4.hh Z _ nZb hZ3
    have f4Z : F4 Z = none := s4.nw Z f1Z (by rw [hZ3]; exact fun q => nomatch q)
    have sp4 : Spoilt K F4 (ys.take p ++ [z] ++ ys.drop p) L p := Spoilt.new (Paired.mapP pr fun _ _ q => q.up s4.ff) pl wz
    have sl4 := ins_len (zs := ys) (w := z) (q := p) (by omega)
    refine ⟨Z, ys, (p : Int), z, rfl, rfl, hZ4, by rw [sizeLine_eq]; omega, by omega, p63, ?_⟩
    rw [Int.toNat_natCast]
    obtain ⟨s5, B5⟩ := mutB (o := .lst (ys.take p ++ [z] ++ ys.drop p)) t4 B4 f4Z h0Z nZb
    have hZ5 : (upd H4 Z (.lst (ys.take p ++ [z] ++ ys.drop p))) Z = some (.lst (ys.take p ++ [z] ++ ys.drop p)) := upd_same
    generalize upd H4 Z (.lst (ys.take p ++ [z] ++ ys.drop p)) = H5 at s5 B5 hZ5
    generalize ys.take p ++ [z] ++ ys.drop p = zs at sp4 sl4 hZ5
    clear s1 B1 s2 B2 hZ2 s3 B3 t3 hZ3 s4 B4 t4 hZ4
    dsimp only
    refine seq_with (fun σ' H' => ∃ c5 F' zs, σ' = [some (.ref b), some (.ref r), some (.ref pl'), some (.int p), some (.ref Z), c5, none, none, none, none, none] ∧ Sb b F H F' H' ∧ Bag K b F' H' ∧ F' Z = none ∧ H' Z = some (.lst zs) ∧ Spoilt K F' zs L p ∧ zs.length ≤ 12) (fun u hu => ?_) ?_
    · refine ⟨_, rfl, F4, b, 3, rfl, B5, s5.fh, by decide, sz_of 2 (by decide) (by decide), fun H6 c s6 B6 => ⟨c, rfl, ?_⟩⟩
      have s56 := seqB s5 B5 s6
      have hZ6 := s6.hh Z _ nZb hZ5
      cases c with
      | false => exact iteF (hu _ _ ⟨none, F4, zs, rfl, s56, B6, f4Z, hZ6, sp4, by omega⟩)
      | true =>
        refine iteT ?_
        have szm : Sz 8000 ((zs.length : Int) - (p : Int)) := by
          have e : ((zs.length : Int) - (p : Int)) = ((zs.length - p : Nat) : Int) := by omega
          rw [e]
          exact sz_len (by omega)
        refine ⟨_, rfl, _, _, rfl, rfl, _, rfl, _, rfl, Z, zs, rfl, .inl (SqL.of hZ6), _, rfl, _, _, rfl, rfl, F4, b, _, rfl, B6, s6.fh, by omega, szm, fun H7 m s7 B7 m0 m1 => ⟨_, _, rfl, rfl, ?_⟩⟩
        obtain ⟨m, rfl⟩ : ∃ m' : Nat, m = (m' : Int) := ⟨m.toNat, by omega⟩
        have s57 := seqB s56 B6 s7
        have hZ7 := s7.hh Z _ nZb hZ6
        refine gn ?_
        refine ⟨_, rfl, .inl ⟨rfl, zs, SqL.of hZ7⟩, _, rfl, _, rfl, _, rfl, _, rfl, F4, b, .ref pl', xs, rfl, .inl ⟨pl', rfl, SqL.of (s5.ff _ _ hpl)⟩, by intro z; rw [z] at lx; have : (0 : Nat) = ps.length := lx; omega, by omega, B7, s7.fh, fun H8 vp jj s8 B8 hj => ?_⟩
        obtain ⟨sp2, hsp2⟩ := spot hj
        have s58 := seqB s57 B7 s8
        have hZ8 := s8.hh Z _ nZb hZ7
        refine ⟨F4, b, vp, sp2, rfl, B8, s8.fh, hsp2.up s5.ff, fun F9 H9 z s9 B9 wz => ?_⟩
        have s59 := seqB s58 B8 s9
        have hZ9 := s9.hh Z _ nZb hZ8
        have f9Z : F9 Z = none := s9.nw Z f4Z (by rw [hZ8]; exact fun q => nomatch q)
        have i63 : (p : Int) + 1 + (m : Int) < 2 ^ 63 := by
          have : (2 : Int) ^ 63 = 9223372036854775808 := by decide
          omega
        refine ⟨Z, zs, _, z, rfl, rfl, hZ9, by rw [sizeLine_eq]; omega, by omega, i63, ?_⟩
        have ei : ((p : Int) + 1 + (m : Int)).toNat = p + 1 + m := by omega
        rw [ei]
        obtain ⟨s10, B10⟩ := mutB (o := .lst (zs.take (p + 1 + m) ++ [z] ++ zs.drop (p + 1 + m))) s59 B9 f9Z h0Z nZb
        exact hu _ _ ⟨_, F9, _, rfl, s10, B10, f9Z, upd_same, (sp4.up s9.ff).ins (by omega), by rw [ins_len (by omega)]; omega⟩
    · clear zs sp4 sl4 hZ5 s5 B5
      rintro _ H6 ⟨c5, F6, zs, rfl, s6, B6, f6Z, hZ6, sp6, zl⟩
      -- the number, the odd rest
      refine ⟨_, rfl, F6, b, rfl, B6, s6.fh, fun F7 H7 n s7 B7 nu => ?_⟩
      obtain ⟨y, hy, fy⟩ := nu
      have s67 := seqB s6 B6 s7
      have hZ7 := s7.hh Z _ nZb hZ6
      have f7Z : F7 Z = none := s7.nw Z f6Z (by rw [hZ6]; exact fun q => nomatch q)
      refine gn ?_
      refine ⟨_, rfl, F7, b, rfl, B7, s7.fh, fun F8 H8 o s8 B8 no => ?_⟩
      have s68 := seqB s67 B7 s8
      have hZ8 := s8.hh Z _ nZb hZ7
      have f8Z : F8 Z = none := s8.nw Z f7Z (by rw [hZ7]; exact fun q => nomatch q)
      have hyF := hy.up s8.ff
      have sp8 := sp6.up (s7.ff.trans s8.ff)
      have pr8 : Paired (PrQ K F8) ys L := Paired.mapP pr fun _ _ q => q.up s68.ff
      have hr8 := s68.ff _ _ hr0
      clear s6 B6 hZ6 f6Z sp6 s7 B7 s67 hZ7 f7Z hy
      refine gn ?_
      obtain ⟨lt, lz, bq, wq⟩ := sp8.begq pl
      have okp := (rowL.take p).okT pool
      have oka := rowL.okT pool
      have bq8 : ∀ {H'}, Same F8 H' → BegQ K H' zs (L.take p) := fun e => bq.up e
      have wq8 : ∀ {H'}, Same F8 H' → ∀ x, zs[(L.take p).length]? = some x → WrongF K H' x := fun e x hx => (wq x hx).up e
      refine ⟨_, rfl, _, rfl, Z, n, zs, L.take p, some y, rfl, .inl (SqL.of hZ8), by omega, bq8 s68.fh, okp, wq8 s68.fh, .inl ⟨y, rfl, hyF.of s68.fh⟩, fun _ H9 g9 => ?_, fun e => absurd e (by omega), fun _ e => absurd e (by omega)⟩
      have e9 := fun q o z => g9 _ _ (s68.fh q o z)
      refine ⟨_, rfl, Z, zs, rfl, .inl ⟨SqL.of (g9 _ _ hZ8), fun t ht => ?_⟩⟩
      have gt := g9.trans (same_new (o := .tup zs) ht)
      have wt : SqT K (upd H9 t (.tup zs)) t zs := sq_new
      generalize upd H9 t (.tup zs) = H10 at gt wt
      have e10 : Same F8 H10 := fun q o z => gt _ _ (s68.fh q o z)
      refine ⟨_, rfl, t, o, zs, L.take p, none, rfl, .inr wt, by omega, bq8 e10, okp, wq8 e10, .inr ⟨rfl, no.up e10⟩, fun _ H11 g11 => ?_, fun e => absurd e (by omega), fun _ e => absurd e (by omega)⟩
      have e11 := e10.trans g11
      refine ⟨_, rfl, _, rfl, r, o, ys, L, none, rfl, .inl (SqL.of (e11 _ _ hr8)), by omega, BegQ.up (BegQ.of pr8) e11, oka, fun x hx => ?_, .inr ⟨rfl, no.up e11⟩, fun e => absurd e (by omega), fun _ _ H12 g12 => ?_, fun _ _ e => nomatch e⟩
      · have := (List.getElem?_eq_some_iff.mp hx).1
        omega
      refine ⟨by show 3 ≤ sizeLine; decide, fun q1 hq1 => ?_⟩
      rw [lt]
      have e12 := e11.trans g12
      have gA := gt.trans (g11.trans g12)
      have g13 := same_new (o := .lst [.int (p : Nat), .int (p : Nat), .int (-1)]) hq1
      have w13 : SqL K (upd H12 q1 (.lst [.int (p : Nat), .int (p : Nat), .int (-1)])) q1 [.int (p : Nat), .int (p : Nat), .int (-1)] := SqL.of upd_same
      generalize upd H12 q1 (.lst [.int (p : Nat), .int (p : Nat), .int (-1)]) = H13 at *
      refine gn ?_
      refine ⟨_, rfl, _, rfl, _, rfl, by show 3 ≤ sizeLine; decide, fun q2 hq2 => ?_⟩
      have g14 := same_new (o := .lst [.int (p : Nat), .int (p : Nat), .int (-1)]) hq2
      have w14 : SqL K (upd H13 q2 (.lst [.int (p : Nat), .int (p : Nat), .int (-1)])) q2 [.int (p : Nat), .int (p : Nat), .int (-1)] := SqL.of upd_same
      generalize upd H13 q2 (.lst [.int (p : Nat), .int (p : Nat), .int (-1)]) = H14 at *
      have w134 := upL g14 w13
      have gB := gA.trans (g13.trans g14)
      refine gn ?_
      dsimp only
      refine ⟨_, rfl, by decide, by decide, ?_⟩
      refine for_it walk_range (fun j' σ' H' => H' = H14 ∧ ∃ c10, σ' = [some (.ref b), some (.ref r), some (.ref pl'), some (.int p), some (.ref Z), c5, some n, some o, some (.ref q1), some (.ref q2), c10]) ?_ (fun _ _ _ _ _ => trivial) ?_ ?_
      · exact ⟨rfl, none, rfl⟩
      · rintro j' _ _ H15 H15' hj' ⟨rfl, c10, rfl⟩ ⟨eH, rfl⟩
        subst eH
        obtain ⟨i, hi⟩ : ∃ i : Int, atI [V.int (p : Int), V.int (p : Int), V.int (-1)] (0 + (j' : Int)) = some (.int i) := by
          match j', hj' with
          | 0, _ => exact ⟨p, rfl⟩
          | 1, _ => exact ⟨p, rfl⟩
          | 2, _ => exact ⟨-1, rfl⟩
        refine ⟨_, rfl, _, rfl, q1, _, _, _, rfl, rfl, w134, hi, .int i, rfl, .inl ⟨i, rfl, true, rfl, ?_⟩⟩
        refine iteF ?_
        refine ⟨_, rfl, _, rfl, q1, _, _, _, rfl, rfl, w134, hi, _, rfl, _, rfl, q2, _, _, _, rfl, rfl, w14, hi, rfl, _, rfl, ?_⟩
        rw [decide_eq_true rfl]
        exact iteF ⟨rfl, _, rfl⟩
      · rintro _ H15 ⟨rfl, c10, rfl⟩
        have gC := fun q ob z => gB q ob (s68.fh q ob z)
        refine ⟨_, rfl, _, rfl, r, n, ys, L, some y, rfl, .inl (SqL.of (gC _ _ hr8)), by omega, BegQ.up (BegQ.of pr8) gC, oka, fun x hx => ?_, .inl ⟨y, rfl, hyF.of gC⟩, fun e => absurd e (by omega), fun _ e => (nomatch e), fun _ _ _ H16 g16 => ?_⟩
        · have := (List.getElem?_eq_some_iff.mp hx).1
          omega
        obtain ⟨sE, BE⟩ := pureB s68 B8 (stp_keep s68.fh (gB.trans g16))
        refine ⟨rfl, ?_⟩
        rw [decide_eq_true rfl]
        exact k _ _ sE BE
end
end K33

set_option Elab.async false
set_option linter.all false
set_option maxRecDepth 100000
set_option maxHeartbeats 4000000
namespace K33
open PySem PySem.Spec PyProof.Rows L2 Ew
theorem ix_zero {n : Nat} (h : 1 ≤ n) : ixN n 0 = some 0 := by
  unfold ixN
  rw [if_pos (by omega), if_pos (by omega)]
  rfl
theorem pf_one {s : Spot} (hs : s ≠ ground) : IsPf [(s, 1)] (tot (ngQ [(s, 1)])) where
  srt := by unfold keysQ Srt; simp
  mem := fun c => by
    rw [List.mem_singleton, tot_ng, tot_one]
    constructor
    · rintro rfl
      rw [if_neg hs, if_pos rfl]
      exact ⟨rfl, (by decide +kernel : (1 : Rat) ≠ 0)⟩
    · rintro ⟨h1, h2⟩
      by_cases g : c.1 = ground
      · rw [if_pos g] at h1
        exact absurd h1 h2
      · rw [if_neg g] at h1
        by_cases e : s = c.1
        · rw [if_pos e] at h1
          exact Prod.ext e.symm h1
        · rw [if_neg e] at h1
          exact absurd h1 h2
theorem RowL.perm {ps : List Spot} {L M : Tm} (h : RowL ps L) (pm : M.Perm L) : RowL ps M where
  len := by rw [pm.length_eq]; exact h.len
  sp := fun c hc => h.sp c (pm.mem_iff.mp hc)
  fn := fun c hc => h.fn c (pm.mem_iff.mp hc)
section
variable {P : Program} {w : World} {K : PySem.W.Frag} {mg : Str → Option Value} {base : Heap} {a : Ad}
def sp_law (K : PySem.W.Frag) : Sp := fun vs H Q _ => ∃ (F : Hp) (p : Addr) (ns : List Int), vs = [.ref p] ∧ SqL K F p (ns.map V.int) ∧ ns.length ≤ 1000 ∧ Same F H ∧ ∀ H', Q (.bl true) H'
theorem b_law (T : Txt K mg a) : BodyG P w K mg base N_law "law" s_law 10 (sp_law K) := fun f cdv A outer s0 H vs Q E hgd hr h => by
    obtain ⟨F, p, ns, rfl, hp, hn, hf, k⟩ := h
    refine ⟨_, ((pss_cons (ps_set (i := 1) sc_law.nd rfl (Or.inl rfl) (pe_f (c__law_bag_of T) (takes_of rfl rfl rfl rfl) hr (by decide) rfl (pa_cons (pv 0) pa_nil)))
 (pss_cons (ps_set (i := 2) sc_law.nd rfl (Or.inl rfl) (pe_f (c__law_pool_of T) (takes_of rfl rfl rfl rfl) hr (by decide) rfl (pa_cons (pv 1) pa_nil)))
 (pss_cons (ps_set (i := 3) sc_law.nd rfl (Or.inl rfl) (pe_lst (pa_cons (pe_f (c__law_row_of T) (takes_of rfl rfl rfl rfl) hr (by decide) rfl (pa_cons (pv 1) (pa_cons (pv 2) pa_nil))) (pa_cons (pe_f (c__law_row_of T) (takes_of rfl rfl rfl rfl) hr (by decide) rfl (pa_cons (pv 1) (pa_cons (pv 2) pa_nil))) pa_nil))))
 (pss_cons (ps_set (i := 4) sc_law.nd rfl (Or.inl rfl) (pe_lst (pa_cons (pe_f (c__law_number_of T) (takes_of rfl rfl rfl rfl) hr (by decide) rfl (pa_cons (pv 1) pa_nil)) (pa_cons (pe_f (c__law_number_of T) (takes_of rfl rfl rfl rfl) hr (by decide) rfl (pa_cons (pv 1) pa_nil)) (pa_cons (pe_f (c__law_number_of T) (takes_of rfl rfl rfl rfl) hr (by decide) rfl (pa_cons (pv 1) pa_nil)) pa_nil)))))
 (pss_cons (ps_if (pt_val (pe_f (c__law_one_in T) (takes_of rfl rfl rfl rfl) hr (by decide) rfl (pa_cons (pv 1) (pa_cons pe_int pa_nil))))
 (pss_cons (ps_asg (pe_f (c__law_shuffled T) (takes_of rfl rfl rfl rfl) hr (by decide) rfl (pa_cons (pv 1) (pa_cons (pe_ix ix_list (pv 3) pe_int (fun _ _ => rfl)) pa_nil))) (pg_sub (pv 3) pe_int set_list))
 (pss_one (ps_asg (pe_ix ix_list (pv 4) pe_int (fun _ _ => rfl)) (pg_sub (pv 4) pe_int set_list))))
 pss_nil)
 (pss_cons (ps_set (i := 5) sc_law.nd rfl (Or.inl rfl) (pe_lst (pa_cons (pe_f (c__law_plain_of T) (takes_of rfl rfl rfl rfl) hr (by decide) rfl (pa_cons (pe_ix ix_list (pv 3) pe_int (fun _ _ => rfl)) (pa_cons (pe_ix ix_list (pv 4) pe_int (fun _ _ => rfl)) pa_nil))) (pa_cons (pe_f (c__law_plain_of T) (takes_of rfl rfl rfl rfl) hr (by decide) rfl (pa_cons (pe_ix ix_list (pv 3) pe_int (fun _ _ => rfl)) (pa_cons (pe_ix ix_list (pv 4) pe_int (fun _ _ => rfl)) pa_nil))) pa_nil))))
 (pss_cons (ps_set (i := 6) sc_law.nd rfl (Or.inl rfl) (pe_callTy call_list_of (by rfl) T.n_list (by decide +kernel) (pa_cons (pe_ix ix_list (pv 3) pe_int (fun _ _ => rfl)) pa_nil)))
 (pss_cons (ps_set (i := 7) sc_law.nd rfl (Or.inl rfl) (pe_mkW (mk_Form T) (takes_of rfl rfl rfl rfl) hr (by decide) rfl (pa_cons (pv 6) (pa_cons (pe_ix ix_list (pv 4) pe_int (fun _ _ => rfl)) pa_nil))))
 (pss_cons (ps_set (i := 8) sc_law.nd rfl (Or.inl rfl) (pe_mkW (mk_Form T) (takes_of rfl rfl rfl rfl) hr (by decide) rfl (pa_cons (pe_callTy call_tuple_of (by rfl) T.n_tuple (by decide +kernel) (pa_cons (pe_ix ix_list (pv 3) pe_int (fun _ _ => rfl)) pa_nil)) (pa_cons (pe_ix ix_list (pv 4) pe_int (fun _ _ => rfl)) pa_nil))))
 (pss_cons (ps_if (PW.pt (pw_or (pt_cmpR (op_neD hr.units) (pv 6) (pe_ix ix_list (pv 3) pe_int (fun _ _ => rfl)) (nomark _)) (pw_or (pt_not (pt_val (pe_f (c__law_is T) (takes_of rfl rfl rfl rfl) hr (by decide) rfl (pa_cons (pv 7) (pa_cons (pe_ix ix_list (pv 5) pe_int (fun _ _ => rfl)) pa_nil))))) (pw_or1 (pt_not (pt_val (pe_f (c__law_is T) (takes_of rfl rfl rfl rfl) hr (by decide) rfl (pa_cons (pv 8) (pa_cons (pe_ix ix_list (pv 5) pe_int (fun _ _ => rfl)) pa_nil)))))))))
 (pss_one (ps_ret pe_bl))
 pss_nil)
 (pss_cons (ps_expr (pe_bm PySem.F.plainAttrs_list PySem.F.slot_list_append PySem.F.type_list_append mt_append (pv 6) (pa_cons (pe_tup (pa_cons (pe_ix ix_list (pv 2) pe_int (fun _ _ => rfl)) (pa_cons (pe_tup (pa_cons pe_int (pa_cons pe_int pa_nil))) pa_nil))) pa_nil)))
 (pss_cons (ps_asg (pe_tup (pa_cons (pe_ix ix_list (pv 2) (pe_un un_neg pe_int) (fun _ _ => rfl)) (pa_cons (pe_tup (pa_cons pe_int (pa_cons pe_int pa_nil))) pa_nil))) (pg_sub (pv 6) pe_int set_list))
 (pss_cons (ps_if (PW.pt (pw_or (pt_not (pt_val (pe_f (c__law_is T) (takes_of rfl rfl rfl rfl) hr (by decide) rfl (pa_cons (pv 7) (pa_cons (pe_ix ix_list (pv 5) pe_int (fun _ _ => rfl)) pa_nil))))) (pw_or1 (pt_not (pt_val (pe_f (c__law_operators T) (takes_of rfl rfl rfl rfl) hr (by decide) rfl (pa_cons (pv 7) (pa_cons (pv 8) (pa_cons (pv 5) (pa_cons (pe_ix ix_list (pv 4) pe_int (fun _ _ => rfl)) pa_nil))))))))))
 (pss_one (ps_ret pe_bl))
 pss_nil)
 (pss_cons (ps_if (PW.pt (pw_or (pt_not (pt_val (pe_f (c__law_is T) (takes_of rfl rfl rfl rfl) hr (by decide) rfl (pa_cons (pe_mkD (mk_Form1 T) hr (by decide) rfl (pa_cons (pe_ix ix_list (pv 3) pe_int (fun _ _ => rfl)) pa_nil)) (pa_cons (pe_tup (pa_cons (pe_ix ix_tup (pe_ix ix_list (pv 5) pe_int (fun _ _ => rfl)) pe_int (fun _ _ => rfl)) (pa_cons (pe_tup (pa_cons pe_int (pa_cons pe_int pa_nil))) pa_nil))) pa_nil))))) (pw_or1 (pt_not (pt_val (pe_f (c__law_is T) (takes_of rfl rfl rfl rfl) hr (by decide) rfl (pa_cons (pe_mkD0 (mk_Form0 T) hr (by decide) rfl) (pa_cons (pe_tup (pa_cons (pe_tup pa_nil) (pa_cons (pe_tup (pa_cons pe_int (pa_cons pe_int pa_nil))) pa_nil))) pa_nil))))))))
 (pss_one (ps_ret pe_bl))
 pss_nil)
 (pss_cons (ps_set (i := 9) sc_law.nd rfl (Or.inl rfl) (pe_f (c__law_choice T) (takes_of rfl rfl rfl rfl) hr (by decide) rfl (pa_cons (pv 1) (pa_cons (pv 2) pa_nil))))
 (pss_cons (ps_if (PW.pt (pw_or (pt_not (pt_val (pe_f (c__law_is T) (takes_of rfl rfl rfl rfl) hr (by decide) rfl (pa_cons (pe_sm (m_Form_of T) (takes_of rfl rfl rfl rfl) hr (by decide) (pe_glob (v := .ref a.Form) rfl T.g_Form rfl) (pa_cons (pv 9) pa_nil)) (pa_cons (pe_tup (pa_cons (pe_tup (pa_cons (pe_tup (pa_cons (pv 9) (pa_cons (pe_tup (pa_cons pe_int (pa_cons pe_int pa_nil))) pa_nil))) pa_nil)) (pa_cons (pe_tup (pa_cons pe_int (pa_cons pe_int pa_nil))) pa_nil))) pa_nil))))) (pw_or1 (pt_not (pt_val (pe_f (c__law_is T) (takes_of rfl rfl rfl rfl) hr (by decide) rfl (pa_cons (pe_sm (m_Form_of T) (takes_of rfl rfl rfl rfl) hr (by decide) (pe_glob (v := .ref a.Form) rfl T.g_Form rfl) (pa_cons (pe_f0 (c__law_ground T) hr (by decide) rfl) pa_nil)) (pa_cons (pe_tup (pa_cons (pe_tup pa_nil) (pa_cons (pe_tup (pa_cons pe_int (pa_cons pe_int pa_nil))) pa_nil))) pa_nil))))))))
 (pss_one (ps_ret pe_bl))
 pss_nil)
 (pss_cons (ps_if (pt_not (pt_val (pe_f (c__law_equal_ones T) (takes_of rfl rfl rfl rfl) hr (by decide) rfl (pa_cons (pv 1) (pa_cons (pv 7) (pa_cons (pv 8) (pa_cons (pv 5) (pa_cons (pv 2) (pa_cons (pe_ix ix_list (pv 4) pe_int (fun _ _ => rfl)) pa_nil)))))))))
 (pss_one (ps_ret pe_bl))
 pss_nil)
 (pss_cons (ps_if (PW.pt (pw_or (pt_not (pt_val (pe_f (c__law_called T) (takes_of rfl rfl rfl rfl) hr (by decide) rfl (pa_cons (pv 1) (pa_cons (pv 7) (pa_cons (pe_ix ix_list (pv 5) pe_int (fun _ _ => rfl)) (pa_cons (pv 2) pa_nil))))))) (pw_or1 (pt_not (pt_val (pe_f (c__law_called T) (takes_of rfl rfl rfl rfl) hr (by decide) rfl (pa_cons (pv 1) (pa_cons (pv 8) (pa_cons (pe_ix ix_list (pv 5) pe_int (fun _ _ => rfl)) (pa_cons (pv 2) pa_nil))))))))))
 (pss_one (ps_ret pe_bl))
 pss_nil)
 (pss_one (ps_ret (pe_and (pe_f (c__law_refusals T) (takes_of rfl rfl rfl rfl) hr (by decide) rfl (pa_cons (pv 1) (pa_cons (pe_ix ix_list (pv 3) pe_int (fun _ _ => rfl)) (pa_cons (pv 2) pa_nil)))) (pe_one (pe_f (c__law_is T) (takes_of rfl rfl rfl rfl) hr (by decide) rfl (pa_cons (pv 7) (pa_cons (pe_ix ix_list (pv 5) pe_int (fun _ _ => rfl)) pa_nil)))))))))))))))))))))))))), ?_⟩
    refine ⟨_, rfl, F, p, ns, rfl, hp, hn, hf, fun F1 H1 b st1 B1 => ?_⟩
    refine gn ?_
    try dsimp only
    refine ⟨_, rfl, F1, b, rfl, B1, st1.fh, fun F2 H2 pl xs ps j s2 B2 hpl ss pool j1 j5 => ?_⟩
    refine gn ?_
    refine ⟨_, rfl, _, rfl, F2, b, pl, xs, ps, j, rfl, B2, s2.fh, hpl, ss, pool, j5, fun F3 H3 r0 ys0 L0 s3 B3 hr0 pr0 row0 => ⟨_, rfl, _, rfl, F3, b, pl, xs, ps, j, rfl, B3, s3.fh, s3.ff _ _ hpl, ss.up s3.ff, pool, j5, fun F4 H4 r1 ys1 L1 s4 B4 hr1 pr1 row1 => ⟨by show 2 ≤ sizeLine; decide, fun R hR => ?_⟩⟩⟩
    have t4 := seqB (seqB s2 B2 s3) B3 s4
    have pl4 : F4 pl = some (.lst xs) := s4.ff _ _ (s3.ff _ _ hpl)
    have ss4 := ss.up (s3.ff.trans s4.ff)
    have r04 := s4.ff _ _ hr0
    have pr04 : Paired (PrQ K F4) ys0 L0 := Paired.mapP pr0 fun _ _ z => z.up s4.ff
    have nRb : R ≠ b := fun z => (memB K b).there B4 z hR
    have h0R : H1 R = none := t4.fresh (fun x z => (memB K b).there B4 z) hR
    have f4R : F4 R = none := t4.fh.free hR
    obtain ⟨s5, B5⟩ := rawB (o := .lst [.ref r0, .ref r1]) t4 B4 hR
    have hR5 : (upd H4 R (.lst [.ref r0, .ref r1])) R = some (.lst [.ref r0, .ref r1]) := upd_same
    generalize upd H4 R (.lst [.ref r0, .ref r1]) = H5 at s5 B5 hR5
    refine gn ?_
    refine ⟨_, rfl, F4, b, rfl, B5, s5.fh, fun F6 H6 n0 s6 B6 nu0 => ⟨_, rfl, F6, b, rfl, B6, s6.fh, fun F7 H7 n1 s7 B7 nu1 => ⟨_, rfl, F7, b, rfl, B7, s7.fh, fun F8 H8 n2 s8 B8 nu2 => ⟨by show 3 ≤ sizeLine; decide, fun N hN => ?_⟩⟩⟩⟩
    obtain ⟨x0, hx0, fx0⟩ := nu0
    obtain ⟨x1, hx1, fx1⟩ := nu1
    obtain ⟨x2, hx2, fx2⟩ := nu2
    have t8 := seqB (seqB (seqB s5 B5 s6) B6 s7) B7 s8
    have e48 := s6.ff.trans (s7.ff.trans s8.ff)
    have hR8 := s8.hh R _ nRb (s7.hh R _ nRb (s6.hh R _ nRb hR5))
    have f8R : F8 R = none := by
      have a6 := s6.nw R f4R (by rw [hR5]; exact fun q => nomatch q)
      have a7 := s7.nw R a6 (by rw [s6.hh R _ nRb hR5]; exact fun q => nomatch q)
      exact s8.nw R a7 (by rw [s7.hh R _ nRb (s6.hh R _ nRb hR5)]; exact fun q => nomatch q)
    have nNb : N ≠ b := fun z => (memB K b).there B8 z hN
    have nNR : N ≠ R := fun z => by rw [z, hR8] at hN; cases hN
    have h0N : H1 N = none := t8.fresh (fun x z => (memB K b).there B8 z) hN
    have f8N : F8 N = none := t8.fh.free hN
    obtain ⟨s9, B9⟩ := rawB (o := .lst [n0, n1, n2]) t8 B8 hN
    have hN9 : (upd H8 N (.lst [n0, n1, n2])) N = some (.lst [n0, n1, n2]) := upd_same
    have hR9 : (upd H8 N (.lst [n0, n1, n2])) R = some (.lst [.ref r0, .ref r1]) := by rw [upd_ne (Ne.symm nNR)]; exact hR8
    generalize upd H8 N (.lst [n0, n1, n2]) = H9 at s9 B9 hN9 hR9
    have pl9 := e48 _ _ pl4
    have ss9 := ss4.up e48
    have r09 := e48 _ _ r04
    have r19 := e48 _ _ hr1
    have pr09 : Paired (PrQ K F8) ys0 L0 := Paired.mapP pr04 fun _ _ z => z.up e48
    have pr19 : Paired (PrQ K F8) ys1 L1 := Paired.mapP pr1 fun _ _ z => z.up e48
    have hx09 := hx0.up (s7.ff.trans s8.ff)
    have hx19 := hx1.up s8.ff
    clear s2 B2 hpl ss s3 B3 hr0 pr0 s4 B4 hr1 pr1 t4 pl4 ss4 r04 pr04 hR f4R s5 B5 hR5 s6 B6 s7 B7 s8 B8 hx0 hx1 t8 e48 hR8 hN
    refine gn ?_
    dsimp only
    refine seq_with (fun σ' H' => ∃ F' r1 n1 ys1 L1 x1, σ' = [some (.ref p), some (.ref b), some (.ref pl), some (.ref R), some (.ref N), none, none, none, none, none] ∧ Sb b F1 H1 F' H' ∧ Bag K b F' H' ∧ Same F8 F' ∧ F' R = none ∧ F' N = none ∧ H' R = some (.lst [.ref r0, .ref r1]) ∧ H' N = some (.lst [n0, n1, n2]) ∧ F' r1 = some (.lst ys1) ∧ Paired (PrQ K F') ys1 L1 ∧ RowL ps L1 ∧ Rq K F' n1 x1 ∧ Fn 41 x1) (fun u hu => ?_) ?_
    · refine ⟨_, rfl, F8, b, 4, rfl, B9, s9.fh, by decide, sz_of 3 (by decide) (by decide), fun H10 c s10 B10 => ⟨c, rfl, ?_⟩⟩
      have t10 := seqB s9 B9 s10
      have hR10 := s10.hh R _ nRb hR9
      have hN10 := s10.hh N _ nNb hN9
      cases c with
      | false => exact iteF (hu _ _ ⟨F8, r1, n1, ys1, L1, x1, rfl, t10, B10, Same.refl _, f8R, f8N, hR10, hN10, r19, pr19, row1, hx19, fx1⟩)
      | true =>
        refine iteT ?_
        refine ⟨_, rfl, _, rfl, R, _, _, _, rfl, rfl, SqL.of hR10, at0, F8, b, r0, ys0, rfl, B10, s10.fh, SqL.of r09, by have := Paired.length pr09; have := row0.len; omega, fun F11 H11 O zs s11 B11 hO perm => ?_⟩
        obtain ⟨M, pm, prM⟩ := Paired.permL perm (Paired.mapP pr09 fun _ _ q => q.up s11.ff)
        have t11 := seqB t10 B10 s11
        have hR11 := s11.hh R _ nRb hR10
        have hN11 := s11.hh N _ nNb hN10
        have f11R : F11 R = none := s11.nw R f8R (by rw [hR10]; exact fun q => nomatch q)
        have f11N : F11 N = none := s11.nw N f8N (by rw [hN10]; exact fun q => nomatch q)
        refine ⟨_, rfl, R, _, 1, 1, rfl, rfl, hR11, rfl, ?_⟩
        obtain ⟨s12, B12⟩ := mutB (o := .lst [.ref r0, .ref O]) t11 B11 f11R h0R nRb
        have hR12 : (upd H11 R (.lst [.ref r0, .ref O])) R = some (.lst [.ref r0, .ref O]) := upd_same
        have hN12 : (upd H11 R (.lst [.ref r0, .ref O])) N = some (.lst [n0, n1, n2]) := by rw [upd_ne nNR]; exact hN11
        have eset : [V.ref r0, V.ref r1].set 1 (V.ref O) = [V.ref r0, V.ref O] := rfl
        rw [eset]
        generalize upd H11 R (.lst [.ref r0, .ref O]) = H12 at s12 B12 hR12 hN12
        refine ⟨_, rfl, N, _, _, _, rfl, rfl, SqL.of hN12, (rfl : atI [n0, n1, n2] 0 = some n0), _, rfl, N, _, 1, 1, rfl, rfl, hN12, rfl, ?_⟩
        obtain ⟨s13, B13⟩ := mutB (o := .lst [n0, n0, n2]) s12 B12 f11N h0N nNb
        exact hu _ _ ⟨F11, O, n0, zs, M, x0, rfl, s13, B13, s11.ff, f11R, f11N, by rw [upd_ne (Ne.symm nNR)]; exact hR12, upd_same, hO, prM, row0.perm pm, hx09.up s11.ff, fx0⟩
    · clear r19 pr19 row1 hx19 fx1 s9 B9 hN9 hR9 f8R f8N
      rintro _ H10 ⟨F10, r1, n1, ys1, L1, x1, rfl, s10, B10, e10, f10R, f10N, hR10, hN10, r19, pr19, row1, hx1, fx1⟩
      obtain ⟨s11, B11⟩ := freezeB s10 B10 f10R h0R nRb hR10
      have eR : Same F10 (upd F10 R (.lst [.ref r0, .ref r1])) := same_new f10R
      have hR11 : (upd F10 R (.lst [.ref r0, .ref r1])) R = some (.lst [.ref r0, .ref r1]) := upd_same
      have fN11 : (upd F10 R (.lst [.ref r0, .ref r1])) N = none := by rw [upd_ne nNR]; exact f10N
      generalize upd F10 R (.lst [.ref r0, .ref r1]) = F11 at s11 B11 eR hR11 fN11
      obtain ⟨s12, B12⟩ := freezeB s11 B11 fN11 h0N nNb hN10
      have eN : Same F11 (upd F11 N (.lst [n0, n1, n2])) := same_new fN11
      have hN12 : (upd F11 N (.lst [n0, n1, n2])) N = some (.lst [n0, n1, n2]) := upd_same
      have hR12 := eN _ _ hR11
      generalize upd F11 N (.lst [n0, n1, n2]) = F12 at s12 B12 eN hN12 hR12
      have e12 := eR.trans eN
      have eA := e10.trans e12
      have pl12 := eA _ _ pl9
      have ss12 := ss9.up eA
      have r012 := eA _ _ r09
      have pr012 : Paired (PrQ K F12) ys0 L0 := Paired.mapP pr09 fun _ _ z => z.up eA
      have r112 := e12 _ _ r19
      have pr112 : Paired (PrQ K F12) ys1 L1 := Paired.mapP pr19 fun _ _ z => z.up e12
      have y0 := hx09.up eA
      have y1 := hx1.up e12
      have y2 := hx2.up eA
      clear pl9 ss9 r09 pr09 r19 pr19 hx09 hx1 hx2 eR hR11 fN11 eN s11 B11 s10 B10 hR10 hN10 f10R f10N e10 e12 eA
      have ll0 := row0.len
      have ll1 := row1.len
      have ly0 := Paired.length pr012
      have ly1 := Paired.length pr112
      have ok0 := row0.okT pool
      have ok1 := row1.okT pool
      have lx := ss12.1
      have lp := pool.len
      have hS := pool.okS
      -- the dues
      refine ⟨_, rfl, R, _, _, _, rfl, rfl, SqL.of (s12.fh _ _ hR12), at0, _, rfl, N, _, _, _, rfl, rfl, SqL.of (s12.fh _ _ hN12), (rfl : atI [n0, n1, n2] 0 = some n0), r0, n0, ys0, L0, x0, rfl, SqL.of (s12.fh _ _ r012), Paired.mapP pr012 fun _ _ z => z.up s12.fh, by omega, ok0, y0.of s12.fh, fun H13 d0 T0 g13 pf0 hd0 => ?_⟩
      have e13 := fun q o z => g13 _ _ (s12.fh q o z)
      refine ⟨_, rfl, R, _, _, _, rfl, rfl, SqL.of (e13 _ _ hR12), at1, _, rfl, N, _, _, _, rfl, rfl, SqL.of (e13 _ _ hN12), (rfl : atI [n0, n1, n2] 1 = some n1), r1, n1, ys1, L1, x1, rfl, SqL.of (e13 _ _ r112), Paired.mapP pr112 fun _ _ z => z.up e13, by omega, ok1, y1.of e13, fun H14 d1 T1 g14 pf1 hd1 => ⟨by show 2 ≤ sizeLine; decide, fun dl hdl => ?_⟩⟩
      have hd0' := hd0.ts (Same.ts g14)
      obtain ⟨s14, B14⟩ := pureB s12 B12 (stp_keep s12.fh (g13.trans g14))
      obtain ⟨s15, B15⟩ := newB (o := .lst [d0, d1]) s14 B14 hdl
      have eD := same_new (o := .lst [d0, d1]) (s14.fh.free hdl)
      have gD := same_new (o := .lst [d0, d1]) hdl
      have hdl15 : (upd F12 dl (.lst [d0, d1])) dl = some (.lst [d0, d1]) := upd_same
      have gA := g13.trans (g14.trans gD)
      have hd0 := hd0'.ts (Same.ts gD)
      have hd1 := hd1.ts (Same.ts gD)
      generalize upd F12 dl (.lst [d0, d1]) = F15 at s15 B15 eD hdl15
      generalize upd H14 dl (.lst [d0, d1]) = H15 at *
      clear s14 B14 hd0' e13 g13 g14 gD hdl
      have pl15 := eD _ _ pl12
      have ss15 := ss12.up eD
      have hR15 := eD _ _ hR12
      have hN15 := eD _ _ hN12
      have r015 := eD _ _ r012
      have r115 := eD _ _ r112
      have pr0 : Paired (PrQ K F15) ys0 L0 := Paired.mapP pr012 fun _ _ z => z.up eD
      have pr1 : Paired (PrQ K F15) ys1 L1 := Paired.mapP pr112 fun _ _ z => z.up eD
      have y0 := y0.up eD
      have y1 := y1.up eD
      have y2 := y2.up eD
      clear pl12 ss12 hR12 hN12 r012 r112 pr012 pr112 s12 B12 eD gA
      refine gn ?_
      -- handed
      refine ⟨_, rfl, R, _, _, _, rfl, rfl, SqL.of (s15.fh _ _ hR15), at0, r0, ys0, rfl, .inl (SqL.of (s15.fh _ _ r015)), fun Z hZ => ?_⟩
      have nZb : Z ≠ b := fun z => (memB K b).there B15 z hZ
      have h0Z : H1 Z = none := s15.fresh (fun x z => (memB K b).there B15 z) hZ
      have fZ : F15 Z = none := s15.fh.free hZ
      obtain ⟨s16, B16⟩ := rawB (o := .lst ys0) s15 B15 hZ
      have g16 := same_new (o := .lst ys0) hZ
      have hZ16 : (upd H15 Z (.lst ys0)) Z = some (.lst ys0) := upd_same
      generalize upd H15 Z (.lst ys0) = H16 at *
      refine gn ?_
      -- the forms
      refine ⟨_, rfl, _, rfl, N, _, _, _, rfl, rfl, SqL.of (s16.fh _ _ hN15), (rfl : atI [n0, n1, n2] 0 = some n0), ?_⟩
      refine mk_fmA (.inl (SqL.of hZ16)) (by omega) (Paired.mapP pr0 fun _ _ z => z.up s16.fh) ok0 (y0.of s16.fh) fun H17 o1 T0' g17 fm1 pf0' => ?_
      have eT0 : T0' = T0 := pf0'.uniq pf0 fun s => rfl
      rw [eT0] at fm1
      clear eT0 pf0' T0'
      have e17 := fun q o z => g17 _ _ (s16.fh q o z)
      refine gn ?_
      refine ⟨_, rfl, R, _, _, _, rfl, rfl, SqL.of (e17 _ _ hR15), at1, r1, ys1, rfl, .inl ⟨SqL.of (e17 _ _ r115), fun t ht => ?_⟩⟩
      have gt := same_new (o := .tup ys1) ht
      have wt : SqT K (upd H17 t (.tup ys1)) t ys1 := sq_new
      generalize upd H17 t (.tup ys1) = H18 at gt wt
      have e18 := fun q o z => gt _ _ (e17 q o z)
      refine ⟨_, rfl, N, _, _, _, rfl, rfl, SqL.of (e18 _ _ hN15), (rfl : atI [n0, n1, n2] 1 = some n1), ?_⟩
      refine mk_fmA (.inr wt) (by omega) (Paired.mapP pr1 fun _ _ z => z.up e18) ok1 (y1.of e18) fun H19 o2 T1' g19 fm2 pf1' => ?_
      have eT1 : T1' = T1 := pf1'.uniq pf1 fun s => rfl
      rw [eT1] at fm2
      clear eT1 pf1' T1'
      have g := g17.trans (gt.trans g19)
      obtain ⟨s19, B19⟩ := pureB s16 B16 (stp_keep s16.fh g)
      have fm1 := fm1.up (gt.trans g19)
      have hd0 := hd0.ts (Same.ts (g16.trans g))
      have hd1 := hd1.ts (Same.ts (g16.trans g))
      have hZ19 := g _ _ hZ16
      clear e17 e18 wt ht gt g17 g19 g g16 hZ16 hZ s16 B16
      refine gn ?_
      dsimp only
      have ok0F := row0.okF pool pf0
      have ok1F := row1.okF pool pf1
      have sok0 := ok0F.sok hS
      have sok1 := ok1F.sok hS
      have len0 := ok0F.len
      have len1 := ok1F.len
      have hZd := dp_prs (Paired.mapP pr0 fun _ _ z => z.up s19.fh)
      have flr : Fl 3 (.list (L0.map cD)) := Fl.lst (FlA.all fun d hd => by
        obtain ⟨c, hc, rfl⟩ := List.mem_map.mp hd
        exact fl_c ((row0.sok pool) c hc))
      have eqr : PyData.eqv (.list (L0.map cD)) (.list (L0.map cD)) = true := by
        rw [PyData.eqv, eqvAll_c, decide_eq_true rfl]
      refine ⟨_, rfl, _, rfl, R, _, _, _, rfl, rfl, SqL.of (s19.fh _ _ hR15), at0, .list (L0.map cD), .list (L0.map cD), .lst (SqL.of hZ19) hZd, .lst (SqL.of (s19.fh _ _ r015)) hZd, flr.sh (by decide), flr.sh (by decide), _, rfl, ?_⟩
      rw [eqr]
      refine iteF ?_
      refine ⟨_, rfl, _, rfl, dl, _, _, _, rfl, rfl, SqL.of (s19.fh _ _ hdl15), at0, .ref o1, d0, T0, x0, rfl, fm1, hd0, sok0, by omega, fun H20 g20 => ⟨true, rfl, iteF ?_⟩⟩
      have e20 := fun q o z => g20 _ _ (s19.fh q o z)
      refine ⟨_, rfl, _, rfl, dl, _, _, _, rfl, rfl, SqL.of (e20 _ _ hdl15), at1, .ref o2, d1, T1, x1, rfl, fm2.up g20, hd1.ts (Same.ts g20), sok1, by omega, fun H21 g21 => ⟨true, rfl, iteF ?_⟩⟩
      have g := g20.trans g21
      obtain ⟨s21, B21⟩ := pureB s19 B19 (stp_keep s19.fh g)
      have fm1 := fm1.up g
      have fm2 := fm2.up g
      have hd0 := hd0.ts (Same.ts g)
      have hd1 := hd1.ts (Same.ts g)
      have hZ21 := g _ _ hZ19
      clear e20 g20 g21 g s19 B19 hZ19 hZd
      -- what is handed over changes
      have lps : 0 < ps.length := by omega
      obtain ⟨v0, hv0, q0, rfl, hq0⟩ := ss15.2 0 _ (List.getElem?_eq_getElem lps)
      obtain ⟨vl, hvl, ql, rfl, hql⟩ := ss15.2 (ps.length - 1) _ (List.getElem?_eq_getElem (by omega))
      rw [← lx] at hvl
      have av0 : atI xs (0 : Int) = some (.ref q0) := atI_int (by omega) (by omega) hv0
      refine ⟨_, rfl, .inl ⟨rfl, ys0, SqL.of hZ21⟩, _, rfl, pl, _, _, _, rfl, rfl, SqL.of (s21.fh _ _ pl15), av0, by show 2 ≤ sizeLine; decide, fun t ht => ⟨by show 2 ≤ sizeLine; decide, fun t2 ht2 => ?_⟩⟩
      have ga := (same_new (o := .tup [.int 1, .int 1]) ht).trans (same_new (o := .tup [.ref q0, .ref t]) ht2)
      generalize upd (upd H21 t (.tup [.int 1, .int 1])) t2 (.tup [.ref q0, .ref t]) = H22 at *
      have hZ22 := ga _ _ hZ21
      obtain ⟨s22, B22⟩ := pureB s21 B21 (stp_keep s21.fh ga)
      refine ⟨Z, ys0, .ref t2, rfl, rfl, hZ22, by rw [sizeLine_eq]; omega, ?_⟩
      obtain ⟨s23, B23⟩ := mutB (o := .lst (ys0 ++ [.ref t2])) s22 B22 fZ h0Z nZb
      have i23 : TI H21 (upd H22 Z (.lst (ys0 ++ [.ref t2]))) := (TI.of ga).trans (TI.mut hZ22 trivial fun _ _ _ z => nomatch z)
      have hZ23 : (upd H22 Z (.lst (ys0 ++ [.ref t2]))) Z = some (.lst (ys0 ++ [.ref t2])) := upd_same
      generalize upd H22 Z (.lst (ys0 ++ [.ref t2])) = H23 at s23 B23 i23 hZ23
      clear ht ht2 ga hZ22 s22 B22 hZ21 s21 B21
      refine ⟨_, rfl, _, rfl, pl, _, _, _, rfl, rfl, SqL.of (s23.fh _ _ pl15), atI_last hvl, by show 2 ≤ sizeLine; decide, fun t ht => ⟨by show 2 ≤ sizeLine; decide, fun t2 ht2 => ?_⟩⟩
      have ga := (same_new (o := .tup [.int 7, .int 2]) ht).trans (same_new (o := .tup [.ref ql, .ref t]) ht2)
      generalize upd (upd H23 t (.tup [.int 7, .int 2])) t2 (.tup [.ref ql, .ref t]) = H24 at *
      have hZ24 := ga _ _ hZ23
      obtain ⟨s24, B24⟩ := pureB s23 B23 (stp_keep s23.fh ga)
      refine ⟨_, rfl, Z, _, 0, 0, rfl, rfl, hZ24, ix_zero (by rw [List.length_append]; show 1 ≤ ys0.length + 1; omega), ?_⟩
      generalize (ys0 ++ [V.ref _]).set 0 _ = zs
      obtain ⟨s25, B25⟩ := mutB (o := .lst zs) s24 B24 fZ h0Z nZb
      have i25 : TI H21 (upd H24 Z (.lst zs)) := i23.trans ((TI.of ga).trans (TI.mut hZ24 trivial fun _ _ _ z => nomatch z))
      generalize upd H24 Z (.lst zs) = H25 at s25 B25 i25
      clear ht ht2 ga hZ24 s24 B24 hZ23 s23 B23 i23
      have fm1 := fm1.ti i25
      have fm2 := fm2.ti i25
      have hd0 := hd0.ts i25.ts
      have hd1 := hd1.ts i25.ts
      clear i25
      refine ⟨_, rfl, _, rfl, dl, _, _, _, rfl, rfl, SqL.of (s25.fh _ _ hdl15), at0, .ref o1, d0, T0, x0, rfl, fm1, hd0, sok0, by omega, fun H26 g26 => ⟨true, rfl, iteF ?_⟩⟩
      have e26 := fun q o z => g26 _ _ (s25.fh q o z)
      refine ⟨_, rfl, _, rfl, _, rfl, _, rfl, N, _, _, _, rfl, rfl, SqL.of (e26 _ _ hN15), (rfl : atI [n0, n1, n2] 2 = some n2), .ref o1, .ref o2, n2, d0, d1, dl, T0, T1, x0, x1, x2, ps, 380, 41, rfl, fm1.up g26, fm2.up g26, SqL.of (e26 _ _ hdl15), hd0.ts (Same.ts g26), hd1.ts (Same.ts g26), y2.of e26, ok0F, ok1F, hS, by omega, by decide, by decide, fx2, by decide, fx0.mono (by decide), fx1.mono (by decide), fun H27 g27 => ⟨true, rfl, iteF ?_⟩⟩
      have e27 := fun q o z => g27 _ _ (e26 q o z)
      -- Form of the row alone
      refine ⟨_, rfl, R, _, _, _, rfl, rfl, SqL.of (e27 _ _ hR15), at0, ?_⟩
      refine mk_fmA (x := 0) (.inl (SqL.of (e27 _ _ r015))) (by omega) (Paired.mapP pr0 fun _ _ z => z.up e27) ok0 ⟨_, rfl, T.t_Z _⟩ fun H28 o3 T0' g28 fm3 pf0' => ?_
      have eT0 : T0' = T0 := pf0'.uniq pf0 fun s => rfl
      rw [eT0] at fm3
      clear eT0 pf0' T0'
      have g := g26.trans (g27.trans g28)
      obtain ⟨s28, B28⟩ := pureB s25 B25 (stp_keep s25.fh g)
      have fm1 := fm1.up g
      have fm2 := fm2.up g
      have hd0 := hd0.ts (Same.ts g)
      have hd1 := hd1.ts (Same.ts g)
      clear e26 e27 g26 g27 g28 g s25 B25
      obtain ⟨p0, tp0, rp0, xp0, qp0, rfl, a0, b0, c0, rfl, er0⟩ := hd0.at0
      refine ⟨_, rfl, dl, _, _, _, rfl, rfl, SqL.of (s28.fh _ _ hdl15), at0, p0, _, _, _, rfl, rfl, a0, at0, by show 2 ≤ sizeLine; decide, fun t ht => ⟨by show 2 ≤ sizeLine; decide, fun t2 ht2 => ?_⟩⟩
      have ga := same_new (o := .tup [.int 0, .int 1]) ht
      have wa : Rq K (upd H28 t (.tup [.int 0, .int 1])) (.ref t) 0 := ⟨t, rfl, by rw [nd_zero]; exact sq_new⟩
      generalize upd H28 t (.tup [.int 0, .int 1]) = H29 at *
      have gb := same_new (o := .tup [.ref tp0, .ref t]) ht2
      have wb : SqT K (upd H29 t2 (.tup [.ref tp0, .ref t])) t2 [.ref tp0, .ref t] := sq_new
      generalize upd H29 t2 (.tup [.ref tp0, .ref t]) = H30 at *
      have gc := ga.trans gb
      refine ⟨.ref o3, .ref t2, T0, 0, rfl, fm3.up gc, ⟨t2, _, _, rfl, wb, ⟨tp0, xp0, rfl, upT gc b0, Paired.mapP c0 fun _ _ z => z.up gc⟩, wa.of gb⟩, sok0, by omega, fun H31 g31 => ⟨true, rfl, iteF ?_⟩⟩
      obtain ⟨s31, B31⟩ := pureB s28 B28 (stp_keep s28.fh (gc.trans g31))
      have fm1 := fm1.up (gc.trans g31)
      have fm2 := fm2.up (gc.trans g31)
      have hd0 := PlV.ts hd0 (Same.ts (gc.trans g31))
      have hd1 := hd1.ts (Same.ts (gc.trans g31))
      clear ht ht2 ga wa gb wb gc g31 a0 b0 c0 er0 fm3 s28 B28
      -- Form of nothing
      refine mk_fmA (L := []) (xs := []) (x := 0) (.inr (T.t_E _)) (by decide) .nil ⟨fun _ z => (nomatch z), fun _ z => (nomatch z), fun n s => by rw [List.take_nil]; exact fn_zero.mono (by decide)⟩ ⟨_, rfl, T.t_Z _⟩ fun H32 o4 T4 g32 fm4 pf4 => ?_
      have eT4 : T4 = [] := pf_zero pf4 fun s => rfl
      subst eT4
      refine ⟨Nat.zero_le _, fun q1 hq1 => ⟨by show 2 ≤ sizeLine; decide, fun q2 hq2 => ⟨by show 2 ≤ sizeLine; decide, fun q3 hq3 => ?_⟩⟩⟩
      have g1 := same_new (o := .tup []) hq1
      have w1 : SqT K (upd H32 q1 (.tup [])) q1 [] := sq_new
      generalize upd H32 q1 (.tup []) = H33 at *
      have g2 := same_new (o := .tup [.int 0, .int 1]) hq2
      have w2 : SqT K (upd H33 q2 (.tup [.int 0, .int 1])) q2 [.int 0, .int 1] := sq_new
      generalize upd H33 q2 (.tup [.int 0, .int 1]) = H34 at *
      have g3 := same_new (o := .tup [.ref q1, .ref q2]) hq3
      have w3 : SqT K (upd H34 q3 (.tup [.ref q1, .ref q2])) q3 [.ref q1, .ref q2] := sq_new
      generalize upd H34 q3 (.tup [.ref q1, .ref q2]) = H35 at *
      have gc := g1.trans (g2.trans g3)
      refine ⟨.ref o4, .ref q3, [], 0, rfl, fm4.up gc, pl_empty (upT (g2.trans g3) w1) (upT g3 w2) w3, fun _ z => (nomatch z), by show 0 ≤ 900; decide, fun H36 g36 => ⟨true, rfl, iteF ?_⟩⟩
      have g := g32.trans (gc.trans g36)
      obtain ⟨s36, B36⟩ := pureB s31 B31 (stp_keep s31.fh g)
      have i36 := TI.of g
      clear g1 w1 g2 w2 g3 w3 gc g36 hq1 hq2 hq3 fm4 pf4 g32
      -- the spot
      refine ⟨_, rfl, _, rfl, F15, b, .ref pl, xs, rfl, .inl ⟨pl, rfl, SqL.of pl15⟩, by intro z; rw [z] at lx; have : (0 : Nat) = ps.length := lx; omega, by omega, B36, s36.fh, fun H37 vp jj s37 B37 hj => ?_⟩
      obtain ⟨pp, qp, mpp, rfl, hqp⟩ : ∃ pp qp, pp ∈ ps ∧ vp = .ref qp ∧ F15 qp = some (.tup (spV pp)) := by
        have hlt : jj < ps.length := by have := (List.getElem?_eq_some_iff.mp hj).1; omega
        obtain ⟨x, h1, qx, rfl, h2⟩ := ss15.2 jj _ (List.getElem?_eq_getElem hlt)
        rw [hj] at h1
        cases h1
        exact ⟨_, qx, List.getElem_mem hlt, rfl, h2⟩
      have i37 := i36.trans (s37.ti B36)
      have s37' := seqB s36 B36 s37
      have npp : pp ≠ ground := pool.ng _ mpp
      refine gn ?_
      have hqp37 := s37'.fh _ _ hqp
      refine ⟨.inl rfl, _, rfl, .ref qp, pp, rfl, ⟨qp, rfl, hqp37⟩, pool.ok _ mpp, fun H38 z38 T5 g38 fm5 pf5 => ?_⟩
      have eT5 : T5 = [(pp, 1)] := pf5.uniq (pf_one npp) fun s => rfl
      subst eT5
      refine ⟨_, rfl, by show 2 ≤ sizeLine; decide, fun q1 hq1 => ⟨by show 2 ≤ sizeLine; decide, fun q2 hq2 => ⟨by show 1 ≤ sizeLine; decide, fun q3 hq3 => ⟨by show 2 ≤ sizeLine; decide, fun q4 hq4 => ⟨by show 2 ≤ sizeLine; decide, fun q5 hq5 => ?_⟩⟩⟩⟩⟩
      have g1 := same_new (o := .tup [.int 1, .int 1]) hq1
      have w1 : Rq K (upd H38 q1 (.tup [.int 1, .int 1])) (.ref q1) 1 := one_rq sq_new
      generalize upd H38 q1 (.tup [.int 1, .int 1]) = H39 at *
      have g2 := same_new (o := .tup [.ref qp, .ref q1]) hq2
      have w2 : SqT K (upd H39 q2 (.tup [.ref qp, .ref q1])) q2 [.ref qp, .ref q1] := sq_new
      generalize upd H39 q2 (.tup [.ref qp, .ref q1]) = H40 at *
      have g3 := same_new (o := .tup [.ref q2]) hq3
      have w3 : SqT K (upd H40 q3 (.tup [.ref q2])) q3 [.ref q2] := sq_new
      generalize upd H40 q3 (.tup [.ref q2]) = H41 at *
      have g4 := same_new (o := .tup [.int 0, .int 1]) hq4
      have w4 : Rq K (upd H41 q4 (.tup [.int 0, .int 1])) (.ref q4) 0 := ⟨q4, rfl, by rw [nd_zero]; exact sq_new⟩
      generalize upd H41 q4 (.tup [.int 0, .int 1]) = H42 at *
      have g5 := same_new (o := .tup [.ref q3, .ref q4]) hq5
      have w5 : SqT K (upd H42 q5 (.tup [.ref q3, .ref q4])) q5 [.ref q3, .ref q4] := sq_new
      generalize upd H42 q5 (.tup [.ref q3, .ref q4]) = H43 at *
      have gc := g1.trans (g2.trans (g3.trans (g4.trans g5)))
      have tm5 : TmV K H43 (.ref q3) [(pp, 1)] := ⟨q3, _, rfl, upT (g4.trans g5) w3, .cons ⟨q2, _, _, rfl, upT (g3.trans (g4.trans g5)) w2, ⟨qp, rfl, gc _ _ (g38 _ _ hqp37)⟩, w1.of (g2.trans (g3.trans (g4.trans g5)))⟩ .nil⟩
      refine ⟨z38, .ref q5, [(pp, 1)], 0, rfl, fm5.up gc, ⟨q5, _, _, rfl, w5, tm5, w4.of g5⟩, fun c hc => by rw [List.mem_singleton.mp hc]; exact pool.ok _ mpp, by show 1 ≤ 900; decide, fun H44 g44 => ⟨true, rfl, iteF ?_⟩⟩
      have g45 := g38.trans (gc.trans g44)
      clear g1 w1 g2 w2 g3 w3 g4 w4 g5 w5 gc tm5 hq1 hq2 hq3 hq4 hq5 fm5 pf5 g38 g44
      refine ⟨.inl rfl, rfl, fun q0' hq0' => ⟨.ref q0', ground, rfl, ⟨q0', rfl, upd_same⟩, by decide +kernel, fun H46 z46 T6 g46 fm6 pf6 => ?_⟩⟩
      have eT6 : T6 = [] := pf_zero pf6 fun s => by
        rw [tot_ng, tot_one]
        by_cases g : s = ground
        · rw [if_pos g]
        · rw [if_neg g, if_neg fun z => g z.symm]
      subst eT6
      have g46 := (same_new (o := .tup (spV ground)) hq0').trans g46
      refine ⟨Nat.zero_le _, fun q1 hq1 => ⟨by show 2 ≤ sizeLine; decide, fun q2 hq2 => ⟨by show 2 ≤ sizeLine; decide, fun q3 hq3 => ?_⟩⟩⟩
      have g1 := same_new (o := .tup []) hq1
      have w1 : SqT K (upd H46 q1 (.tup [])) q1 [] := sq_new
      generalize upd H46 q1 (.tup []) = H47 at *
      have g2 := same_new (o := .tup [.int 0, .int 1]) hq2
      have w2 : SqT K (upd H47 q2 (.tup [.int 0, .int 1])) q2 [.int 0, .int 1] := sq_new
      generalize upd H47 q2 (.tup [.int 0, .int 1]) = H48 at *
      have g3 := same_new (o := .tup [.ref q1, .ref q2]) hq3
      have w3 : SqT K (upd H48 q3 (.tup [.ref q1, .ref q2])) q3 [.ref q1, .ref q2] := sq_new
      generalize upd H48 q3 (.tup [.ref q1, .ref q2]) = H49 at *
      have gc := g1.trans (g2.trans g3)
      refine ⟨z46, .ref q3, [], 0, rfl, fm6.up gc, pl_empty (upT (g2.trans g3) w1) (upT g3 w2) w3, fun _ z => (nomatch z), by show 0 ≤ 900; decide, fun H50 g50 => ⟨true, rfl, iteF ?_⟩⟩
      have g := g45.trans (g46.trans (gc.trans g50))
      obtain ⟨s50, B50⟩ := pureB s37' B37 (stp_keep s37'.fh g)
      have i50 := i37.trans (TI.of g)
      have fm1 := fm1.ti i50
      have fm2 := fm2.ti i50
      have hd0 := PlV.ts hd0 i50.ts
      have hd1 := hd1.ts i50.ts
      clear g1 w1 g2 w2 g3 w3 gc g50 hq1 hq2 hq3 fm6 pf6 g46 g45 i50 i37 i36 s37' s37 s36 B36 B37 s31 B31
      have vl0 : ∀ L : Tm, (∀ c ∈ L, Fn 41 c.2) → VlOk T0 L x0 := fun L hL => row0.vl pool j5 pf0 fx0 hL
      have vl1 : ∀ L : Tm, (∀ c ∈ L, Fn 41 c.2) → VlOk T1 L x1 := fun L hL => row1.vl pool j5 pf1 fx1 hL
      -- equal ones
      refine ⟨_, rfl, _, rfl, _, rfl, _, rfl, _, rfl, _, rfl, N, _, _, _, rfl, rfl, SqL.of (s50.fh _ _ hN15), (rfl : atI [n0, n1, n2] 2 = some n2), F15, b, dl, pl, .ref o1, .ref o2, n2, .ref p0, d1, xs, ps, j, T0, T1, x0, x1, x2, rfl, B50, s50.fh, fm1, fm2, SqL.of hdl15, hd0, hd1, pl15, ss15, pool, j1, j5, y2.of s50.fh, fx2, ok0F, ok1F, fx0, fx1, fun F51 H51 s51 B51 => ⟨true, rfl, iteF ?_⟩⟩
      have i51 := s51.ti B50
      have fm1 := fm1.ti i51
      have fm2 := fm2.ti i51
      have hd0 := PlV.ts hd0 i51.ts
      have hd1 := hd1.ts i51.ts
      -- called
      refine ⟨_, rfl, _, rfl, _, rfl, dl, _, _, _, rfl, rfl, SqL.of (s51.fh _ _ (s51.ff _ _ hdl15)), at0, _, rfl, F51, b, pl, .ref o1, .ref p0, xs, ps, j, T0, x0, rfl, B51, s51.fh, fm1, hd0, s51.ff _ _ pl15, ss15.up s51.ff, pool, j5, ok0F, vl0, fun F52 H52 s52 B52 => ⟨true, rfl, iteF ?_⟩⟩
      have i52 := s52.ti B51
      have fm1 := fm1.ti i52
      have fm2 := fm2.ti i52
      have hd0 := PlV.ts hd0 i52.ts
      have hd1 := hd1.ts i52.ts
      have e52 := s51.ff.trans s52.ff
      refine ⟨_, rfl, _, rfl, _, rfl, dl, _, _, _, rfl, rfl, SqL.of (s52.fh _ _ (e52 _ _ hdl15)), at1, _, rfl, F52, b, pl, .ref o2, d1, xs, ps, j, T1, x1, rfl, B52, s52.fh, fm2, hd1, e52 _ _ pl15, ss15.up e52, pool, j5, ok1F, vl1, fun F53 H53 s53 B53 => ⟨true, rfl, iteF ?_⟩⟩
      have i53 := s53.ti B52
      have fm1 := fm1.ti i53
      have hd0 := PlV.ts hd0 i53.ts
      have e53 := e52.trans s53.ff
      -- refusals
      refine ⟨_, rfl, _, rfl, R, _, _, _, rfl, rfl, SqL.of (s53.fh _ _ (e53 _ _ hR15)), at0, _, rfl, F53, b, r0, pl, ys0, xs, L0, ps, j, rfl, B53, s53.fh, e53 _ _ r015, Paired.mapP pr0 fun _ _ z => z.up e53, row0, e53 _ _ pl15, ss15.up e53, pool, j1, j5, fun F54 H54 s54 B54 => ⟨true, rfl, ?_⟩⟩
      rw [if_pos rfl]
      have i54 := s54.ti B53
      refine ⟨_, rfl, _, rfl, dl, _, _, _, rfl, rfl, SqL.of (s54.fh _ _ (s54.ff _ _ (e53 _ _ hdl15))), at0, .ref o1, .ref p0, T0, x0, rfl, fm1.ti i54, PlV.ts hd0 i54.ts, sok0, by omega, fun H55 _ => k H55⟩
end
end K33

set_option Elab.async false
set_option linter.all false
set_option maxRecDepth 100000
set_option maxHeartbeats 4000000
namespace K33
open PySem PySem.Spec PyProof.Rows L2 Ew
theorem kit_cls0 {K : PySem.W.Frag} {t : Value} {C : Addr} {b : Bool} (h2 : PySem.W.isClsIn K C = true) (h3 : PySem.W.typeIn K (.ref C) = some (.type "type")) (h4 : PySem.W.subIn K t (.ref C) = some b) : PySem.W.kitCls K t (.ref C) = some b := by
  have e2 : ((PySem.W.clsIn K C).isSome && PySem.W.typeIn K (.ref C) == some (.type "type")) = true := by
    have h2' : (PySem.W.clsIn K C).isSome = true := h2
    rw [h2', h3] <;> rfl
  show (if ((PySem.W.clsIn K C).isSome && PySem.W.typeIn K (.ref C) == some (.type "type")) = true then PySem.W.subIn K t (.ref C) else none) = some b
  rw [if_pos e2]
  exact h4
theorem nf_of {K : PySem.W.Frag} {C : Addr} {T : String} (h : PySem.W.subIn K (.type T) (.ref C) = some false) : PySem.W.notFirst K C (.type T) = true := by
  unfold PySem.W.notFirst
  rw [h]
  simp
theorem fn_at {K : PySem.W.Frag} {f : Addr} {oc : Value} {od : Option Addr} {fd : FuncData} {sl : Array (Option Value)} (l : K.lookup f = some ⟨oc, od, .func fd, sl⟩) : PySem.W.fnIn K f = true := by
  unfold PySem.W.fnIn
  rw [l]
theorem all6 {p : String → Prop} (h1 : p "NoneType") (h2 : p "bool") (h3 : p "int") (h4 : p "str") (h5 : p "list") (h6 : p "tuple") : ∀ T ∈ (["NoneType", "bool", "int", "str", "list", "tuple"] : List String), p T := by
  intro T h
  simp only [List.mem_cons, List.not_mem_nil, or_false] at h
  rcases h with rfl | rfl | rfl | rfl | rfl | rfl
  · exact h1
  · exact h2
  · exact h3
  · exact h4
  · exact h5
  · exact h6
theorem ground_at {K : PySem.W.Frag} {aG : Addr} {odW : Option Addr} {nW : Nat} {slW : Array (Option Value)} {w0 w1 w2 : Tok} (l : K.lookup aG = some ⟨.type "tuple", odW, .seq #[.str "ground" w0, .int 0 w1, .int 0 w2] nW, slW⟩) : ∀ H, SqT K H aG [.str "ground", .int 0, .int 0] := fun H =>
  .inr ⟨_, _, nW, l, rfl, rfl, by show 3 ≤ sizeLine; decide, .cons ⟨_, rfl⟩ (.cons ⟨_, rfl⟩ (.cons ⟨_, rfl⟩ .nil))⟩
theorem kit_no1 {K : PySem.W.Frag} {C : Addr} {T : String} (h2 : PySem.W.isClsIn K C = true) (h3 : PySem.W.typeIn K (.ref C) = some (.type "type")) (h4 : PySem.W.subIn K (.type T) (.ref C) = some false) : PySem.W.kitOne K (.type T) (.ref C) = some false := by
  unfold PySem.W.kitOne
  rw [if_neg (by simp)]
  exact kit_cls0 h2 h3 h4
theorem kit_ty2 {K : PySem.W.Frag} {C : Addr} (h4 : PySem.W.subIn K (.ref C) (.type "ValueError") = some true) : PySem.W.kitOne K (.ref C) (.type "ValueError") = some true := by
  unfold PySem.W.kitOne
  rw [if_neg (by simp)]
  show (if PySem.W.kitMeta "ValueError" = true then PySem.W.subIn K (.ref C) (.type "ValueError") else none) = some true
  rw [if_pos (by decide +kernel)]
  exact h4
theorem kit_no0 {K : PySem.W.Frag} {D C : Addr} (n : D ≠ C) (h2 : PySem.W.isClsIn K C = true) (h3 : PySem.W.typeIn K (.ref C) = some (.type "type")) (h4 : PySem.W.subIn K (.ref D) (.ref C) = some false) : PySem.W.kitOne K (.ref D) (.ref C) = some false := by
  unfold PySem.W.kitOne
  rw [if_neg (by simpa using n)]
  exact kit_cls0 h2 h3 h4
theorem kit_yes {K : PySem.W.Frag} {t : Value} {C : Addr} (h2 : PySem.W.isClsIn K C = true) (h3 : PySem.W.typeIn K (.ref C) = some (.type "type")) (h4 : PySem.W.subIn K t (.ref C) = some true) : PySem.W.kitOne K t (.ref C) = some true := by
  unfold PySem.W.kitOne
  split
  · rfl
  · exact kit_cls0 h2 h3 h4
theorem empty_at {K : PySem.W.Frag} {aE : Addr} {odW : Option Addr} {nW : Nat} {slW : Array (Option Value)} (l : K.lookup aE = some ⟨.type "tuple", odW, .seq #[] nW, slW⟩) : ∀ H, SqT K H aE [] := fun H =>
  .inr ⟨_, _, nW, l, rfl, rfl, by show 0 ≤ sizeLine; decide, .nil⟩
theorem zero_at {K : PySem.W.Frag} {aZ : Addr} {odW : Option Addr} {nW : Nat} {slW : Array (Option Value)} {w1 w2 : Tok} (l : K.lookup aZ = some ⟨.type "tuple", odW, .seq #[.int 0 w1, .int 1 w2] nW, slW⟩) : ∀ H, SqT K H aZ [.int 0, .int 1] := fun H =>
  .inr ⟨_, _, nW, l, rfl, rfl, by show 2 ≤ sizeLine; decide, .cons ⟨_, rfl⟩ (.cons ⟨_, rfl⟩ .nil)⟩
theorem form_at {K : PySem.W.Frag} {C f TF aE aZ : Addr} {od an odF : Option Addr} {sl slF : Array (Option Value)} {oc kV dc pm cd ct ocF : Value} {nF : Nat} (m : L2.Mk K C f)
    (l : K.lookup f = some ⟨oc, od, .func (PySem.W.fnOf "__init__" "Form.__init__" (defArgs s_FormD_initD) (defBody s_FormD_initD) (defScope s_FormD_initD) (.ref TF) kV dc pm an cd ct), sl⟩) (lT : K.lookup TF = some ⟨ocF, odF, .seq #[.ref aE, .ref aZ] nF, slF⟩) (c : PySem.W.codeIn K cd "Form.__init__" = true) (k : PySem.W.keepIn K (.ref f) = true) :
    ∃ f fd, L2.Mk K C f ∧ FunD K "__init__" "Form.__init__" (defArgs s_FormD_initD) (defBody s_FormD_initD) (defScope s_FormD_initD) [.ref aE, .ref aZ] [] f fd ∧ ∀ j, j ≤ 2 → ∃ ds, Vals (([.ref aE, .ref aZ] : List V).drop j) ds ∧ Binds K fd P_FormD_initD ds := by
  have F : FunD K "__init__" "Form.__init__" (defArgs s_FormD_initD) (defBody s_FormD_initD) (defScope s_FormD_initD) [.ref aE, .ref aZ] [] f (PySem.W.fnOf "__init__" "Form.__init__" (defArgs s_FormD_initD) (defBody s_FormD_initD) (defScope s_FormD_initD) (.ref TF) kV dc pm an cd ct) :=
    ⟨⟨oc, od, .ref TF, kV, dc, pm, an, cd, ct, sl, rfl, l, c, .inr ⟨(fun z => nomatch z), TF, _, [.ref aE, .ref aZ], nF, rfl, lT, rfl, .cons rfl (.cons rfl .nil)⟩, .inl rfl⟩, k⟩
  refine ⟨f, _, m, F, fun j hj => ?_⟩
  have hj : j = 0 ∨ j = 1 ∨ j = 2 := by omega
  rcases hj with rfl | rfl | rfl
  · exact F.binds1 1 0 (fun z => nomatch z) rfl fun T kV doc pm an cdv ct us its h1 h2 => match us, its, h1, h2 with | [_], [_, _], _, _ => ⟨_, rfl, rfl⟩
  · exact F.binds1 2 1 (fun z => nomatch z) rfl fun T kV doc pm an cdv ct us its h1 h2 => match us, its, h1, h2 with | [_, _], [_, _], _, _ => ⟨_, rfl, rfl⟩
  · exact F.binds1 3 2 (fun z => nomatch z) rfl fun T kV doc pm an cdv ct us its h1 h2 => match us, its, h1, h2 with | [_, _, _], [_, _], _, _ => ⟨_, rfl, rfl⟩
theorem exm_of {K : PySem.W.Frag} {D C : Addr} {b : Bool} (e : PySem.W.subIn K (.ref C) (.type "BaseException") = some true) (h2 : PySem.W.isClsIn K C = true) (h3 : PySem.W.typeIn K (.ref C) = some (.type "type")) (h4 : PySem.W.subIn K (.ref D) (.ref C) = some b) : PySem.W.exmOne K (.ref D) (.ref C) = some b := by
  unfold PySem.W.exmOne
  have e1 : (PySem.W.subIn K (.ref C) (.type "BaseException") == some true) = true := by rw [e] <;> rfl
  rw [if_pos e1]
  exact kit_cls0 h2 h3 h4
theorem ratio_at {K : PySem.W.Frag} {mg : Str → Option Value} {f TT : Addr} {od an : Option Addr} {sl : Array (Option Value)} {oc kV dc pm cd ct : Value} {tD : Tok} {nD0 : Nat} {odT : Option Addr} {ocT : Value} {slT : Array (Option Value)}
    (l : K.lookup f = some ⟨oc, od, .func (PySem.W.fnOf "ratio" "ratio" (defArgs s_ratio) (defBody s_ratio) (defScope s_ratio) (.ref TT) kV dc pm an cd ct), sl⟩) (lT : K.lookup TT = some ⟨ocT, odT, .seq #[.int 1 tD] nD0, slT⟩) (c : PySem.W.codeIn K cd "ratio" = true) (k : PySem.W.keepIn K (.ref f) = true) (g : mg "ratio" = some (.ref f)) :
    DefAtD K mg "ratio" s_ratio P_ratio [.int 1] := by
  have F : FunD K "ratio" "ratio" (defArgs s_ratio) (defBody s_ratio) (defScope s_ratio) [.int 1] [] f (PySem.W.fnOf "ratio" "ratio" (defArgs s_ratio) (defBody s_ratio) (defScope s_ratio) (.ref TT) kV dc pm an cd ct) :=
    ⟨⟨oc, od, .ref TT, kV, dc, pm, an, cd, ct, sl, rfl, l, c, .inr ⟨(fun z => nomatch z), TT, _, [.int 1 tD], nD0, rfl, lT, rfl, .cons ⟨tD, rfl⟩ .nil⟩, .inl rfl⟩, k⟩
  refine ⟨f, _, F, g, fun j hj => ?_⟩
  have hj : j = 0 ∨ j = 1 := by
    have : j ≤ 1 := hj
    omega
  rcases hj with rfl | rfl
  · exact F.binds1 1 0 (fun z => nomatch z) rfl fun T kV doc pm an cdv ct us its h1 h2 => match us, its, h1, h2 with | [_], [_], _, _ => ⟨_, rfl, rfl⟩
  · exact F.binds1 2 1 (fun z => nomatch z) rfl fun T kV doc pm an cdv ct us its h1 h2 => match us, its, h1, h2 with | [_, _], [_], _, _ => ⟨_, rfl, rfl⟩
theorem all_mk {P : Program} {w : World} {K : PySem.W.Frag} {h : Heap} {mg : Str → Option Value} {fa : Addr} (X : K.In h) (G : h.Ns mainGlobals mg) (hfa : mg "law" = some (.ref fa))
    {aG : Addr} {odW : Option Addr} {nW : Nat} {slW : Array (Option Value)} {w0 w1 w2 : Tok}
    {C_EllError : Addr}
    {C_Nought : Addr} {nm_Nought q_Nought : Str} {N_Nought : Addr} {bs_Nought : List Value} {sn_Nought : List Str} {sub_Nought : List Value} {ab_Nought : Bool} {col_Nought : Option Bool} {dd_Nought : Option Addr} {m0_Nought m1_Nought m2_Nought m3_Nought m5_Nought : Option Value}
    {f1 : Addr} {od1 an1 : Option Addr} {sl1 : Array (Option Value)} {oc1 kV1 dc1 pm1 cd1 ct1 : Value}
    {C_BadWorld : Addr} {nm_BadWorld q_BadWorld : Str} {N_BadWorld : Addr} {bs_BadWorld : List Value} {sn_BadWorld : List Str} {sub_BadWorld : List Value} {ab_BadWorld : Bool} {col_BadWorld : Option Bool} {dd_BadWorld : Option Addr} {m0_BadWorld m1_BadWorld m2_BadWorld m3_BadWorld m5_BadWorld : Option Value}
    {f2 : Addr} {od2 an2 : Option Addr} {sl2 : Array (Option Value)} {oc2 kV2 dc2 pm2 cd2 ct2 : Value}
    {C_NoSpot : Addr} {nm_NoSpot q_NoSpot : Str} {N_NoSpot : Addr} {bs_NoSpot : List Value} {sn_NoSpot : List Str} {sub_NoSpot : List Value} {ab_NoSpot : Bool} {col_NoSpot : Option Bool} {dd_NoSpot : Option Addr} {m0_NoSpot m1_NoSpot m2_NoSpot m3_NoSpot m5_NoSpot : Option Value}
    {f3 : Addr} {od3 an3 : Option Addr} {sl3 : Array (Option Value)} {oc3 kV3 dc3 pm3 cd3 ct3 : Value}
    {C_BadForm : Addr} {nm_BadForm q_BadForm : Str} {N_BadForm : Addr} {bs_BadForm : List Value} {sn_BadForm : List Str} {sub_BadForm : List Value} {ab_BadForm : Bool} {col_BadForm : Option Bool} {dd_BadForm : Option Addr} {m0_BadForm m1_BadForm m2_BadForm m3_BadForm m5_BadForm : Option Value}
    {f4 : Addr} {od4 an4 : Option Addr} {sl4 : Array (Option Value)} {oc4 kV4 dc4 pm4 cd4 ct4 : Value}
    {C_BadRatio : Addr}
    {C_World : Addr}
    {f5 : Addr} {od5 an5 : Option Addr} {sl5 : Array (Option Value)} {oc5 kV5 dc5 pm5 cd5 ct5 : Value}
    {f6 : Addr} {od6 an6 : Option Addr} {sl6 : Array (Option Value)} {oc6 kV6 dc6 pm6 cd6 ct6 : Value}
    {C_Form : Addr}
    {fo_m ro_m : Option Value}
    {f7 TF aE aZ : Addr} {od7 an7 odF odE odZ : Option Addr} {sl7 slF slE slZ : Array (Option Value)} {oc7 kV7 dc7 pm7 cd7 ct7 ocF : Value} {nF nE nZ : Nat} {z0 z1 : Tok}
    {f8 : Addr} {od8 an8 : Option Addr} {sl8 : Array (Option Value)} {oc8 kV8 dc8 pm8 cd8 ct8 : Value}
    {f9 : Addr} {od9 an9 : Option Addr} {sl9 : Array (Option Value)} {oc9 kV9 dc9 pm9 cd9 ct9 : Value}
    {f10 : Addr} {od10 an10 : Option Addr} {sl10 : Array (Option Value)} {oc10 kV10 dc10 pm10 cd10 ct10 : Value}
    {f11 : Addr} {od11 an11 : Option Addr} {sl11 : Array (Option Value)} {oc11 kV11 dc11 pm11 cd11 ct11 : Value}
    {f12 : Addr} {od12 an12 : Option Addr} {sl12 : Array (Option Value)} {oc12 kV12 dc12 pm12 cd12 ct12 : Value}
    {f13 : Addr} {od13 an13 : Option Addr} {sl13 : Array (Option Value)} {oc13 kV13 dc13 pm13 cd13 ct13 : Value}
    {f14 : Addr} {od14 an14 : Option Addr} {sl14 : Array (Option Value)} {oc14 kV14 dc14 pm14 cd14 ct14 : Value}
    {p_of : Addr} {rest : List Value}
    {f15 : Addr} {od15 an15 : Option Addr} {sl15 : Array (Option Value)} {oc15 kV15 dc15 pm15 cd15 ct15 : Value}
    {f16 : Addr} {od16 an16 : Option Addr} {sl16 : Array (Option Value)} {oc16 kV16 dc16 pm16 cd16 ct16 : Value}
    {f17 : Addr} {od17 an17 : Option Addr} {sl17 : Array (Option Value)} {oc17 kV17 dc17 pm17 cd17 ct17 : Value}
    {f18 : Addr} {od18 an18 : Option Addr} {sl18 : Array (Option Value)} {oc18 kV18 dc18 pm18 cd18 ct18 : Value}
    {f19 : Addr} {od19 an19 : Option Addr} {sl19 : Array (Option Value)} {oc19 kV19 dc19 pm19 cd19 ct19 : Value}
    {f20 : Addr} {od20 an20 : Option Addr} {sl20 : Array (Option Value)} {oc20 kV20 dc20 pm20 cd20 ct20 : Value}
    {f21 : Addr} {od21 an21 : Option Addr} {sl21 : Array (Option Value)} {oc21 kV21 dc21 pm21 cd21 ct21 : Value}
    {f22 : Addr} {od22 an22 : Option Addr} {sl22 : Array (Option Value)} {oc22 kV22 dc22 pm22 cd22 ct22 : Value}
    {f23 : Addr} {od23 an23 : Option Addr} {sl23 : Array (Option Value)} {oc23 kV23 dc23 pm23 cd23 ct23 : Value}
    {f24 : Addr} {od24 an24 : Option Addr} {sl24 : Array (Option Value)} {oc24 kV24 dc24 pm24 cd24 ct24 : Value}
    {f25 : Addr} {od25 an25 : Option Addr} {sl25 : Array (Option Value)} {oc25 kV25 dc25 pm25 cd25 ct25 : Value}
    {f26 : Addr} {od26 an26 : Option Addr} {sl26 : Array (Option Value)} {oc26 kV26 dc26 pm26 cd26 ct26 : Value}
    {f27 : Addr} {od27 an27 : Option Addr} {sl27 : Array (Option Value)} {oc27 kV27 dc27 pm27 cd27 ct27 : Value}
    {f28 : Addr} {od28 an28 : Option Addr} {sl28 : Array (Option Value)} {oc28 kV28 dc28 pm28 cd28 ct28 : Value}
    {f29 : Addr} {od29 an29 : Option Addr} {sl29 : Array (Option Value)} {oc29 kV29 dc29 pm29 cd29 ct29 : Value}
    {f30 : Addr} {od30 an30 : Option Addr} {sl30 : Array (Option Value)} {oc30 kV30 dc30 pm30 cd30 ct30 : Value}
    {f31 : Addr} {od31 an31 : Option Addr} {sl31 : Array (Option Value)} {oc31 kV31 dc31 pm31 cd31 ct31 : Value}
    {f32 : Addr} {od32 an32 : Option Addr} {sl32 : Array (Option Value)} {oc32 kV32 dc32 pm32 cd32 ct32 : Value}
    {f33 : Addr} {od33 an33 : Option Addr} {sl33 : Array (Option Value)} {oc33 kV33 dc33 pm33 cd33 ct33 : Value}
    {f34 : Addr} {od34 an34 : Option Addr} {sl34 : Array (Option Value)} {oc34 kV34 dc34 pm34 cd34 ct34 : Value}
    {f35 : Addr} {od35 an35 : Option Addr} {sl35 : Array (Option Value)} {oc35 kV35 dc35 pm35 cd35 ct35 : Value}
    {f36 : Addr} {od36 an36 : Option Addr} {sl36 : Array (Option Value)} {oc36 kV36 dc36 pm36 cd36 ct36 : Value}
    {f37 : Addr} {od37 an37 : Option Addr} {sl37 : Array (Option Value)} {oc37 kV37 dc37 pm37 cd37 ct37 : Value}
    {f38 : Addr} {od38 an38 : Option Addr} {sl38 : Array (Option Value)} {oc38 kV38 dc38 pm38 cd38 ct38 : Value}
    {f39 : Addr} {od39 an39 : Option Addr} {sl39 : Array (Option Value)} {oc39 kV39 dc39 pm39 cd39 ct39 : Value}
    {f40 : Addr} {od40 an40 : Option Addr} {sl40 : Array (Option Value)} {oc40 kV40 dc40 pm40 cd40 ct40 : Value}
    {f41 : Addr} {od41 an41 : Option Addr} {sl41 : Array (Option Value)} {oc41 kV41 dc41 pm41 cd41 ct41 : Value}
    {f42 : Addr} {od42 an42 : Option Addr} {sl42 : Array (Option Value)} {oc42 kV42 dc42 pm42 cd42 ct42 : Value}
    {f43 : Addr} {od43 an43 : Option Addr} {sl43 : Array (Option Value)} {oc43 kV43 dc43 pm43 cd43 ct43 : Value}
    {f44 : Addr} {od44 an44 : Option Addr} {sl44 : Array (Option Value)} {oc44 kV44 dc44 pm44 cd44 ct44 : Value}
    {f45 : Addr} {od45 an45 : Option Addr} {sl45 : Array (Option Value)} {oc45 kV45 dc45 pm45 cd45 ct45 : Value}
    {f46 : Addr} {od46 an46 : Option Addr} {sl46 : Array (Option Value)} {oc46 kV46 dc46 pm46 cd46 ct46 : Value}
    {f47 : Addr} {od47 an47 : Option Addr} {sl47 : Array (Option Value)} {oc47 kV47 dc47 pm47 cd47 ct47 : Value}
    {f48 : Addr} {od48 an48 : Option Addr} {sl48 : Array (Option Value)} {oc48 kV48 dc48 pm48 cd48 ct48 : Value}
    {f49 : Addr} {od49 an49 : Option Addr} {sl49 : Array (Option Value)} {oc49 kV49 dc49 pm49 cd49 ct49 : Value}
    {f50 : Addr} {od50 an50 : Option Addr} {sl50 : Array (Option Value)} {oc50 kV50 dc50 pm50 cd50 ct50 : Value}
    {f51 : Addr} {od51 an51 : Option Addr} {sl51 : Array (Option Value)} {oc51 kV51 dc51 pm51 cd51 ct51 : Value}
    {f52 : Addr} {od52 an52 : Option Addr} {sl52 : Array (Option Value)} {oc52 kV52 dc52 pm52 cd52 ct52 : Value}
    {f53 : Addr} {od53 an53 : Option Addr} {sl53 : Array (Option Value)} {oc53 kV53 dc53 pm53 cd53 ct53 : Value}
    {f54 : Addr} {od54 an54 : Option Addr} {sl54 : Array (Option Value)} {oc54 kV54 dc54 pm54 cd54 ct54 : Value}
    {f55 : Addr} {od55 an55 : Option Addr} {sl55 : Array (Option Value)} {oc55 kV55 dc55 pm55 cd55 ct55 : Value}
    {f56 : Addr} {od56 an56 : Option Addr} {sl56 : Array (Option Value)} {oc56 kV56 dc56 pm56 cd56 ct56 : Value}
    {f57 : Addr} {od57 an57 : Option Addr} {sl57 : Array (Option Value)} {oc57 kV57 dc57 pm57 cd57 ct57 : Value}
    {f58 : Addr} {od58 an58 : Option Addr} {sl58 : Array (Option Value)} {oc58 kV58 dc58 pm58 cd58 ct58 : Value}
    {f59 : Addr} {od59 an59 : Option Addr} {sl59 : Array (Option Value)} {oc59 kV59 dc59 pm59 cd59 ct59 : Value}
    {f60 : Addr} {od60 an60 : Option Addr} {sl60 : Array (Option Value)} {oc60 kV60 dc60 pm60 cd60 ct60 : Value}
    {f61 : Addr} {od61 an61 : Option Addr} {sl61 : Array (Option Value)} {oc61 kV61 dc61 pm61 cd61 ct61 : Value}
    {f62 : Addr} {od62 an62 : Option Addr} {sl62 : Array (Option Value)} {oc62 kV62 dc62 pm62 cd62 ct62 : Value}
    {f63 : Addr} {od63 an63 : Option Addr} {sl63 : Array (Option Value)} {oc63 kV63 dc63 pm63 cd63 ct63 : Value}
    {f64 TT : Addr} {od64 an64 : Option Addr} {sl64 : Array (Option Value)} {oc64 kV64 dc64 pm64 cd64 ct64 : Value} {tD : Tok} {nD0 : Nat} {odT : Option Addr} {ocT : Value} {slT : Array (Option Value)}
    {f65 : Addr} {od65 an65 : Option Addr} {sl65 : Array (Option Value)} {oc65 kV65 dc65 pm65 cd65 ct65 : Value}
    (z_isinstance : PySem.W.nsIn K mainGlobals "isinstance" = some none)
    (z_int : PySem.W.nsIn K mainGlobals "int" = some none)
    (z_bool : PySem.W.nsIn K mainGlobals "bool" = some none)
    (z_tuple : PySem.W.nsIn K mainGlobals "tuple" = some none)
    (z_str : PySem.W.nsIn K mainGlobals "str" = some none)
    (z_list : PySem.W.nsIn K mainGlobals "list" = some none)
    (z_len : PySem.W.nsIn K mainGlobals "len" = some none)
    (z_abs : PySem.W.nsIn K mainGlobals "abs" = some none)
    (z_range : PySem.W.nsIn K mainGlobals "range" = some none)
    (z_enumerate : PySem.W.nsIn K mainGlobals "enumerate" = some none)
    (z_sorted : PySem.W.nsIn K mainGlobals "sorted" = some none)
    (z_ValueError : PySem.W.nsIn K mainGlobals "ValueError" = some none)
    (zgcd : PySem.W.nsIn K mainGlobals "gcd" = some (some (.builtin "math.gcd")))
    (zz_GROUND : PySem.W.nsIn K mainGlobals "GROUND" = some (some (.ref aG)))
    (lGG : K.lookup aG = some ⟨.type "tuple", odW, .seq #[.str "ground" w0, .int 0 w1, .int 0 w2] nW, slW⟩)
    (gg0 : PySem.W.specialIn K (.builtin "object.__class__") "__get__" = some (some (.builtin "getset_descriptor.__get__")))
    (tk0 : PySem.W.takesIn K (.builtin "object.__class__") = some true)
    (a_EllError : PySem.W.nsIn K mainGlobals "EllError" = some (some (.ref C_EllError)))
    (ic_EllError : PySem.W.isClsIn K C_EllError = true)
    (tC_EllError : PySem.W.typeIn K (.ref C_EllError) = some (.type "type"))
    (a_Nought : PySem.W.nsIn K mainGlobals "Nought" = some (some (.ref C_Nought)))
    (x_Nought : K.lookup C_Nought = some (excClassObj nm_Nought q_Nought C_Nought N_Nought bs_Nought [.ref C_EllError, .type "ValueError", .type "Exception", .type "BaseException", .type "object"] true sn_Nought sub_Nought ab_Nought col_Nought dd_Nought m0_Nought m1_Nought m2_Nought m3_Nought m5_Nought "ValueError.__new__"))
    (sa_Nought : PySem.W.findIn K (.ref C_Nought) "__setattr__" = some (some (.builtin "object.__setattr__")))
    (ga_Nought : PySem.W.findIn K (.ref C_Nought) "__getattribute__" = some (some (.builtin "BaseException.__getattribute__")))
    (gt_Nought : PySem.W.findIn K (.ref C_Nought) "__getattr__" = some none)
    (ca_Nought : PySem.W.findIn K (.ref C_Nought) "__class__" = some (some (.builtin "object.__class__")))
    (kC_Nought : PySem.W.keepIn K (.ref C_Nought) = true)
    (eC_Nought : PySem.W.subIn K (.ref C_Nought) (.type "BaseException") = some true)
    (vC_Nought : PySem.W.subIn K (.ref C_Nought) (.type "ValueError") = some true)
    (lC_Nought : PySem.W.subIn K (.ref C_Nought) (.ref C_EllError) = some true)
    (tC_Nought : PySem.W.typeIn K (.ref C_Nought) = some (.type "type"))
    (hC_Nought : PySem.W.hasDictIn K C_Nought = true)
    (ic_Nought : PySem.W.isClsIn K C_Nought = true)
    (mo_Nought : PySem.W.mroIn K C_Nought (.type "object") = some true)
    (no_Nought_number : PySem.W.findIn K (.ref C_Nought) "number" = some none)
    (a1 : PySem.W.findIn K (.ref C_Nought) "__init__" = some (some (.ref f1)))
    (t1 : PySem.W.typeIn K (.ref f1) = some (.type "function"))
    (l1 : K.lookup f1 = some ⟨oc1, od1, .func (PySem.W.fnOf "__init__" "Nought.__init__" (defArgs s_NoughtD_initD) (defBody s_NoughtD_initD) (defScope s_NoughtD_initD) .none kV1 dc1 pm1 an1 cd1 ct1), sl1⟩)
    (c1 : PySem.W.codeIn K cd1 "Nought.__init__" = true)
    (k1 : PySem.W.keepIn K (.ref f1) = true)
    (a_BadWorld : PySem.W.nsIn K mainGlobals "BadWorld" = some (some (.ref C_BadWorld)))
    (x_BadWorld : K.lookup C_BadWorld = some (excClassObj nm_BadWorld q_BadWorld C_BadWorld N_BadWorld bs_BadWorld [.ref C_EllError, .type "ValueError", .type "Exception", .type "BaseException", .type "object"] true sn_BadWorld sub_BadWorld ab_BadWorld col_BadWorld dd_BadWorld m0_BadWorld m1_BadWorld m2_BadWorld m3_BadWorld m5_BadWorld "ValueError.__new__"))
    (sa_BadWorld : PySem.W.findIn K (.ref C_BadWorld) "__setattr__" = some (some (.builtin "object.__setattr__")))
    (ga_BadWorld : PySem.W.findIn K (.ref C_BadWorld) "__getattribute__" = some (some (.builtin "BaseException.__getattribute__")))
    (gt_BadWorld : PySem.W.findIn K (.ref C_BadWorld) "__getattr__" = some none)
    (ca_BadWorld : PySem.W.findIn K (.ref C_BadWorld) "__class__" = some (some (.builtin "object.__class__")))
    (kC_BadWorld : PySem.W.keepIn K (.ref C_BadWorld) = true)
    (eC_BadWorld : PySem.W.subIn K (.ref C_BadWorld) (.type "BaseException") = some true)
    (vC_BadWorld : PySem.W.subIn K (.ref C_BadWorld) (.type "ValueError") = some true)
    (lC_BadWorld : PySem.W.subIn K (.ref C_BadWorld) (.ref C_EllError) = some true)
    (tC_BadWorld : PySem.W.typeIn K (.ref C_BadWorld) = some (.type "type"))
    (hC_BadWorld : PySem.W.hasDictIn K C_BadWorld = true)
    (ic_BadWorld : PySem.W.isClsIn K C_BadWorld = true)
    (mo_BadWorld : PySem.W.mroIn K C_BadWorld (.type "object") = some true)
    (no_BadWorld_place : PySem.W.findIn K (.ref C_BadWorld) "place" = some none)
    (a2 : PySem.W.findIn K (.ref C_BadWorld) "__init__" = some (some (.ref f2)))
    (t2 : PySem.W.typeIn K (.ref f2) = some (.type "function"))
    (l2 : K.lookup f2 = some ⟨oc2, od2, .func (PySem.W.fnOf "__init__" "BadWorld.__init__" (defArgs s_BadWorldD_initD) (defBody s_BadWorldD_initD) (defScope s_BadWorldD_initD) .none kV2 dc2 pm2 an2 cd2 ct2), sl2⟩)
    (c2 : PySem.W.codeIn K cd2 "BadWorld.__init__" = true)
    (k2 : PySem.W.keepIn K (.ref f2) = true)
    (a_NoSpot : PySem.W.nsIn K mainGlobals "NoSpot" = some (some (.ref C_NoSpot)))
    (x_NoSpot : K.lookup C_NoSpot = some (excClassObj nm_NoSpot q_NoSpot C_NoSpot N_NoSpot bs_NoSpot [.ref C_EllError, .type "ValueError", .type "Exception", .type "BaseException", .type "object"] true sn_NoSpot sub_NoSpot ab_NoSpot col_NoSpot dd_NoSpot m0_NoSpot m1_NoSpot m2_NoSpot m3_NoSpot m5_NoSpot "ValueError.__new__"))
    (sa_NoSpot : PySem.W.findIn K (.ref C_NoSpot) "__setattr__" = some (some (.builtin "object.__setattr__")))
    (ga_NoSpot : PySem.W.findIn K (.ref C_NoSpot) "__getattribute__" = some (some (.builtin "BaseException.__getattribute__")))
    (gt_NoSpot : PySem.W.findIn K (.ref C_NoSpot) "__getattr__" = some none)
    (ca_NoSpot : PySem.W.findIn K (.ref C_NoSpot) "__class__" = some (some (.builtin "object.__class__")))
    (kC_NoSpot : PySem.W.keepIn K (.ref C_NoSpot) = true)
    (eC_NoSpot : PySem.W.subIn K (.ref C_NoSpot) (.type "BaseException") = some true)
    (vC_NoSpot : PySem.W.subIn K (.ref C_NoSpot) (.type "ValueError") = some true)
    (lC_NoSpot : PySem.W.subIn K (.ref C_NoSpot) (.ref C_EllError) = some true)
    (tC_NoSpot : PySem.W.typeIn K (.ref C_NoSpot) = some (.type "type"))
    (hC_NoSpot : PySem.W.hasDictIn K C_NoSpot = true)
    (ic_NoSpot : PySem.W.isClsIn K C_NoSpot = true)
    (mo_NoSpot : PySem.W.mroIn K C_NoSpot (.type "object") = some true)
    (no_NoSpot_spot : PySem.W.findIn K (.ref C_NoSpot) "spot" = some none)
    (a3 : PySem.W.findIn K (.ref C_NoSpot) "__init__" = some (some (.ref f3)))
    (t3 : PySem.W.typeIn K (.ref f3) = some (.type "function"))
    (l3 : K.lookup f3 = some ⟨oc3, od3, .func (PySem.W.fnOf "__init__" "NoSpot.__init__" (defArgs s_NoSpotD_initD) (defBody s_NoSpotD_initD) (defScope s_NoSpotD_initD) .none kV3 dc3 pm3 an3 cd3 ct3), sl3⟩)
    (c3 : PySem.W.codeIn K cd3 "NoSpot.__init__" = true)
    (k3 : PySem.W.keepIn K (.ref f3) = true)
    (a_BadForm : PySem.W.nsIn K mainGlobals "BadForm" = some (some (.ref C_BadForm)))
    (x_BadForm : K.lookup C_BadForm = some (excClassObj nm_BadForm q_BadForm C_BadForm N_BadForm bs_BadForm [.ref C_EllError, .type "ValueError", .type "Exception", .type "BaseException", .type "object"] true sn_BadForm sub_BadForm ab_BadForm col_BadForm dd_BadForm m0_BadForm m1_BadForm m2_BadForm m3_BadForm m5_BadForm "ValueError.__new__"))
    (sa_BadForm : PySem.W.findIn K (.ref C_BadForm) "__setattr__" = some (some (.builtin "object.__setattr__")))
    (ga_BadForm : PySem.W.findIn K (.ref C_BadForm) "__getattribute__" = some (some (.builtin "BaseException.__getattribute__")))
    (gt_BadForm : PySem.W.findIn K (.ref C_BadForm) "__getattr__" = some none)
    (ca_BadForm : PySem.W.findIn K (.ref C_BadForm) "__class__" = some (some (.builtin "object.__class__")))
    (kC_BadForm : PySem.W.keepIn K (.ref C_BadForm) = true)
    (eC_BadForm : PySem.W.subIn K (.ref C_BadForm) (.type "BaseException") = some true)
    (vC_BadForm : PySem.W.subIn K (.ref C_BadForm) (.type "ValueError") = some true)
    (lC_BadForm : PySem.W.subIn K (.ref C_BadForm) (.ref C_EllError) = some true)
    (tC_BadForm : PySem.W.typeIn K (.ref C_BadForm) = some (.type "type"))
    (hC_BadForm : PySem.W.hasDictIn K C_BadForm = true)
    (ic_BadForm : PySem.W.isClsIn K C_BadForm = true)
    (mo_BadForm : PySem.W.mroIn K C_BadForm (.type "object") = some true)
    (no_BadForm_place : PySem.W.findIn K (.ref C_BadForm) "place" = some none)
    (a4 : PySem.W.findIn K (.ref C_BadForm) "__init__" = some (some (.ref f4)))
    (t4 : PySem.W.typeIn K (.ref f4) = some (.type "function"))
    (l4 : K.lookup f4 = some ⟨oc4, od4, .func (PySem.W.fnOf "__init__" "BadForm.__init__" (defArgs s_BadFormD_initD) (defBody s_BadFormD_initD) (defScope s_BadFormD_initD) .none kV4 dc4 pm4 an4 cd4 ct4), sl4⟩)
    (c4 : PySem.W.codeIn K cd4 "BadForm.__init__" = true)
    (k4 : PySem.W.keepIn K (.ref f4) = true)
    (a_BadRatio : PySem.W.nsIn K mainGlobals "BadRatio" = some (some (.ref C_BadRatio)))
    (ic_BadRatio : PySem.W.isClsIn K C_BadRatio = true)
    (tC_BadRatio : PySem.W.typeIn K (.ref C_BadRatio) = some (.type "type"))
    (s_BadForm_BadRatio : PySem.W.subIn K (.ref C_BadForm) (.ref C_BadRatio) = some false)
    (ne_BadForm_BadRatio : C_BadForm ≠ C_BadRatio)
    (s_BadForm_BadForm : PySem.W.subIn K (.ref C_BadForm) (.ref C_BadForm) = some true)
    (s_NoSpot_NoSpot : PySem.W.subIn K (.ref C_NoSpot) (.ref C_NoSpot) = some true)
    (a_World : PySem.W.nsIn K mainGlobals "World" = some (some (.ref C_World)))
    (pg : PySem.W.plainGet K C_World Str.empty = true)
    (hd : PySem.W.hasDictIn K C_World = true)
    (po : PySem.W.plainOver K C_World = true)
    (sa : PySem.W.findIn K (.ref C_World) "__setattr__" = some (some (.builtin "object.__setattr__")))
    (ca : PySem.W.findIn K (.ref C_World) "__class__" = some (some (.builtin "object.__class__")))
    (mo : PySem.W.mroIn K C_World (.type "object") = some true)
    (nV : PySem.W.findIn K (.ref C_World) "_values" = some none)
    (ic : PySem.W.isClsIn K C_World = true)
    (tC : PySem.W.typeIn K (.ref C_World) = some (.type "type"))
    (mk : PySem.W.makesIn K C_World = true)
    (kc : PySem.W.keepIn K (.ref C_World) = true)
    (a5 : PySem.W.findIn K (.ref C_World) "__init__" = some (some (.ref f5)))
    (i5 : PySem.W.isFn K (.ref f5) = true)
    (l5 : K.lookup f5 = some ⟨oc5, od5, .func (PySem.W.fnOf "__init__" "World.__init__" (defArgs s_WorldD_initD) (defBody s_WorldD_initD) (defScope s_WorldD_initD) .none kV5 dc5 pm5 an5 cd5 ct5), sl5⟩)
    (c5 : PySem.W.codeIn K cd5 "World.__init__" = true)
    (k5 : PySem.W.keepIn K (.ref f5) = true)
    (a6 : PySem.W.findIn K (.ref C_World) "__getitem__" = some (some (.ref f6)))
    (i6 : PySem.W.isFn K (.ref f6) = true)
    (l6 : K.lookup f6 = some ⟨oc6, od6, .func (PySem.W.fnOf "__getitem__" "World.__getitem__" (defArgs s_WorldD_getitemD) (defBody s_WorldD_getitemD) (defScope s_WorldD_getitemD) .none kV6 dc6 pm6 an6 cd6 ct6), sl6⟩)
    (c6 : PySem.W.codeIn K cd6 "World.__getitem__" = true)
    (k6 : PySem.W.keepIn K (.ref f6) = true)
    (a_Form : PySem.W.nsIn K mainGlobals "Form" = some (some (.ref C_Form)))
    (fpg : PySem.W.plainGet K C_Form Str.empty = true)
    (fhd : PySem.W.hasDictIn K C_Form = true)
    (fpo : PySem.W.plainOver K C_Form = true)
    (fsa : PySem.W.findIn K (.ref C_Form) "__setattr__" = some (some (.builtin "object.__setattr__")))
    (fca : PySem.W.findIn K (.ref C_Form) "__class__" = some (some (.builtin "object.__class__")))
    (fmo : PySem.W.mroIn K C_Form (.type "object") = some true)
    (fnT : PySem.W.findIn K (.ref C_Form) "terms" = some none)
    (fnR : PySem.W.findIn K (.ref C_Form) "rest" = some none)
    (fic : PySem.W.isClsIn K C_Form = true)
    (ftC : PySem.W.typeIn K (.ref C_Form) = some (.type "type"))
    (fmk : PySem.W.makesIn K C_Form = true)
    (fkc : PySem.W.keepIn K (.ref C_Form) = true)
    (fsf : PySem.W.selfFirst K C_Form = true)
    (fsb_NoneType : PySem.W.subIn K (.type "NoneType") (.ref C_Form) = some false)
    (fsb_bool : PySem.W.subIn K (.type "bool") (.ref C_Form) = some false)
    (fsb_int : PySem.W.subIn K (.type "int") (.ref C_Form) = some false)
    (fsb_str : PySem.W.subIn K (.type "str") (.ref C_Form) = some false)
    (fsb_list : PySem.W.subIn K (.type "list") (.ref C_Form) = some false)
    (fsb_tuple : PySem.W.subIn K (.type "tuple") (.ref C_Form) = some false)
    (frf : PySem.W.findIn K (.ref C_Form) (PySem.dunderR Operator.Mult.info.2) = some none)
    (ft1 : PySem.W.findIn K (.type "tuple") (PySem.dunder Operator.Mult.info.2) = some fo_m)
    (ft2 : PySem.W.findIn K (.type "tuple") (PySem.dunderR Operator.Mult.info.2) = some ro_m)
    (a7 : PySem.W.findIn K (.ref C_Form) "__init__" = some (some (.ref f7)))
    (i7 : PySem.W.isFn K (.ref f7) = true)
    (l7 : K.lookup f7 = some ⟨oc7, od7, .func (PySem.W.fnOf "__init__" "Form.__init__" (defArgs s_FormD_initD) (defBody s_FormD_initD) (defScope s_FormD_initD) (.ref TF) kV7 dc7 pm7 an7 cd7 ct7), sl7⟩)
    (lTF : K.lookup TF = some ⟨ocF, odF, .seq #[.ref aE, .ref aZ] nF, slF⟩)
    (lE : K.lookup aE = some ⟨.type "tuple", odE, .seq #[] nE, slE⟩)
    (lZ : K.lookup aZ = some ⟨.type "tuple", odZ, .seq #[.int 0 z0, .int 1 z1] nZ, slZ⟩)
    (c7 : PySem.W.codeIn K cd7 "Form.__init__" = true)
    (k7 : PySem.W.keepIn K (.ref f7) = true)
    (a8 : PySem.W.findIn K (.ref C_Form) "__call__" = some (some (.ref f8)))
    (i8 : PySem.W.isFn K (.ref f8) = true)
    (l8 : K.lookup f8 = some ⟨oc8, od8, .func (PySem.W.fnOf "__call__" "Form.__call__" (defArgs s_FormD_callD) (defBody s_FormD_callD) (defScope s_FormD_callD) .none kV8 dc8 pm8 an8 cd8 ct8), sl8⟩)
    (c8 : PySem.W.codeIn K cd8 "Form.__call__" = true)
    (k8 : PySem.W.keepIn K (.ref f8) = true)
    (a9 : PySem.W.findIn K (.ref C_Form) (PySem.dunder Operator.Add.info.2) = some (some (.ref f9)))
    (i9 : PySem.W.isFn K (.ref f9) = true)
    (l9 : K.lookup f9 = some ⟨oc9, od9, .func (PySem.W.fnOf "__add__" "Form.__add__" (defArgs s_FormD_addD) (defBody s_FormD_addD) (defScope s_FormD_addD) .none kV9 dc9 pm9 an9 cd9 ct9), sl9⟩)
    (c9 : PySem.W.codeIn K cd9 "Form.__add__" = true)
    (k9 : PySem.W.keepIn K (.ref f9) = true)
    (a10 : PySem.W.findIn K (.ref C_Form) (PySem.dunder Operator.Sub.info.2) = some (some (.ref f10)))
    (i10 : PySem.W.isFn K (.ref f10) = true)
    (l10 : K.lookup f10 = some ⟨oc10, od10, .func (PySem.W.fnOf "__sub__" "Form.__sub__" (defArgs s_FormD_subD) (defBody s_FormD_subD) (defScope s_FormD_subD) .none kV10 dc10 pm10 an10 cd10 ct10), sl10⟩)
    (c10 : PySem.W.codeIn K cd10 "Form.__sub__" = true)
    (k10 : PySem.W.keepIn K (.ref f10) = true)
    (a11 : PySem.W.findIn K (.ref C_Form) (PySem.dunder Operator.Mult.info.2) = some (some (.ref f11)))
    (i11 : PySem.W.isFn K (.ref f11) = true)
    (l11 : K.lookup f11 = some ⟨oc11, od11, .func (PySem.W.fnOf "__mul__" "Form.__mul__" (defArgs s_FormD_mulD) (defBody s_FormD_mulD) (defScope s_FormD_mulD) .none kV11 dc11 pm11 an11 cd11 ct11), sl11⟩)
    (c11 : PySem.W.codeIn K cd11 "Form.__mul__" = true)
    (k11 : PySem.W.keepIn K (.ref f11) = true)
    (a12 : PySem.W.findIn K (.ref C_Form) "__neg__" = some (some (.ref f12)))
    (i12 : PySem.W.isFn K (.ref f12) = true)
    (l12 : K.lookup f12 = some ⟨oc12, od12, .func (PySem.W.fnOf "__neg__" "Form.__neg__" (defArgs s_FormD_negD) (defBody s_FormD_negD) (defScope s_FormD_negD) .none kV12 dc12 pm12 an12 cd12 ct12), sl12⟩)
    (c12 : PySem.W.codeIn K cd12 "Form.__neg__" = true)
    (k12 : PySem.W.keepIn K (.ref f12) = true)
    (a13 : PySem.W.findIn K (.ref C_Form) "__eq__" = some (some (.ref f13)))
    (i13 : PySem.W.isFn K (.ref f13) = true)
    (l13 : K.lookup f13 = some ⟨oc13, od13, .func (PySem.W.fnOf "__eq__" "Form.__eq__" (defArgs s_FormD_eqD) (defBody s_FormD_eqD) (defScope s_FormD_eqD) .none kV13 dc13 pm13 an13 cd13 ct13), sl13⟩)
    (c13 : PySem.W.codeIn K cd13 "Form.__eq__" = true)
    (k13 : PySem.W.keepIn K (.ref f13) = true)
    (a14 : PySem.W.findIn K (.ref C_Form) "plain" = some (some (.ref f14)))
    (i14 : PySem.W.isFn K (.ref f14) = true)
    (l14 : K.lookup f14 = some ⟨oc14, od14, .func (PySem.W.fnOf "plain" "Form.plain" (defArgs s_Form_plain) (defBody s_Form_plain) (defScope s_Form_plain) .none kV14 dc14 pm14 an14 cd14 ct14), sl14⟩)
    (c14 : PySem.W.codeIn K cd14 "Form.plain" = true)
    (k14 : PySem.W.keepIn K (.ref f14) = true)
    (sm_at : PySem.W.findIn K (.ref C_Form) "of" = some (some (.ref p_of)))
    (sm_ty : PySem.W.typeIn K (.ref p_of) = some (.type "staticmethod"))
    (sm_gt : PySem.W.specialIn K (.ref p_of) "__get__" = some (some (.builtin "staticmethod.__get__")))
    (sm_tk : PySem.W.takesIn K (.ref p_of) = some false)
    (sm_rc : PySem.W.recIn K p_of "staticmethod" = some (.ref f15 :: rest))
    (l15 : K.lookup f15 = some ⟨oc15, od15, .func (PySem.W.fnOf "of" "Form.of" (defArgs s_Form_of) (defBody s_Form_of) (defScope s_Form_of) .none kV15 dc15 pm15 an15 cd15 ct15), sl15⟩)
    (c15 : PySem.W.codeIn K cd15 "Form.of" = true)
    (k15 : PySem.W.keepIn K (.ref f15) = true)
    (sm_rd : PySem.W.readsIn K C_Form (.type "type") = true)
    (sm_ga : PySem.W.specialIn K (.ref C_Form) "__getattribute__" = some (some (.builtin "type.__getattribute__")))
    (sm_off : PySem.W.findCls K (.ref C_Form) (.type "type") "of" = some (.get (.builtin "staticmethod.__get__") (.ref p_of) .none (.ref C_Form)))
    (a16 : PySem.W.nsIn K mainGlobals "_wall" = some (some (.ref f16)))
    (l16 : K.lookup f16 = some ⟨oc16, od16, .func (PySem.W.fnOf "_wall" "_wall" (defArgs s__wall) (defBody s__wall) (defScope s__wall) .none kV16 dc16 pm16 an16 cd16 ct16), sl16⟩)
    (c16 : PySem.W.codeIn K cd16 "_wall" = true)
    (k16 : PySem.W.keepIn K (.ref f16) = true)
    (a17 : PySem.W.nsIn K mainGlobals "is_integer" = some (some (.ref f17)))
    (l17 : K.lookup f17 = some ⟨oc17, od17, .func (PySem.W.fnOf "is_integer" "is_integer" (defArgs s_is_integer) (defBody s_is_integer) (defScope s_is_integer) .none kV17 dc17 pm17 an17 cd17 ct17), sl17⟩)
    (c17 : PySem.W.codeIn K cd17 "is_integer" = true)
    (k17 : PySem.W.keepIn K (.ref f17) = true)
    (a18 : PySem.W.nsIn K mainGlobals "is_row" = some (some (.ref f18)))
    (l18 : K.lookup f18 = some ⟨oc18, od18, .func (PySem.W.fnOf "is_row" "is_row" (defArgs s_is_row) (defBody s_is_row) (defScope s_is_row) .none kV18 dc18 pm18 an18 cd18 ct18), sl18⟩)
    (c18 : PySem.W.codeIn K cd18 "is_row" = true)
    (k18 : PySem.W.keepIn K (.ref f18) = true)
    (a19 : PySem.W.nsIn K mainGlobals "is_tuple_of" = some (some (.ref f19)))
    (l19 : K.lookup f19 = some ⟨oc19, od19, .func (PySem.W.fnOf "is_tuple_of" "is_tuple_of" (defArgs s_is_tuple_of) (defBody s_is_tuple_of) (defScope s_is_tuple_of) .none kV19 dc19 pm19 an19 cd19 ct19), sl19⟩)
    (c19 : PySem.W.codeIn K cd19 "is_tuple_of" = true)
    (k19 : PySem.W.keepIn K (.ref f19) = true)
    (a20 : PySem.W.nsIn K mainGlobals "is_ratio" = some (some (.ref f20)))
    (l20 : K.lookup f20 = some ⟨oc20, od20, .func (PySem.W.fnOf "is_ratio" "is_ratio" (defArgs s_is_ratio) (defBody s_is_ratio) (defScope s_is_ratio) .none kV20 dc20 pm20 an20 cd20 ct20), sl20⟩)
    (c20 : PySem.W.codeIn K cd20 "is_ratio" = true)
    (k20 : PySem.W.keepIn K (.ref f20) = true)
    (a21 : PySem.W.nsIn K mainGlobals "plus" = some (some (.ref f21)))
    (l21 : K.lookup f21 = some ⟨oc21, od21, .func (PySem.W.fnOf "plus" "plus" (defArgs s_plus) (defBody s_plus) (defScope s_plus) .none kV21 dc21 pm21 an21 cd21 ct21), sl21⟩)
    (c21 : PySem.W.codeIn K cd21 "plus" = true)
    (k21 : PySem.W.keepIn K (.ref f21) = true)
    (a22 : PySem.W.nsIn K mainGlobals "times" = some (some (.ref f22)))
    (l22 : K.lookup f22 = some ⟨oc22, od22, .func (PySem.W.fnOf "times" "times" (defArgs s_times) (defBody s_times) (defScope s_times) .none kV22 dc22 pm22 an22 cd22 ct22), sl22⟩)
    (c22 : PySem.W.codeIn K cd22 "times" = true)
    (k22 : PySem.W.keepIn K (.ref f22) = true)
    (a23 : PySem.W.nsIn K mainGlobals "is_spot" = some (some (.ref f23)))
    (l23 : K.lookup f23 = some ⟨oc23, od23, .func (PySem.W.fnOf "is_spot" "is_spot" (defArgs s_is_spot) (defBody s_is_spot) (defScope s_is_spot) .none kV23 dc23 pm23 an23 cd23 ct23), sl23⟩)
    (c23 : PySem.W.codeIn K cd23 "is_spot" = true)
    (k23 : PySem.W.keepIn K (.ref f23) = true)
    (a24 : PySem.W.nsIn K mainGlobals "_values_of" = some (some (.ref f24)))
    (l24 : K.lookup f24 = some ⟨oc24, od24, .func (PySem.W.fnOf "_values_of" "_values_of" (defArgs s__values_of) (defBody s__values_of) (defScope s__values_of) .none kV24 dc24 pm24 an24 cd24 ct24), sl24⟩)
    (c24 : PySem.W.codeIn K cd24 "_values_of" = true)
    (k24 : PySem.W.keepIn K (.ref f24) = true)
    (a25 : PySem.W.nsIn K mainGlobals "plain_value" = some (some (.ref f25)))
    (l25 : K.lookup f25 = some ⟨oc25, od25, .func (PySem.W.fnOf "plain_value" "plain_value" (defArgs s_plain_value) (defBody s_plain_value) (defScope s_plain_value) .none kV25 dc25 pm25 an25 cd25 ct25), sl25⟩)
    (c25 : PySem.W.codeIn K cd25 "plain_value" = true)
    (k25 : PySem.W.keepIn K (.ref f25) = true)
    (a26 : PySem.W.nsIn K mainGlobals "plain_form" = some (some (.ref f26)))
    (l26 : K.lookup f26 = some ⟨oc26, od26, .func (PySem.W.fnOf "plain_form" "plain_form" (defArgs s_plain_form) (defBody s_plain_form) (defScope s_plain_form) .none kV26 dc26 pm26 an26 cd26 ct26), sl26⟩)
    (c26 : PySem.W.codeIn K cd26 "plain_form" = true)
    (k26 : PySem.W.keepIn K (.ref f26) = true)
    (a27 : PySem.W.nsIn K mainGlobals "plain_sum" = some (some (.ref f27)))
    (l27 : K.lookup f27 = some ⟨oc27, od27, .func (PySem.W.fnOf "plain_sum" "plain_sum" (defArgs s_plain_sum) (defBody s_plain_sum) (defScope s_plain_sum) .none kV27 dc27 pm27 an27 cd27 ct27), sl27⟩)
    (c27 : PySem.W.codeIn K cd27 "plain_sum" = true)
    (k27 : PySem.W.keepIn K (.ref f27) = true)
    (a28 : PySem.W.nsIn K mainGlobals "plain_scaled" = some (some (.ref f28)))
    (l28 : K.lookup f28 = some ⟨oc28, od28, .func (PySem.W.fnOf "plain_scaled" "plain_scaled" (defArgs s_plain_scaled) (defBody s_plain_scaled) (defScope s_plain_scaled) .none kV28 dc28 pm28 an28 cd28 ct28), sl28⟩)
    (c28 : PySem.W.codeIn K cd28 "plain_scaled" = true)
    (k28 : PySem.W.keepIn K (.ref f28) = true)
    (a29 : PySem.W.nsIn K mainGlobals "form_of" = some (some (.ref f29)))
    (l29 : K.lookup f29 = some ⟨oc29, od29, .func (PySem.W.fnOf "form_of" "form_of" (defArgs s_form_of) (defBody s_form_of) (defScope s_form_of) .none kV29 dc29 pm29 an29 cd29 ct29), sl29⟩)
    (c29 : PySem.W.codeIn K cd29 "form_of" = true)
    (k29 : PySem.W.keepIn K (.ref f29) = true)
    (a30 : PySem.W.nsIn K mainGlobals "_factors_of" = some (some (.ref f30)))
    (l30 : K.lookup f30 = some ⟨oc30, od30, .func (PySem.W.fnOf "_factors_of" "_factors_of" (defArgs s__factors_of) (defBody s__factors_of) (defScope s__factors_of) .none kV30 dc30 pm30 an30 cd30 ct30), sl30⟩)
    (c30 : PySem.W.codeIn K cd30 "_factors_of" = true)
    (k30 : PySem.W.keepIn K (.ref f30) = true)
    (a31 : PySem.W.nsIn K mainGlobals "_law_bag_of" = some (some (.ref f31)))
    (l31 : K.lookup f31 = some ⟨oc31, od31, .func (PySem.W.fnOf "_law_bag_of" "_law_bag_of" (defArgs s__law_bag_of) (defBody s__law_bag_of) (defScope s__law_bag_of) .none kV31 dc31 pm31 an31 cd31 ct31), sl31⟩)
    (c31 : PySem.W.codeIn K cd31 "_law_bag_of" = true)
    (k31 : PySem.W.keepIn K (.ref f31) = true)
    (a32 : PySem.W.nsIn K mainGlobals "_law_pick" = some (some (.ref f32)))
    (l32 : K.lookup f32 = some ⟨oc32, od32, .func (PySem.W.fnOf "_law_pick" "_law_pick" (defArgs s__law_pick) (defBody s__law_pick) (defScope s__law_pick) .none kV32 dc32 pm32 an32 cd32 ct32), sl32⟩)
    (c32 : PySem.W.codeIn K cd32 "_law_pick" = true)
    (k32 : PySem.W.keepIn K (.ref f32) = true)
    (a33 : PySem.W.nsIn K mainGlobals "_law_choice" = some (some (.ref f33)))
    (l33 : K.lookup f33 = some ⟨oc33, od33, .func (PySem.W.fnOf "_law_choice" "_law_choice" (defArgs s__law_choice) (defBody s__law_choice) (defScope s__law_choice) .none kV33 dc33 pm33 an33 cd33 ct33), sl33⟩)
    (c33 : PySem.W.codeIn K cd33 "_law_choice" = true)
    (k33 : PySem.W.keepIn K (.ref f33) = true)
    (a34 : PySem.W.nsIn K mainGlobals "_law_one_in" = some (some (.ref f34)))
    (l34 : K.lookup f34 = some ⟨oc34, od34, .func (PySem.W.fnOf "_law_one_in" "_law_one_in" (defArgs s__law_one_in) (defBody s__law_one_in) (defScope s__law_one_in) .none kV34 dc34 pm34 an34 cd34 ct34), sl34⟩)
    (c34 : PySem.W.codeIn K cd34 "_law_one_in" = true)
    (k34 : PySem.W.keepIn K (.ref f34) = true)
    (a35 : PySem.W.nsIn K mainGlobals "_law_shuffled" = some (some (.ref f35)))
    (l35 : K.lookup f35 = some ⟨oc35, od35, .func (PySem.W.fnOf "_law_shuffled" "_law_shuffled" (defArgs s__law_shuffled) (defBody s__law_shuffled) (defScope s__law_shuffled) .none kV35 dc35 pm35 an35 cd35 ct35), sl35⟩)
    (c35 : PySem.W.codeIn K cd35 "_law_shuffled" = true)
    (k35 : PySem.W.keepIn K (.ref f35) = true)
    (a36 : PySem.W.nsIn K mainGlobals "_law_integer" = some (some (.ref f36)))
    (l36 : K.lookup f36 = some ⟨oc36, od36, .func (PySem.W.fnOf "_law_integer" "_law_integer" (defArgs s__law_integer) (defBody s__law_integer) (defScope s__law_integer) .none kV36 dc36 pm36 an36 cd36 ct36), sl36⟩)
    (c36 : PySem.W.codeIn K cd36 "_law_integer" = true)
    (k36 : PySem.W.keepIn K (.ref f36) = true)
    (a37 : PySem.W.nsIn K mainGlobals "_law_letters_of" = some (some (.ref f37)))
    (l37 : K.lookup f37 = some ⟨oc37, od37, .func (PySem.W.fnOf "_law_letters_of" "_law_letters_of" (defArgs s__law_letters_of) (defBody s__law_letters_of) (defScope s__law_letters_of) .none kV37 dc37 pm37 an37 cd37 ct37), sl37⟩)
    (c37 : PySem.W.codeIn K cd37 "_law_letters_of" = true)
    (k37 : PySem.W.keepIn K (.ref f37) = true)
    (a38 : PySem.W.nsIn K mainGlobals "_law_words" = some (some (.ref f38)))
    (l38 : K.lookup f38 = some ⟨oc38, od38, .func (PySem.W.fnOf "_law_words" "_law_words" (defArgs s__law_words) (defBody s__law_words) (defScope s__law_words) .none kV38 dc38 pm38 an38 cd38 ct38), sl38⟩)
    (c38 : PySem.W.codeIn K cd38 "_law_words" = true)
    (k38 : PySem.W.keepIn K (.ref f38) = true)
    (a39 : PySem.W.nsIn K mainGlobals "_law_names_of" = some (some (.ref f39)))
    (l39 : K.lookup f39 = some ⟨oc39, od39, .func (PySem.W.fnOf "_law_names_of" "_law_names_of" (defArgs s__law_names_of) (defBody s__law_names_of) (defScope s__law_names_of) .none kV39 dc39 pm39 an39 cd39 ct39), sl39⟩)
    (c39 : PySem.W.codeIn K cd39 "_law_names_of" = true)
    (k39 : PySem.W.keepIn K (.ref f39) = true)
    (a40 : PySem.W.nsIn K mainGlobals "_law_gcd" = some (some (.ref f40)))
    (l40 : K.lookup f40 = some ⟨oc40, od40, .func (PySem.W.fnOf "_law_gcd" "_law_gcd" (defArgs s__law_gcd) (defBody s__law_gcd) (defScope s__law_gcd) .none kV40 dc40 pm40 an40 cd40 ct40), sl40⟩)
    (c40 : PySem.W.codeIn K cd40 "_law_gcd" = true)
    (k40 : PySem.W.keepIn K (.ref f40) = true)
    (a41 : PySem.W.nsIn K mainGlobals "_law_ratio" = some (some (.ref f41)))
    (l41 : K.lookup f41 = some ⟨oc41, od41, .func (PySem.W.fnOf "_law_ratio" "_law_ratio" (defArgs s__law_ratio) (defBody s__law_ratio) (defScope s__law_ratio) .none kV41 dc41 pm41 an41 cd41 ct41), sl41⟩)
    (c41 : PySem.W.codeIn K cd41 "_law_ratio" = true)
    (k41 : PySem.W.keepIn K (.ref f41) = true)
    (a42 : PySem.W.nsIn K mainGlobals "_law_plus" = some (some (.ref f42)))
    (l42 : K.lookup f42 = some ⟨oc42, od42, .func (PySem.W.fnOf "_law_plus" "_law_plus" (defArgs s__law_plus) (defBody s__law_plus) (defScope s__law_plus) .none kV42 dc42 pm42 an42 cd42 ct42), sl42⟩)
    (c42 : PySem.W.codeIn K cd42 "_law_plus" = true)
    (k42 : PySem.W.keepIn K (.ref f42) = true)
    (a43 : PySem.W.nsIn K mainGlobals "_law_times" = some (some (.ref f43)))
    (l43 : K.lookup f43 = some ⟨oc43, od43, .func (PySem.W.fnOf "_law_times" "_law_times" (defArgs s__law_times) (defBody s__law_times) (defScope s__law_times) .none kV43 dc43 pm43 an43 cd43 ct43), sl43⟩)
    (c43 : PySem.W.codeIn K cd43 "_law_times" = true)
    (k43 : PySem.W.keepIn K (.ref f43) = true)
    (a44 : PySem.W.nsIn K mainGlobals "_law_ground" = some (some (.ref f44)))
    (l44 : K.lookup f44 = some ⟨oc44, od44, .func (PySem.W.fnOf "_law_ground" "_law_ground" (defArgs s__law_ground) (defBody s__law_ground) (defScope s__law_ground) .none kV44 dc44 pm44 an44 cd44 ct44), sl44⟩)
    (c44 : PySem.W.codeIn K cd44 "_law_ground" = true)
    (k44 : PySem.W.keepIn K (.ref f44) = true)
    (a45 : PySem.W.nsIn K mainGlobals "_law_plain_value" = some (some (.ref f45)))
    (l45 : K.lookup f45 = some ⟨oc45, od45, .func (PySem.W.fnOf "_law_plain_value" "_law_plain_value" (defArgs s__law_plain_value) (defBody s__law_plain_value) (defScope s__law_plain_value) .none kV45 dc45 pm45 an45 cd45 ct45), sl45⟩)
    (c45 : PySem.W.codeIn K cd45 "_law_plain_value" = true)
    (k45 : PySem.W.keepIn K (.ref f45) = true)
    (a46 : PySem.W.nsIn K mainGlobals "_law_added" = some (some (.ref f46)))
    (l46 : K.lookup f46 = some ⟨oc46, od46, .func (PySem.W.fnOf "_law_added" "_law_added" (defArgs s__law_added) (defBody s__law_added) (defScope s__law_added) .none kV46 dc46 pm46 an46 cd46 ct46), sl46⟩)
    (c46 : PySem.W.codeIn K cd46 "_law_added" = true)
    (k46 : PySem.W.keepIn K (.ref f46) = true)
    (a47 : PySem.W.nsIn K mainGlobals "_law_exact" = some (some (.ref f47)))
    (l47 : K.lookup f47 = some ⟨oc47, od47, .func (PySem.W.fnOf "_law_exact" "_law_exact" (defArgs s__law_exact) (defBody s__law_exact) (defScope s__law_exact) .none kV47 dc47 pm47 an47 cd47 ct47), sl47⟩)
    (c47 : PySem.W.codeIn K cd47 "_law_exact" = true)
    (k47 : PySem.W.keepIn K (.ref f47) = true)
    (a48 : PySem.W.nsIn K mainGlobals "_law_pool_of" = some (some (.ref f48)))
    (l48 : K.lookup f48 = some ⟨oc48, od48, .func (PySem.W.fnOf "_law_pool_of" "_law_pool_of" (defArgs s__law_pool_of) (defBody s__law_pool_of) (defScope s__law_pool_of) .none kV48 dc48 pm48 an48 cd48 ct48), sl48⟩)
    (c48 : PySem.W.codeIn K cd48 "_law_pool_of" = true)
    (k48 : PySem.W.keepIn K (.ref f48) = true)
    (a49 : PySem.W.nsIn K mainGlobals "_law_number_of" = some (some (.ref f49)))
    (l49 : K.lookup f49 = some ⟨oc49, od49, .func (PySem.W.fnOf "_law_number_of" "_law_number_of" (defArgs s__law_number_of) (defBody s__law_number_of) (defScope s__law_number_of) .none kV49 dc49 pm49 an49 cd49 ct49), sl49⟩)
    (c49 : PySem.W.codeIn K cd49 "_law_number_of" = true)
    (k49 : PySem.W.keepIn K (.ref f49) = true)
    (a50 : PySem.W.nsIn K mainGlobals "_law_row_of" = some (some (.ref f50)))
    (l50 : K.lookup f50 = some ⟨oc50, od50, .func (PySem.W.fnOf "_law_row_of" "_law_row_of" (defArgs s__law_row_of) (defBody s__law_row_of) (defScope s__law_row_of) .none kV50 dc50 pm50 an50 cd50 ct50), sl50⟩)
    (c50 : PySem.W.codeIn K cd50 "_law_row_of" = true)
    (k50 : PySem.W.keepIn K (.ref f50) = true)
    (a51 : PySem.W.nsIn K mainGlobals "_law_plain_of" = some (some (.ref f51)))
    (l51 : K.lookup f51 = some ⟨oc51, od51, .func (PySem.W.fnOf "_law_plain_of" "_law_plain_of" (defArgs s__law_plain_of) (defBody s__law_plain_of) (defScope s__law_plain_of) .none kV51 dc51 pm51 an51 cd51 ct51), sl51⟩)
    (c51 : PySem.W.codeIn K cd51 "_law_plain_of" = true)
    (k51 : PySem.W.keepIn K (.ref f51) = true)
    (a52 : PySem.W.nsIn K mainGlobals "_law_summed" = some (some (.ref f52)))
    (l52 : K.lookup f52 = some ⟨oc52, od52, .func (PySem.W.fnOf "_law_summed" "_law_summed" (defArgs s__law_summed) (defBody s__law_summed) (defScope s__law_summed) .none kV52 dc52 pm52 an52 cd52 ct52), sl52⟩)
    (c52 : PySem.W.codeIn K cd52 "_law_summed" = true)
    (k52 : PySem.W.keepIn K (.ref f52) = true)
    (a53 : PySem.W.nsIn K mainGlobals "_law_multiplied" = some (some (.ref f53)))
    (l53 : K.lookup f53 = some ⟨oc53, od53, .func (PySem.W.fnOf "_law_multiplied" "_law_multiplied" (defArgs s__law_multiplied) (defBody s__law_multiplied) (defScope s__law_multiplied) .none kV53 dc53 pm53 an53 cd53 ct53), sl53⟩)
    (c53 : PySem.W.codeIn K cd53 "_law_multiplied" = true)
    (k53 : PySem.W.keepIn K (.ref f53) = true)
    (a54 : PySem.W.nsIn K mainGlobals "_law_is" = some (some (.ref f54)))
    (l54 : K.lookup f54 = some ⟨oc54, od54, .func (PySem.W.fnOf "_law_is" "_law_is" (defArgs s__law_is) (defBody s__law_is) (defScope s__law_is) .none kV54 dc54 pm54 an54 cd54 ct54), sl54⟩)
    (c54 : PySem.W.codeIn K cd54 "_law_is" = true)
    (k54 : PySem.W.keepIn K (.ref f54) = true)
    (a55 : PySem.W.nsIn K mainGlobals "_law_alike" = some (some (.ref f55)))
    (l55 : K.lookup f55 = some ⟨oc55, od55, .func (PySem.W.fnOf "_law_alike" "_law_alike" (defArgs s__law_alike) (defBody s__law_alike) (defScope s__law_alike) .none kV55 dc55 pm55 an55 cd55 ct55), sl55⟩)
    (c55 : PySem.W.codeIn K cd55 "_law_alike" = true)
    (k55 : PySem.W.keepIn K (.ref f55) = true)
    (a56 : PySem.W.nsIn K mainGlobals "_law_operators" = some (some (.ref f56)))
    (l56 : K.lookup f56 = some ⟨oc56, od56, .func (PySem.W.fnOf "_law_operators" "_law_operators" (defArgs s__law_operators) (defBody s__law_operators) (defScope s__law_operators) .none kV56 dc56 pm56 an56 cd56 ct56), sl56⟩)
    (c56 : PySem.W.codeIn K cd56 "_law_operators" = true)
    (k56 : PySem.W.keepIn K (.ref f56) = true)
    (a57 : PySem.W.nsIn K mainGlobals "_law_equal_ones" = some (some (.ref f57)))
    (l57 : K.lookup f57 = some ⟨oc57, od57, .func (PySem.W.fnOf "_law_equal_ones" "_law_equal_ones" (defArgs s__law_equal_ones) (defBody s__law_equal_ones) (defScope s__law_equal_ones) .none kV57 dc57 pm57 an57 cd57 ct57), sl57⟩)
    (c57 : PySem.W.codeIn K cd57 "_law_equal_ones" = true)
    (k57 : PySem.W.keepIn K (.ref f57) = true)
    (a58 : PySem.W.nsIn K mainGlobals "_law_lacking" = some (some (.ref f58)))
    (l58 : K.lookup f58 = some ⟨oc58, od58, .func (PySem.W.fnOf "_law_lacking" "_law_lacking" (defArgs s__law_lacking) (defBody s__law_lacking) (defScope s__law_lacking) .none kV58 dc58 pm58 an58 cd58 ct58), sl58⟩)
    (c58 : PySem.W.codeIn K cd58 "_law_lacking" = true)
    (k58 : PySem.W.keepIn K (.ref f58) = true)
    (a59 : PySem.W.nsIn K mainGlobals "_law_called" = some (some (.ref f59)))
    (l59 : K.lookup f59 = some ⟨oc59, od59, .func (PySem.W.fnOf "_law_called" "_law_called" (defArgs s__law_called) (defBody s__law_called) (defScope s__law_called) .none kV59 dc59 pm59 an59 cd59 ct59), sl59⟩)
    (c59 : PySem.W.codeIn K cd59 "_law_called" = true)
    (k59 : PySem.W.keepIn K (.ref f59) = true)
    (a60 : PySem.W.nsIn K mainGlobals "_law_refused" = some (some (.ref f60)))
    (l60 : K.lookup f60 = some ⟨oc60, od60, .func (PySem.W.fnOf "_law_refused" "_law_refused" (defArgs s__law_refused) (defBody s__law_refused) (defScope s__law_refused) .none kV60 dc60 pm60 an60 cd60 ct60), sl60⟩)
    (c60 : PySem.W.codeIn K cd60 "_law_refused" = true)
    (k60 : PySem.W.keepIn K (.ref f60) = true)
    (a61 : PySem.W.nsIn K mainGlobals "_law_bad_pair" = some (some (.ref f61)))
    (l61 : K.lookup f61 = some ⟨oc61, od61, .func (PySem.W.fnOf "_law_bad_pair" "_law_bad_pair" (defArgs s__law_bad_pair) (defBody s__law_bad_pair) (defScope s__law_bad_pair) .none kV61 dc61 pm61 an61 cd61 ct61), sl61⟩)
    (c61 : PySem.W.codeIn K cd61 "_law_bad_pair" = true)
    (k61 : PySem.W.keepIn K (.ref f61) = true)
    (a62 : PySem.W.nsIn K mainGlobals "_law_bad_rest" = some (some (.ref f62)))
    (l62 : K.lookup f62 = some ⟨oc62, od62, .func (PySem.W.fnOf "_law_bad_rest" "_law_bad_rest" (defArgs s__law_bad_rest) (defBody s__law_bad_rest) (defScope s__law_bad_rest) .none kV62 dc62 pm62 an62 cd62 ct62), sl62⟩)
    (c62 : PySem.W.codeIn K cd62 "_law_bad_rest" = true)
    (k62 : PySem.W.keepIn K (.ref f62) = true)
    (a63 : PySem.W.nsIn K mainGlobals "_law_refusals" = some (some (.ref f63)))
    (l63 : K.lookup f63 = some ⟨oc63, od63, .func (PySem.W.fnOf "_law_refusals" "_law_refusals" (defArgs s__law_refusals) (defBody s__law_refusals) (defScope s__law_refusals) .none kV63 dc63 pm63 an63 cd63 ct63), sl63⟩)
    (c63 : PySem.W.codeIn K cd63 "_law_refusals" = true)
    (k63 : PySem.W.keepIn K (.ref f63) = true)
    (a64 : PySem.W.nsIn K mainGlobals "ratio" = some (some (.ref f64)))
    (l64 : K.lookup f64 = some ⟨oc64, od64, .func (PySem.W.fnOf "ratio" "ratio" (defArgs s_ratio) (defBody s_ratio) (defScope s_ratio) (.ref TT) kV64 dc64 pm64 an64 cd64 ct64), sl64⟩)
    (lT : K.lookup TT = some ⟨ocT, odT, .seq #[.int 1 tD] nD0, slT⟩)
    (c64 : PySem.W.codeIn K cd64 "ratio" = true)
    (k64 : PySem.W.keepIn K (.ref f64) = true)
    (a65 : PySem.W.nsIn K mainGlobals "law" = some (some (.ref f65)))
    (l65 : K.lookup f65 = some ⟨oc65, od65, .func (PySem.W.fnOf "law" "law" (defArgs s_law) (defBody s_law) (defScope s_law) .none kV65 dc65 pm65 an65 cd65 ct65), sl65⟩)
    (c65 : PySem.W.codeIn K cd65 "law" = true)
    (k65 : PySem.W.keepIn K (.ref f65) = true) :
    ∃ fd : FuncData, (∀ (s : Shared) (v : Value), BindsTo s fd ⟨[v], []⟩ [("_law_script", v)]) ∧ ∀ base : Heap, K.In base → base.Ns mainGlobals mg → FnG P w K mg base 11 fa fd ["_law_script"] (sp_law K) := by
  have e := hfa.symm.trans (PySem.W.mg_of X G a65)
  cases e
  have T : Txt K mg ⟨C_World, C_Form, C_Nought, C_BadWorld, C_BadForm, C_BadRatio, C_NoSpot, C_EllError, aG, aE, aZ⟩ :=
    { n_isinstance := PySem.W.mg_none_of X G z_isinstance,
      n_int := PySem.W.mg_none_of X G z_int,
      n_bool := PySem.W.mg_none_of X G z_bool,
      n_tuple := PySem.W.mg_none_of X G z_tuple,
      n_str := PySem.W.mg_none_of X G z_str,
      n_list := PySem.W.mg_none_of X G z_list,
      n_len := PySem.W.mg_none_of X G z_len,
      n_abs := PySem.W.mg_none_of X G z_abs,
      n_range := PySem.W.mg_none_of X G z_range,
      n_enumerate := PySem.W.mg_none_of X G z_enumerate,
      n_sorted := PySem.W.mg_none_of X G z_sorted,
      n_ValueError := PySem.W.mg_none_of X G z_ValueError,
      gcd := PySem.W.mg_of X G zgcd,
      k_GROUND := PySem.W.mg_of X G zz_GROUND,
      t_GROUND := ground_at lGG,
      g_EllError := PySem.W.mg_of X G a_EllError,
      g_Nought := PySem.W.mg_of X G a_Nought,
      no_Nought_number := no_Nought_number,
      i_Nought := ⟨_, _, a1, t1, (fun_mk (st := s_NoughtD_initD) l1 c1 k1), ((fun_mk (st := s_NoughtD_initD) l1 c1 k1).binds (ps := P_NoughtD_initD) fun _ _ _ _ _ _ us hl => match us, hl with | [_, _], _ => rfl)⟩,
      ox_Nought := ⟨⟨nm_Nought, q_Nought, N_Nought, bs_Nought, _, sn_Nought, sub_Nought, ab_Nought, col_Nought, dd_Nought, m0_Nought, m1_Nought, m2_Nought, m3_Nought, m5_Nought, x_Nought, rfl⟩, sa_Nought, eC_Nought, tC_Nought, kC_Nought⟩,
      e_Nought := ⟨ic_Nought, ga_Nought, gt_Nought, eC_Nought, ca_Nought, gg0, tk0, mo_Nought⟩,
      xf_Nought := ⟨ga_Nought, gt_Nought, eC_Nought, hC_Nought⟩,
      kv_Nought := kit_ty2 vC_Nought,
      g_BadWorld := PySem.W.mg_of X G a_BadWorld,
      no_BadWorld_place := no_BadWorld_place,
      i_BadWorld := ⟨_, _, a2, t2, (fun_mk (st := s_BadWorldD_initD) l2 c2 k2), ((fun_mk (st := s_BadWorldD_initD) l2 c2 k2).binds (ps := P_BadWorldD_initD) fun _ _ _ _ _ _ us hl => match us, hl with | [_, _], _ => rfl)⟩,
      ox_BadWorld := ⟨⟨nm_BadWorld, q_BadWorld, N_BadWorld, bs_BadWorld, _, sn_BadWorld, sub_BadWorld, ab_BadWorld, col_BadWorld, dd_BadWorld, m0_BadWorld, m1_BadWorld, m2_BadWorld, m3_BadWorld, m5_BadWorld, x_BadWorld, rfl⟩, sa_BadWorld, eC_BadWorld, tC_BadWorld, kC_BadWorld⟩,
      e_BadWorld := ⟨ic_BadWorld, ga_BadWorld, gt_BadWorld, eC_BadWorld, ca_BadWorld, gg0, tk0, mo_BadWorld⟩,
      xf_BadWorld := ⟨ga_BadWorld, gt_BadWorld, eC_BadWorld, hC_BadWorld⟩,
      kv_BadWorld := kit_ty2 vC_BadWorld,
      g_NoSpot := PySem.W.mg_of X G a_NoSpot,
      no_NoSpot_spot := no_NoSpot_spot,
      i_NoSpot := ⟨_, _, a3, t3, (fun_mk (st := s_NoSpotD_initD) l3 c3 k3), ((fun_mk (st := s_NoSpotD_initD) l3 c3 k3).binds (ps := P_NoSpotD_initD) fun _ _ _ _ _ _ us hl => match us, hl with | [_, _], _ => rfl)⟩,
      ox_NoSpot := ⟨⟨nm_NoSpot, q_NoSpot, N_NoSpot, bs_NoSpot, _, sn_NoSpot, sub_NoSpot, ab_NoSpot, col_NoSpot, dd_NoSpot, m0_NoSpot, m1_NoSpot, m2_NoSpot, m3_NoSpot, m5_NoSpot, x_NoSpot, rfl⟩, sa_NoSpot, eC_NoSpot, tC_NoSpot, kC_NoSpot⟩,
      e_NoSpot := ⟨ic_NoSpot, ga_NoSpot, gt_NoSpot, eC_NoSpot, ca_NoSpot, gg0, tk0, mo_NoSpot⟩,
      xf_NoSpot := ⟨ga_NoSpot, gt_NoSpot, eC_NoSpot, hC_NoSpot⟩,
      kv_NoSpot := kit_ty2 vC_NoSpot,
      g_BadForm := PySem.W.mg_of X G a_BadForm,
      no_BadForm_place := no_BadForm_place,
      i_BadForm := ⟨_, _, a4, t4, (fun_mk (st := s_BadFormD_initD) l4 c4 k4), ((fun_mk (st := s_BadFormD_initD) l4 c4 k4).binds (ps := P_BadFormD_initD) fun _ _ _ _ _ _ us hl => match us, hl with | [_, _], _ => rfl)⟩,
      ox_BadForm := ⟨⟨nm_BadForm, q_BadForm, N_BadForm, bs_BadForm, _, sn_BadForm, sub_BadForm, ab_BadForm, col_BadForm, dd_BadForm, m0_BadForm, m1_BadForm, m2_BadForm, m3_BadForm, m5_BadForm, x_BadForm, rfl⟩, sa_BadForm, eC_BadForm, tC_BadForm, kC_BadForm⟩,
      e_BadForm := ⟨ic_BadForm, ga_BadForm, gt_BadForm, eC_BadForm, ca_BadForm, gg0, tk0, mo_BadForm⟩,
      xf_BadForm := ⟨ga_BadForm, gt_BadForm, eC_BadForm, hC_BadForm⟩,
      kv_BadForm := kit_ty2 vC_BadForm,
      g_BadRatio := PySem.W.mg_of X G a_BadRatio,
      kn_BadForm := kit_no0 ne_BadForm_BadRatio ic_BadRatio tC_BadRatio s_BadForm_BadRatio,
      ke_BadForm := kit_yes ic_EllError tC_EllError lC_BadForm,
      em_BadForm := exm_of eC_BadForm ic_BadForm tC_BadForm s_BadForm_BadForm,
      em_NoSpot := exm_of eC_NoSpot ic_NoSpot tC_NoSpot s_NoSpot_NoSpot,
      g_World := PySem.W.mg_of X G a_World,
      ki := ⟨⟨pg, hd, po, sa⟩, ca, gg0, tk0, mo⟩,
      nV := nV,
      i_World := ⟨_, _, ⟨mk, a5, i5, kc⟩, (fun_mk (st := s_WorldD_initD) l5 c5 k5), ((fun_mk (st := s_WorldD_initD) l5 c5 k5).binds (ps := P_WorldD_initD) fun _ _ _ _ _ _ us hl => match us, hl with | [_, _], _ => rfl)⟩,
      o_getitem := ⟨_, _, ⟨a6, i6⟩, fn_at l6, (fun_mk (st := s_WorldD_getitemD) l6 c6 k6), ((fun_mk (st := s_WorldD_getitemD) l6 c6 k6).binds (ps := P_WorldD_getitemD) fun _ _ _ _ _ _ us hl => match us, hl with | [_, _], _ => rfl)⟩,
      g_Form := PySem.W.mg_of X G a_Form,
      fki := ⟨⟨fpg, fhd, fpo, fsa⟩, fca, gg0, tk0, fmo⟩,
      fnT := fnT,
      fnR := fnR,
      fsf := fsf,
      fnf := all6 (nf_of fsb_NoneType) (nf_of fsb_bool) (nf_of fsb_int) (nf_of fsb_str) (nf_of fsb_list) (nf_of fsb_tuple),
      fno := all6 (kit_no1 fic ftC fsb_NoneType) (kit_no1 fic ftC fsb_bool) (kit_no1 fic ftC fsb_int) (kit_no1 fic ftC fsb_str) (kit_no1 fic ftC fsb_list) (kit_no1 fic ftC fsb_tuple),
      ftr := ⟨frf, ⟨_, ft1⟩, ⟨_, ft2⟩, fsb_tuple⟩,
      i_Form := form_at ⟨fmk, a7, i7, fkc⟩ l7 lTF c7 k7,
      t_E := empty_at lE,
      t_Z := zero_at lZ,
      c_Form := ⟨_, _, ⟨a8, i8, fn_at l8⟩, (fun_mk (st := s_FormD_callD) l8 c8 k8), ((fun_mk (st := s_FormD_callD) l8 c8 k8).binds (ps := P_FormD_callD) fun _ _ _ _ _ _ us hl => match us, hl with | [_, _], _ => rfl)⟩,
      o_add := ⟨_, _, ⟨a9, i9⟩, (fun_mk (st := s_FormD_addD) l9 c9 k9), ((fun_mk (st := s_FormD_addD) l9 c9 k9).binds (ps := P_FormD_addD) fun _ _ _ _ _ _ us hl => match us, hl with | [_, _], _ => rfl)⟩,
      o_sub := ⟨_, _, ⟨a10, i10⟩, (fun_mk (st := s_FormD_subD) l10 c10 k10), ((fun_mk (st := s_FormD_subD) l10 c10 k10).binds (ps := P_FormD_subD) fun _ _ _ _ _ _ us hl => match us, hl with | [_, _], _ => rfl)⟩,
      o_mul := ⟨_, _, ⟨a11, i11⟩, (fun_mk (st := s_FormD_mulD) l11 c11 k11), ((fun_mk (st := s_FormD_mulD) l11 c11 k11).binds (ps := P_FormD_mulD) fun _ _ _ _ _ _ us hl => match us, hl with | [_, _], _ => rfl)⟩,
      o_neg := ⟨_, _, ⟨a12, i12⟩, (fun_mk (st := s_FormD_negD) l12 c12 k12), ((fun_mk (st := s_FormD_negD) l12 c12 k12).binds (ps := P_FormD_negD) fun _ _ _ _ _ _ us hl => match us, hl with | [_], _ => rfl)⟩,
      o_feq := ⟨_, _, ⟨a13, i13⟩, fn_at l13, (fun_mk (st := s_FormD_eqD) l13 c13 k13), ((fun_mk (st := s_FormD_eqD) l13 c13 k13).binds (ps := P_FormD_eqD) fun _ _ _ _ _ _ us hl => match us, hl with | [_, _], _ => rfl)⟩,
      m_plain := ⟨_, _, ⟨a14, i14, k14⟩, (fun_mk (st := s_Form_plain) l14 c14 k14), ((fun_mk (st := s_Form_plain) l14 c14 k14).binds (ps := P_Form_plain) fun _ _ _ _ _ _ us hl => match us, hl with | [_], _ => rfl)⟩,
      m_of := ⟨.type "type", p_of, _, _, ⟨⟨sm_rd, sm_ga⟩, sm_off, ⟨_, sm_rc⟩, k15, fpg, fic, sm_at, sm_ty, sm_gt, sm_tk, by decide +kernel⟩, (fun_mk (st := s_Form_of) l15 c15 k15), ((fun_mk (st := s_Form_of) l15 c15 k15).binds (ps := P_Form_of) fun _ _ _ _ _ _ us hl => match us, hl with | [_], _ => rfl)⟩,
      d__wall := ⟨_, _, (fun_mk (st := s__wall) l16 c16 k16), PySem.W.mg_of X G a16, ((fun_mk (st := s__wall) l16 c16 k16).binds (ps := P__wall) fun _ _ _ _ _ _ us hl => match us, hl with | [_], _ => rfl)⟩,
      d_is_integer := ⟨_, _, (fun_mk (st := s_is_integer) l17 c17 k17), PySem.W.mg_of X G a17, ((fun_mk (st := s_is_integer) l17 c17 k17).binds (ps := P_is_integer) fun _ _ _ _ _ _ us hl => match us, hl with | [_], _ => rfl)⟩,
      d_is_row := ⟨_, _, (fun_mk (st := s_is_row) l18 c18 k18), PySem.W.mg_of X G a18, ((fun_mk (st := s_is_row) l18 c18 k18).binds (ps := P_is_row) fun _ _ _ _ _ _ us hl => match us, hl with | [_], _ => rfl)⟩,
      d_is_tuple_of := ⟨_, _, (fun_mk (st := s_is_tuple_of) l19 c19 k19), PySem.W.mg_of X G a19, ((fun_mk (st := s_is_tuple_of) l19 c19 k19).binds (ps := P_is_tuple_of) fun _ _ _ _ _ _ us hl => match us, hl with | [_, _], _ => rfl)⟩,
      d_is_ratio := ⟨_, _, (fun_mk (st := s_is_ratio) l20 c20 k20), PySem.W.mg_of X G a20, ((fun_mk (st := s_is_ratio) l20 c20 k20).binds (ps := P_is_ratio) fun _ _ _ _ _ _ us hl => match us, hl with | [_], _ => rfl)⟩,
      d_plus := ⟨_, _, (fun_mk (st := s_plus) l21 c21 k21), PySem.W.mg_of X G a21, ((fun_mk (st := s_plus) l21 c21 k21).binds (ps := P_plus) fun _ _ _ _ _ _ us hl => match us, hl with | [_, _], _ => rfl)⟩,
      d_times := ⟨_, _, (fun_mk (st := s_times) l22 c22 k22), PySem.W.mg_of X G a22, ((fun_mk (st := s_times) l22 c22 k22).binds (ps := P_times) fun _ _ _ _ _ _ us hl => match us, hl with | [_, _], _ => rfl)⟩,
      d_is_spot := ⟨_, _, (fun_mk (st := s_is_spot) l23 c23 k23), PySem.W.mg_of X G a23, ((fun_mk (st := s_is_spot) l23 c23 k23).binds (ps := P_is_spot) fun _ _ _ _ _ _ us hl => match us, hl with | [_], _ => rfl)⟩,
      d__values_of := ⟨_, _, (fun_mk (st := s__values_of) l24 c24 k24), PySem.W.mg_of X G a24, ((fun_mk (st := s__values_of) l24 c24 k24).binds (ps := P__values_of) fun _ _ _ _ _ _ us hl => match us, hl with | [_], _ => rfl)⟩,
      d_plain_value := ⟨_, _, (fun_mk (st := s_plain_value) l25 c25 k25), PySem.W.mg_of X G a25, ((fun_mk (st := s_plain_value) l25 c25 k25).binds (ps := P_plain_value) fun _ _ _ _ _ _ us hl => match us, hl with | [_, _], _ => rfl)⟩,
      d_plain_form := ⟨_, _, (fun_mk (st := s_plain_form) l26 c26 k26), PySem.W.mg_of X G a26, ((fun_mk (st := s_plain_form) l26 c26 k26).binds (ps := P_plain_form) fun _ _ _ _ _ _ us hl => match us, hl with | [_, _], _ => rfl)⟩,
      d_plain_sum := ⟨_, _, (fun_mk (st := s_plain_sum) l27 c27 k27), PySem.W.mg_of X G a27, ((fun_mk (st := s_plain_sum) l27 c27 k27).binds (ps := P_plain_sum) fun _ _ _ _ _ _ us hl => match us, hl with | [_, _], _ => rfl)⟩,
      d_plain_scaled := ⟨_, _, (fun_mk (st := s_plain_scaled) l28 c28 k28), PySem.W.mg_of X G a28, ((fun_mk (st := s_plain_scaled) l28 c28 k28).binds (ps := P_plain_scaled) fun _ _ _ _ _ _ us hl => match us, hl with | [_, _], _ => rfl)⟩,
      d_form_of := ⟨_, _, (fun_mk (st := s_form_of) l29 c29 k29), PySem.W.mg_of X G a29, ((fun_mk (st := s_form_of) l29 c29 k29).binds (ps := P_form_of) fun _ _ _ _ _ _ us hl => match us, hl with | [_], _ => rfl)⟩,
      d__factors_of := ⟨_, _, (fun_mk (st := s__factors_of) l30 c30 k30), PySem.W.mg_of X G a30, ((fun_mk (st := s__factors_of) l30 c30 k30).binds (ps := P__factors_of) fun _ _ _ _ _ _ us hl => match us, hl with | [_], _ => rfl)⟩,
      d__law_bag_of := ⟨_, _, (fun_mk (st := s__law_bag_of) l31 c31 k31), PySem.W.mg_of X G a31, ((fun_mk (st := s__law_bag_of) l31 c31 k31).binds (ps := P__law_bag_of) fun _ _ _ _ _ _ us hl => match us, hl with | [_], _ => rfl)⟩,
      d__law_pick := ⟨_, _, (fun_mk (st := s__law_pick) l32 c32 k32), PySem.W.mg_of X G a32, ((fun_mk (st := s__law_pick) l32 c32 k32).binds (ps := P__law_pick) fun _ _ _ _ _ _ us hl => match us, hl with | [_, _], _ => rfl)⟩,
      d__law_choice := ⟨_, _, (fun_mk (st := s__law_choice) l33 c33 k33), PySem.W.mg_of X G a33, ((fun_mk (st := s__law_choice) l33 c33 k33).binds (ps := P__law_choice) fun _ _ _ _ _ _ us hl => match us, hl with | [_, _], _ => rfl)⟩,
      d__law_one_in := ⟨_, _, (fun_mk (st := s__law_one_in) l34 c34 k34), PySem.W.mg_of X G a34, ((fun_mk (st := s__law_one_in) l34 c34 k34).binds (ps := P__law_one_in) fun _ _ _ _ _ _ us hl => match us, hl with | [_, _], _ => rfl)⟩,
      d__law_shuffled := ⟨_, _, (fun_mk (st := s__law_shuffled) l35 c35 k35), PySem.W.mg_of X G a35, ((fun_mk (st := s__law_shuffled) l35 c35 k35).binds (ps := P__law_shuffled) fun _ _ _ _ _ _ us hl => match us, hl with | [_, _], _ => rfl)⟩,
      d__law_integer := ⟨_, _, (fun_mk (st := s__law_integer) l36 c36 k36), PySem.W.mg_of X G a36, ((fun_mk (st := s__law_integer) l36 c36 k36).binds (ps := P__law_integer) fun _ _ _ _ _ _ us hl => match us, hl with | [_], _ => rfl)⟩,
      d__law_letters_of := ⟨_, _, (fun_mk (st := s__law_letters_of) l37 c37 k37), PySem.W.mg_of X G a37, ((fun_mk (st := s__law_letters_of) l37 c37 k37).binds (ps := P__law_letters_of) fun _ _ _ _ _ _ us hl => match us, hl with | [_, _], _ => rfl)⟩,
      d__law_words := ⟨_, _, (fun_mk (st := s__law_words) l38 c38 k38), PySem.W.mg_of X G a38, ((fun_mk (st := s__law_words) l38 c38 k38).binds (ps := P__law_words) fun _ _ _ _ _ _ us hl => match us, hl with | [], _ => rfl)⟩,
      d__law_names_of := ⟨_, _, (fun_mk (st := s__law_names_of) l39 c39 k39), PySem.W.mg_of X G a39, ((fun_mk (st := s__law_names_of) l39 c39 k39).binds (ps := P__law_names_of) fun _ _ _ _ _ _ us hl => match us, hl with | [_, _], _ => rfl)⟩,
      d__law_gcd := ⟨_, _, (fun_mk (st := s__law_gcd) l40 c40 k40), PySem.W.mg_of X G a40, ((fun_mk (st := s__law_gcd) l40 c40 k40).binds (ps := P__law_gcd) fun _ _ _ _ _ _ us hl => match us, hl with | [_, _], _ => rfl)⟩,
      d__law_ratio := ⟨_, _, (fun_mk (st := s__law_ratio) l41 c41 k41), PySem.W.mg_of X G a41, ((fun_mk (st := s__law_ratio) l41 c41 k41).binds (ps := P__law_ratio) fun _ _ _ _ _ _ us hl => match us, hl with | [_, _], _ => rfl)⟩,
      d__law_plus := ⟨_, _, (fun_mk (st := s__law_plus) l42 c42 k42), PySem.W.mg_of X G a42, ((fun_mk (st := s__law_plus) l42 c42 k42).binds (ps := P__law_plus) fun _ _ _ _ _ _ us hl => match us, hl with | [_, _], _ => rfl)⟩,
      d__law_times := ⟨_, _, (fun_mk (st := s__law_times) l43 c43 k43), PySem.W.mg_of X G a43, ((fun_mk (st := s__law_times) l43 c43 k43).binds (ps := P__law_times) fun _ _ _ _ _ _ us hl => match us, hl with | [_, _], _ => rfl)⟩,
      d__law_ground := ⟨_, _, (fun_mk (st := s__law_ground) l44 c44 k44), PySem.W.mg_of X G a44, ((fun_mk (st := s__law_ground) l44 c44 k44).binds (ps := P__law_ground) fun _ _ _ _ _ _ us hl => match us, hl with | [], _ => rfl)⟩,
      d__law_plain_value := ⟨_, _, (fun_mk (st := s__law_plain_value) l45 c45 k45), PySem.W.mg_of X G a45, ((fun_mk (st := s__law_plain_value) l45 c45 k45).binds (ps := P__law_plain_value) fun _ _ _ _ _ _ us hl => match us, hl with | [_, _], _ => rfl)⟩,
      d__law_added := ⟨_, _, (fun_mk (st := s__law_added) l46 c46 k46), PySem.W.mg_of X G a46, ((fun_mk (st := s__law_added) l46 c46 k46).binds (ps := P__law_added) fun _ _ _ _ _ _ us hl => match us, hl with | [_, _, _], _ => rfl)⟩,
      d__law_exact := ⟨_, _, (fun_mk (st := s__law_exact) l47 c47 k47), PySem.W.mg_of X G a47, ((fun_mk (st := s__law_exact) l47 c47 k47).binds (ps := P__law_exact) fun _ _ _ _ _ _ us hl => match us, hl with | [_, _], _ => rfl)⟩,
      d__law_pool_of := ⟨_, _, (fun_mk (st := s__law_pool_of) l48 c48 k48), PySem.W.mg_of X G a48, ((fun_mk (st := s__law_pool_of) l48 c48 k48).binds (ps := P__law_pool_of) fun _ _ _ _ _ _ us hl => match us, hl with | [_], _ => rfl)⟩,
      d__law_number_of := ⟨_, _, (fun_mk (st := s__law_number_of) l49 c49 k49), PySem.W.mg_of X G a49, ((fun_mk (st := s__law_number_of) l49 c49 k49).binds (ps := P__law_number_of) fun _ _ _ _ _ _ us hl => match us, hl with | [_], _ => rfl)⟩,
      d__law_row_of := ⟨_, _, (fun_mk (st := s__law_row_of) l50 c50 k50), PySem.W.mg_of X G a50, ((fun_mk (st := s__law_row_of) l50 c50 k50).binds (ps := P__law_row_of) fun _ _ _ _ _ _ us hl => match us, hl with | [_, _], _ => rfl)⟩,
      d__law_plain_of := ⟨_, _, (fun_mk (st := s__law_plain_of) l51 c51 k51), PySem.W.mg_of X G a51, ((fun_mk (st := s__law_plain_of) l51 c51 k51).binds (ps := P__law_plain_of) fun _ _ _ _ _ _ us hl => match us, hl with | [_, _], _ => rfl)⟩,
      d__law_summed := ⟨_, _, (fun_mk (st := s__law_summed) l52 c52 k52), PySem.W.mg_of X G a52, ((fun_mk (st := s__law_summed) l52 c52 k52).binds (ps := P__law_summed) fun _ _ _ _ _ _ us hl => match us, hl with | [_, _, _], _ => rfl)⟩,
      d__law_multiplied := ⟨_, _, (fun_mk (st := s__law_multiplied) l53 c53 k53), PySem.W.mg_of X G a53, ((fun_mk (st := s__law_multiplied) l53 c53 k53).binds (ps := P__law_multiplied) fun _ _ _ _ _ _ us hl => match us, hl with | [_, _], _ => rfl)⟩,
      d__law_is := ⟨_, _, (fun_mk (st := s__law_is) l54 c54 k54), PySem.W.mg_of X G a54, ((fun_mk (st := s__law_is) l54 c54 k54).binds (ps := P__law_is) fun _ _ _ _ _ _ us hl => match us, hl with | [_, _], _ => rfl)⟩,
      d__law_alike := ⟨_, _, (fun_mk (st := s__law_alike) l55 c55 k55), PySem.W.mg_of X G a55, ((fun_mk (st := s__law_alike) l55 c55 k55).binds (ps := P__law_alike) fun _ _ _ _ _ _ us hl => match us, hl with | [_, _, _], _ => rfl)⟩,
      d__law_operators := ⟨_, _, (fun_mk (st := s__law_operators) l56 c56 k56), PySem.W.mg_of X G a56, ((fun_mk (st := s__law_operators) l56 c56 k56).binds (ps := P__law_operators) fun _ _ _ _ _ _ us hl => match us, hl with | [_, _, _, _], _ => rfl)⟩,
      d__law_equal_ones := ⟨_, _, (fun_mk (st := s__law_equal_ones) l57 c57 k57), PySem.W.mg_of X G a57, ((fun_mk (st := s__law_equal_ones) l57 c57 k57).binds (ps := P__law_equal_ones) fun _ _ _ _ _ _ us hl => match us, hl with | [_, _, _, _, _, _], _ => rfl)⟩,
      d__law_lacking := ⟨_, _, (fun_mk (st := s__law_lacking) l58 c58 k58), PySem.W.mg_of X G a58, ((fun_mk (st := s__law_lacking) l58 c58 k58).binds (ps := P__law_lacking) fun _ _ _ _ _ _ us hl => match us, hl with | [_, _], _ => rfl)⟩,
      d__law_called := ⟨_, _, (fun_mk (st := s__law_called) l59 c59 k59), PySem.W.mg_of X G a59, ((fun_mk (st := s__law_called) l59 c59 k59).binds (ps := P__law_called) fun _ _ _ _ _ _ us hl => match us, hl with | [_, _, _, _], _ => rfl)⟩,
      d__law_refused := ⟨_, _, (fun_mk (st := s__law_refused) l60 c60 k60), PySem.W.mg_of X G a60, ((fun_mk (st := s__law_refused) l60 c60 k60).binds (ps := P__law_refused) fun _ _ _ _ _ _ us hl => match us, hl with | [_, _], _ => rfl)⟩,
      d__law_bad_pair := ⟨_, _, (fun_mk (st := s__law_bad_pair) l61 c61 k61), PySem.W.mg_of X G a61, ((fun_mk (st := s__law_bad_pair) l61 c61 k61).binds (ps := P__law_bad_pair) fun _ _ _ _ _ _ us hl => match us, hl with | [_, _], _ => rfl)⟩,
      d__law_bad_rest := ⟨_, _, (fun_mk (st := s__law_bad_rest) l62 c62 k62), PySem.W.mg_of X G a62, ((fun_mk (st := s__law_bad_rest) l62 c62 k62).binds (ps := P__law_bad_rest) fun _ _ _ _ _ _ us hl => match us, hl with | [_], _ => rfl)⟩,
      d__law_refusals := ⟨_, _, (fun_mk (st := s__law_refusals) l63 c63 k63), PySem.W.mg_of X G a63, ((fun_mk (st := s__law_refusals) l63 c63 k63).binds (ps := P__law_refusals) fun _ _ _ _ _ _ us hl => match us, hl with | [_, _, _], _ => rfl)⟩,
      d_ratio := ratio_at l64 lT c64 k64 (PySem.W.mg_of X G a64),
      d_law := ⟨_, _, (fun_mk (st := s_law) l65 c65 k65), PySem.W.mg_of X G a65, ((fun_mk (st := s_law) l65 c65 k65).binds (ps := P_law) fun _ _ _ _ _ _ us hl => match us, hl with | [_], _ => rfl)⟩ }
  have FL := (fun_mk (st := s_law) l65 c65 k65)
  exact ⟨PySem.W.fnOf "law" "law" (defArgs s_law) (defBody s_law) (defScope s_law) .none kV65 dc65 pm65 an65 cd65 ct65, fun s v => .of_eq rfl, fun base _ _ => fun_gd FL sc_law (fun vs H Q E h => by obtain ⟨_, p, ns, rfl, _⟩ := h; rfl) (b_law T)⟩
theorem walk {l : PySem.W.OpenLaw} {q : Program} {loose : List Str} {XP : (Str → Option Value) → Heap → Prop} {YP : World → Heap → Prop} {d : DefRec} {K : Params → PySem.W.Frag} (hn : l.most = some 63) (hdf : d.params.defaults = [])
    (hY : ∀ (w : World) (h : Heap), YP w h → (K w.params).In h)
    (F : ∀ (w : World) (mg : Str → Option Value) (fa : Addr) (h : Heap), (K w.params).In h → h.Ns mainGlobals mg → mg d.name = some (.ref fa) →
      ∃ fd : FuncData, (∀ (s : Shared) (u : Value), BindsTo s fd ⟨[u], []⟩ [("_law_script", u)]) ∧ ∀ base : Heap, (K w.params).In base → base.Ns mainGlobals mg → FnG l.prog w (K w.params) mg base 11 fa fd ["_law_script"] (sp_law (K w.params))) :
    PySem.W.WalkO q loose XP YP l.row.toRowW d [] (fun f vs => PySem.call f vs) :=
  walk_G (n := 63) (k := 11) (x := "_law_script") (sp := fun w => sp_law (K w.params)) hn (by decide) hdf ⟨rfl, by decide, by decide⟩ hY F (fun _ _ a ns hl _ hS => ⟨_, a, ns, rfl, hS, by omega, Same.refl _, fun _ => rfl⟩)
end K33

open PySem PySem.W PyProof.Rows
set_option maxRecDepth 100000 in
set_option maxHeartbeats 0 in
theorem PySem.Challenge.cw_ellwarden_k33_forms_holds : PySem.Challenge.rw_ellwarden_k33_forms.Holds := by
  w_on; o_law; k_head; (case hw => w_witness2)
  k_fill
  refine K33.walk (l := PySem.Challenge.rw_ellwarden_k33_forms) rfl rfl (fun w h Y => PySem.W.kIn_of Y) ?F
  case F =>
    intro w mg fa h KX G hmg
    refine' K33.all_mk KX G hmg ?z_isinstance ?z_int ?z_bool ?z_tuple ?z_str ?z_list ?z_len ?z_abs ?z_range ?z_enumerate ?z_sorted ?z_ValueError ?zgcd ?zz_GROUND ?lGG ?gg0 ?tk0 ?a_EllError ?ic_EllError ?tC_EllError ?a_Nought ?x_Nought ?sa_Nought ?ga_Nought ?gt_Nought ?ca_Nought ?kC_Nought ?eC_Nought ?vC_Nought ?lC_Nought ?tC_Nought ?hC_Nought ?ic_Nought ?mo_Nought ?no_Nought_number ?a1 ?t1 ?l1 ?c1 ?k1 ?a_BadWorld ?x_BadWorld ?sa_BadWorld ?ga_BadWorld ?gt_BadWorld ?ca_BadWorld ?kC_BadWorld ?eC_BadWorld ?vC_BadWorld ?lC_BadWorld ?tC_BadWorld ?hC_BadWorld ?ic_BadWorld ?mo_BadWorld ?no_BadWorld_place ?a2 ?t2 ?l2 ?c2 ?k2 ?a_NoSpot ?x_NoSpot ?sa_NoSpot ?ga_NoSpot ?gt_NoSpot ?ca_NoSpot ?kC_NoSpot ?eC_NoSpot ?vC_NoSpot ?lC_NoSpot ?tC_NoSpot ?hC_NoSpot ?ic_NoSpot ?mo_NoSpot ?no_NoSpot_spot ?a3 ?t3 ?l3 ?c3 ?k3 ?a_BadForm ?x_BadForm ?sa_BadForm ?ga_BadForm ?gt_BadForm ?ca_BadForm ?kC_BadForm ?eC_BadForm ?vC_BadForm ?lC_BadForm ?tC_BadForm ?hC_BadForm ?ic_BadForm ?mo_BadForm ?no_BadForm_place ?a4 ?t4 ?l4 ?c4 ?k4 ?a_BadRatio ?ic_BadRatio ?tC_BadRatio ?s_BadForm_BadRatio ?ne_BadForm_BadRatio ?s_BadForm_BadForm ?s_NoSpot_NoSpot ?a_World ?pg ?hd ?po ?sa ?ca ?mo ?nV ?ic ?tC ?mk ?kc ?a5 ?i5 ?l5 ?c5 ?k5 ?a6 ?i6 ?l6 ?c6 ?k6 ?a_Form ?fpg ?fhd ?fpo ?fsa ?fca ?fmo ?fnT ?fnR ?fic ?ftC ?fmk ?fkc ?fsf ?fsb_NoneType ?fsb_bool ?fsb_int ?fsb_str ?fsb_list ?fsb_tuple ?frf ?ft1 ?ft2 ?a7 ?i7 ?l7 ?lTF ?lE ?lZ ?c7 ?k7 ?a8 ?i8 ?l8 ?c8 ?k8 ?a9 ?i9 ?l9 ?c9 ?k9 ?a10 ?i10 ?l10 ?c10 ?k10 ?a11 ?i11 ?l11 ?c11 ?k11 ?a12 ?i12 ?l12 ?c12 ?k12 ?a13 ?i13 ?l13 ?c13 ?k13 ?a14 ?i14 ?l14 ?c14 ?k14 ?sm_at ?sm_ty ?sm_gt ?sm_tk ?sm_rc ?l15 ?c15 ?k15 ?sm_rd ?sm_ga ?sm_off ?a16 ?l16 ?c16 ?k16 ?a17 ?l17 ?c17 ?k17 ?a18 ?l18 ?c18 ?k18 ?a19 ?l19 ?c19 ?k19 ?a20 ?l20 ?c20 ?k20 ?a21 ?l21 ?c21 ?k21 ?a22 ?l22 ?c22 ?k22 ?a23 ?l23 ?c23 ?k23 ?a24 ?l24 ?c24 ?k24 ?a25 ?l25 ?c25 ?k25 ?a26 ?l26 ?c26 ?k26 ?a27 ?l27 ?c27 ?k27 ?a28 ?l28 ?c28 ?k28 ?a29 ?l29 ?c29 ?k29 ?a30 ?l30 ?c30 ?k30 ?a31 ?l31 ?c31 ?k31 ?a32 ?l32 ?c32 ?k32 ?a33 ?l33 ?c33 ?k33 ?a34 ?l34 ?c34 ?k34 ?a35 ?l35 ?c35 ?k35 ?a36 ?l36 ?c36 ?k36 ?a37 ?l37 ?c37 ?k37 ?a38 ?l38 ?c38 ?k38 ?a39 ?l39 ?c39 ?k39 ?a40 ?l40 ?c40 ?k40 ?a41 ?l41 ?c41 ?k41 ?a42 ?l42 ?c42 ?k42 ?a43 ?l43 ?c43 ?k43 ?a44 ?l44 ?c44 ?k44 ?a45 ?l45 ?c45 ?k45 ?a46 ?l46 ?c46 ?k46 ?a47 ?l47 ?c47 ?k47 ?a48 ?l48 ?c48 ?k48 ?a49 ?l49 ?c49 ?k49 ?a50 ?l50 ?c50 ?k50 ?a51 ?l51 ?c51 ?k51 ?a52 ?l52 ?c52 ?k52 ?a53 ?l53 ?c53 ?k53 ?a54 ?l54 ?c54 ?k54 ?a55 ?l55 ?c55 ?k55 ?a56 ?l56 ?c56 ?k56 ?a57 ?l57 ?c57 ?k57 ?a58 ?l58 ?c58 ?k58 ?a59 ?l59 ?c59 ?k59 ?a60 ?l60 ?c60 ?k60 ?a61 ?l61 ?c61 ?k61 ?a62 ?l62 ?c62 ?k62 ?a63 ?l63 ?c63 ?k63 ?a64 ?l64 ?lT ?c64 ?k64 ?a65 ?l65 ?c65 ?k65
    (case z_isinstance => k_is)
    (case z_int => k_is)
    (case z_bool => k_is)
    (case z_tuple => k_is)
    (case z_str => k_is)
    (case z_list => k_is)
    (case z_len => k_is)
    (case z_abs => k_is)
    (case z_range => k_is)
    (case z_enumerate => k_is)
    (case z_sorted => k_is)
    (case z_ValueError => k_is)
    (case zgcd => k_is)
    (case zz_GROUND => k_is)
    (case lGG => k_is)
    (case gg0 => k_is)
    (case tk0 => k_is)
    (case a_EllError => k_is)
    (case ic_EllError => k_is)
    (case tC_EllError => k_is)
    (case a_Nought => k_is)
    (case x_Nought => k_is)
    (case sa_Nought => k_is)
    (case ga_Nought => k_is)
    (case gt_Nought => k_is)
    (case ca_Nought => k_is)
    (case kC_Nought => k_is)
    (case eC_Nought => k_is)
    (case vC_Nought => k_is)
    (case lC_Nought => k_is)
    (case tC_Nought => k_is)
    (case hC_Nought => k_is)
    (case ic_Nought => k_is)
    (case mo_Nought => k_is)
    (case no_Nought_number => k_is)
    (case a1 => k_is)
    (case t1 => k_is)
    (case l1 => k_is)
    (case c1 => k_is)
    (case k1 => k_is)
    (case a_BadWorld => k_is)
    (case x_BadWorld => k_is)
    (case sa_BadWorld => k_is)
    (case ga_BadWorld => k_is)
    (case gt_BadWorld => k_is)
    (case ca_BadWorld => k_is)
    (case kC_BadWorld => k_is)
    (case eC_BadWorld => k_is)
    (case vC_BadWorld => k_is)
    (case lC_BadWorld => k_is)
    (case tC_BadWorld => k_is)
    (case hC_BadWorld => k_is)
    (case ic_BadWorld => k_is)
    (case mo_BadWorld => k_is)
    (case no_BadWorld_place => k_is)
    (case a2 => k_is)
    (case t2 => k_is)
    (case l2 => k_is)
    (case c2 => k_is)
    (case k2 => k_is)
    (case a_NoSpot => k_is)
    (case x_NoSpot => k_is)
    (case sa_NoSpot => k_is)
    (case ga_NoSpot => k_is)
    (case gt_NoSpot => k_is)
    (case ca_NoSpot => k_is)
    (case kC_NoSpot => k_is)
    (case eC_NoSpot => k_is)
    (case vC_NoSpot => k_is)
    (case lC_NoSpot => k_is)
    (case tC_NoSpot => k_is)
    (case hC_NoSpot => k_is)
    (case ic_NoSpot => k_is)
    (case mo_NoSpot => k_is)
    (case no_NoSpot_spot => k_is)
    (case a3 => k_is)
    (case t3 => k_is)
    (case l3 => k_is)
    (case c3 => k_is)
    (case k3 => k_is)
    (case a_BadForm => k_is)
    (case x_BadForm => k_is)
    (case sa_BadForm => k_is)
    (case ga_BadForm => k_is)
    (case gt_BadForm => k_is)
    (case ca_BadForm => k_is)
    (case kC_BadForm => k_is)
    (case eC_BadForm => k_is)
    (case vC_BadForm => k_is)
    (case lC_BadForm => k_is)
    (case tC_BadForm => k_is)
    (case hC_BadForm => k_is)
    (case ic_BadForm => k_is)
    (case mo_BadForm => k_is)
    (case no_BadForm_place => k_is)
    (case a4 => k_is)
    (case t4 => k_is)
    (case l4 => k_is)
    (case c4 => k_is)
    (case k4 => k_is)
    (case a_BadRatio => k_is)
    (case ic_BadRatio => k_is)
    (case tC_BadRatio => k_is)
    (case s_BadForm_BadRatio => k_is)
    (case ne_BadForm_BadRatio => decide)
    (case s_BadForm_BadForm => first | rfl | k_is)
    (case s_NoSpot_NoSpot => first | rfl | k_is)
    (case a_World => k_is)
    (case pg => k_is)
    (case hd => k_is)
    (case po => k_is)
    (case sa => k_is)
    (case ca => k_is)
    (case mo => k_is)
    (case nV => k_is)
    (case ic => k_is)
    (case tC => k_is)
    (case mk => k_is)
    (case kc => k_is)
    (case a5 => k_is)
    (case i5 => k_is)
    (case l5 => k_is)
    (case c5 => k_is)
    (case k5 => k_is)
    (case a6 => k_is)
    (case i6 => k_is)
    (case l6 => k_is)
    (case c6 => k_is)
    (case k6 => k_is)
    (case a_Form => k_is)
    (case fpg => k_is)
    (case fhd => k_is)
    (case fpo => k_is)
    (case fsa => k_is)
    (case fca => k_is)
    (case fmo => k_is)
    (case fnT => k_is)
    (case fnR => k_is)
    (case fic => k_is)
    (case ftC => k_is)
    (case fmk => k_is)
    (case fkc => k_is)
    (case fsf => k_is)
    (case fsb_NoneType => k_is)
    (case fsb_bool => k_is)
    (case fsb_int => k_is)
    (case fsb_str => k_is)
    (case fsb_list => k_is)
    (case fsb_tuple => k_is)
    (case frf => k_is)
    (case ft1 => k_is)
    (case ft2 => k_is)
    (case a7 => k_is)
    (case i7 => k_is)
    (case l7 => k_is)
    (case lTF => k_is)
    (case lE => k_is)
    (case lZ => k_is)
    (case c7 => k_is)
    (case k7 => k_is)
    (case a8 => k_is)
    (case i8 => k_is)
    (case l8 => k_is)
    (case c8 => k_is)
    (case k8 => k_is)
    (case a9 => k_is)
    (case i9 => k_is)
    (case l9 => k_is)
    (case c9 => k_is)
    (case k9 => k_is)
    (case a10 => k_is)
    (case i10 => k_is)
    (case l10 => k_is)
    (case c10 => k_is)
    (case k10 => k_is)
    (case a11 => k_is)
    (case i11 => k_is)
    (case l11 => k_is)
    (case c11 => k_is)
    (case k11 => k_is)
    (case a12 => k_is)
    (case i12 => k_is)
    (case l12 => k_is)
    (case c12 => k_is)
    (case k12 => k_is)
    (case a13 => k_is)
    (case i13 => k_is)
    (case l13 => k_is)
    (case c13 => k_is)
    (case k13 => k_is)
    (case a14 => k_is)
    (case i14 => k_is)
    (case l14 => k_is)
    (case c14 => k_is)
    (case k14 => k_is)
    (case sm_at => k_is)
    (case sm_ty => k_is)
    (case sm_gt => k_is)
    (case sm_tk => k_is)
    (case sm_rc => k_is)
    (case l15 => k_is)
    (case c15 => k_is)
    (case k15 => k_is)
    (case sm_rd => k_is)
    (case sm_ga => k_is)
    (case sm_off => k_is)
    (case a16 => k_is)
    (case l16 => k_is)
    (case c16 => k_is)
    (case k16 => k_is)
    (case a17 => k_is)
    (case l17 => k_is)
    (case c17 => k_is)
    (case k17 => k_is)
    (case a18 => k_is)
    (case l18 => k_is)
    (case c18 => k_is)
    (case k18 => k_is)
    (case a19 => k_is)
    (case l19 => k_is)
    (case c19 => k_is)
    (case k19 => k_is)
    (case a20 => k_is)
    (case l20 => k_is)
    (case c20 => k_is)
    (case k20 => k_is)
    (case a21 => k_is)
    (case l21 => k_is)
    (case c21 => k_is)
    (case k21 => k_is)
    (case a22 => k_is)
    (case l22 => k_is)
    (case c22 => k_is)
    (case k22 => k_is)
    (case a23 => k_is)
    (case l23 => k_is)
    (case c23 => k_is)
    (case k23 => k_is)
    (case a24 => k_is)
    (case l24 => k_is)
    (case c24 => k_is)
    (case k24 => k_is)
    (case a25 => k_is)
    (case l25 => k_is)
    (case c25 => k_is)
    (case k25 => k_is)
    (case a26 => k_is)
    (case l26 => k_is)
    (case c26 => k_is)
    (case k26 => k_is)
    (case a27 => k_is)
    (case l27 => k_is)
    (case c27 => k_is)
    (case k27 => k_is)
    (case a28 => k_is)
    (case l28 => k_is)
    (case c28 => k_is)
    (case k28 => k_is)
    (case a29 => k_is)
    (case l29 => k_is)
    (case c29 => k_is)
    (case k29 => k_is)
    (case a30 => k_is)
    (case l30 => k_is)
    (case c30 => k_is)
    (case k30 => k_is)
    (case a31 => k_is)
    (case l31 => k_is)
    (case c31 => k_is)
    (case k31 => k_is)
    (case a32 => k_is)
    (case l32 => k_is)
    (case c32 => k_is)
    (case k32 => k_is)
    (case a33 => k_is)
    (case l33 => k_is)
    (case c33 => k_is)
    (case k33 => k_is)
    (case a34 => k_is)
    (case l34 => k_is)
    (case c34 => k_is)
    (case k34 => k_is)
    (case a35 => k_is)
    (case l35 => k_is)
    (case c35 => k_is)
    (case k35 => k_is)
    (case a36 => k_is)
    (case l36 => k_is)
    (case c36 => k_is)
    (case k36 => k_is)
    (case a37 => k_is)
    (case l37 => k_is)
    (case c37 => k_is)
    (case k37 => k_is)
    (case a38 => k_is)
    (case l38 => k_is)
    (case c38 => k_is)
    (case k38 => k_is)
    (case a39 => k_is)
    (case l39 => k_is)
    (case c39 => k_is)
    (case k39 => k_is)
    (case a40 => k_is)
    (case l40 => k_is)
    (case c40 => k_is)
    (case k40 => k_is)
    (case a41 => k_is)
    (case l41 => k_is)
    (case c41 => k_is)
    (case k41 => k_is)
    (case a42 => k_is)
    (case l42 => k_is)
    (case c42 => k_is)
    (case k42 => k_is)
    (case a43 => k_is)
    (case l43 => k_is)
    (case c43 => k_is)
    (case k43 => k_is)
    (case a44 => k_is)
    (case l44 => k_is)
    (case c44 => k_is)
    (case k44 => k_is)
    (case a45 => k_is)
    (case l45 => k_is)
    (case c45 => k_is)
    (case k45 => k_is)
    (case a46 => k_is)
    (case l46 => k_is)
    (case c46 => k_is)
    (case k46 => k_is)
    (case a47 => k_is)
    (case l47 => k_is)
    (case c47 => k_is)
    (case k47 => k_is)
    (case a48 => k_is)
    (case l48 => k_is)
    (case c48 => k_is)
    (case k48 => k_is)
    (case a49 => k_is)
    (case l49 => k_is)
    (case c49 => k_is)
    (case k49 => k_is)
    (case a50 => k_is)
    (case l50 => k_is)
    (case c50 => k_is)
    (case k50 => k_is)
    (case a51 => k_is)
    (case l51 => k_is)
    (case c51 => k_is)
    (case k51 => k_is)
    (case a52 => k_is)
    (case l52 => k_is)
    (case c52 => k_is)
    (case k52 => k_is)
    (case a53 => k_is)
    (case l53 => k_is)
    (case c53 => k_is)
    (case k53 => k_is)
    (case a54 => k_is)
    (case l54 => k_is)
    (case c54 => k_is)
    (case k54 => k_is)
    (case a55 => k_is)
    (case l55 => k_is)
    (case c55 => k_is)
    (case k55 => k_is)
    (case a56 => k_is)
    (case l56 => k_is)
    (case c56 => k_is)
    (case k56 => k_is)
    (case a57 => k_is)
    (case l57 => k_is)
    (case c57 => k_is)
    (case k57 => k_is)
    (case a58 => k_is)
    (case l58 => k_is)
    (case c58 => k_is)
    (case k58 => k_is)
    (case a59 => k_is)
    (case l59 => k_is)
    (case c59 => k_is)
    (case k59 => k_is)
    (case a60 => k_is)
    (case l60 => k_is)
    (case c60 => k_is)
    (case k60 => k_is)
    (case a61 => k_is)
    (case l61 => k_is)
    (case c61 => k_is)
    (case k61 => k_is)
    (case a62 => k_is)
    (case l62 => k_is)
    (case c62 => k_is)
    (case k62 => k_is)
    (case a63 => k_is)
    (case l63 => k_is)
    (case c63 => k_is)
    (case k63 => k_is)
    (case a64 => k_is)
    (case l64 => k_is)
    (case lT => k_is)
    (case c64 => k_is)
    (case k64 => k_is)
    (case a65 => k_is)
    (case l65 => k_is)
    (case c65 => k_is)
    (case k65 => k_is)
