import PyProof.Rows.All
import Wide.All
import OpenK.AllK
import Wide.FinOn
import HandS.ForMost
import HandS.ForExc
import HandS.TryMany
import HandS.ExcInit
import HandS.ExcField
import HandS.ExcIs
import HandS.IsInst
import KE.KExcIs
import KE.KOpsOwn
import HandS.OwnEq
import HandS.Wide
import HandS.Gcd
import HandS.TupMul
import HandS.Zip
import HandS.Defaults
import HandS.Walk
import HandS.ClsMeth
import HandS.Codes
import PyProof.StrOps2
import PyProof.ReprRoads
import HandS.Ends
import HandS.Iter
import KE.KOwnIter
import KE.KDictIter
import HandS.Dict
import HandS.List
import HandS.ListEq
import KE.KEqDict
import HandS.HotCalls
import HandS.Conv
import HandS.TupLen
import KE.GoesEnum
import KE.GoesMore
import PySem.Challenge.RW_ellwarden_k26_worlds
import HandS.Deep
import PyProof.ReprLen
import PyProof.Rows.RegStrFacts
set_option Elab.async false
set_option linter.all false
set_option maxRecDepth 100000
set_option maxHeartbeats 4000000
/-! a try with several clauses, each with a name or without -/
namespace Ew
open PySem PySem.Spec PyProof.Rows L2
/-- one clause: what it names, the slot of its name, what its suite asks -/
abbrev Cl1 := Value × Option Nat × (Addr → Value → Option Addr → TS)
/-- behind a suite the slot of its name is empty -/
def Emp : Option Nat → Ends → Ends
  | none, D => D
  | some i, D => ⟨fun t G => D.nx (t.set i none) G, D.rt, fun t G => D.bk (t.set i none) G, fun t G => D.ct (t.set i none) G⟩
def bindAt : Option Nat → Addr → L2.St → L2.St
  | none, _, σ => σ
  | some i, a, σ => σ.set i (some (.ref a))
def wN (K : PySem.W.Frag) (Wo : WX) (D : Ends) : List Cl1 → WX
  | [] => Wo
  | (c, i, ts) :: r => fun cls d σ H => ∃ b, PySem.W.exmOne K cls c = some b ∧ (b = true → ∀ a, H a = none → ts a cls d (Emp i D) (bindAt i a σ) H) ∧ (b = false → wN K Wo D r cls d σ H)
/-- a suite keeps its reading whatever exception it holds -/
def SuiteOk (X : Cx) (sts : List Stmt) (ts : Addr → Value → Option Addr → TS) : Prop := ∀ a oe cls d pn, Zc cls d oe → (∃ vs, oe.data = .fields vs) → PSs (X.suite a ((a, oe) :: pn)) sts (ts a cls d)
inductive HdsN (X : Cx) : List ExceptHandler → List Cl1 → Prop
  | nil : HdsN X [] []
  | pl {x : Str} {c : Value} {ts b sts p q hs l} : Names X x c → SuiteOk X (b :: sts) ts → HdsN X hs l → HdsN X (.ExceptHandler (some (.Name x p)) none (b :: sts) q :: hs) ((c, none, ts) :: l)
  | nm {x n : Str} {i : Nat} {c : Value} {ts b sts p q hs l} : X.N[i]? = some n → X.env.kindOf n = some .local → Names X x c → SuiteOk X (b :: sts) ts → HdsN X hs l → HdsN X (.ExceptHandler (some (.Name x p)) (some n) (b :: sts) q :: hs) ((c, some i, ts) :: l)
section
variable {X : Cx} {pins : List (Addr × Obj)} {σ : L2.St} {H : Hp} {a : Addr} {cls : Value} {d : Option Addr} {D : Ends} {s : Shared} {Wo : WX}
/-- an exception lies at a, looked at by the frame's own handlers -/
structure Caught (X : Cx) (pins : List (Addr × Obj)) (σ : L2.St) (H : Hp) (a : Addr) (cls : Value) (d : Option Addr) (s : Shared) : Prop where
  ok : X.Ok
  st : X.stack = X.env :: X.outer
  fr : X.env.frame = some X.env.locals
  free : H a = none
  rest : ∃ B sI, Inv X pins σ H sI ∧ (∀ b o, sI.heap.get? b = some o → b ∉ frs X.stack → B.get? b = some o) ∧ sI.heap.UpToSlots s.heap ∧ s.os = sI.os ∧ AllBare s.gens ∧ HandSPX.FlyingZ B (X.env :: X.outer) a (Zc cls d) s.heap
theorem Caught.inv (c : Caught X pins σ H a cls d s) : Inv X pins σ H s := by
  obtain ⟨B, sI, J, nb, up, os, ag, fl⟩ := c.rest
  obtain ⟨hp, g, dr, t, o⟩ := s
  exact J.landed nb fl.1 up os ag
theorem Caught.off (c : Caught X pins σ H a cls d s) : a ∉ frs (X.env :: X.outer) := fun hm => by
  obtain ⟨B, sI, J, nb, up, os, ag, fl⟩ := c.rest
  obtain ⟨o, vs, e, z, q⟩ := fl.there
  obtain ⟨_, o', e', w⟩ := fl.2.2.1.mem hm
  obtain rfl := Option.some.inj (e.symm.trans e')
  exact w _ q
theorem Caught.held (c : Caught X pins σ H a cls d s) : ∃ oe, s.heap.get? a = some oe ∧ Zc cls d oe ∧ (∃ vs, oe.data = .fields vs) ∧ Inv (X.suite a ((a, oe) :: (X.pn ++ pins))) [] σ H s := by
  obtain ⟨B, sI, J, nb, up, os, ag, fl⟩ := id c.rest
  obtain ⟨oe, vs, e, z, q⟩ := fl.there
  refine ⟨oe, e, z, ⟨vs, q⟩, c.inv.suite e q c.free (fun h => c.off ?_) fun h => c.off ?_⟩
  · exact List.mem_filterMap.mpr ⟨_, List.mem_cons_self, c.fr.trans (congrArg some h.symm)⟩
  · obtain ⟨y, hy, w⟩ := List.mem_filterMap.mp h
    exact List.mem_filterMap.mpr ⟨y, List.mem_cons_of_mem _ hy, w⟩
/-- the clause's class is looked at -/
theorem Caught.asks (c : Caught X pins σ H a cls d s) {x : Str} {p : Pos} {v : Value} (n : Names X x v) {Q E : Value → Shared → Prop} (q : Q v s) :
    wpAny (model X.prog X.w) (X.A.mark (some (.ref a))) (eval (.Name x p) X.env) Q E s := by
  obtain ⟨oe, _, _, _, S⟩ := c.held
  obtain ⟨g, db, m | ⟨m, v', nn⟩⟩ := n
  · exact ld_glob (X := X.suite a ((a, oe) :: (X.pn ++ pins))) S g m q db
  · exact ld_blt (X := X.suite a ((a, oe) :: (X.pn ++ pins))) S g m v' q nn db
theorem Caught.judged (c : Caught X pins σ H a cls d s) {v : Value} {b : Bool} (h : PySem.W.exmOne X.K cls v = some b) : PySem.W.Looks (model X.prog X.w) s.heap (excMatches (.ref a) v) b := by
  obtain ⟨oe, e, z, _, _⟩ := c.held
  exact PySem.W.exm_one c.inv.kIn (fun _ _ _ _ k q => wpAny_typeOf_ref (k _ _ e) (z.1.symm ▸ q)) h
/-- what behind the suite is left of an end -/
theorem Caught.done (c : Caught X pins σ H a cls d s) {oe : Obj} {i : Option Nat} {f : Flow} {s' : Shared} (hN : X.N.Nodup) {n : Str} (hn : ∀ j, i = some j → X.N[j]? = some n ∧ X.env.kindOf n = some .local)
    (h : SP (X.suite a ((a, oe) :: (X.pn ++ pins))) [] (Emp i D) f s') {p : Pos} :
    (i = none → SP X pins D f s') ∧ (i ≠ none → wpAny (model X.prog X.w) X.A (do bindName X.env n .none; unbindBehindTheSuite X.env n p) (fun _ s7 => SP X pins D f s7) X.xe s') := by
  cases i with
  | none =>
    refine ⟨fun _ => ?_, fun z => absurd rfl z⟩
    cases f <;> first
      | (obtain ⟨σ6, H6, S, q⟩ := h; exact ⟨σ6, H6, S.unsuite c.ok, q⟩)
      | (obtain ⟨v, σ6, H6, S, r, q⟩ := h; exact ⟨v, σ6, H6, S.unsuite c.ok, r, q⟩)
  | some j =>
    obtain ⟨hj, hk⟩ := hn j rfl
    refine ⟨fun z => (nomatch z), fun _ => ?_⟩
    cases f <;> first
      | (obtain ⟨σ6, H6, S, q⟩ := h; exact gone_ok (S.unsuite c.ok) hN hj hk fun s7 J => ⟨_, _, J, q⟩)
      | (obtain ⟨v, σ6, H6, S, r, q⟩ := h; exact gone_ok (S.unsuite c.ok) hN hj hk fun s7 J => ⟨_, _, _, J, r, q⟩)
/-- the clauses, one after the other -/
theorem Caught.handled {pos : Pos} (hN : X.N.Nodup) (tk : Takes X Wo) : ∀ {hs : List ExceptHandler} {l : List Cl1}, HdsN X hs l → ∀ {s : Shared}, Caught X pins σ H a cls d s → wN X.K Wo D l cls d σ H →
    wpAny (model X.prog X.w) X.A (handleBy (.ref a) X.env hs) (SP X pins D) X.xe s
  | _, _, .nil, s, c, w => by
    obtain ⟨B, sI, J, nb, up, os, ag, fl⟩ := id c.rest
    obtain ⟨_, _, _, oe, vs, T, oT, ts', he, hz, hd, h1, hr⟩ := id fl
    refine wpAny_handleBy_nil ?_
    have up2 : wpAny (model X.prog X.w) X.A (setFlight (.ref a) X.env.frame) (fun _ s4 => wpAny (model X.prog X.w) X.A (throw (.ref a) : Sem Flow) (SP X pins D) X.xe s4) X.xe s := by
      obtain ⟨hp, g, dr, t, o⟩ := s
      rw [c.fr]
      refine HandSPX.setFlight_upZ fl fun h4 hh4 u4 => wpAny_throw (tk _ _ ⟨a, B, sI, pins, σ, H, cls, d, rfl, J, nb, up.trans u4, .inr (.inr ?_), c.free, os, ag, w⟩)
      rw [c.st]
      exact hh4
    unfold PySem.passOn
    refine wpAny_bind (wpAny_field he hd h1 ?_)
    rw [if_neg (fun z => by simp at z)]
    first
      | exact wpAny_bind (wpAny_pure (wpAny_bind up2))
      | exact wpAny_bind up2
  | _, _, .pl hc hsu r, s, c, w => by
    obtain ⟨b, e, yes, no⟩ := w
    refine wpAny_handleBy_cons (codeAny_handlers_test (c.asks hc ((c.judged e).here ?_))) (fun q => nomatch q)
    cases b with
    | false => exact Caught.handled (pos := pos) hN tk r c (no rfl)
    | true =>
      refine codeAny_handlers_suite ?_
      obtain ⟨B, sI, J, nb, up, os, ag, fl⟩ := id c.rest
      obtain ⟨hp, g, dr, t, o⟩ := s
      refine HandSPX.lands_againZ fl fun h4 fl4 u4 => ?_
      have c4 : Caught X pins σ H a cls d ⟨h4, g, dr, t, o⟩ := ⟨c.ok, c.st, c.fr, c.free, B, sI, J, nb, up.trans u4, os, ag, fl4⟩
      obtain ⟨oe, _, z, q, S⟩ := c4.held
      exact wpAny_mono ((hsu a oe cls d _ z q).run [] _ _ H _ S (yes rfl a c.free)) (fun f s6 h => (c4.done (i := none) (n := "") (p := pos) hN (fun _ z => (nomatch z)) h).1 rfl) fun _ _ z => z.elim
  | _, _, .nm hi hl hc hsu r, s, c, w => by
    obtain ⟨b, e, yes, no⟩ := w
    refine wpAny_handleBy_cons (codeAny_handlers_test (c.asks hc ((c.judged e).here ?_))) (fun q => nomatch q)
    cases b with
    | false => exact Caught.handled (pos := pos) hN tk r c (no rfl)
    | true =>
      refine codeAny_handlers_suite_as ?_
      obtain ⟨B, sI, J, nb, up, os, ag, fl⟩ := id c.rest
      obtain ⟨hp, g, dr, t, o⟩ := s
      refine HandSPX.lands_againZ fl fun h4 fl4 u4 => ?_
      have c4 : Caught X pins σ H a cls d ⟨h4, g, dr, t, o⟩ := ⟨c.ok, c.st, c.fr, c.free, B, sI, J, nb, up.trans u4, os, ag, fl4⟩
      obtain ⟨oe, _, z, q, S⟩ := c4.held
      refine store_ok (X := X.suite a ((a, oe) :: (X.pn ++ pins))) (v := .ref a) S hN hi (.inl hl) rfl (fun s5 S5 => ?_) (.inr hl)
      exact wpAny_mono ((hsu a oe cls d _ z q).run [] s5 _ H _ S5 (yes rfl a c.free)) (fun f s6 h => (c4.done (i := some _) hN (fun j e => by cases e; exact ⟨hi, hl⟩) h).2 (fun z => (nomatch z))) fun _ _ z => z.elim
/-- try: body / several clauses -/
theorem ps_tryN {body : List Stmt} {h0 : ExceptHandler} {hs : List ExceptHandler} {l : List Cl1} {pos : Pos} {tb : WX → TS} (hst : X.stack = X.env :: X.outer) (hfr : X.env.frame = some X.env.locals) (hN : X.N.Nodup) (tk : Takes X Wo)
    (hb : ∀ (W : WX) (pn : List (Addr × Obj)) (xe : Value → Shared → Prop), Takes (X.tr pn xe) W → PassesOwn (model X.prog X.w) X.A X.env xe → PSs (X.tr pn xe) body (tb W)) (hh : HdsN X (h0 :: hs) l) :
    PS X (.Try body (h0 :: hs) [] [] pos) (fun D σ H => tb (wN X.K Wo D l) D σ H) := ⟨fun pins s σ H D I h => by
  have ok := I.ok
  let xe : Value → Shared → Prop := fun e s₁ => wpAny (model X.prog X.w) X.A (noteFrame e X.env) (fun _ s₂ => wpAny (model X.prog X.w) X.A (setFlight e none) (fun _ s₃ => wpAny (model X.prog X.w) X.A (handleBy e X.env (h0 :: hs)) (SP X pins D) X.xe s₃) X.xe s₂) X.xe s₁
  have tk2 : Takes (X.tr (X.pn ++ pins) xe) (wN X.K Wo D l) := fun u s' ⟨a, B, sI, pins', σ', H', cls, d, e, J', nb, up, sky, na, os, ag, w⟩ => by
    subst e
    have sky2 : Sky B (X.env :: X.outer) a (Zc cls d) X.env.locals s'.heap := by rw [← hst]; exact sky
    obtain ⟨hp, g, dr, t, o⟩ := s'
    refine Sky.land Zc.steady (ok.frames.trans (congrArg some hst)) hfr sky2 fun h3 fl u3 => ?_
    exact Caught.handled (pos := pos) hN tk hh ⟨ok, hst, hfr, na, B, sI, J'.ofTry ok, nb, up.trans u3, os, ag, fl⟩ w
  refine wpAny_Try_except (wpAny_mono ((hb _ _ xe tk2 PassesOwn.looking).run [] s σ H D (I.toTry _) h) (fun f s1 q => ?_) fun _ _ z => z)
  cases f <;> first
    | (obtain ⟨σ', H', J, q⟩ := q; exact wpAny_execs_nil ⟨σ', H', J.ofTry ok, q⟩)
    | (obtain ⟨σ', H', J, q⟩ := q; exact ⟨σ', H', J.ofTry ok, q⟩)
    | (obtain ⟨v, σ', H', J, r, q⟩ := q; exact ⟨v, σ', H', J.ofTry ok, r, q⟩)⟩
end
end Ew

set_option Elab.async false
set_option linter.all false
set_option maxRecDepth 100000
set_option maxHeartbeats 4000000
namespace Ew
open PySem PySem.Spec PyProof.Rows L2
/-- what the text's class D of an error says -/
structure ErrC (K : PySem.W.Frag) (D : Addr) : Prop where
  cl : (PySem.W.clsIn K D).isSome = true
  ga : PySem.W.findIn K (.ref D) "__getattribute__" = some (some (.builtin "BaseException.__getattribute__"))
  gt : PySem.W.findIn K (.ref D) "__getattr__" = some none
  sb : PySem.W.subIn K (.ref D) (.type "BaseException") = some true
  ca : PySem.W.findIn K (.ref D) "__class__" = some (some (.builtin "object.__class__"))
  gg : PySem.W.specialIn K (.builtin "object.__class__") "__get__" = some (some (.builtin "getset_descriptor.__get__"))
  tk : PySem.W.takesIn K (.builtin "object.__class__") = some true
  mo : PySem.W.mroIn K D (.type "object") = some true
section
variable {X : Cx} {a D : Addr} {oe : Obj} {pn : List (Addr × Obj)} {d : Option Addr}
theorem err_kit (C : ErrC X.K D) (hz : Zc (.ref D) d oe) (hf : ∃ vs, oe.data = .fields vs) {pins : List (Addr × Obj)} {σ : L2.St} {H : Hp} {s : Shared} (I : Inv (X.suite a ((a, oe) :: pn)) pins σ H s) (hd : ∀ dd, d = some dd → ∃ o, H dd = some o) :
    ∃ P : Heap → Prop, PySem.W.KitX X.K (.ref a) (.ref D) P ∧ P s.heap := by
  obtain ⟨at_, _⟩ := I.pin (a, oe) (List.mem_append.mpr (.inl List.mem_cons_self))
  obtain ⟨vs, hv⟩ := hf
  obtain ⟨oc, od, oda, osl⟩ := oe
  obtain ⟨h1, h2⟩ := hz
  dsimp only at h1 h2 hv
  subst h1 h2 hv
  cases od with
  | none => exact ⟨_, PySem.W.kitx_exc (od := none) C.cl C.ga C.gt C.sb C.ca C.gg C.tk C.mo, at_, rfl, rfl, trivial⟩
  | some dd =>
    obtain ⟨o, ho⟩ := hd dd rfl
    obtain ⟨u, hu⟩ := objOk_get (I.hok dd o ho)
    exact ⟨_, PySem.W.kitx_exc (od := some u) C.cl C.ga C.gt C.sb C.ca C.gg C.tk C.mo, at_, rfl, rfl, hu⟩
/-- isinstance(e, c) | isinstance(e, (c1, c2, ..)), e the error that the suite holds -/
def rIsErr (K : PySem.W.Frag) (D a : Addr) (d : Option Addr) : List V → Hp → VK → Prop := fun xs H Q => (∀ dd, d = some dd → ∃ o, H dd = some o) ∧
  ((∃ c u b, xs = [.ref a, c] ∧ ClsV c u ∧ PySem.W.kitOne K (.ref D) u = some b ∧ Q (.bl b) H) ∨ (∃ tp cs us b, xs = [.ref a, .ref tp] ∧ H tp = some (.tup cs) ∧ Paired ClsV cs us ∧ PySem.W.kitAny K (.ref D) us = some b ∧ Q (.bl b) H))
theorem call_isErr (C : ErrC X.K D) (hz : Zc (.ref D) d oe) (hf : ∃ vs, oe.data = .fields vs) : CallR (X.suite a ((a, oe) :: pn)) (.builtin "isinstance") (rIsErr X.K D a d) := by
  intro pins s σ H xs us Q I r h
  obtain ⟨hd, h⟩ := h
  obtain ⟨P, Z, p⟩ := err_kit C hz hf I hd
  rcases h with ⟨c, u, b, rfl, k, e, q⟩ | ⟨tp, cs, ws, b, rfl, ht, k, e, q⟩
  · obtain ⟨u1, u2, rfl, r1, r2⟩ := vals2 r
    cases r1
    obtain rfl := k.eq r2
    exact PySem.W.kia_one Z I.kIn p e (fun z => nomatch z) fun t => ⟨.bl b, H, I.tok t, rfl, q⟩
  · obtain ⟨u1, u2, rfl, r1, r2⟩ := vals2 r
    cases r1
    cases r2
    obtain ⟨_, its, rv, ⟨oc, od, dt, sl⟩, g1, g2, n, g3⟩ := (show ObjOk X.prog X.w H s.heap tp (.tup cs) from I.hok tp _ ht)
    dsimp only at g2 g3
    subst g2 g3
    obtain rfl := ClsV.all k rv
    exact PySem.W.kia_tup Z I.kIn p g1 e (fun z => nomatch z) fun t => ⟨.bl b, H, I.tok t, rfl, q⟩
/-- the same, the class told by the reading -/
theorem call_isErrC {cls : Value} (C : ErrC X.K D) (hz : Zc cls d oe) (hf : ∃ vs, oe.data = .fields vs) : CallR (X.suite a ((a, oe) :: pn)) (.builtin "isinstance") (fun xs H Q => cls = .ref D ∧ rIsErr X.K D a d xs H Q) := by
  intro pins s σ H xs us Q I r h
  obtain ⟨e, h⟩ := h
  subst e
  exact call_isErr C hz hf pins s σ H xs us Q I r h
end

/-! ### own operators -/
/-- a method of the class by a name of its own -/
structure OpM (K : PySem.W.Frag) (C : Addr) (name : Str) (f : Addr) : Prop where
  at_ : PySem.W.findIn K (.ref C) name = some (some (.ref f))
  fn : PySem.W.isFn K (.ref f) = true
section
variable {X : Cx} {CX : CXT} {k : Nat} {f C : Addr} {fd : FuncData} {ps : List Str} {sp : Sp} {E : L2.St → XK} {a b : Expr} {ta tb : TE} {pos : Pos}
theorem back_of {pins : List (Addr × Obj)} {σ : L2.St} {Q : VK} {u : Value} {s : Shared} (h : EP X pins σ Q u s) : PySem.W.CmpBack (EP X pins σ Q) u s := by
  obtain ⟨v, H, I, r, q⟩ := id h
  cases v <;> first
    | (cases r; exact h)
    | (obtain ⟨t, rfl⟩ := r; exact h)
theorem ins_at {pins : List (Addr × Obj)} {σ : L2.St} {H : Hp} {s : Shared} {x dx : Addr} {fs : List (Str × V)} (I : Inv X pins σ H s) (e : H x = some (.ins C dx fs)) : ∃ od, PySem.W.InstAt s.heap x (PySem.W.instObj C dx) C (some od) := by
  obtain ⟨mA, J, _⟩ := ins_get I.hok e
  obtain ⟨od, J, _⟩ := J.look
  exact ⟨od, J⟩
def tBinO (C : Addr) (sp : Sp) (E : L2.St → XK) (ta tb : TE) : TE := fun σ H Q => ta σ H fun x H1 => tb σ H1 fun y H2 => ∃ p q dx dy fs gs, x = .ref p ∧ y = .ref q ∧ H2 p = some (.ins C dx fs) ∧ H2 q = some (.ins C dy gs) ∧ sp [x, y] H2 Q (E σ)
/-- a + b and its like, both of one own class -/
theorem pe_binO {op : Operator} (F : FnOk X.prog X.w X.K X.mg X.base CX k f fd ps sp) (hr : Room k X.A) (M : OpM X.K C (PySem.dunder op.info.2) f) (sf : PySem.W.selfFirst X.K C = true) (hb : Binds X.K fd ps []) (hx : ∀ σ, PassesAt CX X σ (E σ))
    (h1 : PE X a ta) (h2 : PE X b tb) : PE X (.BinOp a op b pos) (tBinO C sp E ta tb) := by
  refine ⟨fun pins s σ H Q I h => wpAny_BinOp (bin h1 h2 I h fun v u s2 x y H2 I2 rx ry q => ?_)⟩
  obtain ⟨p, q', dx, dy, fs, gs, rfl, rfl, e1, e2, q⟩ := q
  cases rx
  cases ry
  obtain ⟨o1, J1⟩ := ins_at I2 e1
  obtain ⟨o2, J2⟩ := ins_at I2 e2
  obtain ⟨m, fr⟩ := I2.fr
  exact PySem.W.binop_K fr I2.ok.mod.kin J1 J2.type sf M.at_ M.fn (thn (run_fnS (vs := [.ref p, .ref q']) F hr hb (hx σ) I2 (.cons rfl (.cons rfl .nil)) q) fun _ _ z => back_of z)
def tNegO (C : Addr) (sp : Sp) (E : L2.St → XK) (ta : TE) : TE := fun σ H Q => ta σ H fun x H1 => ∃ p dx fs, x = .ref p ∧ H1 p = some (.ins C dx fs) ∧ sp [x] H1 Q (E σ)
/-- -a of an own class -/
theorem pe_negO (F : FnOk X.prog X.w X.K X.mg X.base CX k f fd ps sp) (hr : Room k X.A) (M : OpM X.K C "__neg__" f) (hb : Binds X.K fd ps []) (hx : ∀ σ, PassesAt CX X σ (E σ))
    (h1 : PE X a ta) : PE X (.UnaryOp .USub a pos) (tNegO C sp E ta) := by
  refine ⟨fun pins s σ H Q I h => UnaryOp_ (thn (h1.run pins s σ H _ I h) fun v s1 ⟨x, H1, I1, r1, q1⟩ => ?_)⟩
  obtain ⟨p, dx, fs, rfl, e1, q⟩ := q1
  cases r1
  obtain ⟨o1, J1⟩ := ins_at I1 e1
  obtain ⟨m, fr⟩ := I1.fr
  exact PySem.W.ksp_neg fr I1.ok.mod.kin J1 M.at_ M.fn (run_fnS (vs := [.ref p]) F hr hb (hx σ) I1 (.cons rfl .nil) q)
/-- what stands to the right of an own ==: another of the class, or a tuple -/
def RhsEq (K : PySem.W.Frag) (C : Addr) (H : Hp) (y : V) : Prop := ∃ q, y = .ref q ∧ ((∃ dy gs, H q = some (.ins C dy gs)) ∨ ∃ ys, SqT K H q ys)
def tEqO (K : PySem.W.Frag) (C : Addr) (sp : Sp) (E : L2.St → XK) (ta tb : TE) : TE := fun σ H Q => ta σ H fun x H1 => tb σ H1 fun y H2 => ∃ p dx fs, x = .ref p ∧ H2 p = some (.ins C dx fs) ∧ RhsEq K C H2 y ∧ sp [x, y] H2 Q (E σ)
theorem pc_eqO (F : FnOk X.prog X.w X.K X.mg X.base CX k f fd ps sp) (hr : Room k X.A) (M : OpM X.K C "__eq__" f) (ht : PySem.W.notFirst X.K C (.type "tuple") = true) (hb : Binds X.K fd ps []) (hx : ∀ σ, PassesAt CX X σ (E σ))
    (h1 : PE X a ta) (h2 : PE X b tb) : PC X .Eq a b (tEqO X.K C sp E ta tb) := by
  refine ⟨fun pins s σ H Q I h => bin h1 h2 I h fun v u s2 x y H2 I2 rx ry q => ?_⟩
  obtain ⟨p, dx, fs, rfl, e1, ⟨q', rfl, r⟩, q⟩ := q
  cases rx
  cases ry
  obtain ⟨o1, J1⟩ := ins_at I2 e1
  obtain ⟨m, fr⟩ := I2.fr
  have run := thn (run_fnS (vs := [.ref p, .ref q']) F hr hb (hx σ) I2 (.cons rfl (.cons rfl .nil)) q) fun _ _ z => back_of z
  show wpAny _ _ (richCompare .Eq (.ref p) (.ref q')) _ _ _
  rcases r with ⟨dy, gs, e2⟩ | ⟨ys, e2⟩
  · obtain ⟨o2, J2⟩ := ins_at I2 e2
    exact PySem.W.cmp_K (op := .Eq) hr.units0 fr I2.ok.mod.kin J1 J2.type (by simp [PySem.W.notFirst]) M.at_ M.fn run
  · obtain ⟨its, rv, ⟨o, ho, hc, _⟩, _⟩ := I2.tuple e2
    exact PySem.W.cmp_K (op := .Eq) hr.units0 fr I2.ok.mod.kin J1 (fun A' Q' E' s' kp z => wpAny_typeOf_ref (kp _ _ ho) (by rw [hc]; exact z)) ht M.at_ M.fn run
end
end Ew

set_option Elab.async false
set_option linter.all false
set_option maxRecDepth 100000
set_option maxHeartbeats 4000000
namespace Ew
open PySem PySem.Spec PyProof.Rows L2
/-! ### a def of the top as it stands behind the top, and its promise -/
section
variable {P : Program} {w : World} {K : PySem.W.Frag} {mg : Str → Option Value} {base : Heap}
structure DefAt (K : PySem.W.Frag) (mg : Str → Option Value) (x : Str) (st : Stmt) (ps : List Str) : Prop where
  ex : ∃ f fd, Fun K x x st f fd ∧ mg x = some (.ref f) ∧ Binds K fd ps []
structure Cl (P : Program) (w : World) (K : PySem.W.Frag) (mg : Str → Option Value) (base : Heap) (k : Nat) (x : Str) (ps : List Str) (sp : Sp) (dvs : List V) : Prop where
  ex : ∃ f fd ds, FnOk P w K mg base (L2.CX P w) k f fd ps sp ∧ mg x = some (.ref f) ∧ PySem.W.keepIn K (.ref f) = true ∧ Binds K fd ps ds ∧ Vals dvs ds
/-- where a body runs -/
abbrev cxB (P : Program) (w : World) (K : PySem.W.Frag) (mg : Str → Option Value) (base : Heap) (N : List Str) (qual : Str) (st : Stmt) (f : Addr) (cdv : Value) (A : Around) (outer : List Env) (s : Shared) (H : Hp) (E : XK) : Cx := cxOf (L2.CX P w) P w K mg base N qual (defScope st) f cdv A outer s H E
def BodyOk (P : Program) (w : World) (K : PySem.W.Frag) (mg : Str → Option Value) (base : Heap) (N : List Str) (qual : Str) (st : Stmt) (k : Nat) (sp : Sp) : Prop :=
  ∀ (f : Addr) (cdv : Value) (A : Around) (outer : List Env) (s : Shared) (H : Hp) (vs : List V) (Q : VK) (E : XK), Room k (cxB P w K mg base N qual st f cdv A outer s H E).A → sp vs H Q E →
    ∃ t, PSs (cxB P w K mg base N qual st f cdv A outer s H E) (defBody st) t ∧ t { nx := fun _ H' => Q .non H', rt := Q } (start N vs) H
theorem DefAt.cl {x : Str} {st : Stmt} {ps N : List Str} {k : Nat} {sp : Sp} (D : DefAt K mg x st ps) (S : FnScope N ps (defScope st)) (len : ∀ vs H Q E, sp vs H Q E → vs.length = ps.length) (h : BodyOk P w K mg base N x st k sp) : Cl P w K mg base (k + 1) x ps sp [] := by
  obtain ⟨f, fd, F, g, b⟩ := D.ex
  exact ⟨f, fd, [], F.okX S len fun cdv A outer s H vs Q E hr hs => h f cdv A outer s H vs Q E hr hs, g, F.kp, b, .nil⟩
/-- a def with defaults -/
structure DefAtD (K : PySem.W.Frag) (mg : Str → Option Value) (x : Str) (st : Stmt) (ps : List Str) (dvs : List V) : Prop where
  ex : ∃ f fd, FunD K x x (defArgs st) (defBody st) (defScope st) dvs [] f fd ∧ mg x = some (.ref f) ∧ ∀ j, j ≤ dvs.length → ∃ ds, Vals (dvs.drop j) ds ∧ Binds K fd ps ds
theorem DefAtD.cl {x : Str} {st : Stmt} {ps N : List Str} {k : Nat} {sp : Sp} {dvs : List V} (D : DefAtD K mg x st ps dvs) (j : Nat) (hj : j ≤ dvs.length) (S : FnScope N ps (defScope st)) (len : ∀ vs H Q E, sp vs H Q E → vs.length = ps.length)
    (h : BodyOk P w K mg base N x st k sp) : Cl P w K mg base (k + 1) x ps sp (dvs.drop j) := by
  obtain ⟨f, fd, F, g, b⟩ := D.ex
  obtain ⟨ds, hd, hb⟩ := b j hj
  exact ⟨f, fd, ds, F.ok S len fun cdv A outer s H vs Q E hr hs => h f cdv A outer s H vs Q E hr hs, g, F.kp, hb, hd⟩
theorem fun_ok {x qual : Str} {st : Stmt} {f : Addr} {fd : FuncData} {ps N : List Str} {k : Nat} {sp : Sp} (F : Fun K x qual st f fd) (S : FnScope N ps (defScope st)) (len : ∀ vs H Q E, sp vs H Q E → vs.length = ps.length) (h : BodyOk P w K mg base N qual st k sp) :
    FnOk P w K mg base (L2.CX P w) (k + 1) f fd ps sp := F.okX S len fun cdv A outer s H vs Q E hr hs => h f cdv A outer s H vs Q E hr hs
end
/-! ### calls -/
section
variable {X : Cx} {k j : Nat} {x m : Str} {ps : List Str} {sp : Sp} {dvs : List V} {e o : Expr} {es : List Expr} {t : TA} {ta : TE} {p pos apos : Pos} {W : WX} {C : Addr}
theorem run_dv {f : Addr} {fd : FuncData} {ds : List Value} {pins : List (Addr × Obj)} {σ : L2.St} {H : Hp} {s : Shared} {Q : VK} {us : List Value} {vs : List V} (F : FnOk X.prog X.w X.K X.mg X.base (L2.CX X.prog X.w) k f fd ps sp) (hr : Room k X.A) (hb : Binds X.K fd ps ds) (hd : Vals dvs ds)
    (tk : Takes X W) (I : Inv X pins σ H s) (r : Vals vs us) (h : sp (vs ++ dvs) H Q (WE W σ)) : wpAny (model X.prog X.w) X.A (call (.ref f) us) (EP X pins σ Q) X.xe s := by
  have r2 := r.append hd
  have hl : (us ++ ds).length = ps.length := by rw [← r2.length]; exact F.len _ _ _ _ h
  refine wpAny_call (codeAny_mono (F.run X.A X.stack s H ⟨us, []⟩ (us ++ ds) (vs ++ dvs) Q (WE W σ) hr I.env0 (hb s us I.kIn hl) r2 h) fun y s' hq => ?_)
  match y, hq with
  | .error e, hq => exact passAt tk σ pins H s e s' I hq
  | .ok (.ret u), hq => exact I.after hq
def tF (sp : Sp) (dvs : List V) (W : WX) (t : TA) : TE := fun σ H Q => t σ H fun vs H1 => sp (vs ++ dvs) H1 Q (WE W σ)
theorem pe_f (c : Cl X.prog X.w X.K X.mg X.base k x ps sp dvs) (tk : Takes X W) (hr : Room j X.A) (hk : k ≤ j) (hg : Gl X x) (ha : PA X (e :: es) t) (hdb : (x == ("__debug__" : Str)) = false := by decide)
    (he : starEach (e :: es) X.env = (false, eval e X.env) :: starEach es X.env := by rfl) (hpl : (backTo pos (starEach es X.env)).any (·.1) = false := by rfl) : PE X (.Call (.Name x p) (e :: es) [] pos) (tF sp dvs W t) := by
  obtain ⟨f, fd, ds, F, hm, hkp, hb, hd⟩ := c.ex
  exact ⟨fun pins s σ H Q I h => wpAny_Call_Name_kw (ld_glob I hg hm (PySem.W.callWith_K (h₀ := X.base) I.ok.mod.kin hkp (thn (ha.run pos pins s σ H _ I h) fun us s1 ⟨vs, H1, I1, r, q⟩ => ⟨I1.kIn, run_dv F (hr.mono hk) hb hd tk I1 r q⟩) he hpl) hdb)⟩
/-- a method of the class at C -/
structure Mt (P : Program) (w : World) (K : PySem.W.Frag) (mg : Str → Option Value) (base : Heap) (k : Nat) (C : Addr) (m : Str) (ps : List Str) (sp : Sp) (dvs : List V) : Prop where
  cl : Cls K C
  ex : ∃ f fd ds, Meth K C m f ∧ FnOk P w K mg base (L2.CX P w) k f fd ps sp ∧ Binds K fd ps ds ∧ Vals dvs ds
def tM (C : Addr) (m : Str) (sp : Sp) (dvs : List V) (W : WX) (ta : TE) (t : TA) : TE := fun σ H Q => ta σ H fun x H1 => ∃ a dx fs, x = .ref a ∧ H1 a = some (.ins C dx fs) ∧ fs.lookup m = none ∧ t σ H1 fun vs H2 => sp (x :: (vs ++ dvs)) H2 Q (WE W σ)
theorem pe_mf {pl : Sem Bool} (c : Mt X.prog X.w X.K X.mg X.base k C m ps sp dvs) (tk : Takes X W) (hr : Room j X.A) (hk : k ≤ j) (he : PE X o ta) (ha : PA X (e :: es) t)
    (hst : starEach (e :: es) X.env = (false, eval e X.env) :: starEach es X.env := by rfl) (hpl : (backTo pos (starEach es X.env)).any (·.1) = false := by rfl)
    (ht : eval (.Call (.Attribute o m apos) (e :: es) [] pos) X.env = (do
      let v ← eval o X.env
      standAt apos.atName
      let (g, first) ← holding [v] (getMethod v m pl)
      callWith pos g first (backTo pos (starEach (e :: es) X.env)) (backToKw pos (keywordEach [] X.env))) := by rfl) :
    PE X (.Call (.Attribute o m apos) (e :: es) [] pos) (tM C m sp dvs W ta t) := by
  obtain ⟨f, fd, ds, hm, F, hb, hd⟩ := c.ex
  refine ⟨fun pins s σ H Q I h => PySem.W.methodCall_KW (pl := pl) (thn (he.run pins s σ H _ I h) fun u s1 ⟨x, H1, I1, rx, a, dx, fs, ex, ea, l, q⟩ => ?_) ht⟩
  subst ex
  obtain rfl : u = Value.ref a := rx
  refine getmeth_ok I1 ea c.cl hm l ?_
  refine PySem.W.callWith_K (h₀ := X.base) I1.ok.mod.kin hm.kp (thn (ha.run pos pins s1 σ H1 _ I1 q) fun us s2 ⟨vs, H2, I2, r, q2⟩ => ⟨I2.kIn, ?_⟩) hst hpl
  exact run_dv (vs := .ref a :: vs) F (hr.mono hk) hb hd tk I2 (.cons rfl r) q2
/-- a new instance of the class x at C -/
structure Mkr (P : Program) (w : World) (K : PySem.W.Frag) (mg : Str → Option Value) (base : Heap) (k : Nat) (x : Str) (C : Addr) (ps : List Str) (sp : Sp) : Prop where
  gC : mg x = some (.ref C)
  ex : ∃ f fd, Mk K C f ∧ FnOk P w K mg base (L2.CX P w) k f fd ps sp ∧ Binds K fd ps []
theorem pe_mkf (c : Mkr X.prog X.w X.K X.mg X.base k x C ps sp) (hr : Room j X.A) (hk : k + 1 ≤ j) (hg : Gl X x) (ha : PA X (e :: es) t) (hdb : (x == ("__debug__" : Str)) = false := by decide)
    (he : starEach (e :: es) X.env = (false, eval e X.env) :: starEach es X.env := by rfl) (hpl : (backTo pos (starEach es X.env)).any (·.1) = false := by rfl) : PE X (.Call (.Name x p) (e :: es) [] pos) (tMake C sp [] E0 t) := by
  obtain ⟨f, fd, M, F, hb⟩ := c.ex
  exact pe_make M F (hr.mono hk) hg c.gC hb .nil passL ha hdb he hpl
/-- an own error made by C(e, ..) -/
structure Mke (P : Program) (w : World) (K : PySem.W.Frag) (mg : Str → Option Value) (base : Heap) (k : Nat) (x : Str) (C : Addr) (ps : List Str) (sp : Sp) : Prop where
  gC : mg x = some (.ref C)
  ox : OexC K C
  ex : ∃ f fd, PySem.W.findIn K (.ref C) "__init__" = some (some (.ref f)) ∧ PySem.W.typeIn K (.ref f) = some (.type "function") ∧ FnOk P w K mg base (L2.CX P w) k f fd ps sp ∧ Binds K fd ps []
theorem pmk_err (c : Mke X.prog X.w X.K X.mg X.base k x C ps sp) (hr : Room j X.A) (hk : k + 1 ≤ j) (hg : Gl X x) (ha : PA X (e :: es) t) (hdb : (x == ("__debug__" : Str)) = false := by decide)
    (he : starEach (e :: es) X.env = (false, eval e X.env) :: starEach es X.env := by rfl) (hpl : (backTo pos (starEach es X.env)).any (·.1) = false := by rfl) : PMk X (.Call (.Name x p) (e :: es) [] pos) (tMkO C sp [] t) := by
  obtain ⟨f, fd, hi, ht, F, hb⟩ := c.ex
  exact pmk_oex c.ox hi ht F (hr.mono hk) hb .nil passL hg c.gC ha hdb he hpl
end
/-! ### what is frozen: F, a part of the heap that stays; m: what may be changed -/
structure Stm (m : Addr → Prop) (F H F' H' : Hp) : Prop where
  ff : Same F F'
  fh : Same F' H'
  hh : ∀ a o, ¬ m a → H a = some o → H' a = some o
  nw : ∀ a, F a = none → H a ≠ none → F' a = none
abbrev Stp := Stm (fun _ => False)
section
variable {m m' : Addr → Prop} {F H F' H' F2 H2 : Hp} {p : Addr} {o : HO}
theorem Stm.refl (h : Same F H) : Stm m F H F H := ⟨Same.refl F, h, fun _ _ _ e => e, fun _ n _ => n⟩
theorem Stm.mono (a : Stm m F H F' H') (h : ∀ x, m x → m' x) : Stm m' F H F' H' := ⟨a.ff, a.fh, fun x o n e => a.hh x o (fun z => n (h x z)) e, a.nw⟩
theorem Stm.any (a : Stp F H F' H') : Stm m F H F' H' := a.mono fun _ z => z.elim
theorem Stm.same (a : Stp F H F' H') : Same H H' := fun x o e => a.hh x o (fun z => z) e
theorem Stm.there (a : Stm m F H F' H') (hm : ∀ x, m x → H x ≠ none → H' x ≠ none) {x : Addr} (h : H x ≠ none) : H' x ≠ none := by
  by_cases q : m x
  · exact hm x q h
  · cases e : H x with
    | none => exact absurd e h
    | some o => rw [a.hh x o q e]; exact fun z => nomatch z
theorem Stm.trans (a : Stm m F H F' H') (b : Stm m F' H' F2 H2) (hm : ∀ x, m x → H x ≠ none → H' x ≠ none) : Stm m F H F2 H2 :=
  ⟨a.ff.trans b.ff, b.fh, fun x o n e => b.hh x o n (a.hh x o n e), fun q n z => b.nw q (a.nw q n z) (a.there hm z)⟩
theorem Stm.transP (a : Stp F H F' H') (b : Stp F' H' F2 H2) : Stp F H F2 H2 := a.trans b fun _ z => z.elim
theorem same_new (h : H p = none) : Same H (upd H p o) := fun b u e => by rw [upd_ne (ne_of_none e h)]; exact e
/-- a new thing is laid, and frozen at once -/
theorem Stm.new (a : Stm m F H F' H') (hp : H' p = none) (h0 : H p = none) : Stm m F H (upd F' p o) (upd H' p o) where
  ff := a.ff.trans (same_new (a.fh.free hp))
  fh := fun b u e => by
    by_cases hb : b = p
    · subst hb; rw [upd_same] at e ⊢; exact e
    · rw [upd_ne hb] at e ⊢; exact a.fh b u e
  hh := fun x u n e => by rw [upd_ne (ne_of_none e h0)]; exact a.hh x u n e
  nw := fun x n z => by rw [upd_ne (fun q => z (by rw [q]; exact h0))]; exact a.nw x n z
/-- a new thing is laid that is to be changed further -/
theorem Stm.raw (a : Stm m F H F' H') (hp : H' p = none) (h0 : H p = none) : Stm m F H F' (upd H' p o) := ⟨a.ff, a.fh.trans (same_new hp), fun x u n e => by rw [upd_ne (ne_of_none e h0)]; exact a.hh x u n e, a.nw⟩
/-- a thing of the def's own is changed -/
theorem Stm.mut (a : Stm m F H F' H') (hf : F' p = none) (h0 : H p = none) : Stm m F H F' (upd H' p o) := ⟨a.ff, fun b u e => by rw [upd_ne (ne_of_none e hf)]; exact a.fh b u e, fun x u n e => by rw [upd_ne (ne_of_none e h0)]; exact a.hh x u n e, a.nw⟩
/-- a thing of the def's own stays from now on -/
theorem Stm.freeze (a : Stm m F H F' H') (hf : F' p = none) (h0 : H p = none) (e : H' p = some o) : Stm m F H (upd F' p o) H' where
  ff := a.ff.trans (same_new hf)
  fh := fun b u q => by
    by_cases hb : b = p
    · subst hb; rw [upd_same] at q; rw [e]; exact q
    · rw [upd_ne hb] at q; exact a.fh b u q
  hh := a.hh
  nw := fun x n z => by rw [upd_ne (fun q => z (by rw [q]; exact h0))]; exact a.nw x n z
/-- fresh now is fresh at the start, where what may change is there -/
theorem Stm.fresh (a : Stm m F H F' H') (hm : ∀ x, m x → H' x ≠ none) {x : Addr} (h : H' x = none) : H x = none := by
  by_cases q : m x
  · exact absurd h (hm x q)
  · cases e : H x with
    | none => rfl
    | some o => rw [a.hh x o q e] at h; cases h
theorem Stm.freshP (a : Stp F H F' H') {x : Addr} (h : H' x = none) : H x = none := a.fresh (fun _ z => z.elim) h
theorem Stm.newP (a : Stp F H F' H') (hp : H' p = none) : Stp F H (upd F' p o) (upd H' p o) := a.new hp (a.freshP hp)
theorem stp_new (h : Same F H) (hp : H p = none) : Stp F H (upd F p o) (upd H p o) := (Stm.refl h).newP hp
end
theorem upT {K : PySem.W.Frag} {H H' : Hp} {a : Addr} {xs : List V} (e : Same H H') (h : SqT K H a xs) : SqT K H' a xs := h.ext e
theorem upL {K : PySem.W.Frag} {H H' : Hp} {a : Addr} {xs : List V} (e : Same H H') (h : SqL K H a xs) : SqL K H' a xs := h.ext e
theorem sq_new {K : PySem.W.Frag} {H : Hp} {p : Addr} {xs : List V} : SqT K (upd H p (.tup xs)) p xs := SqT.of upd_same
/-- what a def promises that changes nothing: a part of the heap stays, the answer stands in it -/
def Pu (F H : Hp) (Q : VK) (post : Hp → V → Prop) : Prop := Same F H ∧ ∀ F' H' v, Stp F H F' H' → post F' v → Q v H'
theorem iteY {c A B : Prop} [Decidable c] (h : c) (x : A) : if c then A else B := by rw [if_pos h]; exact x
theorem iteN {c A B : Prop} [Decidable c] (h : ¬ c) (x : B) : if c then A else B := by rw [if_neg h]; exact x
theorem vint_ne {a b : Int} (h : a ≠ b) : ¬ decide (V.int a = V.int b) = true := fun z => h (V.int.inj (of_decide_eq_true z))
theorem vint_eq {a b : Int} (h : a = b) : decide (V.int a = V.int b) = true := decide_eq_true (congrArg V.int h)
/-! ### // by any divisor but 0 -/
def CDivX (_ j : Int) : Prop := j ≠ 0 ∧ j.natAbs.log2 < 9000
theorem op_fdivX {X : Cx} : OpR X (binaryOp .FloorDiv) (rI CDivX fun i j => .int (i.fdiv j)) := opI fun _ _ _ _ _ _ _ hc q => floordiv_int hc.1 q (.inl (PyProof.noPylong_of_log2 hc.2))
end Ew

set_option Elab.async false
set_option linter.all false
set_option maxRecDepth 100000
set_option maxHeartbeats 4000000
namespace Ew
open PySem PySem.Spec PyProof.Rows L2
/-- an error's __init__ that keeps its one argument (its two) -/
def spI1 (C : Addr) (f : Str) : Sp := fun vs H Q _ => ∃ x v, vs = [.ref x, v] ∧ H x = some (exo x C none) ∧ ∀ dx, H dx = none → dx ≠ x → Q .non (upd (upd H dx (exd dx [(f, v)])) x (exo x C (some dx)))
def spI2 (C : Addr) (f g : Str) : Sp := fun vs H Q _ => ∃ x u v, vs = [.ref x, u, v] ∧ H x = some (exo x C none) ∧
  ∀ dx, H dx = none → dx ≠ x → Q .non (upd (upd (upd H dx (exd dx [(f, u)])) x (exo x C (some dx))) dx (exd dx [(g, v), (f, u)]))
theorem back1 {H : Hp} {a d : Addr} {o1 o2 o3 o4 : HO} (ha : H a = none) (h : d ≠ a) : upd (del (upd (upd (upd H a o1) d o2) a o3) a) d o4 = upd H d o4 := by
  funext b
  by_cases e : b = d
  · subst e; rw [upd_same, upd_same]
  · rw [upd_ne e, upd_ne e]
    by_cases e2 : b = a
    · subst e2; rw [del_same, ha]
    · rw [del_ne e2, upd_ne e2, upd_ne e, upd_ne e2]
theorem back2 {H : Hp} {a d : Addr} {o1 o2 o3 o4 o5 : HO} (ha : H a = none) (h : d ≠ a) : upd (del (upd (upd (upd (upd H a o1) d o2) a o3) d o5) a) d o4 = upd H d o4 := by
  funext b
  by_cases e : b = d
  · subst e; rw [upd_same, upd_same]
  · rw [upd_ne e, upd_ne e]
    by_cases e2 : b = a
    · subst e2; rw [del_same, ha]
    · rw [del_ne e2, upd_ne e, upd_ne e2, upd_ne e, upd_ne e2]
section
variable {X : Cx} {k j : Nat} {x f g : Str} {ps : List Str} {e e2 : Expr} {te te2 : TE} {p pos pos2 : Pos} {W : WX} {C : Addr}
def tR1 (C : Addr) (f : Str) (W : WX) (te : TE) : TS := fun _ σ H => te σ H fun v H1 => ∀ d, H1 d = none → W (.ref C) (some d) σ (upd H1 d (.xd [(f, v)]))
def tR2 (C : Addr) (f g : Str) (W : WX) (te te2 : TE) : TS := fun _ σ H => te σ H fun u H1 => te2 σ H1 fun v H2 => ∀ d, H2 d = none → W (.ref C) (some d) σ (upd H2 d (.xd [(g, v), (f, u)]))
theorem ps_weak {st : Stmt} {t t' : TS} (h : PS X st t) (q : ∀ D σ H, t' D σ H → t D σ H) : PS X st t' := ⟨fun pins s σ H D I z => h.run pins s σ H D I (q D σ H z)⟩
end
/-- te says what it says of more, too -/
def TeMono (te : TE) : Prop := ∀ σ H (Q Q' : VK), (∀ v H', Q v H' → Q' v H') → te σ H Q → te σ H Q'
theorem pe_up {X : Cx} {e : Expr} {te : TE} (h : PE X e te) : PE X e fun σ H Q => ∃ Q', (∀ v H', Q' v H' → Q v H') ∧ te σ H Q' := ⟨fun pins s σ H Q I ⟨Q', q, z⟩ => thn (h.run pins s σ H Q' I z) fun _ _ ⟨v, H', I', r, y⟩ => ⟨v, H', I', r, q v H' y⟩⟩
section
variable {X : Cx} {k j : Nat} {x f g : Str} {ps : List Str} {e e2 : Expr} {te te2 : TE} {p pos pos2 : Pos} {W : WX} {C : Addr}
theorem ps_raise1 (hc : X.calm = true) (tk : Takes X W) (c : Mke X.prog X.w X.K X.mg X.base k x C ps (spI1 C f)) (hr : Room j X.A) (hk : k + 1 ≤ j) (hg : Gl X x) (he : PE X e te) (hdb : (x == ("__debug__" : Str)) = false := by decide)
    (hs : starEach [e] X.env = [(false, eval e X.env)] := by rfl) (hpl : (backTo pos (starEach ([] : List Expr) X.env)).any (·.1) = false := by rfl) : PS X (.Raise (some (.Call (.Name x p) [e] [] pos)) none pos2) (tR1 C f W te) := by
  refine ps_weak (ps_raise hc tk (pmk_err c hr hk hg (pa_cons (pe_up he) pa_nil hs) hdb hs hpl)) fun D σ H h => ⟨_, fun v H1 z => ?_, h⟩
  refine ⟨Nat.le_of_ble_eq_true rfl, fun a ha => ⟨a, v, rfl, upd_same, fun dx n ne => ⟨rfl, dx, [(f, v)], upd_same, ?_, ?_, ?_⟩⟩⟩
  · rw [upd_ne ne, upd_same]
  · rw [upd_ne ne] at n; exact n
  · rw [back1 ha ne]
    rw [upd_ne ne] at n
    exact z dx n
theorem ps_raise2 (hc : X.calm = true) (tk : Takes X W) (c : Mke X.prog X.w X.K X.mg X.base k x C ps (spI2 C f g)) (hr : Room j X.A) (hk : k + 1 ≤ j) (hg : Gl X x) (he : PE X e te) (he2 : PE X e2 te2) (hdb : (x == ("__debug__" : Str)) = false := by decide)
    (hs : starEach [e, e2] X.env = [(false, eval e X.env), (false, eval e2 X.env)] := by rfl) (hs2 : starEach [e2] X.env = [(false, eval e2 X.env)] := by rfl) (hpl : (backTo pos (starEach [e2] X.env)).any (·.1) = false := by rfl) :
    PS X (.Raise (some (.Call (.Name x p) [e, e2] [] pos)) none pos2) (tR2 C f g W te te2) := by
  have hs' : starEach [e, e2] X.env = (false, eval e X.env) :: starEach [e2] X.env := by rw [hs, hs2]
  refine ps_weak (ps_raise hc tk (pmk_err c hr hk hg (pa_cons (pe_up he) (pa_cons (pe_up he2) pa_nil hs2) hs') hdb hs' hpl)) fun D σ H h => ⟨_, fun u H1 y => ⟨_, fun v H2 z => ?_, y⟩, h⟩
  refine ⟨Nat.le_of_ble_eq_true rfl, fun a ha => ⟨a, u, v, rfl, upd_same, fun dx n ne => ⟨rfl, dx, [(g, v), (f, u)], ?_, upd_same, ?_, ?_⟩⟩⟩
  · rw [upd_ne (Ne.symm ne), upd_same]
  · rw [upd_ne ne] at n; exact n
  · rw [back2 ha ne]
    rw [upd_ne ne] at n
    exact z dx n
end
/-- what a def promises of an error that leaves it -/
def Ra (F H : Hp) (E : XK) (C : Addr) (post : Hp → Addr → Prop) : Prop := ∀ F' H' d, Stp F H F' H' → post F' d → E (.ref C) (some d) H'
theorem ty_sqT {K : PySem.W.Frag} {H : Hp} {p : Addr} {xs : List V} (h : SqT K H p xs) : TyX K H (.ref p) (.type "tuple") := by
  rcases h with (h | ⟨o, h⟩) | h
  · exact .base (.tup h)
  · exact .fTuple h
  · obtain ⟨o, its, n, e, c, _⟩ := h
    exact .kTuple e c
theorem ty_sqL {K : PySem.W.Frag} {H : Hp} {p : Addr} {xs : List V} (h : SqL K H p xs) : TyX K H (.ref p) (.type "list") := by
  rcases h with (h | ⟨o, h⟩) | h
  · exact .base (.lst h)
  · exact .base (.frz h)
  · obtain ⟨o, its, n, e, c, _⟩ := h
    exact .kList e c
end Ew

set_option Elab.async false
set_option linter.all false
set_option maxRecDepth 100000
set_option maxHeartbeats 4000000
namespace Ew
open PySem PySem.Spec PyProof.Rows L2
/-- what may be changed (m), and what stays true of it (I) -/
structure Mem (m : Addr → Prop) (I : Hp → Hp → Prop) : Prop where
  there : ∀ {F H x}, I F H → m x → H x ≠ none
  off : ∀ {F H x}, I F H → m x → F x = none
  put : ∀ {F H p o}, I F H → ¬ m p → I F (upd H p o)
  grow : ∀ {F F' H}, I F H → Same F F' → (∀ x, m x → F' x = none) → I F' H
theorem memP : Mem (fun _ => False) (fun _ _ => True) := ⟨fun _ z => z.elim, fun _ z => z.elim, fun _ _ => trivial, fun _ _ _ => trivial⟩
section
variable {m : Addr → Prop} {I : Hp → Hp → Prop} {F H F' H' F2 H2 : Hp} {J : It} {n : Nat} {G : Hp → Prop} {Y : Nat → Hp → V → Hp → Prop}
theorem Stm.then (M : Mem m I) (i : I F' H') (a : Stm m F H F' H') (b : Stm m F' H' F2 H2) : Stm m F H F2 H2 := a.trans b fun _ z _ => M.there i z
/-- a comprehension: each turn gives one item, of which R says what is wanted; the new list is frozen at the end -/
theorem lcM (M : Mem m I) (w : Walk J n G Y) {g : TG} {tt : TT} {te : TE} {vs : List Nat} {σ : L2.St} {D : Addr} {Qd : Hp → Prop} (hf : Same F H) (i0 : I F H) (hD : H D = none) (R : Nat → Hp → V → Prop) (hR : ∀ i F F' y, Same F F' → R i F y → R i F' y)
    (hn : n ≤ 1000000) (hG : ∀ F' H', Same F F' → Same F' H' → G H')
    (hs : ∀ i x F' H' H'' (Kt : VK) (Kn : Hp → Prop), i < n → Stm m F H F' H' → I F' H' → Y i H' x H'' → (∀ y F4 H4, Stm m F' H' F4 H4 → I F4 H4 → R i F4 y → Kt y H4) →
      g x (wipe σ vs) H'' fun σ2 H2 => wipe σ2 vs = wipe σ vs ∧ tt σ2 H2 fun b H3 => if b = true then te σ2 H3 Kt else Kn H3)
    (hd : ∀ F' H' ys, Stm m F H F' H' → I F' H' → F' D = some (.lst ys) → ys.length = n → (∀ j y, ys[j]? = some y → R j F' y) → Qd H') :
    ∃ W : Nat → Nat → Hp → Prop, (∃ k, W 0 k (upd H D (.lst []))) ∧ ∀ i k H, W i k H →
      (J.stop i H ∧ Qd H) ∨ (J.go i H ∧ ∃ Nx : Hp → Prop, (∀ H', Nx H' → ∃ k', k' < k ∧ W (i + 1) k' H') ∧ ∀ x H', J.yld i H x H' → g x (wipe σ vs) H' fun σ2 H2 => wipe σ2 vs = wipe σ vs ∧ tt σ2 H2 fun b H3 =>
        if b = true then te σ2 H3 fun y H4 => ∃ acc, H4 D = some (.lst acc) ∧ acc.length < sizeLine ∧ Nx (upd H4 D (.lst (acc ++ [y]))) else Nx H3) := by
  have nm : ¬ m D := fun z => M.there i0 z hD
  have fD : F D = none := hf.free hD
  refine lc_it w (fun i H' => ∃ F' acc, Stm m F H F' H' ∧ I F' H' ∧ F' D = none ∧ H' D = some (.lst acc) ∧ acc.length = i ∧ ∀ j y, acc[j]? = some y → R j F' y) ?_ ?_ ?_ ?_
  · exact ⟨F, [], (Stm.refl hf).raw hD hD, M.put i0 nm, fD, upd_same, rfl, fun j y z => by simp at z⟩
  · rintro i H' _ ⟨F', acc, s, _⟩
    exact hG F' H' s.ff s.fh
  · rintro i x H' H'' hi ⟨F', acc, s, iv, f', h', hl, hr⟩ y
    refine hs i x F' H' H'' _ _ hi s iv y fun y F4 H4 s4 i4 r4 => ?_
    have f4 : F4 D = none := s4.nw D f' (by rw [h']; exact fun z => nomatch z)
    have h4 : H4 D = some (.lst acc) := s4.hh D _ nm h'
    refine ⟨acc, h4, by rw [sizeLine_eq]; omega, F4, acc ++ [y], (s.then M iv s4).mut f4 hD, M.put i4 nm, f4, upd_same, by rw [List.length_append, hl]; rfl, fun j z hz => ?_⟩
    rcases Nat.lt_or_ge j acc.length with hj | hj
    · rw [List.getElem?_append_left hj] at hz
      exact hR j F' F4 z s4.ff (hr j z hz)
    · rw [List.getElem?_append_right hj] at hz
      have e0 : j - acc.length = 0 := by
        rcases Nat.eq_zero_or_pos (j - acc.length) with h0 | h0
        · exact h0
        · rw [List.getElem?_eq_none (by simp; omega)] at hz; cases hz
      rw [e0] at hz
      cases hz
      have ej : j = i := by omega
      rw [ej]
      exact r4
  · rintro H' ⟨F', acc, s, iv, f', h', hl, hr⟩
    refine hd (upd F' D (.lst acc)) H' acc (s.freeze f' hD h') (M.grow iv (same_new f') fun x hx => ?_) upd_same hl fun j y hy => hR j F' _ y (same_new f') (hr j y hy)
    rw [upd_ne (fun z => nm (by rw [← z]; exact hx))]
    exact M.off iv hx
theorem lc_yes {te : TE} {σ : L2.St} {H : Hp} {Kt : VK} {Kn : Hp → Prop} (h : te σ H Kt) : tYes σ H fun b H3 => if b = true then te σ H3 Kt else Kn H3 := by
  show if true = true then te σ H Kt else Kn H
  rw [if_pos rfl]
  exact h
end
end Ew

set_option Elab.async false
set_option linter.all false
set_option maxRecDepth 100000
set_option maxHeartbeats 4000000
namespace Ew
open PySem PySem.Spec PyProof.Rows L2
/-- a tuple of ints as data -/
def intT (ds : List Int) : PyData := .tuple (ds.map .int)
theorem dpAll_ints {K : PySem.W.Frag} {H : Hp} : ∀ ds : List Int, DpAll K H (ds.map V.int) (ds.map PyData.int)
  | [] => .nil
  | d :: ds => .cons (.int d) (dpAll_ints ds)
theorem dp_ints {K : PySem.W.Frag} {H : Hp} {p : Addr} {ds : List Int} (h : SqT K H p (ds.map V.int)) : Dp K H (.ref p) (intT ds) := .tup h (dpAll_ints ds)
theorem eqvAll_ints : ∀ a b : List Int, PyData.eqvAll (a.map .int) (b.map .int) = decide (a = b)
  | [], [] => rfl
  | [], y :: b => rfl
  | x :: a, [] => rfl
  | x :: a, y :: b => by
    rw [List.map_cons, List.map_cons, PyData.eqvAll, PyData.eqv, eqvAll_ints a b]
    by_cases h : x = y
    · subst h; by_cases h2 : a = b <;> simp [h2]
    · simp [h]
theorem eqv_ints (a b : List Int) : PyData.eqv (intT a) (intT b) = decide (a = b) := by
  unfold intT
  rw [PyData.eqv, eqvAll_ints]
theorem lay_ints : ∀ ds : List Int, PyData.canLayAll0 (ds.map PyData.int) = true
  | [] => by rw [List.map_nil, PyData.canLayAll0]
  | d :: ds => by rw [List.map_cons, PyData.canLayAll0, lay_ints ds, PyData.canLay0, Bool.and_self]
theorem dep_ints : ∀ ds : List Int, PyData.depthAll (ds.map PyData.int) = 0
  | [] => by rw [List.map_nil, PyData.depthAll]
  | d :: ds => by rw [List.map_cons, PyData.depthAll, dep_ints ds, PyData.depth, Nat.max_self]
theorem shaped_ints (ds : List Int) : SeqAt.shaped (intT ds) = true := by
  unfold SeqAt.shaped intT
  rw [PyData.canLay0, lay_ints, PyData.depth, dep_ints]
  rfl
/-! ### ratios -/
/-- at v a pair of ints; a tuple of ints -/
def Rt (K : PySem.W.Frag) (F : Hp) (v : V) (r : Int × Int) : Prop := ∃ p, v = .ref p ∧ SqT K F p [.int r.1, .int r.2]
def Dm (K : PySem.W.Frag) (F : Hp) (v : V) (ds : List Int) : Prop := ∃ p, v = .ref p ∧ SqT K F p (ds.map V.int)
section
variable {K : PySem.W.Frag} {F F' : Hp} {v : V} {r : Int × Int} {ds : List Int}
theorem Rt.up (h : Rt K F v r) (e : Same F F') : Rt K F' v r := by obtain ⟨p, h1, h2⟩ := h; exact ⟨p, h1, upT e h2⟩
theorem Dm.up (h : Dm K F v ds) (e : Same F F') : Dm K F' v ds := by obtain ⟨p, h1, h2⟩ := h; exact ⟨p, h1, upT e h2⟩
theorem Rt.dp (h : Rt K F v r) : Dp K F v (intT [r.1, r.2]) := by obtain ⟨p, rfl, h2⟩ := h; exact dp_ints h2
theorem Dm.dp (h : Dm K F v ds) : Dp K F v (intT ds) := by obtain ⟨p, rfl, h2⟩ := h; exact dp_ints h2
end
/-- the common divisor, with the sign of d -/
def com (n d : Int) : Int := if d < 0 then -((Nat.gcd n.natAbs d.natAbs : Nat) : Int) else ((Nat.gcd n.natAbs d.natAbs : Nat) : Int)
/-- n / d in lowest terms -/
def rat (n d : Int) : Int × Int := (n.fdiv (com n d), d.fdiv (com n d))
/-- size: below 2 ^ b -/
def Sz (b : Nat) (n : Int) : Prop := n.natAbs < 2 ^ b
theorem Sz.mono {a b : Nat} {n : Int} (h : Sz a n) (k : a ≤ b) : Sz b n := Nat.lt_of_lt_of_le h (Nat.pow_le_pow_right (by decide) k)
theorem Sz.log {b : Nat} {n : Int} (h : Sz b n) (h0 : 0 < b) (k : b ≤ 9000) : n.natAbs.log2 < 9000 := Nat.lt_of_lt_of_le (PySem.Flt.log2_lt_of h0 h) k
theorem Sz.mul {a b : Nat} {m n : Int} (h : Sz a m) (k : Sz b n) : Sz (a + b) (m * n) := wide_lt h k
theorem Sz.add {a : Nat} {m n : Int} (h : Sz a m) (k : Sz a n) : Sz (a + 1) (m + n) := by
  unfold Sz at *
  have := Int.natAbs_add_le m n
  rw [Nat.pow_succ]
  omega
theorem Sz.sub {a : Nat} {m n : Int} (h : Sz a m) (k : Sz a n) : Sz (a + 1) (m - n) := by
  unfold Sz at *
  rw [Nat.pow_succ]
  omega
theorem Sz.neg {a : Nat} {m : Int} (h : Sz a m) : Sz a (-m) := by
  unfold Sz at *
  rwa [Int.natAbs_neg]
theorem com_ne {n d : Int} (h : d ≠ 0) : com n d ≠ 0 := by
  have g : 0 < Nat.gcd n.natAbs d.natAbs := Nat.gcd_pos_of_pos_right _ (by omega)
  unfold com
  split <;> omega
theorem com_abs (n d : Int) : (com n d).natAbs = Nat.gcd n.natAbs d.natAbs := by
  unfold com
  split <;> simp
theorem com_sz {n d : Int} {b : Nat} (h0 : d ≠ 0) (h : Sz b d) : Sz b (com n d) := by
  unfold Sz
  rw [com_abs]
  exact Nat.lt_of_le_of_lt (Nat.gcd_le_right _ (by omega)) h
theorem com_dn (n d : Int) : com n d ∣ n := by
  rw [← Int.natAbs_dvd_natAbs, com_abs]
  exact Nat.gcd_dvd_left _ _
theorem com_dd (n d : Int) : com n d ∣ d := by
  rw [← Int.natAbs_dvd_natAbs, com_abs]
  exact Nat.gcd_dvd_right _ _
theorem fdiv_abs {n c : Int} (h : c ∣ n) : (n.fdiv c).natAbs = n.natAbs / c.natAbs := by
  obtain ⟨k, rfl⟩ := h
  by_cases h0 : c = 0
  · subst h0; simp
  · rw [Int.mul_fdiv_cancel_left _ h0, Int.natAbs_mul, Nat.mul_div_cancel_left _ (by omega)]
theorem Sz.fdiv {n c : Int} {b : Nat} (h : Sz b n) (hd : c ∣ n) : Sz b (n.fdiv c) := by
  unfold Sz
  rw [fdiv_abs hd]
  exact Nat.lt_of_le_of_lt (Nat.div_le_self _ _) h
theorem rat_sz {n d : Int} {b : Nat} (h1 : Sz b n) (h2 : Sz b d) : Sz b (rat n d).1 ∧ Sz b (rat n d).2 := ⟨h1.fdiv (com_dn n d), h2.fdiv (com_dd n d)⟩
theorem rat_pos {n d : Int} (h : d ≠ 0) : 0 < (rat n d).2 := by
  show 0 < d.fdiv (com n d)
  have g : 0 < Nat.gcd n.natAbs d.natAbs := Nat.gcd_pos_of_pos_right _ (by omega)
  obtain ⟨k, hk⟩ := com_dd n d
  have hc := com_ne (n := n) h
  have e : d.fdiv (com n d) = k := by
    conv => lhs; lhs; rw [hk]
    rw [Int.mul_fdiv_cancel_left _ hc]
  rw [e]
  unfold com at hk
  split at hk
  · rename_i hd
    rcases Int.lt_trichotomy k 0 with q | q | q
    · have : 0 < -((Nat.gcd n.natAbs d.natAbs : Nat) : Int) * k := Int.mul_pos_of_neg_of_neg (by omega) q
      omega
    · subst q; simp at hk; omega
    · exact q
  · rename_i hd
    rcases Int.lt_trichotomy k 0 with q | q | q
    · have : ((Nat.gcd n.natAbs d.natAbs : Nat) : Int) * k < 0 := Int.mul_neg_of_pos_of_neg (by omega) q
      omega
    · subst q; simp at hk; omega
    · exact q
theorem rat_cop {n d : Int} (h : d ≠ 0) : Nat.gcd (rat n d).1.natAbs (rat n d).2.natAbs = 1 := by
  show Nat.gcd (n.fdiv (com n d)).natAbs (d.fdiv (com n d)).natAbs = 1
  rw [fdiv_abs (com_dn n d), fdiv_abs (com_dd n d), com_abs]
  exact Nat.gcd_div_gcd_div_gcd_of_pos_right (by omega)
end Ew

set_option Elab.async false
set_option linter.all false
set_option maxRecDepth 100000
set_option maxHeartbeats 4000000
namespace Ew
open PySem PySem.Spec PyProof.Rows L2
/-- a static method m of the class at C: what stands at p holds the def at g -/
structure StM (K : PySem.W.Frag) (C : Addr) (mc : Value) (m : Str) (p g : Addr) : Prop where
  rd : ClX.CRead K C mc
  off : PySem.W.findCls K (.ref C) mc m = some (.get (.builtin "staticmethod.__get__") (.ref p) .none (.ref C))
  rc : ∃ rest, PySem.W.recIn K p "staticmethod" = some (.ref g :: rest)
  kp : PySem.W.keepIn K (.ref g) = true
  pg : PySem.W.plainGet K C Str.empty = true
  ic : PySem.W.isClsIn K C = true
  at_ : PySem.W.findIn K (.ref C) m = some (some (.ref p))
  ty : PySem.W.typeIn K (.ref p) = some (.type "staticmethod")
  gt : PySem.W.specialIn K (.ref p) "__get__" = some (some (.builtin "staticmethod.__get__"))
  tk : PySem.W.takesIn K (.ref p) = some false
  cp : PySem.W.copiedNames.contains m = false
section
variable {X : Cx} {pins : List (Addr × Obj)} {σ : L2.St} {H : Hp} {s : Shared} {b C p g : Addr} {mc : Value} {m : Str} {A : Around} {E : Value → Shared → Prop}
theorem sm_off {pl : Sem Bool} {Q : Value × List Value → Shared → Prop} (I : Inv X pins σ H s) (k : StM X.K C mc m p g) (h : ∀ s', Inv X pins σ H s' → Q (.ref g, []) s') : wpAny (model X.prog X.w) A (getMethod (.ref C) m pl) Q E s := by
  obtain ⟨rest, hp⟩ := k.rc
  exact PySem.W.method_cls I.kIn k.rd.ga (PySem.W.cls_bind I.kIn k.rd.rd k.off (wpAny_call (PySem.W.sm_get (s := { s with toks := s.toks + 1 }) I.kIn hp (PySem.W.handed_on rfl (h _ (I.tok _))))))
theorem sm_on {pl : Sem Bool} {ox od : Obj} {Q : Value × List Value → Shared → Prop} (I : Inv X pins σ H s) (J : PySem.W.InstAt s.heap b ox C (some od)) (hl : PySem.W.lookIn m od = some none) (k : StM X.K C mc m p g)
    (h : ∀ s', Inv X pins σ H s' → Q (.ref g, []) s') : wpAny (model X.prog X.w) A (getMethod (.ref b) m pl) Q E s := by
  obtain ⟨rest, hp⟩ := k.rc
  have pg : PySem.W.plainGet X.K C m = true := k.pg
  refine PySem.W.method_usual (r := some (.ref p)) I.kIn J (PySem.W.plainGet_of pg).1 (PySem.W.plainGet_of pg).2 k.at_ ?_ (PySem.W.get_bind I.kIn J (PySem.W.plainGet_of pg).1 (ClX.find_cm k.ic k.at_ k.gt k.tk k.cp hl) (PySem.W.plainGet_of pg).2
    (wpAny_call (PySem.W.sm_get (s := { s with toks := s.toks + 1 }) I.kIn hp (PySem.W.handed_on rfl (h _ (I.tok _))))))
  rw [Option.all_some, k.ty]
  decide +kernel
variable {k j : Nat} {fd : FuncData} {ps : List Str} {sp : Sp} {e o : Expr} {es : List Expr} {t : TA} {ta : TE} {pos apos : Pos} {W : WX}
/-- C.m(e, ..), o.m(e, ..), m a static method -/
structure Sm (P : Program) (w : World) (K : PySem.W.Frag) (mg : Str → Option Value) (base : Heap) (k : Nat) (C : Addr) (m : Str) (ps : List Str) (sp : Sp) : Prop where
  ex : ∃ mc p g fd, StM K C mc m p g ∧ FnOk P w K mg base (L2.CX P w) k g fd ps sp ∧ Binds K fd ps []
def tSm (K : PySem.W.Frag) (C : Addr) (m : Str) (sp : Sp) (W : WX) (ta : TE) (t : TA) : TE := fun σ H Q => ta σ H fun x H1 => (x = .ref C ∨ ∃ b dx fs, x = .ref b ∧ H1 b = some (.ins C dx fs) ∧ fs.lookup m = none) ∧ t σ H1 fun vs H2 => sp vs H2 Q (WE W σ)
theorem pe_sm {pl : Sem Bool} (c : Sm X.prog X.w X.K X.mg X.base k C m ps sp) (tk : Takes X W) (hr : Room j X.A) (hk : k ≤ j) (he : PE X o ta) (ha : PA X (e :: es) t)
    (hst : starEach (e :: es) X.env = (false, eval e X.env) :: starEach es X.env := by rfl) (hpl : (backTo pos (starEach es X.env)).any (·.1) = false := by rfl)
    (ht : eval (.Call (.Attribute o m apos) (e :: es) [] pos) X.env = (do
      let v ← eval o X.env
      standAt apos.atName
      let (g, first) ← holding [v] (getMethod v m pl)
      callWith pos g first (backTo pos (starEach (e :: es) X.env)) (backToKw pos (keywordEach [] X.env))) := by rfl) :
    PE X (.Call (.Attribute o m apos) (e :: es) [] pos) (tSm X.K C m sp W ta t) := by
  obtain ⟨mc, p, g, fd, S, F, hb⟩ := c.ex
  refine ⟨fun pins s σ H Q I h => PySem.W.methodCall_KW (pl := pl) (thn (he.run pins s σ H _ I h) fun u s1 ⟨x, H1, I1, rx, ex, q⟩ => ?_) ht⟩
  have go : ∀ s', Inv X pins σ H1 s' → wpAny (model X.prog X.w) X.A (callWith pos (.ref g) [] (backTo pos (starEach (e :: es) X.env)) (backToKw pos (keywordEach [] X.env))) (EP X pins σ Q) X.xe s' := fun s' I' =>
    PySem.W.callWith_K (h₀ := X.base) I'.ok.mod.kin S.kp (thn (ha.run pos pins s' σ H1 _ I' q) fun us s2 ⟨vs, H2, I2, r, q2⟩ => ⟨I2.kIn, run_dv F (hr.mono hk) hb .nil tk I2 r (by rw [List.append_nil]; exact q2)⟩) hst hpl
  rcases ex with rfl | ⟨b, dx, fs, rfl, eb, l⟩
  · obtain rfl : u = Value.ref C := rx
    exact sm_off I1 S fun s' I' => go s' I'
  · obtain rfl : u = Value.ref b := rx
    obtain ⟨mA, O, rr, _, _, _⟩ := ins_get I1.hok eb
    obtain ⟨od, J, hl⟩ := O.look
    have hn : mA m = none := RelO.none_of (by rw [← l]; exact rr m)
    exact sm_on I1 J (by rw [hl m, hn]) S fun s' I' => go s' I'
end
/-! ### methods as they stand behind the top -/
structure MthAt (K : PySem.W.Frag) (C : Addr) (m q : Str) (st : Stmt) (ps : List Str) : Prop where
  ex : ∃ f fd, Meth K C m f ∧ Fun K m q st f fd ∧ Binds K fd ps []
structure OpAt (K : PySem.W.Frag) (C : Addr) (m x q : Str) (st : Stmt) (ps : List Str) : Prop where
  ex : ∃ f fd, OpM K C m f ∧ Fun K x q st f fd ∧ Binds K fd ps []
structure MkAt (K : PySem.W.Frag) (C : Addr) (q : Str) (st : Stmt) (ps : List Str) : Prop where
  ex : ∃ f fd, Mk K C f ∧ Fun K "__init__" q st f fd ∧ Binds K fd ps []
structure SmAt (K : PySem.W.Frag) (C : Addr) (m q : Str) (st : Stmt) (ps : List Str) : Prop where
  ex : ∃ mc p g fd, StM K C mc m p g ∧ Fun K m q st g fd ∧ Binds K fd ps []
/-- an own operator's method, its promise -/
structure OpC (P : Program) (w : World) (K : PySem.W.Frag) (mg : Str → Option Value) (base : Heap) (k : Nat) (C : Addr) (m : Str) (ps : List Str) (sp : Sp) : Prop where
  sf : PySem.W.selfFirst K C = true
  ex : ∃ f fd, OpM K C m f ∧ FnOk P w K mg base (L2.CX P w) k f fd ps sp ∧ Binds K fd ps []
section
variable {X : Cx} {k j : Nat} {C : Addr} {ps : List Str} {sp : Sp} {e1 e2 : Expr} {ta tb : TE} {pos : Pos} {W : WX}
theorem pe_bop {op : Operator} (c : OpC X.prog X.w X.K X.mg X.base k C (PySem.dunder op.info.2) ps sp) (tk : Takes X W) (hr : Room j X.A) (hk : k ≤ j) (h1 : PE X e1 ta) (h2 : PE X e2 tb) : PE X (.BinOp e1 op e2 pos) (tBinO C sp (WE W) ta tb) := by
  obtain ⟨f, fd, M, F, hb⟩ := c.ex
  exact pe_binO F (hr.mono hk) M c.sf hb (fun σ => passAt tk σ) h1 h2
theorem pe_nop (c : OpC X.prog X.w X.K X.mg X.base k C "__neg__" ps sp) (tk : Takes X W) (hr : Room j X.A) (hk : k ≤ j) (h1 : PE X e1 ta) : PE X (.UnaryOp .USub e1 pos) (tNegO C sp (WE W) ta) := by
  obtain ⟨f, fd, M, F, hb⟩ := c.ex
  exact pe_negO F (hr.mono hk) M hb (fun σ => passAt tk σ) h1
theorem pc_eop (c : OpC X.prog X.w X.K X.mg X.base k C "__eq__" ps sp) (tk : Takes X W) (hr : Room j X.A) (hk : k ≤ j) (ht : PySem.W.notFirst X.K C (.type "tuple") = true) (h1 : PE X e1 ta) (h2 : PE X e2 tb) : PC X .Eq e1 e2 (tEqO X.K C sp (WE W) ta tb) := by
  obtain ⟨f, fd, M, F, hb⟩ := c.ex
  exact pc_eqO F (hr.mono hk) M ht hb (fun σ => passAt tk σ) h1 h2
end
/-- what isinstance asks of an own class -/
structure KiC (K : PySem.W.Frag) (C : Addr) : Prop where
  cl : Cls K C
  ca : PySem.W.findIn K (.ref C) "__class__" = some (some (.builtin "object.__class__"))
  gg : PySem.W.specialIn K (.builtin "object.__class__") "__get__" = some (some (.builtin "getset_descriptor.__get__"))
  tk : PySem.W.takesIn K (.builtin "object.__class__") = some true
  mo : PySem.W.mroIn K C (.type "object") = some true
theorem KiC.ty {K : PySem.W.Frag} {C : Addr} (k : KiC K C) {H : Hp} {x dx : Addr} {fs : List (Str × V)} (h : H x = some (.ins C dx fs)) : TyX K H (.ref x) (.ref C) := .base (.ins h k.cl k.ca k.gg k.tk k.mo)
theorem kit_same {K : PySem.W.Frag} {t : Value} : PySem.W.kitOne K t t = some true := by
  unfold PySem.W.kitOne
  rw [if_pos (beq_self_eq_true t)]
end Ew

set_option Elab.async false
set_option linter.all false
set_option maxRecDepth 100000
set_option maxHeartbeats 4000000
namespace Ew
open PySem PySem.Spec PyProof.Rows L2
open AutoSeq1 (wpAny_loadPart')
open MeetsSeq MeetsSeq2 MeetsSeq3 SeqRoads2
theorem tup_once (l : Addr) (items : Array Value) (n : Nat) (dd : Option Addr) (sl : Array (Option Value)) (u : Tok) :
    Meets (Builtin.«tuple.__mul__» ⟨[.ref l, .int 1 u], []⟩) (fun _ R s => s.heap.get? l = some { cls := .type "tuple", dict := dd, data := .seq items n, slots := sl } ∧ R (.ok (.ret (.ref l))) s) :=
  .of_wp fun prog w A R s h => by
    obtain ⟨hp, g, d, tk, os⟩ := s
    obtain ⟨hl, h⟩ := h
    have f1 := AutoSeq1.idx_int
    wp_walk using wpAny_loadPart' hl
    exact ⟨_, rfl, h⟩
def rRep1 (K : PySem.W.Frag) : R2 := fun x y H Q => ∃ l xs, x = .ref l ∧ y = .int 1 ∧ SqT K H l xs ∧ Q (.ref l) H
theorem op_rep1 {X : Cx} : OpR X (binaryOp .Mult) (rRep1 X.K) := by
  intro pins s σ H x y v u Q I rx ry h
  obtain ⟨l, xs, rfl, rfl, hT, q⟩ := h
  cases rx
  obtain ⟨t, rfl⟩ := ry
  obtain ⟨its, r, ⟨⟨cls, dd, data, sl⟩, ho, hc, n, hd⟩, hs⟩ := I.tuple hT
  dsimp only at hc hd
  subst hc hd
  exact wpAny_binaryOp_repeat_ref (T := "tuple") (U := "int") (by decide) ⟨_, ho, rfl⟩ (fun s' => typeIs_int s' 1 t) noFill_tuple_mul F.fills_int_mul F.slot_int_rmul repeat_tuple F.slot_int_index.lookup
    (call_meets F.slot_int_rmul (typeIs_int s 1 t) F.entry_int_rmul (F.args_int_rmul_2 _ _) (int_rmul_tuple 1 t l its.toArray n dd sl)
      ⟨ho, rfl, ⟨_, ho, rfl⟩, call_meets F.slot_tuple_mul ⟨_, ho, rfl⟩ F.entry_tuple_mul (F.args_tuple_mul_2 _ _) (tup_once l its.toArray n dd sl t) ⟨ho, .ref l, H, I, rfl, q⟩⟩)
theorem op_repA {X : Cx} : OpR X (binaryOp .Mult) (fun x y H Q => rRepT X.K x y H Q ∨ rRep1 X.K x y H Q) := op_repT.or op_rep1
end Ew

set_option Elab.async false
set_option linter.all false
set_option maxRecDepth 100000
set_option maxHeartbeats 4000000
namespace Ew
open PySem PySem.Spec PyProof.Rows L2
/-- data that may be compared: n deep at most -/
structure Fl (n : Nat) (d : PyData) : Prop where
  c : d.canLay0 = true
  d : d.depth ≤ n
structure FlA (n : Nat) (ds : List PyData) : Prop where
  c : PyData.canLayAll0 ds = true
  d : PyData.depthAll ds ≤ n
theorem FlA.nil {n : Nat} : FlA n [] := ⟨by rw [PyData.canLayAll0], by rw [PyData.depthAll]; omega⟩
theorem FlA.cons {n : Nat} {d : PyData} {ds : List PyData} (h : Fl n d) (t : FlA n ds) : FlA n (d :: ds) := ⟨by rw [PyData.canLayAll0, h.c, t.c]; rfl, by rw [PyData.depthAll]; have := h.d; have := t.d; omega⟩
theorem FlA.all {n : Nat} : ∀ {ds : List PyData}, (∀ d ∈ ds, Fl n d) → FlA n ds
  | [], _ => .nil
  | d :: ds, h => .cons (h d List.mem_cons_self) (FlA.all fun x hx => h x (List.mem_cons_of_mem _ hx))
theorem Fl.tup {n : Nat} {ds : List PyData} (h : FlA n ds) : Fl (n + 1) (.tuple ds) := ⟨by rw [PyData.canLay0]; exact h.c, by rw [PyData.depth]; have := h.d; omega⟩
theorem Fl.lst {n : Nat} {ds : List PyData} (h : FlA n ds) : Fl (n + 1) (.list ds) := ⟨by rw [PyData.canLay0]; exact h.c, by rw [PyData.depth]; have := h.d; omega⟩
theorem Fl.int {n : Nat} {i : Int} : Fl n (.int i) := ⟨by rw [PyData.canLay0], by rw [PyData.depth]; omega⟩
theorem Fl.str {n : Nat} {x : Str} (h : PyData.strOk x = true) : Fl n (.str x) := ⟨by rw [PyData.canLay0]; exact h, by rw [PyData.depth]; omega⟩
theorem Fl.sh {n : Nat} {d : PyData} (h : Fl n d) (k : n ≤ 64) : SeqAt.shaped d = true := by
  unfold SeqAt.shaped
  have := h.d
  rw [h.c, decide_eq_true (by omega : d.depth ≤ 64)]
  rfl
theorem fl_ints {n : Nat} (ds : List Int) : Fl (n + 1) (intT ds) := Fl.tup ⟨lay_ints ds, by rw [dep_ints]; omega⟩
/-- a pair of a ratio and a tuple of ints -/
def rowD (s : (Int × Int) × List Int) : PyData := .tuple [intT [s.1.1, s.1.2], intT s.2]
theorem fl_row {n : Nat} (s : (Int × Int) × List Int) : Fl (n + 2) (rowD s) := Fl.tup (.cons (fl_ints _) (.cons (fl_ints _) .nil))
theorem eqv_row (s t : (Int × Int) × List Int) : PyData.eqv (rowD s) (rowD t) = decide (s = t) := by
  unfold rowD
  rw [PyData.eqv, PyData.eqvAll, PyData.eqvAll, PyData.eqvAll, eqv_ints, eqv_ints]
  obtain ⟨⟨a, b⟩, c⟩ := s
  obtain ⟨⟨a', b'⟩, c'⟩ := t
  by_cases h1 : a = a' <;> by_cases h2 : b = b' <;> by_cases h3 : c = c' <;> simp [h1, h2, h3]
def Row (K : PySem.W.Frag) (F : Hp) (v : V) (s : (Int × Int) × List Int) : Prop := ∃ p u w, v = .ref p ∧ SqT K F p [u, w] ∧ Rt K F u s.1 ∧ Dm K F w s.2
theorem Row.up {K : PySem.W.Frag} {F F' : Hp} {v : V} {s : (Int × Int) × List Int} (h : Row K F v s) (e : Same F F') : Row K F' v s := by
  obtain ⟨p, u, w, h1, h2, h3, h4⟩ := h
  exact ⟨p, u, w, h1, upT e h2, h3.up e, h4.up e⟩
theorem Row.dp {K : PySem.W.Frag} {F : Hp} {v : V} {s : (Int × Int) × List Int} (h : Row K F v s) : Dp K F v (rowD s) := by
  obtain ⟨p, u, w, rfl, h2, h3, h4⟩ := h
  exact .tup h2 (.cons h3.dp (.cons h4.dp .nil))
/-- items, each with its own word -/
def Rws (K : PySem.W.Frag) (F : Hp) (xs : List V) (ss : List ((Int × Int) × List Int)) : Prop := xs.length = ss.length ∧ ∀ (i : Nat) x, xs[i]? = some x → ∃ s, ss[i]? = some s ∧ Row K F x s
theorem Rws.up {K : PySem.W.Frag} {F F' : Hp} {xs : List V} {ss : List ((Int × Int) × List Int)} (h : Rws K F xs ss) (e : Same F F') : Rws K F' xs ss := ⟨h.1, fun i x hx => by
  obtain ⟨s, h1, h2⟩ := h.2 i x hx
  exact ⟨s, h1, h2.up e⟩⟩
theorem Rws.nil {K : PySem.W.Frag} {F : Hp} : Rws K F [] [] := ⟨rfl, fun i x h => by simp at h⟩
theorem Rws.snoc {K : PySem.W.Frag} {F : Hp} {xs : List V} {ss : List ((Int × Int) × List Int)} {x : V} {s : (Int × Int) × List Int} (h : Rws K F xs ss) (k : Row K F x s) : Rws K F (xs ++ [x]) (ss ++ [s]) := by
  refine ⟨by simp [h.1], fun i y hy => ?_⟩
  rcases Nat.lt_or_ge i xs.length with hi | hi
  · rw [List.getElem?_append_left hi] at hy
    obtain ⟨t, h1, h2⟩ := h.2 i y hy
    exact ⟨t, by rw [List.getElem?_append_left (by rw [← h.1]; exact hi)]; exact h1, h2⟩
  · rw [List.getElem?_append_right hi] at hy
    have e0 : i - xs.length = 0 := by
      rcases Nat.eq_zero_or_pos (i - xs.length) with h0 | h0
      · exact h0
      · rw [List.getElem?_eq_none (by simp; omega)] at hy; cases hy
    rw [e0] at hy
    cases hy
    refine ⟨s, ?_, k⟩
    rw [List.getElem?_append_right (by rw [← h.1]; exact hi), ← h.1, e0]
    rfl
theorem Rws.dps {K : PySem.W.Frag} {F : Hp} : ∀ {xs : List V} {ss : List ((Int × Int) × List Int)}, Rws K F xs ss → DpAll K F xs (ss.map rowD)
  | [], [], _ => .nil
  | [], s :: ss, h => absurd h.1 (by simp)
  | x :: xs, [], h => absurd h.1 (by simp)
  | x :: xs, s :: ss, h => by
    obtain ⟨t, h1, h2⟩ := h.2 0 x rfl
    cases h1
    exact .cons h2.dp (Rws.dps ⟨by simpa using h.1, fun i y hy => h.2 (i + 1) y hy⟩)
end Ew

set_option Elab.async false
set_option linter.all false
set_option maxRecDepth 100000
set_option maxHeartbeats 4000000
namespace Ew
open PySem PySem.Spec PyProof.Rows L2
open SX (S)
/-- a sign, k times -/
theorem fold_one (c : Nat) : ∀ (m : Nat) (acc : Array Nat), (List.replicate m #[c]).foldl (· ++ ·) acc = acc ++ (List.replicate m c).toArray
  | 0, acc => by simp
  | m + 1, acc => by
    rw [List.replicate_succ, List.foldl_cons, fold_one c m, List.replicate_succ]
    apply Array.ext'
    simp
def rRepC : R2 := fun x y H Q => ∃ (c : Nat) (k : Int), x = .str ⟨#[c]⟩ ∧ y = .int k ∧ 2 ≤ k ∧ k ≤ 100000 ∧ Q (.str (S (List.replicate k.toNat c))) H
theorem op_repC {X : Cx} : OpR X (binaryOp .Mult) rRepC := by
  intro pins s σ H x y v u Q I rx ry h
  obtain ⟨c, k, rfl, rfl, h1, h2, q⟩ := h
  obtain ⟨t, rfl⟩ := rx
  obtain ⟨t', rfl⟩ := ry
  have hl : (⟨#[c]⟩ : Str).length = 1 := rfl
  have e1 : (k == 1) = false := by rw [beq_eq_false_iff_ne]; omega
  refine PySem.P.mul_str ?_ (fun _ _ => ?_) (fun _ _ => ?_) ?_
  · rw [decide_eq_false (by omega), decide_eq_false (by omega)]
    rfl
  · rw [hl]
    have : (1 : Int) ≤ (2 ^ 63 - 1) / k := (Int.le_ediv_iff_mul_le (by omega)).mpr (by omega)
    show ¬ ((1 : Int) > _)
    omega
  · rw [hl]
    unfold PySem.Builtin.Str.tooLong
    rw [decide_eq_false_iff_not, sizeLine_eq]
    omega
  · rw [if_neg (by omega), e1, hl]
    have e2 : ((⟨#[c]⟩ : Str).cps) = #[c] := rfl
    rw [if_neg (by decide), e2, fold_one]
    have e3 : (#[] ++ (List.replicate k.toNat c).toArray : Array Nat) = (List.replicate k.toNat c).toArray := by simp
    rw [e3]
    refine ⟨?_, ⟨.str (S (List.replicate k.toNat c)), H, I.tok _, ⟨_, rfl⟩, q⟩⟩
    show (S (List.replicate k.toNat c)).length ≤ sizeLine
    rw [SX.S_len, List.length_replicate, sizeLine_eq]
    omega
end Ew

set_option Elab.async false
set_option linter.all false
set_option maxRecDepth 100000
set_option maxHeartbeats 4000000
namespace Ew
open PySem PySem.Spec PyProof.Rows L2
/-! ### defs that are asked only where no repr is under way -/
section
variable {P : Program} {w : World} {K : PySem.W.Frag} {mg : Str → Option Value} {base : Heap}
structure FnG (P : Program) (w : World) (K : PySem.W.Frag) (mg : Str → Option Value) (base : Heap) (k : Nat) (f : Addr) (fd : FuncData) (ps : List Str) (sp : Sp) : Prop where
  len : ∀ vs H Q E, sp vs H Q E → vs.length = ps.length
  go : ∀ (A : Around) (outer : List Env) (s : Shared) (H : Hp) (args : Args) (us : List Value) (vs : List V) (Q : VK) (E : XK), A.guards = some [] → Room k A → Env0 P w K mg base A outer s H → BindsTo s fd args (ps.zip us) → Vals vs us → sp vs H Q E →
    codeAny (model P w) A (.call (.ref f) args) (CR (L2.CX P w) outer P w H s Q E) s
def BodyG (P : Program) (w : World) (K : PySem.W.Frag) (mg : Str → Option Value) (base : Heap) (N : List Str) (qual : Str) (st : Stmt) (k : Nat) (sp : Sp) : Prop :=
  ∀ (f : Addr) (cdv : Value) (A : Around) (outer : List Env) (s : Shared) (H : Hp) (vs : List V) (Q : VK) (E : XK), (cxB P w K mg base N qual st f cdv A outer s H E).A.guards = some [] → Room k (cxB P w K mg base N qual st f cdv A outer s H E).A → sp vs H Q E →
    ∃ t, PSs (cxB P w K mg base N qual st f cdv A outer s H E) (defBody st) t ∧ t { nx := fun _ H' => Q .non H', rt := Q } (start N vs) H
theorem fun_gd {x qual : Str} {st : Stmt} {f : Addr} {fd : FuncData} {ps N : List Str} {k : Nat} {sp : Sp} (F : Fun K x qual st f fd) (S : FnScope N ps (defScope st)) (len : ∀ vs H Q E, sp vs H Q E → vs.length = ps.length) (h : BodyG P w K mg base N qual st k sp) :
    FnG P w K mg base (k + 1) f fd ps sp := by
  obtain ⟨oc, od, kV, doc, pm, an, cdv, ct, osl, rfl, lk, hcd⟩ := F.ex
  refine ⟨len, ?_⟩
  intro A outer s H args us vs Q E hg room e0 bind rel ask
  have many := len _ _ _ _ ask
  have kept : ∀ b o, base.get? b = some o → s.heap.get? b = some o := fun b o e => (e0.bs b o e).1
  have KX : K.In s.heap := e0.mod.kin.keeps kept
  have locals_ : ∀ y ∈ ps.zip us, (defScope st).names.lookup y.1 = some .local ∨ ((defScope st).names.lookup y.1 = some .cell ∧ ((cellsFrom (s.heap.objs.size + 1) (defScope st).names []).lookup y.1).isSome = true) := by
    rintro ⟨nm, v⟩ hy
    refine (S.par nm (List.of_mem_zip hy).1).imp id fun q => ⟨q, ?_⟩
    exact PySem.W.cellsFrom_some _ _ _ (.inl q)
  refine codeAny_call_function room.depth (KX _ _ lk) rfl S.co S.gen rfl (PySem.W.codeRec_of KX hcd) (bind _ _ _ _ ?_)
  refine wpAny_newFunctionEnv_cells S.kind locals_ ?_
  rintro env rfl s1 x
  refine ⟨(e0.mod.nolimit.keeps kept).keeps x.toInCall.keep, codeAny_func ?_⟩
  obtain ⟨t, ht, goal⟩ := h f cdv A outer s H vs Q E hg (room.deeper _) ask
  refine wpAny_mono (ht.run [] s1 (start N vs) H _ (inv_start S room.hd e0 many rel x) goal) ?_ (fun e s' z => z)
  intro fl s' end_
  match fl, end_ with
  | .ret u, ⟨v, σ', H', J, rv, q⟩ => exact ⟨v, H', J.os, J.bare, J.base, J.hok, rv, q⟩
  | .next, ⟨σ', H', J, q⟩ => exact ⟨.non, H', J.os, J.bare, J.base, J.hok, rfl, q⟩
  | .brk, ⟨_, _, _, q⟩ => exact q.elim
  | .cont, ⟨_, _, _, q⟩ => exact q.elim
structure ClG (P : Program) (w : World) (K : PySem.W.Frag) (mg : Str → Option Value) (base : Heap) (k : Nat) (x : Str) (ps : List Str) (sp : Sp) : Prop where
  ex : ∃ f fd, FnG P w K mg base k f fd ps sp ∧ mg x = some (.ref f) ∧ PySem.W.keepIn K (.ref f) = true ∧ Binds K fd ps []
theorem DefAt.clG {x : Str} {st : Stmt} {ps N : List Str} {k : Nat} {sp : Sp} (D : DefAt K mg x st ps) (S : FnScope N ps (defScope st)) (len : ∀ vs H Q E, sp vs H Q E → vs.length = ps.length) (h : BodyG P w K mg base N x st k sp) : ClG P w K mg base (k + 1) x ps sp := by
  obtain ⟨f, fd, F, g, b⟩ := D.ex
  exact ⟨f, fd, fun_gd F S len h, g, F.kp, b⟩
end
section
variable {X : Cx} {k j : Nat} {x : Str} {ps : List Str} {sp : Sp} {e : Expr} {es : List Expr} {t : TA} {p pos : Pos} {W : WX}
theorem pe_fG (hg0 : X.A.guards = some []) (c : ClG X.prog X.w X.K X.mg X.base k x ps sp) (tk : Takes X W) (hr : Room j X.A) (hk : k ≤ j) (hg : Gl X x) (ha : PA X (e :: es) t) (hdb : (x == ("__debug__" : Str)) = false := by decide)
    (he : starEach (e :: es) X.env = (false, eval e X.env) :: starEach es X.env := by rfl) (hpl : (backTo pos (starEach es X.env)).any (·.1) = false := by rfl) : PE X (.Call (.Name x p) (e :: es) [] pos) (tF sp [] W t) := by
  obtain ⟨f, fd, F, hm, hkp, hb⟩ := c.ex
  refine ⟨fun pins s σ H Q I h => wpAny_Call_Name_kw (ld_glob I hg hm (PySem.W.callWith_K (h₀ := X.base) I.ok.mod.kin hkp (thn (ha.run pos pins s σ H _ I h) fun us s1 ⟨vs, H1, I1, r, q⟩ => ⟨I1.kIn, ?_⟩) he hpl) hdb)⟩
  have r2 := r.append (.nil : Vals [] [])
  have hl : (us ++ []).length = ps.length := by rw [← r2.length]; exact F.len _ _ _ _ q
  refine wpAny_call (codeAny_mono (F.go X.A X.stack s1 H1 ⟨us, []⟩ (us ++ []) (vs ++ []) Q (WE W σ) hg0 (hr.mono hk) I1.env0 (hb s1 us I1.kIn hl) r2 q) fun y s' hq => ?_)
  match y, hq with
  | .error e, hq => exact passAt tk σ pins H1 s1 e s' I1 hq
  | .ok (.ret u), hq => exact I1.after hq
end
/-- a call without arguments of a def that lets nothing out -/
theorem pe_f0 {X : Cx} {k j : Nat} {x : Str} {ps : List Str} {sp : Sp} {p pos : Pos} (c : Cl X.prog X.w X.K X.mg X.base k x ps sp []) (hr : Room j X.A) (hk : k ≤ j) (hg : Gl X x) (hdb : (x == ("__debug__" : Str)) = false := by decide) : PE X (.Call (.Name x p) [] [] pos) (tCall sp [] E0 tNil) := by
  obtain ⟨f, fd, ds, F, hm, hkp, hb, hd⟩ := c.ex
  cases hd
  exact pe_call0 F (hr.mono hk) hg hm hkp hb .nil passL hdb
/-! ### repr, where none is under way -/
section
variable {X : Cx}
def rReprD (K : PySem.W.Frag) : List V → Hp → VK → Prop := fun xs H Q => (∃ (a : Addr) (d : PyData), xs = [.ref a] ∧ Dp K H (.ref a) d ∧ d.showable = true ∧ d.hasDict = false ∧ d.depth ≤ 60 ∧ d.shown.length ≤ sizeLine ∧ Q (.str d.shown) H) ∨
  (∃ i : Int, xs = [.int i] ∧ i.natAbs.log2 < 1920 ∧ Q (.str (toString i)) H) ∨ (∃ b : Bool, xs = [.bl b] ∧ Q (.str (if b then "True" else "False")) H) ∨ (xs = [.non] ∧ Q (.str "None") H) ∨
  ∃ a : Addr, xs = [.ref a] ∧ H a = some (.dK []) ∧ Q (.str (PyData.dict []).shown) H
/-- the same, closed -/
structure rRepr (K : PySem.W.Frag) (xs : List V) (H : Hp) (Q : VK) : Prop where
  is : rReprD K xs H Q
theorem call_repr (hg : X.A.guards = some []) (hu : X.A.units + 64 < cLine) : CallR X (.builtin "repr") (rRepr X.K) := by
  intro pins s σ H xs us Q I r h
  rcases h.is with ⟨a, d, rfl, hd, h1, h2, h3, h4, q⟩ | ⟨i, rfl, hz, q⟩ | ⟨b, rfl, q⟩ | ⟨rfl, q⟩ | ⟨a, rfl, hd, q⟩
  · obtain ⟨u, rfl, rx⟩ := vals1 r
    obtain ⟨as, rd⟩ := Dp.reads I d _ _ hd rx
    obtain rfl : u = Value.ref a := rx
    exact repr_of_reads' rd h1 (PyData.noDict_hsm h2) hg (by omega) (fun _ _ e => e) (fun h' u' tk hk => ⟨.str d.shown, H, I.kept hk, ⟨_, rfl⟩, q⟩) h4
  · obtain ⟨u, rfl, t, rfl⟩ := vals1 r
    exact PySem.P.repr_of_int hz ⟨.str _, H, I.tok _, ⟨_, rfl⟩, q⟩
  · obtain ⟨u, rfl, rx⟩ := vals1 r
    obtain rfl : u = Value.bool b := rx
    exact PySem.P.repr_of_bool ⟨.str _, H, I.tok _, ⟨_, rfl⟩, q⟩
  · obtain ⟨u, rfl, rx⟩ := vals1 r
    obtain rfl : u = Value.none := rx
    exact PySem.P.repr_of_none ⟨.str _, H, I.tok _, ⟨_, rfl⟩, q⟩
  · obtain ⟨u, rfl, rx⟩ := vals1 r
    obtain rfl : u = Value.ref a := rx
    obtain ⟨_, ns, vs, kv, dd⟩ := dk_of I.hok hd
    cases kv
    obtain ⟨o, n, es, ho, hc, hdat, hes⟩ : ∃ (o : Obj) (n : Nat) (es : Array DictEntry), s.heap.get? a = some o ∧ o.cls = .type "dict" ∧ o.data = .dict es n ∧ es = #[] := by
      obtain ⟨o, es, ep, ho, ex, hdat, _, pr, _⟩ := dd
      refine ⟨o, ep, es, ho, ex.1, hdat, ?_⟩
      have : es.toList = [] := by
        cases e : es.toList with
        | nil => rfl
        | cons y ys => rw [e] at pr; cases pr
      exact Array.toList_eq_nil_iff.mp this
    subst hes
    have rd : Reads s.heap (.ref a) (.dict []) (a :: [] ++ []) := .dict ho hc hdat .nil .nil
    exact repr_of_reads' rd (by decide) (fun _ hm => by simp at hm; rw [hm] at ns; simp at ns) hg (by have : (PyData.dict []).depth = 1 := rfl; omega) (fun _ _ e => e) (fun h' u' tk hk => ⟨.str _, H, I.kept hk, ⟨_, rfl⟩, q⟩) (by decide +kernel)
end
end Ew

set_option Elab.async false
set_option linter.all false
set_option maxRecDepth 100000
set_option maxHeartbeats 4000000
namespace Ew
open PySem PySem.Spec PyProof.Rows L2
section
variable {P : Program} {w : World} {K : PySem.W.Frag} {mg mb : Str → Option Value} {k : Nat} {fa a : Addr} {fd : FuncData} {x : Str} {sp : Sp} {st : Shared} {vs : List Value} {ns : List Int}
/-- what is needed of the heap in which the law is asked -/
structure Seed (P : Program) (w : World) (K : PySem.W.Frag) (h : Heap) (a : Addr) (ns : List Int) (H : Hp) : Prop where
  only : Only H
  sq : SqL K H a (ns.map V.int)
  ok : HOk P w H h
  lone : ∀ b, H b ≠ none → b = a
  apart : H a ≠ none → K.lookup a = none
theorem seed_of (KX : K.In st.heap) (ha : st.heap.get? a = some { cls := .type "list", data := .seq vs.toArray }) (hi : IntsAre vs ns) (hl : ns.length ≤ sizeLine) : ∃ H, Seed P w K st.heap a ns H := by
  have rv := vals_ints hi
  rcases hk : K.lookup a with _ | o
  · have off : ∀ b, ¬ b = a → (fun b => if b = a then some (HO.frz { cls := .type "list", data := .seq vs.toArray } (.lst (ns.map V.int))) else none) b = none := fun b n => if_neg n
    refine ⟨fun b => if b = a then some (.frz { cls := .type "list", data := .seq vs.toArray } (.lst (ns.map V.int))) else none, ⟨fun b => ?_, .inl (.inr ⟨_, if_pos rfl⟩), fun b u z => ?_, fun b z => ?_, fun _ => hk⟩⟩
    · rcases Classical.em (b = a) with e | e
      · exact .inr ⟨_, _, if_pos e⟩
      · exact .inl (off b e)
    · rcases Classical.em (b = a) with e | e
      · cases (if_pos e).symm.trans z
        rw [e]
        exact ⟨ha, by rw [List.length_map]; exact hl, vs, _, rv, ha⟩
      · cases (off b e).symm.trans z
    · exact Classical.byContradiction fun e => z (off b e)
  · have e := KX a o hk
    rw [ha] at e
    cases e
    refine ⟨fun _ => none, ⟨fun _ => .inl rfl, .inr ⟨_, vs.toArray, _, hk, rfl, rfl, rfl, ?_, by simpa using rv⟩, (fun b u z => nomatch z), (fun b z => absurd rfl z), fun z => absurd rfl z⟩⟩
    rw [List.size_toArray, hi.length]
    exact hl
theorem seed_env {H : Hp} (S : Seed P w K st.heap a ns H) (KX : K.In st.heap) (hns : st.heap.Ns mainGlobals mg) (hb : st.heap.Ns builtinsNs mb) (hbb : ∀ x : Str, x ≠ "__name__" → mb x = bootBuiltins x) (hlim : st.heap.NoLimit) (hg : st.gens = #[])
    (ha : st.heap.get? a = some { cls := .type "list", data := .seq vs.toArray }) : Mod K mg (hidT st.heap H) ∧ Env0 P w K mg (hidT st.heap H) callerA [] st H := by
  have free : ∀ {b : Addr}, ¬ b = a → H b = none := fun {b} n => Classical.byContradiction fun z => n (S.lone b z)
  have seen : ∀ {b : Addr} {m : Str → Option Value}, st.heap.Ns b m → (hidT st.heap H).Ns b m := by
    rintro b m ⟨o, es, ep, e, d, r⟩
    refine ⟨o, es, ep, hidT_get e (free fun q => ?_), d, r⟩
    rw [q, ha] at e
    cases e
    cases (show Data.seq vs.toArray _ = Data.dict es ep from d)
  have kin : K.In (hidT st.heap H) := fun b o e => by
    refine hidT_get (KX b o e) (Classical.byContradiction fun z => ?_)
    have q := S.lone b z
    rw [q] at z e
    rw [S.apart z] at e
    cases e
  obtain ⟨mc, l1, l2⟩ := hlim
  have md : Mod K mg (hidT st.heap H) := ⟨kin, seen hns, ⟨mb, seen hb, hbb⟩, mc, seen l1, l2⟩
  exact ⟨md, ⟨rfl, md, fun b o e => of_hidT e, Nat.le_of_eq (hidT_size _ _), trivial, fun b z => (nomatch z), S.ok, .of_eq hg⟩⟩
theorem law_callG (KX : K.In st.heap) (hns : st.heap.Ns mainGlobals mg) (hb : st.heap.Ns builtinsNs mb) (hbb : ∀ x : Str, x ≠ "__name__" → mb x = bootBuiltins x) (hlim : st.heap.NoLimit) (hg : st.gens = #[])
    (ha : st.heap.get? a = some { cls := .type "list", data := .seq vs.toArray }) (hi : IntsAre vs ns) (hl : ns.length ≤ sizeLine) (hr : Room k callerA)
    (F : ∀ base : Heap, K.In base → base.Ns mainGlobals mg → FnG P w K mg base k fa fd [x] sp) (hbind : ∀ (s : Shared) (u : Value), BindsTo s fd ⟨[u], []⟩ [(x, u)])
    (hsp : ∀ H : Hp, Only H → SqL K H a (ns.map V.int) → sp [.ref a] H (fun v _ => v = .bl true) fun _ _ _ => False) :
    codeAny (model P w) callerA (.call (.ref fa) ⟨[.ref a], []⟩) (fun r s' => r = .ok (.ret (.bool true)) ∧ OldK st.heap s'.heap ∧ s'.os = st.os ∧ AllBare s'.gens) st := by
  obtain ⟨H, S⟩ := seed_of (P := P) (w := w) KX ha hi hl
  obtain ⟨md, env⟩ := seed_env S KX hns hb hbb hlim hg ha
  refine codeAny_mono ((F _ md.kin md.glob).go callerA [] st H ⟨[.ref a], []⟩ [.ref a] [.ref a] _ _ rfl hr env (hbind st (.ref a)) (.cons rfl .nil) (hsp H S.only S.sq)) ?_
  intro r s' got
  match r, got with
  | .error e, got =>
    obtain ⟨_, _, _, _, _, _, _, _, _, _, _, _, z⟩ := got
    exact z.elim
  | .ok (.ret u), ⟨v, H', os, bare, un, hok', r', q⟩ =>
    have q : v = .bl true := q
    subst q
    have r' : u = Value.bool true := r'
    subst r'
    refine ⟨rfl, OldK.of_keep fun b o e => ?_, os, bare⟩
    rcases z : H b with _ | u
    · exact un.keep b o e z (fun y => nomatch y) (by simp)
    · rcases S.only b with y | ⟨ob, xs, y⟩
      · rw [z] at y
        cases y
      · obtain ⟨e1, _⟩ := S.ok b _ y
        obtain ⟨e2, _⟩ := hok' b _ (un.frzs b ob _ y)
        rw [e] at e1
        cases e1
        exact e2
end
theorem walk_G {l : PySem.W.OpenLaw} {n k : Nat} {q : Program} {loose : List Str} {XP : (Str → Option Value) → Heap → Prop} {YP : World → Heap → Prop} {d : DefRec} {K : Params → PySem.W.Frag} {sp : World → Sp} {x : Str}
    (hn : l.most = some n) (hn2 : n ≤ sizeLine) (hdf : d.params.defaults = []) (hr : Room k callerA) (hY : ∀ (w : World) (h : Heap), YP w h → (K w.params).In h)
    (F : ∀ (w : World) (mg : Str → Option Value) (fa : Addr) (h : Heap), (K w.params).In h → h.Ns mainGlobals mg → mg d.name = some (.ref fa) →
      ∃ fd : FuncData, (∀ (s : Shared) (u : Value), BindsTo s fd ⟨[u], []⟩ [(x, u)]) ∧ ∀ base : Heap, (K w.params).In base → base.Ns mainGlobals mg → FnG l.prog w (K w.params) mg base k fa fd [x] (sp w))
    (hsp : ∀ (w : World) (H : Hp) (a : Addr) (ns : List Int), ns.length ≤ n → Only H → SqL (K w.params) H a (ns.map V.int) → sp w [.ref a] H (fun v _ => v = .bl true) fun _ _ _ => False) :
    PySem.W.WalkO q loose XP YP l.row.toRowW d [] (fun f vs => PySem.call f vs) := by
  refine Att.attach_call hn hdf ?_
  intro w s₀ s₁ mg mb fa o pm cd doc a vs ns G Y ho hd hcd hmg hobj hints hlen hg
  obtain ⟨fd, bind, go⟩ := F w mg fa _ (hY w _ Y) G.T.g hmg
  exact law_callG (hY w _ Y) G.T.g G.T.b G.T.builtins G.T.nolimit hg hobj hints (Nat.le_trans hlen hn2) hr go bind fun H o s => hsp w H a ns hlen o s
end Ew

set_option Elab.async false
set_option linter.all false
set_option maxRecDepth 100000
set_option maxHeartbeats 4000000
namespace Ew
open PySem PySem.Spec PyProof.Rows L2
/-! ### an own class that is asked by [ ], in, len -/
section
variable {X : Cx} {CX : CXT} {k : Nat} {f C : Addr} {fd : FuncData} {ps : List Str} {sp : Sp} {E : L2.St → XK} {a b : Expr} {ta tb : TE} {pos : Pos}
/-- a call one step further in -/
theorem run_fn1 {pins : List (Addr × Obj)} {σ : L2.St} {H : Hp} {s : Shared} {Q : VK} {us : List Value} {vs : List V} {E0 : XK} (F : FnOk X.prog X.w X.K X.mg X.base CX k f fd ps sp) (hr : Room (k + 1) X.A) (hb : Binds X.K fd ps []) (hx : PassesAt CX X σ E0)
    (I : Inv X pins σ H s) (r : Vals vs us) (h : sp vs H Q E0) : wpAny (model X.prog X.w) X.A.in1 (call (.ref f) us) (EP X pins σ Q) X.xe s := by
  have hl : us.length = ps.length := by rw [← r.length]; exact F.len _ _ _ _ h
  have b := hb s us I.kIn (by rw [List.append_nil]; exact hl)
  rw [List.append_nil] at b
  refine wpAny_call (codeAny_mono (F.run X.A.in1 X.stack s H ⟨us, []⟩ us vs Q E0 hr.in1 I.env0.in1 b r h) fun r s' hq => ?_)
  cases r with
  | error e => exact hx pins H s e s' I hq
  | ok fl =>
    cases fl with
    | ret u => exact I.after hq
    | next => exact False.elim hq
    | brk => exact False.elim hq
    | cont => exact False.elim hq
def tIxO (C : Addr) (sp : Sp) (E : L2.St → XK) (ta tb : TE) : TE := fun σ H Q => ta σ H fun x H1 => tb σ H1 fun y H2 => ∃ p dx fs, x = .ref p ∧ H2 p = some (.ins C dx fs) ∧ sp [x, y] H2 Q (E σ)
/-- o[k], o of an own class -/
theorem pe_ixO (F : FnOk X.prog X.w X.K X.mg X.base CX k f fd ps sp) (hr : Room (k + 1) X.A) (M : OpM X.K C "__getitem__" f) (hf : PySem.W.fnIn X.K f = true) (hb : Binds X.K fd ps []) (hx : ∀ σ, PassesAt CX X σ (E σ)) (h1 : PE X a ta) (h2 : PE X b tb)
    (hsl : ∀ x i, subscripted b true (.ref x) i = runValue (.builtin "lifetime.subscript" ⟨[.ref x, i], []⟩)) : PE X (.Subscript a b pos) (tIxO C sp E ta tb) := by
  refine ⟨fun pins s σ H Q I h => Subscript_ (bin h1 h2 I h fun v u s2 x y H2 I2 rx ry q => ?_)⟩
  obtain ⟨p, dx, fs, rfl, e1, q⟩ := q
  cases rx
  obtain ⟨o1, J1⟩ := ins_at I2 e1
  obtain ⟨m, fr⟩ := I2.fr
  exact PySem.W.sub_K fr I2.ok.mod.kin J1 M.at_ hf M.fn (run_fn1 (vs := [.ref p, y]) F hr hb (hx σ) I2 (.cons rfl (.cons ry .nil)) q) (hsl _ _)
def tInO (C : Addr) (sp : Sp) (neg : Bool) (E : L2.St → XK) (ta tb : TE) : TE := fun σ H Q => ta σ H fun x H1 => tb σ H1 fun y H2 => ∃ p dx fs, y = .ref p ∧ H2 p = some (.ins C dx fs) ∧ sp [y, x] H2 (fun z H3 => ∃ r : Bool, z = .bl r ∧ Q (.bl (if neg = true then !r else r)) H3) (E σ)
theorem pc_inO (F : FnOk X.prog X.w X.K X.mg X.base CX k f fd ps sp) (hr : Room k X.A) (M : OpM X.K C "__contains__" f) (hb : Binds X.K fd ps []) (hx : ∀ σ, PassesAt CX X σ (E σ)) (h1 : PE X a ta) (h2 : PE X b tb) : PC X .In a b (tInO C sp false E ta tb) := by
  refine ⟨fun pins s σ H Q I h => bin h1 h2 I h fun v u s2 x y H2 I2 rx ry q => ?_⟩
  obtain ⟨p, dx, fs, rfl, e1, q⟩ := q
  cases ry
  obtain ⟨o1, J1⟩ := ins_at I2 e1
  obtain ⟨m, fr⟩ := I2.fr
  refine PySem.W.in_K fr I2.ok.mod.kin J1 M.at_ M.fn (thn (run_fnS (vs := [.ref p, x]) F hr hb (hx σ) I2 (.cons rfl (.cons rx .nil)) q) fun w s3 z => ?_)
  obtain ⟨v3, H3, I3, r3, t, rfl, q3⟩ := z
  cases r3
  exact wpAny_truthy_bool ⟨.bl t, H3, I3, rfl, q3⟩
theorem pc_ninO (F : FnOk X.prog X.w X.K X.mg X.base CX k f fd ps sp) (hr : Room k X.A) (M : OpM X.K C "__contains__" f) (hb : Binds X.K fd ps []) (hx : ∀ σ, PassesAt CX X σ (E σ)) (h1 : PE X a ta) (h2 : PE X b tb) : PC X .NotIn a b (tInO C sp true E ta tb) := by
  refine ⟨fun pins s σ H Q I h => bin h1 h2 I h fun v u s2 x y H2 I2 rx ry q => ?_⟩
  obtain ⟨p, dx, fs, rfl, e1, q⟩ := q
  cases ry
  obtain ⟨o1, J1⟩ := ins_at I2 e1
  obtain ⟨m, fr⟩ := I2.fr
  refine PySem.W.notIn_K fr I2.ok.mod.kin J1 M.at_ M.fn (thn (run_fnS (vs := [.ref p, x]) F hr hb (hx σ) I2 (.cons rfl (.cons rx .nil)) q) fun w s3 z => ?_)
  obtain ⟨v3, H3, I3, r3, t, rfl, q3⟩ := z
  cases r3
  exact wpAny_truthy_bool ⟨.bl (!t), H3, I3, rfl, q3⟩
/-- len(o), o of an own class; nothing is let out -/
def rLenO (C : Addr) (sp : Sp) (E0 : XK) : List V → Hp → VK → Prop := fun xs H Q => ∃ p dx fs, xs = [.ref p] ∧ H p = some (.ins C dx fs) ∧ sp [.ref p] H (fun z H3 => ∃ n : Int, z = .int n ∧ 0 ≤ n ∧ n < 2 ^ 63 ∧ Q (.int n) H3) E0
theorem call_lenO {E0 : XK} (F : FnOk X.prog X.w X.K X.mg X.base CX k f fd ps sp) (hr : Room (k + 1) X.A) (M : OpM X.K C "__len__" f) (hb : Binds X.K fd ps []) (hx : ∀ σ, PassesAt CX X σ E0) : CallR X (.builtin "len") (rLenO C sp E0) := by
  intro pins s σ H xs us Q I r h
  obtain ⟨p, dx, fs, rfl, e1, q⟩ := h
  obtain ⟨u, rfl, rx⟩ := vals1 r
  cases rx
  obtain ⟨o1, J1⟩ := ins_at I e1
  obtain ⟨m, fr⟩ := I.fr
  refine PySem.W.len_K fr I.ok.mod.kin J1 M.at_ M.fn (thn (run_fn1 (vs := [.ref p]) F hr hb (hx σ) I (.cons rfl .nil) q) fun w s3 z => ?_)
  obtain ⟨v3, H3, I3, r3, n, rfl, n0, n1, q3⟩ := z
  obtain ⟨t, rfl⟩ := r3
  exact ⟨⟨n0, n1⟩, .int n, H3, I3.tok _, ⟨_, rfl⟩, q3⟩
end
end Ew

set_option Elab.async false
set_option linter.all false
set_option maxRecDepth 100000
set_option maxHeartbeats 4000000
namespace Ew
open PySem PySem.Spec PyProof.Rows L2
/-! ### an own == with anything at its right -/
/-- what stands to the right: another of the class, a list, a tuple, a text, a number, a truth value, None -/
def RhsAny (K : PySem.W.Frag) (C : Addr) (H : Hp) (y : V) : Prop := y = .non ∨ (∃ b, y = .bl b) ∨ (∃ i, y = .int i) ∨ (∃ z, y = .str z) ∨ ∃ q, y = .ref q ∧ ((∃ dy gs, H q = some (.ins C dy gs)) ∨ (∃ ys, SqL K H q ys) ∨ ∃ ys, SqT K H q ys)
/-- none of these kinds comes ahead of the class -/
def NoFirst (K : PySem.W.Frag) (C : Addr) : Prop := ∀ T ∈ (["NoneType", "bool", "int", "str", "list", "tuple"] : List String), PySem.W.notFirst K C (.type T) = true
section
variable {X : Cx} {CX : CXT} {k : Nat} {f C : Addr} {fd : FuncData} {ps : List Str} {sp : Sp} {E : L2.St → XK} {a b : Expr} {ta tb : TE} {pos : Pos}
def tEqA (K : PySem.W.Frag) (C : Addr) (sp : Sp) (E : L2.St → XK) (ta tb : TE) : TE := fun σ H Q => ta σ H fun x H1 => tb σ H1 fun y H2 => ∃ p dx fs, x = .ref p ∧ H2 p = some (.ins C dx fs) ∧ RhsAny K C H2 y ∧ sp [x, y] H2 Q (E σ)
theorem looks_val {M : Model} {h : Heap} {v : Value} {T : String} (ht : ∀ s : Shared, s.TypeIs v T) : PySem.W.Looks M h (typeOf v) (.type T) := fun A Q E s _ z => wpAny_typeOf (ht s) z
theorem pc_eqA (F : FnOk X.prog X.w X.K X.mg X.base CX k f fd ps sp) (hr : Room k X.A) (M : OpM X.K C "__eq__" f) (ht : NoFirst X.K C) (hb : Binds X.K fd ps []) (hx : ∀ σ, PassesAt CX X σ (E σ))
    (h1 : PE X a ta) (h2 : PE X b tb) : PC X .Eq a b (tEqA X.K C sp E ta tb) := by
  refine ⟨fun pins s σ H Q I h => bin h1 h2 I h fun v u s2 x y H2 I2 rx ry q => ?_⟩
  obtain ⟨p, dx, fs, rfl, e1, r, q⟩ := q
  cases rx
  obtain ⟨o1, J1⟩ := ins_at I2 e1
  obtain ⟨m, fr⟩ := I2.fr
  have run := thn (run_fnS (vs := [.ref p, y]) F hr hb (hx σ) I2 (.cons rfl (.cons ry .nil)) q) fun _ _ z => back_of z
  show wpAny _ _ (richCompare .Eq (.ref p) u) _ _ _
  rcases r with rfl | ⟨c, rfl⟩ | ⟨i, rfl⟩ | ⟨z, rfl⟩ | ⟨q', rfl, r⟩
  · obtain rfl : u = Value.none := ry
    exact PySem.W.cmp_K (op := .Eq) hr.units0 fr I2.ok.mod.kin J1 (looks_val fun s => rfl) (ht "NoneType" (by simp)) M.at_ M.fn run
  · obtain rfl : u = Value.bool c := ry
    exact PySem.W.cmp_K (op := .Eq) hr.units0 fr I2.ok.mod.kin J1 (looks_val fun s => rfl) (ht "bool" (by simp)) M.at_ M.fn run
  · obtain ⟨t, rfl⟩ := ry
    exact PySem.W.cmp_K (op := .Eq) hr.units0 fr I2.ok.mod.kin J1 (looks_val fun s => rfl) (ht "int" (by simp)) M.at_ M.fn run
  · obtain ⟨t, rfl⟩ := ry
    exact PySem.W.cmp_K (op := .Eq) hr.units0 fr I2.ok.mod.kin J1 (looks_val fun s => rfl) (ht "str" (by simp)) M.at_ M.fn run
  · cases ry
    rcases r with ⟨dy, gs, e2⟩ | ⟨ys, e2⟩ | ⟨ys, e2⟩
    · obtain ⟨o2, J2⟩ := ins_at I2 e2
      exact PySem.W.cmp_K (op := .Eq) hr.units0 fr I2.ok.mod.kin J1 J2.type (by simp [PySem.W.notFirst]) M.at_ M.fn run
    · obtain ⟨its, rv, ⟨o, n, ho, hc, _⟩, _⟩ := I2.list e2
      exact PySem.W.cmp_K (op := .Eq) hr.units0 fr I2.ok.mod.kin J1 (fun A' Q' E' s' kp z => wpAny_typeOf_ref (kp _ _ ho) (by rw [hc]; exact z)) (ht "list" (by simp)) M.at_ M.fn run
    · obtain ⟨its, rv, ⟨o, ho, hc, _⟩, _⟩ := I2.tuple e2
      exact PySem.W.cmp_K (op := .Eq) hr.units0 fr I2.ok.mod.kin J1 (fun A' Q' E' s' kp z => wpAny_typeOf_ref (kp _ _ ho) (by rw [hc]; exact z)) (ht "tuple" (by simp)) M.at_ M.fn run
end
/-! ### the class's own methods, by their promises -/
structure OwC (P : Program) (w : World) (K : PySem.W.Frag) (mg : Str → Option Value) (base : Heap) (k : Nat) (C : Addr) (m : Str) (ps : List Str) (sp : Sp) : Prop where
  ex : ∃ f fd, OpM K C m f ∧ PySem.W.fnIn K f = true ∧ FnOk P w K mg base (L2.CX P w) k f fd ps sp ∧ Binds K fd ps []
section
variable {X : Cx} {k j : Nat} {C : Addr} {ps : List Str} {sp : Sp} {e1 e2 : Expr} {ta tb : TE} {pos : Pos} {W : WX}
theorem pe_ixC (c : OwC X.prog X.w X.K X.mg X.base k C "__getitem__" ps sp) (tk : Takes X W) (hr : Room j X.A) (hk : k + 1 ≤ j) (h1 : PE X e1 ta) (h2 : PE X e2 tb)
    (hsl : ∀ x i, subscripted e2 true (.ref x) i = runValue (.builtin "lifetime.subscript" ⟨[.ref x, i], []⟩)) : PE X (.Subscript e1 e2 pos) (tIxO C sp (WE W) ta tb) := by
  obtain ⟨f, fd, M, hf, F, hb⟩ := c.ex
  exact pe_ixO F (hr.mono hk) M hf hb (fun σ => passAt tk σ) h1 h2 hsl
theorem pc_inC (c : OwC X.prog X.w X.K X.mg X.base k C "__contains__" ps sp) (tk : Takes X W) (hr : Room j X.A) (hk : k ≤ j) (h1 : PE X e1 ta) (h2 : PE X e2 tb) : PC X .In e1 e2 (tInO C sp false (WE W) ta tb) := by
  obtain ⟨f, fd, M, hf, F, hb⟩ := c.ex
  exact pc_inO F (hr.mono hk) M hb (fun σ => passAt tk σ) h1 h2
theorem pc_ninC (c : OwC X.prog X.w X.K X.mg X.base k C "__contains__" ps sp) (tk : Takes X W) (hr : Room j X.A) (hk : k ≤ j) (h1 : PE X e1 ta) (h2 : PE X e2 tb) : PC X .NotIn e1 e2 (tInO C sp true (WE W) ta tb) := by
  obtain ⟨f, fd, M, hf, F, hb⟩ := c.ex
  exact pc_ninO F (hr.mono hk) M hb (fun σ => passAt tk σ) h1 h2
theorem pc_eqC (c : OwC X.prog X.w X.K X.mg X.base k C "__eq__" ps sp) (ht : NoFirst X.K C) (tk : Takes X W) (hr : Room j X.A) (hk : k ≤ j) (h1 : PE X e1 ta) (h2 : PE X e2 tb) : PC X .Eq e1 e2 (tEqA X.K C sp (WE W) ta tb) := by
  obtain ⟨f, fd, M, hf, F, hb⟩ := c.ex
  exact pc_eqA F (hr.mono hk) M ht hb (fun σ => passAt tk σ) h1 h2
theorem call_lenC (c : OwC X.prog X.w X.K X.mg X.base k C "__len__" ps sp) (hr : Room j X.A) (hk : k + 1 ≤ j) : CallR X (.builtin "len") (rLenO C sp E0) := by
  obtain ⟨f, fd, M, hf, F, hb⟩ := c.ex
  exact call_lenO F (hr.mono hk) M hb fun σ pins H s e s' I h => passL pins σ H s e s' I h
end
end Ew

set_option Elab.async false
set_option linter.all false
set_option maxRecDepth 100000
set_option maxHeartbeats 4000000
namespace Ew
open PySem PySem.Spec PyProof.Rows L2
/-! ### a walk over an own class whose __iter__ hands iter of a dict of its own -/
/-- what is known behind such a call -/
def KI (outer : List Env) (P : Program) (w : World) (H : Hp) (s : Shared) (d : Addr) (n ep : Nat) (u : Value) (s' : Shared) : Prop :=
  ∃ (it : Addr) (H' : Hp), u = .ref it ∧ H' = H ∧ s'.os = s.os ∧ AllBare s'.gens ∧ Un (frs outer) [] H H' s.heap s'.heap ∧ HOk P w H' s'.heap ∧ H' it = none ∧ s.heap.objs.size ≤ it ∧ s'.heap.IsKeyIter it d 0 n ep
def KR (outer : List Env) (P : Program) (w : World) (H : Hp) (s : Shared) (d : Addr) (n ep : Nat) (r : Result) (s' : Shared) : Prop :=
  match r with
  | .ok (.ret u) => KI outer P w H s d n ep u s'
  | .ok _ => False
  | .error e => L2.CX P w outer H s E0 e s'
section
variable {P : Program} {w : World} {K : PySem.W.Frag} {mg : Str → Option Value} {base : Heap}
structure FnI (P : Program) (w : World) (K : PySem.W.Frag) (mg : Str → Option Value) (base : Heap) (k : Nat) (f : Addr) (fd : FuncData) (C : Addr) (at_ : Str) : Prop where
  go : ∀ (A : Around) (outer : List Env) (s : Shared) (H : Hp) (args : Args) (a dx d : Addr) (fs : List (Str × V)) (o : Obj) (kvs : List (List Key × V)) (es : Array DictEntry) (ep : Nat), Room k A → Env0 P w K mg base A outer s H → BindsTo s fd args ([("self", .ref a)]) →
    H a = some (.ins C dx fs) → fs.lookup at_ = some (.ref d) → H d = some (.frz o (.dT kvs)) → o.data = .dict es ep →
    codeAny (model P w) A (.call (.ref f) args) (KR outer P w H s d kvs.length ep) s
theorem call_iter_dict {prog : Program} {A : Around} {E : Value → Shared → Prop} {s : Shared} {d : Addr} {o : Obj} {es : Array DictEntry} {ep : Nat} {Q : Value → Shared → Prop} (hd : (d == sysModules) = false) (ho : s.heap.get? d = some o) (hc : o.ExactDict) (hdat : o.data = .dict es ep)
    (hQ : Q (.ref s.heap.objs.size) { s with heap := s.heap.push { cls := .type "dict_keyiterator", data := .fields #[.ref d, .int 0 0, .int es.size 0, .int ep 0] } }) : wpAny (model prog w) A (call (.builtin "iter") [.ref d]) Q E s := by
  refine Calls.call_function_entry (by decide +kernel) (by decide +kernel) PySem.W.kdk_entry_iter (PySem.W.kdk_args_iter _) ?_
  unfold Builtin.«iter»
  refine wpAny_bind (m := someArgs "iter" 1 2 _) (wpAny_of_eq (a := [Value.ref d]) (by first | rfl | kernel_rfl!) ?_)
  show wpAny _ _ (pyIter (.ref d) >>= _) _ _ _
  refine wpAny_bind (iter_keys hd ho hc hdat ?_)
  exact wpAny_pure ⟨_, rfl, hQ⟩
theorem fun_it {q : Str} {st : Stmt} {f C : Addr} {fd : FuncData} {N : List Str} {k : Nat} {at_ : Str} {ea : Expr} {np cp rp : Pos} (F : Fun K "__iter__" q st f fd) (S : FnScope N ["self"] (defScope st)) (hb : defBody st = [.Return (some (.Call (.Name "iter" np) [ea] [] cp)) rp]) (hm : mg "iter" = none)
    (he : ∀ (cdv : Value) (A : Around) (outer : List Env) (s : Shared) (H : Hp), ∃ te : TE, PE (cxB P w K mg base N q st f cdv A outer s H E0) ea te ∧ Gl (cxB P w K mg base N q st f cdv A outer s H E0) "iter" ∧
      starEach [ea] (cxB P w K mg base N q st f cdv A outer s H E0).env = (false, eval ea (cxB P w K mg base N q st f cdv A outer s H E0).env) :: starEach [] (cxB P w K mg base N q st f cdv A outer s H E0).env ∧
      ∀ (H1 : Hp) (Q : VK) (a dx d : Addr) (fs : List (Str × V)), H1 a = some (.ins C dx fs) → fs.lookup at_ = some (.ref d) → Q (.ref d) H1 → te (start N [.ref a]) H1 Q) :
    FnI P w K mg base (k + 1) f fd C at_ := by
  obtain ⟨oc, od, kV, doc, pm, an, cdv, ct, osl, rfl, lk, hcd⟩ := F.ex
  refine ⟨?_⟩
  intro A outer s H args a dx d fs o kvs es ep room e0 bind ha hl hd hdat
  have kept : ∀ b o, base.get? b = some o → s.heap.get? b = some o := fun b o e => (e0.bs b o e).1
  have KX : K.In s.heap := e0.mod.kin.keeps kept
  have locals_ : ∀ y ∈ ([("self", Value.ref a)] : List (Str × Value)), (defScope st).names.lookup y.1 = some .local ∨ ((defScope st).names.lookup y.1 = some .cell ∧ ((cellsFrom (s.heap.objs.size + 1) (defScope st).names []).lookup y.1).isSome = true) := by
    rintro ⟨nm, v⟩ hy
    have hn : nm ∈ (["self"] : List Str) := by
      rcases List.mem_cons.mp hy with h | h
      · cases h; exact List.mem_cons_self
      · exact absurd h List.not_mem_nil
    refine (S.par nm hn).imp id fun q => ⟨q, ?_⟩
    exact PySem.W.cellsFrom_some _ _ _ (.inl q)
  refine codeAny_call_function room.depth (KX _ _ lk) rfl S.co S.gen rfl (PySem.W.codeRec_of KX hcd) (bind _ _ _ _ ?_)
  refine wpAny_newFunctionEnv_cells S.kind locals_ ?_
  rintro env rfl s1 x
  refine ⟨(e0.mod.nolimit.keeps kept).keeps x.toInCall.keep, codeAny_func ?_⟩
  obtain ⟨te, hpe, hg, hst, hte⟩ := he cdv A outer s H
  have I1 : Inv (cxB P w K mg base N q st f cdv A outer s H E0) [] (start N [.ref a]) H s1 := inv_start (us := [.ref a]) S room.hd e0 rfl (.cons rfl .nil) x
  have main : wpAny (model P w) (cxB P w K mg base N q st f cdv A outer s H E0).A (execs (defBody st) (cxB P w K mg base N q st f cdv A outer s H E0).env) (fun fl s' => ∃ it, fl = .ret (.ref it) ∧ (∃ σ', Inv (cxB P w K mg base N q st f cdv A outer s H E0) [] σ' H s') ∧ H it = none ∧ s.heap.objs.size ≤ it ∧ s'.heap.IsKeyIter it d 0 kvs.length ep) (cxB P w K mg base N q st f cdv A outer s H E0).xe s1 := by
    rw [hb]
    refine wpAny_execs_cons (thn (wpAny_Return_some (Q := fun fl s' => ∃ it, fl = .ret (.ref it) ∧ (∃ σ', Inv (cxB P w K mg base N q st f cdv A outer s H E0) [] σ' H s') ∧ H it = none ∧ s.heap.objs.size ≤ it ∧ s'.heap.IsKeyIter it d 0 kvs.length ep) (wpAny_Call_Name_kw (ld_blt I1 hg hm (by decide +kernel : bootBuiltins "iter" = some (.builtin "iter")) ?_ (by decide) (by decide)))) ?_)
    · refine PyProof.Rows.callWith_builtin1 (thn ((pa_cons hpe pa_nil (hs := hst)).run cp [] s1 (start N [.ref a]) H (fun vs H1 => vs = [.ref d] ∧ H1 = H) I1 (hte H _ a dx d fs ha hl ⟨rfl, rfl⟩)) fun us s2 z => ?_) hst (by rfl)
      obtain ⟨vs, H1, I2, r2, rfl, rfl⟩ := z
      obtain ⟨u, rfl, ru⟩ := vals1 r2
      obtain rfl : u = Value.ref d := ru
      obtain ⟨hs, hgd, hx, es', ep', hdt, hsz, ent⟩ := I2.frzT hd
      obtain ⟨rfl, rfl⟩ := dict_ep hdat hdt
      refine call_iter_dict hs hgd hx hdt ⟨_, rfl, ⟨_, I2.kept (t' := s2.toks) fun b ob e => Heap.get?_push_of_some _ e⟩, I2.hok.fresh (Nat.le_refl _), ?_, ⟨_, Heap.get?_push_size _ rfl, rfl, ?_⟩⟩
      · exact I2.sz
      · rw [hsz]
        rfl
    · rintro fl s' ⟨it, rfl, h⟩
      exact ⟨it, rfl, h⟩
  refine wpAny_mono main ?_ (fun e s' z => z)
  rintro fl s' ⟨it, rfl, ⟨σ', J⟩, h1, h2, h3⟩
  exact ⟨it, H, rfl, rfl, J.os, J.bare, J.base, J.hok, h1, h2, h3⟩
end
/-- an own class with such an __iter__, its promise -/
structure ItrC (P : Program) (w : World) (K : PySem.W.Frag) (mg : Str → Option Value) (base : Heap) (k : Nat) (C : Addr) (at_ : Str) : Prop where
  ex : ∃ f fd, OpM K C "__iter__" f ∧ FnI P w K mg base k f fd C at_ ∧ Binds K fd ["self"] []
section
variable {X : Cx} {tg e : Expr} {td : TE} {C : Addr} {at_ : Str} {k j : Nat}
def iOwn (C : Addr) (at_ : Str) (td : TE) : TI := fun σ H R => td σ H fun x H1 => ∃ a dx fs d o kvs, x = .ref a ∧ H1 a = some (.ins C dx fs) ∧ fs.lookup at_ = some (.ref d) ∧ H1 d = some (.frz o (.dT kvs)) ∧ R (Itkt d o kvs) H1
/-- for k in o, o of an own class -/
theorem pi_own (c : ItrC X.prog X.w X.K X.mg X.base k C at_) (hr : Room j X.A) (hk : k ≤ j) (he : PE X e td) : PI X tg e (iOwn C at_ td) := by
  obtain ⟨f, fd, M, FI, hb⟩ := c.ex
  refine ⟨fun pins s σ H R I h => thn (he.run pins s σ H _ I h) fun u s1 z => ?_⟩
  obtain ⟨x, H1, I1, rx, a, dx, fs, d, o, kvs, rfl, ha, hl, hd, q⟩ := z
  obtain rfl : u = Value.ref a := rx
  obtain ⟨od, J⟩ := ins_at I1 ha
  obtain ⟨m, fr⟩ := I1.fr
  obtain ⟨hs, hgd, hx, es, ep, hdt, hsz, ent⟩ := I1.frzT hd
  have b := hb s1 [.ref a] I1.kIn (by rfl)
  refine PySem.W.owit_iter fr I1.ok.mod.kin J M.at_ M.fn (wpAny_call (codeAny_mono (FI.go X.A X.stack s1 H1 ⟨[.ref a], []⟩ a dx d fs o kvs es ep (hr.mono hk) I1.env0 b ha hl hd hdt) fun r s' hq => ?_))
  match r, hq with
  | .error e, hq => exact passL pins σ H1 s1 e s' I1 hq
  | .ok (.ret u), hq =>
    obtain ⟨it, H', rfl, rfl, os, bare, un, hok, hn, hz, hit⟩ := hq
    obtain ⟨hh, g, dd, t, os'⟩ := s'
    obtain rfl : os' = s1.os := os
    have J2 := I1.call (h' := hh) (g' := g) (d' := dd) (t' := t) (ch := []) un hok bare (fun b z => absurd z (by simp))
    show PySem.W.OwitIt _ _ _ _ _ _
    unfold PySem.W.OwitIt
    refine wpAny_specialOf hit.typeIs PySem.F.slot_dict_keyiterator_next.lookup ?_
    refine ⟨it, [it], _, Itkt d o kvs, _, rfl, J2, turn_keysT it hdt, hit, fun b hb => ?_, q⟩
    have e : b = it := by simpa using hb
    subst e
    exact I1.fpOk hz hn
end
end Ew

set_option Elab.async false
set_option linter.all false
set_option maxRecDepth 100000
set_option maxHeartbeats 4000000
namespace Ew
open PySem PySem.Spec PyProof.Rows L2
/-! ### two dicts whose keys are tuples, side by side -/
section
variable {P : Program} {w : World} {A : Around} {E : Value → Shared → Prop} {s : Shared}
abbrev Turn1 := Option Bool × PUnit
/-- places asked one after the other, nothing is changed; the first no is the answer -/
theorem ask_places {Q : Turn1 → Shared → Prop} (b : Nat → Bool) (g : Nat → Turn1 → Sem (ForInStep Turn1)) : ∀ l : List Nat,
    (∀ i ∈ l, ∀ R : ForInStep Turn1 → Shared → Prop, R (if b i = true then .yield (none, ()) else .done (some false, ())) s → wpAny (model P w) A (g i (none, ())) R E s) →
    Q (if l.all b = true then (none, ()) else (some false, ())) s → wpAny (model P w) A (forIn l ((none, ()) : Turn1) g) Q E s
  | [], _, q => by
    rw [List.forIn_nil]
    exact wpAny_pure q
  | i :: l, h, q => by
    rw [List.forIn_cons]
    refine wpAny_bind (h i List.mem_cons_self _ ?_)
    rw [List.all_cons] at q
    cases e : b i with
    | false =>
      rw [e] at q
      exact wpAny_pure q
    | true =>
      rw [e] at q
      exact ask_places b g l (fun j hj => h j (List.mem_cons_of_mem _ hj)) q
variable {K : Type} [DecidableEq K] {kd : HeapKind P w K}
/-- what the pair at a place of the one says of the other -/
def sideB (ys : List (K × Addr × Value)) (e : K → Bool) (x : K × Addr × Value) : Bool := (ys.any fun y => decide (y.1 = x.1)) && e x.1
theorem one_of {ys : List (K × Addr × Value)} (hn : (ys.map (·.1)).Nodup) {i j : Nat} {k : K} {p q : Addr × Value} (h1 : ys[i]? = some (k, p)) (h2 : ys[j]? = some (k, q)) : p = q := by
  have e1 : (ys.map (·.1))[i]? = some k := by rw [List.getElem?_map, h1]; rfl
  have e2 : (ys.map (·.1))[j]? = some k := by rw [List.getElem?_map, h2]; rfl
  obtain ⟨hi, _⟩ := List.getElem?_eq_some_iff.mp e1
  have : i = j := (List.getElem?_inj hi hn).mp (e1.trans e2.symm)
  subst this
  exact (Prod.mk.inj (Option.some.inj (h1.symm.trans h2))).2
theorem side_by_side {nm : String} {a b : Addr} {xs ys : List (K × Addr × Value)} {e : K → Bool} {Q : Bool → Shared → Prop} (hu : kd.room A) (ha : (a == sysModules) = false) (hb : (b == sysModules) = false) (da : s.heap.DictOfH kd a xs) (db : s.heap.DictOfH kd b ys)
    (he : ∀ k p q, (k, p) ∈ xs → (k, q) ∈ ys → SeqAt.EqP P w A s p.2 q.2 (e k)) (q : Q (xs.length == ys.length && xs.all (sideB ys e)) s) : wpAny (model P w) A (Builtin.Dict.samePairs nm a b) Q E s := by
  obtain ⟨oa, ea, pa, ga, _, va, la, ka, _⟩ := da
  obtain ⟨ob, eb, pb, gb, _, vb, lb, kb, nb⟩ := db
  have sa : ea.size = xs.length := by rw [← Array.length_toList, la, List.length_map]
  have sb : eb.size = ys.length := by rw [← Array.length_toList, lb, List.length_map]
  simp only [Builtin.Dict.samePairs, Builtin.Dict.showsAll, ha, hb, Bool.false_eq_true, if_false]
  refine wpAny_bind (wpAny_pure (wpAny_bind (wpAny_pure (wpAny_bind (wpAny_dictEntries ga va (wpAny_bind (wpAny_dictEntries gb vb ?_)))))))
  rw [sa, sb]
  by_cases hl : xs.length = ys.length
  · rw [if_neg (by rw [hl]; simp)]
    rw [hl, beq_self_eq_true, Bool.true_and] at q
    refine wpAny_bind (wpAny_dictEpoch ga va (wpAny_bind ?_))
    rw [Std.Legacy.Range.forIn_eq_forIn_range']
    refine ask_places (fun i => (xs[i]?.map (sideB ys e)).getD true) _ _ (fun i hi R r => ?_) ?_
    · have il : i < xs.length := by
        have := List.mem_range'.mp hi
        simp at this
        omega
      obtain ⟨k, p, hx⟩ : ∃ k p, xs[i]? = some (k, p) := ⟨_, _, List.getElem?_eq_getElem il⟩
      have hm := List.mem_of_getElem? hx
      rw [hx] at r
      refine wpAny_bind (wpAny_dictEntries ga va ?_)
      rw [entry_at la, hx]
      refine wpAny_bind (wpAny_holding (wpAny_bind (wpAny_dictFind_heap (k := k) hu (ka _ hm) gb vb lb kb nb (fun no => ?_) fun j q hj => ?_)))
      · have f : sideB ys e (k, p) = false := by
          have n : (ys.any fun y => decide (y.1 = k)) = false := by
            rw [List.any_eq_false]
            rintro ⟨k2, q2⟩ hy
            obtain ⟨j, hj⟩ := List.mem_iff_getElem?.mp hy
            intro z
            obtain rfl : k2 = k := of_decide_eq_true z
            exact no j q2 hj
          rw [sideB, n, Bool.false_and]
        simp only [Option.map_some, Option.getD_some, f, Bool.false_eq_true, if_false] at r
        exact wpAny_pure (wpAny_pure r)
      · have hy := List.mem_of_getElem? hj
        have f : sideB ys e (k, p) = e k := by
          have n : (ys.any fun y => decide (y.1 = k)) = true := List.any_eq_true.mpr ⟨_, hy, decide_eq_true rfl⟩
          rw [sideB, n, Bool.true_and]
        simp only [Option.map_some, Option.getD_some, f] at r
        refine wpAny_bind (wpAny_dictEntries gb vb ?_)
        rw [entry_at lb, hj]
        refine wpAny_holding (he k p q hm hy _ _ ?_)
        cases ek : e k with
        | false =>
          rw [ek] at r
          exact wpAny_pure r
        | true =>
          rw [ek] at r
          refine wpAny_bind (wpAny_dictEpoch ga va ?_)
          rw [if_neg (by simp)]
          exact wpAny_pure r
    · have f : ((List.range' 0 xs.length 1).all fun i => (xs[i]?.map (sideB ys e)).getD true) = xs.all (sideB ys e) := by
        rw [Bool.eq_iff_iff, List.all_eq_true, List.all_eq_true]
        constructor
        · intro h x hx
          obtain ⟨i, hi⟩ := List.mem_iff_getElem?.mp hx
          have il := (List.getElem?_eq_some_iff.mp hi).1
          have := h i (List.mem_range'.mpr ⟨i, il, by simp⟩)
          rw [hi] at this
          exact this
        · intro h i hi
          cases hx : xs[i]? with
          | none => rfl
          | some x => exact h x (List.mem_of_getElem? hx)
      have g : (Std.Legacy.Range.size { start := 0, stop := xs.length, step := 1, step_pos := Nat.one_pos }) = xs.length := by
        simp [Std.Legacy.Range.size]
      rw [g, f]
      cases r : xs.all (sideB ys e) <;> (rw [r] at q; exact wpAny_pure q)
  · rw [if_pos (by simpa using hl)]
    have hf : (xs.length == ys.length) = false := by simpa using hl
    rw [hf, Bool.false_and] at q
    exact wpAny_bind (wpAny_rule (wpAny_pure q))
/-- a == b -/
theorem dd_eq {a b : Addr} {xs ys : List (K × Addr × Value)} {e : K → Bool} {Q : Value → Shared → Prop} (hc : A.units < cLine) (hu : kd.room A.in1) (ha : (a == sysModules) = false) (hb : (b == sysModules) = false) (da : s.heap.DictOfH kd a xs) (db : s.heap.DictOfH kd b ys)
    (he : ∀ k p q, (k, p) ∈ xs → (k, q) ∈ ys → SeqAt.EqP P w A.in1 s p.2 q.2 (e k)) (q : Q (.bool (xs.length == ys.length && xs.all (sideB ys e))) s) : wpAny (model P w) A (richCompare .Eq (.ref a) (.ref b)) Q E s := by
  have ta : s.TypeIs (.ref a) "dict" := da.typeIs
  have tb : s.TypeIs (.ref b) "dict" := db.typeIs
  refine wpAny_richCompare_same_room (op := .Eq) ta tb PySem.F.slot_dict_eq ?_ hc
  refine wpAny_call_entry PySem.F.slot_dict_eq ta PySem.F.entry_dict_eq ?_ (PySem.F.args_dict_eq_2 _ _)
  refine wpAny_bind (m := Builtin.Dict.dictSlotArgs "__eq__" ⟨[.ref a, .ref b], []⟩) (wpAny_bind (wpAny_notOrdered_dict ta (wpAny_pure ?_)))
  refine wpAny_bind (wpAny_isInstance (T := "dict") (b := true) tb PySem.F.sub_dict_dict ?_)
  refine wpAny_bind (m := Builtin.Dict.addrOf (.ref a)) (wpAny_pure (wpAny_bind (m := Builtin.Dict.addrOf (.ref b)) (wpAny_pure (wpAny_bind (side_by_side hu ha hb da db he ?_)))))
  have f : Q (.bool ((xs.length == ys.length && xs.all (sideB ys e)) == true)) s := by
    rw [beq_true]
    exact q
  refine wpAny_pure ⟨_, rfl, ?_, f⟩
  rintro ⟨⟩
end
/-! ### == of two such dicts by what the reading says of them -/
def inB (kb : List (List Key × V)) (e : List Key → Bool) (p : List Key × V) : Bool := (kb.any fun q => decide (q.1 = p.1)) && e p.1
def rEqT (K : PySem.W.Frag) : R2 := fun x y H Q => ∃ a b ka kb e, x = .ref a ∧ y = .ref b ∧ Rd H a (.dT ka) ∧ Rd H b (.dT kb) ∧
  (∀ k v u, (k, v) ∈ ka → (k, u) ∈ kb → ∃ d1 d2, Dp K H v d1 ∧ Dp K H u d2 ∧ SeqAt.shaped d1 = true ∧ SeqAt.shaped d2 = true ∧ PyData.eqv d1 d2 = e k) ∧ Q (.bl (ka.length == kb.length && ka.all (inB kb e))) H
theorem kt_back {H : Hp} {ks : List (List Key × V)} {xs : List (List Key × Addr × Value)} (r : KT H ks xs) : ∀ k p, (k, p) ∈ xs → ∃ v, (k, v) ∈ ks ∧ RelV v p.2 := by
  induction r with
  | nil => exact fun k p h => nomatch h
  | cons h t ih =>
    intro k p m
    rcases List.mem_cons.mp m with z | z
    · subst z
      exact ⟨_, List.mem_cons.mpr (.inl (Prod.ext h.1.symm rfl)), h.2.2⟩
    · obtain ⟨v, hv, rv⟩ := ih k p z
      exact ⟨v, List.mem_cons_of_mem _ hv, rv⟩
theorem kt_len {H : Hp} {ks : List (List Key × V)} {xs : List (List Key × Addr × Value)} (r : KT H ks xs) : xs.length = ks.length := by
  induction r with
  | nil => rfl
  | cons h t ih => rw [List.length_cons, List.length_cons, ih]
theorem kt_any {H : Hp} {ks : List (List Key × V)} {xs : List (List Key × Addr × Value)} (r : KT H ks xs) (k : List Key) : (xs.any fun y => decide (y.1 = k)) = ks.any fun q => decide (q.1 = k) := by
  induction r with
  | nil => rfl
  | cons h t ih => rw [List.any_cons, List.any_cons, ih, h.1]
theorem kt_all {H : Hp} {ka kb : List (List Key × V)} {xs ys : List (List Key × Addr × Value)} (r : KT H ka xs) (t : KT H kb ys) (e : List Key → Bool) : xs.all (sideB ys e) = ka.all (inB kb e) := by
  induction r with
  | nil => rfl
  | cons h _ ih => rw [List.all_cons, List.all_cons, ih, sideB, inB, kt_any t, h.1]
theorem op_eqT {X : Cx} (hu : X.A.units + 65 < cLine) : OpR X (compareOp .Eq) (rEqT X.K) := by
  intro pins s σ H x y v u Q I rx ry h
  obtain ⟨a, b, ka, kb, e, rfl, rfl, ea, eb, he, q⟩ := h
  obtain rfl : v = Value.ref a := rx
  obtain rfl : u = Value.ref b := ry
  obtain ⟨_, na, xs, ra, da⟩ := dt_rd I.hok ea
  obtain ⟨_, nb, ys, rb, db⟩ := dt_rd I.hok eb
  refine dd_eq (e := e) (by omega) (show X.A.in1.units < cLine from ?_) na nb da db (fun k p z hp hz => ?_) ?_
  · show X.A.units + 1 < cLine
    omega
  · obtain ⟨v1, m1, r1⟩ := kt_back ra k p hp
    obtain ⟨v2, m2, r2⟩ := kt_back rb k z hz
    obtain ⟨d1, d2, h1, h2, s1, s2, f⟩ := he k v1 v2 m1 m2
    obtain ⟨as, w1⟩ := Dp.reads I d1 v1 _ h1 r1
    obtain ⟨bs, w2⟩ := Dp.reads I d2 v2 _ h2 r2
    rw [← f]
    exact (PySem.W.keq_at w1 w2 s1 s2 (show X.A.units + 1 + 64 < cLine by omega)).eqP
  · rw [kt_len ra, kt_len rb, kt_all ra rb]
    exact ⟨.bl _, H, I, rfl, q⟩
end Ew

set_option Elab.async false
set_option linter.all false
set_option maxRecDepth 100000
set_option maxHeartbeats 4000000
namespace Ew
open PySem PySem.Spec PyProof.Rows L2
/-! ### a def that an except suite calls with the error it holds; nothing leaves it but by return -/
section
variable {P : Program} {w : World} {K : PySem.W.Frag} {mg : Str → Option Value} {base : Heap}
/-- the error at a, of the class cls, its dict d -/
abbrev SpE := Addr → Value → Option Addr → Sp
structure FnE (P : Program) (w : World) (K : PySem.W.Frag) (mg : Str → Option Value) (base : Heap) (k : Nat) (f : Addr) (fd : FuncData) (ps : List Str) (sp : SpE) : Prop where
  len : ∀ a cls d vs H Q E, sp a cls d vs H Q E → vs.length = ps.length
  go : ∀ (A : Around) (outer : List Env) (s : Shared) (H : Hp) (args : Args) (us : List Value) (vs : List V) (Q : VK) (E : XK) (a : Addr) (oe : Obj) (cls : Value) (d : Option Addr), A.guards = some [] → A.handled = some (.ref a) → Zc cls d oe → (∃ vs, oe.data = .fields vs) →
    L2H.RoomH k A → L2H.PinOk outer H s (a, oe) → Env0 P w K mg base A outer s H → BindsTo s fd args (ps.zip us) → Vals vs us → sp a cls d vs H Q E → codeAny (model P w) A (.call (.ref f) args) (CR (L2.CX P w) outer P w H s Q E) s
def BodyE (P : Program) (w : World) (K : PySem.W.Frag) (mg : Str → Option Value) (base : Heap) (N : List Str) (qual : Str) (st : Stmt) (k : Nat) (sp : SpE) : Prop :=
  ∀ (f : Addr) (cdv : Value) (A : Around) (outer : List Env) (s : Shared) (H : Hp) (vs : List V) (Q : VK) (E : XK) (a : Addr) (oe : Obj) (cls : Value) (d : Option Addr), (cxB P w K mg base N qual st f cdv A outer s H E).A.guards = some [] → Zc cls d oe → (∃ vs, oe.data = .fields vs) →
    L2H.RoomH k (cxB P w K mg base N qual st f cdv A outer s H E).A → sp a cls d vs H Q E →
    ∃ t, PSs ((cxB P w K mg base N qual st f cdv A outer s H E).suite a [(a, oe)]) (defBody st) t ∧ t { nx := fun _ H' => Q .non H', rt := Q } (start N vs) H
theorem mark_same {A : Around} {h : Option Value} (e : A.handled = h) : A.mark h = A := by
  subst e
  obtain ⟨h, d, fr, g, u⟩ := A
  cases h <;> rfl
theorem fun_hot {x qual : Str} {st : Stmt} {f : Addr} {fd : FuncData} {ps N : List Str} {k : Nat} {sp : SpE} (F : Fun K x qual st f fd) (S : FnScope N ps (defScope st)) (len : ∀ a cls d vs H Q E, sp a cls d vs H Q E → vs.length = ps.length) (h : BodyE P w K mg base N qual st k sp) :
    FnE P w K mg base (k + 1) f fd ps sp := by
  obtain ⟨oc, od, kV, doc, pm, an, cdv, ct, osl, rfl, lk, hcd⟩ := F.ex
  refine ⟨len, ?_⟩
  intro A outer s H args us vs Q E a oe cls d hg hh hz hf room pin e0 bind rel ask
  have many := len _ _ _ _ _ _ _ ask
  have kept : ∀ b o, base.get? b = some o → s.heap.get? b = some o := fun b o e => (e0.bs b o e).1
  have KX : K.In s.heap := e0.mod.kin.keeps kept
  have locals_ : ∀ y ∈ ps.zip us, (defScope st).names.lookup y.1 = some .local ∨ ((defScope st).names.lookup y.1 = some .cell ∧ ((cellsFrom (s.heap.objs.size + 1) (defScope st).names []).lookup y.1).isSome = true) := by
    rintro ⟨nm, v⟩ hy
    refine (S.par nm (List.of_mem_zip hy).1).imp id fun q => ⟨q, ?_⟩
    exact PySem.W.cellsFrom_some _ _ _ (.inl q)
  refine codeAny_call_function room.depth (KX _ _ lk) rfl S.co S.gen rfl (PySem.W.codeRec_of KX hcd) (bind _ _ _ _ ?_)
  refine wpAny_newFunctionEnv_cells S.kind locals_ ?_
  rintro env rfl s1 x
  refine ⟨(e0.mod.nolimit.keeps kept).keeps x.toInCall.keep, codeAny_func ?_⟩
  obtain ⟨t, ht, goal⟩ := h f cdv A outer s H vs Q E a oe cls d hg hz hf (room.deeper _) ask
  have J := L2H.inv_startH (CX := L2.CX P w) (E := E) (f := f) (cd := cdv) (qual := qual) S pin e0 many rel x
  have ok := J.ok
  have I : Inv ((cxB P w K mg base N qual st f cdv A outer s H E).suite a [(a, oe)]) [] (start N vs) H s1 :=
    ⟨⟨ok.mod, ok.kind, ok.glob, ok.blt, ok.above, ok.inj, ok.has, ok.cab, fun z => Bool.noConfusion (show false = true from z), ok.frames, ok.stk, ok.exf, ok.bs, ok.bsz, ok.noex, ok.exfs, ok.funs, ok.frf⟩, J.os, J.bare, J.base, J.loc, J.cell, J.free, J.freeC, J.pin, J.hok, J.len⟩
  have r := ht.run [] s1 (start N vs) H _ I goal
  have same : ((cxB P w K mg base N qual st f cdv A outer s H E).suite a [(a, oe)]).A = (cxB P w K mg base N qual st f cdv A outer s H E).A := mark_same hh
  rw [same] at r
  refine wpAny_mono r ?_ fun e s' z => z.elim
  intro fl s' end_
  match fl, end_ with
  | .ret u, ⟨v, σ', H', J, rv, q⟩ => exact ⟨v, H', J.os, J.bare, J.base, J.hok, rv, q⟩
  | .next, ⟨σ', H', J, q⟩ => exact ⟨.non, H', J.os, J.bare, J.base, J.hok, rfl, q⟩
  | .brk, ⟨_, _, _, q⟩ => exact q.elim
  | .cont, ⟨_, _, _, q⟩ => exact q.elim
structure ClE (P : Program) (w : World) (K : PySem.W.Frag) (mg : Str → Option Value) (base : Heap) (k : Nat) (x : Str) (ps : List Str) (sp : SpE) : Prop where
  ex : ∃ f fd, FnE P w K mg base k f fd ps sp ∧ mg x = some (.ref f) ∧ PySem.W.keepIn K (.ref f) = true ∧ Binds K fd ps []
theorem DefAt.clE {x : Str} {st : Stmt} {ps N : List Str} {k : Nat} {sp : SpE} (D : DefAt K mg x st ps) (S : FnScope N ps (defScope st)) (len : ∀ a cls d vs H Q E, sp a cls d vs H Q E → vs.length = ps.length) (h : BodyE P w K mg base N x st k sp) : ClE P w K mg base (k + 1) x ps sp := by
  obtain ⟨f, fd, F, g, b⟩ := D.ex
  exact ⟨f, fd, fun_hot F S len h, g, F.kp, b⟩
end
section
variable {X : Cx} {k j : Nat} {x : Str} {ps : List Str} {sp : SpE} {e : Expr} {es : List Expr} {t : TA} {p pos : Pos} {a : Addr} {oe : Obj} {cls : Value} {d : Option Addr} {pn : List (Addr × Obj)}
theorem pe_fE (hg0 : X.A.guards = some []) (c : ClE X.prog X.w X.K X.mg X.base k x ps sp) (hz : Zc cls d oe) (hf : ∃ vs, oe.data = .fields vs) (hr : Room j X.A) (hk : k ≤ j) (hg : Gl X x) (ha : PA (X.suite a ((a, oe) :: pn)) (e :: es) t) (hdb : (x == ("__debug__" : Str)) = false := by decide)
    (he : starEach (e :: es) X.env = (false, eval e X.env) :: starEach es X.env := by rfl) (hpl : (backTo pos (starEach es X.env)).any (·.1) = false := by rfl) : PE (X.suite a ((a, oe) :: pn)) (.Call (.Name x p) (e :: es) [] pos) (tCall (sp a cls d) [] E0 t) := by
  obtain ⟨f, fd, F, hm, hkp, hb⟩ := c.ex
  have hr := hr.mono hk
  refine ⟨fun pins s σ H Q I h => wpAny_Call_Name_kw (ld_glob I hg hm (PySem.W.callWith_K (h₀ := X.base) I.ok.mod.kin hkp (thn (ha.run pos pins s σ H _ I h) fun us s1 ⟨vs, H1, I1, r, q⟩ => ⟨I1.kIn, ?_⟩) he hpl) hdb)⟩
  have r2 := r.append (.nil : Vals [] [])
  have hl : (us ++ []).length = ps.length := by rw [← r2.length]; exact F.len _ _ _ _ _ _ _ q
  have P1 := I1.pin (a, oe) (List.mem_append_left _ List.mem_cons_self)
  have pin : L2H.PinOk X.stack H1 s1 (a, oe) := ⟨P1.1, P1.2.1, fun hm => (List.mem_cons.mp (I1.stkSub a hm)).elim P1.2.2.1 P1.2.2.2.1, P1.2.2.2.2⟩
  refine wpAny_call (codeAny_mono (F.go _ X.stack s1 H1 ⟨us, []⟩ (us ++ []) (vs ++ []) Q E0 a oe cls d hg0 rfl hz hf ⟨hr.dp, hr.un⟩ pin I1.env0 (hb s1 us I1.kIn hl) r2 q) fun y s' hq => ?_)
  match y, hq with
  | .error e, hq => exact passL pins σ H1 s1 e s' I1 hq
  | .ok (.ret u), hq => exact I1.after hq
end
end Ew

set_option Elab.async false
set_option linter.all false
set_option maxRecDepth 100000
set_option maxHeartbeats 4000000
namespace Ew
open PySem PySem.Spec PyProof.Rows L2
/-! ### a new instance whose __init__ may let an error out, at the slots where it is made -/
section
variable {X : Cx} {k j : Nat} {x : Str} {C : Addr} {ps : List Str} {sp : Sp} {e : Expr} {es : List Expr} {t : TA} {p pos : Pos} {W : WX}
def tMkW (C : Addr) (sp : Sp) (W : WX) (t : TA) : TE := fun σ H Q => t σ H fun vs H1 => ∀ o d, H1 o = none → H1 d = none → d ≠ o →
  sp (.ref o :: vs) (upd (upd H1 d (.own o)) o (.ins C d [])) (fun v H2 => v = .non ∧ Q (.ref o) H2) (WE W σ)
theorem pe_mkW (c : Mkr X.prog X.w X.K X.mg X.base k x C ps sp) (tk : Takes X W) (hr : Room j X.A) (hk : k + 1 ≤ j) (hg : Gl X x) (ha : PA X (e :: es) t) (hdb : (x == ("__debug__" : Str)) = false := by decide)
    (he : starEach (e :: es) X.env = (false, eval e X.env) :: starEach es X.env := by rfl) (hpl : (backTo pos (starEach es X.env)).any (·.1) = false := by rfl) : PE X (.Call (.Name x p) (e :: es) [] pos) (tMkW C sp W t) := by
  obtain ⟨f, fd, M, F, hb⟩ := c.ex
  have room : Room (k + 1) X.A := hr.mono hk
  refine ⟨fun pins s σ H Q I h => wpAny_Call_Name_kw (ld_glob I hg c.gC (PySem.W.callWith_K (h₀ := X.base) I.ok.mod.kin M.kp (thn (ha.run pos pins s σ H _ I h) fun us s1 z => ?_) he hpl) hdb)⟩
  obtain ⟨vs, H1, J, r, q⟩ := z
  refine ⟨J.kIn, ?_⟩
  have ask := q (s1.heap.objs.size + 1) s1.heap.objs.size (J.hok.fresh (Nat.le_succ _)) (J.hok.fresh (Nat.le_refl _)) (Nat.ne_of_lt (Nat.lt_succ_self _))
  have both : Vals (V.ref (s1.heap.objs.size + 1) :: vs) (Value.ref (s1.heap.objs.size + 1) :: us) := .cons rfl r
  have many : (Value.ref (s1.heap.objs.size + 1) :: us).length = ps.length := both.length ▸ F.len _ _ _ _ ask
  have J2 := Inv.made (C := C) J
  have bind := hb _ (Value.ref (s1.heap.objs.size + 1) :: us) J2.kIn (by rw [List.append_nil]; exact many)
  rw [List.append_nil] at bind
  have go := F.run _ X.stack _ _ ⟨Value.ref (s1.heap.objs.size + 1) :: us, []⟩ _ _ _ _ (room.make C us []) (J2.env0.make C us []) bind both ask
  refine wpAny_call (make_map (f := f) J.kIn M.makes M.init (beq_iff_eq.mp M.fn) (codeAny_mono go fun y s' end_ => ?_))
  match y, end_ with
  | .error e, end_ => exact passAt tk σ pins _ _ e s' J2 end_
  | .ok (.ret u), end_ =>
    obtain ⟨v, H', J3, rv, rfl, q3⟩ := J2.after end_
    exact ⟨rv, .ref _, H', J3, rfl, q3⟩
end
end Ew

set_option Elab.async false
set_option linter.all false
set_option maxRecDepth 100000
set_option maxHeartbeats 4000000
namespace Ew
open PySem PySem.Spec PyProof.Rows L2
/-! ### list(o), o of an own class with __len__, whose __iter__ hands iter of a dict of its own -/
section
variable {P : Program} {w : World} {A : Around} {E : Value → Shared → Prop} {s : Shared} {K : PySem.W.Frag} {a f C : Addr} {ox : Obj} {od : Option Obj}
/-- the length is asked, and some room is made where it is above 0 -/
theorem own_length {Q : Bool → Shared → Prop} (hK : K.In s.heap) (J : PySem.W.InstAt s.heap a ox C od) (M : OpM K C "__len__" f)
    (h : wpAny (model P w) A (call (.builtin "len") [.ref a]) (fun v s' => ∃ (n : Nat) (t : Tok), v = .int n t ∧ n ≤ sizeLine ∧ Q (n != 0) s') (fun _ _ => False) s) : wpAny (model P w) A (Builtin.List.listLengthHint (.ref a)) Q E s := by
  unfold Builtin.List.listLengthHint
  refine wpAny_bind (wpAny_bind (J.type.here ((PySem.W.looks_findIn hK M.at_).here ?_)))
  refine PySem.W.KFB.if_not rfl ?_
  refine wpAny_ite_split (fun _ => ?_) (fun z => absurd (show (some (Value.ref f)).isSome = true from rfl) z)
  refine wpAny_bind (wpAny_rule ?_)
  refine wpAny_bind (wpAny_attempt (wpAny_mono h (fun v s' hv => ?_) fun e s' he => ?_))
  · obtain ⟨n, t, rfl, hn, q⟩ := hv
    refine wpAny_bind (wpAny_pure ?_)
    have hl : Builtin.List.listTooLong ((n : Nat) : Int).toNat = false := by
      unfold Builtin.List.listTooLong
      simpa using hn
    show wpAny _ _ (if Builtin.List.listTooLong ((n : Nat) : Int).toNat = true then _ else pure (((n : Nat) : Int) != 0)) _ _ _
    rw [if_neg (by rw [hl]; decide)]
    refine wpAny_pure ?_
    have e : (((n : Nat) : Int) != 0) = (n != 0) := by
      rw [Bool.eq_iff_iff]
      simp
    rw [e]
    exact q
  · exact he.elim
end
section
variable {X : Cx} {pins : List (Addr × Obj)} {σ : L2.St} {H : Hp} {s : Shared} {k : Nat} {f : Addr} {fd : FuncData} {ps : List Str} {sp : Sp}
/-- somewhere below the running body -/
structure Low (X : Cx) (k : Nat) (A : Around) : Prop where
  room : Room k A
  fr : A.frames = X.A.frames
theorem Low.env0 {A : Around} (l : Low X k A) (I : Inv X pins σ H s) : Env0 X.prog X.w X.K X.mg X.base A X.stack s H := by
  have e := I.env0
  exact ⟨l.fr.trans e.frames, e.mod, e.bs, e.bsz, e.funs, e.frf, e.hok, e.bare⟩
/-- a call there of a def that lets nothing out -/
theorem run_low {A : Around} {Q : VK} {us : List Value} {vs : List V} {E : Value → Shared → Prop} (F : FnOk X.prog X.w X.K X.mg X.base (L2.CX X.prog X.w) k f fd ps sp) (l : Low X k A) (hb : Binds X.K fd ps [])
    (I : Inv X pins σ H s) (r : Vals vs us) (h : sp vs H Q E0) : wpAny (model X.prog X.w) A (call (.ref f) us) (EP X pins σ Q) E s := by
  have many : us.length = ps.length := r.length ▸ F.len _ _ _ _ h
  have bind := hb s us I.kIn (by rw [List.append_nil]; exact many)
  rw [List.append_nil] at bind
  refine wpAny_call (codeAny_mono (F.run A X.stack s H ⟨us, []⟩ us vs Q E0 l.room (l.env0 I) bind r h) fun y s' end_ => ?_)
  match y, end_ with
  | .error e, ⟨_, _, _, _, _, _, _, _, _, _, _, _, bad⟩ => exact bad.elim
  | .ok (.ret u), end_ => exact I.after end_
end
section
variable {X : Cx} {C : Addr} {at_ : Str} {k j : Nat} {sp : Sp}
/-- the keys of such a dict, off a row of addresses -/
theorem keys_row {H : Hp} : ∀ {kvs : List (List Key × V)} {vs : List Value}, vs.length = kvs.length → (∀ (i : Nat) (k : List Key) (v : V), kvs[i]? = some (k, v) → ∃ b : Addr, vs[i]? = some (Value.ref b) ∧ H b = some (.tup (k.map kV))) →
    ∃ bs, IsKeys H kvs bs ∧ vs = bs.map Value.ref ∧ Vals (bs.map V.ref) vs
  | [], [], _, _ => ⟨[], .nil, rfl, .nil⟩
  | (k, v) :: kvs, u :: vs, hl, h => by
    obtain ⟨b, e, hb⟩ := h 0 k v rfl
    obtain rfl : u = .ref b := Option.some.inj e
    obtain ⟨bs, h1, h2, h3⟩ := keys_row (by simpa using hl) fun i k v e => h (i + 1) k v e
    exact ⟨b :: bs, .cons hb h1, by rw [h2]; rfl, .cons rfl h3⟩
def rListC (C : Addr) (at_ : Str) (sp : Sp) : List V → Hp → VK → Prop := fun xs H Q => ∃ a dx fs d o kvs, xs = [.ref a] ∧ H a = some (.ins C dx fs) ∧ fs.lookup at_ = some (.ref d) ∧ H d = some (.frz o (.dT kvs)) ∧
  (∀ q, H q = none → sp [.ref a] (upd H q (.lst [])) (fun z H3 => ∃ n : Nat, z = .int n ∧ n ≤ sizeLine ∧ H3 = upd H q (.lst [])) E0) ∧ ∀ p bs, H p = none → IsKeys H kvs bs → Q (.ref p) (upd H p (.lst (bs.map V.ref)))
theorem call_listC (hc : X.calm = true) (ci : ItrC X.prog X.w X.K X.mg X.base k C at_) (cl : OwC X.prog X.w X.K X.mg X.base k C "__len__" ["self"] sp) (hr : Room j X.A) (hk : k + 3 ≤ j) : CallR X (.type "list") (rListC C at_ sp) := by
  intro pins s σ H xs us Q I r h
  obtain ⟨a, dx, fs, d, o, kvs, rfl, ha, hl, hd, hlen, q⟩ := h
  obtain ⟨u, rfl, rx⟩ := vals1 r
  obtain rfl : u = Value.ref a := rx
  obtain ⟨fi, fdi, Mi, FI, bi⟩ := ci.ex
  obtain ⟨fl, fdl, Ml, _, FL, bl⟩ := cl.ex
  refine callType_codes (Q₁ := fun obj s₁ => obj = .ref s.heap.objs.size ∧ s₁ = { s with heap := s.heap.push { cls := .type "list", data := .seq #[] } }) PySem.F.called_list (PySem.F.typeCall_list_1 _) PySem.F.entry_list_init (code_list_new _ ⟨rfl, rfl⟩) ?_
  rintro obj s1 ⟨rfl, rfl⟩
  have I1 : Inv X pins σ (upd H s.heap.objs.size (.lst [])) { s with heap := s.heap.push { cls := .type "list", data := .seq #[] } } := I.lnew (its := []) (t' := s.toks) .nil (Nat.zero_le _)
  have free := I.fresh
  have pa : a ≠ s.heap.objs.size := ne_of_none ha free
  have pd : d ≠ s.heap.objs.size := ne_of_none hd free
  obtain ⟨_, its, n, r1, l1, g1⟩ := I1.lstM upd_same
  cases r1
  refine ⟨⟨_, g1, rfl⟩, PySem.F.args_list_init_2 _ _, ?_⟩
  unfold Builtin.«list.__init__»
  refine wpAny_bind (m := Builtin.List.listItems (.ref s.heap.objs.size)) ?_
  unfold Builtin.List.listItems Builtin.List.listUpdate
  refine wpAny_bind (wpAny_seqItems g1 rfl (wpAny_pure (wpAny_bind (wpAny_updateSeq g1 rfl ?_))))
  have I2 := I1.lset (f := fun _ => #[]) (its := []) (its' := []) (ys := []) (t' := s.toks) upd_same g1 rfl .nil (Nat.zero_le _)
  rw [upd_upd] at I2
  refine wpAny_bind (wpAny_letGo ?_)
  obtain ⟨_, its2, n2, r2, l2, g2⟩ := I2.lstM upd_same
  cases r2
  have ha2 : upd H s.heap.objs.size (.lst []) a = some (.ins C dx fs) := by rw [upd_ne pa]; exact ha
  have hd2 : upd H s.heap.objs.size (.lst []) d = some (.frz o (.dT kvs)) := by rw [upd_ne pd]; exact hd
  have hl2 := hlen _ free
  have hp2 : upd H s.heap.objs.size (.lst []) s.heap.objs.size = some (.lst []) := upd_same
  obtain ⟨H2, eH⟩ : ∃ H2, H2 = upd H s.heap.objs.size (.lst []) := ⟨_, rfl⟩
  rw [← eH] at I2 ha2 hd2 hl2 hp2
  obtain ⟨p, ep⟩ : ∃ p, p = s.heap.objs.size := ⟨_, rfl⟩
  rw [← ep] at g2 hp2 pa pd eH free ⊢
  revert I2 g2
  rw [← ep]
  generalize ({ s with heap := (s.heap.push { cls := .type "list", data := .seq #[] }).update p (Obj.mapSeq fun _ => #[]) } : Shared) = s2
  intro I2 g2
  have low : Low X (k + 1) X.A.in1.in1 := ⟨((hr.mono (show k + 1 + 1 + 1 ≤ j by omega)).in1).in1, rfl⟩
  obtain ⟨oa, J⟩ := ins_at I2 ha2
  obtain ⟨m, fr⟩ := I2.fr
  obtain ⟨_, gd, hx, es, ee, hdt, hsz, ent⟩ := I2.frzT hd2
  -- what is left when the iterator is there and the room is made
  have fin : ∀ (it : Addr) (s5 : Shared) (n5 : Nat), FpOk X pins H2 it → it ≠ p → it ≠ d → Inv X pins σ H2 s5 → s5.heap.get? p = some { cls := .type "list", data := .seq #[] n5 } → s5.heap.IsKeyIter it d 0 es.size ee →
      codeAny (model X.prog X.w) X.A.in1 (.builtin "list.extend.loop" ⟨[.ref p, .ref it, .none], []⟩) (wants (fun r s₂ => r = .none ∧ EP X pins σ Q (.ref p) s₂) X.xe) s5 := by
    intro it s5 n5 hf hip hid I5 g5 hit
    obtain ⟨_, gd5, _⟩ := I5.frzT hd2
    have hz : es.size ≤ sizeLine := by
      rw [hsz]
      exact (I5.hok d _ hd2).2.1
    have off : p ∉ [it, d] := fun z => by
      rcases List.mem_cons.mp z with z | z
      · exact hip z.symm
      · exact pd (List.mem_singleton.mp z).symm
    refine codeAny_extend_loopS (walks_raw (A := X.A.in1.in1) (I.ok.hd hc) it d (Ne.symm hid) hdt).toS hz p off .none es.size 0 _ #[] n5 rfl (Nat.zero_le _) ⟨hit, gd5⟩ g5 (ItemsOf.nil _) fun s6 acc n6 mv g6 all => ?_
    obtain ⟨bs, ks, eb, rv⟩ := keys_row (H := H2) (kvs := kvs) (vs := acc.toList) (by rw [Array.length_toList, all.1, hsz]) fun i k v e => by
      obtain ⟨en, b, h1, h2, h3⟩ := ent i k v e
      have hi : i < acc.size := by
        rw [all.1]
        exact (Array.getElem?_eq_some_iff.mp h1).1
      obtain ⟨en', h4, h5⟩ := all.2 i acc[i] (Array.getElem?_eq_getElem hi)
      rw [h1] at h4
      cases h4
      exact ⟨b, by rw [Array.getElem?_toList, Array.getElem?_eq_getElem hi, h5, h2], h3⟩
    have gp := Heap.get?_update_self (fun _ => ({ cls := .type "list", data := .seq acc n6 } : Obj)) g5 rfl
    have J6 := I5.write (x := p) (e := p) (o := .lst (bs.map V.ref)) (t' := s6.toks) (h' := s5.heap.update p fun _ => { cls := .type "list", data := .seq acc n6 }) (by rw [hp2]; exact trivial) (.inl rfl) (fun b o hb e => (Heap.get?_update_other _ _ (Ne.symm hb)).trans e) ⟨_, gp⟩
      ⟨by rw [List.length_map, ← List.length_map (f := Value.ref), ← eb, Array.length_toList, all.1]; exact hz, acc.toList, n6, rv, by rw [Array.toArray_toList]; exact gp⟩
    obtain ⟨f0, f1, f2, f3, f4, f5⟩ := hf
    have J7 := J6.turned (h' := s6.heap) (t' := s6.toks) (it := it) (fun b o hb e => by
      by_cases ebp : b = p
      · subst ebp
        have e' := gp.symm.trans e
        cases e'
        exact g6
      · exact mv.heap b o (fun z => by
          rcases List.mem_cons.mp z with z | z
          · exact ebp z
          · exact hb (List.mem_singleton.mp z)) ((Heap.get?_update_other _ _ (Ne.symm ebp)).symm.trans e)) (by rw [upd_ne hip]; exact f0) f1 f3 f4 f5
    have fin : EP X pins σ Q (.ref p) s6 := by
      rw [Moved.eq_with mv]
      refine ⟨.ref p, _, J7, rfl, ?_⟩
      rw [eH, upd_upd]
      refine q p bs free (Paired.mapP ks fun x b z => ?_)
      have np : b ≠ p := fun e => by
        rw [e, hp2] at z
        cases z
      rwa [eH, upd_ne np] at z
    exact ⟨rfl, fin⟩
  show wpAny _ _ (Builtin.List.listExtendWith (.ref p) (.ref a) .none) _ _ s2
  unfold Builtin.List.listExtendWith
  have no : (Builtin.List.listSameRef (.ref p) (.ref a) || Value.ref C == .type "list" || Value.ref C == .type "tuple") = false := by
    have : Builtin.List.listSameRef (.ref p) (.ref a) = false := by simp [Builtin.List.listSameRef, Ne.symm pa]
    rw [this]
    rfl
  refine wpAny_bind (J.type.here ?_)
  rw [if_neg (by rw [no]; decide)]
  have b := bi s2 [.ref a] I2.kIn (by rfl)
  refine wpAny_bind (PySem.W.owit_iter fr I2.ok.mod.kin J Mi.at_ Mi.fn (wpAny_call (codeAny_mono (FI.go X.A.in1.in1 X.stack s2 H2 ⟨[.ref a], []⟩ a dx d fs o kvs es ee (low.room.mono (Nat.le_succ k)) (low.env0 I2) b ha2 hl hd2 hdt) fun y s3 end_ => ?_)))
  match y, end_ with
  | .error e, ⟨_, _, _, _, _, _, _, _, _, _, _, _, bad⟩ => exact bad.elim
  | .ok (.ret u), ⟨it, H', eu, eH', os, bare, un, hok, hn, hz, hit⟩ =>
    subst eu
    obtain ⟨hh, g, dd, t, os'⟩ := s3
    obtain rfl : os' = s2.os := os
    subst eH'
    have J3 := I2.call (h' := hh) (g' := g) (d' := dd) (t' := t) (ch := []) un hok bare (fun b z => absurd z (by simp))
    unfold PySem.W.OwitIt
    refine wpAny_specialOf hit.typeIs PySem.F.slot_dict_keyiterator_next.lookup ?_
    have hf := I2.fpOk hz hn
    obtain ⟨oi, gi, ci2, di⟩ := id hit
    have J4 := J3.pinned (fp := [it]) (fun b hb => by rw [List.mem_singleton.mp hb]; exact hf) (fun b hb => by rw [List.mem_singleton.mp hb]; exact ⟨oi, gi, fun v z => by rw [di] at z; cases z⟩)
    obtain ⟨ob, J5⟩ := ins_at J4 ha2
    obtain ⟨m4, fr4⟩ := J4.fr
    have ni : it ≠ p := fun z => by rw [z, hp2] at hn; cases hn
    have nd : it ≠ d := fun z => by rw [z, hd2] at hn; cases hn
    refine wpAny_bind (wpAny_holding (own_length J4.kIn J5 Ml (PySem.W.len_K fr4 J4.ok.mod.kin J5 Ml.at_ Ml.fn (thn (run_low (vs := [.ref a]) FL (⟨low.room.in1, low.fr⟩ : Low X k X.A.in1.in1.in1) bl J4 (.cons rfl .nil) hl2) fun v s4 z => ?_))))
    obtain ⟨v4, H4, J6, r4, c, rfl, hc4, eH4⟩ := z
    obtain ⟨tc, rfl⟩ := r4
    subst eH4
    refine ⟨⟨by omega, by have := sizeLine_eq; omega⟩, c, _, rfl, hc4, ?_⟩
    have J7 := J6.unpinned.tok (s4.toks + 1)
    have at_it : s4.heap.get? it = some oi := (J6.pin (it, oi) (List.mem_append_right _ (List.mem_append_right _ (mem_pinsAt List.mem_cons_self gi)))).1
    have hit4 : s4.heap.IsKeyIter it d 0 es.size ee := ⟨oi, at_it, ci2, by rw [hsz]; exact di⟩
    obtain ⟨_, its5, n5, r5, l5, g5⟩ := J7.lstM hp2
    cases r5
    refine wpAny_ite_split (fun _ => ?_) (fun _ => wpAny_pure ⟨plainId_quiet PySem.F.plain_extend_loop _, fin it _ n5 hf ni nd J7 g5 hit4⟩)
    refine wpAny_bind (wpAny_rule (wpAny_bind ?_))
    unfold Builtin.List.listTouch Builtin.List.listUpdate
    refine wpAny_bind (wpAny_updateSeq g5 rfl ?_ (by simp [sizeLine_eq]) (by simp [sizeLine_eq]))
    have J8 := J7.lset (f := (·.push Value.none)) (its' := [Value.none]) (ys := [.non]) (t' := s4.toks + 1) hp2 g5 (by simp) (.cons rfl .nil) (by simp [sizeLine_eq])
    obtain ⟨_, its8, n8, r8, l8, g8⟩ := J8.lstM upd_same
    obtain ⟨u8, rfl, ru8⟩ := r8.one
    refine wpAny_updateSeq g8 rfl ?_ (by simp [sizeLine_eq]) (by simp [sizeLine_eq])
    have J9 := J8.lset (f := (·.pop)) (its := [u8]) (its' := []) (ys := []) (t' := s4.toks + 1) upd_same g8 (by rfl) .nil (Nat.zero_le _)
    have same : upd (upd H4 p (.lst [.non])) p (.lst []) = H4 := by
      rw [upd_upd]
      funext b
      by_cases e : b = p
      · rw [e, upd_same, hp2]
      · rw [upd_ne e]
    rw [same] at J9
    obtain ⟨_, its9, n9, r9, l9, g9⟩ := J9.lstM hp2
    cases r9
    refine wpAny_pure ⟨plainId_quiet PySem.F.plain_extend_loop _, fin it _ n9 hf ni nd J9 g9 ⟨oi, ?_, ci2, by rw [hsz]; exact di⟩⟩
    exact (Heap.get?_update_other _ _ (Ne.symm ni)).trans ((Heap.get?_update_other _ _ (Ne.symm ni)).trans at_it)
end
end Ew

set_option Elab.async false
set_option linter.all false
set_option maxRecDepth 100000
set_option maxHeartbeats 4000000
namespace Ew
open PySem PySem.Spec PyProof.Rows L2
section
variable {X : Cx} {e : Expr} {te : TE}
/-- behind an expression a thing of the def's own is not to be written any more -/
def tKeep (te : TE) : TE := fun σ H Q => te σ H fun v H' => ∃ d u, H' d = some u ∧ Mut (some u) ∧ ∀ o, Q v (upd H' d (.frz o u))
theorem pe_keep (h : PE X e te) : PE X e (tKeep te) := ⟨fun pins s σ H Q I q => thn (h.run pins s σ H _ I q) fun _ _ ⟨v, H', J, r, d, u, hd, mu, k⟩ => by
  obtain ⟨o, J2⟩ := J.lock hd mu
  exact ⟨v, _, J2, r, k o⟩⟩
/-- len of a dict whose keys are tuples, written or not -/
def rLenF : List V → Hp → VK → Prop := fun xs H Q => ∃ p kvs, xs = [.ref p] ∧ Rd H p (.dT kvs) ∧ Q (.int ((kvs.length : Nat) : Int)) H
theorem call_lenF : CallR X (.builtin "len") rLenF := by
  intro pins s σ H xs us Q I r h
  obtain ⟨p, kvs, rfl, hp, q⟩ := h
  obtain ⟨u, rfl, rx⟩ := vals1 r
  obtain rfl : u = Value.ref p := rx
  obtain ⟨z, ns, ys, kt, d⟩ := dt_rd I.hok hp
  have l : ys.length = kvs.length := kt_len kt
  refine call_len_dictH ns d (by have := sizeLine_eq; omega) ?_
  rw [l]
  exact ⟨.int _, H, (I.tok _).tok _, ⟨_, rfl⟩, q⟩
/-- room for what stands a little deeper -/
theorem units5 {k : Nat} {A : Around} (r : Room k A) : A.units + 65 < cLine := by
  have := r.un
  omega
end
end Ew

set_option Elab.async false
set_option linter.all false
set_option maxRecDepth 100000
set_option maxHeartbeats 4000000
namespace Ew
open PySem PySem.Spec PyProof.Rows L2
/-! ### enumerate(a tuple) -/
section
variable {P : Program} {w : World} {A : Around} {E : Value → Shared → Prop} {s : Shared}
theorem enum_new {v : Value} {o : Obj} {G : Heap → Prop} (B : Begins v o G) : Meets (Builtin.«enumerate.__new__» ⟨[.type "enumerate", v], []⟩) (fun _ R s => G s.heap ∧
    R (.ok (.ret (.ref (s.heap.push o).objs.size))) { s with heap := (s.heap.push o).push { cls := .type "enumerate", data := .fields #[.none, .bool false, .ref s.heap.objs.size, rawInt 0, .none, .none] } }) :=
  .of_wp fun P w A R s z => by
    obtain ⟨hp, g, d, tk, os⟩ := s
    obtain ⟨here, q⟩ := z
    have sub := sub_enumerate
    have go : ∀ {A' : Around} {E : Value → Shared → Prop} {Q : Value → Shared → Prop}, Q (.ref hp.objs.size) ⟨hp.push o, g, d, tk, os⟩ → wpAny (model P w) A' (pyIter v) Q E ⟨hp, g, d, tk, os⟩ := fun k => B.iter P w _ _ ⟨hp, g, d, tk, os⟩ _ here k
    wp_walk using go
    refine wpAny_stack_any fun st => wpAny_pure ?_
    split
    · rename_i c _ _ _ _ _
      cases (c == Value.type "enumerate") <;> (wp_walk using go; exact ⟨_, rfl, q⟩)
    · wp_walk using go
      exact ⟨_, rfl, q⟩
theorem enum_call {v : Value} {o : Obj} {G : Heap → Prop} {Q : Value → Shared → Prop} (B : Begins v o G) (here : G s.heap)
    (k : ∀ h', IsEnum h' (s.heap.objs.size + 1) s.heap.objs.size 0 .none → h'.get? s.heap.objs.size = some o → (∀ b u, s.heap.get? b = some u → h'.get? b = some u) → Q (.ref (s.heap.objs.size + 1)) { s with heap := h' }) :
    wpAny (model P w) A (call (.type "enumerate") [v]) Q E s := by
  refine callType_new F.called_enumerate (by decide) (F.typeCall_enumerate_1 _) (F.newCall_enumerate_1 _) (fun obj => F.args_object_init_2 obj _) F.entry_enumerate_new (enum_new B) ⟨here, ?_⟩
  have z : (s.heap.push o).objs.size = s.heap.objs.size + 1 := Heap.size_push ..
  have e := Heap.get?_push_size (s.heap.push o) (o := { cls := .type "enumerate", data := .fields #[.none, .bool false, .ref s.heap.objs.size, rawInt 0, .none, .none] }) rfl
  show _ ∧ _
  rw [z] at e ⊢
  exact ⟨⟨_, e, rfl⟩, k _ e (Heap.get?_push_of_some _ (Heap.get?_push_size _ B.free)) fun b u q => Heap.get?_push_of_some _ (Heap.get?_push_of_some _ q)⟩
end
/-- the tuple at a, each item in a new pair behind its place -/
def IteT (K : PySem.W.Frag) (a : Addr) : It where
  go := fun i H => ∃ (xs : List V) (x : V), SqT K H a xs ∧ xs[i]? = some x
  yld := fun i H v H' => ∃ T x, v = .ref T ∧ H T = none ∧ H' = upd H T (.tup [.int (i : Nat), x]) ∧ ∀ xs, SqT K H a xs → xs[i]? = some x
  stop := fun i H => ∃ xs : List V, SqT K H a xs ∧ i = xs.length
theorem two {c e it : Addr} (h : c ∈ [e, it]) : c = e ∨ c = it := by
  simp only [List.mem_cons, List.not_mem_nil, or_false] at h
  exact h
theorem turn_enumT {P : Program} {w : World} {K : PySem.W.Frag} {elts : List Expr} {kk : Nat} {tpos : Pos} {a e it : Addr} (ne : e ≠ it) (na : a ≠ it) (ea : e ≠ a) :
    Turn P w K (.Tuple elts kk tpos) (IteT K a) [e, it] e (fun i h => (∃ old, IsEnum h e it ((i : Nat) : Int) old) ∧ h.IsTupleIter it a i) where
  mem := List.mem_cons_self
  obj := fun i h st c hc => by
    obtain ⟨⟨_, q1⟩, ⟨o, q2, _, d2⟩⟩ := st
    rcases two hc with rfl | rfl
    · exact ⟨_, q1, fun v e => nomatch e⟩
    · exact ⟨o, q2, fun v e => by rw [d2] at e; cases e⟩
  keep := fun i h h' st k => by
    obtain ⟨⟨x, q1⟩, q2⟩ := st
    exact ⟨⟨x, k _ List.mem_cons_self _ q1⟩, q2.at fun o e => k _ (by simp) o e⟩
  item := by
    intro X hP hw hK hc i pins s σ H E I hf st go
    subst hP hw hK
    obtain ⟨⟨x0, q1⟩, q2⟩ := st
    obtain ⟨xs, x, sx, hx⟩ := go
    obtain ⟨l, r, p, _⟩ := I.tuple sx
    obtain ⟨u, hu, ru⟩ := r.get hx
    have D := Draws.tuple (prog := X.prog) (w := X.w) (A := X.A.in1) (I.ok.hd hc) it a na l.toArray
    have g : i < l.toArray.size := by
      rw [List.size_toArray]
      exact (List.getElem?_eq_some_iff.mp hu).1
    have le := Heap.lt_size q1
    have li : it < s.heap.objs.size := by obtain ⟨_, e, _⟩ := q2; exact Heap.lt_size e
    refine wpAny_pyNext_enum_itemD D q1 ⟨q2, p⟩ g ne (fun z => (List.mem_cons.mp z).elim ne fun z => ea (List.mem_singleton.mp z)) fun v h' tk e1 w1 w2 w3 w4 w5 => ?_
    rw [List.getElem?_toArray, hu] at e1
    cases e1
    refine ⟨_, rfl, wpAny_letOwnedTupleGo_enum (s := { s with heap := h', toks := tk + 1 }) w1 fun h'' w1' sb => ?_⟩
    have nw : h''.get? s.heap.objs.size = some { cls := .type "tuple", data := .seq #[.int i tk, u] } := (sb.2 _ (Nat.ne_of_gt le)).trans w3
    have ob : ObjOk X.prog X.w (upd H s.heap.objs.size (.tup [.int (i : Nat), x])) h'' s.heap.objs.size (.tup [.int (i : Nat), x]) := by
      refine ⟨?_, [.int i tk, u], .cons ⟨_, rfl⟩ (.cons ru .nil), ⟨_, nw, rfl, _, rfl⟩⟩
      show 2 ≤ sizeLine
      decide
    have off : ∀ c o, c ∉ [e, it] → s.heap.get? c = some o → h''.get? c = some o := fun c o hb q => by
      have n : c ≠ e ∧ c ≠ it := ⟨fun q => hb (by simp [q]), fun q => hb (by simp [q])⟩
      exact (sb.2 c n.1).trans (w5 c o n.1 n.2 q)
    have I1 : Inv X pins σ (upd H s.heap.objs.size (.tup [.int (i : Nat), x])) { s with heap := h'', toks := tk + 1 } := I.turnedNew off hf (Nat.le_refl _) ob
    refine ⟨.ref s.heap.objs.size, _, I1, rfl, ⟨_, x, rfl, I.hok.fresh (Nat.le_refl _), rfl, fun ys hl => ?_⟩, ⟨⟨_, w1'⟩, ?_⟩, fun c hcm => ?_⟩
    · rw [I.tuple_inj hl sx]
      exact hx
    · exact w2.1.at fun o q => (sb.2 _ ne.symm).trans q
    · have lt : c < s.heap.objs.size := by
        rcases two hcm with rfl | rfl
        · exact le
        · exact li
      rw [upd_ne (Nat.ne_of_lt lt)]
      exact (hf c hcm).1
  done := by
    intro X hP hw hK hc i pins s σ H E I hf st go
    subst hP hw hK
    obtain ⟨⟨x0, q1⟩, q2⟩ := st
    obtain ⟨xs, sx, hi⟩ := go
    obtain ⟨l, r, p, _⟩ := I.tuple sx
    have el := r.length
    have D := Draws.tuple (prog := X.prog) (w := X.w) (A := X.A.in1) (I.ok.hd hc) it a na l.toArray
    have ez : l.toArray.size = i := by
      rw [List.size_toArray, hi]
      exact el.symm
    refine wpAny_pyNext_enum_endD D q1 (by rw [ez]; exact ⟨q2, p⟩) fun h' k => ⟨rfl, ?_⟩
    exact I.turnedL (ch := [e, it]) (fun c o hb q => k c o (fun z => hb (by simp [z])) q) hf
  self := fun A i s Q E st h => wpAny_pyIter_enum st.1.choose_spec h
def iEnumT (K : PySem.W.Frag) (ta : TA) : TI := fun σ H R => ta σ H fun vs H1 => ∃ a xs, vs = [.ref a] ∧ SqT K H1 a xs ∧ R (IteT K a) H1
theorem pi_enumT {X : Cx} {e : Expr} {ta : TA} {p pos tpos : Pos} {elts : List Expr} {kk : Nat} (hg : Gl X "enumerate") (hm : X.mg "enumerate" = none) (ha : PA X [e] ta) (hs : starEach [e] X.env = [(false, eval e X.env)] := by rfl) :
    PI X (.Tuple elts kk tpos) (.Call (.Name "enumerate" p) [e] [] pos) (iEnumT X.K ta) := by
  refine ⟨fun pins s σ H R I h => Call_ (ld_blt I hg hm boot_enumerate (PyProof.Rows.callWith_type1 (thn (ha.run pos pins s σ H _ I h) fun us s1 z => ?_) hs rfl))⟩
  obtain ⟨vs, H1, I1, r1, a, xs, rfl, sx, q⟩ := z
  obtain ⟨u, rfl, ru⟩ := vals1 r1
  cases ru
  obtain ⟨l, rv, p1, _⟩ := I1.tuple sx
  have la : a < s1.heap.objs.size := by
    obtain ⟨o, e, _⟩ := id p1
    exact Heap.lt_size e
  refine enum_call (begins_tuple a l.toArray) p1 fun h' he hi k => wpAny_pyIter_enum he ?_
  have I2 : Inv X pins σ H1 { s1 with heap := h' } := I1.kept (t' := s1.toks) k
  refine ⟨s1.heap.objs.size + 1, [s1.heap.objs.size + 1, s1.heap.objs.size], _, _, H1, rfl, I2, turn_enumT (a := a) (e := s1.heap.objs.size + 1) (it := s1.heap.objs.size) (Nat.succ_ne_self _) (Nat.ne_of_lt la) (Nat.ne_of_gt (Nat.lt_succ_of_lt la)), ⟨⟨_, he⟩, ⟨_, hi, rfl, rfl⟩⟩, fun b hb => ?_, q⟩
  have le : s1.heap.objs.size ≤ b := by
    rcases two hb with rfl | rfl
    · exact Nat.le_add_right _ _
    · exact Nat.le_refl _
  exact I1.fpOk le (I1.hok.fresh le)
/-- enumerate(a list or a tuple) -/
theorem pi_enumX {X : Cx} {e : Expr} {ta : TA} {p pos tpos : Pos} {elts : List Expr} {kk : Nat} (hg : Gl X "enumerate") (hm : X.mg "enumerate" = none) (ha : PA X [e] ta) (hs : starEach [e] X.env = [(false, eval e X.env)] := by rfl) :
    PI X (.Tuple elts kk tpos) (.Call (.Name "enumerate" p) [e] [] pos) (fun σ H R => iEnum X.K ta σ H R ∨ iEnumT X.K ta σ H R) :=
  ⟨fun pins s σ H R I h => h.elim ((pi_enum hg hm ha hs).run pins s σ H R I) ((pi_enumT hg hm ha hs).run pins s σ H R I)⟩
end Ew

set_option Elab.async false
set_option linter.all false
set_option maxRecDepth 100000
set_option maxHeartbeats 4000000
namespace K26
open PySem PySem.Spec PyProof.Rows L2 Ew
def top (i : Nat) : Stmt := PySem.Challenge.pw_ellwarden_k26_worlds.main.body.getD i (.Pass ⟨0, 0, 0, 0⟩)
abbrev s_is_integer : Stmt := (top 2)
abbrev N_is_integer : List Str := ["thing"]
abbrev P_is_integer : List Str := ["thing"]
theorem sc_is_integer : FnScope N_is_integer P_is_integer (defScope s_is_integer) := ⟨rfl, rfl, rfl, by decide +kernel, rfl, by decide +kernel, by decide +kernel⟩
abbrev s_is_row : Stmt := (top 3)
abbrev N_is_row : List Str := ["thing"]
abbrev P_is_row : List Str := ["thing"]
theorem sc_is_row : FnScope N_is_row P_is_row (defScope s_is_row) := ⟨rfl, rfl, rfl, by decide +kernel, rfl, by decide +kernel, by decide +kernel⟩
abbrev s_is_tuple_of : Stmt := (top 4)
abbrev N_is_tuple_of : List Str := ["thing", "many"]
abbrev P_is_tuple_of : List Str := ["thing", "many"]
theorem sc_is_tuple_of : FnScope N_is_tuple_of P_is_tuple_of (defScope s_is_tuple_of) := ⟨rfl, rfl, rfl, by decide +kernel, rfl, by decide +kernel, by decide +kernel⟩
abbrev s_NoughtD_initD : Stmt := inClass (top 7) 0
abbrev N_NoughtD_initD : List Str := ["self", "number"]
abbrev P_NoughtD_initD : List Str := ["self", "number"]
theorem sc_NoughtD_initD : FnScope N_NoughtD_initD P_NoughtD_initD (defScope s_NoughtD_initD) := ⟨rfl, rfl, rfl, by decide +kernel, rfl, by decide +kernel, by decide +kernel⟩
abbrev s_BadWorldD_initD : Stmt := inClass (top 8) 0
abbrev N_BadWorldD_initD : List Str := ["self", "place"]
abbrev P_BadWorldD_initD : List Str := ["self", "place"]
theorem sc_BadWorldD_initD : FnScope N_BadWorldD_initD P_BadWorldD_initD (defScope s_BadWorldD_initD) := ⟨rfl, rfl, rfl, by decide +kernel, rfl, by decide +kernel, by decide +kernel⟩
abbrev s_BadSpotD_initD : Stmt := inClass (top 9) 0
abbrev N_BadSpotD_initD : List Str := ["self", "place"]
abbrev P_BadSpotD_initD : List Str := ["self", "place"]
theorem sc_BadSpotD_initD : FnScope N_BadSpotD_initD P_BadSpotD_initD (defScope s_BadSpotD_initD) := ⟨rfl, rfl, rfl, by decide +kernel, rfl, by decide +kernel, by decide +kernel⟩
abbrev s_NoSpotD_initD : Stmt := inClass (top 10) 0
abbrev N_NoSpotD_initD : List Str := ["self", "spot"]
abbrev P_NoSpotD_initD : List Str := ["self", "spot"]
theorem sc_NoSpotD_initD : FnScope N_NoSpotD_initD P_NoSpotD_initD (defScope s_NoSpotD_initD) := ⟨rfl, rfl, rfl, by decide +kernel, rfl, by decide +kernel, by decide +kernel⟩
abbrev s_ratio : Stmt := (top 12)
abbrev N_ratio : List Str := ["n", "d", "common"]
abbrev P_ratio : List Str := ["n", "d"]
theorem sc_ratio : FnScope N_ratio P_ratio (defScope s_ratio) := ⟨rfl, rfl, rfl, by decide +kernel, rfl, by decide +kernel, by decide +kernel⟩
abbrev s_is_ratio : Stmt := (top 13)
abbrev N_is_ratio : List Str := ["thing", "n", "d"]
abbrev P_is_ratio : List Str := ["thing"]
theorem sc_is_ratio : FnScope N_is_ratio P_is_ratio (defScope s_is_ratio) := ⟨rfl, rfl, rfl, by decide +kernel, rfl, by decide +kernel, by decide +kernel⟩
abbrev s_minus : Stmt := (top 14)
abbrev N_minus : List Str := ["a", "b"]
abbrev P_minus : List Str := ["a", "b"]
theorem sc_minus : FnScope N_minus P_minus (defScope s_minus) := ⟨rfl, rfl, rfl, by decide +kernel, rfl, by decide +kernel, by decide +kernel⟩
abbrev s_compare : Stmt := (top 15)
abbrev N_compare : List Str := ["a", "b", "left", "right"]
abbrev P_compare : List Str := ["a", "b"]
theorem sc_compare : FnScope N_compare P_compare (defScope s_compare) := ⟨rfl, rfl, rfl, by decide +kernel, rfl, by decide +kernel, by decide +kernel⟩
abbrev s_is_spot : Stmt := (top 18)
abbrev N_is_spot : List Str := ["thing", "name", "stretch", "day"]
abbrev P_is_spot : List Str := ["thing"]
theorem sc_is_spot : FnScope N_is_spot P_is_spot (defScope s_is_spot) := ⟨rfl, rfl, rfl, by decide +kernel, rfl, by decide +kernel, by decide +kernel⟩
abbrev s_WorldD_initD : Stmt := inClass (top 19) 0
abbrev N_WorldD_initD : List Str := ["self", "pairs"]
abbrev P_WorldD_initD : List Str := ["self", "pairs"]
theorem sc_WorldD_initD : FnScope N_WorldD_initD P_WorldD_initD (defScope s_WorldD_initD) := ⟨rfl, rfl, rfl, by decide +kernel, rfl, by decide +kernel, by decide +kernel⟩
abbrev s_WorldD_getitemD : Stmt := inClass (top 19) 1
abbrev N_WorldD_getitemD : List Str := ["self", "at"]
abbrev P_WorldD_getitemD : List Str := ["self", "at"]
theorem sc_WorldD_getitemD : FnScope N_WorldD_getitemD P_WorldD_getitemD (defScope s_WorldD_getitemD) := ⟨rfl, rfl, rfl, by decide +kernel, rfl, by decide +kernel, by decide +kernel⟩
abbrev s_WorldD_containsD : Stmt := inClass (top 19) 2
abbrev N_WorldD_containsD : List Str := ["self", "x"]
abbrev P_WorldD_containsD : List Str := ["self", "x"]
theorem sc_WorldD_containsD : FnScope N_WorldD_containsD P_WorldD_containsD (defScope s_WorldD_containsD) := ⟨rfl, rfl, rfl, by decide +kernel, rfl, by decide +kernel, by decide +kernel⟩
abbrev s_WorldD_lenD : Stmt := inClass (top 19) 3
abbrev N_WorldD_lenD : List Str := ["self"]
abbrev P_WorldD_lenD : List Str := ["self"]
theorem sc_WorldD_lenD : FnScope N_WorldD_lenD P_WorldD_lenD (defScope s_WorldD_lenD) := ⟨rfl, rfl, rfl, by decide +kernel, rfl, by decide +kernel, by decide +kernel⟩
abbrev s_WorldD_iterD : Stmt := inClass (top 19) 4
abbrev N_WorldD_iterD : List Str := ["self"]
abbrev P_WorldD_iterD : List Str := ["self"]
theorem sc_WorldD_iterD : FnScope N_WorldD_iterD P_WorldD_iterD (defScope s_WorldD_iterD) := ⟨rfl, rfl, rfl, by decide +kernel, rfl, by decide +kernel, by decide +kernel⟩
abbrev s_WorldD_eqD : Stmt := inClass (top 19) 5
abbrev N_WorldD_eqD : List Str := ["self", "other"]
abbrev P_WorldD_eqD : List Str := ["self", "other"]
theorem sc_WorldD_eqD : FnScope N_WorldD_eqD P_WorldD_eqD (defScope s_WorldD_eqD) := ⟨rfl, rfl, rfl, by decide +kernel, rfl, by decide +kernel, by decide +kernel⟩
abbrev s_World_gap : Stmt := inClass (top 19) 6
abbrev N_World_gap : List Str := ["self", "a", "b", "left"]
abbrev P_World_gap : List Str := ["self", "a", "b"]
theorem sc_World_gap : FnScope N_World_gap P_World_gap (defScope s_World_gap) := ⟨rfl, rfl, rfl, by decide +kernel, rfl, by decide +kernel, by decide +kernel⟩
abbrev s_World_keeps : Stmt := inClass (top 19) 7
abbrev N_World_keeps : List Str := ["self", "link", "a", "b", "bound", "_"]
abbrev P_World_keeps : List Str := ["self", "link"]
theorem sc_World_keeps : FnScope N_World_keeps P_World_keeps (defScope s_World_keeps) := ⟨rfl, rfl, rfl, by decide +kernel, rfl, by decide +kernel, by decide +kernel⟩
abbrev s__values_of : Stmt := (top 20)
abbrev N__values_of : List Str := ["pairs", "values", "place", "pair", "spot", "number"]
abbrev P__values_of : List Str := ["pairs"]
theorem sc__values_of : FnScope N__values_of P__values_of (defScope s__values_of) := ⟨rfl, rfl, rfl, by decide +kernel, rfl, by decide +kernel, by decide +kernel⟩
abbrev s_higher : Stmt := (top 21)
abbrev N_higher : List Str := ["first", "second"]
abbrev P_higher : List Str := ["first", "second"]
theorem sc_higher : FnScope N_higher P_higher (defScope s_higher) := ⟨rfl, rfl, rfl, by decide +kernel, rfl, by decide +kernel, by decide +kernel⟩
abbrev s_lower : Stmt := (top 22)
abbrev N_lower : List Str := ["first", "second"]
abbrev P_lower : List Str := ["first", "second"]
theorem sc_lower : FnScope N_lower P_lower (defScope s_lower) := ⟨rfl, rfl, rfl, by decide +kernel, rfl, by decide +kernel, by decide +kernel⟩
abbrev s__chosen : Stmt := (top 23)
abbrev N__chosen : List Str := ["first", "second", "sign", "pairs", "spot", "value"]
abbrev P__chosen : List Str := ["first", "second", "sign"]
theorem sc__chosen : FnScope N__chosen P__chosen (defScope s__chosen) := ⟨rfl, rfl, rfl, by decide +kernel, rfl, by decide +kernel, by decide +kernel⟩
abbrev s__ask_for_all : Stmt := (top 24)
abbrev N__ask_for_all : List Str := ["asked", "world", "spot"]
abbrev P__ask_for_all : List Str := ["asked", "world"]
theorem sc__ask_for_all : FnScope N__ask_for_all P__ask_for_all (defScope s__ask_for_all) := ⟨rfl, rfl, rfl, by decide +kernel, rfl, by decide +kernel, by decide +kernel⟩
abbrev s__law_bag_of : Stmt := (top 26)
abbrev N__law_bag_of : List Str := ["_law_script", "_law_mixed", "_law_cell"]
abbrev P__law_bag_of : List Str := ["_law_script"]
theorem sc__law_bag_of : FnScope N__law_bag_of P__law_bag_of (defScope s__law_bag_of) := ⟨rfl, rfl, rfl, by decide +kernel, rfl, by decide +kernel, by decide +kernel⟩
abbrev s__law_pick : Stmt := (top 27)
abbrev N__law_pick : List Str := ["_law_bag", "_law_many", "_law_number", "_law_cell"]
abbrev P__law_pick : List Str := ["_law_bag", "_law_many"]
theorem sc__law_pick : FnScope N__law_pick P__law_pick (defScope s__law_pick) := ⟨rfl, rfl, rfl, by decide +kernel, rfl, by decide +kernel, by decide +kernel⟩
abbrev s__law_choice : Stmt := (top 28)
abbrev N__law_choice : List Str := ["_law_bag", "_law_things"]
abbrev P__law_choice : List Str := ["_law_bag", "_law_things"]
theorem sc__law_choice : FnScope N__law_choice P__law_choice (defScope s__law_choice) := ⟨rfl, rfl, rfl, by decide +kernel, rfl, by decide +kernel, by decide +kernel⟩
abbrev s__law_some : Stmt := (top 29)
abbrev N__law_some : List Str := ["_law_bag", "_law_things", "_law_thing"]
abbrev P__law_some : List Str := ["_law_bag", "_law_things"]
theorem sc__law_some : FnScope N__law_some P__law_some (defScope s__law_some) := ⟨rfl, rfl, rfl, by decide +kernel, rfl, by decide +kernel, by decide +kernel⟩
abbrev s__law_shuffled : Stmt := (top 30)
abbrev N__law_shuffled : List Str := ["_law_bag", "_law_things", "_law_rest", "_law_thing"]
abbrev P__law_shuffled : List Str := ["_law_bag", "_law_things"]
theorem sc__law_shuffled : FnScope N__law_shuffled P__law_shuffled (defScope s__law_shuffled) := ⟨rfl, rfl, rfl, by decide +kernel, rfl, by decide +kernel, by decide +kernel⟩
abbrev s__law_integer : Stmt := (top 31)
abbrev N__law_integer : List Str := ["_law_thing"]
abbrev P__law_integer : List Str := ["_law_thing"]
theorem sc__law_integer : FnScope N__law_integer P__law_integer (defScope s__law_integer) := ⟨rfl, rfl, rfl, by decide +kernel, rfl, by decide +kernel, by decide +kernel⟩
abbrev s__law_gcd : Stmt := (top 32)
abbrev N__law_gcd : List Str := ["_law_a", "_law_b", "_law_first", "_law_second", "_law_rest"]
abbrev P__law_gcd : List Str := ["_law_a", "_law_b"]
theorem sc__law_gcd : FnScope N__law_gcd P__law_gcd (defScope s__law_gcd) := ⟨rfl, rfl, rfl, by decide +kernel, rfl, by decide +kernel, by decide +kernel⟩
abbrev s__law_ratio : Stmt := (top 33)
abbrev N__law_ratio : List Str := ["_law_n", "_law_d", "_law_common"]
abbrev P__law_ratio : List Str := ["_law_n", "_law_d"]
theorem sc__law_ratio : FnScope N__law_ratio P__law_ratio (defScope s__law_ratio) := ⟨rfl, rfl, rfl, by decide +kernel, rfl, by decide +kernel, by decide +kernel⟩
abbrev s__law_is_ratio : Stmt := (top 34)
abbrev N__law_is_ratio : List Str := ["_law_thing"]
abbrev P__law_is_ratio : List Str := ["_law_thing"]
theorem sc__law_is_ratio : FnScope N__law_is_ratio P__law_is_ratio (defScope s__law_is_ratio) := ⟨rfl, rfl, rfl, by decide +kernel, rfl, by decide +kernel, by decide +kernel⟩
abbrev s__law_plus : Stmt := (top 35)
abbrev N__law_plus : List Str := ["_law_a", "_law_b"]
abbrev P__law_plus : List Str := ["_law_a", "_law_b"]
theorem sc__law_plus : FnScope N__law_plus P__law_plus (defScope s__law_plus) := ⟨rfl, rfl, rfl, by decide +kernel, rfl, by decide +kernel, by decide +kernel⟩
abbrev s__law_minus : Stmt := (top 36)
abbrev N__law_minus : List Str := ["_law_a", "_law_b"]
abbrev P__law_minus : List Str := ["_law_a", "_law_b"]
theorem sc__law_minus : FnScope N__law_minus P__law_minus (defScope s__law_minus) := ⟨rfl, rfl, rfl, by decide +kernel, rfl, by decide +kernel, by decide +kernel⟩
abbrev s__law_less : Stmt := (top 37)
abbrev N__law_less : List Str := ["_law_a", "_law_b"]
abbrev P__law_less : List Str := ["_law_a", "_law_b"]
theorem sc__law_less : FnScope N__law_less P__law_less (defScope s__law_less) := ⟨rfl, rfl, rfl, by decide +kernel, rfl, by decide +kernel, by decide +kernel⟩
abbrev s__law_ground : Stmt := (top 38)
abbrev N__law_ground : List Str := []
abbrev P__law_ground : List Str := []
theorem sc__law_ground : FnScope N__law_ground P__law_ground (defScope s__law_ground) := ⟨rfl, rfl, rfl, by decide +kernel, rfl, by decide +kernel, by decide +kernel⟩
abbrev s__law_word_drawn : Stmt := (top 39)
abbrev N__law_word_drawn : List Str := ["_law_bag", "_law_signs", "_law_k"]
abbrev P__law_word_drawn : List Str := ["_law_bag"]
theorem sc__law_word_drawn : FnScope N__law_word_drawn P__law_word_drawn (defScope s__law_word_drawn) := ⟨rfl, rfl, rfl, by decide +kernel, rfl, by decide +kernel, by decide +kernel⟩
abbrev s__law_whole : Stmt := (top 40)
abbrev N__law_whole : List Str := ["_law_bag", "_law_way"]
abbrev P__law_whole : List Str := ["_law_bag"]
theorem sc__law_whole : FnScope N__law_whole P__law_whole (defScope s__law_whole) := ⟨rfl, rfl, rfl, by decide +kernel, rfl, by decide +kernel, by decide +kernel⟩
abbrev s__law_some_spots : Stmt := (top 41)
abbrev N__law_some_spots : List Str := ["_law_bag", "_law_many", "_law_spots", "_law_k", "_law_name", "_law_way", "_law_spot", "_law_step"]
abbrev P__law_some_spots : List Str := ["_law_bag", "_law_many"]
theorem sc__law_some_spots : FnScope N__law_some_spots P__law_some_spots (defScope s__law_some_spots) := ⟨rfl, rfl, rfl, by decide +kernel, rfl, by decide +kernel, by decide +kernel⟩
abbrev s__law_stranger : Stmt := (top 42)
abbrev N__law_stranger : List Str := ["_law_bag", "_law_spots", "_law_spot", "_law_step"]
abbrev P__law_stranger : List Str := ["_law_bag", "_law_spots"]
theorem sc__law_stranger : FnScope N__law_stranger P__law_stranger (defScope s__law_stranger) := ⟨rfl, rfl, rfl, by decide +kernel, rfl, by decide +kernel, by decide +kernel⟩
abbrev s__law_spot_like : Stmt := (top 43)
abbrev N__law_spot_like : List Str := ["_law_thing"]
abbrev P__law_spot_like : List Str := ["_law_thing"]
theorem sc__law_spot_like : FnScope N__law_spot_like P__law_spot_like (defScope s__law_spot_like) := ⟨rfl, rfl, rfl, by decide +kernel, rfl, by decide +kernel, by decide +kernel⟩
abbrev s__law_drawn_ratio : Stmt := (top 44)
abbrev N__law_drawn_ratio : List Str := ["_law_bag", "_law_way"]
abbrev P__law_drawn_ratio : List Str := ["_law_bag"]
theorem sc__law_drawn_ratio : FnScope N__law_drawn_ratio P__law_drawn_ratio (defScope s__law_drawn_ratio) := ⟨rfl, rfl, rfl, by decide +kernel, rfl, by decide +kernel, by decide +kernel⟩
abbrev s__law_told_well : Stmt := (top 45)
abbrev N__law_told_well : List Str := ["_law_world", "_law_pairs", "_law_spots", "_law_spot", "_law_pair", "_law_told"]
abbrev P__law_told_well : List Str := ["_law_world", "_law_pairs"]
theorem sc__law_told_well : FnScope N__law_told_well P__law_told_well (defScope s__law_told_well) := ⟨rfl, rfl, rfl, by decide +kernel, rfl, by decide +kernel, by decide +kernel⟩
abbrev s__law_gaps_told_well : Stmt := (top 46)
abbrev N__law_gaps_told_well : List Str := ["_law_world", "_law_pairs", "_law_first", "_law_second", "_law_told", "_law_due", "_law_reach", "_law_kept"]
abbrev P__law_gaps_told_well : List Str := ["_law_world", "_law_pairs"]
theorem sc__law_gaps_told_well : FnScope N__law_gaps_told_well P__law_gaps_told_well (defScope s__law_gaps_told_well) := ⟨rfl, rfl, rfl, by decide +kernel, rfl, by decide +kernel, by decide +kernel⟩
abbrev s__law_lacks : Stmt := (top 47)
abbrev N__law_lacks : List Str := ["_law_e", "_law_spot"]
abbrev P__law_lacks : List Str := ["_law_e", "_law_spot"]
theorem sc__law_lacks : FnScope N__law_lacks P__law_lacks (defScope s__law_lacks) := ⟨rfl, rfl, rfl, by decide +kernel, rfl, by decide +kernel, by decide +kernel⟩
abbrev s__law_lookalikes : Stmt := (top 48)
abbrev N__law_lookalikes : List Str := ["_law_spot", "_law_found"]
abbrev P__law_lookalikes : List Str := ["_law_spot"]
theorem sc__law_lookalikes : FnScope N__law_lookalikes P__law_lookalikes (defScope s__law_lookalikes) := ⟨rfl, rfl, rfl, by decide +kernel, rfl, by decide +kernel, by decide +kernel⟩
abbrev s__law_strangers_refused : Stmt := (top 49)
abbrev N__law_strangers_refused : List Str := ["_law_world", "_law_first", "_law_second", "_law_due", "_law_told", "_law_e"]
abbrev P__law_strangers_refused : List Str := ["_law_world", "_law_first", "_law_second", "_law_due"]
theorem sc__law_strangers_refused : FnScope N__law_strangers_refused P__law_strangers_refused (defScope s__law_strangers_refused) := ⟨rfl, rfl, rfl, by decide +kernel, rfl, by decide +kernel, by decide +kernel⟩
abbrev s__law_equal_as_due : Stmt := (top 50)
abbrev N__law_equal_as_due : List Str := ["_law_bag", "_law_world", "_law_pairs", "_law_same", "_law_others", "_law_place", "_law_step", "_law_moved", "_law_row", "_law_other", "_law_pair", "_law_thing"]
abbrev P__law_equal_as_due : List Str := ["_law_bag", "_law_world", "_law_pairs"]
theorem sc__law_equal_as_due : FnScope N__law_equal_as_due P__law_equal_as_due (defScope s__law_equal_as_due) := ⟨rfl, rfl, rfl, by decide +kernel, rfl, by decide +kernel, by decide +kernel⟩
abbrev s__law_mixed_as_due : Stmt := (top 51)
abbrev N__law_mixed_as_due : List Str := ["_law_first", "_law_second", "_law_pairs", "_law_others", "_law_rest", "_law_mine", "_law_lost", "_law_made", "_law_way", "_law_e", "_law_table", "_law_pair", "_law_highs", "_law_lows", "_law_above", "_law_spot"]
abbrev P__law_mixed_as_due : List Str := ["_law_first", "_law_second", "_law_pairs", "_law_others"]
theorem sc__law_mixed_as_due : FnScope N__law_mixed_as_due P__law_mixed_as_due (defScope s__law_mixed_as_due) := ⟨rfl, rfl, rfl, by decide +kernel, rfl, by decide +kernel, by decide +kernel⟩
abbrev s__law_wrong_pair : Stmt := (top 52)
abbrev N__law_wrong_pair : List Str := ["_law_bag", "_law_pairs", "_law_place", "_law_spot", "_law_value", "_law_way", "_law_odd"]
abbrev P__law_wrong_pair : List Str := ["_law_bag", "_law_pairs", "_law_place"]
theorem sc__law_wrong_pair : FnScope N__law_wrong_pair P__law_wrong_pair (defScope s__law_wrong_pair) := ⟨rfl, rfl, rfl, by decide +kernel, rfl, by decide +kernel, by decide +kernel⟩
abbrev s__law_wrong_rows_refused : Stmt := (top 53)
abbrev N__law_wrong_rows_refused : List Str := ["_law_bag", "_law_pairs", "_law_row", "_law_due", "_law_later", "_law_made", "_law_case", "_law_e"]
abbrev P__law_wrong_rows_refused : List Str := ["_law_bag", "_law_pairs"]
theorem sc__law_wrong_rows_refused : FnScope N__law_wrong_rows_refused P__law_wrong_rows_refused (defScope s__law_wrong_rows_refused) := ⟨rfl, rfl, rfl, by decide +kernel, rfl, by decide +kernel, by decide +kernel⟩
abbrev s__law_spots_known : Stmt := (top 54)
abbrev N__law_spots_known : List Str := ["_law_bag", "_law_spots", "_law_spot", "_law_odd", "_law_thing"]
abbrev P__law_spots_known : List Str := ["_law_bag", "_law_spots"]
theorem sc__law_spots_known : FnScope N__law_spots_known P__law_spots_known (defScope s__law_spots_known) := ⟨rfl, rfl, rfl, by decide +kernel, rfl, by decide +kernel, by decide +kernel⟩
abbrev s_law : Stmt := (top 55)
abbrev N_law : List Str := ["_law_script", "_law_bag", "_law_spots", "_law_pairs", "_law_others", "_law_pair", "_law_way", "_law_mine", "_law_row", "_law_first", "_law_second", "_law_strange", "_law_far", "_law_known", "_law_cases", "_law_alike", "_law_case", "_law_spot"]
abbrev P_law : List Str := ["_law_script"]
theorem sc_law : FnScope N_law P_law (defScope s_law) := ⟨rfl, rfl, rfl, by decide +kernel, rfl, by decide +kernel, by decide +kernel⟩
structure Ad where
  World : Addr
  Nought : Addr
  BadWorld : Addr
  BadSpot : Addr
  NoSpot : Addr
  EllError : Addr
  aG : Addr
/-- an error's own __init__ -/
structure IniAt (K : PySem.W.Frag) (C : Addr) (q : Str) (st : Stmt) (ps : List Str) : Prop where
  ex : ∃ f fd, PySem.W.findIn K (.ref C) "__init__" = some (some (.ref f)) ∧ PySem.W.typeIn K (.ref f) = some (.type "function") ∧ Fun K "__init__" q st f fd ∧ Binds K fd ps []
/-- a method that stands for a sign -/
structure OwAt (K : PySem.W.Frag) (C : Addr) (m q : Str) (st : Stmt) (ps : List Str) : Prop where
  ex : ∃ f fd, OpM K C m f ∧ PySem.W.fnIn K f = true ∧ Fun K m q st f fd ∧ Binds K fd ps []
/-- what the top has written -/
structure Txt (K : PySem.W.Frag) (mg : Str → Option Value) (a : Ad) : Prop where
  n_isinstance : mg "isinstance" = none
  n_int : mg "int" = none
  n_bool : mg "bool" = none
  n_tuple : mg "tuple" = none
  n_str : mg "str" = none
  n_list : mg "list" = none
  n_len : mg "len" = none
  n_abs : mg "abs" = none
  n_range : mg "range" = none
  n_enumerate : mg "enumerate" = none
  n_iter : mg "iter" = none
  n_repr : mg "repr" = none
  n_ValueError : mg "ValueError" = none
  gcd : mg "gcd" = some (.builtin "math.gcd")
  k_GROUND : mg "GROUND" = some (.ref a.aG)
  t_GROUND : ∀ H, SqT K H a.aG [.str "ground", .int 0, .int 0]
  ox_Nought : OexC K a.Nought
  g_Nought : mg "Nought" = some (.ref a.Nought)
  no_Nought_number : PySem.W.findIn K (.ref a.Nought) "number" = some none
  i_Nought : IniAt K a.Nought "Nought.__init__" s_NoughtD_initD P_NoughtD_initD
  e_Nought : ErrC K a.Nought
  xf_Nought : XfC K a.Nought
  kv_Nought : PySem.W.kitOne K (.ref a.Nought) (.type "ValueError") = some true
  ox_BadWorld : OexC K a.BadWorld
  g_BadWorld : mg "BadWorld" = some (.ref a.BadWorld)
  no_BadWorld_place : PySem.W.findIn K (.ref a.BadWorld) "place" = some none
  i_BadWorld : IniAt K a.BadWorld "BadWorld.__init__" s_BadWorldD_initD P_BadWorldD_initD
  e_BadWorld : ErrC K a.BadWorld
  xf_BadWorld : XfC K a.BadWorld
  kv_BadWorld : PySem.W.kitOne K (.ref a.BadWorld) (.type "ValueError") = some true
  ox_NoSpot : OexC K a.NoSpot
  g_NoSpot : mg "NoSpot" = some (.ref a.NoSpot)
  no_NoSpot_spot : PySem.W.findIn K (.ref a.NoSpot) "spot" = some none
  i_NoSpot : IniAt K a.NoSpot "NoSpot.__init__" s_NoSpotD_initD P_NoSpotD_initD
  e_NoSpot : ErrC K a.NoSpot
  xf_NoSpot : XfC K a.NoSpot
  kv_NoSpot : PySem.W.kitOne K (.ref a.NoSpot) (.type "ValueError") = some true
  kn_NoSpot : PySem.W.kitAny K (.ref a.NoSpot) [.ref a.BadWorld, .ref a.BadSpot] = some false
  kn_BadWorld : PySem.W.kitAny K (.ref a.BadWorld) [.ref a.NoSpot, .ref a.BadSpot] = some false
  em_NoSpot : PySem.W.exmOne K (.ref a.NoSpot) (.ref a.EllError) = some true
  em_BadWorld : PySem.W.exmOne K (.ref a.BadWorld) (.ref a.EllError) = some true
  g_BadSpot : mg "BadSpot" = some (.ref a.BadSpot)
  g_EllError : mg "EllError" = some (.ref a.EllError)
  g_World : mg "World" = some (.ref a.World)
  ki : KiC K a.World
  nV : NoAttr K a.World "_values"
  nf : NoFirst K a.World
  kit_no : ∀ T ∈ (["NoneType", "bool", "int", "str", "list", "tuple"] : List String), PySem.W.kitOne K (.type T) (.ref a.World) = some false
  i_World : MkAt K a.World "World.__init__" s_WorldD_initD P_WorldD_initD
  o_getitem : OwAt K a.World "__getitem__" "World.__getitem__" s_WorldD_getitemD P_WorldD_getitemD
  o_contains : OwAt K a.World "__contains__" "World.__contains__" s_WorldD_containsD P_WorldD_containsD
  o_len : OwAt K a.World "__len__" "World.__len__" s_WorldD_lenD P_WorldD_lenD
  o_eq : OwAt K a.World "__eq__" "World.__eq__" s_WorldD_eqD P_WorldD_eqD
  o_iter : OwAt K a.World "__iter__" "World.__iter__" s_WorldD_iterD P_WorldD_iterD
  m_gap : MthAt K a.World "gap" "World.gap" s_World_gap P_World_gap
  m_keeps : MthAt K a.World "keeps" "World.keeps" s_World_keeps P_World_keeps
  d_is_integer : DefAt K mg "is_integer" s_is_integer P_is_integer
  d_is_row : DefAt K mg "is_row" s_is_row P_is_row
  d_is_tuple_of : DefAt K mg "is_tuple_of" s_is_tuple_of P_is_tuple_of
  d_is_ratio : DefAt K mg "is_ratio" s_is_ratio P_is_ratio
  d_minus : DefAt K mg "minus" s_minus P_minus
  d_compare : DefAt K mg "compare" s_compare P_compare
  d_is_spot : DefAt K mg "is_spot" s_is_spot P_is_spot
  d__values_of : DefAt K mg "_values_of" s__values_of P__values_of
  d_higher : DefAt K mg "higher" s_higher P_higher
  d_lower : DefAt K mg "lower" s_lower P_lower
  d__chosen : DefAt K mg "_chosen" s__chosen P__chosen
  d__ask_for_all : DefAt K mg "_ask_for_all" s__ask_for_all P__ask_for_all
  d__law_bag_of : DefAt K mg "_law_bag_of" s__law_bag_of P__law_bag_of
  d__law_pick : DefAt K mg "_law_pick" s__law_pick P__law_pick
  d__law_choice : DefAt K mg "_law_choice" s__law_choice P__law_choice
  d__law_some : DefAt K mg "_law_some" s__law_some P__law_some
  d__law_shuffled : DefAt K mg "_law_shuffled" s__law_shuffled P__law_shuffled
  d__law_integer : DefAt K mg "_law_integer" s__law_integer P__law_integer
  d__law_gcd : DefAt K mg "_law_gcd" s__law_gcd P__law_gcd
  d__law_ratio : DefAt K mg "_law_ratio" s__law_ratio P__law_ratio
  d__law_is_ratio : DefAt K mg "_law_is_ratio" s__law_is_ratio P__law_is_ratio
  d__law_plus : DefAt K mg "_law_plus" s__law_plus P__law_plus
  d__law_minus : DefAt K mg "_law_minus" s__law_minus P__law_minus
  d__law_less : DefAt K mg "_law_less" s__law_less P__law_less
  d__law_ground : DefAt K mg "_law_ground" s__law_ground P__law_ground
  d__law_word_drawn : DefAt K mg "_law_word_drawn" s__law_word_drawn P__law_word_drawn
  d__law_whole : DefAt K mg "_law_whole" s__law_whole P__law_whole
  d__law_some_spots : DefAt K mg "_law_some_spots" s__law_some_spots P__law_some_spots
  d__law_stranger : DefAt K mg "_law_stranger" s__law_stranger P__law_stranger
  d__law_spot_like : DefAt K mg "_law_spot_like" s__law_spot_like P__law_spot_like
  d__law_drawn_ratio : DefAt K mg "_law_drawn_ratio" s__law_drawn_ratio P__law_drawn_ratio
  d__law_told_well : DefAt K mg "_law_told_well" s__law_told_well P__law_told_well
  d__law_gaps_told_well : DefAt K mg "_law_gaps_told_well" s__law_gaps_told_well P__law_gaps_told_well
  d__law_lacks : DefAt K mg "_law_lacks" s__law_lacks P__law_lacks
  d__law_lookalikes : DefAt K mg "_law_lookalikes" s__law_lookalikes P__law_lookalikes
  d__law_strangers_refused : DefAt K mg "_law_strangers_refused" s__law_strangers_refused P__law_strangers_refused
  d__law_equal_as_due : DefAt K mg "_law_equal_as_due" s__law_equal_as_due P__law_equal_as_due
  d__law_mixed_as_due : DefAt K mg "_law_mixed_as_due" s__law_mixed_as_due P__law_mixed_as_due
  d__law_wrong_pair : DefAt K mg "_law_wrong_pair" s__law_wrong_pair P__law_wrong_pair
  d__law_wrong_rows_refused : DefAt K mg "_law_wrong_rows_refused" s__law_wrong_rows_refused P__law_wrong_rows_refused
  d__law_spots_known : DefAt K mg "_law_spots_known" s__law_spots_known P__law_spots_known
  d_law : DefAt K mg "law" s_law P_law
  d_ratio : DefAtD K mg "ratio" s_ratio P_ratio [.int 1]
section
variable {P : Program} {w : World} {K : PySem.W.Frag} {mg : Str → Option Value} {base : Heap} {a : Ad}
/-! ### checks -/
/-- not an integer: a bool, or a thing of a type that is none of int's -/
def NoI (K : PySem.W.Frag) (H : Hp) (v : V) : Prop := (∃ b, v = .bl b) ∨ ∃ t, TyX K H v t ∧ PySem.W.kitOne K t (.type "int") = some false
def sp_is_integer (K : PySem.W.Frag) : Sp := fun vs H Q _ => ∃ v, vs = [v] ∧ ((∃ i, v = .int i ∧ Q (.bl true) H) ∨ (NoI K H v ∧ Q (.bl false) H))
theorem c_is_integer (T : Txt K mg a) : Cl P w K mg base 1 "is_integer" P_is_integer (sp_is_integer K) [] :=
  T.d_is_integer.cl sc_is_integer (fun vs H Q E h => by obtain ⟨i, rfl, _⟩ := h; rfl) fun f cdv A outer s H vs Q E hr h => by
    obtain ⟨v, rfl, h⟩ := h
    refine ⟨_, ((pss_one (ps_ret (pe_and (pe_callB call_isi (by rfl) T.n_isinstance (by decide +kernel) (pa_cons (pv 0) (pa_cons (pe_bltn (v := .ty "int") (by rfl) T.n_int (by decide +kernel) rfl) pa_nil))) (pe_one (pe_not (pe_callB call_isi (by rfl) T.n_isinstance (by decide +kernel) (pa_cons (pv 0) (pa_cons (pe_bltn (v := .ty "bool") (by rfl) T.n_bool (by decide +kernel) rfl) pa_nil))))))))), ?_⟩
    rcases h with ⟨i, rfl, k⟩ | ⟨⟨b, rfl⟩ | ⟨t, ht, hk⟩, k⟩
    · refine ⟨_, rfl, _, _, _, _, true, rfl, .ty _, .base (.int _), kit_ty (by decide +kernel), true, rfl, iteT ?_⟩
      exact ⟨_, rfl, _, _, _, _, false, rfl, .ty _, .base (.int _), kit_ty (by decide +kernel), false, rfl, k⟩
    · refine ⟨_, rfl, _, _, _, _, true, rfl, .ty _, .base (.bl _), kit_ty (by decide +kernel), true, rfl, iteT ?_⟩
      exact ⟨_, rfl, _, _, _, _, true, rfl, .ty _, .base (.bl _), kit_ty (by decide +kernel), true, rfl, k⟩
    · exact ⟨_, rfl, _, _, _, _, false, rfl, .ty _, ht, hk, false, rfl, iteF k⟩
def sp_is_tuple_of (K : PySem.W.Frag) : Sp := fun vs H Q _ => ∃ (v : V) (m : Int), vs = [v, .int m] ∧
  ((∃ p xs, v = .ref p ∧ SqT K H p xs ∧ Q (.bl (decide (V.int xs.length = V.int m))) H) ∨ ∃ t, TyX K H v t ∧ PySem.W.kitOne K t (.type "tuple") = some false ∧ Q (.bl false) H)
theorem c_is_tuple_of (T : Txt K mg a) : Cl P w K mg base 1 "is_tuple_of" P_is_tuple_of (sp_is_tuple_of K) [] :=
  T.d_is_tuple_of.cl sc_is_tuple_of (fun vs H Q E h => by obtain ⟨i, lo, rfl, _⟩ := h; rfl) fun f cdv A outer s H vs Q E hr h => by
    obtain ⟨v, m, rfl, h⟩ := h
    refine ⟨_, ((pss_one (ps_ret (pe_and (pe_callB call_isi (by rfl) T.n_isinstance (by decide +kernel) (pa_cons (pv 0) (pa_cons (pe_bltn (v := .ty "tuple") (by rfl) T.n_tuple (by decide +kernel) rfl) pa_nil))) (pe_one (pe_cmpR op_eq (pe_callB call_len_seq (by rfl) T.n_len (by decide +kernel) (pa_cons (pv 0) pa_nil)) (pv 1) (nomark _))))))), ?_⟩
    rcases h with ⟨p, xs, rfl, hx, k⟩ | ⟨t, ht, hk, k⟩
    · refine ⟨_, rfl, _, _, _, _, true, rfl, .ty _, ty_sqT hx, kit_ty (by decide +kernel), true, rfl, iteT ?_⟩
      exact ⟨_, rfl, _, _, rfl, .inr hx, _, rfl, rfl, k⟩
    · exact ⟨_, rfl, _, _, _, _, false, rfl, .ty _, ht, hk, false, rfl, iteF k⟩
def sp_is_row (K : PySem.W.Frag) : Sp := fun vs H Q _ => ∃ (F : Hp) (p : Addr) (xs : List V), vs = [.ref p] ∧ (SqL K F p xs ∨ SqT K F p xs) ∧ Pu F H Q fun _ v => v = .bl true
theorem c_is_row (T : Txt K mg a) : Cl P w K mg base 1 "is_row" P_is_row (sp_is_row K) [] :=
  T.d_is_row.cl sc_is_row (fun vs H Q E h => by obtain ⟨F, p, xs, rfl, _⟩ := h; rfl) fun f cdv A outer s H vs Q E hr h => by
    obtain ⟨F, p, xs, rfl, hx, hf, k⟩ := h
    refine ⟨_, ((pss_one (ps_ret (pe_callB call_isiT (by rfl) T.n_isinstance (by decide +kernel) (pa_cons (pv 0) (pa_cons (pe_tup (pa_cons (pe_bltn (v := .ty "list") (by rfl) T.n_list (by decide +kernel) rfl) (pa_cons (pe_bltn (v := .ty "tuple") (by rfl) T.n_tuple (by decide +kernel) rfl) pa_nil))) pa_nil)))))), ?_⟩
    refine ⟨_, rfl, by show 2 ≤ sizeLine; decide, fun q hq => ?_⟩
    have fin : ∀ t, TyX K (upd H q (.tup [.ty "list", .ty "tuple"])) (.ref p) t → PySem.W.kitAny K t [.type "list", .type "tuple"] = some true → rIsiT K [.ref p, .ref q] (upd H q (.tup [.ty "list", .ty "tuple"])) Q := fun t ty hk =>
      ⟨_, q, _, t, _, true, rfl, upd_same, .cons (.ty _) (.cons (.ty _) .nil), ty, hk, k _ _ _ (stp_new hf hq) rfl⟩
    rcases hx with hx | hx
    · exact fin _ (ty_sqL (upL (same_new hq) (upL hf hx))) (kitAny_cons (b := true) (kit_ty (by decide +kernel)) (fun z => nomatch z) fun _ => rfl)
    · exact fin _ (ty_sqT (upT (same_new hq) (upT hf hx))) (kitAny_cons (b := false) (kit_ty (by decide +kernel)) (fun _ => kitAny_cons (b := true) (kit_ty (by decide +kernel)) (fun z => nomatch z) fun _ => rfl) fun z => nomatch z)
theorem map_of {α : Type} {xs : List α} {f : α → V} : ∀ {ys : List V}, ys.length = xs.length → (∀ (j : Nat) y, ys[j]? = some y → ∃ x, xs[j]? = some x ∧ y = f x) → ys = xs.map f := by
  induction xs with
  | nil => intro ys h _; simpa using h
  | cons x xs ih =>
    intro ys h q
    cases ys with
    | nil => simp at h
    | cons y ys =>
      obtain ⟨x', hx, hy⟩ := q 0 y rfl
      cases hx
      rw [hy, List.map_cons, ih (by simpa using h) fun j z hz => q (j + 1) z hz]
theorem x_Nought (T : Txt K mg a) : Mke P w K mg base 1 "Nought" a.Nought P_NoughtD_initD (spI1 a.Nought "number") := by
  obtain ⟨f, fd, hi, ht, F, b⟩ := T.i_Nought.ex
  refine ⟨T.g_Nought, T.ox_Nought, f, fd, hi, ht, fun_ok F sc_NoughtD_initD (fun vs H Q E h => by obtain ⟨x, v, rfl, _⟩ := h; rfl) fun f cdv A outer s H vs Q E hr h => ?_, b⟩
  obtain ⟨x, v, rfl, hx, k⟩ := h
  exact ⟨_, ((pss_one (ps_ost (pv 0) (pv 1)))), _, rfl, _, rfl, x, a.Nought, rfl, T.ox_Nought, T.no_Nought_number, .inl ⟨hx, fun dx n ne => k dx n ne⟩⟩
theorem x_BadWorld (T : Txt K mg a) : Mke P w K mg base 1 "BadWorld" a.BadWorld P_BadWorldD_initD (spI1 a.BadWorld "place") := by
  obtain ⟨f, fd, hi, ht, F, b⟩ := T.i_BadWorld.ex
  refine ⟨T.g_BadWorld, T.ox_BadWorld, f, fd, hi, ht, fun_ok F sc_BadWorldD_initD (fun vs H Q E h => by obtain ⟨x, v, rfl, _⟩ := h; rfl) fun f cdv A outer s H vs Q E hr h => ?_, b⟩
  obtain ⟨x, v, rfl, hx, k⟩ := h
  exact ⟨_, ((pss_one (ps_ost (pv 0) (pv 1)))), _, rfl, _, rfl, x, a.BadWorld, rfl, T.ox_BadWorld, T.no_BadWorld_place, .inl ⟨hx, fun dx n ne => k dx n ne⟩⟩
theorem x_NoSpot (T : Txt K mg a) : Mke P w K mg base 1 "NoSpot" a.NoSpot P_NoSpotD_initD (spI1 a.NoSpot "spot") := by
  obtain ⟨f, fd, hi, ht, F, b⟩ := T.i_NoSpot.ex
  refine ⟨T.g_NoSpot, T.ox_NoSpot, f, fd, hi, ht, fun_ok F sc_NoSpotD_initD (fun vs H Q E h => by obtain ⟨x, v, rfl, _⟩ := h; rfl) fun f cdv A outer s H vs Q E hr h => ?_, b⟩
  obtain ⟨x, v, rfl, hx, k⟩ := h
  exact ⟨_, ((pss_one (ps_ost (pv 0) (pv 1)))), _, rfl, _, rfl, x, a.NoSpot, rfl, T.ox_NoSpot, T.no_NoSpot_spot, .inl ⟨hx, fun dx n ne => k dx n ne⟩⟩
end
end K26

set_option Elab.async false
set_option linter.all false
set_option maxRecDepth 100000
set_option maxHeartbeats 4000000
namespace K26
open PySem PySem.Spec PyProof.Rows L2 Ew
section
variable {P : Program} {w : World} {K : PySem.W.Frag} {mg : Str → Option Value} {base : Heap} {a : Ad}
/-! ### ratios -/
theorem at0 {x y : V} : atI [x, y] 0 = some x := rfl
theorem at1 {x y : V} : atI [x, y] 1 = some y := rfl
/-- n over d -/
def sp_ratioN (K : PySem.W.Frag) (a : Ad) : Sp := fun vs H Q E => ∃ (F : Hp) (n d : Int), vs = [.int n, .int d] ∧ Sz 8000 d ∧ Same F H ∧ (d = 0 → Ra F H E a.Nought fun F' x => F' x = some (.xd [("number", .int n)])) ∧
  (d ≠ 0 → ∀ F' H' v, Stp F H F' H' → Rt K F' v (rat n d) → Q v H')
theorem b_ratio (T : Txt K mg a) : BodyOk P w K mg base N_ratio "ratio" s_ratio 2 (sp_ratioN K a) := fun f cdv A outer s H vs Q E hr h => by
    obtain ⟨F, n, d, rfl, hz, hf, k0, k⟩ := h
    refine ⟨_, ((pss_cons (ps_if (pt_cmpR op_eq (pv 1) pe_int (nomark _))
 (pss_one (ps_raise1 rfl (takes_of rfl rfl rfl rfl) (x_Nought T) hr (by decide) rfl (pv 0)))
 pss_nil)
 (pss_cons (ps_set (i := 2) sc_ratio.nd rfl (Or.inl rfl) (pe_callBfun cr_gcd (by rfl) T.gcd (pa_cons (pv 0) (pa_cons (pv 1) pa_nil))))
 (pss_cons (ps_if (pt_cmpR op_lt (pv 1) pe_int (nomark _))
 (pss_one (ps_set (i := 2) sc_ratio.nd rfl (Or.inl rfl) (pe_un un_neg (pv 2))))
 pss_nil)
 (pss_one (ps_ret (pe_tup (pa_cons (pe_op op_fdivX (pv 0) (pv 2)) (pa_cons (pe_op op_fdivX (pv 1) (pv 2)) pa_nil))))))))), ?_⟩
    refine ⟨_, rfl, rfl, _, rfl, ?_⟩
    by_cases h0 : d = 0
    · exact iteY (vint_eq h0) ⟨_, rfl, fun x hx => k0 h0 _ _ x (stp_new hf hx) upd_same⟩
    have k := k h0
    have cd : ∀ i : Int, CDivX i (com n d) := fun i => ⟨com_ne h0, (com_sz h0 hz).log (by decide) (by decide)⟩
    refine iteN (vint_ne h0) ⟨_, rfl, _, rfl, n, d, rfl, ?_⟩
    have fin : ∀ c : Int, c = com n d → (tRet (tTup (tCons (tOp (rI CDivX fun i j => .int (i.fdiv j)) (tVar 0) (tVar 2)) (tCons (tOp (rI CDivX fun i j => .int (i.fdiv j)) (tVar 1) (tVar 2)) tNil)))) { nx := fun _ H' => Q .non H', rt := Q } [some (.int n), some (.int d), some (.int c)] H := by
      rintro c rfl
      refine ⟨_, rfl, _, rfl, _, _, rfl, rfl, cd _, _, rfl, _, rfl, _, _, rfl, rfl, cd _, by show 2 ≤ sizeLine; decide, fun p hp => ?_⟩
      exact k _ _ _ (stp_new hf hp) ⟨p, rfl, sq_new⟩
    refine ⟨_, rfl, _, _, rfl, rfl, _, rfl, ?_⟩
    refine ite2 (fun e => ?_) (fun e => ?_)
    · refine ⟨_, rfl, _, rfl, fin _ ?_⟩
      unfold com; rw [if_pos (of_decide_eq_true e)]
    · refine fin _ ?_
      unfold com; rw [if_neg fun z => e (decide_eq_true z)]
theorem c_ratioN (T : Txt K mg a) : Cl P w K mg base 3 "ratio" P_ratio (sp_ratioN K a) [] :=
  T.d_ratio.cl 1 (by decide) sc_ratio (fun vs H Q E h => by obtain ⟨F, n, d, rfl, _⟩ := h; rfl) (b_ratio T)
theorem c_ratio1 (T : Txt K mg a) : Cl P w K mg base 3 "ratio" P_ratio (sp_ratioN K a) [.int 1] :=
  T.d_ratio.cl 0 (by decide) sc_ratio (fun vs H Q E h => by obtain ⟨F, n, d, rfl, _⟩ := h; rfl) (b_ratio T)
/-- the same where d is not 0 -/
def sp_ratio (K : PySem.W.Frag) : Sp := fun vs H Q _ => ∃ (F : Hp) (n d : Int), vs = [.int n, .int d] ∧ d ≠ 0 ∧ Sz 8000 d ∧ Pu F H Q fun F' v => Rt K F' v (rat n d)
theorem c_ratio (T : Txt K mg a) : Cl P w K mg base 3 "ratio" P_ratio (sp_ratio K) [] :=
  T.d_ratio.cl 1 (by decide) sc_ratio (fun vs H Q E h => by obtain ⟨F, n, d, rfl, _⟩ := h; rfl) fun f cdv A outer s H vs Q E hr h => by
    obtain ⟨F, n, d, rfl, h0, hz, hf, k⟩ := h
    exact b_ratio T f cdv A outer s H _ Q E hr ⟨F, n, d, rfl, hz, hf, fun z => absurd z h0, fun _ => k⟩
/-- a def of two ratios that hands back a ratio -/
def sp_two (K : PySem.W.Frag) (g : Int × Int → Int × Int → Int × Int) : Sp := fun vs H Q _ => ∃ (F : Hp) (u v : V) (r q : Int × Int), vs = [u, v] ∧ Rt K F u r ∧ Rt K F v q ∧ Sz 2000 r.1 ∧ Sz 2000 r.2 ∧ Sz 2000 q.1 ∧ Sz 2000 q.2 ∧ r.2 ≠ 0 ∧ q.2 ≠ 0 ∧ Pu F H Q fun F' z => Rt K F' z (g r q)
def rPlus (r q : Int × Int) : Int × Int := rat (r.1 * q.2 + q.1 * r.2) (r.2 * q.2)
def rMinus (r q : Int × Int) : Int × Int := rat (r.1 * q.2 - q.1 * r.2) (r.2 * q.2)
def rTimes (r q : Int × Int) : Int × Int := rat (r.1 * q.1) (r.2 * q.2)
def rOver (r q : Int × Int) : Int × Int := rat (r.1 * q.2) (r.2 * q.1)
theorem sz1 : Sz 2000 1 := by unfold Sz; exact Nat.one_lt_two_pow (by decide)
theorem mulw {x y : Int} (h : Sz 2000 x) (k : Sz 2000 y) : CMulW x y := wide_mul h k (by decide) (by decide) (by decide)
theorem c_minus (T : Txt K mg a) : Cl P w K mg base 4 "minus" P_minus (sp_two K rMinus) [] :=
  T.d_minus.cl sc_minus (fun vs H Q E h => by obtain ⟨F, u, v, r, q, rfl, _⟩ := h; rfl) fun f cdv A outer s H vs Q E hr h => by
    obtain ⟨F, u, v, r, q, rfl, ⟨p1, rfl, h1⟩, ⟨p2, rfl, h2⟩, z1, z2, z3, z4, n1, n2, hf, k⟩ := h
    refine ⟨_, ((pss_one (ps_ret (pe_f (c_ratio T) (takes_of rfl rfl rfl rfl) hr (by decide) rfl (pa_cons (pe_op op_sub (pe_op op_mulW (pe_ix ix_tup (pv 0) pe_int (fun _ _ => rfl)) (pe_ix ix_tup (pv 1) pe_int (fun _ _ => rfl))) (pe_op op_mulW (pe_ix ix_tup (pv 1) pe_int (fun _ _ => rfl)) (pe_ix ix_tup (pv 0) pe_int (fun _ _ => rfl)))) (pa_cons (pe_op op_mulW (pe_ix ix_tup (pv 0) pe_int (fun _ _ => rfl)) (pe_ix ix_tup (pv 1) pe_int (fun _ _ => rfl))) pa_nil)))))), ?_⟩
    refine ⟨_, rfl, p1, _, _, _, rfl, rfl, upT hf h1, at0, _, rfl, p2, _, _, _, rfl, rfl, upT hf h2, at1, _, _, rfl, rfl, mulw z1 z4, ?_⟩
    refine ⟨_, rfl, p2, _, _, _, rfl, rfl, upT hf h2, at0, _, rfl, p1, _, _, _, rfl, rfl, upT hf h1, at1, _, _, rfl, rfl, mulw z3 z2, _, _, rfl, rfl, ?_⟩
    refine ⟨_, rfl, p1, _, _, _, rfl, rfl, upT hf h1, at1, _, rfl, p2, _, _, _, rfl, rfl, upT hf h2, at1, _, _, rfl, rfl, mulw z2 z4, ?_⟩
    exact ⟨F, _, _, rfl, Int.mul_ne_zero n1 n2, (z2.mul z4).mono (by decide), hf, k⟩
def rCmp (r q : Int × Int) : Int := if r.1 * q.2 = q.1 * r.2 then 0 else if r.1 * q.2 < q.1 * r.2 then -1 else 1
def sp_compare (K : PySem.W.Frag) : Sp := fun vs H Q _ => ∃ (u v : V) (r q : Int × Int), vs = [u, v] ∧ Rt K H u r ∧ Rt K H v q ∧ Sz 2000 r.1 ∧ Sz 2000 r.2 ∧ Sz 2000 q.1 ∧ Sz 2000 q.2 ∧ Q (.int (rCmp r q)) H
theorem c_compare (T : Txt K mg a) : Cl P w K mg base 1 "compare" P_compare (sp_compare K) [] :=
  T.d_compare.cl sc_compare (fun vs H Q E h => by obtain ⟨u, v, r, q, rfl, _⟩ := h; rfl) fun f cdv A outer s H vs Q E hr h => by
    obtain ⟨u, v, r, q, rfl, ⟨p1, rfl, h1⟩, ⟨p2, rfl, h2⟩, z1, z2, z3, z4, k⟩ := h
    refine ⟨_, ((pss_cons (ps_set (i := 2) sc_compare.nd rfl (Or.inl rfl) (pe_op op_mulW (pe_ix ix_tup (pv 0) pe_int (fun _ _ => rfl)) (pe_ix ix_tup (pv 1) pe_int (fun _ _ => rfl))))
 (pss_cons (ps_set (i := 3) sc_compare.nd rfl (Or.inl rfl) (pe_op op_mulW (pe_ix ix_tup (pv 1) pe_int (fun _ _ => rfl)) (pe_ix ix_tup (pv 0) pe_int (fun _ _ => rfl))))
 (pss_cons (ps_if (pt_cmpR op_eq (pv 2) (pv 3) (nomark _))
 (pss_one (ps_ret pe_int))
 pss_nil)
 (pss_one (ps_ret (pe_ifExp (pt_cmpR op_lt (pv 2) (pv 3) (nomark _)) (pe_un un_neg pe_int) pe_int))))))), ?_⟩
    refine ⟨_, rfl, p1, _, _, _, rfl, rfl, h1, at0, _, rfl, p2, _, _, _, rfl, rfl, h2, at1, _, _, rfl, rfl, mulw z1 z4, ?_⟩
    refine ⟨_, rfl, p2, _, _, _, rfl, rfl, h2, at0, _, rfl, p1, _, _, _, rfl, rfl, h1, at1, _, _, rfl, rfl, mulw z3 z2, ?_⟩
    refine ⟨_, rfl, _, rfl, rfl, _, rfl, ?_⟩
    unfold rCmp at k
    refine ite2 (fun e => ?_) (fun e => ?_)
    · have e : r.1 * q.2 = q.1 * r.2 := by have := of_decide_eq_true e; injection this
      rw [if_pos e] at k
      exact k
    · have e : ¬ r.1 * q.2 = q.1 * r.2 := fun z => e (decide_eq_true (congrArg V.int z))
      rw [if_neg e] at k
      refine ⟨_, rfl, _, rfl, _, _, rfl, rfl, _, rfl, ?_⟩
      refine ite2 (fun e => ?_) (fun e => ?_)
      · rw [if_pos (of_decide_eq_true e)] at k
        exact ⟨_, rfl, k⟩
      · rw [if_neg fun z => e (decide_eq_true z)] at k
        exact k
/-- a pair that may be none of a ratio -/
def sp_is_ratio (K : PySem.W.Frag) : Sp := fun vs H Q _ => ∃ v : V, vs = [v] ∧ ((∃ t, TyX K H v t ∧ PySem.W.kitOne K t (.type "tuple") = some false ∧ Q (.bl false) H) ∨ (∃ p xs, v = .ref p ∧ SqT K H p xs ∧ xs.length ≠ 2 ∧ Q (.bl false) H) ∨
  (∃ p x y, v = .ref p ∧ SqT K H p [x, y] ∧ NoI K H x ∧ Q (.bl false) H) ∨ (∃ (p : Addr) (n : Int) (y : V), v = .ref p ∧ SqT K H p [.int n, y] ∧ NoI K H y ∧ Q (.bl false) H) ∨
  ∃ (n d : Int), Rt K H v (n, d) ∧ Q (.bl (decide (1 ≤ d) && decide (Nat.gcd n.natAbs d.natAbs = 1))) H)
theorem c_is_ratio (T : Txt K mg a) : Cl P w K mg base 2 "is_ratio" P_is_ratio (sp_is_ratio K) [] :=
  T.d_is_ratio.cl sc_is_ratio (fun vs H Q E h => by obtain ⟨v, rfl, _⟩ := h; rfl) fun f cdv A outer s H vs Q E hr h => by
    obtain ⟨v, rfl, h⟩ := h
    refine ⟨_, ((pss_cons (ps_if (pt_not (pt_val (pe_f (c_is_tuple_of T) (takes_of rfl rfl rfl rfl) hr (by decide) rfl (pa_cons (pv 0) (pa_cons pe_int pa_nil)))))
 (pss_one (ps_ret pe_bl))
 pss_nil)
 (pss_cons (ps_asg (pv 0) (pg_tup rfl (pgs_cons (pg_name (i := 1) sc_is_ratio.nd rfl (Or.inl rfl)) (pgs_cons (pg_name (i := 2) sc_is_ratio.nd rfl (Or.inl rfl)) pgs_nil))))
 (pss_one (ps_ret (pe_and (pe_f (c_is_integer T) (takes_of rfl rfl rfl rfl) hr (by decide) rfl (pa_cons (pv 1) pa_nil)) (pe_and (pe_f (c_is_integer T) (takes_of rfl rfl rfl rfl) hr (by decide) rfl (pa_cons (pv 2) pa_nil)) (pe_and (pe_cmpR op_ge (pv 2) pe_int (nomark _)) (pe_one (pe_cmpR op_eq (pe_callBfun cr_gcd (by rfl) T.gcd (pa_cons (pv 1) (pa_cons (pv 2) pa_nil))) pe_int (nomark _))))))))))), ?_⟩
    rcases h with ⟨t, ht, hk, k⟩ | ⟨p, xs, rfl, hp, hl, k⟩ | ⟨p, x, y, rfl, hp, hx, k⟩ | ⟨p, n, y, rfl, hp, hy, k⟩ | ⟨n, d, ⟨p, rfl, hp⟩, k⟩
    · exact ⟨_, rfl, _, _, rfl, .inr ⟨t, ht, hk, _, rfl, iteT k⟩⟩
    · refine ⟨_, rfl, _, _, rfl, .inl ⟨p, xs, rfl, hp, _, rfl, ?_⟩⟩
      rw [decide_eq_false (fun z => hl (by have := V.int.inj z; omega))]
      exact iteT k
    · refine ⟨_, rfl, _, _, rfl, .inl ⟨p, _, rfl, hp, true, rfl, iteF ?_⟩⟩
      refine ⟨_, rfl, p, _, rfl, hp, rfl, _, _, rfl, _, _, rfl, rfl, ?_⟩
      exact ⟨_, rfl, _, rfl, .inr ⟨hx, _, rfl, iteF k⟩⟩
    · refine ⟨_, rfl, _, _, rfl, .inl ⟨p, _, rfl, hp, true, rfl, iteF ?_⟩⟩
      refine ⟨_, rfl, p, _, rfl, hp, rfl, _, _, rfl, _, _, rfl, rfl, ?_⟩
      exact ⟨_, rfl, _, rfl, .inl ⟨_, rfl, _, rfl, iteT ⟨_, rfl, _, rfl, .inr ⟨hy, _, rfl, iteF k⟩⟩⟩⟩
    · refine ⟨_, rfl, _, _, rfl, .inl ⟨p, _, rfl, hp, true, rfl, iteF ?_⟩⟩
      refine ⟨_, rfl, p, _, rfl, hp, rfl, _, _, rfl, _, _, rfl, rfl, ?_⟩
      refine ⟨_, rfl, _, rfl, .inl ⟨_, rfl, _, rfl, iteT ⟨_, rfl, _, rfl, .inl ⟨_, rfl, _, rfl, iteT ?_⟩⟩⟩⟩
      refine ⟨_, rfl, _, _, rfl, rfl, _, rfl, ?_⟩
      cases e : decide (1 ≤ d) with
      | false => exact iteF (by rw [e] at k; exact k)
      | true =>
        refine iteT ⟨_, rfl, _, rfl, _, _, rfl, rfl, ?_⟩
        rw [e] at k
        have : decide (V.int (Nat.gcd n.natAbs d.natAbs : Nat) = V.int 1) = decide (Nat.gcd n.natAbs d.natAbs = 1) := by
          by_cases h : Nat.gcd n.natAbs d.natAbs = 1
          · simp [h]
          · rw [decide_eq_false h, decide_eq_false]
            intro z
            have := V.int.inj z
            omega
        rw [this]
        exact k
end
end K26

set_option Elab.async false
set_option linter.all false
set_option maxRecDepth 100000
set_option maxHeartbeats 4000000
namespace K26
open PySem PySem.Spec PyProof.Rows L2 Ew
/-! ### the law's bag -/
theorem _root_.Ew.Stm.touch {m : Addr → Prop} {F H F' H' : Hp} {p : Addr} {o : HO} (a : Stm m F H F' H') (hm : m p) (hf : F' p = none) : Stm m F H F' (upd H' p o) :=
  ⟨a.ff, fun b u e => by rw [upd_ne (ne_of_none e hf)]; exact a.fh b u e, fun x u n e => by rw [upd_ne (fun z => n (by rw [z]; exact hm))]; exact a.hh x u n e, a.nw⟩
def bk (la : Addr) (at_ rest mixed count : Int) : List (Key × V) := [(.inr "cells", .ref la), (.inr "at", .int at_), (.inr "rest", .int rest), (.inr "mixed", .int mixed), (.inr "count", .int count)]
def Bag (K : PySem.W.Frag) (b : Addr) (F H : Hp) : Prop := F b = none ∧ ∃ (la : Addr) (ns : List Int) (at_ rest mixed count : Int), 0 ≤ at_ ∧ ns.length ≤ 1000 ∧ SqL K F la (ns.map V.int) ∧ H b = some (.dK (bk la at_ rest mixed count))
theorem memB (K : PySem.W.Frag) (b : Addr) : Mem (fun x => x = b) (Bag K b) where
  there := fun ⟨_, _, _, _, _, _, _, _, _, _, h⟩ z => by rw [z, h]; exact fun q => nomatch q
  off := fun ⟨h, _⟩ z => by rw [z]; exact h
  put := fun ⟨h, la, ns, at_, rest, mixed, count, h1, h2, h3, h4⟩ n => ⟨h, la, ns, at_, rest, mixed, count, h1, h2, h3, by rw [upd_ne (fun z => n z.symm)]; exact h4⟩
  grow := fun ⟨h, la, ns, at_, rest, mixed, count, h1, h2, h3, h4⟩ e k => ⟨k _ rfl, la, ns, at_, rest, mixed, count, h1, h2, upL e h3, h4⟩
section
variable {H : Hp} {b la : Addr} {at_ rest mixed count n : Int}
theorem dg_c (h : H b = some (.dK (bk la at_ rest mixed count))) : DGet H b (.str "cells") (some (.ref la)) := .inl ⟨_, .inr "cells", .inl h, rfl, rfl⟩
theorem dg_a (h : H b = some (.dK (bk la at_ rest mixed count))) : DGet H b (.str "at") (some (.int at_)) := .inl ⟨_, .inr "at", .inl h, rfl, rfl⟩
theorem dg_r (h : H b = some (.dK (bk la at_ rest mixed count))) : DGet H b (.str "rest") (some (.int rest)) := .inl ⟨_, .inr "rest", .inl h, rfl, rfl⟩
theorem dg_m (h : H b = some (.dK (bk la at_ rest mixed count))) : DGet H b (.str "mixed") (some (.int mixed)) := .inl ⟨_, .inr "mixed", .inl h, rfl, rfl⟩
theorem dg_n (h : H b = some (.dK (bk la at_ rest mixed count))) : DGet H b (.str "count") (some (.int count)) := .inl ⟨_, .inr "count", .inl h, rfl, rfl⟩
theorem dp_a (h : H b = some (.dK (bk la at_ rest mixed count))) : DPut H b (.str "at") (.int n) (upd H b (.dK (bk la n rest mixed count))) := .inl ⟨_, .inr "at", h, rfl, Nat.lt_of_le_of_lt (by decide : 5 ≤ 1000) (by decide), rfl⟩
theorem dp_r (h : H b = some (.dK (bk la at_ rest mixed count))) : DPut H b (.str "rest") (.int n) (upd H b (.dK (bk la at_ n mixed count))) := .inl ⟨_, .inr "rest", h, rfl, Nat.lt_of_le_of_lt (by decide : 5 ≤ 1000) (by decide), rfl⟩
theorem dp_m (h : H b = some (.dK (bk la at_ rest mixed count))) : DPut H b (.str "mixed") (.int n) (upd H b (.dK (bk la at_ rest n count))) := .inl ⟨_, .inr "mixed", h, rfl, Nat.lt_of_le_of_lt (by decide : 5 ≤ 1000) (by decide), rfl⟩
theorem dp_n (h : H b = some (.dK (bk la at_ rest mixed count))) : DPut H b (.str "count") (.int n) (upd H b (.dK (bk la at_ rest mixed n))) := .inl ⟨_, .inr "count", h, rfl, Nat.lt_of_le_of_lt (by decide : 5 ≤ 1000) (by decide), rfl⟩
end
section
variable {P : Program} {w : World} {K : PySem.W.Frag} {mg : Str → Option Value} {base : Heap} {a : Ad}
theorem log_sz {j : Int} (h : Sz 8000 j) : j.natAbs.log2 < 9000 := h.log (by decide) (by decide)
theorem atI_int {α : Type} {xs : List α} {i : Int} {x : α} (h0 : 0 ≤ i) (h1 : i < xs.length) (h : xs[i.toNat]? = some x) : atI xs i = some x := by
  unfold atI
  unfold ixN
  rw [if_pos h0, if_pos h1]
  exact h
theorem seq_with {t u : TS} {D : Ends} {σ : L2.St} {H : Hp} (Pv : L2.St → Hp → Prop) (h1 : ∀ u', (∀ σ H, Pv σ H → u' D σ H) → tSeq t u' D σ H) (h2 : ∀ σ H, Pv σ H → u D σ H) : tSeq t u D σ H := h1 u h2
def sp__law_pick (K : PySem.W.Frag) : Sp := fun vs H Q _ => ∃ (F : Hp) (b : Addr) (many : Int), vs = [.ref b, .int many] ∧ Bag K b F H ∧ Same F H ∧ 0 < many ∧ Sz 8000 many ∧
  ∀ H' (i : Int), Stm (fun x => x = b) F H F H' → Bag K b F H' → 0 ≤ i → i < many → Q (.int i) H'
theorem c__law_pick (T : Txt K mg a) : Cl P w K mg base 1 "_law_pick" P__law_pick (sp__law_pick K) [] :=
  T.d__law_pick.cl sc__law_pick (fun vs H Q E h => by obtain ⟨F, b, many, rfl, _⟩ := h; rfl) fun f cdv A outer s H vs Q E hr h => by
    obtain ⟨F, b, many, rfl, ⟨fb, la, ns, at_, rest, mixed, count, h0, hn, hl, hb⟩, hf, hm, hz, k⟩ := h
    have hz := log_sz hz
    have ok : ∀ (x : Int), 0 ≤ x % many ∧ x % many < many := fun x => ⟨Int.emod_nonneg _ (by omega), Int.emod_lt_of_pos _ hm⟩
    refine ⟨_, ((pss_cons (ps_dput (hu_of hr) (pv 0) pe_str (pe_op op_add (pe_dget (hu_of hr) (pv 0) pe_str (fun _ _ => rfl)) pe_int) rfl)
 (pss_cons (ps_if (pt_cmpR op_gt (pe_dget (hu_of hr) (pv 0) pe_str (fun _ _ => rfl)) pe_int (nomark _))
 (pss_cons (ps_set (i := 2) sc__law_pick.nd rfl (Or.inl rfl) (pe_dget (hu_of hr) (pv 0) pe_str (fun _ _ => rfl)))
 (pss_cons (ps_dput (hu_of hr) (pv 0) pe_str (pe_op op_fdivW (pv 2) (pv 1)) rfl)
 (pss_one (ps_ret (pe_op op_mod (pe_callTy call_int1 (by rfl) T.n_int (by decide +kernel) (pa_cons (pv 2) pa_nil)) (pv 1))))))
 pss_nil)
 (pss_cons (ps_set (i := 3) sc__law_pick.nd rfl (Or.inl rfl) pe_int)
 (pss_cons (ps_if (pt_cmpR op_lt (pe_dget (hu_of hr) (pv 0) pe_str (fun _ _ => rfl)) (pe_callB call_len_seq (by rfl) T.n_len (by decide +kernel) (pa_cons (pe_dget (hu_of hr) (pv 0) pe_str (fun _ _ => rfl)) pa_nil)) (nomark _))
 (pss_cons (ps_set (i := 3) sc__law_pick.nd rfl (Or.inl rfl) (pe_ix ix_list (pe_dget (hu_of hr) (pv 0) pe_str (fun _ _ => rfl)) (pe_dget (hu_of hr) (pv 0) pe_str (fun _ _ => rfl)) (fun _ _ => rfl)))
 (pss_cons (ps_dput (hu_of hr) (pv 0) pe_str (pe_op op_add (pe_dget (hu_of hr) (pv 0) pe_str (fun _ _ => rfl)) pe_int) rfl)
 (pss_one (ps_if (pt_cmpR op_ge (pv 3) (pe_op op_pow pe_int pe_int) (nomark _))
 (pss_cons (ps_dput (hu_of hr) (pv 0) pe_str (pe_op op_fdivW (pv 3) (pv 1)) rfl)
 (pss_one (ps_ret (pe_op op_mod (pe_callTy call_int1 (by rfl) T.n_int (by decide +kernel) (pa_cons (pv 3) pa_nil)) (pv 1)))))
 pss_nil))))
 pss_nil)
 (pss_cons (ps_set (i := 2) sc__law_pick.nd rfl (Or.inl rfl) (pe_op op_mod (pe_callTy call_int1 (by rfl) T.n_int (by decide +kernel) (pa_cons (pe_op op_add (pe_op op_add (pe_op op_mul (pv 3) pe_int) (pe_op op_mul (pe_dget (hu_of hr) (pv 0) pe_str (fun _ _ => rfl)) pe_int)) (pe_op op_mul (pe_dget (hu_of hr) (pv 0) pe_str (fun _ _ => rfl)) pe_int)) pa_nil)) pe_int))
 (pss_cons (ps_set (i := 2) sc__law_pick.nd rfl (Or.inl rfl) (pe_op op_mod (pe_callTy call_int1 (by rfl) T.n_int (by decide +kernel) (pa_cons (pe_op op_add (pe_op op_mul (pv 2) pe_int) pe_int) pa_nil)) pe_int))
 (pss_cons (ps_dput (hu_of hr) (pv 0) pe_str (pe_op op_mod (pe_callTy call_int1 (by rfl) T.n_int (by decide +kernel) (pa_cons (pv 2) pa_nil)) pe_int) rfl)
 (pss_one (ps_ret (pe_op op_mod (pe_callTy call_int1 (by rfl) T.n_int (by decide +kernel) (pa_cons (pe_op op_fdiv (pv 2) pe_int) pa_nil)) (pv 1)))))))))))), ?_⟩
    refine ⟨_, rfl, b, _, rfl, dg_n hb, _, _, rfl, rfl, _, rfl, b, _, rfl, dp_n hb, ?_⟩
    have s1 : Stm (fun x => x = b) F H F (upd H b (.dK (bk la at_ rest mixed (count + 1)))) := Stm.touch (Stm.refl hf) rfl fb
    generalize hH1 : upd H b (.dK (bk la at_ rest mixed (count + 1))) = H1 at s1
    have hb1 : H1 b = some (.dK (bk la at_ rest mixed (count + 1))) := by rw [← hH1]; exact upd_same
    refine ⟨_, rfl, b, _, rfl, dg_r hb1, _, _, rfl, rfl, _, rfl, ?_⟩
    refine ite2 (fun e => ?_) (fun e => ?_)
    · refine ⟨_, rfl, b, _, rfl, dg_r hb1, ?_⟩
      refine ⟨_, rfl, _, rfl, _, _, rfl, rfl, ⟨hm, hz⟩, _, rfl, b, _, rfl, dp_r hb1, ?_⟩
      refine ⟨_, rfl, .inl ⟨_, rfl, _, rfl, _, _, rfl, rfl, hm, ?_⟩⟩
      exact k _ _ (s1.touch rfl fb) ⟨fb, la, ns, at_, _, mixed, _, h0, hn, hl, upd_same⟩ (ok _).1 (ok _).2
    · refine seq_with (fun σ2 H2 => σ2 = L2.start N__law_pick [.ref b, .int many] ∧ H1 = H2) (fun u hu => hu _ _ ⟨rfl, rfl⟩) ?_
      rintro _ _ ⟨rfl, rfl⟩
      refine seq_with (fun σ2 H2 => σ2 = [some (.ref b), some (.int many), none, some (.int 0)] ∧ H1 = H2) (fun u hu => hu _ _ ⟨rfl, rfl⟩) ?_
      rintro _ _ ⟨rfl, rfl⟩
      refine seq_with (fun σ2 H2 => ∃ cell at2, σ2 = [some (.ref b), some (.int many), none, some (.int cell)] ∧ Stm (fun x => x = b) F H F H2 ∧ 0 ≤ at2 ∧ H2 b = some (.dK (bk la at2 rest mixed (count + 1)))) (fun u hu => ?_) ?_
      · refine ⟨_, rfl, b, _, rfl, dg_a hb1, _, rfl, b, _, rfl, dg_c hb1, la, _, rfl, .inl (upL s1.fh hl), _, _, rfl, rfl, _, rfl, ?_⟩
        refine ite2 (fun e2 => ?_) (fun e2 => ?_)
        · have lt : at_.toNat < ns.length := by
            have := of_decide_eq_true e2
            rw [List.length_map] at this
            omega
          refine ⟨_, rfl, b, _, rfl, dg_c hb1, _, rfl, b, _, rfl, dg_a hb1, la, _, _, .int ns[at_.toNat], rfl, rfl, upL s1.fh hl, ?_, ?_⟩
          · exact atI_int h0 (by rw [List.length_map]; omega) (by rw [List.getElem?_map, List.getElem?_eq_getElem lt]; rfl)
          refine ⟨_, rfl, b, _, rfl, dg_a hb1, _, _, rfl, rfl, _, rfl, b, _, rfl, dp_a hb1, ?_⟩
          have s2 := s1.touch (p := b) (o := .dK (bk la (at_ + 1) rest mixed (count + 1))) rfl fb
          generalize hH2 : upd _ b (.dK (bk la (at_ + 1) rest mixed (count + 1))) = H2 at s2
          have hb2 : H2 b = some (.dK (bk la (at_ + 1) rest mixed (count + 1))) := by rw [← hH2]; exact upd_same
          refine ⟨_, rfl, _, _, rfl, rfl, ⟨by decide, by decide, by decide⟩, _, _, rfl, rfl, _, rfl, ?_⟩
          refine ite2 (fun e => ?_) (fun e => ?_)
          · refine ⟨_, rfl, _, rfl, _, _, rfl, rfl, ⟨hm, hz⟩, _, rfl, b, _, rfl, dp_r hb2, ?_⟩
            refine ⟨_, rfl, .inl ⟨_, rfl, _, rfl, _, _, rfl, rfl, hm, ?_⟩⟩
            exact k _ _ (s2.touch rfl fb) ⟨fb, la, ns, _, _, mixed, _, by omega, hn, hl, upd_same⟩ (ok _).1 (ok _).2
          · exact hu _ _ ⟨_, _, rfl, s2, by omega, hb2⟩
        · exact hu _ _ ⟨_, _, rfl, s1, h0, hb1⟩
      · rintro _ H2 ⟨cell, at2, rfl, s2, h2, hb2⟩
        have cm : ∀ i j : Int, -(2 ^ 64) < j → j < 2 ^ 64 → CMul i j := fun i j h1 h2 => .inr ⟨h1, h2⟩
        refine ⟨_, rfl, _, _, rfl, rfl, cm _ _ (by decide) (by decide), _, rfl, b, _, rfl, dg_m hb2, _, _, rfl, rfl, cm _ _ (by decide) (by decide), _, _, rfl, rfl, _, rfl, b, _, rfl, dg_n hb2, _, _, rfl, rfl, cm _ _ (by decide) (by decide), _, _, rfl, rfl, .inl ⟨_, rfl, _, _, rfl, rfl, (by decide : (0 : Int) < 2147483647), ?_⟩⟩
        refine ⟨_, rfl, _, _, rfl, rfl, cm _ _ (by decide) (by decide), _, _, rfl, rfl, .inl ⟨_, rfl, _, _, rfl, rfl, (by decide : (0 : Int) < 2147483647), ?_⟩⟩
        refine ⟨_, rfl, .inl ⟨_, rfl, _, _, rfl, rfl, (by decide : (0 : Int) < 1000003), _, rfl, b, _, rfl, dp_m hb2, ?_⟩⟩
        refine ⟨_, rfl, _, _, rfl, rfl, ⟨by decide, by decide⟩, .inl ⟨_, rfl, _, rfl, _, _, rfl, rfl, hm, ?_⟩⟩
        exact k _ _ (s2.touch rfl fb) ⟨fb, la, ns, _, _, _, _, h2, hn, hl, upd_same⟩ (ok _).1 (ok _).2
end
end K26

set_option Elab.async false
set_option linter.all false
set_option maxRecDepth 100000
set_option maxHeartbeats 4000000
namespace K26
open PySem PySem.Spec PyProof.Rows L2 Ew
abbrev Sb (b : Addr) := Stm (fun x => x = b)
section
variable {P : Program} {w : World} {K : PySem.W.Frag} {mg : Str → Option Value} {base : Heap} {a : Ad}
/-- what a choice is made of -/
def Things (K : PySem.W.Frag) (F H : Hp) (b : Addr) (u : V) (xs : List V) : Prop := (∃ p, u = .ref p ∧ SqL K F p xs) ∨ (∃ p, u = .ref p ∧ p ≠ b ∧ H p = some (.lst xs)) ∨ ∃ z : Str, u = .str z ∧ z.length ≤ sizeLine ∧ xs = z.cps.toList.map fun c => V.str ⟨#[c]⟩
theorem sz_len {n : Nat} (h : n ≤ 1000) : Sz 8000 (n : Int) := by
  unfold Sz
  have : (2 : Nat) ^ 10 ≤ 2 ^ 8000 := Nat.pow_le_pow_right (by decide) (by decide)
  have e : (2 : Nat) ^ 10 = 1024 := by decide
  omega
def sp__law_choice (K : PySem.W.Frag) : Sp := fun vs H Q _ => ∃ (F : Hp) (b : Addr) (u : V) (xs : List V), vs = [.ref b, u] ∧ Things K F H b u xs ∧ xs ≠ [] ∧ xs.length ≤ 1000 ∧ Bag K b F H ∧ Same F H ∧
  ∀ H' x (i : Nat), Sb b F H F H' → Bag K b F H' → xs[i]? = some x → Q x H'
theorem c__law_choice (T : Txt K mg a) : Cl P w K mg base 2 "_law_choice" P__law_choice (sp__law_choice K) [] :=
  T.d__law_choice.cl sc__law_choice (fun vs H Q E h => by obtain ⟨F, b, u, xs, rfl, _⟩ := h; rfl) fun f cdv A outer s H vs Q E hr h => by
    obtain ⟨F, b, u, xs, rfl, ht, h0, hl, hB, hf, k⟩ := h
    refine ⟨_, ((pss_one (ps_ret (pe_ix ix_seq (pv 1) (pe_f (c__law_pick T) (takes_of rfl rfl rfl rfl) hr (by decide) rfl (pa_cons (pv 0) (pa_cons (pe_callB (call_len_seq.or call_len_str) (by rfl) T.n_len (by decide +kernel) (pa_cons (pv 1) pa_nil)) pa_nil))) (fun _ _ => rfl))))), ?_⟩
    have l0 : 0 < xs.length := List.length_pos_iff.mpr h0
    have get : ∀ (i : Int) (h1 : 0 ≤ i) (h2 : i < (xs.length : Int)), atI xs i = some (xs[i.toNat]'((Int.toNat_lt h1).mpr h2)) := fun i h1 h2 => atI_int h1 h2 (List.getElem?_eq_getElem _)
    have fin : ∀ H' (i : Int) (h1 : 0 ≤ i) (h2 : i < (xs.length : Int)), Sb b F H F H' → Bag K b F H' → Q (xs[i.toNat]'((Int.toNat_lt h1).mpr h2)) H' := fun H' i h1 h2 s1 B1 => k H' _ i.toNat s1 B1 (List.getElem?_eq_getElem _)
    rcases ht with ⟨p, rfl, hp⟩ | ⟨p, rfl, nb, hp⟩ | ⟨z, rfl, hz, rfl⟩
    · refine ⟨_, rfl, _, rfl, _, rfl, .inl ⟨p, xs, rfl, .inl (upL hf hp), F, b, _, rfl, hB, hf, by omega, sz_len hl, fun H' i s1 B1 h1 h2 => ?_⟩⟩
      exact .inl ⟨p, xs, i, _, rfl, rfl, upL s1.fh hp, get i h1 h2, fin H' i h1 h2 s1 B1⟩
    · refine ⟨_, rfl, _, rfl, _, rfl, .inl ⟨p, xs, rfl, .inl (SqL.of hp), F, b, _, rfl, hB, hf, by omega, sz_len hl, fun H' i s1 B1 h1 h2 => ?_⟩⟩
      exact .inl ⟨p, xs, i, _, rfl, rfl, SqL.of (s1.hh p _ nb hp), get i h1 h2, fin H' i h1 h2 s1 B1⟩
    · have zl : z.length = z.cps.size := rfl
      have xl : (z.cps.toList.map fun c => V.str ⟨#[c]⟩).length = z.cps.size := by rw [List.length_map, Array.length_toList]
      rw [xl] at l0 hl
      refine ⟨_, rfl, _, rfl, _, rfl, .inr ⟨z, rfl, hz, F, b, _, rfl, hB, hf, by rw [zl]; omega, sz_len (by rw [zl]; exact hl), fun H' i s1 B1 h1 h2 => ?_⟩⟩
      rw [zl] at h2
      have lt : i.toNat < z.cps.toList.length := by rw [Array.length_toList]; omega
      refine .inr (.inr ⟨z, i, z.cps.toList[i.toNat]'lt, rfl, rfl, hz, atI_int h1 (by rw [Array.length_toList]; exact h2) (List.getElem?_eq_getElem _), ?_⟩)
      have := fin H' i h1 (by rw [xl]; exact h2) s1 B1
      rw [List.getElem_map] at this
      exact this
theorem c__law_integer (T : Txt K mg a) : Cl P w K mg base 1 "_law_integer" P__law_integer (sp_is_integer K) [] :=
  T.d__law_integer.cl sc__law_integer (fun vs H Q E h => by obtain ⟨i, rfl, _⟩ := h; rfl) fun f cdv A outer s H vs Q E hr h => by
    obtain ⟨v, rfl, h⟩ := h
    refine ⟨_, ((pss_one (ps_ret (pe_and (pe_callB call_isi (by rfl) T.n_isinstance (by decide +kernel) (pa_cons (pv 0) (pa_cons (pe_bltn (v := .ty "int") (by rfl) T.n_int (by decide +kernel) rfl) pa_nil))) (pe_one (pe_not (pe_callB call_isi (by rfl) T.n_isinstance (by decide +kernel) (pa_cons (pv 0) (pa_cons (pe_bltn (v := .ty "bool") (by rfl) T.n_bool (by decide +kernel) rfl) pa_nil))))))))), ?_⟩
    rcases h with ⟨i, rfl, k⟩ | ⟨⟨b, rfl⟩ | ⟨t, ht, hk⟩, k⟩
    · refine ⟨_, rfl, _, _, _, _, true, rfl, .ty _, .base (.int _), kit_ty (by decide +kernel), true, rfl, iteT ?_⟩
      exact ⟨_, rfl, _, _, _, _, false, rfl, .ty _, .base (.int _), kit_ty (by decide +kernel), false, rfl, k⟩
    · refine ⟨_, rfl, _, _, _, _, true, rfl, .ty _, .base (.bl _), kit_ty (by decide +kernel), true, rfl, iteT ?_⟩
      exact ⟨_, rfl, _, _, _, _, true, rfl, .ty _, .base (.bl _), kit_ty (by decide +kernel), true, rfl, k⟩
    · exact ⟨_, rfl, _, _, _, _, false, rfl, .ty _, ht, hk, false, rfl, iteF k⟩
def mu3 (σ : L2.St) : Nat := match σ[3]? with | some (some (V.int y)) => y.toNat | _ => 0
def sp__law_gcd : Sp := fun vs H Q _ => ∃ n d : Int, vs = [.int n, .int d] ∧ Q (.int (Nat.gcd n.natAbs d.natAbs : Nat)) H
theorem c__law_gcd (T : Txt K mg a) : Cl P w K mg base 1 "_law_gcd" P__law_gcd sp__law_gcd [] :=
  T.d__law_gcd.cl sc__law_gcd (fun vs H Q E h => by obtain ⟨n, d, rfl, _⟩ := h; rfl) fun f cdv A outer s H vs Q E hr h => by
    obtain ⟨n, d, rfl, k⟩ := h
    refine ⟨_, ((pss_cons (ps_set (i := 2) sc__law_gcd.nd rfl (Or.inl rfl) (pe_callB call_abs (by rfl) T.n_abs (by decide +kernel) (pa_cons (pv 0) pa_nil)))
 (pss_cons (ps_set (i := 3) sc__law_gcd.nd rfl (Or.inl rfl) (pe_callB call_abs (by rfl) T.n_abs (by decide +kernel) (pa_cons (pv 1) pa_nil)))
 (pss_cons (ps_while (passes_of rfl) (pt_cmpR op_gt (pv 3) pe_int (nomark _))
 (pss_cons (ps_set (i := 4) sc__law_gcd.nd rfl (Or.inl rfl) (pe_op op_mod (pe_callTy call_int1 (by rfl) T.n_int (by decide +kernel) (pa_cons (pv 2) pa_nil)) (pv 3)))
 (pss_cons (ps_set (i := 2) sc__law_gcd.nd rfl (Or.inl rfl) (pv 3))
 (pss_one (ps_set (i := 3) sc__law_gcd.nd rfl (Or.inl rfl) (pv 4))))))
 (pss_one (ps_ret (pv 2))))))), ?_⟩
    have ab : ∀ i : Int, (if i < 0 then -i else i) = (i.natAbs : Int) := fun i => by split <;> omega
    refine ⟨_, rfl, _, rfl, ?_⟩
    rw [ab]
    refine ⟨_, rfl, _, rfl, ?_⟩
    rw [ab]
    refine while_by (fun σ' H' => H' = H ∧ ∃ (x y : Nat) (r : Option V), σ' = [some (.int n), some (.int d), some (.int x), some (.int y), r] ∧ Nat.gcd x y = Nat.gcd n.natAbs d.natAbs)
      (fun σ' _ => mu3 σ') ⟨rfl, _, _, none, rfl, rfl⟩ ?_ ?_
    · rintro _ _ ⟨rfl, x, y, r, rfl, hg⟩
      refine ⟨_, rfl, _, _, rfl, rfl, _, rfl, ?_⟩
      refine ite2 (fun e => ?_) (fun e => ?_)
      · have hy : 0 < y := by have := of_decide_eq_true e; omega
        refine ⟨_, rfl, .inl ⟨_, rfl, _, rfl, _, _, rfl, rfl, (by omega : (0 : Int) < y), ?_⟩⟩
        refine ⟨_, rfl, ?_⟩
        refine ⟨_, rfl, ⟨rfl, y, x % y, some (.int ((x % y : Nat) : Int)), by rw [Int.natCast_emod]; rfl, ?_⟩, ?_⟩
        · rw [← hg, Nat.gcd_comm y, Nat.gcd_comm x y]
          exact (Nat.gcd_rec y x).symm
        · show ((x : Int) % (y : Int)).toNat < ((y : Int)).toNat
          have := Nat.mod_lt x hy
          rw [← Int.natCast_emod]
          omega
      · have hy : y = 0 := by
          rcases Nat.eq_zero_or_pos y with h | h
          · exact h
          · exact absurd (decide_eq_true (by omega)) e
        subst hy
        rw [Nat.gcd_zero_right] at hg
        exact ⟨_, rfl, by rw [hg]; exact k⟩
    · rintro σ' H' Q1 Q2 q h
      obtain ⟨v, e1, i, j, e2, e3, c, e4, q'⟩ := h
      exact ⟨v, e1, i, j, e2, e3, c, e4, q _ _ q'⟩
def sp_rat (K : PySem.W.Frag) : Sp := sp_ratio K
theorem com_pos {n d : Int} (h : 0 < d) : com n d = ((Nat.gcd n.natAbs d.natAbs : Nat) : Int) := by unfold com; rw [if_neg (by omega)]
theorem com_neg {n d : Int} (h0 : d ≠ 0) (h : ¬ 0 < d) : com n d = 0 - ((Nat.gcd n.natAbs d.natAbs : Nat) : Int) := by unfold com; rw [if_pos (by omega)]; omega
theorem c__law_ratio (T : Txt K mg a) : Cl P w K mg base 2 "_law_ratio" P__law_ratio (sp_ratio K) [] :=
  T.d__law_ratio.cl sc__law_ratio (fun vs H Q E h => by obtain ⟨F, n, d, rfl, _⟩ := h; rfl) fun f cdv A outer s H vs Q E hr h => by
    obtain ⟨F, n, d, rfl, h0, hz, hf, k⟩ := h
    refine ⟨_, ((pss_cons (ps_set (i := 2) sc__law_ratio.nd rfl (Or.inl rfl) (pe_ifExp (pt_cmpR op_gt (pv 1) pe_int (nomark _)) (pe_f (c__law_gcd T) (takes_of rfl rfl rfl rfl) hr (by decide) rfl (pa_cons (pv 0) (pa_cons (pv 1) pa_nil))) (pe_op op_sub pe_int (pe_f (c__law_gcd T) (takes_of rfl rfl rfl rfl) hr (by decide) rfl (pa_cons (pv 0) (pa_cons (pv 1) pa_nil))))))
 (pss_one (ps_ret (pe_tup (pa_cons (pe_op op_fdivX (pv 0) (pv 2)) (pa_cons (pe_op op_fdivX (pv 1) (pv 2)) pa_nil))))))), ?_⟩
    have cd : ∀ i : Int, CDivX i (com n d) := fun i => ⟨com_ne h0, (com_sz h0 hz).log (by decide) (by decide)⟩
    have fin : ∀ c : Int, c = com n d → (tRet (tTup (tCons (tOp (rI CDivX fun i j => .int (i.fdiv j)) (tVar 0) (tVar 2)) (tCons (tOp (rI CDivX fun i j => .int (i.fdiv j)) (tVar 1) (tVar 2)) tNil)))) { nx := fun _ H' => Q .non H', rt := Q } [some (.int n), some (.int d), some (.int c)] H := by
      rintro c rfl
      refine ⟨_, rfl, _, rfl, _, _, rfl, rfl, cd _, _, rfl, _, rfl, _, _, rfl, rfl, cd _, by show 2 ≤ sizeLine; decide, fun p hp => ?_⟩
      exact k _ _ _ (stp_new hf hp) ⟨p, rfl, sq_new⟩
    refine ⟨_, rfl, _, _, rfl, rfl, _, rfl, ?_⟩
    refine ite2 (fun e => ?_) (fun e => ?_)
    · exact ⟨_, rfl, _, rfl, _, _, rfl, fin _ (com_pos (of_decide_eq_true e)).symm⟩
    · exact ⟨_, rfl, _, rfl, _, _, rfl, _, _, rfl, rfl, fin _ (com_neg h0 fun z => e (decide_eq_true z)).symm⟩
theorem c__law_plus (T : Txt K mg a) : Cl P w K mg base 3 "_law_plus" P__law_plus (sp_two K rPlus) [] :=
  T.d__law_plus.cl sc__law_plus (fun vs H Q E h => by obtain ⟨F, u, v, r, q, rfl, _⟩ := h; rfl) fun f cdv A outer s H vs Q E hr h => by
    obtain ⟨F, u, v, r, q, rfl, ⟨p1, rfl, h1⟩, ⟨p2, rfl, h2⟩, z1, z2, z3, z4, n1, n2, hf, k⟩ := h
    refine ⟨_, ((pss_one (ps_ret (pe_f (c__law_ratio T) (takes_of rfl rfl rfl rfl) hr (by decide) rfl (pa_cons (pe_op op_add (pe_op op_mulW (pe_ix ix_tup (pv 0) pe_int (fun _ _ => rfl)) (pe_ix ix_tup (pv 1) pe_int (fun _ _ => rfl))) (pe_op op_mulW (pe_ix ix_tup (pv 1) pe_int (fun _ _ => rfl)) (pe_ix ix_tup (pv 0) pe_int (fun _ _ => rfl)))) (pa_cons (pe_op op_mulW (pe_ix ix_tup (pv 0) pe_int (fun _ _ => rfl)) (pe_ix ix_tup (pv 1) pe_int (fun _ _ => rfl))) pa_nil)))))), ?_⟩
    refine ⟨_, rfl, p1, _, _, _, rfl, rfl, upT hf h1, at0, _, rfl, p2, _, _, _, rfl, rfl, upT hf h2, at1, _, _, rfl, rfl, mulw z1 z4, ?_⟩
    refine ⟨_, rfl, p2, _, _, _, rfl, rfl, upT hf h2, at0, _, rfl, p1, _, _, _, rfl, rfl, upT hf h1, at1, _, _, rfl, rfl, mulw z3 z2, _, _, rfl, rfl, ?_⟩
    refine ⟨_, rfl, p1, _, _, _, rfl, rfl, upT hf h1, at1, _, rfl, p2, _, _, _, rfl, rfl, upT hf h2, at1, _, _, rfl, rfl, mulw z2 z4, ?_⟩
    exact ⟨F, _, _, rfl, Int.mul_ne_zero n1 n2, (z2.mul z4).mono (by decide), hf, k⟩
theorem c__law_minus (T : Txt K mg a) : Cl P w K mg base 3 "_law_minus" P__law_minus (sp_two K rMinus) [] :=
  T.d__law_minus.cl sc__law_minus (fun vs H Q E h => by obtain ⟨F, u, v, r, q, rfl, _⟩ := h; rfl) fun f cdv A outer s H vs Q E hr h => by
    obtain ⟨F, u, v, r, q, rfl, ⟨p1, rfl, h1⟩, ⟨p2, rfl, h2⟩, z1, z2, z3, z4, n1, n2, hf, k⟩ := h
    refine ⟨_, ((pss_one (ps_ret (pe_f (c__law_ratio T) (takes_of rfl rfl rfl rfl) hr (by decide) rfl (pa_cons (pe_op op_sub (pe_op op_mulW (pe_ix ix_tup (pv 0) pe_int (fun _ _ => rfl)) (pe_ix ix_tup (pv 1) pe_int (fun _ _ => rfl))) (pe_op op_mulW (pe_ix ix_tup (pv 1) pe_int (fun _ _ => rfl)) (pe_ix ix_tup (pv 0) pe_int (fun _ _ => rfl)))) (pa_cons (pe_op op_mulW (pe_ix ix_tup (pv 0) pe_int (fun _ _ => rfl)) (pe_ix ix_tup (pv 1) pe_int (fun _ _ => rfl))) pa_nil)))))), ?_⟩
    refine ⟨_, rfl, p1, _, _, _, rfl, rfl, upT hf h1, at0, _, rfl, p2, _, _, _, rfl, rfl, upT hf h2, at1, _, _, rfl, rfl, mulw z1 z4, ?_⟩
    refine ⟨_, rfl, p2, _, _, _, rfl, rfl, upT hf h2, at0, _, rfl, p1, _, _, _, rfl, rfl, upT hf h1, at1, _, _, rfl, rfl, mulw z3 z2, _, _, rfl, rfl, ?_⟩
    refine ⟨_, rfl, p1, _, _, _, rfl, rfl, upT hf h1, at1, _, rfl, p2, _, _, _, rfl, rfl, upT hf h2, at1, _, _, rfl, rfl, mulw z2 z4, ?_⟩
    exact ⟨F, _, _, rfl, Int.mul_ne_zero n1 n2, (z2.mul z4).mono (by decide), hf, k⟩
def sp__law_less (K : PySem.W.Frag) : Sp := fun vs H Q _ => ∃ (u v : V) (r q : Int × Int), vs = [u, v] ∧ Rt K H u r ∧ Rt K H v q ∧ Sz 2000 r.1 ∧ Sz 2000 r.2 ∧ Sz 2000 q.1 ∧ Sz 2000 q.2 ∧ Q (.bl (decide (r.1 * q.2 < q.1 * r.2))) H
theorem c__law_less (T : Txt K mg a) : Cl P w K mg base 1 "_law_less" P__law_less (sp__law_less K) [] :=
  T.d__law_less.cl sc__law_less (fun vs H Q E h => by obtain ⟨u, v, r, q, rfl, _⟩ := h; rfl) fun f cdv A outer s H vs Q E hr h => by
    obtain ⟨u, v, r, q, rfl, ⟨p1, rfl, h1⟩, ⟨p2, rfl, h2⟩, z1, z2, z3, z4, k⟩ := h
    refine ⟨_, ((pss_one (ps_ret (pe_cmpR op_lt (pe_op op_mulW (pe_ix ix_tup (pv 0) pe_int (fun _ _ => rfl)) (pe_ix ix_tup (pv 1) pe_int (fun _ _ => rfl))) (pe_op op_mulW (pe_ix ix_tup (pv 1) pe_int (fun _ _ => rfl)) (pe_ix ix_tup (pv 0) pe_int (fun _ _ => rfl))) (nomark _))))), ?_⟩
    refine ⟨_, rfl, p1, _, _, _, rfl, rfl, h1, at0, _, rfl, p2, _, _, _, rfl, rfl, h2, at1, _, _, rfl, rfl, mulw z1 z4, ?_⟩
    exact ⟨_, rfl, p2, _, _, _, rfl, rfl, h2, at0, _, rfl, p1, _, _, _, rfl, rfl, h1, at1, _, _, rfl, rfl, mulw z3 z2, _, _, rfl, rfl, k⟩
/-- a ratio in lowest terms -/
def Low (r : Int × Int) : Prop := 1 ≤ r.2 ∧ Nat.gcd r.1.natAbs r.2.natAbs = 1
theorem low_rat {n d : Int} (h : d ≠ 0) : Low (rat n d) := ⟨rat_pos h, rat_cop h⟩
def sp__law_is_ratio (K : PySem.W.Frag) : Sp := fun vs H Q _ => ∃ (u : V) (r : Int × Int), vs = [u] ∧ Rt K H u r ∧ Low r ∧ Q (.bl true) H
theorem c__law_is_ratio (T : Txt K mg a) : Cl P w K mg base 2 "_law_is_ratio" P__law_is_ratio (sp__law_is_ratio K) [] :=
  T.d__law_is_ratio.cl sc__law_is_ratio (fun vs H Q E h => by obtain ⟨u, r, rfl, _⟩ := h; rfl) fun f cdv A outer s H vs Q E hr h => by
    obtain ⟨u, r, rfl, ⟨p, rfl, hp⟩, ⟨l1, l2⟩, k⟩ := h
    refine ⟨_, ((pss_cons (ps_if (PW.pt (pw_or (pt_not (pt_val (pe_callB call_isi (by rfl) T.n_isinstance (by decide +kernel) (pa_cons (pv 0) (pa_cons (pe_bltn (v := .ty "tuple") (by rfl) T.n_tuple (by decide +kernel) rfl) pa_nil))))) (pw_or1 (pt_cmpR op_ne (pe_callB call_len_seq (by rfl) T.n_len (by decide +kernel) (pa_cons (pv 0) pa_nil)) pe_int (nomark _)))))
 (pss_one (ps_ret pe_bl))
 pss_nil)
 (pss_one (ps_ret (pe_and (pe_f (c__law_integer T) (takes_of rfl rfl rfl rfl) hr (by decide) rfl (pa_cons (pe_ix ix_tup (pv 0) pe_int (fun _ _ => rfl)) pa_nil)) (pe_and (pe_f (c__law_integer T) (takes_of rfl rfl rfl rfl) hr (by decide) rfl (pa_cons (pe_ix ix_tup (pv 0) pe_int (fun _ _ => rfl)) pa_nil)) (pe_and (pe_cmpR op_ge (pe_ix ix_tup (pv 0) pe_int (fun _ _ => rfl)) pe_int (nomark _)) (pe_one (pe_cmpR op_eq (pe_f (c__law_gcd T) (takes_of rfl rfl rfl rfl) hr (by decide) rfl (pa_cons (pe_ix ix_tup (pv 0) pe_int (fun _ _ => rfl)) (pa_cons (pe_ix ix_tup (pv 0) pe_int (fun _ _ => rfl)) pa_nil))) pe_int (nomark _)))))))))), ?_⟩
    refine ⟨_, rfl, _, _, _, _, true, rfl, .ty _, ty_sqT hp, kit_ty (by decide +kernel), true, rfl, iteF ⟨_, rfl, p, _, rfl, .inr hp, rfl, _, rfl, iteF ?_⟩⟩
    refine ⟨_, rfl, p, _, _, _, rfl, rfl, hp, at0, _, rfl, .inl ⟨_, rfl, true, rfl, iteT ?_⟩⟩
    refine ⟨_, rfl, p, _, _, _, rfl, rfl, hp, at1, _, rfl, .inl ⟨_, rfl, true, rfl, iteT ?_⟩⟩
    refine ⟨_, rfl, p, _, _, _, rfl, rfl, hp, at1, _, _, rfl, rfl, _, rfl, iteY (decide_eq_true (by omega)) ?_⟩
    refine ⟨_, rfl, p, _, _, _, rfl, rfl, hp, at0, _, rfl, p, _, _, _, rfl, rfl, hp, at1, _, _, rfl, rfl, ?_⟩
    rw [l2]
    exact k
end
section
variable {K : PySem.W.Frag} {b p : Addr} {F H F' H' F2 H2 : Hp} {o : HO}
theorem newB (s : Sb b F H F' H') (B : Bag K b F' H') (hp : H' p = none) : Sb b F H (upd F' p o) (upd H' p o) ∧ Bag K b (upd F' p o) (upd H' p o) := by
  have nb : ¬ p = b := fun z => (memB K b).there B z hp
  have h0 : H p = none := s.fresh (fun x z => (memB K b).there B z) hp
  refine ⟨s.new hp h0, (memB K b).grow ((memB K b).put B nb) (same_new (s.fh.free hp)) fun x z => ?_⟩
  rw [upd_ne (fun q => nb (by rw [← q]; exact z))]
  exact (memB K b).off B z
theorem seqB (s : Sb b F H F' H') (B : Bag K b F' H') (s2 : Sb b F' H' F2 H2) : Sb b F H F2 H2 := s.then (memB K b) B s2
theorem pureB (s : Sb b F H F' H') (B : Bag K b F' H') (s2 : Stp F' H' F2 H2) : Sb b F H F2 H2 ∧ Bag K b F2 H2 := by
  refine ⟨seqB s B s2.any, ?_⟩
  obtain ⟨h, la, ns, at_, rest, mixed, count, h1, h2, h3, h4⟩ := B
  exact ⟨s2.nw b h (by rw [h4]; exact fun q => nomatch q), la, ns, at_, rest, mixed, count, h1, h2, upL s2.ff h3, s2.same b _ h4⟩
end
theorem sz_of {b : Nat} {n : Int} (k : Nat) (h : n.natAbs < 2 ^ k) (hk : k ≤ b) : Sz b n := Nat.lt_of_lt_of_le h (Nat.pow_le_pow_right (by decide) hk)
end K26

set_option Elab.async false
set_option linter.all false
set_option maxRecDepth 100000
set_option maxHeartbeats 4000000
namespace K26
open PySem PySem.Spec PyProof.Rows L2 Ew
/-! ### spots -/
abbrev Spot := Str × Int × Int
def spV (p : Spot) : List V := [.str p.1, .int p.2.1, .int p.2.2]
def spK (p : Spot) : List Key := [.inr p.1, .inl p.2.1, .inl p.2.2]
theorem spKV (p : Spot) : (spK p).map kV = spV p := rfl
theorem spK_inj {p q : Spot} (h : spK p = spK q) : p = q := by
  obtain ⟨a, b, c⟩ := p
  obtain ⟨a', b', c'⟩ := q
  simp only [spK, List.cons.injEq, Sum.inr.injEq, Sum.inl.injEq, and_true] at h
  obtain ⟨h1, h2, h3⟩ := h
  subst h1 h2 h3
  rfl
/-- a spot stands at v, a tuple of the def's or the law's own -/
def Spt (F : Hp) (v : V) (p : Spot) : Prop := ∃ q, v = .ref q ∧ F q = some (.tup (spV p))
theorem Spt.up {F F' : Hp} {v : V} {p : Spot} (h : Spt F v p) (e : Same F F') : Spt F' v p := by obtain ⟨q, h1, h2⟩ := h; exact ⟨q, h1, e q _ h2⟩
def spD (p : Spot) : PyData := .tuple [.str p.1, .int p.2.1, .int p.2.2]
theorem dp_sp {K : PySem.W.Frag} {H : Hp} {q : Addr} {p : Spot} (h : SqT K H q (spV p)) : Dp K H (.ref q) (spD p) := .tup h (.cons (.str _) (.cons (.int _) (.cons (.int _) .nil)))
theorem Spt.dp {K : PySem.W.Frag} {F : Hp} {v : V} {p : Spot} (h : Spt F v p) : Dp K F v (spD p) := by obtain ⟨q, rfl, h2⟩ := h; exact dp_sp (SqT.of h2)
theorem eqv_sp (p q : Spot) : PyData.eqv (spD p) (spD q) = decide (p = q) := by
  obtain ⟨a, b, c⟩ := p
  obtain ⟨a', b', c'⟩ := q
  simp only [spD, PyData.eqv, PyData.eqvAll]
  by_cases h1 : a = a' <;> by_cases h2 : b = b' <;> by_cases h3 : c = c' <;> simp [h1, h2, h3]
theorem fl_sp {p : Spot} (h : PyData.strOk p.1 = true) : Fl 1 (spD p) := Fl.tup (.cons (.str h) (.cons .int (.cons .int .nil)))
/-- what kind a thing is of, as far as it is looked at -/
inductive Kd (K : PySem.W.Frag) (F : Hp) : V → String → Prop
  | non : Kd K F .non "NoneType"
  | bl (b : Bool) : Kd K F (.bl b) "bool"
  | int (i : Int) : Kd K F (.int i) "int"
  | str (z : Str) : Kd K F (.str z) "str"
  | lst {p : Addr} {xs : List V} (h : SqL K F p xs) : Kd K F (.ref p) "list"
  | tup {p : Addr} {xs : List V} (h : SqT K F p xs) : Kd K F (.ref p) "tuple"
section
variable {K : PySem.W.Frag} {F F' : Hp} {v : V} {T : String}
theorem Kd.up (h : Kd K F v T) (e : Same F F') : Kd K F' v T := by
  cases h with
  | non => exact .non
  | bl b => exact .bl b
  | int i => exact .int i
  | str z => exact .str z
  | lst h => exact .lst (upL e h)
  | tup h => exact .tup (upT e h)
theorem Kd.ty (h : Kd K F v T) : TyX K F v (.type T) := by
  cases h with
  | non => exact .base .non
  | bl b => exact .base (.bl b)
  | int i => exact .base (.int i)
  | str z => exact .base (.str z)
  | lst h => exact ty_sqL h
  | tup h => exact ty_sqT h
theorem Kd.kit {U : String} (h : Kd K F v T) (hU : U = "str" ∨ U = "tuple") (n : T ≠ U) : PySem.W.kitOne K (.type T) (.type U) = some false := by
  rcases hU with rfl | rfl <;> cases h <;> first
    | exact absurd rfl n
    | exact kit_ty (by decide +kernel)
theorem Kd.noI (h : Kd K F v T) (n : T ≠ "int") : NoI K F v := by
  cases h with
  | bl b => exact .inl ⟨b, rfl⟩
  | int i => exact absurd rfl n
  | non => exact .inr ⟨_, .base .non, kit_ty (by decide +kernel)⟩
  | str z => exact .inr ⟨_, .base (.str z), kit_ty (by decide +kernel)⟩
  | lst h => exact .inr ⟨_, ty_sqL h, kit_ty (by decide +kernel)⟩
  | tup h => exact .inr ⟨_, ty_sqT h, kit_ty (by decide +kernel)⟩
end
/-- a thing that is no spot -/
inductive NotSp (K : PySem.W.Frag) (H : Hp) : V → Prop
  | nt {v : V} {T : String} (k : Kd K H v T) (n : T ≠ "tuple") : NotSp K H v
  | len {p : Addr} {xs : List V} (h : SqT K H p xs) (l : xs.length ≠ 3) : NotSp K H (.ref p)
  | name {p : Addr} {x y z : V} {T : String} (h : SqT K H p [x, y, z]) (k : Kd K H x T) (n : T ≠ "str") : NotSp K H (.ref p)
  | st {p : Addr} {n : Str} {y z : V} {T : String} (h : SqT K H p [.str n, y, z]) (k : Kd K H y T) (n : T ≠ "int") : NotSp K H (.ref p)
  | day {p : Addr} {n : Str} {s : Int} {z : V} {T : String} (h : SqT K H p [.str n, .int s, z]) (k : Kd K H z T) (n : T ≠ "int") : NotSp K H (.ref p)
theorem NotSp.up {K : PySem.W.Frag} {F F' : Hp} {v : V} (h : NotSp K F v) (e : Same F F') : NotSp K F' v := by
  cases h with
  | nt k n => exact .nt (k.up e) n
  | len h l => exact .len (upT e h) l
  | name h k n => exact .name (upT e h) (k.up e) n
  | st h k n => exact .st (upT e h) (k.up e) n
  | day h k n => exact .day (upT e h) (k.up e) n
section
variable {P : Program} {w : World} {K : PySem.W.Frag} {mg : Str → Option Value} {base : Heap} {a : Ad}
def sp_is_spot (K : PySem.W.Frag) : Sp := fun vs H Q _ => ∃ v, vs = [v] ∧ ((∃ q p, v = .ref q ∧ SqT K H q (spV p) ∧ Q (.bl true) H) ∨ (NotSp K H v ∧ Q (.bl false) H))
theorem c_is_spot (T : Txt K mg a) : Cl P w K mg base 2 "is_spot" P_is_spot (sp_is_spot K) [] :=
  T.d_is_spot.cl sc_is_spot (fun vs H Q E h => by obtain ⟨v, rfl, _⟩ := h; rfl) fun f cdv A outer s H vs Q E hr h => by
    obtain ⟨v, rfl, h⟩ := h
    refine ⟨_, ((pss_cons (ps_if (pt_not (pt_val (pe_f (c_is_tuple_of T) (takes_of rfl rfl rfl rfl) hr (by decide) rfl (pa_cons (pv 0) (pa_cons pe_int pa_nil)))))
 (pss_one (ps_ret pe_bl))
 pss_nil)
 (pss_cons (ps_asg (pv 0) (pg_tup rfl (pgs_cons (pg_name (i := 1) sc_is_spot.nd rfl (Or.inl rfl)) (pgs_cons (pg_name (i := 2) sc_is_spot.nd rfl (Or.inl rfl)) (pgs_cons (pg_name (i := 3) sc_is_spot.nd rfl (Or.inl rfl)) pgs_nil)))))
 (pss_one (ps_ret (pe_and (pe_callB call_isi (by rfl) T.n_isinstance (by decide +kernel) (pa_cons (pv 1) (pa_cons (pe_bltn (v := .ty "str") (by rfl) T.n_str (by decide +kernel) rfl) pa_nil))) (pe_and (pe_f (c_is_integer T) (takes_of rfl rfl rfl rfl) hr (by decide) rfl (pa_cons (pv 2) pa_nil)) (pe_one (pe_f (c_is_integer T) (takes_of rfl rfl rfl rfl) hr (by decide) rfl (pa_cons (pv 3) pa_nil)))))))))), ?_⟩
    rcases h with ⟨q, p, rfl, hp, k⟩ | ⟨n, k⟩
    · refine ⟨_, rfl, _, _, rfl, .inl ⟨q, _, rfl, hp, true, rfl, iteF ?_⟩⟩
      refine ⟨_, rfl, q, _, rfl, hp, rfl, _, _, rfl, _, _, rfl, _, _, rfl, rfl, ?_⟩
      refine ⟨_, rfl, _, _, _, _, true, rfl, .ty _, .base (.str _), kit_ty (by decide +kernel), true, rfl, iteT ?_⟩
      exact ⟨_, rfl, _, rfl, .inl ⟨_, rfl, _, rfl, iteT ⟨_, rfl, _, rfl, .inl ⟨_, rfl, k⟩⟩⟩⟩
    cases n with
    | nt kd n => exact ⟨_, rfl, _, _, rfl, .inr ⟨_, kd.ty, kd.kit (.inr rfl) n, _, rfl, iteT k⟩⟩
    | @len p xs hp l =>
      refine ⟨_, rfl, _, _, rfl, .inl ⟨p, xs, rfl, hp, _, rfl, ?_⟩⟩
      rw [decide_eq_false (fun z => l (by have := V.int.inj z; omega))]
      exact iteT k
    | @name p x y z T hp kd n =>
      refine ⟨_, rfl, _, _, rfl, .inl ⟨p, _, rfl, hp, true, rfl, iteF ?_⟩⟩
      refine ⟨_, rfl, p, _, rfl, hp, rfl, _, _, rfl, _, _, rfl, _, _, rfl, rfl, ?_⟩
      exact ⟨_, rfl, _, _, _, _, false, rfl, .ty _, kd.ty, kd.kit (.inl rfl) n, false, rfl, iteF k⟩
    | @st p n y z T hp kd ne =>
      refine ⟨_, rfl, _, _, rfl, .inl ⟨p, _, rfl, hp, true, rfl, iteF ?_⟩⟩
      refine ⟨_, rfl, p, _, rfl, hp, rfl, _, _, rfl, _, _, rfl, _, _, rfl, rfl, ?_⟩
      refine ⟨_, rfl, _, _, _, _, true, rfl, .ty _, .base (.str _), kit_ty (by decide +kernel), true, rfl, iteT ?_⟩
      exact ⟨_, rfl, _, rfl, .inr ⟨kd.noI ne, _, rfl, iteF k⟩⟩
    | @day p n s' z T hp kd ne =>
      refine ⟨_, rfl, _, _, rfl, .inl ⟨p, _, rfl, hp, true, rfl, iteF ?_⟩⟩
      refine ⟨_, rfl, p, _, rfl, hp, rfl, _, _, rfl, _, _, rfl, _, _, rfl, rfl, ?_⟩
      refine ⟨_, rfl, _, _, _, _, true, rfl, .ty _, .base (.str _), kit_ty (by decide +kernel), true, rfl, iteT ?_⟩
      exact ⟨_, rfl, _, rfl, .inl ⟨_, rfl, _, rfl, iteT ⟨_, rfl, _, rfl, .inr ⟨kd.noI ne, k⟩⟩⟩⟩
end
end K26

set_option Elab.async false
set_option linter.all false
set_option maxRecDepth 100000
set_option maxHeartbeats 4000000
namespace K26
open PySem PySem.Spec PyProof.Rows L2 Ew
/-- a call's one argument is there -/
theorem arg1 (sp : Sp) {v : V} {σ : L2.St} {H : Hp} {Q : VK} {E : XK} (h : sp [v] H Q E) : tNil σ H fun xs H2 => sp ((v :: xs) ++ []) H2 Q E := h
/-! ### rows of pairs -/
abbrev Prs := List (Spot × (Int × Int))
/-- a pair of a spot and a ratio at v, the ratio one of those that G means -/
def Pr (K : PySem.W.Frag) (G : V → Int × Int → Prop) (F : Hp) (v : V) (s : Spot × (Int × Int)) : Prop := ∃ q u w, v = .ref q ∧ SqT K F q [u, w] ∧ Spt F u s.1 ∧ Rt K F w s.2 ∧ G w s.2
/-- the entries of a dict that holds such pairs -/
def Kvs (K : PySem.W.Frag) (F : Hp) (kvs : List (List Key × V)) (L : Prs) : Prop := Paired (fun (c : List Key × V) (s : Spot × (Int × Int)) => c.1 = spK s.1 ∧ Rt K F c.2 s.2) kvs L
def look (L : Prs) (p : Spot) : Option (Int × Int) := (L.find? fun s => decide (s.1 = p)).map (·.2)
theorem look_cons {s : Spot × (Int × Int)} {L : Prs} {p : Spot} : look (s :: L) p = if s.1 = p then some s.2 else look L p := by
  unfold look
  rw [List.find?_cons]
  by_cases h : s.1 = p <;> simp [h]
section
variable {K : PySem.W.Frag} {F F' : Hp} {v : V} {s : Spot × (Int × Int)} {kvs : List (List Key × V)} {L : Prs}
theorem Pr.up {G : V → Int × Int → Prop} (h : Pr K G F v s) (e : Same F F') : Pr K G F' v s := by obtain ⟨q, u, w, h1, h2, h3, h4, h5⟩ := h; exact ⟨q, u, w, h1, upT e h2, h3.up e, h4.up e, h5⟩
theorem Kvs.up (h : Kvs K F kvs L) (e : Same F F') : Kvs K F' kvs L := Paired.mapP h fun _ _ z => ⟨z.1, z.2.up e⟩
theorem Kvs.get (h : Kvs K F kvs L) (p : Spot) : (valV kvs (spK p) = none ∧ look L p = none) ∨ ∃ w r, valV kvs (spK p) = some w ∧ look L p = some r ∧ Rt K F w r := by
  induction h with
  | nil => exact .inl ⟨valV_nil, rfl⟩
  | @cons c s cs L h t ih =>
    rw [look_cons]
    by_cases e : s.1 = p
    · rw [if_pos e, valV_pos (by rw [h.1, e])]
      exact .inr ⟨_, _, rfl, rfl, h.2⟩
    · rw [if_neg e, valV_neg (fun z => e (spK_inj (h.1.symm.trans z)))]
      exact ih
theorem Kvs.len (h : Kvs K F kvs L) : kvs.length = L.length := Paired.length h
theorem Kvs.snoc (h : Kvs K F kvs L) {w : V} (hw : Rt K F w s.2) : Kvs K F (kvs ++ [(spK s.1, w)]) (L ++ [s]) := Paired.snoc h ⟨rfl, hw⟩
theorem look_none {p : Spot} : look L p = none ↔ p ∉ L.map (·.1) := by
  induction L with
  | nil => simp [look]
  | cons s L ih =>
    rw [look_cons]
    by_cases e : s.1 = p
    · simp [e]
    · rw [if_neg e, ih]
      simp [Ne.symm e]
end
def ground : Spot := (⟨#[103, 114, 111, 117, 110, 100]⟩, 0, 0)
/-- a row that makes a world -/
structure OkL (L : Prs) : Prop where
  nd : (L.map (·.1)).Nodup
  low : ∀ s ∈ L, Low s.2
  hd : ∀ s, L[0]? = some s → s.1 = ground ∧ s.2.1 = 0
/-- a thing that is no ratio -/
inductive NotRt (K : PySem.W.Frag) (H : Hp) : V → Prop
  | nt {v : V} {T : String} (k : Kd K H v T) (n : T ≠ "tuple") : NotRt K H v
  | len {p : Addr} {xs : List V} (h : SqT K H p xs) (l : xs.length ≠ 2) : NotRt K H (.ref p)
  | one {p : Addr} {x y : V} {T : String} (h : SqT K H p [x, y]) (k : Kd K H x T) (n : T ≠ "int") : NotRt K H (.ref p)
  | two {p : Addr} {i : Int} {y : V} {T : String} (h : SqT K H p [.int i, y]) (k : Kd K H y T) (n : T ≠ "int") : NotRt K H (.ref p)
  | low {p : Addr} {r : Int × Int} (h : SqT K H p [.int r.1, .int r.2]) (n : ¬ Low r) : NotRt K H (.ref p)
theorem NotRt.up {K : PySem.W.Frag} {F F' : Hp} {v : V} (h : NotRt K F v) (e : Same F F') : NotRt K F' v := by
  cases h with
  | nt k n => exact .nt (k.up e) n
  | len h l => exact .len (upT e h) l
  | one h k n => exact .one (upT e h) (k.up e) n
  | two h k n => exact .two (upT e h) (k.up e) n
  | low h n => exact .low (upT e h) n
theorem not_ratio {K : PySem.W.Frag} {H : Hp} {v : V} {Q : VK} {E : XK} (h : NotRt K H v) (k : Q (.bl false) H) : sp_is_ratio K [v] H Q E := by
  refine ⟨v, rfl, ?_⟩
  cases h with
  | nt kd n => exact .inl ⟨_, kd.ty, kd.kit (.inr rfl) n, k⟩
  | len h l => exact .inr (.inl ⟨_, _, rfl, h, l, k⟩)
  | one h kd n => exact .inr (.inr (.inl ⟨_, _, _, rfl, h, kd.noI n, k⟩))
  | two h kd n => exact .inr (.inr (.inr (.inl ⟨_, _, _, rfl, h, kd.noI n, k⟩)))
  | @low p r h n =>
    refine .inr (.inr (.inr (.inr ⟨r.1, r.2, ⟨p, rfl, h⟩, ?_⟩)))
    have : (decide (1 ≤ r.2) && decide (Nat.gcd r.1.natAbs r.2.natAbs = 1)) = false := by
      cases e : (decide (1 ≤ r.2) && decide (Nat.gcd r.1.natAbs r.2.natAbs = 1)) with
      | false => rfl
      | true =>
        rw [Bool.and_eq_true] at e
        exact absurd ⟨of_decide_eq_true e.1, of_decide_eq_true e.2⟩ n
    rw [this]
    exact k
theorem is_ratio {K : PySem.W.Frag} {H : Hp} {v : V} {r : Int × Int} {Q : VK} {E : XK} (h : Rt K H v r) (l : Low r) (k : Q (.bl true) H) : sp_is_ratio K [v] H Q E := by
  refine ⟨v, rfl, .inr (.inr (.inr (.inr ⟨r.1, r.2, h, ?_⟩)))⟩
  rw [decide_eq_true l.1, decide_eq_true l.2]
  exact k
/-- a thing that is not the next pair of the row -/
inductive Wrong (K : PySem.W.Frag) (F : Hp) (L : Prs) : V → Prop
  | nt {v : V} {T : String} (k : Kd K F v T) (n : T ≠ "tuple") : Wrong K F L v
  | len {p : Addr} {xs : List V} (h : SqT K F p xs) (l : xs.length ≠ 2) : Wrong K F L (.ref p)
  | spot {p : Addr} {u w : V} (h : SqT K F p [u, w]) (n : NotSp K F u) : Wrong K F L (.ref p)
  | twice {p : Addr} {u w : V} {s : Spot} (h : SqT K F p [u, w]) (hs : Spt F u s) (m : s ∈ L.map (·.1)) : Wrong K F L (.ref p)
  | ratio {p : Addr} {u w : V} {s : Spot} (h : SqT K F p [u, w]) (hs : Spt F u s) (n : NotRt K F w) : Wrong K F L (.ref p)
  | first {p : Addr} {u w : V} {s : Spot} {r : Int × Int} (h : SqT K F p [u, w]) (hs : Spt F u s) (hr : Rt K F w r) (l : Low r) (e : L = []) (n : s ≠ ground ∨ r.1 ≠ 0) (ok : PyData.strOk s.1 = true) : Wrong K F L (.ref p)
theorem Wrong.up {K : PySem.W.Frag} {F F' : Hp} {L : Prs} {v : V} (h : Wrong K F L v) (e : Same F F') : Wrong K F' L v := by
  cases h with
  | nt k n => exact .nt (k.up e) n
  | len h l => exact .len (upT e h) l
  | spot h n => exact .spot (upT e h) (n.up e)
  | twice h hs m => exact .twice (upT e h) (hs.up e) m
  | ratio h hs n => exact .ratio (upT e h) (hs.up e) (n.up e)
  | first h hs hr l e' n ok => exact .first (upT e h) (hs.up e) (hr.up e) l e' n ok
theorem walk_enumT {K : PySem.W.Frag} {a : Addr} {xs : List V} : Walk (IteT K a) xs.length (fun H => SqT K H a xs) (YPair (fun i => some (.int (i : Nat))) (fun i => xs[i]?)) := by
  refine ⟨fun i _ hi q => ⟨xs, xs[i], q, by simp [hi]⟩, fun _ q => ⟨xs, q, rfl⟩, fun i H v H' _ q y => ?_⟩
  obtain ⟨T, x, h1, h2, h3, h4⟩ := y
  exact ⟨T, .int (i : Nat), x, h1, h2, h3, rfl, h4 xs q⟩
/-- a list or a tuple -/
def Row (K : PySem.W.Frag) (F : Hp) (p : Addr) (xs : List V) : Prop := SqL K F p xs ∨ SqT K F p xs
section
variable {P : Program} {w : World} {K : PySem.W.Frag} {mg : Str → Option Value} {base : Heap} {a : Ad}
/-- what G says of each value -/
def Gs (G : V → Int × Int → Prop) (kvs : List (List Key × V)) (L : Prs) : Prop := Paired (fun (c : List Key × V) (s : Spot × (Int × Int)) => G c.2 s.2) kvs L
/-- a dict of the pairs, kept, new since H0 -/
def Dct (K : PySem.W.Frag) (G : V → Int × Int → Prop) (H0 F : Hp) (v : V) (L : Prs) : Prop := ∃ d o kvs, v = .ref d ∧ F d = some (.frz o (.dT kvs)) ∧ Kvs K F kvs L ∧ H0 d = none ∧ Gs G kvs L
/-- the items begin with the pairs of L -/
def Begin (K : PySem.W.Frag) (G : V → Int × Int → Prop) (F : Hp) (xs : List V) (L : Prs) : Prop := L.length ≤ xs.length ∧ ∀ (i : Nat) s, L[i]? = some s → ∃ x, xs[i]? = some x ∧ Pr K G F x s
theorem Begin.up {G : V → Int × Int → Prop} {F F' : Hp} {xs : List V} {L : Prs} (h : Begin K G F xs L) (e : Same F F') : Begin K G F' xs L := ⟨h.1, fun i s hs => by obtain ⟨x, h1, h2⟩ := h.2 i s hs; exact ⟨x, h1, h2.up e⟩⟩
theorem row_pick {F H' : Hp} {p : Addr} {xs : List V} {σ : L2.St} {R : It → Hp → Prop} (h0 : σ[0]? = some (some (.ref p))) (hp : Row K F p xs) (e : Same F H')
    (k : ∀ J G, Walk J xs.length G (YPair (fun i => some (.int (i : Nat))) (fun i => xs[i]?)) → (∀ H2, Same F H2 → G H2) → R J H') : iEnum K (tCons (tVar 0) tNil) σ H' R ∨ iEnumT K (tCons (tVar 0) tNil) σ H' R := by
  rcases hp with hp | hp
  · exact .inl ⟨_, h0, p, xs, rfl, upL e hp, k _ _ walk_enum fun H2 e2 => upL e2 hp⟩
  · exact .inr ⟨_, h0, p, xs, rfl, upT e hp, k _ _ walk_enumT fun H2 e2 => upT e2 hp⟩
def sp__values_of (K : PySem.W.Frag) (a : Ad) : Sp := fun vs H Q E => ∃ (G : V → Int × Int → Prop) (F : Hp) (p : Addr) (xs : List V) (L : Prs), vs = [.ref p] ∧ Row K F p xs ∧ Same F H ∧ xs.length ≤ 1000 ∧ Begin K G F xs L ∧ OkL L ∧ (∀ s ∈ L, PyData.strOk s.1.1 = true) ∧
  (L.length = xs.length → xs ≠ [] → ∀ F' H' v, Stp F H F' H' → Dct K G H F' v L → Q v H') ∧ (∀ x, xs[L.length]? = some x → Wrong K F L x) ∧
  (L.length < xs.length ∨ xs = [] → Ra F H E a.BadWorld fun F' d => F' d = some (.xd [("place", .int (L.length : Nat))]))
theorem c__values_of (T : Txt K mg a) : Cl P w K mg base 3 "_values_of" P__values_of (sp__values_of K a) [] :=
  T.d__values_of.cl sc__values_of (fun vs H Q E h => by obtain ⟨G, F, p, xs, L, rfl, _⟩ := h; rfl) fun f cdv A outer s H vs Q E hr h => by
    obtain ⟨Gv, F, p, xs, L, rfl, hp, hf, hl, hb, ok, sok, k1, kw, k2⟩ := h
    refine ⟨_, ((pss_cons (ps_if (PW.pt (pw_or (pt_not (pt_val (pe_f (c_is_row T) (takes_of rfl rfl rfl rfl) hr (by decide) rfl (pa_cons (pv 0) pa_nil)))) (pw_or1 (pt_cmpR op_eq (pe_callB call_len_seq (by rfl) T.n_len (by decide +kernel) (pa_cons (pv 0) pa_nil)) pe_int (nomark _)))))
 (pss_one (ps_raise1 rfl (takes_of rfl rfl rfl rfl) (x_BadWorld T) hr (by decide) rfl pe_int))
 pss_nil)
 (pss_cons (ps_set (i := 1) sc__values_of.nd rfl (Or.inl rfl) pe_dnewT)
 (pss_cons (ps_for (passes_of rfl) rfl (pi_enumX (by rfl) T.n_enumerate (pa_cons (pv 0) pa_nil)) (pg_tup rfl (pgs_cons (pg_name (i := 2) sc__values_of.nd rfl (Or.inl rfl)) (pgs_cons (pg_name (i := 3) sc__values_of.nd rfl (Or.inl rfl)) pgs_nil)))
 (pss_cons (ps_if (pt_not (pt_val (pe_f (c_is_tuple_of T) (takes_of rfl rfl rfl rfl) hr (by decide) rfl (pa_cons (pv 3) (pa_cons pe_int pa_nil)))))
 (pss_one (ps_raise1 rfl (takes_of rfl rfl rfl rfl) (x_BadWorld T) hr (by decide) rfl (pv 2)))
 pss_nil)
 (pss_cons (ps_asg (pv 3) (pg_tup rfl (pgs_cons (pg_name (i := 4) sc__values_of.nd rfl (Or.inl rfl)) (pgs_cons (pg_name (i := 5) sc__values_of.nd rfl (Or.inl rfl)) pgs_nil))))
 (pss_cons (ps_if (PW.pt (pw_or (pt_not (pt_val (pe_f (c_is_spot T) (takes_of rfl rfl rfl rfl) hr (by decide) rfl (pa_cons (pv 4) pa_nil)))) (pw_or (pt_cmp (pc_din (hu_of hr) (pv 4) (pv 1)) rfl) (pw_or1 (pt_not (pt_val (pe_f (c_is_ratio T) (takes_of rfl rfl rfl rfl) hr (by decide) rfl (pa_cons (pv 5) pa_nil))))))))
 (pss_one (ps_raise1 rfl (takes_of rfl rfl rfl rfl) (x_BadWorld T) hr (by decide) rfl (pv 2)))
 pss_nil)
 (pss_cons (ps_if (PW.pt (pw_and (pt_cmpR op_eq (pv 2) pe_int (nomark _)) (pw_and1 (PW.pt (pw_or (pt_cmpR (op_neD hr.units) (pv 4) (pe_glob (by rfl) T.k_GROUND rfl (v := .ref a.aG)) (nomark _)) (pw_or1 (pt_cmpR op_ne (pe_ix ix_tup (pv 5) pe_int (fun _ _ => rfl)) pe_int (nomark _))))))))
 (pss_one (ps_raise1 rfl (takes_of rfl rfl rfl rfl) (x_BadWorld T) hr (by decide) rfl (pv 2)))
 pss_nil)
 (pss_one (ps_dput (hu_of hr) (pv 1) (pv 4) (pv 5) rfl)))))))
 (pss_one (ps_ret (pe_keep (pv 1)))))))), ?_⟩
    refine ⟨_, rfl, F, p, xs, rfl, hp, hf, fun F1 H1 v1 s1 e1 => ?_⟩
    subst e1
    have hp1 : Row K H1 p xs := hp.imp (fun z => upL s1.fh (upL s1.ff z)) fun z => upT s1.fh (upT s1.ff z)
    refine ⟨true, rfl, iteF ⟨_, rfl, p, xs, rfl, hp1, rfl, _, rfl, ?_⟩⟩
    by_cases hx : xs = []
    · subst hx
      refine iteY (vint_eq rfl) fun d hd => ?_
      have l0 : L.length = 0 := by have := hb.1; simpa using this
      have := k2 (.inr rfl) _ _ d (s1.newP hd) upd_same
      rw [l0] at this
      exact this
    have xl : 0 < xs.length := List.length_pos_iff.mpr hx
    refine iteN (vint_ne (by omega)) ?_
    refine fun D hD => ?_
    have fD : F1 D = none := s1.fh.free hD
    have h0D : H D = none := s1.freshP hD
    have nHD : H1 D = none := hD
    refine row_pick (F := F) (xs := xs) rfl hp (s1.ff.trans (s1.fh.trans (same_new hD))) fun J G wk hG => ?_
    refine for_it wk (fun j σ' H' => ∃ F' kvs c2 c3 c4 c5, σ' = [some (.ref p), some (.ref D), c2, c3, c4, c5] ∧ Stp F H F' H' ∧ Same F1 F' ∧ F' D = none ∧ H' D = some (.dT kvs) ∧ Kvs K F' kvs (L.take j) ∧ j ≤ L.length ∧ Gs Gv kvs (L.take j)) ?_ ?_ ?_ ?_
    · exact ⟨F1, [], none, none, none, none, rfl, s1.raw hD h0D, Same.refl _, fD, upd_same, .nil, Nat.zero_le _, .nil⟩
    · rintro j σ' H' _ ⟨F', kvs, c2, c3, c4, c5, _, s2, e2, _⟩
      exact hG _ (s1.ff.trans (e2.trans s2.fh))
    · rintro j _ _ H2 _ hj ⟨F2, kvs, c2, c3, c4, c5, rfl, s2, e2, f2, h2D, hk, hjL, hG2⟩ ⟨U, y, x, rfl, hU, rfl, ey, hx⟩
      cases ey
      have hx : xs[j]? = some x := hx
      have s3 := s2.newP (o := .tup [.int (j : Nat), x]) hU
      have nDU : D ≠ U := fun z => by rw [z, hU] at h2D; cases h2D
      have e3 : Same F2 (upd F2 U (.tup [.int (j : Nat), x])) := same_new (s2.fh.free hU)
      have f3 : (upd F2 U (.tup [.int (j : Nat), x])) D = none := by rw [upd_ne nDU]; exact f2
      have h3D : (upd H2 U (.tup [.int (j : Nat), x])) D = some (.dT kvs) := by rw [upd_ne nDU]; exact h2D
      generalize hH3 : upd H2 U (.tup [.int (j : Nat), x]) = H3 at s3 h3D
      have hU3 : SqT K H3 U [.int (j : Nat), x] := by rw [← hH3]; exact sq_new
      generalize upd F2 U (.tup [.int (j : Nat), x]) = F3 at s3 f3 e3
      have eF3 : Same F F3 := s1.ff.trans (e2.trans e3)
      have hk3 := hk.up e3
      refine ⟨U, _, rfl, hU3, rfl, _, _, rfl, _, _, rfl, rfl, ?_⟩
      have kl : kvs.length ≤ 1000 := by
        rw [hk.len, List.length_take]
        have := hb.1
        omega
      by_cases hj' : j < L.length
      · -- a good pair
        obtain ⟨sj, hsj⟩ : ∃ sj, L[j]? = some sj := ⟨_, List.getElem?_eq_getElem hj'⟩
        obtain ⟨x', hx', q, u, wv, rfl, hq, ⟨qs, rfl, hqs⟩, hr, hgw⟩ := hb.2 j sj hsj
        rw [hx] at hx'
        cases hx'
        have hq3 := upT (s3.fh) (upT eF3 hq)
        have hqs3 : H3 qs = some (.tup (spV sj.1)) := s3.fh _ _ (eF3 _ _ hqs)
        have hr3 := (hr.up eF3).up s3.fh
        have nin : look (L.take j) sj.1 = none := by
          rw [look_none]
          intro hm
          rw [List.map_take] at hm
          obtain ⟨i, hi⟩ := List.mem_iff_getElem?.mp hm
          rw [List.getElem?_take] at hi
          have il : i < j := by
            by_cases q : i < j
            · exact q
            · rw [if_neg q] at hi; cases hi
          rw [if_pos il] at hi
          have e2 : (L.map (·.1))[j]? = some sj.1 := by rw [List.getElem?_map, hsj]; rfl
          have := (List.getElem?_inj (List.getElem?_eq_some_iff.mp hi).1 ok.nd).mp (hi.trans e2.symm)
          omega
        refine ⟨_, rfl, _, _, rfl, .inl ⟨q, _, rfl, hq3, true, rfl, iteF ?_⟩⟩
        refine ⟨_, rfl, q, _, rfl, hq3, rfl, _, _, rfl, _, _, rfl, rfl, ?_⟩
        refine ⟨_, rfl, _, rfl, .inl ⟨qs, sj.1, rfl, SqT.of hqs3, true, rfl, iteF ?_⟩⟩
        have g := hk.get sj.1
        rw [nin] at g
        obtain ⟨g, _⟩ | ⟨_, _, _, z, _⟩ := g
        case inr => cases z
        have dg := DGet.t h3D (k := spK sj.1) hqs3
        rw [g] at dg
        refine ⟨_, rfl, _, rfl, D, none, rfl, dg, _, rfl, iteF ?_⟩
        refine ⟨_, rfl, arg1 (sp_is_ratio K) (is_ratio hr3 (ok.low sj (List.mem_of_getElem? hsj)) ?_)⟩
        refine ⟨true, rfl, iteF ?_⟩
        have fin : ∀ Dn : Ends, Dn.nx [some (.ref p), some (.ref D), some (.int (j : Nat)), some (.ref q), some (.ref qs), some wv] (upd H3 D (.dT (kvs ++ [(spK sj.1, wv)]))) →
            sDPut (tVar 1) (tVar 4) (tVar 5) Dn [some (.ref p), some (.ref D), some (.int (j : Nat)), some (.ref q), some (.ref qs), some wv] H3 := fun Dn z => by
          refine ⟨_, rfl, _, rfl, _, rfl, D, _, rfl, DPut.t (k := spK sj.1) h3D hqs3 (by rw [sizeLine_eq]; omega), ?_⟩
          rw [putK_new wv g]
          exact z
        have last : ∃ F' kvs' c2 c3 c4 c5, ([some (.ref p), some (.ref D), some (.int (j : Nat)), some (.ref q), some (.ref qs), some wv] : L2.St) = [some (.ref p), some (.ref D), c2, c3, c4, c5] ∧ Stp F H F' (upd H3 D (.dT (kvs ++ [(spK sj.1, wv)]))) ∧ Same F1 F' ∧ F' D = none ∧
            upd H3 D (.dT (kvs ++ [(spK sj.1, wv)])) D = some (.dT kvs') ∧ Kvs K F' kvs' (L.take (j + 1)) ∧ j + 1 ≤ L.length ∧ Gs Gv kvs' (L.take (j + 1)) := by
          have : L.take (j + 1) = L.take j ++ [sj] := by
            rw [List.take_add_one, hsj]
            rfl
          rw [this]
          exact ⟨F3, _, _, _, _, _, rfl, s3.mut f3 h0D, e2.trans e3, f3, upd_same, hk3.snoc (hr.up eF3), hj', Paired.snoc hG2 hgw⟩
        refine ⟨_, rfl, rfl, _, rfl, ?_⟩
        by_cases h0 : j = 0
        · subst h0
          obtain ⟨g1, g2⟩ := ok.hd sj hsj
          refine iteY (vint_eq rfl) ⟨_, rfl, spD sj.1, spD ground, dp_sp (SqT.of hqs3), dp_sp (T.t_GROUND _), (fl_sp (sok sj (List.mem_of_getElem? hsj))).sh (by decide), (fl_sp (by decide +kernel)).sh (by decide), _, rfl, ?_⟩
          rw [eqv_sp, g1, decide_eq_true rfl]
          obtain ⟨pr, rfl, hpr⟩ := hr3
          refine iteF ⟨_, rfl, pr, _, _, _, rfl, rfl, hpr, at0, rfl, _, rfl, ?_⟩
          refine iteN ?_ (fin _ last)
          rw [g2]
          simp
        · refine iteN (vint_ne (by omega)) ?_
          exact fin _ last
      · -- the first wrong one
        have ej : j = L.length := by omega
        have wr := (kw x (by rw [← ej]; exact hx)).up eF3
        have kr : ∀ d, H3 d = none → E (.ref a.BadWorld) (some d) (upd H3 d (.xd [("place", .int (j : Nat))])) := fun d hd => by
          have := k2 (.inl (by omega)) _ _ d (s3.newP hd) upd_same
          rw [← ej] at this
          exact this
        have tk : L.take j = L := by rw [ej]; exact List.take_length
        rw [tk] at hk3 hk
        cases wr with
        | nt kd n => exact ⟨_, rfl, _, _, rfl, .inr ⟨_, (kd.up s3.fh).ty, kd.kit (.inr rfl) n, _, rfl, iteT ⟨_, rfl, kr⟩⟩⟩
        | @len q ys hq l =>
          refine ⟨_, rfl, _, _, rfl, .inl ⟨q, ys, rfl, upT s3.fh hq, _, rfl, ?_⟩⟩
          rw [decide_eq_false (fun z => l (by have := V.int.inj z; omega))]
          exact iteT ⟨_, rfl, kr⟩
        | @spot q u wv hq n =>
          refine ⟨_, rfl, _, _, rfl, .inl ⟨q, _, rfl, upT s3.fh hq, true, rfl, iteF ?_⟩⟩
          refine ⟨_, rfl, q, _, rfl, upT s3.fh hq, rfl, _, _, rfl, _, _, rfl, rfl, ?_⟩
          exact ⟨_, rfl, _, rfl, .inr ⟨n.up s3.fh, _, rfl, iteT ⟨_, rfl, kr⟩⟩⟩
        | @twice q u wv sp hq hs m =>
          obtain ⟨qs, rfl, hqs⟩ := hs
          have hqs3 := s3.fh _ _ hqs
          refine ⟨_, rfl, _, _, rfl, .inl ⟨q, _, rfl, upT s3.fh hq, true, rfl, iteF ?_⟩⟩
          refine ⟨_, rfl, q, _, rfl, upT s3.fh hq, rfl, _, _, rfl, _, _, rfl, rfl, ?_⟩
          refine ⟨_, rfl, _, rfl, .inl ⟨qs, sp, rfl, SqT.of hqs3, true, rfl, iteF ?_⟩⟩
          have g := hk.get sp
          obtain ⟨_, z⟩ | ⟨wv', _, g, _, _⟩ := g
          · exact absurd m (look_none.mp z)
          have dg := DGet.t h3D (k := spK sp) hqs3
          rw [g] at dg
          exact ⟨_, rfl, _, rfl, D, some wv', rfl, dg, _, rfl, iteT ⟨_, rfl, kr⟩⟩
        | @ratio q u wv sp hq hs n =>
          obtain ⟨qs, rfl, hqs⟩ := hs
          have hqs3 := s3.fh _ _ hqs
          refine ⟨_, rfl, _, _, rfl, .inl ⟨q, _, rfl, upT s3.fh hq, true, rfl, iteF ?_⟩⟩
          refine ⟨_, rfl, q, _, rfl, upT s3.fh hq, rfl, _, _, rfl, _, _, rfl, rfl, ?_⟩
          refine ⟨_, rfl, _, rfl, .inl ⟨qs, sp, rfl, SqT.of hqs3, true, rfl, iteF ?_⟩⟩
          have dg := DGet.t h3D (k := spK sp) hqs3
          refine ⟨_, rfl, _, rfl, D, _, rfl, dg, _, rfl, ?_⟩
          cases valV kvs (spK sp) with
          | some _ => exact iteT ⟨_, rfl, kr⟩
          | none => exact iteF ⟨_, rfl, arg1 (sp_is_ratio K) (not_ratio (n.up s3.fh) ⟨false, rfl, iteT ⟨_, rfl, kr⟩⟩)⟩
        | @first q u wv sp r hq hs hr l e n okn =>
          subst e
          obtain ⟨qs, rfl, hqs⟩ := hs
          have hqs3 := s3.fh _ _ hqs
          obtain ⟨pr, rfl, hpr⟩ := hr.up s3.fh
          refine ⟨_, rfl, _, _, rfl, .inl ⟨q, _, rfl, upT s3.fh hq, true, rfl, iteF ?_⟩⟩
          refine ⟨_, rfl, q, _, rfl, upT s3.fh hq, rfl, _, _, rfl, _, _, rfl, rfl, ?_⟩
          refine ⟨_, rfl, _, rfl, .inl ⟨qs, sp, rfl, SqT.of hqs3, true, rfl, iteF ?_⟩⟩
          have g := hk.get sp
          obtain ⟨g, _⟩ | ⟨_, _, _, z, _⟩ := g
          case inr => cases z
          have dg := DGet.t h3D (k := spK sp) hqs3
          rw [g] at dg
          refine ⟨_, rfl, _, rfl, D, none, rfl, dg, _, rfl, iteF ?_⟩
          refine ⟨_, rfl, arg1 (sp_is_ratio K) (is_ratio ⟨pr, rfl, hpr⟩ l ?_)⟩
          refine ⟨true, rfl, iteF ⟨_, rfl, rfl, _, rfl, ?_⟩⟩
          refine iteY (vint_eq (by rw [ej]; rfl)) ⟨_, rfl, spD sp, spD ground, dp_sp (SqT.of hqs3), dp_sp (T.t_GROUND _), (fl_sp okn).sh (by decide), (fl_sp (by decide +kernel)).sh (by decide), _, rfl, ?_⟩
          rw [eqv_sp]
          by_cases eg : sp = ground
          · rw [decide_eq_true eg]
            refine iteF ⟨_, rfl, pr, _, _, _, rfl, rfl, hpr, at0, rfl, _, rfl, ?_⟩
            refine iteY ?_ ⟨_, rfl, kr⟩
            have : r.1 ≠ 0 := n.resolve_left fun z => z eg
            simp [this]
          · rw [decide_eq_false eg]
            exact iteT ⟨_, rfl, kr⟩
    · rintro _ H2 ⟨F2, kvs, c2, c3, c4, c5, rfl, s2, e2, f2, h2D, hk, hjL, hG2⟩
      have lx : L.length = xs.length := Nat.le_antisymm hb.1 hjL
      have tk : L.take xs.length = L := by rw [← lx]; exact List.take_length
      rw [tk] at hk hG2
      refine ⟨_, rfl, D, _, h2D, trivial, fun o => ?_⟩
      exact k1 lx hx (upd F2 D (.frz o (.dT kvs))) _ _ ((s2.mut f2 h0D).freeze f2 h0D upd_same) ⟨D, o, kvs, rfl, upd_same, hk.up (same_new f2), h0D, hG2⟩
end
end K26

set_option Elab.async false
set_option linter.all false
set_option maxRecDepth 100000
set_option maxHeartbeats 4000000
namespace K26
open PySem PySem.Spec PyProof.Rows L2 Ew
/-! ### worlds -/
/-- at v a world of the pairs of L -/
def Wd (K : PySem.W.Frag) (C : Addr) (F : Hp) (v : V) (L : Prs) : Prop := ∃ x dx d o kvs, v = .ref x ∧ F x = some (.ins C dx [("_values", .ref d)]) ∧ F d = some (.frz o (.dT kvs)) ∧ Kvs K F kvs L
theorem Wd.up {K : PySem.W.Frag} {C : Addr} {F F' : Hp} {v : V} {L : Prs} (h : Wd K C F v L) (e : Same F F') : Wd K C F' v L := by
  obtain ⟨x, dx, d, o, kvs, h1, h2, h3, h4⟩ := h
  exact ⟨x, dx, d, o, kvs, h1, e x _ h2, e d _ h3, h4.up e⟩
section
variable {P : Program} {w : World} {K : PySem.W.Frag} {mg : Str → Option Value} {base : Heap} {a : Ad}
def sp_Winit (K : PySem.W.Frag) (a : Ad) : Sp := fun vs H Q E => ∃ (G : V → Int × Int → Prop) (F : Hp) (x dx p : Addr) (xs : List V) (L : Prs), vs = [.ref x, .ref p] ∧ H x = some (.ins a.World dx []) ∧ Row K F p xs ∧ Same F H ∧ xs.length ≤ 1000 ∧ Begin K G F xs L ∧ OkL L ∧ (∀ s ∈ L, PyData.strOk s.1.1 = true) ∧
  (L.length = xs.length → xs ≠ [] → ∀ F' H' v, Stp F H F' H' → Dct K G H F' v L → Q .non (upd H' x (.ins a.World dx [("_values", v)]))) ∧ (∀ x, xs[L.length]? = some x → Wrong K F L x) ∧
  (L.length < xs.length ∨ xs = [] → Ra F H E a.BadWorld fun F' d => F' d = some (.xd [("place", .int (L.length : Nat))]))
theorem mk_World (T : Txt K mg a) : Mkr P w K mg base 4 "World" a.World P_WorldD_initD (sp_Winit K a) := by
  obtain ⟨f, fd, M, F, b⟩ := T.i_World.ex
  refine ⟨T.g_World, f, fd, M, fun_ok F sc_WorldD_initD (fun vs H Q E h => by obtain ⟨G, F, x, dx, p, xs, L, rfl, _⟩ := h; rfl) fun f cdv A outer s H vs Q E hr h => ?_, b⟩
  obtain ⟨G, F, x, dx, p, xs, L, rfl, hx, hp, hf, hl, hb, ok, sok, k1, kw, k2⟩ := h
  refine ⟨_, ((pss_one (ps_fld (pv 0) (pe_f (c__values_of T) (takes_of rfl rfl rfl rfl) hr (by decide) rfl (pa_cons (pv 1) pa_nil)) rfl))), ?_⟩
  refine ⟨_, rfl, G, F, p, xs, L, rfl, hp, hf, hl, hb, ok, sok, fun h1 h2 F' H' v st dc => ?_, kw, k2⟩
  exact ⟨_, rfl, x, a.World, dx, [], rfl, st.same _ _ hx, T.ki.cl, T.nV, Nat.le_of_ble_eq_true rfl, k1 h1 h2 F' H' v st dc⟩
/-- a new world, its values among those that G means -/
def WdG (K : PySem.W.Frag) (C : Addr) (G : V → Int × Int → Prop) (H0 F : Hp) (v : V) (L : Prs) : Prop := ∃ x dx d o kvs, v = .ref x ∧ F x = some (.ins C dx [("_values", .ref d)]) ∧ F d = some (.frz o (.dT kvs)) ∧ Kvs K F kvs L ∧ H0 x = none ∧ H0 d = none ∧ Gs G kvs L
theorem WdG.wd {C : Addr} {G : V → Int × Int → Prop} {H0 F : Hp} {v : V} {L : Prs} (h : WdG K C G H0 F v L) : Wd K C F v L := by
  obtain ⟨x, dx, d, o, kvs, h1, h2, h3, h4, _⟩ := h
  exact ⟨x, dx, d, o, kvs, h1, h2, h3, h4⟩
/-- World(row), what stands before the call -/
theorem mk_wdG (G : V → Int × Int → Prop) {F H : Hp} {p : Addr} {xs : List V} {L : Prs} {Q : VK} {E : XK} (hp : Row K F p xs) (hf : Same F H) (hl : xs.length ≤ 1000) (hb : Begin K G F xs L) (ok : OkL L) (sok : ∀ s ∈ L, PyData.strOk s.1.1 = true)
    (k1 : L.length = xs.length → xs ≠ [] → ∀ F' H' z, Stp F H F' H' → WdG K a.World G H F' z L → Q z H') (kw : ∀ x, xs[L.length]? = some x → Wrong K F L x)
    (k2 : L.length < xs.length ∨ xs = [] → Ra F H E a.BadWorld fun F' d => F' d = some (.xd [("place", .int (L.length : Nat))])) :
    ∀ o d, H o = none → H d = none → d ≠ o → sp_Winit K a (.ref o :: [.ref p]) (upd (upd H d (.own o)) o (.ins a.World d [])) (fun v H2 => v = .non ∧ Q (.ref o) H2) E := by
  intro o d ho hd ne
  have fo : F o = none := hf.free ho
  have ho' : (upd H d (.own o)) o = none := by rw [upd_ne (Ne.symm ne)]; exact ho
  have s0 : Stp F H F (upd (upd H d (.own o)) o (.ins a.World d [])) := ((Stm.refl hf).raw hd hd).raw ho' ho
  refine ⟨G, F, o, d, p, xs, L, rfl, upd_same, hp, s0.fh, hl, hb, ok, sok, fun h1 h2 F' H' v st dc => ⟨rfl, ?_⟩, kw, fun h F' H' d' st post => k2 h F' H' d' (s0.transP st) post⟩
  have f' : F' o = none := st.nw o fo (by rw [upd_same]; exact fun z => nomatch z)
  obtain ⟨dd, ob, kvs, rfl, e1, e2, e3, e4⟩ := dc
  have h0 : H dd = none := by
    have n1 : dd ≠ o := fun z => by rw [z, upd_same] at e3; cases e3
    rw [upd_ne n1] at e3
    have n2 : dd ≠ d := fun z => by rw [z, upd_same] at e3; cases e3
    rwa [upd_ne n2] at e3
  exact k1 h1 h2 (upd F' o (.ins a.World d [("_values", .ref dd)])) _ _ (((s0.transP st).mut f' ho).freeze f' ho upd_same) ⟨o, d, dd, ob, kvs, rfl, upd_same, same_new f' _ _ e1, e2.up (same_new f'), ho, h0, e4⟩
def any1 : V → Int × Int → Prop := fun _ _ => True
theorem mk_wd {F H : Hp} {p : Addr} {xs : List V} {L : Prs} {Q : VK} {E : XK} (hp : Row K F p xs) (hf : Same F H) (hl : xs.length ≤ 1000) (hb : Begin K any1 F xs L) (ok : OkL L) (sok : ∀ s ∈ L, PyData.strOk s.1.1 = true)
    (k1 : L.length = xs.length → xs ≠ [] → ∀ F' H' z, Stp F H F' H' → Wd K a.World F' z L → Q z H') (kw : ∀ x, xs[L.length]? = some x → Wrong K F L x)
    (k2 : L.length < xs.length ∨ xs = [] → Ra F H E a.BadWorld fun F' d => F' d = some (.xd [("place", .int (L.length : Nat))])) :
    ∀ o d, H o = none → H d = none → d ≠ o → sp_Winit K a (.ref o :: [.ref p]) (upd (upd H d (.own o)) o (.ins a.World d [])) (fun v H2 => v = .non ∧ Q (.ref o) H2) E :=
  mk_wdG any1 hp hf hl hb ok sok (fun h1 h2 F' H' z st g => k1 h1 h2 F' H' z st g.wd) kw k2
def sp_get (K : PySem.W.Frag) (a : Ad) : Sp := fun vs H Q E => ∃ (F : Hp) (x v : V) (L : Prs), vs = [x, v] ∧ Wd K a.World F x L ∧ Same F H ∧
  ((∃ p, Spt H v p ∧ (∀ u r, look L p = some r → Rt K F u r → Q u H) ∧ (look L p = none → Ra F H E a.NoSpot fun F' d => F' d = some (.xd [("spot", v)]))) ∨ (NotSp K H v ∧ Ra F H E a.NoSpot fun F' d => F' d = some (.xd [("spot", v)])))
theorem o_World_getitem (T : Txt K mg a) : OwC P w K mg base 3 a.World "__getitem__" P_WorldD_getitemD (sp_get K a) := by
  obtain ⟨f, fd, M, hfn, F, b⟩ := T.o_getitem.ex
  refine ⟨f, fd, M, hfn, fun_ok F sc_WorldD_getitemD (fun vs H Q E h => by obtain ⟨F, x, v, L, rfl, _⟩ := h; rfl) fun f cdv A outer s H vs Q E hr h => ?_, b⟩
  obtain ⟨F, x, v, L, rfl, ⟨x, dx, d, o, kvs, rfl, e1, e2, e3⟩, hf, h⟩ := h
  refine ⟨_, ((pss_cons (ps_if (PW.pt (pw_or (pt_not (pt_val (pe_f (c_is_spot T) (takes_of rfl rfl rfl rfl) hr (by decide) rfl (pa_cons (pv 1) pa_nil)))) (pw_or1 (pt_cmp (pc_dnotin (hu_of hr) (pv 1) (pe_fld (pv 0) rfl)) rfl))))
 (pss_one (ps_raise1 rfl (takes_of rfl rfl rfl rfl) (x_NoSpot T) hr (by decide) rfl (pv 1)))
 pss_nil)
 (pss_one (ps_ret (pe_dget (hu_of hr) (pe_fld (pv 0) rfl) (pv 1) (fun _ _ => rfl)))))), ?_⟩
  have fx := hf _ _ e1
  have fd := hf _ _ e2
  have raise : (Ra F H E a.NoSpot fun F' d => F' d = some (.xd [("spot", v)])) → ∀ d, H d = none → E (.ref a.NoSpot) (some d) (upd H d (.xd [("spot", v)])) := fun k d hd => k _ _ d (stp_new hf hd) upd_same
  rcases h with ⟨p, ⟨q, rfl, hq⟩, k1, k2⟩ | ⟨n, k⟩
  · have hq' := hq
    refine ⟨_, rfl, _, rfl, .inl ⟨q, p, rfl, SqT.of hq', true, rfl, iteF ?_⟩⟩
    have dg : DGet H d (.ref q) (valV kvs (spK p)) := .inr ⟨kvs, spK p, q, .inr ⟨o, fd⟩, rfl, hq', rfl⟩
    refine ⟨_, rfl, _, rfl, x, a.World, dx, _, _, rfl, fx, T.ki.cl, T.nV, rfl, d, _, rfl, dg, ?_⟩
    rcases e3.get p with ⟨g1, g2⟩ | ⟨u, r, g1, g2, g3⟩
    · rw [g1]
      exact ⟨true, rfl, iteT ⟨_, rfl, raise (k2 g2)⟩⟩
    · rw [g1] at dg ⊢
      refine ⟨false, rfl, iteF ⟨_, rfl, x, a.World, dx, _, _, rfl, fx, T.ki.cl, T.nV, rfl, _, rfl, d, u, rfl, dg, k1 u r g2 g3⟩⟩
  · exact ⟨_, rfl, _, rfl, .inr ⟨n, _, rfl, iteT ⟨_, rfl, raise k⟩⟩⟩
end
end K26

set_option Elab.async false
set_option linter.all false
set_option maxRecDepth 100000
set_option maxHeartbeats 4000000
namespace K26
open PySem PySem.Spec PyProof.Rows L2 Ew
section
variable {P : Program} {w : World} {K : PySem.W.Frag} {mg : Str → Option Value} {base : Heap} {a : Ad}
def sp_in (K : PySem.W.Frag) (a : Ad) : Sp := fun vs H Q _ => ∃ (F : Hp) (x v : V) (L : Prs), vs = [x, v] ∧ Wd K a.World F x L ∧ Same F H ∧ ((∃ p, Spt H v p ∧ Q (.bl (look L p).isSome) H) ∨ (NotSp K H v ∧ Q (.bl false) H))
theorem o_World_contains (T : Txt K mg a) : OwC P w K mg base 3 a.World "__contains__" P_WorldD_containsD (sp_in K a) := by
  obtain ⟨f, fd, M, hfn, F, b⟩ := T.o_contains.ex
  refine ⟨f, fd, M, hfn, fun_ok F sc_WorldD_containsD (fun vs H Q E h => by obtain ⟨F, x, v, L, rfl, _⟩ := h; rfl) fun f cdv A outer s H vs Q E hr h => ?_, b⟩
  obtain ⟨F, x, v, L, rfl, ⟨x, dx, d, o, kvs, rfl, e1, e2, e3⟩, hf, h⟩ := h
  refine ⟨_, ((pss_one (ps_ret (pe_and (pe_f (c_is_spot T) (takes_of rfl rfl rfl rfl) hr (by decide) rfl (pa_cons (pv 1) pa_nil)) (pe_one (pe_cmp (pc_din (hu_of hr) (pv 1) (pe_fld (pv 0) rfl)) rfl)))))), ?_⟩
  have fx := hf _ _ e1
  have fd := hf _ _ e2
  rcases h with ⟨p, ⟨q, rfl, hq⟩, k⟩ | ⟨n, k⟩
  · have hq' := hq
    have dg : DGet H d (.ref q) (valV kvs (spK p)) := .inr ⟨kvs, spK p, q, .inr ⟨o, fd⟩, rfl, hq', rfl⟩
    refine ⟨_, rfl, _, rfl, .inl ⟨q, p, rfl, SqT.of hq', _, rfl, iteT ?_⟩⟩
    refine ⟨_, rfl, _, rfl, x, a.World, dx, _, _, rfl, fx, T.ki.cl, T.nV, rfl, d, _, rfl, dg, ?_⟩
    rcases e3.get p with ⟨g1, g2⟩ | ⟨u, r, g1, g2, g3⟩
    · rw [g1]
      rw [g2] at k
      exact k
    · rw [g1]
      rw [g2] at k
      exact k
  · exact ⟨_, rfl, _, rfl, .inr ⟨n, _, rfl, iteF k⟩⟩
def sp_len (K : PySem.W.Frag) (a : Ad) : Sp := fun vs H Q _ => ∃ (F : Hp) (x : V) (L : Prs), vs = [x] ∧ Wd K a.World F x L ∧ Same F H ∧ Q (.int (L.length : Nat)) H
theorem o_World_len (T : Txt K mg a) : OwC P w K mg base 1 a.World "__len__" P_WorldD_lenD (sp_len K a) := by
  obtain ⟨f, fd, M, hfn, F, b⟩ := T.o_len.ex
  refine ⟨f, fd, M, hfn, fun_ok F sc_WorldD_lenD (fun vs H Q E h => by obtain ⟨F, x, L, rfl, _⟩ := h; rfl) fun f cdv A outer s H vs Q E hr h => ?_, b⟩
  obtain ⟨F, x, L, rfl, ⟨x, dx, d, o, kvs, rfl, e1, e2, e3⟩, hf, k⟩ := h
  refine ⟨_, ((pss_one (ps_ret (pe_callB call_lenF (by rfl) T.n_len (by decide +kernel) (pa_cons (pe_fld (pv 0) rfl) pa_nil))))), ?_⟩
  rw [← e3.len] at k
  exact ⟨_, rfl, x, a.World, dx, _, _, rfl, hf _ _ e1, T.ki.cl, T.nV, rfl, d, kvs, rfl, .inr ⟨o, hf _ _ e2⟩, k⟩
theorem it_World (T : Txt K mg a) : ItrC P w K mg base 1 a.World "_values" := by
  obtain ⟨f, fd, M, hfn, F, b⟩ := T.o_iter.ex
  refine ⟨f, fd, M, fun_it F sc_WorldD_iterD (by rfl) T.n_iter fun cdv A outer s H => ⟨_, pe_fld (pv 0) rfl, by rfl, by rfl, fun H1 Q x dx d fs h1 h2 q => ?_⟩, b⟩
  exact ⟨_, rfl, x, a.World, dx, fs, _, rfl, h1, T.ki.cl, T.nV, h2, q⟩
def unK : List Key → Spot
  | [.inr n, .inl s, .inl d] => (n, s, d)
  | _ => ground
/-- two rows of pairs have the same at a key -/
def sameK (L M : Prs) (k : List Key) : Bool := decide (look L (unK k) = look M (unK k))
theorem Kvs.mem {F : Hp} {kvs : List (List Key × V)} {L : Prs} (h : Kvs K F kvs L) (nd : (L.map (·.1)).Nodup) : ∀ k v, (k, v) ∈ kvs → ∃ p r, k = spK p ∧ look L p = some r ∧ Rt K F v r := by
  induction h with
  | nil => exact fun _ _ z => nomatch z
  | @cons c s cs L h t ih =>
    intro k v m
    rw [List.map_cons, List.nodup_cons] at nd
    rcases List.mem_cons.mp m with z | z
    · subst z
      exact ⟨s.1, s.2, h.1, by rw [look_cons, if_pos rfl], h.2⟩
    · obtain ⟨p, r, h1, h2, h3⟩ := ih nd.2 k v z
      refine ⟨p, r, h1, ?_, h3⟩
      rw [look_cons, if_neg]
      · exact h2
      · intro e
        have : look L p = none := look_none.mpr (by rw [← e]; exact nd.1)
        rw [this] at h2
        cases h2
theorem same_at {H : Hp} {ka kb : List (List Key × V)} {L M : Prs} (h : Kvs K H ka L) (t : Kvs K H kb M) (nd : (L.map (·.1)).Nodup) (nd2 : (M.map (·.1)).Nodup) :
    ∀ k v u, (k, v) ∈ ka → (k, u) ∈ kb → ∃ d1 d2, Dp K H v d1 ∧ Dp K H u d2 ∧ SeqAt.shaped d1 = true ∧ SeqAt.shaped d2 = true ∧ PyData.eqv d1 d2 = sameK L M k := by
  intro k v u m1 m2
  obtain ⟨p, r, rfl, h2, h3⟩ := h.mem nd _ _ m1
  obtain ⟨p', r', e, t2, t3⟩ := t.mem nd2 _ _ m2
  obtain rfl := spK_inj e
  refine ⟨_, _, h3.dp, t3.dp, shaped_ints _, shaped_ints _, ?_⟩
  rw [eqv_ints]
  unfold sameK
  show _ = decide (look L p = look M p)
  rw [h2, t2]
  obtain ⟨r1, r2⟩ := r
  obtain ⟨q1, q2⟩ := r'
  by_cases e1 : r1 = q1 <;> by_cases e2 : r2 = q2 <;> simp [e1, e2]
theorem look_mem {L : Prs} (nd : (L.map (·.1)).Nodup) : ∀ s ∈ L, look L s.1 = some s.2 := by
  induction L with
  | nil => exact fun _ z => nomatch z
  | cons t L ih =>
    intro s m
    rw [List.map_cons, List.nodup_cons] at nd
    rw [look_cons]
    rcases List.mem_cons.mp m with z | z
    · rw [z, if_pos rfl]
    · rw [if_neg]
      · exact ih nd.2 s z
      · intro e
        exact nd.1 (by rw [e]; exact List.mem_map.mpr ⟨s, z, rfl⟩)
/-- the same values at the same spots -/
def sameW (L M : Prs) : Bool := L.length == M.length && L.all fun s => decide (look M s.1 = some s.2)
theorem same_all {F : Hp} {ka kb : List (List Key × V)} {L M : Prs} (h : Kvs K F ka L) (t : Kvs K F kb M) (nd : (L.map (·.1)).Nodup) : (ka.length == kb.length && ka.all (inB kb (sameK L M))) = sameW L M := by
  unfold sameW
  rw [h.len, t.len]
  congr 1
  have look := look_mem nd
  have go : ∀ (N : Prs) (cs : List (List Key × V)), Kvs K F cs N → (∀ s ∈ N, K26.look L s.1 = some s.2) → cs.all (inB kb (sameK L M)) = N.all fun s => decide (K26.look M s.1 = some s.2) := by
    intro N cs h
    induction h with
    | nil => exact fun _ => rfl
    | @cons c s cs N h _ ih =>
      intro q
      rw [List.all_cons, List.all_cons, ih fun s hs => q s (List.mem_cons_of_mem _ hs)]
      congr 1
      unfold inB
      rw [h.1, valV_any]
      have e : sameK L M (spK s.1) = decide (K26.look L s.1 = K26.look M s.1) := rfl
      rw [e, q s List.mem_cons_self]
      rcases t.get s.1 with ⟨g1, g2⟩ | ⟨u, r, g1, g2, _⟩
      · rw [g1, g2]
        rfl
      · rw [g1, g2]
        by_cases z : s.2 = r
        · simp [z]
        · simp [z, Ne.symm z]
  exact go L ka h look
def sp_eq (K : PySem.W.Frag) (a : Ad) : Sp := fun vs H Q _ => ∃ (F : Hp) (x y : V) (L : Prs), vs = [x, y] ∧ Wd K a.World F x L ∧ Same F H ∧
  ((∃ M, Wd K a.World F y M ∧ (L.map (·.1)).Nodup ∧ (M.map (·.1)).Nodup ∧ Q (.bl (sameW L M)) H) ∨ ∃ T, Kd K F y T ∧ Q (.bl false) H)
theorem o_World_eq (T : Txt K mg a) : OwC P w K mg base 1 a.World "__eq__" P_WorldD_eqD (sp_eq K a) := by
  obtain ⟨f, fd, M, hfn, F, b⟩ := T.o_eq.ex
  refine ⟨f, fd, M, hfn, fun_ok F sc_WorldD_eqD (fun vs H Q E h => by obtain ⟨F, x, y, L, rfl, _⟩ := h; rfl) fun f cdv A outer s H vs Q E hr h => ?_, b⟩
  obtain ⟨F, x, y, L, rfl, ⟨x, dx, d, o, kvs, rfl, e1, e2, e3⟩, hf, h⟩ := h
  refine ⟨_, ((pss_one (ps_ret (pe_and (pe_callB call_isi (by rfl) T.n_isinstance (by decide +kernel) (pa_cons (pv 1) (pa_cons (pe_glob (v := .ref a.World) rfl T.g_World rfl) pa_nil))) (pe_one (pe_cmpR (op_eqT (units5 hr)) (pe_fld (pv 0) rfl) (pe_fld (pv 1) rfl) (nomark _))))))), ?_⟩
  rcases h with ⟨M, ⟨y, dy, d', o', kvs', rfl, h1, h2, h3⟩, nd, nd2, k⟩ | ⟨ty, kd, k⟩
  · refine ⟨_, rfl, _, _, _, _, true, rfl, .own _, T.ki.ty (hf _ _ h1), kit_same, true, rfl, iteT ?_⟩
    refine ⟨_, rfl, x, a.World, dx, _, _, rfl, hf _ _ e1, T.ki.cl, T.nV, rfl, _, rfl, y, a.World, dy, _, _, rfl, hf _ _ h1, T.ki.cl, T.nV, rfl, ?_⟩
    exact ⟨d, d', kvs, kvs', sameK L M, rfl, rfl, .inr ⟨o, hf _ _ e2⟩, .inr ⟨o', hf _ _ h2⟩, (same_at (e3.up hf) (h3.up hf) nd nd2), by rw [same_all e3 h3 nd]; exact k⟩
  · exact ⟨_, rfl, _, _, _, _, false, rfl, .own _, (kd.up hf).ty, T.kit_no ty (by cases kd <;> simp), false, rfl, iteF k⟩
end
end K26

set_option Elab.async false
set_option linter.all false
set_option maxRecDepth 100000
set_option maxHeartbeats 4000000
namespace K26
open PySem PySem.Spec PyProof.Rows L2 Ew
/-- what a world has at a thing: a spot of it, or one that lacks, or a thing that is no spot -/
def At (K : PySem.W.Frag) (F : Hp) (v : V) (L : Prs) (o : Option (Int × Int)) : Prop := (∃ p, Spt F v p ∧ look L p = o) ∨ (NotSp K F v ∧ o = none)
theorem At.up {K : PySem.W.Frag} {F F' : Hp} {v : V} {L : Prs} {o : Option (Int × Int)} (h : At K F v L o) (e : Same F F') : At K F' v L o := by
  rcases h with ⟨p, h1, h2⟩ | ⟨h1, h2⟩
  · exact .inl ⟨p, h1.up e, h2⟩
  · exact .inr ⟨h1.up e, h2⟩
/-- ratios of which not much is to be feared -/
structure Fine (r : Int × Int) : Prop where
  a : Sz 300 r.1
  b : Sz 300 r.2
  low : Low r
def FineL (L : Prs) : Prop := ∀ s ∈ L, Fine s.2
theorem look_in {L : Prs} {p : Spot} {r : Int × Int} (h : look L p = some r) : ∃ s ∈ L, s.1 = p ∧ s.2 = r := by
  induction L with
  | nil => cases h
  | cons s L ih =>
    rw [look_cons] at h
    by_cases e : s.1 = p
    · rw [if_pos e] at h
      exact ⟨s, List.mem_cons_self, e, Option.some.inj h⟩
    · rw [if_neg e] at h
      obtain ⟨t, h1, h2⟩ := ih h
      exact ⟨t, List.mem_cons_of_mem _ h1, h2⟩
theorem FineL.look {L : Prs} (f : FineL L) {p : Spot} {r : Int × Int} (h : look L p = some r) : Fine r := by
  obtain ⟨s, h1, _, h2⟩ := look_in h
  rw [← h2]
  exact f s h1
section
variable {P : Program} {w : World} {K : PySem.W.Frag} {mg : Str → Option Value} {base : Heap} {a : Ad}
/-- world[v] by what it has there -/
theorem get_at {F H : Hp} {x v : V} {L : Prs} {o : Option (Int × Int)} {Q : VK} {E : XK} (hw : Wd K a.World F x L) (hf : Same F H) (h : At K H v L o) (k1 : ∀ u r, o = some r → Rt K F u r → Q u H) (k2 : o = none → Ra F H E a.NoSpot fun F' d => F' d = some (.xd [("spot", v)])) : sp_get K a [x, v] H Q E := by
  refine ⟨F, x, v, L, rfl, hw, hf, ?_⟩
  rcases h with ⟨p, h1, h2⟩ | ⟨h1, h2⟩
  · exact .inl ⟨p, h1, fun u r e => k1 u r (by rw [← h2]; exact e), fun e => k2 (by rw [← h2]; exact e)⟩
  · exact .inr ⟨h1, k2 h2⟩
theorem At.fine {F : Hp} {v : V} {L : Prs} {r : Int × Int} (h : At K F v L (some r)) (f : FineL L) : Fine r := by
  rcases h with ⟨p, _, h2⟩ | ⟨_, h2⟩
  · exact f.look h2
  · cases h2
def sp_gap (K : PySem.W.Frag) (a : Ad) : Sp := fun vs H Q E => ∃ (F : Hp) (x u v : V) (L : Prs) (o1 o2 : Option (Int × Int)), vs = [x, u, v] ∧ Wd K a.World F x L ∧ Same F H ∧ FineL L ∧ At K F u L o1 ∧ At K F v L o2 ∧
  (∀ r q, o1 = some r → o2 = some q → ∀ F' H' z, Stp F H F' H' → Rt K F' z (rMinus q r) → Q z H') ∧ (o1 = none → Ra F H E a.NoSpot fun F' d => F' d = some (.xd [("spot", u)])) ∧ (∀ r, o1 = some r → o2 = none → Ra F H E a.NoSpot fun F' d => F' d = some (.xd [("spot", v)]))
theorem Fine.wide {r : Int × Int} (f : Fine r) : Sz 2000 r.1 ∧ Sz 2000 r.2 ∧ r.2 ≠ 0 := ⟨f.a.mono (by decide), f.b.mono (by decide), by have := f.low.1; omega⟩
theorem m_World_gap (T : Txt K mg a) : Mt P w K mg base 5 a.World "gap" P_World_gap (sp_gap K a) [] := by
  obtain ⟨f, fd, M, F, b⟩ := T.m_gap.ex
  refine ⟨T.ki.cl, f, fd, [], M, fun_ok F sc_World_gap (fun vs H Q E h => by obtain ⟨F, x, u, v, L, o1, o2, rfl, _⟩ := h; rfl) fun f cdv A outer s H vs Q E hr h => ?_, b, .nil⟩
  obtain ⟨F, x, u, v, L, o1, o2, rfl, hw, hf, hL, h1, h2, k1, k2, k3⟩ := h
  refine ⟨_, ((pss_cons (ps_set (i := 3) sc_World_gap.nd rfl (Or.inl rfl) (pe_ixC (o_World_getitem T) (takes_of rfl rfl rfl rfl) hr (by decide) (pv 0) (pv 1) (fun _ _ => rfl)))
 (pss_one (ps_ret (pe_f (c_minus T) (takes_of rfl rfl rfl rfl) hr (by decide) rfl (pa_cons (pe_ixC (o_World_getitem T) (takes_of rfl rfl rfl rfl) hr (by decide) (pv 0) (pv 2) (fun _ _ => rfl)) (pa_cons (pv 3) pa_nil))))))), ?_⟩
  obtain ⟨xx, dx, d, o, kvs, rfl, e1, e2, e3⟩ := id hw
  refine ⟨_, rfl, _, rfl, xx, dx, _, rfl, hf _ _ e1, get_at hw hf (h1.up hf) (fun u' r eo hu => ?_) k2⟩
  subst eo
  refine ⟨_, rfl, _, rfl, xx, dx, _, rfl, hf _ _ e1, get_at hw hf (h2.up hf) (fun v' q eo hv => ?_) (k3 r rfl)⟩
  subst eo
  obtain ⟨a1, a2, a3⟩ := (h1.fine hL).wide
  obtain ⟨b1, b2, b3⟩ := (h2.fine hL).wide
  exact ⟨_, rfl, F, v', u', q, r, rfl, hv, hu, b1, b2, a1, a2, b3, a3, hf, k1 r q rfl rfl⟩
theorem minus_sz {r q : Int × Int} (f : Fine r) (g : Fine q) : Sz 601 (rMinus q r).1 ∧ Sz 601 (rMinus q r).2 :=
  rat_sz ((g.a.mul f.b).sub (f.a.mul g.b)) ((g.b.mul f.b).mono (by decide))
theorem minus_low {r q : Int × Int} (f : Fine r) (g : Fine q) : Low (rMinus q r) := low_rat (Int.mul_ne_zero g.wide.2.2 f.wide.2.2)
theorem cmp_le {g : Int × Int} {n : Int} : decide (rCmp g (n, 1) ≤ 0) = decide (g.1 ≤ n * g.2) := by
  unfold rCmp
  dsimp only
  rw [Int.mul_one]
  by_cases h1 : g.1 = n * g.2
  · rw [if_pos h1, decide_eq_true (by decide), decide_eq_true (by omega)]
  · rw [if_neg h1]
    by_cases h2 : g.1 < n * g.2
    · rw [if_pos h2, decide_eq_true (by decide), decide_eq_true (by omega)]
    · rw [if_neg h2, decide_eq_false (by decide), decide_eq_false (by omega)]
def sp_keeps (K : PySem.W.Frag) (a : Ad) : Sp := fun vs H Q E => ∃ (F : Hp) (x u v wv : V) (q : Addr) (n : Int) (L : Prs) (o1 o2 : Option (Int × Int)), vs = [x, .ref q] ∧ SqT K F q [u, v, .int n, wv] ∧ Wd K a.World F x L ∧ Same F H ∧ FineL L ∧ Sz 700 n ∧ At K F u L o1 ∧ At K F v L o2 ∧
  (∀ r q, o1 = some r → o2 = some q → ∀ F' H', Stp F H F' H' → Q (.bl (decide ((rMinus q r).1 ≤ n * (rMinus q r).2))) H') ∧ (o1 = none → Ra F H E a.NoSpot fun F' d => F' d = some (.xd [("spot", u)])) ∧ (∀ r, o1 = some r → o2 = none → Ra F H E a.NoSpot fun F' d => F' d = some (.xd [("spot", v)]))
theorem m_World_keeps (T : Txt K mg a) : Mt P w K mg base 6 a.World "keeps" P_World_keeps (sp_keeps K a) [] := by
  obtain ⟨f, fd, M, F, b⟩ := T.m_keeps.ex
  refine ⟨T.ki.cl, f, fd, [], M, fun_ok F sc_World_keeps (fun vs H Q E h => by obtain ⟨F, x, u, v, wv, q, n, L, o1, o2, rfl, _⟩ := h; rfl) fun f cdv A outer s H vs Q E hr h => ?_, b, .nil⟩
  obtain ⟨F, x, u, v, wv, q, n, L, o1, o2, rfl, hq, hw, hf, hL, hz, h1, h2, k1, k2, k3⟩ := h
  refine ⟨_, ((pss_cons (ps_asg (pv 1) (pg_tup rfl (pgs_cons (pg_name (i := 2) sc_World_keeps.nd rfl (Or.inl rfl)) (pgs_cons (pg_name (i := 3) sc_World_keeps.nd rfl (Or.inl rfl)) (pgs_cons (pg_name (i := 4) sc_World_keeps.nd rfl (Or.inl rfl)) (pgs_cons (pg_name (i := 5) sc_World_keeps.nd rfl (Or.inl rfl)) pgs_nil))))))
 (pss_one (ps_ret (pe_cmpR op_le (pe_f (c_compare T) (takes_of rfl rfl rfl rfl) hr (by decide) rfl (pa_cons (pe_mf (m_World_gap T) (takes_of rfl rfl rfl rfl) hr (by decide) (pv 0) (pa_cons (pv 2) (pa_cons (pv 3) pa_nil))) (pa_cons (pe_tup (pa_cons (pv 4) (pa_cons pe_int pa_nil))) pa_nil))) pe_int (nomark _)))))), ?_⟩
  obtain ⟨xx, dx, d, o, kvs, rfl, e1, e2, e3⟩ := id hw
  refine ⟨_, rfl, q, _, rfl, upT hf hq, rfl, _, _, rfl, _, _, rfl, _, _, rfl, _, _, rfl, rfl, ?_⟩
  refine ⟨_, rfl, xx, dx, _, rfl, hf _ _ e1, rfl, _, rfl, _, rfl, F, .ref xx, u, v, L, o1, o2, rfl, hw, hf, hL, h1, h2, fun r q' eo1 eo2 F' H' z st hz' => ?_, k2, k3⟩
  subst eo1 eo2
  have f1 := h1.fine hL
  have f2 := h2.fine hL
  obtain ⟨z1, z2⟩ := minus_sz f1 f2
  refine ⟨_, rfl, by show 2 ≤ sizeLine; decide, fun t ht => ?_⟩
  have st2 := st.newP (o := .tup [.int n, .int 1]) ht
  refine ⟨z, .ref t, rMinus q' r, (n, 1), rfl, (hz'.up st.fh).up (same_new ht), ⟨t, rfl, sq_new⟩, z1.mono (by decide), z2.mono (by decide), hz.mono (by decide), sz1, _, _, rfl, rfl, ?_⟩
  show Q (.bl (decide (rCmp (rMinus q' r) (n, 1) ≤ 0))) _
  rw [cmp_le]
  exact k1 r q' rfl rfl _ _ st2
/-- each spot of the one is looked up in the other; the first that lacks is told -/
def sp__ask_for_all (K : PySem.W.Frag) (a : Ad) : Sp := fun vs H Q E => ∃ (x y : V) (L M : Prs), vs = [x, y] ∧ Wd K a.World H x L ∧ Wd K a.World H y M ∧ ((∀ s ∈ L, look M s.1 ≠ none) → Q .non H) ∧
  ∀ (i : Nat) s, L[i]? = some s → (∀ j t, j < i → L[j]? = some t → look M t.1 ≠ none) → look M s.1 = none → ∀ u d, Spt H u s.1 → H d = none → E (.ref a.NoSpot) (some d) (upd H d (.xd [("spot", u)]))
theorem Kvs.at {F : Hp} {kvs : List (List Key × V)} {L : Prs} (h : Kvs K F kvs L) {i : Nat} {k : List Key} {v : V} (e : kvs[i]? = some (k, v)) : ∃ s, L[i]? = some s ∧ k = spK s.1 ∧ Rt K F v s.2 := by
  induction h generalizing i with
  | nil => simp at e
  | @cons c s cs L h t ih =>
    cases i with
    | zero =>
      simp only [List.getElem?_cons_zero, Option.some.injEq] at e
      subst e
      exact ⟨s, rfl, h.1, h.2⟩
    | succ i => exact ih e
theorem c__ask_for_all (T : Txt K mg a) : Cl P w K mg base 4 "_ask_for_all" P__ask_for_all (sp__ask_for_all K a) [] :=
  T.d__ask_for_all.cl sc__ask_for_all (fun vs H Q E h => by obtain ⟨x, y, L, M, rfl, _⟩ := h; rfl) fun f cdv A outer s H vs Q E hr h => by
    obtain ⟨x, y, L, M, rfl, ⟨xx, dx, d, o, kvs, rfl, e1, e2, e3⟩, hy, k1, k2⟩ := h
    refine ⟨_, ((pss_one (ps_for (passes_of rfl) rfl (pi_own (it_World T) hr (by decide) (pv 0)) (pg_name (i := 2) sc__ask_for_all.nd rfl (Or.inl rfl))
 (pss_one (ps_if (pt_cmp (pc_ninC (o_World_contains T) (takes_of rfl rfl rfl rfl) hr (by decide) (pv 2) (pv 1)) rfl)
 (pss_one (ps_raise1 rfl (takes_of rfl rfl rfl rfl) (x_NoSpot T) hr (by decide) rfl (pv 2)))
 pss_nil))))), ?_⟩
    obtain ⟨yy, dy, d', o', kvs', rfl, h1, h2, h3⟩ := id hy
    refine ⟨_, rfl, xx, dx, _, d, o, kvs, rfl, e1, rfl, e2, ?_⟩
    refine for_it walk_keysT (fun i σ' H' => H = H' ∧ ∃ c, σ' = [some (.ref xx), some (.ref yy), c] ∧ ∀ j t, j < i → L[j]? = some t → look M t.1 ≠ none) ⟨rfl, none, rfl, fun _ _ z => by omega⟩ (fun i σ' H' _ ⟨q, _⟩ => q ▸ e2) ?_ ?_
    · rintro i v _ H2 H3 hi ⟨eH, c, rfl, all⟩ ⟨eH3, k, wv, q, hkv, rfl, hq⟩
      subst eH3 eH
      obtain ⟨s', hs, rfl, _⟩ := e3.at hkv
      have sp : Spt H (.ref q) s'.1 := ⟨q, rfl, hq⟩
      refine ⟨_, rfl, _, rfl, yy, dy, _, rfl, h1, H, .ref yy, .ref q, M, rfl, hy, Same.refl _, .inl ⟨s'.1, sp, ?_⟩⟩
      refine ⟨_, rfl, _, rfl, ?_⟩
      cases e : look M s'.1 with
      | none => exact iteT ⟨_, rfl, fun d hd => k2 i s' hs all e _ d sp hd⟩
      | some r =>
        refine iteF ⟨rfl, _, rfl, fun j t hj ht => ?_⟩
        by_cases z : j = i
        · subst z
          rw [hs] at ht
          cases ht
          rw [e]
          exact fun z => nomatch z
        · exact all j t (by omega) ht
    · rintro _ H2 ⟨eH, c, rfl, all⟩
      subst eH
      refine k1 fun s hs => ?_
      obtain ⟨j, hj⟩ := List.mem_iff_getElem?.mp hs
      refine all j s ?_ hj
      rw [e3.len]
      exact (List.getElem?_eq_some_iff.mp hj).1
end
end K26

set_option Elab.async false
set_option linter.all false
set_option maxRecDepth 100000
set_option maxHeartbeats 4000000
namespace K26
open PySem PySem.Spec PyProof.Rows L2 Ew
/-- the first spot of the one that lacks in the other -/
def lack (L M : Prs) : Option Spot := (L.find? fun s => (look M s.1).isNone).map (·.1)
theorem lack_none {L M : Prs} (h : lack L M = none) : ∀ s ∈ L, look M s.1 ≠ none := by
  unfold lack at h
  rw [Option.map_eq_none_iff, List.find?_eq_none] at h
  intro s hs e
  exact h s hs (by rw [e]; rfl)
theorem lack_some {L M : Prs} : ∀ {i : Nat} {s : Spot × (Int × Int)}, L[i]? = some s → (∀ j t, j < i → L[j]? = some t → look M t.1 ≠ none) → look M s.1 = none → lack L M = some s.1 := by
  induction L with
  | nil => intro i s h; simp at h
  | cons t L ih =>
    intro i s h all e
    unfold lack
    rw [List.find?_cons]
    cases i with
    | zero =>
      simp only [List.getElem?_cons_zero, Option.some.injEq] at h
      subst h
      rw [e]
      rfl
    | succ i =>
      have := all 0 t (by omega) rfl
      cases q : look M t.1 with
      | none => exact absurd q this
      | some r => exact ih h (fun j u hj hu => all (j + 1) u (by omega) hu) e
/-- the greater (1) or the lesser (-1) one of a value and the other world's -/
def mixR (g : Int) (M : Prs) (s : Spot × (Int × Int)) : Int × Int := match look M s.1 with
  | some q => if rCmp q s.2 = g then q else s.2
  | none => s.2
def mix (g : Int) (L M : Prs) : Prs := L.map fun s => (s.1, mixR g M s)
/-- a world's row, all that is known of it -/
structure OkW (L : Prs) : Prop where
  ok : OkL L
  fine : FineL L
  str : ∀ s ∈ L, PyData.strOk s.1.1 = true
  ne : L ≠ []
  len : L.length ≤ 1000
theorem mix_fine {g : Int} {L M : Prs} (h : FineL L) (k : FineL M) : ∀ s ∈ L, Fine (mixR g M s) := by
  intro s hs
  unfold mixR
  cases e : look M s.1 with
  | none => exact h s hs
  | some q =>
    dsimp only
    split
    · exact k.look e
    · exact h s hs
theorem look_ground {M : Prs} (h : OkW M) {q : Int × Int} (e : look M ground = some q) : q.1 = 0 := by
  cases M with
  | nil => exact absurd rfl h.ne
  | cons s M =>
    obtain ⟨h1, h2⟩ := h.ok.hd s rfl
    rw [look_cons, if_pos h1] at e
    cases e
    exact h2
theorem mix_ok {g : Int} {L M : Prs} (h : OkW L) (k : OkW M) : OkW (mix g L M) where
  ok := {
    nd := by unfold mix; rw [List.map_map]; exact h.ok.nd
    low := fun s hs => by
      obtain ⟨t, ht, rfl⟩ := List.mem_map.mp hs
      exact (mix_fine h.fine k.fine t ht).low
    hd := fun s hs => by
      unfold mix at hs
      rw [List.getElem?_map] at hs
      cases e : L[0]? with
      | none => rw [e] at hs; cases hs
      | some t =>
        rw [e] at hs
        cases hs
        obtain ⟨h1, h2⟩ := h.ok.hd t e
        refine ⟨h1, ?_⟩
        show (mixR g M t).1 = 0
        unfold mixR
        rw [h1]
        cases e : look M ground with
        | none => exact h2
        | some q =>
          dsimp only
          split
          · exact look_ground k e
          · exact h2 }
  fine := fun s hs => by
    obtain ⟨t, ht, rfl⟩ := List.mem_map.mp hs
    exact mix_fine h.fine k.fine t ht
  str := fun s hs => by
    obtain ⟨t, ht, rfl⟩ := List.mem_map.mp hs
    exact h.str t ht
  ne := by unfold mix; simpa using h.ne
  len := by unfold mix; rw [List.length_map]; exact h.len
section
variable {P : Program} {w : World} {K : PySem.W.Frag} {mg : Str → Option Value} {base : Heap} {a : Ad}
theorem ask_of {H : Hp} {x y : V} {L M : Prs} {Q : VK} {E : XK} (hx : Wd K a.World H x L) (hy : Wd K a.World H y M) (k1 : lack L M = none → Q .non H) (k2 : ∀ p, lack L M = some p → ∀ u d, Spt H u p → H d = none → E (.ref a.NoSpot) (some d) (upd H d (.xd [("spot", u)]))) :
    sp__ask_for_all K a [x, y] H Q E := by
  refine ⟨x, y, L, M, rfl, hx, hy, fun h => k1 ?_, fun i s hs all e u d hu hd => k2 _ (lack_some hs all e) u d hu hd⟩
  unfold lack
  rw [Option.map_eq_none_iff, List.find?_eq_none]
  intro s hs z
  exact h s hs (Option.isNone_iff_eq_none.mp z)
/-- a call's two, three arguments are there -/
theorem arg2 (sp : Sp) {u v : V} {σ : L2.St} {H : Hp} {Q : VK} {E : XK} (h : sp [u, v] H Q E) : tNil σ H fun xs H2 => sp ((u :: v :: xs) ++ []) H2 Q E := h
theorem arg3 (sp : Sp) {u v x : V} {σ : L2.St} {H : Hp} {Q : VK} {E : XK} (h : sp [u, v, x] H Q E) : tNil σ H fun xs H2 => sp ((u :: v :: x :: xs) ++ []) H2 Q E := h
def lost (L M : Prs) : Option Spot := (lack L M).or (lack M L)
def sp__chosen (K : PySem.W.Frag) (a : Ad) : Sp := fun vs H Q E => ∃ (F : Hp) (x y : V) (L M : Prs) (g : Int), vs = [x, y, .int g] ∧ Wd K a.World F x L ∧ Wd K a.World F y M ∧ Same F H ∧ OkW L ∧ OkW M ∧
  (lost L M = none → ∀ F' H' z, Stp F H F' H' → Wd K a.World F' z (mix g L M) → Q z H') ∧ ∀ p, lost L M = some p → ∀ u d, Spt H u p → H d = none → E (.ref a.NoSpot) (some d) (upd H d (.xd [("spot", u)]))
/-- a new pair: its spot stands in the heap, its ratio in what stays -/
def PrH (K : PySem.W.Frag) (F H : Hp) (v : V) (s : Spot × (Int × Int)) : Prop := ∃ t q w, v = .ref t ∧ H t = some (.tup [.ref q, w]) ∧ H q = some (.tup (spV s.1)) ∧ Rt K F w s.2
theorem PrH.up {F H H' : Hp} {v : V} {s : Spot × (Int × Int)} (h : PrH K F H v s) (e : ∀ b xs, H b = some (.tup xs) → H' b = some (.tup xs)) : PrH K F H' v s := by
  obtain ⟨t, q, w, h1, h2, h3, h4⟩ := h
  exact ⟨t, q, w, h1, e _ _ h2, e _ _ h3, h4⟩
theorem kvs_with {F F' F2 : Hp} {kvs : List (List Key × V)} {L : Prs} (h : Kvs K F' kvs L) (g : Gs (Rt K F) kvs L) (e : Same F F2) : Kvs K F2 kvs L := by
  induction h with
  | nil => exact .nil
  | cons h t ih =>
    cases g with
    | cons g1 g2 => exact .cons ⟨h.1, g1.up e⟩ (ih g2)
theorem c__chosen (T : Txt K mg a) : Cl P w K mg base 6 "_chosen" P__chosen (sp__chosen K a) [] :=
  T.d__chosen.cl sc__chosen (fun vs H Q E h => by obtain ⟨F, x, y, L, M, g, rfl, _⟩ := h; rfl) fun f cdv A outer s H vs Q E hr h => by
    obtain ⟨F, x, y, L, M, g, rfl, hx, hy, hf, ol, om, k1, k2⟩ := h
    refine ⟨_, ((pss_cons (ps_expr (pe_f (c__ask_for_all T) (takes_of rfl rfl rfl rfl) hr (by decide) rfl (pa_cons (pv 0) (pa_cons (pv 1) pa_nil))))
 (pss_cons (ps_expr (pe_f (c__ask_for_all T) (takes_of rfl rfl rfl rfl) hr (by decide) rfl (pa_cons (pv 1) (pa_cons (pv 0) pa_nil))))
 (pss_cons (ps_set (i := 3) sc__chosen.nd rfl (Or.inl rfl) (pe_lst pa_nil))
 (pss_cons (ps_for (passes_of rfl) rfl (pi_own (it_World T) hr (by decide) (pv 0)) (pg_name (i := 4) sc__chosen.nd rfl (Or.inl rfl))
 (pss_cons (ps_set (i := 5) sc__chosen.nd rfl (Or.inl rfl) (pe_ixC (o_World_getitem T) (takes_of rfl rfl rfl rfl) hr (by decide) (pv 0) (pv 4) (fun _ _ => rfl)))
 (pss_cons (ps_if (pt_cmpR op_eq (pe_f (c_compare T) (takes_of rfl rfl rfl rfl) hr (by decide) rfl (pa_cons (pe_ixC (o_World_getitem T) (takes_of rfl rfl rfl rfl) hr (by decide) (pv 1) (pv 4) (fun _ _ => rfl)) (pa_cons (pv 5) pa_nil))) (pv 2) (nomark _))
 (pss_one (ps_set (i := 5) sc__chosen.nd rfl (Or.inl rfl) (pe_ixC (o_World_getitem T) (takes_of rfl rfl rfl rfl) hr (by decide) (pv 1) (pv 4) (fun _ _ => rfl))))
 pss_nil)
 (pss_one (ps_expr (pe_bm PySem.F.plainAttrs_list PySem.F.slot_list_append PySem.F.type_list_append mt_append (pv 3) (pa_cons (pe_tup (pa_cons (pv 4) (pa_cons (pv 5) pa_nil))) pa_nil)))))))
 (pss_one (ps_ret (pe_mkW (mk_World T) (takes_of rfl rfl rfl rfl) hr (by decide) rfl (pa_cons (pv 3) pa_nil))))))))), ?_⟩
    refine ⟨_, rfl, _, rfl, arg2 (sp__ask_for_all K a) (ask_of (hx.up hf) (hy.up hf) (fun n1 => ?_) fun p hp => k2 p (by unfold lost; rw [hp]; rfl))⟩
    refine ⟨_, rfl, _, rfl, arg2 (sp__ask_for_all K a) (ask_of (hy.up hf) (hx.up hf) (fun n2 => ?_) fun p hp => k2 p (by unfold lost; rw [n1, hp]; rfl))⟩
    have k1 := k1 (by unfold lost; rw [n1, n2]; rfl)
    have a1 := lack_none n1
    obtain ⟨xx, dx, d, o, kvs, rfl, e1, e2, e3⟩ := id hx
    obtain ⟨yy, dy, d', o', kvs', rfl, h1, h2, h3⟩ := id hy
    refine ⟨by show 0 ≤ sizeLine; decide, fun D hD => ?_⟩
    have fD : F D = none := hf.free hD
    have f1 : Same F (upd H D (.lst [])) := hf.trans (same_new hD)
    refine ⟨_, rfl, xx, dx, _, d, o, kvs, rfl, f1 _ _ e1, rfl, f1 _ _ e2, ?_⟩
    refine for_it walk_keysT (fun i σ' H' => ∃ F' acc c4 c5, σ' = [some (.ref xx), some (.ref yy), some (.int g), some (.ref D), c4, c5] ∧ Stp F H F' H' ∧ F' D = none ∧ H' D = some (.lst acc) ∧ acc.length = i ∧
      ∀ j s, L[j]? = some s → j < i → ∃ v, acc[j]? = some v ∧ PrH K F H' v (s.1, mixR g M s)) ?_ ?_ ?_ ?_
    · exact ⟨F, [], none, none, rfl, (Stm.refl hf).raw hD hD, fD, upd_same, rfl, fun _ _ _ z => by omega⟩
    · rintro i σ' H' _ ⟨F', acc, c4, c5, _, st, _⟩
      exact st.fh _ _ (st.ff _ _ e2)
    · rintro i v _ H2 H3 hi ⟨F2, acc, c4, c5, rfl, st, f2, hD2, hl, all⟩ ⟨eH, k, wv, q, hkv, rfl, hq⟩
      subst eH
      obtain ⟨s', hs, rfl, _⟩ := e3.at hkv
      have sp : Spt H3 (.ref q) s'.1 := ⟨q, rfl, hq⟩
      have f3 : Same F H3 := st.ff.trans st.fh
      have hm := List.mem_of_getElem? hs
      have lo : look L s'.1 = some s'.2 := look_mem ol.ok.nd s' hm
      obtain ⟨r2, lm⟩ : ∃ r2, look M s'.1 = some r2 := Option.ne_none_iff_exists'.mp (a1 s' hm)
      obtain ⟨w1, w2, w3⟩ := (ol.fine s' hm).wide
      obtain ⟨v1, v2, v3⟩ := (om.fine.look lm).wide
      refine ⟨_, rfl, _, rfl, xx, dx, _, rfl, f3 _ _ e1, get_at hx f3 (.inl ⟨s'.1, sp, lo⟩) (fun u r er hu => ?_) fun z => nomatch z⟩
      cases er
      refine ⟨_, rfl, _, rfl, yy, dy, _, rfl, f3 _ _ h1, get_at hy f3 (.inl ⟨s'.1, sp, lm⟩) (fun u2 r er hu2 => ?_) fun z => nomatch z⟩
      cases er
      refine ⟨_, rfl, u2, u, r2, s'.2, rfl, hu2.up f3, hu.up f3, v1, v2, w1, w2, ?_⟩
      have kl : kvs.length ≤ 1000 := by rw [e3.len]; exact ol.len
      -- the pair is put behind
      have app : ∀ (wv : V), Rt K F wv (mixR g M s') → ∀ Dn : Ends, (∀ σ' H', (∃ F' acc c4 c5, σ' = [some (.ref xx), some (.ref yy), some (.int g), some (.ref D), c4, c5] ∧ Stp F H F' H' ∧ F' D = none ∧ H' D = some (.lst acc) ∧ acc.length = i + 1 ∧
          ∀ j s, L[j]? = some s → j < i + 1 → ∃ v, acc[j]? = some v ∧ PrH K F H' v (s.1, mixR g M s)) → Dn.nx σ' H') →
          tDrop (tBM K "list" rAppend (tVar 3) (tCons (tTup (tCons (tVar 4) (tCons (tVar 5) tNil))) tNil)) Dn [some (.ref xx), some (.ref yy), some (.int g), some (.ref D), some (.ref q), some wv] H3 := by
        intro wv hwv Dn nx
        refine ⟨_, rfl, .inl ⟨rfl, acc, SqL.of hD2⟩, _, rfl, _, rfl, by show 2 ≤ sizeLine; decide, fun t ht => ?_⟩
        have nt : D ≠ t := fun z => by rw [z, ht] at hD2; cases hD2
        refine ⟨D, acc, .ref t, rfl, rfl, by rw [upd_ne nt]; exact hD2, by rw [hl, sizeLine_eq]; omega, nx _ _ ?_⟩
        have s3 := st.newP (o := .tup [.ref q, wv]) ht
        have f3 : (upd F2 t (.tup [.ref q, wv])) D = none := by rw [upd_ne nt]; exact f2
        refine ⟨upd F2 t (.tup [.ref q, wv]), acc ++ [.ref t], _, _, rfl, s3.mut f3 hD, f3, upd_same, by rw [List.length_append, hl]; rfl, fun j s'' hj hlt => ?_⟩
        have keep : ∀ b xs, H3 b = some (.tup xs) → (upd (upd H3 t (.tup [.ref q, wv])) D (.lst (acc ++ [.ref t]))) b = some (.tup xs) := fun b xs e => by
          have n1 : b ≠ D := fun z => by rw [z, hD2] at e; cases e
          have n2 : b ≠ t := fun z => by rw [z, ht] at e; cases e
          rw [upd_ne n1, upd_ne n2]
          exact e
        by_cases hji : j < i
        · obtain ⟨v, h1, h2⟩ := all j s'' hj hji
          exact ⟨v, by rw [List.getElem?_append_left (by omega)]; exact h1, h2.up keep⟩
        · have ej : j = i := by omega
          subst ej
          rw [hs] at hj
          cases hj
          refine ⟨.ref t, by rw [List.getElem?_append_right (by omega), hl, Nat.sub_self]; rfl, t, q, wv, rfl, ?_, keep _ _ hq, hwv⟩
          rw [upd_ne (Ne.symm nt), upd_same]
      refine ⟨_, rfl, rfl, _, rfl, ?_⟩
      have mx : mixR g M s' = if rCmp r2 s'.2 = g then r2 else s'.2 := by unfold mixR; rw [lm]
      by_cases hg : rCmp r2 s'.2 = g
      · refine iteY (vint_eq hg) ⟨_, rfl, _, rfl, yy, dy, _, rfl, f3 _ _ h1, get_at hy f3 (.inl ⟨s'.1, sp, lm⟩) (fun u3 r er hu3 => ?_) fun z => nomatch z⟩
        cases er
        exact app u3 (by rw [mx, if_pos hg]; exact hu3) _ fun _ _ z => z
      · refine iteN (vint_ne hg) ?_
        exact app u (by rw [mx, if_neg hg]; exact hu) _ fun _ _ z => z
    · rintro _ H2 ⟨F2, acc, c4, c5, rfl, st, f2, hD2, hl, all⟩
      have om2 := mix_ok (g := g) ol om
      have ll : (mix g L M).length = acc.length := by unfold mix; rw [List.length_map, hl, e3.len]
      have kl : kvs.length ≤ 1000 := by rw [e3.len]; exact ol.len
      refine ⟨_, rfl, ?_⟩
      refine mk_wdG (Rt K F) (F := H2) (xs := acc) (L := mix g L M) (.inl (SqL.of hD2)) (Same.refl _) (by omega) ⟨by omega, fun j s hs => ?_⟩ om2.ok om2.str (fun _ _ F' H' z s2 gz => ?_) (fun x hx => ?_) fun hx => ?_
      · unfold mix at hs
        rw [List.getElem?_map] at hs
        cases e : L[j]? with
        | none => rw [e] at hs; cases hs
        | some s' =>
          rw [e] at hs
          cases hs
          obtain ⟨v, h1, t, q, wv, rfl, h2, h3, h4⟩ := all j s' e (by rw [e3.len]; exact (List.getElem?_eq_some_iff.mp e).1)
          exact ⟨_, h1, t, .ref q, wv, rfl, SqT.of h2, ⟨q, rfl, h3⟩, h4.up (st.ff.trans st.fh), h4⟩
      · obtain ⟨x', dx', d', o', kvs', rfl, g1, g2, g3, n1, n2, g5⟩ := gz
        have fx : F2 x' = none := st.fh.free n1
        have fd : F2 d' = none := st.fh.free n2
        have nxd : x' ≠ d' := fun z => by rw [z, g2] at g1; cases g1
        have fx' : (upd F2 d' (.frz o' (.dT kvs'))) x' = none := by rw [upd_ne nxd]; exact fx
        have ff : Same F (upd (upd F2 d' (.frz o' (.dT kvs'))) x' (.ins a.World dx' [("_values", .ref d')])) := st.ff.trans ((same_new fd).trans (same_new fx'))
        refine k1 (upd (upd F2 d' (.frz o' (.dT kvs'))) x' (.ins a.World dx' [("_values", .ref d')])) H' _ ⟨ff, fun b u e => ?_, fun b u n e => s2.same _ _ (st.hh b u n e), fun b n e => ?_⟩ ⟨x', dx', d', o', kvs', rfl, upd_same, by rw [upd_ne (Ne.symm nxd), upd_same], ?_⟩
        · by_cases z1 : b = x'
          · subst z1
            rw [upd_same] at e
            rw [← e]
            exact s2.fh _ _ g1
          · rw [upd_ne z1] at e
            by_cases z2 : b = d'
            · subst z2
              rw [upd_same] at e
              rw [← e]
              exact s2.fh _ _ g2
            · rw [upd_ne z2] at e
              exact s2.same _ _ (st.fh _ _ e)
        · have h2b : H2 b ≠ none := by
            cases q : H b with
            | none => exact absurd q e
            | some u => rw [st.same _ _ q]; exact fun z => nomatch z
          rw [upd_ne (fun z => h2b (by rw [z]; exact n1)), upd_ne (fun z => h2b (by rw [z]; exact n2))]
          exact st.nw b n e
        · exact kvs_with g3 g5 ff
      · rw [ll] at hx
        rw [List.getElem?_eq_none (Nat.le_refl _)] at hx
        cases hx
      · rcases hx with hx | hx
        · omega
        · have := om2.ne
          rw [hx] at ll
          exact absurd (List.length_eq_zero_iff.mp ll) this
end
end K26

set_option Elab.async false
set_option linter.all false
set_option maxRecDepth 100000
set_option maxHeartbeats 4000000
namespace K26
open PySem PySem.Spec PyProof.Rows L2 Ew
open SX (S)
/-- a name that may stand in a spot -/
def Nm (z : Str) : Prop := PyData.strOk z = true ∧ z.length ≤ 10
section
variable {P : Program} {w : World} {K : PySem.W.Frag} {mg : Str → Option Value} {base : Heap} {a : Ad}
theorem c_higher (T : Txt K mg a) : Cl P w K mg base 7 "higher" P_higher (fun vs H Q E => ∃ x y, vs = [x, y] ∧ sp__chosen K a [x, y, .int 1] H Q E) [] :=
  T.d_higher.cl sc_higher (fun vs H Q E h => by obtain ⟨x, y, rfl, _⟩ := h; rfl) fun f cdv A outer s H vs Q E hr h => by
    obtain ⟨x, y, rfl, h⟩ := h
    exact ⟨_, ((pss_one (ps_ret (pe_f (c__chosen T) (takes_of rfl rfl rfl rfl) hr (by decide) rfl (pa_cons (pv 0) (pa_cons (pv 1) (pa_cons pe_int pa_nil))))))), ⟨_, rfl, _, rfl, h⟩⟩
theorem c_lower (T : Txt K mg a) : Cl P w K mg base 7 "lower" P_lower (fun vs H Q E => ∃ x y, vs = [x, y] ∧ sp__chosen K a [x, y, .int (-1)] H Q E) [] :=
  T.d_lower.cl sc_lower (fun vs H Q E h => by obtain ⟨x, y, rfl, _⟩ := h; rfl) fun f cdv A outer s H vs Q E hr h => by
    obtain ⟨x, y, rfl, h⟩ := h
    exact ⟨_, ((pss_one (ps_ret (pe_f (c__chosen T) (takes_of rfl rfl rfl rfl) hr (by decide) rfl (pa_cons (pv 0) (pa_cons (pv 1) (pa_cons (pe_un un_neg pe_int) pa_nil))))))), ⟨_, rfl, _, rfl, ⟨_, rfl, h⟩⟩⟩
def sp__law_ground : Sp := fun vs H Q _ => vs = [] ∧ ∀ t, H t = none → Q (.ref t) (upd H t (.tup (spV ground)))
theorem c__law_ground (T : Txt K mg a) : Cl P w K mg base 1 "_law_ground" P__law_ground sp__law_ground [] :=
  T.d__law_ground.cl sc__law_ground (fun vs H Q E h => by obtain ⟨rfl, _⟩ := h; rfl) fun f cdv A outer s H vs Q E hr h => by
    obtain ⟨rfl, k⟩ := h
    refine ⟨_, ((pss_one (ps_ret (pe_tup (pa_cons pe_str (pa_cons pe_int (pa_cons pe_int pa_nil))))))), ?_⟩
    exact ⟨by show 3 ≤ sizeLine; decide, fun t ht => k t ht⟩
def signs : List Nat := [97, 98, 99, 100, 101, 102, 103, 104, 105, 106, 107, 108, 109, 110, 111, 112, 113, 114, 115, 116, 117, 118, 119, 120, 121, 122, 65, 90, 48, 57, 32, 95, 45]
theorem words_of : ∀ {ys : List V}, (∀ (j : Nat) y, ys[j]? = some y → ∃ c : Nat, y = V.str (S [c]) ∧ c < 128) → ∃ L : List Nat, ys = (L.map fun c => S [c]).map V.str ∧ ∀ c ∈ L, c < 128
  | [], _ => ⟨[], rfl, fun c h => nomatch h⟩
  | y :: ys, h => by
    obtain ⟨c, rfl, h1⟩ := h 0 y rfl
    obtain ⟨L, rfl, h2⟩ := words_of fun j z hz => h (j + 1) z hz
    exact ⟨c :: L, rfl, fun x hx => by rcases List.mem_cons.mp hx with rfl | hx; exact h1; exact h2 x hx⟩
theorem nm_of {L : List Nat} (h : ∀ c ∈ L, c < 128) (l : L.length ≤ 10) : Nm (S L) := by
  refine ⟨?_, by rw [SX.S_len]; exact l⟩
  unfold PyData.strOk
  rw [Array.all_eq_true]
  intro i hi
  have : (S L).cps[i] ∈ L := by
    have e : (S L).cps = L.toArray := rfl
    simp only [e] at hi ⊢
    rw [List.getElem_toArray]
    exact List.getElem_mem _
  exact decide_eq_true (Nat.lt_trans (h _ this) (by decide))
theorem e0 : ("" : Str) = S [] := by decide +kernel
theorem join_flat : ∀ l : List (List Nat), TL.joinL [] l = l.flatten
  | [] => rfl
  | [p] => by simp [TL.joinL]
  | p :: q :: r => by
    rw [TL.joinL, List.flatten_cons, join_flat (q :: r), List.nil_append]
theorem join_ones (L : List Nat) : Txt.join "" (L.map fun c => S [c]) = S L := by
  have : (L.map fun c => S [c]) = (L.map fun c => [c]).map S := by rw [List.map_map]; rfl
  rw [this, e0, SX.join_S, join_flat]
  congr 1
  induction L with
  | nil => rfl
  | cons c r ih => simp [ih]
theorem signs_txt : ("abcdefghijklmnopqrstuvwxyzAZ09 _-" : Str) = S signs := by decide +kernel
def sp__law_word_drawn (K : PySem.W.Frag) : Sp := fun vs H Q _ => ∃ (F : Hp) (b : Addr), vs = [.ref b] ∧ Bag K b F H ∧ Same F H ∧ ∀ F' H' z, Sb b F H F' H' → Bag K b F' H' → Nm z → Q (.str z) H'
theorem c__law_word_drawn (T : Txt K mg a) : Cl P w K mg base 3 "_law_word_drawn" P__law_word_drawn (sp__law_word_drawn K) [] :=
  T.d__law_word_drawn.cl sc__law_word_drawn (fun vs H Q E h => by obtain ⟨F, b, rfl, _⟩ := h; rfl) fun f cdv A outer s H vs Q E hr h => by
    obtain ⟨F, b, rfl, hB, hf, k⟩ := h
    refine ⟨_, ((pss_cons (ps_set (i := 1) sc__law_word_drawn.nd rfl (Or.inr rfl) pe_str)
 (pss_one (ps_ret (pe_m1 PySem.F.slot_str_join PySem.F.type_str_join mt_join pe_str (pe_lc (own := [("_law_k", 2)]) (g := (gName 2)) (by rfl) sc__law_word_drawn.nd (pi_range1 (by rfl) T.n_range (pa_cons (pe_f (c__law_pick T) (takes_of rfl rfl rfl rfl) hr (by decide) rfl (pa_cons (pv 0) (pa_cons pe_int pa_nil))) pa_nil)) (blkOk_by (own := [("_law_k", 2)]) (N := N__law_word_drawn) (sc := defScope s__law_word_drawn) (by decide +kernel)) (fun _ _ _ _ _ => (pg_name (i := 2) sc__law_word_drawn.nd rfl (Or.inl rfl) (hf := .inr rfl))) (fun _ _ _ _ _ => pts_nil) (fun _ _ _ _ _ => (pe_f (c__law_choice T) takes0 hr (by decide) rfl (pa_cons (pv 0) (pa_cons (pv 1) pa_nil)))))))))), ?_⟩
    refine ⟨⟨_, rfl⟩, _, rfl, F, b, _, rfl, hB, hf, by decide, sz_of 5 (by decide) (by decide), fun H1 n s1 B1 n0 n1 => ?_⟩
    refine ⟨n, rfl, by omega, by omega, fun D hD => ?_⟩
    refine lcM (memB K b) walk_range s1.fh B1 hD (fun i _ y => ∃ c : Nat, y = V.str (S [c]) ∧ c < 128) (fun _ _ _ _ _ z => z) (by omega) (fun F' H' e1 e2 => trivial) ?_ ?_
    · rintro j y F2 H2 H'' Kt Kn hi s2 B2 ⟨rfl, rfl⟩ kk
      refine ⟨rfl, lc_yes ⟨_, rfl, _, rfl, ?_⟩⟩
      rw [signs_txt]
      refine ⟨F2, b, _, _, rfl, .inr (.inr ⟨S signs, rfl, by decide +kernel, rfl⟩), by decide +kernel, by decide +kernel, B2, s2.fh, fun H3 x i s3 B3 hx => ?_⟩
      rw [List.getElem?_map] at hx
      cases e : (S signs).cps.toList[i]? with
      | none => rw [e] at hx; cases hx
      | some c =>
        rw [e] at hx
        cases hx
        refine kk _ _ _ s3 B3 ⟨c, rfl, ?_⟩
        have : ∀ c ∈ signs, c < 128 := by decide
        exact this c (List.mem_of_getElem? e)
    · intro F2 H2 ys s2 B2 hD' hy hr'
      obtain ⟨L, rfl, hL⟩ := words_of hr'
      rw [List.length_map, List.length_map] at hy
      refine ⟨_, D, (L.map fun c => S [c]), rfl, rfl, .inl (SqL.of (s2.fh D _ hD')), ?_, ?_⟩
      · have : ((L.map fun c => S [c]).map (·.length)).sum ≤ L.length := by
          clear hD' hr' hy hL
          induction L with
          | nil => simp
          | cons c r ih => rw [List.map_cons, List.map_cons, List.sum_cons, List.length_cons]; show 1 + _ ≤ _; omega
        rw [List.length_map]
        show _ + _ * 0 ≤ _
        omega
      · rw [join_ones]
        exact k F2 H2 (S L) (seqB s1 B1 s2) B2 (nm_of hL (by omega))
end
end K26

set_option Elab.async false
set_option linter.all false
set_option maxRecDepth 100000
set_option maxHeartbeats 4000000
namespace K26
open PySem PySem.Spec PyProof.Rows L2 Ew
section
variable {P : Program} {w : World} {K : PySem.W.Frag} {mg : Str → Option Value} {base : Heap} {a : Ad}
/-- a number that is drawn for a spot -/
def Wh (n : Int) : Prop := -(5 * 10 ^ 13) ≤ n ∧ n ≤ 5 * 10 ^ 13
/-- a number that may stand in a spot -/
def Nb (n : Int) : Prop := -(10 ^ 14) ≤ n ∧ n ≤ 10 ^ 14
def sp__law_whole (K : PySem.W.Frag) : Sp := fun vs H Q _ => ∃ (F : Hp) (b : Addr), vs = [.ref b] ∧ Bag K b F H ∧ Same F H ∧ ∀ H' n, Sb b F H F H' → Bag K b F H' → Wh n → Q (.int n) H'
theorem c__law_whole (T : Txt K mg a) : Cl P w K mg base 2 "_law_whole" P__law_whole (sp__law_whole K) [] :=
  T.d__law_whole.cl sc__law_whole (fun vs H Q E h => by obtain ⟨F, b, rfl, _⟩ := h; rfl) fun f cdv A outer s H vs Q E hr h => by
    obtain ⟨F, b, rfl, hB, hf, k⟩ := h
    refine ⟨_, ((pss_cons (ps_set (i := 1) sc__law_whole.nd rfl (Or.inl rfl) (pe_f (c__law_pick T) (takes_of rfl rfl rfl rfl) hr (by decide) rfl (pa_cons (pv 0) (pa_cons pe_int pa_nil))))
 (pss_cons (ps_if (pt_cmpR op_eq (pv 1) pe_int (nomark _))
 (pss_one (ps_ret (pe_op op_sub (pe_op op_sub pe_int pe_int) (pe_f (c__law_pick T) (takes_of rfl rfl rfl rfl) hr (by decide) rfl (pa_cons (pv 0) (pa_cons pe_int pa_nil))))))
 pss_nil)
 (pss_cons (ps_if (pt_cmpR op_eq (pv 1) pe_int (nomark _))
 (pss_one (ps_ret (pe_op op_sub (pe_op op_mul (pe_f (c__law_pick T) (takes_of rfl rfl rfl rfl) hr (by decide) rfl (pa_cons (pv 0) (pa_cons (pe_op op_pow pe_int pe_int) pa_nil))) (pe_op op_pow pe_int pe_int)) (pe_op op_mul pe_int (pe_op op_pow pe_int pe_int)))))
 pss_nil)
 (pss_one (ps_ret (pe_f (c__law_pick T) (takes_of rfl rfl rfl rfl) hr (by decide) rfl (pa_cons (pv 0) (pa_cons pe_int pa_nil))))))))), ?_⟩
    refine ⟨_, rfl, F, b, _, rfl, hB, hf, by decide, sz_of 5 (by decide) (by decide), fun H1 n s1 B1 n0 n1 => ?_⟩
    refine ⟨_, rfl, rfl, _, rfl, ?_⟩
    by_cases h0 : n = 0
    · refine iteY (vint_eq h0) ⟨_, _, rfl, rfl, _, rfl, F, b, _, rfl, B1, s1.fh, by decide, sz_of 5 (by decide) (by decide), fun H2 m s2 B2 m0 m1 => ⟨_, _, rfl, rfl, ?_⟩⟩
      exact k H2 _ (seqB s1 B1 s2) B2 ⟨by omega, by omega⟩
    refine iteN (vint_ne h0) ?_
    refine ⟨_, rfl, rfl, _, rfl, ?_⟩
    by_cases h1 : n = 1
    · refine iteY (vint_eq h1) ?_
      have cm : ∀ i j : Int, -(2 ^ 64) < j → j < 2 ^ 64 → CMul i j := fun i j h1 h2 => .inr ⟨h1, h2⟩
      refine ⟨_, rfl, _, _, rfl, rfl, ⟨by decide, by decide, by decide⟩, F, b, _, rfl, B1, s1.fh, by decide, sz_of 30 (by decide) (by decide), fun H2 m s2 B2 m0 m1 => ?_⟩
      refine ⟨_, _, rfl, rfl, ⟨by decide, by decide, by decide⟩, _, _, rfl, rfl, cm _ _ (by decide) (by decide), _, _, rfl, rfl, ⟨by decide, by decide, by decide⟩, _, _, rfl, rfl, cm _ _ (by decide) (by decide), _, _, rfl, rfl, ?_⟩
      refine k H2 _ (seqB s1 B1 s2) B2 ?_
      have m1 : m < 100000000 := m1
      show Wh (m * 1000000 - 5 * 10000000000000)
      exact ⟨by omega, by omega⟩
    refine iteN (vint_ne h1) ?_
    refine ⟨_, rfl, F, b, _, rfl, B1, s1.fh, by decide, sz_of 5 (by decide) (by decide), fun H2 m s2 B2 m0 m1 => ?_⟩
    exact k H2 _ (seqB s1 B1 s2) B2 ⟨by omega, by omega⟩
/-- a spot whose parts are small -/
structure OkS (p : Spot) : Prop where
  nm : Nm p.1
  st : Nb p.2.1
  day : Nb p.2.2
def sp__law_drawn_ratio (K : PySem.W.Frag) : Sp := fun vs H Q _ => ∃ (F : Hp) (b : Addr), vs = [.ref b] ∧ Bag K b F H ∧ Same F H ∧ ∀ F' H' v r, Sb b F H F' H' → Bag K b F' H' → Rt K F' v r → Fine r → Q v H'
theorem fine_rat {n d : Int} (h0 : d ≠ 0) (h1 : Sz 200 n) (h2 : Sz 200 d) : Fine (rat n d) := ⟨(rat_sz h1 h2).1.mono (by decide), (rat_sz h1 h2).2.mono (by decide), low_rat h0⟩
theorem c__law_drawn_ratio (T : Txt K mg a) : Cl P w K mg base 3 "_law_drawn_ratio" P__law_drawn_ratio (sp__law_drawn_ratio K) [] :=
  T.d__law_drawn_ratio.cl sc__law_drawn_ratio (fun vs H Q E h => by obtain ⟨F, b, rfl, _⟩ := h; rfl) fun f cdv A outer s H vs Q E hr h => by
    obtain ⟨F, b, rfl, hB, hf, k⟩ := h
    refine ⟨_, ((pss_cons (ps_set (i := 1) sc__law_drawn_ratio.nd rfl (Or.inl rfl) (pe_f (c__law_pick T) (takes_of rfl rfl rfl rfl) hr (by decide) rfl (pa_cons (pv 0) (pa_cons pe_int pa_nil))))
 (pss_cons (ps_if (pt_cmpR op_eq (pv 1) pe_int (nomark _))
 (pss_one (ps_ret (pe_f (c__law_ratio T) (takes_of rfl rfl rfl rfl) hr (by decide) rfl (pa_cons (pe_op op_add (pe_op op_mulW (pe_op op_sub (pe_f (c__law_pick T) (takes_of rfl rfl rfl rfl) hr (by decide) rfl (pa_cons (pv 0) (pa_cons (pe_op op_pow pe_int pe_int) pa_nil))) (pe_op op_mul pe_int (pe_op op_pow pe_int pe_int))) (pe_op op_pow pe_int pe_int)) pe_int) (pa_cons (pe_op op_add pe_int (pe_f (c__law_pick T) (takes_of rfl rfl rfl rfl) hr (by decide) rfl (pa_cons (pv 0) (pa_cons (pe_op op_pow pe_int pe_int) pa_nil)))) pa_nil)))))
 pss_nil)
 (pss_cons (ps_if (pt_cmpR op_lt (pv 1) pe_int (nomark _))
 (pss_one (ps_ret (pe_tup (pa_cons (pe_op op_sub (pe_f (c__law_pick T) (takes_of rfl rfl rfl rfl) hr (by decide) rfl (pa_cons (pv 0) (pa_cons pe_int pa_nil))) pe_int) (pa_cons pe_int pa_nil)))))
 pss_nil)
 (pss_one (ps_ret (pe_f (c__law_ratio T) (takes_of rfl rfl rfl rfl) hr (by decide) rfl (pa_cons (pe_op op_sub (pe_f (c__law_pick T) (takes_of rfl rfl rfl rfl) hr (by decide) rfl (pa_cons (pv 0) (pa_cons pe_int pa_nil))) pe_int) (pa_cons (pe_op op_add pe_int (pe_f (c__law_pick T) (takes_of rfl rfl rfl rfl) hr (by decide) rfl (pa_cons (pv 0) (pa_cons pe_int pa_nil)))) pa_nil))))))))), ?_⟩
    have cm : ∀ i j : Int, -(2 ^ 64) < j → j < 2 ^ 64 → CMul i j := fun i j h1 h2 => .inr ⟨h1, h2⟩
    refine ⟨_, rfl, F, b, _, rfl, hB, hf, by decide, sz_of 5 (by decide) (by decide), fun H1 n s1 B1 n0 n1 => ?_⟩
    refine ⟨_, rfl, rfl, _, rfl, ?_⟩
    by_cases h0 : n = 0
    · refine iteY (vint_eq h0) ?_
      refine ⟨_, rfl, _, _, rfl, rfl, ⟨by decide, by decide, by decide⟩, F, b, _, rfl, B1, s1.fh, by decide, sz_of 30 (by decide) (by decide), fun H2 m s2 B2 m0 m1 => ?_⟩
      have m1 : m < 100000000 := m1
      have zz : Sz 2000 (m - 5 * 10000000) := sz_of 40 (by omega) (by decide)
      refine ⟨_, _, rfl, rfl, ⟨by decide, by decide, by decide⟩, _, _, rfl, rfl, cm _ _ (by decide) (by decide), _, _, rfl, rfl, _, _, rfl, rfl, ⟨by decide, by decide, by decide⟩, _, _, rfl, rfl, mulw zz (sz_of 80 (by decide) (by decide)), _, _, rfl, rfl, ?_⟩
      refine ⟨_, rfl, _, _, rfl, rfl, ⟨by decide, by decide, by decide⟩, F, b, _, rfl, B2, s2.fh, by decide, sz_of 30 (by decide) (by decide), fun H3 l s3 B3 l0 l1 => ⟨_, _, rfl, rfl, ?_⟩⟩
      have l1 : l < 100000000 := l1
      have d0 : (1 + l : Int) ≠ 0 := by omega
      refine ⟨F, _, _, rfl, d0, sz_of 40 (by omega) (by decide), s3.fh, fun F' H' v st hv => ?_⟩
      have sq := pureB (seqB (seqB s1 B1 s2) B2 s3) B3 st
      refine k F' H' v _ sq.1 sq.2 hv (fine_rat d0 ?_ (sz_of 40 (by omega) (by decide)))
      show Sz 200 ((m - 5 * 10000000) * 10000000000000000000000 + 1)
      exact sz_of 120 (by omega) (by decide)
    refine iteN (vint_ne h0) ?_
    refine ⟨_, rfl, _, _, rfl, rfl, _, rfl, ?_⟩
    refine ite2 (fun _ => ?_) fun _ => ?_
    · refine ⟨_, rfl, F, b, _, rfl, B1, s1.fh, by decide, sz_of 5 (by decide) (by decide), fun H2 m s2 B2 m0 m1 => ?_⟩
      refine ⟨_, _, rfl, rfl, by show 2 ≤ sizeLine; decide, fun t ht => ?_⟩
      have sq := newB (o := .tup [.int (m - 4), .int 1]) (seqB s1 B1 s2) B2 ht
      refine k _ _ _ (m - 4, 1) sq.1 sq.2 ⟨t, rfl, sq_new⟩ ⟨sz_of 5 (by show (m - 4).natAbs < 32; omega) (by decide), sz_of 5 (by show (1 : Int).natAbs < 32; decide) (by decide), Int.le_refl 1, Nat.gcd_one_right _⟩
    · refine ⟨_, rfl, F, b, _, rfl, B1, s1.fh, by decide, sz_of 8 (by decide) (by decide), fun H2 m s2 B2 m0 m1 => ?_⟩
      refine ⟨_, _, rfl, rfl, _, rfl, F, b, _, rfl, B2, s2.fh, by decide, sz_of 5 (by decide) (by decide), fun H3 l s3 B3 l0 l1 => ⟨_, _, rfl, rfl, ?_⟩⟩
      have d0 : (1 + l : Int) ≠ 0 := by omega
      refine ⟨F, _, _, rfl, d0, sz_of 8 (by omega) (by decide), s3.fh, fun F' H' v st hv => ?_⟩
      have sq := pureB (seqB (seqB s1 B1 s2) B2 s3) B3 st
      exact k F' H' v _ sq.1 sq.2 hv (fine_rat d0 (sz_of 8 (by omega) (by decide)) (sz_of 8 (by omega) (by decide)))
end
end K26

set_option Elab.async false
set_option linter.all false
set_option maxRecDepth 100000
set_option maxHeartbeats 4000000
namespace K26
open PySem PySem.Spec PyProof.Rows L2 Ew
section
variable {K : PySem.W.Frag} {b p : Addr} {F H F' H' : Hp} {o : HO}
theorem rawB (s : Sb b F H F' H') (B : Bag K b F' H') (hp : H' p = none) : Sb b F H F' (upd H' p o) ∧ Bag K b F' (upd H' p o) := by
  have nb : ¬ p = b := fun z => (memB K b).there B z hp
  exact ⟨s.raw hp (s.fresh (fun x z => (memB K b).there B z) hp), (memB K b).put B nb⟩
theorem mutB (s : Sb b F H F' H') (B : Bag K b F' H') (hf : F' p = none) (h0 : H p = none) (nb : p ≠ b) : Sb b F H F' (upd H' p o) ∧ Bag K b F' (upd H' p o) := ⟨s.mut hf h0, (memB K b).put B nb⟩
theorem freezeB (s : Sb b F H F' H') (B : Bag K b F' H') (hf : F' p = none) (h0 : H p = none) (nb : p ≠ b) (e : H' p = some o) : Sb b F H (upd F' p o) H' ∧ Bag K b (upd F' p o) H' := by
  refine ⟨s.freeze hf h0 e, (memB K b).grow B (same_new hf) fun x z => ?_⟩
  rw [upd_ne (fun q => nb (by rw [← q]; exact z))]
  exact (memB K b).off B z
end
/-- as many as there are places -/
theorem pigeons {α : Type} [DecidableEq α] {f : Nat → α} : ∀ (n : Nat) (l : List α), (∀ i, i < n → f i ∈ l) → (∀ i j, i < n → j < n → f i = f j → i = j) → n ≤ l.length
  | 0, _, _, _ => Nat.zero_le _
  | n + 1, l, h, inj => by
    have m := h n (Nat.lt_succ_self n)
    have := pigeons n (l.erase (f n)) (fun i hi => (List.mem_erase_of_ne fun z => by have := inj i n (by omega) (by omega) z; omega).mpr (h i (by omega))) fun i j hi hj => inj i j (by omega) (by omega)
    rw [List.length_erase_of_mem m] at this
    have := List.length_pos_of_mem m
    omega
/-- things that are spots, one after the other -/
def Ss (F : Hp) (xs : List V) (ps : List Spot) : Prop := xs.length = ps.length ∧ ∀ (i : Nat) p, ps[i]? = some p → ∃ x, xs[i]? = some x ∧ Spt F x p
theorem Ss.up {F F' : Hp} {xs : List V} {ps : List Spot} (h : Ss F xs ps) (e : Same F F') : Ss F' xs ps := ⟨h.1, fun i p hp => by obtain ⟨x, h1, h2⟩ := h.2 i p hp; exact ⟨x, h1, h2.up e⟩⟩
theorem Ss.one {F : Hp} {x : V} {p : Spot} (h : Spt F x p) : Ss F [x] [p] := ⟨rfl, fun i q hq => by
  cases i with
  | zero => cases hq; exact ⟨x, rfl, h⟩
  | succ i => simp at hq⟩
theorem Ss.snoc {F : Hp} {xs : List V} {ps : List Spot} {x : V} {p : Spot} (h : Ss F xs ps) (k : Spt F x p) : Ss F (xs ++ [x]) (ps ++ [p]) := by
  refine ⟨by rw [List.length_append, List.length_append, h.1]; rfl, fun i q hq => ?_⟩
  rcases Nat.lt_or_ge i ps.length with hi | hi
  · rw [List.getElem?_append_left hi] at hq
    obtain ⟨y, h1, h2⟩ := h.2 i q hq
    exact ⟨y, by rw [List.getElem?_append_left (by rw [h.1]; exact hi)]; exact h1, h2⟩
  · rw [List.getElem?_append_right hi] at hq
    have e0 : i - ps.length = 0 := by
      rcases Nat.eq_zero_or_pos (i - ps.length) with z | z
      · exact z
      · rw [List.getElem?_eq_none (by rw [List.length_singleton]; exact z)] at hq; cases hq
    rw [e0] at hq
    cases hq
    exact ⟨x, by rw [List.getElem?_append_right (by rw [h.1]; exact hi), h.1, e0]; rfl, k⟩
theorem Ss.dp {K : PySem.W.Frag} {F : Hp} : ∀ {xs : List V} {ps : List Spot}, Ss F xs ps → DpAll K F xs (ps.map spD)
  | [], [], _ => .nil
  | [], p :: ps, h => by have := h.1; simp at this
  | x :: xs, [], h => by have := h.1; simp at this
  | x :: xs, p :: ps, h => by
    obtain ⟨y, e, hy⟩ := h.2 0 p rfl
    cases e
    exact .cons hy.dp (Ss.dp ⟨by simpa using h.1, fun i q hq => h.2 (i + 1) q hq⟩)
theorem eqv_any (p : Spot) : ∀ ps : List Spot, ((ps.map spD).any fun z => PyData.eqv z (spD p)) = decide (p ∈ ps)
  | [] => by simp
  | q :: ps => by
    rw [List.map_cons, List.any_cons, eqv_any p ps, eqv_sp]
    by_cases h : q = p
    · subst h; simp
    · by_cases h2 : p ∈ ps <;> simp [h, h2, Ne.symm h]
theorem fl_spots {ps : List Spot} (h : ∀ p ∈ ps, OkS p) : Fl 2 (.list (ps.map spD)) := Fl.lst (FlA.all fun d hd => by
  obtain ⟨p, hp, rfl⟩ := List.mem_map.mp hd
  exact fl_sp (h p hp).nm.1)
/-- spot (not) in spots -/
theorem not_in {K : PySem.W.Frag} {H : Hp} {l : Addr} {xs : List V} {ps : List Spot} {v : V} {p : Spot} {Q : VK} (hl : SqL K H l xs) (h : Ss H xs ps) (ok : ∀ p ∈ ps, OkS p) (hv : Spt H v p) (sv : PyData.strOk p.1 = true) (k : Q (.bl (!decide (p ∈ ps))) H) : rNotInD K v (.ref l) H Q := by
  refine ⟨spD p, ps.map spD, hv.dp, .lst hl h.dp, (fl_sp sv).sh (by decide), (fl_spots ok).sh (by decide), ?_⟩
  rw [eqv_any]
  exact k
theorem gn {i : Nat} {x : V} {σ : L2.St} {H : Hp} {R : L2.St → Hp → Prop} (h : R (σ.set i (some x)) H) : gName i x σ H R := h
theorem atI_last {α : Type} {xs : List α} {x : α} (h : xs[xs.length - 1]? = some x) : atI xs (-1) = some x := by
  have l : 0 < xs.length := by have := (List.getElem?_eq_some_iff.mp h).1; omega
  unfold atI
  unfold ixN
  rw [if_neg (by decide), if_pos (by omega)]
  have e : ((-1 : Int) + (xs.length : Int)).toNat = xs.length - 1 := by omega
  rw [e]
  exact h
section
variable {P : Program} {w : World} {K : PySem.W.Frag} {mg : Str → Option Value} {base : Heap} {a : Ad}
def sp__law_some_spots (K : PySem.W.Frag) : Sp := fun vs H Q _ => ∃ (F : Hp) (b : Addr) (many : Int), vs = [.ref b, .int many] ∧ Bag K b F H ∧ Same F H ∧ 0 ≤ many ∧ many < 10 ∧
  ∀ F' H' l xs ps, Sb b F H F' H' → Bag K b F' H' → F' l = some (.lst xs) → Ss F' xs ps → ps.Nodup → ps[0]? = some ground → ps.length ≤ 10 → (∀ p ∈ ps, OkS p) → Q (.ref l) H'
theorem c__law_some_spots (T : Txt K mg a) : Cl P w K mg base 4 "_law_some_spots" P__law_some_spots (sp__law_some_spots K) [] :=
  T.d__law_some_spots.cl sc__law_some_spots (fun vs H Q E h => by obtain ⟨F, b, m, rfl, _⟩ := h; rfl) fun f cdv A outer s H vs Q E hr h => by
    obtain ⟨F, b, many, rfl, hB, hf, m0, m1, k⟩ := h
    refine ⟨_, ((pss_cons (ps_set (i := 2) sc__law_some_spots.nd rfl (Or.inl rfl) (pe_lst (pa_cons (pe_f0 (c__law_ground T) hr (by decide) rfl) pa_nil)))
 (pss_cons (ps_for (passes_of rfl) rfl (pi_range1 (by rfl) T.n_range (pa_cons (pv 1) pa_nil)) (pg_name (i := 3) sc__law_some_spots.nd rfl (Or.inl rfl))
 (pss_cons (ps_set (i := 4) sc__law_some_spots.nd rfl (Or.inl rfl) (pe_f (c__law_word_drawn T) (takes_of rfl rfl rfl rfl) hr (by decide) rfl (pa_cons (pv 0) pa_nil)))
 (pss_cons (ps_set (i := 5) sc__law_some_spots.nd rfl (Or.inl rfl) (pe_f (c__law_pick T) (takes_of rfl rfl rfl rfl) hr (by decide) rfl (pa_cons (pv 0) (pa_cons pe_int pa_nil))))
 (pss_cons (ps_if (pt_cmpR op_eq (pv 5) pe_int (nomark _))
 (pss_one (ps_set (i := 4) sc__law_some_spots.nd rfl (Or.inl rfl) pe_str))
 pss_nil)
 (pss_cons (ps_if (PW.pt (pw_or (pt_cmpR op_eq (pv 5) pe_int (nomark _)) (pw_or1 (pt_cmpR op_eq (pv 5) pe_int (nomark _)))))
 (pss_one (ps_set (i := 4) sc__law_some_spots.nd rfl (Or.inl rfl) (pe_ix ix_tup (pe_ix ix_list (pv 2) (pe_un un_neg pe_int) (fun _ _ => rfl)) pe_int (fun _ _ => rfl))))
 pss_nil)
 (pss_cons (ps_set (i := 6) sc__law_some_spots.nd rfl (Or.inl rfl) (pe_tup (pa_cons (pv 4) (pa_cons (pe_f (c__law_whole T) (takes_of rfl rfl rfl rfl) hr (by decide) rfl (pa_cons (pv 0) pa_nil)) (pa_cons (pe_f (c__law_whole T) (takes_of rfl rfl rfl rfl) hr (by decide) rfl (pa_cons (pv 0) pa_nil)) pa_nil)))))
 (pss_cons (ps_for (passes_of rfl) rfl (pi_range1 (by rfl) T.n_range (pa_cons (pe_op op_add (pv 1) pe_int) pa_nil)) (pg_name (i := 7) sc__law_some_spots.nd rfl (Or.inl rfl))
 (pss_cons (ps_if (pt_cmpR (op_notInD (units5 hr)) (pv 6) (pv 2) (by rfl))
 (pss_one ps_break)
 pss_nil)
 (pss_one (ps_set (i := 6) sc__law_some_spots.nd rfl (Or.inl rfl) (pe_tup (pa_cons (pv 4) (pa_cons (pe_ix ix_tup (pv 6) pe_int (fun _ _ => rfl)) (pa_cons (pe_op op_add (pe_ix ix_tup (pv 6) pe_int (fun _ _ => rfl)) pe_int) pa_nil))))))))
 (pss_one (ps_expr (pe_bm PySem.F.plainAttrs_list PySem.F.slot_list_append PySem.F.type_list_append mt_append (pv 2) (pa_cons (pv 6) pa_nil)))))))))))
 (pss_one (ps_ret (pv 2)))))), ?_⟩
    refine ⟨rfl, fun t ht => ⟨by show 1 ≤ sizeLine; decide, fun l hl => ?_⟩⟩
    obtain ⟨s1, B1⟩ := newB (o := .tup (spV ground)) (Stm.refl hf) hB ht
    have sg : Spt (upd F t (.tup (spV ground))) (.ref t) ground := ⟨t, rfl, upd_same⟩
    have nlt : l ≠ t := fun z => by rw [z, upd_same] at hl; cases hl
    have h0l : H l = none := by rwa [upd_ne nlt] at hl
    have f1l : (upd F t (.tup (spV ground))) l = none := s1.fh.free hl
    have nlb : l ≠ b := fun z => (memB K b).there hB z h0l
    obtain ⟨s2, B2⟩ := rawB (o := .lst [.ref t]) s1 B1 hl
    refine ⟨_, rfl, many, rfl, by omega, by omega, ?_⟩
    refine for_it walk_range (fun j σ' H' => ∃ F' xs ps c3 c4 c5 c6 c7, σ' = [some (.ref b), some (.int many), some (.ref l), c3, c4, c5, c6, c7] ∧ Sb b F H F' H' ∧ Bag K b F' H' ∧ F' l = none ∧ H' l = some (.lst xs) ∧ Ss F' xs ps ∧ ps.Nodup ∧ ps[0]? = some ground ∧ ps.length = j + 1 ∧ ∀ p ∈ ps, OkS p) ?_ (fun _ _ _ _ _ => trivial) ?_ ?_
    · exact ⟨_, [.ref t], [ground], none, none, none, none, none, rfl, s2, B2, f1l, upd_same, Ss.one sg, by simp, rfl, rfl, fun p hp => by rw [List.mem_singleton.mp hp]; exact ⟨⟨by decide +kernel, by decide +kernel⟩, ⟨by decide, by decide⟩, ⟨by decide, by decide⟩⟩⟩
    · rintro j _ _ H3 _ hj ⟨F3, xs, ps, c3, c4, c5, c6, c7, rfl, s3, B3, f3, h3, ss, nd, hd, pl, ok⟩ ⟨rfl, rfl⟩
      have nlb' : (l : Addr) ≠ b := nlb
      refine ⟨_, rfl, F3, b, rfl, B3, s3.fh, fun F4 H4 z s4 B4 nm => ?_⟩
      refine ⟨_, rfl, F4, b, _, rfl, B4, s4.fh, by decide, sz_of 5 (by decide) (by decide), fun H5 n s5 B5 n0 n1 => ?_⟩
      have t5 := seqB (seqB s3 B3 s4) B4 s5
      have h5 : H5 l = some (.lst xs) := s5.hh l _ nlb (s4.hh l _ nlb h3)
      have f5 : F4 l = none := s4.nw l f3 (by rw [h3]; exact fun z => nomatch z)
      have ss5 := ss.up s4.ff
      refine gn ?_
      dsimp only
      refine seq_with (fun σ' H' => ∃ z, σ' = [some (.ref b), some (.int many), some (.ref l), some (.int (0 + (j : Int))), some (.str z), some (.int n), c6, c7] ∧ H5 = H' ∧ Nm z) (fun u hu => ?_) ?_
      · refine ⟨_, rfl, rfl, _, rfl, ?_⟩
        by_cases q : n = 0
        · exact iteY (vint_eq q) (hu _ _ ⟨_, rfl, rfl, by decide +kernel, by decide +kernel⟩)
        · exact iteN (vint_ne q) (hu _ _ ⟨_, rfl, rfl, nm⟩)
      rintro _ _ ⟨z1, rfl, rfl, nm1⟩
      refine seq_with (fun σ' H' => ∃ z, σ' = [some (.ref b), some (.int many), some (.ref l), some (.int (0 + (j : Int))), some (.str z), some (.int n), c6, c7] ∧ H5 = H' ∧ Nm z) (fun u hu => ?_) ?_
      · have last : ∀ {Dn : Ends}, (∀ z, Nm z → Dn.nx [some (.ref b), some (.int many), some (.ref l), some (.int (0 + (j : Int))), some (.str z), some (.int n), c6, c7] H5) →
            tAsg (tOp (rIxT K) (tOp (rIxL K) (tVar 2) (tUn (rU fun i => V.int (-i)) (tC (V.int 1)))) (tC (V.int 0))) (gName 4) Dn [some (.ref b), some (.int many), some (.ref l), some (.int (0 + (j : Int))), some (.str z1), some (.int n), c6, c7] H5 := by
          intro Dn kk
          obtain ⟨pl', hpl⟩ : ∃ p, ps[ps.length - 1]? = some p := ⟨_, List.getElem?_eq_getElem (by omega)⟩
          obtain ⟨x, hx, q, rfl, hq⟩ := ss5.2 _ _ hpl
          refine ⟨_, rfl, _, rfl, l, xs, _, _, rfl, rfl, SqL.of h5, atI_last (by rw [ss5.1]; exact hx), q, _, _, _, rfl, rfl, SqT.of (s5.fh _ _ hq), rfl, ?_⟩
          exact kk _ (ok pl' (List.mem_of_getElem? hpl)).nm
        refine ⟨_, rfl, rfl, _, rfl, ?_⟩
        by_cases q : n = 1
        · exact iteY (vint_eq q) (last fun z hz => hu _ _ ⟨_, rfl, rfl, hz⟩)
        · refine iteN (vint_ne q) ⟨_, rfl, rfl, _, rfl, ?_⟩
          by_cases q2 : n = 2
          · exact iteY (vint_eq q2) (last fun z hz => hu _ _ ⟨_, rfl, rfl, hz⟩)
          · exact iteN (vint_ne q2) (hu _ _ ⟨_, rfl, rfl, nm1⟩)
      rintro _ _ ⟨z2, rfl, rfl, nm2⟩
      refine ⟨_, rfl, _, rfl, F4, b, rfl, B5, s5.fh, fun H6 d1 s6 B6 w1 => ⟨_, rfl, F4, b, rfl, B6, s6.fh, fun H7 d2 s7 B7 w2 => ⟨by show 3 ≤ sizeLine; decide, fun t ht => ?_⟩⟩⟩
      have t7 := seqB (seqB t5 B5 s6) B6 s7
      have h7 : H7 l = some (.lst xs) := s7.hh l _ nlb (s6.hh l _ nlb h5)
      obtain ⟨t8, B8⟩ := newB (o := .tup (spV (z2, d1, d2))) t7 B7 ht
      have nlt8 : l ≠ t := fun z => by rw [z, ht] at h7; cases h7
      have f8 : (upd F4 t (.tup (spV (z2, d1, d2)))) l = none := by rw [upd_ne nlt8]; exact f5
      have h8 : (upd H7 t (.tup (spV (z2, d1, d2)))) l = some (.lst xs) := by rw [upd_ne nlt8]; exact h7
      have ss8 : Ss (upd F4 t (.tup (spV (z2, d1, d2)))) xs ps := ss5.up (same_new (s7.fh.free ht))
      have sp8 : Spt (upd F4 t (.tup (spV (z2, d1, d2)))) (.ref t) (z2, d1, d2) := ⟨t, rfl, upd_same⟩
      generalize upd F4 t (.tup (spV (z2, d1, d2))) = F8 at t8 B8 f8 ss8 sp8
      have eH : ∃ H8, H8 = upd H7 t (.tup [.str z2, .int d1, .int d2]) := ⟨_, rfl⟩
      obtain ⟨H8, eH8⟩ := eH
      have eH9 : upd H7 t (.tup (spV (z2, d1, d2))) = H8 := eH8.symm
      rw [eH9] at t8 B8 h8
      rw [← eH8]
      refine gn ?_
      dsimp only
      refine seq_with (fun σ' H' => ∃ F' x c7 d, σ' = [some (.ref b), some (.int many), some (.ref l), some (.int (0 + (j : Int))), some (.str z2), some (.int n), some x, c7] ∧ Sb b F H F' H' ∧ Bag K b F' H' ∧ F' l = none ∧ H' l = some (.lst xs) ∧ Ss F' xs ps ∧ Spt F' x (z2, d1, d) ∧ (z2, d1, d) ∉ ps ∧ OkS (z2, d1, d)) (fun u hu => ?_) ?_
      · refine ⟨_, rfl, _, _, rfl, rfl, many + 1, rfl, by omega, by omega, ?_⟩
        refine for_it walk_range (fun i σ' H' => ∃ F' x c7, σ' = [some (.ref b), some (.int many), some (.ref l), some (.int (0 + (j : Int))), some (.str z2), some (.int n), some x, c7] ∧ Sb b F H F' H' ∧ Bag K b F' H' ∧ F' l = none ∧ H' l = some (.lst xs) ∧ Ss F' xs ps ∧ Spt F' x (z2, d1, d2 + (i : Int)) ∧ ∀ i', i' < i → (z2, d1, d2 + (i' : Int)) ∈ ps) ?_ (fun _ _ _ _ _ => trivial) ?_ ?_
        · exact ⟨F8, _, _, rfl, t8, B8, f8, h8, ss8, by rw [show d2 + ((0 : Nat) : Int) = d2 by omega]; exact sp8, fun _ z => by omega⟩
        · rintro i y _ H9o H9 hi ⟨F9, x, c7', rfl, t9, B9, f9, h9, ss9, sp9, all⟩ ⟨eH, rfl⟩
          subst eH
          refine ⟨_, rfl, _, rfl, not_in (SqL.of h9) (ss9.up t9.fh) ok (sp9.up t9.fh) nm2.1 ⟨_, rfl, ?_⟩⟩
          by_cases q : (z2, d1, d2 + (i : Int)) ∈ ps
          · rw [decide_eq_true q]
            obtain ⟨qx, rfl, hq⟩ := sp9
            have hq9 := SqT.of (K := K) (t9.fh _ _ hq)
            refine iteF ⟨_, rfl, _, rfl, qx, _, _, _, rfl, rfl, hq9, rfl, _, rfl, qx, _, _, _, rfl, rfl, hq9, rfl, _, _, rfl, rfl, by show 3 ≤ sizeLine; decide, fun t2 ht2 => ?_⟩
            have n2 : l ≠ t2 := fun z => by rw [z, ht2] at h9; cases h9
            obtain ⟨ta, Ba⟩ := newB (o := .tup [.str z2, .int d1, .int (d2 + (i : Int) + 1)]) t9 B9 ht2
            refine ⟨_, .ref t2, _, rfl, ta, Ba, by rw [upd_ne n2]; exact f9, by rw [upd_ne n2]; exact h9, ss9.up (same_new (t9.fh.free ht2)), ⟨t2, rfl, ?_⟩, fun i' hi' => ?_⟩
            · rw [upd_same]
              show some (HO.tup [.str z2, .int d1, .int (d2 + (i : Int) + 1)]) = some (HO.tup [.str z2, .int d1, .int (d2 + ((i + 1 : Nat) : Int))])
              rw [show d2 + ((i + 1 : Nat) : Int) = d2 + (i : Int) + 1 by omega]
            · by_cases e : i' = i
              · rw [e]
                exact q
              · exact all i' (by omega)
          · rw [decide_eq_false q]
            have hi' : i < (many + 1).toNat := hi
            refine iteT (hu _ _ ⟨F9, x, _, _, rfl, t9, B9, f9, h9, ss9, sp9, q, nm2, ?_, ?_⟩)
            · have w1' : -(5 * 10 ^ 13) ≤ d1 ∧ d1 ≤ 5 * 10 ^ 13 := w1
              exact ⟨by show -(10 ^ 14) ≤ d1; omega, by show d1 ≤ 10 ^ 14; omega⟩
            · have w2' : -(5 * 10 ^ 13) ≤ d2 ∧ d2 ≤ 5 * 10 ^ 13 := w2
              exact ⟨by show -(10 ^ 14) ≤ d2 + (i : Int); omega, by show d2 + (i : Int) ≤ 10 ^ 14; omega⟩
        · rintro _ H9 ⟨F9, x, c7', rfl, t9, B9, f9, h9, ss9, sp9, all⟩
          have := pigeons (f := fun i : Nat => ((z2, d1, d2 + (i : Int)) : Spot)) _ ps all fun i j _ _ e => by
            have := (Prod.mk.inj (Prod.mk.inj e).2).2
            omega
          have hj' : j < many.toNat := hj
          omega
      · rintro _ H9 ⟨F9, x, c7', d, rfl, t9, B9, f9, h9, ss9, sp9, nin, okp⟩
        have hj' : j < many.toNat := hj
        refine ⟨_, rfl, .inl ⟨rfl, xs, SqL.of h9⟩, _, rfl, l, xs, _, rfl, rfl, h9, by rw [ss9.1, sizeLine_eq]; omega, ?_⟩
        obtain ⟨ta, Ba⟩ := mutB (o := .lst (xs ++ [x])) t9 B9 f9 h0l nlb
        refine ⟨F9, xs ++ [x], ps ++ [(z2, d1, d)], _, _, _, _, _, rfl, ta, Ba, f9, upd_same, ss9.snoc sp9, ?_, ?_, by rw [List.length_append, pl]; rfl, fun p hp => ?_⟩
        · exact nd_snoc nd nin
        · rw [List.getElem?_append_left (by omega)]
          exact hd
        · rcases List.mem_append.mp hp with hp | hp
          · exact ok p hp
          · rw [List.mem_singleton.mp hp]
            exact okp
    · rintro _ H3 ⟨F3, xs, ps, c3, c4, c5, c6, c7, rfl, s3, B3, f3, h3, ss, nd, hd, pl, ok⟩
      obtain ⟨s4, B4⟩ := freezeB s3 B3 f3 h0l nlb h3
      exact ⟨_, rfl, k _ _ l xs ps s4 B4 upd_same (ss.up (same_new f3)) nd hd (by omega) ok⟩
end
end K26

set_option Elab.async false
set_option linter.all false
set_option maxRecDepth 100000
set_option maxHeartbeats 4000000
namespace K26
open PySem PySem.Spec PyProof.Rows L2 Ew
section
variable {P : Program} {w : World} {K : PySem.W.Frag} {mg : Str → Option Value} {base : Heap} {a : Ad}
/-- a spot that is drawn to be a stranger -/
structure Strange (p : Spot) : Prop where
  nm : Nm p.1
  st : -(5 * 10 ^ 13) ≤ p.2.1 ∧ p.2.1 ≤ 10 ^ 14
  day : Wh p.2.2
theorem Strange.ok {p : Spot} (h : Strange p) : OkS p := ⟨h.nm, ⟨by have := h.st; omega, h.st.2⟩, by have h' : -(5 * 10 ^ 13) ≤ p.2.2 ∧ p.2.2 ≤ 5 * 10 ^ 13 := h.day; exact ⟨by omega, by omega⟩⟩
def sp__law_stranger (K : PySem.W.Frag) : Sp := fun vs H Q _ => ∃ (F : Hp) (b l : Addr) (xs : List V) (ps : List Spot), vs = [.ref b, .ref l] ∧ Bag K b F H ∧ Same F H ∧ SqL K F l xs ∧ Ss F xs ps ∧ ps ≠ [] ∧ ps.length ≤ 11 ∧ (∀ p ∈ ps, OkS p) ∧
  ∀ F' H' x p, Sb b F H F' H' → Bag K b F' H' → Spt F' x p → p ∉ ps → Strange p → Q x H'
theorem c__law_stranger (T : Txt K mg a) : Cl P w K mg base 3 "_law_stranger" P__law_stranger (sp__law_stranger K) [] :=
  T.d__law_stranger.cl sc__law_stranger (fun vs H Q E h => by obtain ⟨F, b, l, xs, ps, rfl, _⟩ := h; rfl) fun f cdv A outer s H vs Q E hr h => by
    obtain ⟨F, b, l, xs, ps, rfl, hB, hf, hl, ss, ne, len, ok, k⟩ := h
    refine ⟨_, ((pss_cons (ps_set (i := 2) sc__law_stranger.nd rfl (Or.inl rfl) (pe_tup (pa_cons (pe_ix ix_tup (pe_f (c__law_choice T) (takes_of rfl rfl rfl rfl) hr (by decide) rfl (pa_cons (pv 0) (pa_cons (pv 1) pa_nil))) pe_int (fun _ _ => rfl)) (pa_cons (pe_f (c__law_whole T) (takes_of rfl rfl rfl rfl) hr (by decide) rfl (pa_cons (pv 0) pa_nil)) (pa_cons (pe_f (c__law_whole T) (takes_of rfl rfl rfl rfl) hr (by decide) rfl (pa_cons (pv 0) pa_nil)) pa_nil)))))
 (pss_cons (ps_for (passes_of rfl) rfl (pi_range1 (by rfl) T.n_range (pa_cons (pe_op op_add (pe_callB call_len_seq (by rfl) T.n_len (by decide +kernel) (pa_cons (pv 1) pa_nil)) pe_int) pa_nil)) (pg_name (i := 3) sc__law_stranger.nd rfl (Or.inl rfl))
 (pss_cons (ps_if (pt_cmpR (op_notInD (units5 hr)) (pv 2) (pv 1) (by rfl))
 (pss_one ps_break)
 pss_nil)
 (pss_one (ps_set (i := 2) sc__law_stranger.nd rfl (Or.inl rfl) (pe_tup (pa_cons (pe_ix ix_tup (pv 2) pe_int (fun _ _ => rfl)) (pa_cons (pe_op op_add (pe_ix ix_tup (pv 2) pe_int (fun _ _ => rfl)) pe_int) (pa_cons (pe_ix ix_tup (pv 2) pe_int (fun _ _ => rfl)) pa_nil))))))))
 (pss_one (ps_ret (pv 2)))))), ?_⟩
    have xl : xs ≠ [] := fun z => by have := ss.1; rw [z] at this; exact ne (List.length_eq_zero_iff.mp this.symm)
    refine ⟨_, rfl, _, rfl, F, b, _, xs, rfl, .inl ⟨l, rfl, hl⟩, xl, by rw [ss.1]; omega, hB, hf, fun H1 x i s1 B1 hx => ?_⟩
    obtain ⟨p0, hp0⟩ : ∃ p, ps[i]? = some p := ⟨_, List.getElem?_eq_getElem (by rw [← ss.1]; exact (List.getElem?_eq_some_iff.mp hx).1)⟩
    obtain ⟨x', e, q, rfl, hq⟩ := ss.2 i p0 hp0
    rw [hx] at e
    cases e
    have ok0 := ok p0 (List.mem_of_getElem? hp0)
    refine ⟨q, _, _, _, rfl, rfl, SqT.of (s1.fh _ _ hq), rfl, ?_⟩
    refine ⟨_, rfl, F, b, rfl, B1, s1.fh, fun H2 d1 s2 B2 w1 => ⟨_, rfl, F, b, rfl, B2, s2.fh, fun H3 d2 s3 B3 w2 => ⟨by show 3 ≤ sizeLine; decide, fun t ht => ?_⟩⟩⟩
    obtain ⟨t4, B4⟩ := newB (o := .tup (spV (p0.1, d1, d2))) (seqB (seqB s1 B1 s2) B2 s3) B3 ht
    refine gn ?_
    dsimp only
    refine seq_with (fun σ' H' => ∃ F' x c3 d, σ' = [some (.ref b), some (.ref l), some x, c3] ∧ Sb b F H F' H' ∧ Bag K b F' H' ∧ Spt F' x (p0.1, d, d2) ∧ (p0.1, d, d2) ∉ ps ∧ d1 ≤ d ∧ d ≤ d1 + 12) (fun u hu => ?_) ?_
    · refine ⟨_, rfl, l, xs, rfl, .inl (upL t4.fh (upL t4.ff hl)), _, _, rfl, rfl, (xs.length : Int) + 1, rfl, by omega, by rw [ss.1]; omega, ?_⟩
      refine for_it walk_range (fun i σ' H' => ∃ F' x c3, σ' = [some (.ref b), some (.ref l), some x, c3] ∧ Sb b F H F' H' ∧ Bag K b F' H' ∧ Spt F' x (p0.1, d1 + (i : Int), d2) ∧ ∀ i', i' < i → (p0.1, d1 + (i' : Int), d2) ∈ ps) ?_ (fun _ _ _ _ _ => trivial) ?_ ?_
      · exact ⟨_, _, _, rfl, t4, B4, ⟨t, rfl, by rw [show d1 + ((0 : Nat) : Int) = d1 by omega]; exact upd_same⟩, fun _ z => by omega⟩
      · rintro i y _ H9o H9 hi ⟨F9, x, c3, rfl, t9, B9, sp9, all⟩ ⟨eH, rfl⟩
        subst eH
        have ss9 : Ss H9 xs ps := (ss.up t9.ff).up t9.fh
        refine ⟨_, rfl, _, rfl, not_in (upL t9.fh (upL t9.ff hl)) ss9 ok (sp9.up t9.fh) ok0.nm.1 ⟨_, rfl, ?_⟩⟩
        by_cases q : (p0.1, d1 + (i : Int), d2) ∈ ps
        · rw [decide_eq_true q]
          obtain ⟨qx, rfl, hq⟩ := sp9
          have hq9 := SqT.of (K := K) (t9.fh _ _ hq)
          refine iteF ⟨_, rfl, qx, _, _, _, rfl, rfl, hq9, rfl, _, rfl, qx, _, _, _, rfl, rfl, hq9, rfl, _, _, rfl, rfl, _, rfl, qx, _, _, _, rfl, rfl, hq9, rfl, by show 3 ≤ sizeLine; decide, fun t2 ht2 => ?_⟩
          obtain ⟨ta, Ba⟩ := newB (o := .tup [.str p0.1, .int (d1 + (i : Int) + 1), .int d2]) t9 B9 ht2
          refine ⟨_, .ref t2, _, rfl, ta, Ba, ⟨t2, rfl, ?_⟩, fun i' hi' => ?_⟩
          · rw [upd_same]
            show some (HO.tup [.str p0.1, .int (d1 + (i : Int) + 1), .int d2]) = some (HO.tup [.str p0.1, .int (d1 + ((i + 1 : Nat) : Int)), .int d2])
            rw [show d1 + ((i + 1 : Nat) : Int) = d1 + (i : Int) + 1 by omega]
          · by_cases e : i' = i
            · rw [e]
              exact q
            · exact all i' (by omega)
        · rw [decide_eq_false q]
          have hi' : i < ((xs.length : Int) + 1 - 0).toNat := hi
          have := ss.1
          exact iteT (hu _ _ ⟨F9, x, _, _, rfl, t9, B9, sp9, q, by omega, by omega⟩)
      · rintro _ H9 ⟨F9, x, c3, rfl, t9, B9, sp9, all⟩
        have := pigeons (f := fun i : Nat => ((p0.1, d1 + (i : Int), d2) : Spot)) _ ps all fun i j _ _ e => by
          have := (Prod.mk.inj (Prod.mk.inj e).2).1
          omega
        have := ss.1
        omega
    · rintro _ H9 ⟨F9, x, c3, d, rfl, t9, B9, sp9, nin, d3, d4⟩
      have w1' : -(5 * 10 ^ 13) ≤ d1 ∧ d1 ≤ 5 * 10 ^ 13 := w1
      exact ⟨_, rfl, k F9 H9 x _ t9 B9 sp9 nin ⟨ok0.nm, ⟨by show -(5 * 10 ^ 13) ≤ d; omega, by show d ≤ 10 ^ 14; omega⟩, w2⟩⟩
end
end K26

set_option Elab.async false
set_option linter.all false
set_option maxRecDepth 100000
set_option maxHeartbeats 4000000
namespace K26
open PySem PySem.Spec PyProof.Rows L2 Ew
section
variable {P : Program} {w : World} {K : PySem.W.Frag} {mg : Str → Option Value} {base : Heap} {a : Ad}
def sp__law_spot_like (K : PySem.W.Frag) : Sp := fun vs H Q _ => ∃ (q : Addr) (p : Spot), vs = [.ref q] ∧ SqT K H q (spV p) ∧ Q (.bl true) H
theorem c__law_spot_like (T : Txt K mg a) : Cl P w K mg base 2 "_law_spot_like" P__law_spot_like (sp__law_spot_like K) [] :=
  T.d__law_spot_like.cl sc__law_spot_like (fun vs H Q E h => by obtain ⟨q, p, rfl, _⟩ := h; rfl) fun f cdv A outer s H vs Q E hr h => by
    obtain ⟨q, p, rfl, hq, k⟩ := h
    refine ⟨_, ((pss_cons (ps_if (PW.pt (pw_or (pt_not (pt_val (pe_callB call_isi (by rfl) T.n_isinstance (by decide +kernel) (pa_cons (pv 0) (pa_cons (pe_bltn (v := .ty "tuple") (by rfl) T.n_tuple (by decide +kernel) rfl) pa_nil))))) (pw_or (pt_cmpR op_ne (pe_callB call_len_seq (by rfl) T.n_len (by decide +kernel) (pa_cons (pv 0) pa_nil)) pe_int (nomark _)) (pw_or1 (pt_not (pt_val (pe_callB call_isi (by rfl) T.n_isinstance (by decide +kernel) (pa_cons (pe_ix ix_tup (pv 0) pe_int (fun _ _ => rfl)) (pa_cons (pe_bltn (v := .ty "str") (by rfl) T.n_str (by decide +kernel) rfl) pa_nil)))))))))
 (pss_one (ps_ret pe_bl))
 pss_nil)
 (pss_one (ps_ret (pe_and (pe_f (c__law_integer T) (takes_of rfl rfl rfl rfl) hr (by decide) rfl (pa_cons (pe_ix ix_tup (pv 0) pe_int (fun _ _ => rfl)) pa_nil)) (pe_one (pe_f (c__law_integer T) (takes_of rfl rfl rfl rfl) hr (by decide) rfl (pa_cons (pe_ix ix_tup (pv 0) pe_int (fun _ _ => rfl)) pa_nil)))))))), ?_⟩
    refine ⟨_, rfl, _, _, _, _, true, rfl, .ty _, ty_sqT hq, kit_ty (by decide +kernel), true, rfl, iteF ⟨_, rfl, q, _, rfl, .inr hq, rfl, _, rfl, iteF ?_⟩⟩
    refine ⟨_, rfl, q, _, _, _, rfl, rfl, hq, rfl, _, _, _, _, true, rfl, .ty _, .base (.str _), kit_ty (by decide +kernel), true, rfl, iteF ?_⟩
    refine ⟨_, rfl, q, _, _, _, rfl, rfl, hq, rfl, _, rfl, .inl ⟨_, rfl, true, rfl, iteT ?_⟩⟩
    exact ⟨_, rfl, q, _, _, _, rfl, rfl, hq, rfl, _, rfl, .inl ⟨_, rfl, k⟩⟩
def sp__law_some (K : PySem.W.Frag) : Sp := fun vs H Q _ => ∃ (F : Hp) (b l : Addr) (xs : List V), vs = [.ref b, .ref l] ∧ Bag K b F H ∧ Same F H ∧ SqL K F l xs ∧ xs.length ≤ 1000 ∧
  ∀ F' H' D ys, Sb b F H F' H' → Bag K b F' H' → F' D = some (.lst ys) → ys.Sublist xs → Q (.ref D) H'
theorem c__law_some (T : Txt K mg a) : Cl P w K mg base 3 "_law_some" P__law_some (sp__law_some K) [] :=
  T.d__law_some.cl sc__law_some (fun vs H Q E h => by obtain ⟨F, b, l, xs, rfl, _⟩ := h; rfl) fun f cdv A outer s H vs Q E hr h => by
    obtain ⟨F, b, l, xs, rfl, hB, hf, hl, xl, k⟩ := h
    refine ⟨_, ((pss_one (ps_ret (pe_lc (own := [("_law_thing", 2)]) (g := (gName 2)) (by rfl) sc__law_some.nd (pi_list (pv 1)) (blkOk_by (own := [("_law_thing", 2)]) (N := N__law_some) (sc := defScope s__law_some) (by decide +kernel)) (fun _ _ _ _ _ => (pg_name (i := 2) sc__law_some.nd rfl (Or.inl rfl) (hf := .inr rfl))) (fun _ _ _ _ _ => (pts_one (pt_cmpR op_eq (pe_f (c__law_pick T) takes0 hr (by decide) rfl (pa_cons (pv 0) (pa_cons pe_int pa_nil))) pe_int (nomark _)))) (fun _ _ _ _ _ => (pv 2)))))), ?_⟩
    refine ⟨_, rfl, l, rfl, ⟨xs, upL hf hl⟩, fun D hD => ?_⟩
    have fD : F D = none := hf.free hD
    have nDb : D ≠ b := fun z => (memB K b).there hB z hD
    refine lc_it (walk_list (xs := xs)) (fun i H' => ∃ F' acc, Sb b F H F' H' ∧ Bag K b F' H' ∧ F' D = none ∧ H' D = some (.lst acc) ∧ acc.Sublist (xs.take i)) ?_ ?_ ?_ ?_
    · obtain ⟨s1, B1⟩ := rawB (o := .lst []) (Stm.refl hf) hB hD
      exact ⟨F, [], s1, B1, fD, upd_same, List.Sublist.refl _⟩
    · rintro i H' _ ⟨F', acc, s1, _⟩
      exact upL s1.fh (upL s1.ff hl)
    · rintro i x H2o H2 hi ⟨F2, acc, s2, B2, f2, h2, sub⟩ ⟨eH, hx⟩
      subst eH
      refine ⟨rfl, _, rfl, F2, b, _, rfl, B2, s2.fh, by decide, sz_of 5 (by decide) (by decide), fun H3 n s3 B3 n0 n1 => ⟨rfl, _, rfl, ?_⟩⟩
      have t3 := seqB s2 B2 s3
      have h3 : H3 D = some (.lst acc) := s3.hh D _ nDb h2
      have tk : xs.take (i + 1) = xs.take i ++ [x] := by rw [List.take_add_one, hx]; rfl
      by_cases q : n = 0
      · have al : acc.length ≤ 1000 := by have := sub.length_le; rw [List.length_take] at this; omega
        obtain ⟨s4, B4⟩ := mutB (o := .lst (acc ++ [x])) t3 B3 f2 hD nDb
        exact iteY (vint_eq q) ⟨_, rfl, acc, h3, by rw [sizeLine_eq]; omega, F2, acc ++ [x], s4, B4, f2, upd_same, by rw [tk]; exact sub.append (List.Sublist.refl _)⟩
      · exact iteN (vint_ne q) ⟨F2, acc, t3, B3, f2, h3, by rw [tk]; exact sub.trans (List.sublist_append_left _ _)⟩
    · rintro H2 ⟨F2, acc, s2, B2, f2, h2, sub⟩
      obtain ⟨s3, B3⟩ := freezeB s2 B2 f2 hD nDb h2
      exact k _ _ D acc s3 B3 upd_same (by rw [List.take_length] at sub; exact sub)
def rLenS (K : PySem.W.Frag) : List V → Hp → VK → Prop := fun xs H Q => ∃ p ys, xs = [.ref p] ∧ (SqL K H p ys ∨ SqT K H p ys) ∧ Q (.int ys.length) H
def sp__law_shuffled (K : PySem.W.Frag) : Sp := fun vs H Q _ => ∃ (F : Hp) (b l : Addr) (xs : List V), vs = [.ref b, .ref l] ∧ Bag K b F H ∧ Same F H ∧ SqL K F l xs ∧ xs.length ≤ 1000 ∧
  ∀ F' H' D ys, Sb b F H F' H' → Bag K b F' H' → F' D = some (.lst ys) → ys.Perm xs → Q (.ref D) H'
theorem perm_erase {α : Type} : ∀ {xs : List α} {k : Nat} {y : α}, xs[k]? = some y → (y :: xs.eraseIdx k).Perm xs
  | [], k, y, h => by simp at h
  | x :: xs, 0, y, h => by
    simp only [List.getElem?_cons_zero, Option.some.injEq] at h
    subst h
    exact .refl _
  | x :: xs, k + 1, y, h => by
    rw [List.eraseIdx_cons_succ]
    exact (List.Perm.swap x y _).trans ((perm_erase (xs := xs) h).cons x)
theorem c__law_shuffled (T : Txt K mg a) : Cl P w K mg base 3 "_law_shuffled" P__law_shuffled (sp__law_shuffled K) [] :=
  T.d__law_shuffled.cl sc__law_shuffled (fun vs H Q E h => by obtain ⟨F, b, l, xs, rfl, _⟩ := h; rfl) fun f cdv A outer s H vs Q E hr h => by
    obtain ⟨F, b, l, xs, rfl, hB, hf, hl, xl, k⟩ := h
    refine ⟨_, ((pss_cons (ps_set (i := 2) sc__law_shuffled.nd rfl (Or.inr rfl) (pe_callTy call_list_of (by rfl) T.n_list (by decide +kernel) (pa_cons (pv 1) pa_nil)))
 (pss_one (ps_ret (pe_lc (own := [("_law_thing", 3)]) (g := (gName 3)) (by rfl) sc__law_shuffled.nd (pi_list (pv 1)) (blkOk_by (own := [("_law_thing", 3)]) (N := N__law_shuffled) (sc := defScope s__law_shuffled) (by decide +kernel)) (fun _ _ _ _ _ => (pg_name (i := 3) sc__law_shuffled.nd rfl (Or.inl rfl) (hf := .inr rfl))) (fun _ _ _ _ _ => pts_nil) (fun _ _ _ _ _ => (by show PE _ _ (tBM K "list" rPopAt (tVar 2) (tCons (tF (sp__law_pick K) [] (fun _ _ _ _ => False) (tCons (tVar 0) (tCons (tCB (rLenS K) (tCons (tVar 2) tNil)) tNil))) tNil)); exact pe_bm PySem.F.plainAttrs_list PySem.F.slot_list_pop PySem.F.type_list_pop mt_popAt (pv 2) (pa_cons (pe_f (c__law_pick T) takes0 hr (by decide) rfl (pa_cons (pv 0) (pa_cons (pe_callB (r := rLenS K) call_len_seq (by rfl) T.n_len (by decide +kernel) (pa_cons (pv 2) pa_nil)) pa_nil))) pa_nil)))))))), ?_⟩
    refine ⟨_, rfl, l, xs, rfl, .inl (upL hf hl), fun R hR => ?_⟩
    have nRb : R ≠ b := fun z => (memB K b).there hB z hR
    have fR : F R = none := hf.free hR
    obtain ⟨s1, B1⟩ := rawB (o := .lst xs) (Stm.refl hf) hB hR
    refine ⟨_, rfl, l, rfl, ⟨xs, upL s1.fh hl⟩, fun D hD => ?_⟩
    have nDR : D ≠ R := fun z => by rw [z, upd_same] at hD; cases hD
    have h0D : H D = none := by rwa [upd_ne nDR] at hD
    have fD : F D = none := hf.free h0D
    have nDb : D ≠ b := fun z => (memB K b).there hB z h0D
    refine lc_it (walk_list (xs := xs)) (fun i H' => ∃ F' acc rest, Sb b F H F' H' ∧ Bag K b F' H' ∧ F' D = none ∧ F' R = none ∧ H' D = some (.lst acc) ∧ H' R = some (.lst rest) ∧ (acc ++ rest).Perm xs ∧ acc.length = i) ?_ ?_ ?_ ?_
    · obtain ⟨s2, B2⟩ := rawB (o := .lst []) s1 B1 hD
      exact ⟨F, [], xs, s2, B2, fD, fR, upd_same, by rw [upd_ne (Ne.symm nDR), upd_same], List.Perm.refl _, rfl⟩
    · rintro i H' _ ⟨F', acc, rest, s1, _⟩
      exact upL s1.fh (upL s1.ff hl)
    · rintro i x H2o H2 hi ⟨F2, acc, rest, s2, B2, f2D, f2R, h2D, h2R, pm, al⟩ ⟨eH, hx⟩
      subst eH
      have rl : rest.length = xs.length - i := by have := pm.length_eq; rw [List.length_append] at this; omega
      refine ⟨rfl, lc_yes ⟨_, rfl, .inl ⟨rfl, rest, SqL.of h2R⟩, _, rfl, _, rfl, R, rest, rfl, .inl (SqL.of h2R), F2, b, _, rfl, B2, s2.fh, by omega, sz_len (by omega), fun H3 n s3 B3 n0 n1 => ?_⟩⟩
      have t3 := seqB s2 B2 s3
      have h3D : H3 D = some (.lst acc) := s3.hh D _ nDb h2D
      have h3R : H3 R = some (.lst rest) := s3.hh R _ nRb h2R
      obtain ⟨y, hy⟩ : ∃ y, rest[n.toNat]? = some y := ⟨_, List.getElem?_eq_getElem (by omega)⟩
      have r0 : H R = none := hR
      obtain ⟨s4, B4⟩ := mutB (o := .lst (rest.eraseIdx n.toNat)) t3 B3 f2R r0 nRb
      have h4D : (upd H3 R (.lst (rest.eraseIdx n.toNat))) D = some (.lst acc) := by rw [upd_ne nDR]; exact h3D
      obtain ⟨s5, B5⟩ := mutB (o := .lst (acc ++ [y])) s4 B4 f2D h0D nDb
      refine ⟨R, rest, n, n.toNat, y, rfl, rfl, h3R, by omega, by omega, seqIndex_of n0 n1, hy, acc, h4D, by rw [sizeLine_eq]; omega, F2, acc ++ [y], rest.eraseIdx n.toNat, s5, B5, f2D, f2R, upd_same, by rw [upd_ne (Ne.symm nDR), upd_same], ?_, by rw [List.length_append, al]; rfl⟩
      rw [List.append_assoc]
      exact ((perm_erase hy).append_left acc).trans pm
    · rintro H2 ⟨F2, acc, rest, s2, B2, f2D, f2R, h2D, h2R, pm, al⟩
      have rl : rest.length = 0 := by have := pm.length_eq; rw [List.length_append] at this; omega
      rw [List.length_eq_zero_iff.mp rl, List.append_nil] at pm
      obtain ⟨s3, B3⟩ := freezeB s2 B2 f2D h0D nDb h2D
      exact k _ _ D acc s3 B3 upd_same pm
end
end K26

set_option Elab.async false
set_option linter.all false
set_option maxRecDepth 100000
set_option maxHeartbeats 4000000
namespace K26
open PySem PySem.Spec PyProof.Rows L2 Ew
/-- a row of pairs -/
def PrL (K : PySem.W.Frag) (F : Hp) (xs : List V) (L : Prs) : Prop := Paired (fun x s => Pr K any1 F x s) xs L
theorem PrL.up {K : PySem.W.Frag} {F F' : Hp} {xs : List V} {L : Prs} (h : PrL K F xs L) (e : Same F F') : PrL K F' xs L := Paired.mapP h fun _ _ z => z.up e
theorem PrL.len {K : PySem.W.Frag} {F : Hp} {xs : List V} {L : Prs} (h : PrL K F xs L) : xs.length = L.length := Paired.length h
theorem PrL.at {K : PySem.W.Frag} {F : Hp} {xs : List V} {L : Prs} (h : PrL K F xs L) : ∀ {i : Nat} {x : V}, xs[i]? = some x → ∃ s, L[i]? = some s ∧ Pr K any1 F x s := by
  induction h with
  | nil => intro i x e; simp at e
  | @cons a b as bs hd t ih =>
    intro i x e
    cases i with
    | zero =>
      simp only [List.getElem?_cons_zero, Option.some.injEq] at e
      subst e
      exact ⟨b, rfl, hd⟩
    | succ i => exact ih e
theorem PrL.of {K : PySem.W.Frag} {F : Hp} {xs : List V} {L : Prs} (h : PrL K F xs L) : Begin K any1 F xs L := by
  refine ⟨Nat.le_of_eq h.len.symm, fun i s hs => ?_⟩
  obtain ⟨x, hx⟩ : ∃ x, xs[i]? = some x := ⟨_, List.getElem?_eq_getElem (by rw [h.len]; exact (List.getElem?_eq_some_iff.mp hs).1)⟩
  obtain ⟨s', e, p⟩ := h.at hx
  rw [hs] at e
  cases e
  exact ⟨x, hx, p⟩
theorem eqvAll_sp : ∀ ps qs : List Spot, PyData.eqvAll (ps.map spD) (qs.map spD) = decide (ps = qs)
  | [], [] => rfl
  | [], y :: b => rfl
  | x :: a, [] => rfl
  | x :: a, y :: b => by
    rw [List.map_cons, List.map_cons, PyData.eqvAll, eqv_sp, eqvAll_sp a b]
    by_cases h : x = y
    · subst h; by_cases h2 : a = b <;> simp [h2]
    · simp [h]
theorem eqv_sps (ps qs : List Spot) : PyData.eqv (.list (ps.map spD)) (.list (qs.map spD)) = decide (ps = qs) := by rw [PyData.eqv, eqvAll_sp]
theorem keys_dp {K : PySem.W.Frag} {F H : Hp} : ∀ {kvs : List (List Key × V)} {bs : List Addr} {L : Prs}, IsKeys H kvs bs → Kvs K F kvs L → DpAll K H (bs.map V.ref) ((L.map (·.1)).map spD)
  | [], [], _, .nil, .nil => .nil
  | c :: kvs, b :: bs, s :: L, .cons h t, .cons h2 t2 => by
    rw [h2.1] at h
    exact .cons (dp_sp (SqT.of h)) (keys_dp t t2)
theorem fl_names {ps : List Spot} (h : ∀ p ∈ ps, PyData.strOk p.1 = true) : Fl 2 (.list (ps.map spD)) := Fl.lst (FlA.all fun d hd => by
  obtain ⟨p, hp, rfl⟩ := List.mem_map.mp hd
  exact fl_sp (h p hp))
section
variable {P : Program} {w : World} {K : PySem.W.Frag} {mg : Str → Option Value} {base : Heap} {a : Ad}
def sp__law_told_well (K : PySem.W.Frag) (a : Ad) : Sp := fun vs H Q _ => ∃ (F : Hp) (x : V) (l : Addr) (xs : List V) (L : Prs), vs = [x, .ref l] ∧ Wd K a.World F x L ∧ SqL K F l xs ∧ PrL K F xs L ∧ OkW L ∧ Same F H ∧ ∀ F' H', Stp F H F' H' → Q (.bl true) H'
theorem c__law_told_well (T : Txt K mg a) : Cl P w K mg base 6 "_law_told_well" P__law_told_well (sp__law_told_well K a) [] :=
  T.d__law_told_well.cl sc__law_told_well (fun vs H Q E h => by obtain ⟨F, x, l, xs, L, rfl, _⟩ := h; rfl) fun f cdv A outer s H vs Q E hr h => by
    obtain ⟨F, x, l, xs, L, rfl, hx, hl, hp, ok, hf, k⟩ := h
    refine ⟨_, ((pss_cons (ps_setLc (i := 2) (own := [("_law_pair", 4)]) (g := (gName 4)) (by rfl) sc__law_told_well.nd rfl rfl (sw_true rfl rfl rfl (by decide +kernel)) (pi_list (pv 1)) (blkOk_by (own := [("_law_pair", 4)]) (N := N__law_told_well) (sc := defScope s__law_told_well) (by decide +kernel)) (fun _ _ _ _ _ => (pg_name (i := 4) sc__law_told_well.nd rfl (Or.inl rfl) (hf := .inr rfl))) (fun _ _ _ _ _ => pts_nil) (fun _ _ _ _ _ => (pe_ix (r := rIxT K) ix_tup (pv 4) pe_int (fun _ _ => rfl))))
 (pss_cons (ps_if (PW.pt (pw_or (pt_not (pt_val (pe_callB call_isi (by rfl) T.n_isinstance (by decide +kernel) (pa_cons (pv 0) (pa_cons (pe_glob (v := .ref a.World) rfl T.g_World rfl) pa_nil))))) (pw_or (pt_cmpR (op_neD hr.units) (pe_callTy (call_listC rfl (it_World T) (o_World_len T) hr (by decide)) (by rfl) T.n_list (by decide +kernel) (pa_cons (pv 0) pa_nil)) (pv 2) (nomark _)) (pw_or1 (pt_cmpR op_ne (pe_callB (call_lenC (o_World_len T) hr (by decide)) (by rfl) T.n_len (by decide +kernel) (pa_cons (pv 0) pa_nil)) (pe_callB call_len_seq (by rfl) T.n_len (by decide +kernel) (pa_cons (pv 2) pa_nil)) (nomark _))))))
 (pss_one (ps_ret pe_bl))
 pss_nil)
 (pss_cons (ps_for (passes_of rfl) rfl (pi_own (it_World T) hr (by decide) (pv 0)) (pg_name (i := 3) sc__law_told_well.nd rfl (Or.inl rfl))
 (pss_one (ps_if (pt_not (pt_val (pe_f (c__law_spot_like T) (takes_of rfl rfl rfl rfl) hr (by decide) rfl (pa_cons (pv 3) pa_nil))))
 (pss_one (ps_ret pe_bl))
 pss_nil)))
 (pss_cons (ps_for (passes_of rfl) rfl (pi_list (pv 1)) (pg_name (i := 4) sc__law_told_well.nd rfl (Or.inl rfl))
 (pss_cons (ps_set (i := 5) sc__law_told_well.nd rfl (Or.inl rfl) (pe_ixC (o_World_getitem T) (takes_of rfl rfl rfl rfl) hr (by decide) (pv 0) (pe_ix ix_tup (pv 4) pe_int (fun _ _ => rfl)) (fun _ _ => rfl)))
 (pss_one (ps_if (PW.pt (pw_or (pt_not (pt_val (pe_f (c__law_is_ratio T) (takes_of rfl rfl rfl rfl) hr (by decide) rfl (pa_cons (pv 5) pa_nil)))) (pw_or (pt_cmpR (op_neD hr.units) (pv 5) (pe_ix ix_tup (pv 4) pe_int (fun _ _ => rfl)) (nomark _)) (pw_or1 (pt_cmp (pc_ninC (o_World_contains T) (takes_of rfl rfl rfl rfl) hr (by decide) (pe_ix ix_tup (pv 4) pe_int (fun _ _ => rfl)) (pv 0)) rfl)))))
 (pss_one (ps_ret pe_bl))
 pss_nil))))
 (pss_one (ps_ret pe_bl))))))), ?_⟩
    have len := hp.len
    have ol := ok.len
    refine ⟨_, rfl, l, rfl, ⟨xs, upL hf hl⟩, fun D hD => ?_⟩
    refine lcM memP (walk_list (xs := xs)) hf trivial hD (fun i F y => ∃ s, L[i]? = some s ∧ Spt F y s.1) (fun _ _ _ _ e z => by obtain ⟨s, h1, h2⟩ := z; exact ⟨s, h1, h2.up e⟩) (by omega) (fun F' H' e1 e2 => upL e2 (upL e1 hl)) ?_ ?_
    · rintro i y F' H2o H2 Kt Kn hi s1 _ ⟨eH, hy⟩ kk
      subst eH
      obtain ⟨s', hs, q, u, wv, rfl, hq, hu, hw, _⟩ := hp.at hy
      refine ⟨rfl, lc_yes ⟨_, rfl, q, _, _, _, rfl, rfl, upT s1.fh (upT s1.ff hq), at0, kk _ _ _ (.refl s1.fh) trivial ⟨s', hs, hu.up s1.ff⟩⟩⟩
    intro F1 H1 ys s1 _ hD1 yl hr'
    refine gn ?_
    dsimp only
    have hw1 := hx.up s1.ff
    obtain ⟨xx, dx, d, o, kvs, rfl, e1, e2, e3⟩ := id hw1
    have g1 := s1.fh _ _ e1
    have g2 := s1.fh _ _ e2
    have yS : Ss F1 ys (L.map (·.1)) := ⟨by rw [yl, len, List.length_map], fun i p hpi => by
      rw [List.getElem?_map, Option.map_eq_some_iff] at hpi
      obtain ⟨s', hs', rfl⟩ := hpi
      have lt : i < ys.length := by rw [yl, len]; exact (List.getElem?_eq_some_iff.mp hs').1
      obtain ⟨s2, h2, h3⟩ := hr' i _ (List.getElem?_eq_getElem lt)
      rw [hs'] at h2
      cases h2
      exact ⟨_, List.getElem?_eq_getElem lt, h3⟩⟩
    have nm : ∀ p ∈ L.map (·.1), PyData.strOk p.1 = true := fun p hp' => by
      obtain ⟨s', hs', rfl⟩ := List.mem_map.mp hp'
      exact ok.str s' hs'
    refine ⟨_, rfl, _, _, _, _, true, rfl, .own _, T.ki.ty g1, kit_same, true, rfl, iteF ?_⟩
    refine ⟨_, rfl, xx, dx, _, d, o, kvs, rfl, g1, rfl, g2, fun q hq => ⟨F1, .ref xx, L, rfl, hw1, ((Stm.refl (m := fun _ => False) s1.fh).raw hq hq).fh, L.length, rfl, by rw [sizeLine_eq]; omega, rfl⟩, fun p bs hp2 hk => ?_⟩
    have s2 : Stp F1 H1 F1 (upd H1 p (.lst (bs.map V.ref))) := (Stm.refl s1.fh).raw hp2 hp2
    have hk2 : IsKeys (upd H1 p (.lst (bs.map V.ref))) kvs bs := Paired.mapP hk fun _ _ z => same_new hp2 _ _ z
    have t2 := s1.transP s2
    have hp3 : upd H1 p (.lst (bs.map V.ref)) p = some (.lst (bs.map V.ref)) := upd_same
    generalize upd H1 p (.lst (bs.map V.ref)) = H2 at *
    have u2 : Same F H2 := t2.ff.trans t2.fh
    have h1 := s2.fh _ _ e1
    have h2 := s2.fh _ _ e2
    refine ⟨_, rfl, _, _, .lst (SqL.of hp3) (keys_dp hk2 e3), .lst (SqL.of (s2.fh _ _ hD1)) (yS.up s2.fh).dp, (fl_names nm).sh (by decide), (fl_names nm).sh (by decide), ?_⟩
    rw [eqv_sps, decide_eq_true rfl]
    refine ⟨_, rfl, iteF ?_⟩
    refine ⟨_, rfl, xx, dx, _, rfl, h1, F1, .ref xx, L, rfl, hw1, s2.fh, L.length, rfl, by omega, by omega, _, rfl, D, ys, rfl, .inl (SqL.of (s2.fh _ _ hD1)), rfl, ?_⟩
    rw [yl, len, decide_eq_true rfl]
    refine ⟨_, rfl, iteF ?_⟩
    refine ⟨_, rfl, xx, dx, _, d, o, kvs, rfl, h1, rfl, h2, ?_⟩
    refine for_it walk_keysT (fun i σ' H' => H2 = H' ∧ ∃ c3 c4 c5, σ' = [some (.ref xx), some (.ref l), some (.ref D), c3, c4, c5]) ⟨rfl, none, none, none, rfl⟩ (fun i σ' H' _ ⟨q, _⟩ => q ▸ h2) ?_ ?_
    · rintro i v _ H3 H4 hi ⟨eH, c3, c4, c5, rfl⟩ ⟨eH3, kk, wv, q, hkv, rfl, hq⟩
      subst eH3 eH
      obtain ⟨s', hs, rfl, _⟩ := e3.at hkv
      refine gn ?_
      exact ⟨_, rfl, q, s'.1, rfl, SqT.of hq, true, rfl, iteF ⟨rfl, _, _, _, rfl⟩⟩
    rintro _ H3 ⟨eH, c3, c4, c5, rfl⟩
    subst eH
    refine ⟨_, rfl, l, rfl, ⟨xs, upL u2 hl⟩, ?_⟩
    refine for_it (walk_list (xs := xs)) (fun i σ' H' => H2 = H' ∧ ∃ c3 c4 c5, σ' = [some (.ref xx), some (.ref l), some (.ref D), c3, c4, c5]) ⟨rfl, _, _, _, rfl⟩ (fun i σ' H' _ ⟨q, _⟩ => q ▸ upL u2 hl) ?_ ?_
    · rintro i y _ H3 H4 hi ⟨eH, c3, c4, c5, rfl⟩ ⟨eH3, hy⟩
      subst eH3 eH
      obtain ⟨s', hs, q, u, wv, rfl, hq, hu, hw, _⟩ := hp.at hy
      have mem : s' ∈ L := List.mem_of_getElem? hs
      have lk := look_mem ok.ok.nd s' mem
      have hq2 := upT u2 hq
      have hu2 := hu.up u2
      refine gn ?_
      refine ⟨_, rfl, _, rfl, q, _, _, _, rfl, rfl, hq2, at0, xx, dx, _, rfl, h1, get_at hw1 s2.fh (.inl ⟨s'.1, hu2, lk⟩) (fun u' r eo hu' => ?_) (fun z => nomatch z)⟩
      cases eo
      refine gn ?_
      refine ⟨_, rfl, u', s'.2, rfl, hu'.up s2.fh, ok.ok.low s' mem, true, rfl, iteF ?_⟩
      refine ⟨_, rfl, _, rfl, q, _, _, _, rfl, rfl, hq2, at1, _, _, (hu'.up s2.fh).dp, (hw.up u2).dp, shaped_ints _, shaped_ints _, ?_⟩
      rw [eqv_ints, decide_eq_true rfl]
      refine ⟨_, rfl, iteF ?_⟩
      refine ⟨_, rfl, q, _, _, _, rfl, rfl, hq2, at0, _, rfl, xx, dx, _, rfl, h1, F1, .ref xx, u, L, rfl, hw1, s2.fh, .inl ⟨s'.1, hu2, ?_⟩⟩
      rw [lk]
      exact ⟨_, rfl, _, rfl, iteF ⟨rfl, _, _, _, rfl⟩⟩
    rintro _ H3 ⟨eH, c3, c4, c5, rfl⟩
    subst eH
    exact k F1 _ t2
end
end K26

set_option Elab.async false
set_option linter.all false
set_option maxRecDepth 100000
set_option maxHeartbeats 4000000
namespace K26
open PySem PySem.Spec PyProof.Rows L2 Ew
section
variable {P : Program} {w : World} {K : PySem.W.Frag} {mg : Str → Option Value} {base : Heap} {a : Ad}
def sp__law_gaps_told_well (K : PySem.W.Frag) (a : Ad) : Sp := fun vs H Q _ => ∃ (F : Hp) (x : V) (l : Addr) (xs : List V) (L : Prs), vs = [x, .ref l] ∧ Wd K a.World F x L ∧ SqL K F l xs ∧ PrL K F xs L ∧ OkW L ∧ Same F H ∧ ∀ F' H', Stp F H F' H' → Q (.bl true) H'
theorem c__law_gaps_told_well (T : Txt K mg a) : Cl P w K mg base 8 "_law_gaps_told_well" P__law_gaps_told_well (sp__law_gaps_told_well K a) [] :=
  T.d__law_gaps_told_well.cl sc__law_gaps_told_well (fun vs H Q E h => by obtain ⟨F, x, l, xs, L, rfl, _⟩ := h; rfl) fun f cdv A outer s H vs Q E hr h => by
    obtain ⟨F, x, l, xs, L, rfl, hx, hl, hp, ok, hf, k⟩ := h
    refine ⟨_, ((pss_cons (ps_for (passes_of rfl) rfl (pi_list (pv 1)) (pg_name (i := 2) sc__law_gaps_told_well.nd rfl (Or.inl rfl))
 (pss_one (ps_for (passes_of rfl) rfl (pi_list (pv 1)) (pg_name (i := 3) sc__law_gaps_told_well.nd rfl (Or.inl rfl))
 (pss_cons (ps_set (i := 4) sc__law_gaps_told_well.nd rfl (Or.inl rfl) (pe_mf (m_World_gap T) (takes_of rfl rfl rfl rfl) hr (by decide) (pv 0) (pa_cons (pe_ix ix_tup (pv 2) pe_int (fun _ _ => rfl)) (pa_cons (pe_ix ix_tup (pv 3) pe_int (fun _ _ => rfl)) pa_nil))))
 (pss_cons (ps_set (i := 5) sc__law_gaps_told_well.nd rfl (Or.inl rfl) (pe_f (c__law_minus T) (takes_of rfl rfl rfl rfl) hr (by decide) rfl (pa_cons (pe_ix ix_tup (pv 3) pe_int (fun _ _ => rfl)) (pa_cons (pe_ix ix_tup (pv 2) pe_int (fun _ _ => rfl)) pa_nil))))
 (pss_cons (ps_if (PW.pt (pw_or (pt_not (pt_val (pe_f (c__law_is_ratio T) (takes_of rfl rfl rfl rfl) hr (by decide) rfl (pa_cons (pv 4) pa_nil)))) (pw_or1 (pt_cmpR (op_neD hr.units) (pv 4) (pv 5) (nomark _)))))
 (pss_one (ps_ret pe_bl))
 pss_nil)
 (pss_one (ps_if (pt_cmpR (op_neD hr.units) (pe_ix ix_tup (pv 2) pe_int (fun _ _ => rfl)) (pe_ix ix_tup (pv 3) pe_int (fun _ _ => rfl)) (nomark _))
 (pss_one (ps_for (passes_of rfl) rfl (pi_list (pe_lst (pa_cons (pe_op op_sub (pe_op op_fdivW (pe_ix ix_tup (pv 5) pe_int (fun _ _ => rfl)) (pe_ix ix_tup (pv 5) pe_int (fun _ _ => rfl))) pe_int) (pa_cons (pe_op op_fdivW (pe_ix ix_tup (pv 5) pe_int (fun _ _ => rfl)) (pe_ix ix_tup (pv 5) pe_int (fun _ _ => rfl))) (pa_cons (pe_op op_add (pe_op op_fdivW (pe_ix ix_tup (pv 5) pe_int (fun _ _ => rfl)) (pe_ix ix_tup (pv 5) pe_int (fun _ _ => rfl))) pe_int) pa_nil))))) (pg_name (i := 6) sc__law_gaps_told_well.nd rfl (Or.inl rfl))
 (pss_cons (ps_set (i := 7) sc__law_gaps_told_well.nd rfl (Or.inl rfl) (pe_mf (m_World_keeps T) (takes_of rfl rfl rfl rfl) hr (by decide) (pv 0) (pa_cons (pe_tup (pa_cons (pe_ix ix_tup (pv 2) pe_int (fun _ _ => rfl)) (pa_cons (pe_ix ix_tup (pv 3) pe_int (fun _ _ => rfl)) (pa_cons (pv 6) (pa_cons (pe_tup (pa_cons pe_str (pa_cons (pe_ix ix_tup (pe_ix ix_tup (pv 2) pe_int (fun _ _ => rfl)) pe_int (fun _ _ => rfl)) pa_nil))) pa_nil))))) pa_nil)))
 (pss_one (ps_if (PW.pt (pw_or (pt_not (pt_val (pe_callB call_isi (by rfl) T.n_isinstance (by decide +kernel) (pa_cons (pv 7) (pa_cons (pe_bltn (v := .ty "bool") (by rfl) T.n_bool (by decide +kernel) rfl) pa_nil))))) (pw_or1 (pt_cmpR op_ne (pv 7) (pe_cmpR op_le (pe_ix ix_tup (pv 5) pe_int (fun _ _ => rfl)) (pe_op op_mulW (pv 6) (pe_ix ix_tup (pv 5) pe_int (fun _ _ => rfl))) (nomark _)) (nomark _)))))
 (pss_one (ps_ret pe_bl))
 pss_nil)))))
 pss_nil))))))))
 (pss_one (ps_ret pe_bl)))), ?_⟩
    have len := hp.len
    have ol := ok.len
    obtain ⟨xx, dx, d, o, kvs, rfl, e1, e2, e3⟩ := id hx
    refine ⟨_, rfl, l, rfl, ⟨xs, upL hf hl⟩, ?_⟩
    refine for_it (walk_list (xs := xs)) (fun i σ' H' => ∃ F' c2 c3 c4 c5 c6 c7, σ' = [some (.ref xx), some (.ref l), c2, c3, c4, c5, c6, c7] ∧ Stp F H F' H') ⟨F, none, none, none, none, none, none, rfl, .refl hf⟩ (fun i σ' H' _ ⟨F', _, _, _, _, _, _, _, s1⟩ => upL s1.fh (upL s1.ff hl)) ?_ ?_
    · rintro i1 y1 _ H1 _ hi1 ⟨F1, c2, c3, c4, c5, c6, c7, rfl, s1⟩ ⟨eH, hy1⟩
      subst eH
      obtain ⟨t1, ht1, q1, _, w1, rfl, hq1, ⟨u1, rfl, hu1⟩, hw1, _⟩ := hp.at hy1
      refine gn ?_
      refine ⟨_, rfl, l, rfl, ⟨xs, upL s1.fh (upL s1.ff hl)⟩, ?_⟩
      refine for_it (walk_list (xs := xs)) (fun i σ' H' => ∃ F' c3 c4 c5 c6 c7, σ' = [some (.ref xx), some (.ref l), some (.ref q1), c3, c4, c5, c6, c7] ∧ Stp F H F' H') ⟨F1, _, _, _, _, _, rfl, s1⟩ (fun i σ' H' _ ⟨F', _, _, _, _, _, _, s1⟩ => upL s1.fh (upL s1.ff hl)) ?_ ?_
      · rintro i2 y2 _ H2 _ hi2 ⟨F2, c3, c4, c5, c6, c7, rfl, s2⟩ ⟨eH, hy2⟩
        subst eH
        obtain ⟨t2, ht2, q2, _, w2, rfl, hq2, ⟨u2, rfl, hu2⟩, hw2, _⟩ := hp.at hy2
        have m1 : t1 ∈ L := List.mem_of_getElem? ht1
        have m2 : t2 ∈ L := List.mem_of_getElem? ht2
        have l1 := look_mem ok.ok.nd t1 m1
        have l2 := look_mem ok.ok.nd t2 m2
        have f1 := ok.fine t1 m1
        have f2 := ok.fine t2 m2
        have a2 := s2.ff.trans s2.fh
        refine gn ?_
        refine ⟨_, rfl, xx, dx, _, rfl, a2 _ _ e1, rfl, _, rfl, q1, _, _, _, rfl, rfl, upT a2 hq1, at0, _, rfl, q2, _, _, _, rfl, rfl, upT a2 hq2, at0, F2, .ref xx, .ref u1, .ref u2, L, some t1.2, some t2.2, rfl, hx.up s2.ff, s2.fh, ok.fine,
          .inl ⟨t1.1, ⟨u1, rfl, s2.ff _ _ hu1⟩, l1⟩, .inl ⟨t2.1, ⟨u2, rfl, s2.ff _ _ hu2⟩, l2⟩, fun r q eo1 eo2 F3 H3 z st3 hz => ?_, (fun z => nomatch z), (fun _ _ z => nomatch z)⟩
        cases eo1
        cases eo2
        have s3 := s2.transP st3
        have a3 := s3.ff.trans s3.fh
        refine gn ?_
        refine ⟨_, rfl, q2, _, _, _, rfl, rfl, upT a3 hq2, at1, _, rfl, q1, _, _, _, rfl, rfl, upT a3 hq1, at1, F3, w2, w1, t2.2, t1.2, rfl, hw2.up s3.ff, hw1.up s3.ff, f2.wide.1, f2.wide.2.1, f1.wide.1, f1.wide.2.1, f2.wide.2.2, f1.wide.2.2, s3.fh, fun F4 H4 dv st4 hd => ?_⟩
        have s4 := s3.transP st4
        have a4 := s4.ff.trans s4.fh
        have low := minus_low f1 f2
        obtain ⟨z1, z2⟩ := minus_sz f1 f2
        obtain ⟨g, eg⟩ : ∃ g, g = rMinus t2.2 t1.2 := ⟨_, rfl⟩
        rw [← eg] at hz hd low z1 z2
        obtain ⟨dq, rfl, hd⟩ := hd
        refine gn ?_
        refine ⟨_, rfl, z, g, rfl, (hz.up st4.ff).up s4.fh, low, true, rfl, iteF ?_⟩
        have hdR : Rt K H4 (.ref dq) g := ⟨dq, rfl, upT s4.fh hd⟩
        refine ⟨_, rfl, _, rfl, _, _, ((hz.up st4.ff).up s4.fh).dp, hdR.dp, shaped_ints _, shaped_ints _, ?_⟩
        rw [eqv_ints, decide_eq_true rfl]
        refine ⟨_, rfl, iteF ?_⟩
        refine ⟨_, rfl, q1, _, _, _, rfl, rfl, upT a4 hq1, at0, _, rfl, q2, _, _, _, rfl, rfl, upT a4 hq2, at0, spD t1.1, spD t2.1, Spt.dp ⟨u1, rfl, a4 _ _ hu1⟩, Spt.dp ⟨u2, rfl, a4 _ _ hu2⟩, (fl_sp (ok.str t1 m1)).sh (by decide), (fl_sp (ok.str t2 m2)).sh (by decide), ?_⟩
        rw [eqv_sp]
        refine ⟨_, rfl, ?_⟩
        by_cases e : t1.1 = t2.1
        · rw [decide_eq_true e]
          exact iteF ⟨F4, _, _, _, _, _, rfl, s4⟩
        rw [decide_eq_false e]
        refine iteT ?_
        have hdq := upT s4.fh hd
        have cd : CDivW g.1 g.2 := ⟨by have := low.1; omega, z2.log (by decide) (by decide)⟩
        have zf : Sz 601 (g.1 / g.2) := by
          exact Nat.lt_of_le_of_lt (Int.natAbs_ediv_le_natAbs _ _) z1
        have z3 : Sz 601 1 := by unfold Sz; exact Nat.one_lt_two_pow (by decide)
        refine ⟨_, rfl, dq, _, _, _, rfl, rfl, hdq, at0, _, rfl, dq, _, _, _, rfl, rfl, hdq, at1, _, _, rfl, rfl, cd, _, _, rfl, rfl, _, rfl, dq, _, _, _, rfl, rfl, hdq, at0, _, rfl, dq, _, _, _, rfl, rfl, hdq, at1, _, _, rfl, rfl, cd,
          _, rfl, dq, _, _, _, rfl, rfl, hdq, at0, _, rfl, dq, _, _, _, rfl, rfl, hdq, at1, _, _, rfl, rfl, cd, _, _, rfl, rfl, (by show 3 ≤ sizeLine; decide), fun p hp5 => ⟨p, rfl, ⟨_, SqL.of upd_same⟩, ?_⟩⟩
        have s5 := s4.newP (o := .lst [.int (g.1 / g.2 - 1), .int (g.1 / g.2), .int (g.1 / g.2 + 1)]) hp5
        have hl5 : (upd F4 p (.lst [.int (g.1 / g.2 - 1), .int (g.1 / g.2), .int (g.1 / g.2 + 1)])) p = some (.lst [.int (g.1 / g.2 - 1), .int (g.1 / g.2), .int (g.1 / g.2 + 1)]) := upd_same
        have hd5 := upT (same_new (o := .lst [.int (g.1 / g.2 - 1), .int (g.1 / g.2), .int (g.1 / g.2 + 1)]) (s4.fh.free hp5)) hd
        generalize upd F4 p (.lst [.int (g.1 / g.2 - 1), .int (g.1 / g.2), .int (g.1 / g.2 + 1)]) = F5 at *
        have s5o := s5
        obtain ⟨H5, eH5⟩ : ∃ H5, H5 = upd H4 p (.lst [.int (g.1 / g.2 - 1), .int (g.1 / g.2), .int (g.1 / g.2 + 1)]) := ⟨_, rfl⟩
        rw [← eH5] at s5
        refine for_it (walk_list (xs := [.int (g.1 / g.2 - 1), .int (g.1 / g.2), .int (g.1 / g.2 + 1)])) (fun i σ' H' => ∃ F' c6 c7, σ' = [some (.ref xx), some (.ref l), some (.ref q1), some (.ref q2), some z, some (.ref dq), c6, c7] ∧ Stp F5 H5 F' H') ⟨F5, _, _, rfl, by rw [eH5]; exact .refl s5o.fh⟩ (fun i σ' H' _ ⟨F', _, _, _, s6⟩ => SqL.of (s6.fh _ _ (s6.ff _ _ hl5))) ?_ ?_
        · rintro i3 v _ H6 _ hi3 ⟨F6, c6, c7, rfl, s6⟩ ⟨eH, hv⟩
          subst eH
          obtain ⟨n, rfl, zn⟩ : ∃ n, v = .int n ∧ Sz 700 n := by
            have := List.mem_of_getElem? hv
            simp only [List.mem_cons, List.not_mem_nil, or_false] at this
            rcases this with rfl | rfl | rfl
            · exact ⟨_, rfl, (zf.sub z3).mono (by decide)⟩
            · exact ⟨_, rfl, zf.mono (by decide)⟩
            · exact ⟨_, rfl, (zf.add z3).mono (by decide)⟩
          have s7 := s5.transP s6
          have a7 := s7.ff.trans s7.fh
          refine gn ?_
          refine ⟨_, rfl, xx, dx, _, rfl, a7 _ _ e1, rfl, _, rfl, q1, _, _, _, rfl, rfl, upT a7 hq1, at0, _, rfl, q2, _, _, _, rfl, rfl, upT a7 hq2, at0, _, rfl, _, rfl, q1, _, _, _, rfl, rfl, upT a7 hq1, at0, u1, _, _, _, rfl, rfl, SqT.of (a7 _ _ hu1), rfl,
            (by show 2 ≤ sizeLine; decide), fun p1 hp1 => ⟨by show 4 ≤ sizeLine; decide, fun p2 hp2 => ?_⟩⟩
          have s8 := s7.newP (o := .tup [.str (Str.ofString "range"), .str t1.1.1]) hp1
          have s9 := s8.newP (o := .tup [.ref u1, .ref u2, .int n, .ref p1]) hp2
          refine ⟨_, .ref xx, .ref u1, .ref u2, .ref p1, p2, n, L, some t1.2, some t2.2, rfl, sq_new, hx.up s9.ff, s9.fh, ok.fine, zn, .inl ⟨t1.1, ⟨u1, rfl, s9.ff _ _ hu1⟩, l1⟩, .inl ⟨t2.1, ⟨u2, rfl, s9.ff _ _ hu2⟩, l2⟩, fun r q eo1 eo2 F3 H3 st3 => ?_, (fun z => nomatch z), (fun _ _ z => nomatch z)⟩
          cases eo1
          cases eo2
          have m := ((s6.newP (o := .tup [.str (Str.ofString "range"), .str t1.1.1]) hp1).newP (o := .tup [.ref u1, .ref u2, .int n, .ref p1]) hp2).transP st3
          have hd3 := upT (m.ff.trans m.fh) hd5
          rw [← eg]
          refine gn ?_
          refine ⟨_, rfl, _, _, _, _, true, rfl, .ty _, .base (.bl _), kit_ty (by decide +kernel), true, rfl, iteF ?_⟩
          refine ⟨_, rfl, _, rfl, dq, _, _, _, rfl, rfl, hd3, at0, _, rfl, _, rfl, dq, _, _, _, rfl, rfl, hd3, at1, _, _, rfl, rfl, mulw (zn.mono (by decide)) (z2.mono (by decide)), _, _, rfl, rfl, rfl, false, ?_, iteF ⟨F3, _, _, rfl, m⟩⟩
          exact congrArg V.bl (by rw [decide_eq_true rfl]; rfl)
        · rintro _ H6 ⟨F6, c6, c7, rfl, s6⟩
          exact ⟨F6, _, _, _, _, _, rfl, s5.transP s6⟩
      · rintro _ H6 ⟨F6, c3, c4, c5, c6, c7, rfl, s6⟩
        exact ⟨F6, _, _, _, _, _, _, rfl, s6⟩
    · rintro _ H6 ⟨F6, c2, c3, c4, c5, c6, c7, rfl, s6⟩
      exact k F6 _ s6
end
end K26

set_option Elab.async false
set_option linter.all false
set_option maxRecDepth 100000
set_option maxHeartbeats 4000000
namespace K26
open PySem PySem.Spec PyProof.Rows L2 Ew
/-- a thing that repr shows -/
structure Shw (d : PyData) : Prop where
  a : d.showable = true
  b : d.hasDict = false
  c : d.depth ≤ 60
  l : d.shown.length ≤ sizeLine
/-- a number or a truth value -/
def Leaf (v : V) (d : PyData) : Prop := (∃ i : Int, v = .int i ∧ d = .int i ∧ i.natAbs.log2 < 1920) ∨ ∃ b, v = .bl b ∧ d = .bool b
theorem shw3 {n : Str} {x y : V} {d e : PyData} (hn : Nm n) (h1 : Leaf x d) (h2 : Leaf y e) : Shw (.tuple [.str n, d, e]) := by
  have lf : ∀ {x : V} {d : PyData}, Leaf x d → d.showable = true ∧ d.hasDict = false ∧ d.depth = 0 ∧ d.leavesShort 1921 = true ∧ d.weight ≤ 1920 := by
    rintro x d (⟨i, rfl, rfl, hi⟩ | ⟨b, rfl, rfl⟩)
    · refine ⟨by rw [PyData.showable, decide_eq_true hi], by rw [PyData.hasDict], by rw [PyData.depth], ?_, by rw [PyData.weight]; split <;> omega⟩
      rw [PyData.leavesShort, decide_eq_true]
      rw [PyData.shown]
      exact int_text_len_1921 hi
    · exact ⟨by rw [PyData.showable], by rw [PyData.hasDict], by rw [PyData.depth], by rw [PyData.leavesShort], by rw [PyData.weight]; omega⟩
  obtain ⟨a1, a2, a3, a4, a5⟩ := lf h1
  obtain ⟨b1, b2, b3, b4, b5⟩ := lf h2
  have sg : (PyData.str n).leavesShort 1921 = true := by
    rw [PyData.leavesShort, List.all_eq_true]
    intro c hc
    have := hn.1
    unfold PyData.strOk at this
    rw [Array.all_eq_true'] at this
    have := this c (by simpa using hc)
    simp only [decide_eq_true_eq] at this ⊢
    omega
  refine ⟨?_, ?_, ?_, ?_⟩
  · simp [PyData.showable, PyData.showableAll, a1, b1]
  · simp [PyData.hasDict, PyData.hasDictAll, a2, b2]
  · simp [PyData.depth, PyData.depthAll, a3, b3]
  · have h := PyData.shown_le 1921 (by decide) (.tuple [.str n, d, e]) (by simp [PyData.leavesShort, PyData.leavesShortAll, sg, a4, b4] <;> simpa [PyData.leavesShort] using sg)
    have w : (PyData.tuple [.str n, d, e]).weight ≤ 4000 := by
      have := hn.2
      have e : n.length = n.cps.size := rfl
      simp only [PyData.weight, PyData.weightAll]
      omega
    have : (1921 + 2) * (PyData.tuple [.str n, d, e]).weight ≤ 1923 * 4000 := Nat.mul_le_mul_left _ w
    rw [sizeLine_eq]
    omega
theorem unH {k : Nat} {A : Around} (r : L2H.RoomH k A) : A.units + 64 < cLine := by have := r.un; omega
mutual
theorem dp_up {K : PySem.W.Frag} {H H' : Hp} (e : Same H H') : ∀ {v : V} {d : PyData}, Dp K H v d → Dp K H' v d
  | _, _, .non => .non
  | _, _, .bl b => .bl b
  | _, _, .int i => .int i
  | _, _, .str x => .str x
  | _, _, .lst h t => .lst (upL e h) (dpAll_up e t)
  | _, _, .tup h t => .tup (upT e h) (dpAll_up e t)
theorem dpAll_up {K : PySem.W.Frag} {H H' : Hp} (e : Same H H') : ∀ {vs : List V} {ds : List PyData}, DpAll K H vs ds → DpAll K H' vs ds
  | _, _, .nil => .nil
  | _, _, .cons h t => .cons (dp_up e h) (dpAll_up e t)
end
section
variable {P : Program} {w : World} {K : PySem.W.Frag} {mg : Str → Option Value} {base : Heap} {a : Ad}
/-- an error that says that a spot is lacking: of it and the spot that is due, the same is shown -/
def sp__law_lacks (K : PySem.W.Frag) (a : Ad) : SpE := fun ea cls d vs H Q _ => ∃ (F : Hp) (u v : Addr) (dd : Addr) (e : PyData), vs = [.ref ea, .ref v] ∧ cls = .ref a.NoSpot ∧ d = some dd ∧ H dd = some (.xd [("spot", .ref u)]) ∧ Dp K H (.ref u) e ∧ Dp K H (.ref v) e ∧ Shw e ∧ Same F H ∧
  ∀ F' H', Stp F H F' H' → Q (.bl true) H'
theorem c__law_lacks (T : Txt K mg a) : ClE P w K mg base 1 "_law_lacks" P__law_lacks (sp__law_lacks K a) :=
  T.d__law_lacks.clE sc__law_lacks (fun ea cls d vs H Q E h => by obtain ⟨F, u, v, dd, e, rfl, _⟩ := h; rfl) fun f cdv A outer s H vs Q E ea oe cls d hgd hz hf hr h => by
    obtain ⟨F, u, v, dd, e, rfl, rfl, rfl, hd, h1, h2, sh, hfs, k⟩ := h
    refine ⟨_, ((pss_cons (ps_if (PW.pt (pw_or (pt_not (pt_val (pe_callB (call_isErrC T.e_NoSpot hz hf) (by rfl) T.n_isinstance (by decide +kernel) (pa_cons (pv 0) (pa_cons (pe_glob (v := .ref a.NoSpot) rfl T.g_NoSpot rfl) pa_nil))))) (pw_or (pt_val (pe_callB (call_isErrC T.e_NoSpot hz hf) (by rfl) T.n_isinstance (by decide +kernel) (pa_cons (pv 0) (pa_cons (pe_tup (pa_cons (pe_glob (v := .ref a.BadWorld) rfl T.g_BadWorld rfl) (pa_cons (pe_glob (v := .ref a.BadSpot) rfl T.g_BadSpot rfl) pa_nil))) pa_nil)))) (pw_or1 (pt_not (pt_val (pe_callB (call_isErrC T.e_NoSpot hz hf) (by rfl) T.n_isinstance (by decide +kernel) (pa_cons (pv 0) (pa_cons (pe_bltn (v := .ty "ValueError") (by rfl) T.n_ValueError (by decide +kernel) rfl) pa_nil)))))))))
 (pss_one (ps_ret pe_bl))
 pss_nil)
 (pss_one (ps_ret (pe_cmpR op_eq (pe_callB (call_repr hgd (id (unH hr :))) (by rfl) T.n_repr (by decide +kernel) (pa_cons (pe_xf T.xf_NoSpot T.no_NoSpot_spot hz hf (pv 0)) pa_nil)) (pe_callB (call_repr hgd (id (unH hr :))) (by rfl) T.n_repr (by decide +kernel) (pa_cons (pv 1) pa_nil)) (nomark _)))))), ?_⟩
    refine ⟨_, rfl, rfl, fun d' z => ⟨_, by cases z; exact hd⟩, .inl ⟨_, _, true, rfl, .own _, kit_same, true, rfl, iteF ?_⟩⟩
    refine ⟨_, rfl, by show 2 ≤ sizeLine; decide, fun tp htp => ?_⟩
    have st : Stp F H F (upd H tp (.tup [.ref a.BadWorld, .ref a.BadSpot])) := (Stm.refl hfs).raw htp htp
    have up : Same H (upd H tp (.tup [.ref a.BadWorld, .ref a.BadSpot])) := same_new htp
    have hd2 := up _ _ hd
    refine ⟨rfl, fun d' z => ⟨_, by cases z; exact hd2⟩, .inr ⟨tp, _, _, false, rfl, upd_same, .cons (.own _) (.cons (.own _) .nil), T.kn_NoSpot, false, rfl, iteF ?_⟩⟩
    refine ⟨_, rfl, rfl, fun d' z => ⟨_, by cases z; exact hd2⟩, .inl ⟨_, _, true, rfl, .ty _, T.kv_NoSpot, true, rfl, iteF ?_⟩⟩
    refine ⟨_, rfl, rfl, rfl, dd, _, .ref u, rfl, hd2, rfl, ⟨.inl ⟨u, e, rfl, dp_up up h1, sh.a, sh.b, sh.c, sh.l, _, rfl, ⟨.inl ⟨v, e, rfl, dp_up up h2, sh.a, sh.b, sh.c, sh.l, rfl, ?_⟩⟩⟩⟩⟩
    rw [decide_eq_true rfl]
    exact k _ _ st
end
end K26

set_option Elab.async false
set_option linter.all false
set_option maxRecDepth 100000
set_option maxHeartbeats 4000000
namespace K26
open PySem PySem.Spec PyProof.Rows L2 Ew
/-- a tuple of a name and two numbers or truth values, not both numbers -/
def Alike (F : Hp) (v : V) : Prop := ∃ q n x y d e, v = .ref q ∧ F q = some (.tup [.str n, x, y]) ∧ Nm n ∧ Leaf x d ∧ Leaf y e ∧ ((∃ b, x = .bl b) ∨ ∃ (i : Int) (b : Bool), x = .int i ∧ y = .bl b)
theorem Alike.up {F F' : Hp} {v : V} (h : Alike F v) (e : Same F F') : Alike F' v := by
  obtain ⟨q, n, x, y, d, e', h1, h2, h3⟩ := h
  exact ⟨q, n, x, y, d, e', h1, e _ _ h2, h3⟩
theorem Alike.notSp {K : PySem.W.Frag} {F : Hp} {v : V} (h : Alike F v) : NotSp K F v := by
  obtain ⟨q, n, x, y, d, e, rfl, h2, _, _, _, ⟨b, rfl⟩ | ⟨i, b, rfl, rfl⟩⟩ := h
  · exact .st (SqT.of h2) (.bl b) (by decide)
  · exact .day (SqT.of h2) (.bl b) (by decide)
/-- what repr tells of a thing -/
def Told (K : PySem.W.Frag) (F : Hp) (v : V) : Prop := ∃ q e, v = .ref q ∧ Dp K F v e ∧ Shw e
theorem leaf_dp {K : PySem.W.Frag} {F : Hp} {x : V} {d : PyData} (h : Leaf x d) : Dp K F x d := by
  rcases h with ⟨i, rfl, rfl, _⟩ | ⟨b, rfl, rfl⟩
  · exact .int i
  · exact .bl b
theorem Alike.told {K : PySem.W.Frag} {F : Hp} {v : V} (h : Alike F v) : Told K F v := by
  obtain ⟨q, n, x, y, d, e, rfl, h2, h3, h4, h5, _⟩ := h
  exact ⟨q, _, rfl, .tup (SqT.of h2) (.cons (.str _) (.cons (leaf_dp h4) (.cons (leaf_dp h5) .nil))), shw3 h3 h4 h5⟩
theorem Told.up {K : PySem.W.Frag} {F F' : Hp} {v : V} (h : Told K F v) (e : Same F F') : Told K F' v := by
  obtain ⟨q, d, h1, h2, h3⟩ := h
  exact ⟨q, d, h1, dp_up e h2, h3⟩
section
variable {P : Program} {w : World} {K : PySem.W.Frag} {mg : Str → Option Value} {base : Heap} {a : Ad}
/-- the suite that asks for a lacking spot -/
theorem lacks_caught (T : Txt K mg a) {Wo : WX} {D : Ends} {c0 c1 c2 c4 c5 : Option V} {tq dd : Addr} {F H : Hp} {e : PyData} (hd : F dd = some (.xd [("spot", .ref tq)])) (hf : Same F H) (dp : Dp K F (.ref tq) e) (shw : Shw e)
    (k : ∀ F' H', Stp F H F' H' → D.nx [c0, c1, c2, some (.ref tq), c4, none] H') :
    wN K Wo D [(.ref a.EllError, some 5, fun xa cls d => tIfS (tNot (tB (tCall (sp__law_lacks K a xa cls d) [] E0 (tCons (tVar 5) (tCons (tVar 3) tNil))))) (tRet (tC (.bl false))) tNext)] (.ref a.NoSpot) (some dd) [c0, c1, c2, some (.ref tq), c4, c5] H := by
  refine ⟨true, T.em_NoSpot, fun _ ea hea => ?_, fun z => nomatch z⟩
  exact ⟨_, rfl, _, rfl, F, tq, tq, dd, e, rfl, rfl, rfl, hf _ _ hd, dp_up hf dp, dp_up hf dp, shw, hf, fun F' H' st => ⟨true, rfl, iteF (k F' H' st)⟩⟩
def sp__law_strangers_refused (K : PySem.W.Frag) (a : Ad) : Sp := fun vs H Q _ => ∃ (F : Hp) (x u v t : V) (L : Prs) (o1 o2 : Option (Int × Int)), vs = [x, u, v, t] ∧ Wd K a.World F x L ∧ Same F H ∧ FineL L ∧ At K F u L o1 ∧ At K F v L o2 ∧ At K F t L none ∧ Told K F t ∧
  ((o1 = none ∧ t = u) ∨ ∃ r, o1 = some r ∧ o2 = none ∧ t = v) ∧ ∀ F' H', Stp F H F' H' → Q (.bl true) H'
theorem c__law_strangers_refused (T : Txt K mg a) : ClG P w K mg base 7 "_law_strangers_refused" P__law_strangers_refused (sp__law_strangers_refused K a) :=
  T.d__law_strangers_refused.clG sc__law_strangers_refused (fun vs H Q E h => by obtain ⟨F, x, u, v, t, L, o1, o2, rfl, _⟩ := h; rfl) fun f cdv A outer s H vs Q E hgd hr h => by
    obtain ⟨F, x, u, v, t, L, o1, o2, rfl, hx, hfs, fine, h1, h2, ht, told, cs, k⟩ := h
    refine ⟨_, ((pss_cons (ps_set (i := 4) sc__law_strangers_refused.nd rfl (Or.inl rfl) (pe_lst pa_nil))
 (pss_cons (ps_tryN rfl rfl sc__law_strangers_refused.nd (takes_of rfl rfl rfl rfl)
 (fun W pn xe tk tkp => (pss_one (ps_expr (by show PE _ _ (tBM K "list" rAppend (tVar 4) (tCons (tM a.World "gap" (sp_gap K a) [] W (tVar 0) (tCons (tVar 1) (tCons (tVar 2) tNil))) tNil)); exact pe_bm PySem.F.plainAttrs_list PySem.F.slot_list_append PySem.F.type_list_append mt_append (pv 4) (pa_cons (pe_mf (m_World_gap T) tk hr (by decide) (pv 0) (pa_cons (pv 1) (pa_cons (pv 2) pa_nil))) pa_nil)))))
 (.nm (i := 5) rfl rfl ⟨rfl, by decide, .inl T.g_EllError⟩ (fun xa oe cls d pn hz hf => (pss_one (ps_if (pt_not (pt_val (pe_fE hgd (c__law_lacks T) hz hf hr (by decide) rfl (pa_cons (pv 5) (pa_cons (pv 3) pa_nil)))))
 (pss_one (ps_ret pe_bl))
 pss_nil))) .nil))
 (pss_cons (ps_tryN rfl rfl sc__law_strangers_refused.nd (takes_of rfl rfl rfl rfl)
 (fun W pn xe tk tkp => (pss_one (ps_expr (by show PE _ _ (tBM K "list" rAppend (tVar 4) (tCons (tM a.World "keeps" (sp_keeps K a) [] W (tVar 0) (tCons (tTup (tCons (tVar 1) (tCons (tVar 2) (tCons (tC (.int 3)) (tCons (tTup (tCons (tC (.str "news")) (tCons (tC (.int 2)) tNil))) tNil))))) tNil)) tNil)); exact pe_bm PySem.F.plainAttrs_list PySem.F.slot_list_append PySem.F.type_list_append mt_append (pv 4) (pa_cons (pe_mf (m_World_keeps T) tk hr (by decide) (pv 0) (pa_cons (pe_tup (pa_cons (pv 1) (pa_cons (pv 2) (pa_cons pe_int (pa_cons (pe_tup (pa_cons pe_str (pa_cons pe_int pa_nil))) pa_nil))))) pa_nil)) pa_nil)))))
 (.nm (i := 5) rfl rfl ⟨rfl, by decide, .inl T.g_EllError⟩ (fun xa oe cls d pn hz hf => (pss_one (ps_if (pt_not (pt_val (pe_fE hgd (c__law_lacks T) hz hf hr (by decide) rfl (pa_cons (pv 5) (pa_cons (pv 3) pa_nil)))))
 (pss_one (ps_ret pe_bl))
 pss_nil))) .nil))
 (pss_cons (ps_tryN rfl rfl sc__law_strangers_refused.nd (takes_of rfl rfl rfl rfl)
 (fun W pn xe tk tkp => (pss_one (ps_expr (by show PE _ _ (tBM K "list" rAppend (tVar 4) (tCons (tIxO a.World (sp_get K a) (WE W) (tVar 0) (tVar 3)) tNil)); exact pe_bm PySem.F.plainAttrs_list PySem.F.slot_list_append PySem.F.type_list_append mt_append (pv 4) (pa_cons (pe_ixC (o_World_getitem T) tk hr (by decide) (pv 0) (pv 3) (fun _ _ => rfl)) pa_nil)))))
 (.nm (i := 5) rfl rfl ⟨rfl, by decide, .inl T.g_EllError⟩ (fun xa oe cls d pn hz hf => (pss_one (ps_if (pt_not (pt_val (pe_fE hgd (c__law_lacks T) hz hf hr (by decide) rfl (pa_cons (pv 5) (pa_cons (pv 3) pa_nil)))))
 (pss_one (ps_ret pe_bl))
 pss_nil))) .nil))
 (pss_one (ps_ret (pe_and (pe_cmpR (op_eqD hr.units) (pv 4) (pe_lst pa_nil) (nomark _)) (pe_one (pe_cmp (pc_ninC (o_World_contains T) (takes_of rfl rfl rfl rfl) hr (by decide) (pv 3) (pv 0)) rfl)))))))))), ?_⟩
    obtain ⟨tq, e, rfl, dpe, shw⟩ := told
    -- what the suite does with the error that says what is due
    refine ⟨by show 0 ≤ sizeLine; decide, fun p hp => ?_⟩
    have s1 : Stp F H F (upd H p (.lst [])) := (Stm.refl hfs).raw hp hp
    have l1 : (upd H p (.lst [])) p = some (.lst []) := upd_same
    obtain ⟨H1, eH1⟩ : ∃ H1, H1 = upd H p (.lst []) := ⟨_, rfl⟩
    rw [← eH1] at s1 l1 ⊢
    refine gn ?_
    dsimp only
    obtain ⟨xx, dx, d, o, kvs, rfl, e1, e2, e3⟩ := id hx
    have g1 := s1.fh _ _ e1
    have no : ∀ {G : Prop} {r q : Int × Int}, o1 = some r → o2 = some q → G := fun eo1 eo2 => by
      rcases cs with ⟨z, _⟩ | ⟨_, _, z, _⟩
      · rw [z] at eo1; cases eo1
      · rw [z] at eo2; cases eo2
    have is1 : o1 = none → u = .ref tq := fun z => by
      rcases cs with ⟨_, z2⟩ | ⟨_, z2, _⟩
      · exact z2.symm
      · rw [z] at z2; cases z2
    have is2 : ∀ r, o1 = some r → v = .ref tq := fun r z => by
      rcases cs with ⟨z2, _⟩ | ⟨_, _, _, z2⟩
      · rw [z] at z2; cases z2
      · exact z2.symm
    refine seq_with (fun σ' H' => ∃ F', σ' = [some (.ref xx), some u, some v, some (.ref tq), some (.ref p), none] ∧ Stp F H F' H' ∧ H' p = some (.lst [])) (fun w hw => ?_) ?_
    · refine ⟨_, rfl, .inl ⟨rfl, [], SqL.of l1⟩, _, rfl, xx, dx, _, rfl, g1, rfl, _, rfl, _, rfl, F, .ref xx, u, v, L, o1, o2, rfl, hx, s1.fh, fine, h1, h2, fun r q eo1 eo2 => no eo1 eo2, fun z F2 H2 dd st hd => ?_, fun r z1 z2 F2 H2 dd st hd => ?_⟩
      · rw [is1 z] at hd
        exact lacks_caught T hd st.fh (dp_up (s1.ff.trans st.ff) dpe) shw fun F3 H3 st3 => hw _ _ ⟨F3, rfl, (s1.transP st).transP st3, st3.hh p _ id (st.hh p _ id l1)⟩
      · rw [is2 r z1] at hd
        exact lacks_caught T hd st.fh (dp_up (s1.ff.trans st.ff) dpe) shw fun F3 H3 st3 => hw _ _ ⟨F3, rfl, (s1.transP st).transP st3, st3.hh p _ id (st.hh p _ id l1)⟩
    rintro _ H2 ⟨F2, rfl, s2, l2⟩
    have g2 := s2.fh _ _ (s2.ff _ _ e1)
    have w2 := hx.up s2.ff
    refine seq_with (fun σ' H' => ∃ F', σ' = [some (.ref xx), some u, some v, some (.ref tq), some (.ref p), none] ∧ Stp F H F' H' ∧ H' p = some (.lst [])) (fun w hw => ?_) ?_
    · refine ⟨_, rfl, .inl ⟨rfl, [], SqL.of l2⟩, _, rfl, xx, dx, _, rfl, g2, rfl, _, rfl, _, rfl, (by show 2 ≤ sizeLine; decide), fun p1 hp1 => ⟨by show 4 ≤ sizeLine; decide, fun p2 hp2 => ?_⟩⟩
      have s3 := (s2.newP (o := .tup [.str (Str.ofString "news"), .int 2]) hp1).newP (o := .tup [u, v, .int 3, .ref p1]) hp2
      have l3 := same_new hp2 (o := .tup [u, v, .int 3, .ref p1]) _ _ (same_new hp1 (o := .tup [.str (Str.ofString "news"), .int 2]) _ _ l2)
      refine ⟨_, .ref xx, u, v, .ref p1, p2, 3, L, o1, o2, rfl, sq_new, hx.up s3.ff, s3.fh, fine, by unfold Sz; exact Nat.lt_of_lt_of_le (by decide : (3 : Nat) < 2 ^ 2) (Nat.pow_le_pow_right (by decide) (by decide)), h1.up s3.ff, h2.up s3.ff, fun r q eo1 eo2 => no eo1 eo2, fun z F4 H4 dd st hd => ?_, fun r z1 z2 F4 H4 dd st hd => ?_⟩
      · rw [is1 z] at hd
        exact lacks_caught T hd st.fh (dp_up (s3.ff.trans st.ff) dpe) shw fun F5 H5 st5 => hw _ _ ⟨F5, rfl, (s3.transP st).transP st5, st5.hh p _ id (st.hh p _ id l3)⟩
      · rw [is2 r z1] at hd
        exact lacks_caught T hd st.fh (dp_up (s3.ff.trans st.ff) dpe) shw fun F5 H5 st5 => hw _ _ ⟨F5, rfl, (s3.transP st).transP st5, st5.hh p _ id (st.hh p _ id l3)⟩
    rintro _ H3 ⟨F3, rfl, s3, l3⟩
    have g3 := s3.fh _ _ (s3.ff _ _ e1)
    refine seq_with (fun σ' H' => ∃ F', σ' = [some (.ref xx), some u, some v, some (.ref tq), some (.ref p), none] ∧ Stp F H F' H' ∧ H' p = some (.lst [])) (fun w hw => ?_) ?_
    · refine ⟨_, rfl, .inl ⟨rfl, [], SqL.of l3⟩, _, rfl, _, rfl, xx, dx, _, rfl, g3, get_at (hx.up s3.ff) s3.fh (ht.up (s3.ff.trans s3.fh)) (fun _ _ z => nomatch z) fun _ F4 H4 dd st hd => ?_⟩
      exact lacks_caught T hd st.fh (dp_up (s3.ff.trans st.ff) dpe) shw fun F5 H5 st5 => hw _ _ ⟨F5, rfl, (s3.transP st).transP st5, st5.hh p _ id (st.hh p _ id l3)⟩
    rintro _ H4 ⟨F4, rfl, s4, l4⟩
    have g4 := s4.fh _ _ (s4.ff _ _ e1)
    refine ⟨_, rfl, by show 0 ≤ sizeLine; decide, fun p3 hp3 => ?_⟩
    have s5 := s4.newP (o := .lst []) hp3
    refine ⟨.list [], .list [], .lst (SqL.of (same_new hp3 _ _ l4)) .nil, .lst (SqL.of upd_same) .nil, (by decide), (by decide), true, rfl, iteT ?_⟩
    refine ⟨_, rfl, _, rfl, xx, dx, _, rfl, same_new hp3 _ _ g4, ?_⟩
    have up5 : Same F _ := s5.ff.trans s5.fh
    refine ⟨_, .ref xx, .ref tq, L, rfl, hx.up s5.ff, s5.fh, ?_⟩
    rcases ht with ⟨pp, hsp, lk⟩ | ⟨hn, _⟩
    · refine .inl ⟨pp, hsp.up up5, ?_⟩
      rw [lk]
      exact ⟨_, rfl, k _ _ s5⟩
    · exact .inr ⟨hn.up up5, _, rfl, k _ _ s5⟩
end
end K26

set_option Elab.async false
set_option linter.all false
set_option maxRecDepth 100000
set_option maxHeartbeats 4000000
namespace K26
open PySem PySem.Spec PyProof.Rows L2 Ew
section
variable {P : Program} {w : World} {K : PySem.W.Frag} {mg : Str → Option Value} {base : Heap} {a : Ad}
def AlikeL (F : Hp) (ys : List V) : Prop := ∀ y ∈ ys, Alike F y
theorem al_snoc {F : Hp} {ys : List V} {y : V} (h : AlikeL F ys) (k : Alike F y) : AlikeL F (ys ++ [y]) := fun z hz => by
  rcases List.mem_append.mp hz with hz | hz
  · exact h z hz
  · rw [List.mem_singleton.mp hz]; exact k
theorem small {n : Int} (h : Nb n) : n.natAbs.log2 < 1920 := by
  have h' : -(10 ^ 14) ≤ n ∧ n ≤ 10 ^ 14 := h
  have : n.natAbs < 2 ^ 60 := by omega
  exact Nat.lt_of_lt_of_le (PySem.Flt.log2_lt_of (by decide) this) (by decide)
def sp__law_lookalikes (K : PySem.W.Frag) : Sp := fun vs H Q _ => ∃ (F : Hp) (q : Addr) (p : Spot), vs = [.ref q] ∧ F q = some (.tup (spV p)) ∧ OkS p ∧ Same F H ∧ ∀ F' H' D ys, Stp F H F' H' → F' D = some (.lst ys) → AlikeL F' ys → ys.length ≤ 4 → Q (.ref D) H'
theorem c__law_lookalikes (T : Txt K mg a) : Cl P w K mg base 1 "_law_lookalikes" P__law_lookalikes (sp__law_lookalikes K) [] :=
  T.d__law_lookalikes.cl sc__law_lookalikes (fun vs H Q E h => by obtain ⟨F, q, p, rfl, _⟩ := h; rfl) fun f cdv A outer s H vs Q E hr h => by
    obtain ⟨F, q, p, rfl, hq, ok, hfs, k⟩ := h
    refine ⟨_, ((pss_cons (ps_set (i := 1) sc__law_lookalikes.nd rfl (Or.inl rfl) (pe_lst (pa_cons (pe_tup (pa_cons pe_str (pa_cons pe_bl (pa_cons pe_int pa_nil)))) (pa_cons (pe_tup (pa_cons pe_str (pa_cons pe_int (pa_cons pe_bl pa_nil)))) pa_nil))))
 (pss_cons (ps_if (PW.pt (pw_or (pt_cmpR op_eq (pe_ix ix_tup (pv 0) pe_int (fun _ _ => rfl)) pe_int (nomark _)) (pw_or1 (pt_cmpR op_eq (pe_ix ix_tup (pv 0) pe_int (fun _ _ => rfl)) pe_int (nomark _)))))
 (pss_one (ps_expr (pe_bm PySem.F.plainAttrs_list PySem.F.slot_list_append PySem.F.type_list_append mt_append (pv 1) (pa_cons (pe_tup (pa_cons (pe_ix ix_tup (pv 0) pe_int (fun _ _ => rfl)) (pa_cons (pe_cmpR op_eq (pe_ix ix_tup (pv 0) pe_int (fun _ _ => rfl)) pe_int (nomark _)) (pa_cons (pe_ix ix_tup (pv 0) pe_int (fun _ _ => rfl)) pa_nil)))) pa_nil))))
 pss_nil)
 (pss_cons (ps_if (PW.pt (pw_or (pt_cmpR op_eq (pe_ix ix_tup (pv 0) pe_int (fun _ _ => rfl)) pe_int (nomark _)) (pw_or1 (pt_cmpR op_eq (pe_ix ix_tup (pv 0) pe_int (fun _ _ => rfl)) pe_int (nomark _)))))
 (pss_one (ps_expr (pe_bm PySem.F.plainAttrs_list PySem.F.slot_list_append PySem.F.type_list_append mt_append (pv 1) (pa_cons (pe_tup (pa_cons (pe_ix ix_tup (pv 0) pe_int (fun _ _ => rfl)) (pa_cons (pe_ix ix_tup (pv 0) pe_int (fun _ _ => rfl)) (pa_cons (pe_cmpR op_eq (pe_ix ix_tup (pv 0) pe_int (fun _ _ => rfl)) pe_int (nomark _)) pa_nil)))) pa_nil))))
 pss_nil)
 (pss_one (ps_ret (pv 1))))))), ?_⟩
    refine ⟨(by show 3 ≤ sizeLine; decide), fun t1 ht1 => ⟨(by show 3 ≤ sizeLine; decide), fun t2 ht2 => ⟨(by show 2 ≤ sizeLine; decide), fun D hD => ?_⟩⟩⟩
    have s1 := (stp_new (o := .tup [.str (Str.ofString "ground"), .bl false, .int 0]) hfs ht1).newP (o := .tup [.str (Str.ofString "ground"), .int 0, .bl false]) ht2
    have f1 : (upd (upd F t1 (.tup [.str (Str.ofString "ground"), .bl false, .int 0])) t2 (.tup [.str (Str.ofString "ground"), .int 0, .bl false])) t1 = some (.tup [.str (Str.ofString "ground"), .bl false, .int 0]) := same_new ((stp_new (o := .tup [.str (Str.ofString "ground"), .bl false, .int 0]) hfs ht1).fh.free ht2) _ _ upd_same
    have f2 : (upd (upd F t1 (.tup [.str (Str.ofString "ground"), .bl false, .int 0])) t2 (.tup [.str (Str.ofString "ground"), .int 0, .bl false])) t2 = some (.tup [.str (Str.ofString "ground"), .int 0, .bl false]) := upd_same
    have h0 : H D = none := s1.freshP hD
    have s3 := s1.raw (o := .lst [.ref t1, .ref t2]) hD h0
    have f3 : (upd (upd F t1 (.tup [.str (Str.ofString "ground"), .bl false, .int 0])) t2 (.tup [.str (Str.ofString "ground"), .int 0, .bl false])) D = none := s1.fh.free hD
    have l3 : (upd (upd (upd H t1 (.tup [.str (Str.ofString "ground"), .bl false, .int 0])) t2 (.tup [.str (Str.ofString "ground"), .int 0, .bl false])) D (.lst [.ref t1, .ref t2])) D = some (.lst [.ref t1, .ref t2]) := upd_same
    have ng : Nm (Str.ofString "ground") := ⟨by decide +kernel, by decide +kernel⟩
    have al : AlikeL (upd (upd F t1 (.tup [.str (Str.ofString "ground"), .bl false, .int 0])) t2 (.tup [.str (Str.ofString "ground"), .int 0, .bl false])) [.ref t1, .ref t2] := fun y hy => by
      simp only [List.mem_cons, List.not_mem_nil, or_false] at hy
      rcases hy with rfl | rfl
      · exact ⟨t1, _, _, _, _, _, rfl, f1, ng, .inr ⟨_, rfl, rfl⟩, .inl ⟨_, rfl, rfl, by decide⟩, .inl ⟨_, rfl⟩⟩
      · exact ⟨t2, _, _, _, _, _, rfl, f2, ng, .inl ⟨_, rfl, rfl, by decide⟩, .inr ⟨_, rfl, rfl⟩, .inr ⟨_, _, rfl, rfl⟩⟩
    refine gn ?_
    dsimp only
    have yl : [V.ref t1, V.ref t2].length ≤ 2 := Nat.le_refl _
    generalize upd (upd F t1 (.tup [.str (Str.ofString "ground"), .bl false, .int 0])) t2 (.tup [.str (Str.ofString "ground"), .int 0, .bl false]) = F3 at *
    generalize upd (upd (upd H t1 (.tup [.str (Str.ofString "ground"), .bl false, .int 0])) t2 (.tup [.str (Str.ofString "ground"), .int 0, .bl false])) D (.lst [.ref t1, .ref t2]) = H3 at *
    clear f1 f2 s1
    generalize [V.ref t1, V.ref t2] = ys at *
    refine seq_with (fun σ' H' => ∃ F' ys, σ' = [some (.ref q), some (.ref D)] ∧ Stp F H F' H' ∧ F' D = none ∧ H' D = some (.lst ys) ∧ AlikeL F' ys ∧ ys.length ≤ 3) (fun u hu => ?_) ?_
    · have hq3 : SqT K H3 q (spV p) := SqT.of (s3.fh _ _ (s3.ff _ _ hq))
      refine ⟨_, rfl, q, _, _, _, rfl, rfl, hq3, rfl, rfl, _, rfl, ?_⟩
      by_cases e0 : V.int p.2.1 = V.int 0
      · rw [decide_eq_true e0]
        refine iteT (iteT ?_)
        refine ⟨_, rfl, .inl ⟨rfl, ys, SqL.of l3⟩, _, rfl, q, _, _, _, rfl, rfl, hq3, rfl, _, rfl, q, _, _, _, rfl, rfl, hq3, rfl, rfl, _, rfl, q, _, _, _, rfl, rfl, hq3, rfl, (by show 3 ≤ sizeLine; decide), fun t ht => ?_⟩
        have s4 := s3.newP (o := .tup [.str p.1, .bl (decide (V.int p.2.1 = V.int 1)), .int p.2.2]) ht
        have nD : t ≠ D := fun z => by rw [z, l3] at ht; cases ht
        have f4 : (upd F3 t (.tup [.str p.1, .bl (decide (V.int p.2.1 = V.int 1)), .int p.2.2])) D = none := by rw [upd_ne (Ne.symm nD)]; exact f3
        have l4 := same_new ht (o := .tup [.str p.1, .bl (decide (V.int p.2.1 = V.int 1)), .int p.2.2]) _ _ l3
        exact ⟨D, ys, .ref t, rfl, rfl, l4, by rw [sizeLine_eq]; omega, hu _ _ ⟨_, ys ++ [.ref t], rfl, s4.mut f4 h0, f4, upd_same, al_snoc (fun z hz => (al z hz).up (same_new (s3.fh.free ht))) ⟨t, p.1, _, _, _, _, rfl, upd_same, ok.nm, .inr ⟨_, rfl, rfl⟩, .inl ⟨_, rfl, rfl, small ok.day⟩, .inl ⟨_, rfl⟩⟩, by rw [List.length_append]; show ys.length + 1 ≤ 3; omega⟩⟩
      · rw [decide_eq_false e0]
        refine iteF ⟨_, rfl, q, _, _, _, rfl, rfl, hq3, rfl, rfl, _, rfl, ?_⟩
        by_cases e1 : V.int p.2.1 = V.int 1
        · rw [decide_eq_true e1]
          refine iteT ?_
          refine ⟨_, rfl, .inl ⟨rfl, ys, SqL.of l3⟩, _, rfl, q, _, _, _, rfl, rfl, hq3, rfl, _, rfl, q, _, _, _, rfl, rfl, hq3, rfl, rfl, _, rfl, q, _, _, _, rfl, rfl, hq3, rfl, (by show 3 ≤ sizeLine; decide), fun t ht => ?_⟩
          have s4 := s3.newP (o := .tup [.str p.1, .bl (decide (V.int p.2.1 = V.int 1)), .int p.2.2]) ht
          have nD : t ≠ D := fun z => by rw [z, l3] at ht; cases ht
          have f4 : (upd F3 t (.tup [.str p.1, .bl (decide (V.int p.2.1 = V.int 1)), .int p.2.2])) D = none := by rw [upd_ne (Ne.symm nD)]; exact f3
          have l4 := same_new ht (o := .tup [.str p.1, .bl (decide (V.int p.2.1 = V.int 1)), .int p.2.2]) _ _ l3
          exact ⟨D, ys, .ref t, rfl, rfl, l4, by rw [sizeLine_eq]; omega, hu _ _ ⟨_, ys ++ [.ref t], rfl, s4.mut f4 h0, f4, upd_same, al_snoc (fun z hz => (al z hz).up (same_new (s3.fh.free ht))) ⟨t, p.1, _, _, _, _, rfl, upd_same, ok.nm, .inr ⟨_, rfl, rfl⟩, .inl ⟨_, rfl, rfl, small ok.day⟩, .inl ⟨_, rfl⟩⟩, by rw [List.length_append]; show ys.length + 1 ≤ 3; omega⟩⟩
        · rw [decide_eq_false e1]
          exact iteF (hu _ _ ⟨F3, ys, rfl, s3, f3, l3, al, by omega⟩)
    clear s3 f3 l3 al yl
    rintro _ H3 ⟨F3, ys, rfl, s3, f3, l3, al, yl⟩
    refine seq_with (fun σ' H' => ∃ F' ys, σ' = [some (.ref q), some (.ref D)] ∧ Stp F H F' H' ∧ F' D = none ∧ H' D = some (.lst ys) ∧ AlikeL F' ys ∧ ys.length ≤ 4) (fun u hu => ?_) ?_
    · have hq3 : SqT K H3 q (spV p) := SqT.of (s3.fh _ _ (s3.ff _ _ hq))
      refine ⟨_, rfl, q, _, _, _, rfl, rfl, hq3, rfl, rfl, _, rfl, ?_⟩
      by_cases e0 : V.int p.2.2 = V.int 0
      · rw [decide_eq_true e0]
        refine iteT (iteT ?_)
        refine ⟨_, rfl, .inl ⟨rfl, ys, SqL.of l3⟩, _, rfl, q, _, _, _, rfl, rfl, hq3, rfl, _, rfl, q, _, _, _, rfl, rfl, hq3, rfl, _, rfl, q, _, _, _, rfl, rfl, hq3, rfl, rfl, (by show 3 ≤ sizeLine; decide), fun t ht => ?_⟩
        have s4 := s3.newP (o := .tup [.str p.1, .int p.2.1, .bl (decide (V.int p.2.2 = V.int 1))]) ht
        have nD : t ≠ D := fun z => by rw [z, l3] at ht; cases ht
        have f4 : (upd F3 t (.tup [.str p.1, .int p.2.1, .bl (decide (V.int p.2.2 = V.int 1))])) D = none := by rw [upd_ne (Ne.symm nD)]; exact f3
        have l4 := same_new ht (o := .tup [.str p.1, .int p.2.1, .bl (decide (V.int p.2.2 = V.int 1))]) _ _ l3
        exact ⟨D, ys, .ref t, rfl, rfl, l4, by rw [sizeLine_eq]; omega, hu _ _ ⟨_, ys ++ [.ref t], rfl, s4.mut f4 h0, f4, upd_same, al_snoc (fun z hz => (al z hz).up (same_new (s3.fh.free ht))) ⟨t, p.1, _, _, _, _, rfl, upd_same, ok.nm, .inl ⟨_, rfl, rfl, small ok.st⟩, .inr ⟨_, rfl, rfl⟩, .inr ⟨_, _, rfl, rfl⟩⟩, by rw [List.length_append]; show ys.length + 1 ≤ 4; omega⟩⟩
      · rw [decide_eq_false e0]
        refine iteF ⟨_, rfl, q, _, _, _, rfl, rfl, hq3, rfl, rfl, _, rfl, ?_⟩
        by_cases e1 : V.int p.2.2 = V.int 1
        · rw [decide_eq_true e1]
          refine iteT ?_
          refine ⟨_, rfl, .inl ⟨rfl, ys, SqL.of l3⟩, _, rfl, q, _, _, _, rfl, rfl, hq3, rfl, _, rfl, q, _, _, _, rfl, rfl, hq3, rfl, _, rfl, q, _, _, _, rfl, rfl, hq3, rfl, rfl, (by show 3 ≤ sizeLine; decide), fun t ht => ?_⟩
          have s4 := s3.newP (o := .tup [.str p.1, .int p.2.1, .bl (decide (V.int p.2.2 = V.int 1))]) ht
          have nD : t ≠ D := fun z => by rw [z, l3] at ht; cases ht
          have f4 : (upd F3 t (.tup [.str p.1, .int p.2.1, .bl (decide (V.int p.2.2 = V.int 1))])) D = none := by rw [upd_ne (Ne.symm nD)]; exact f3
          have l4 := same_new ht (o := .tup [.str p.1, .int p.2.1, .bl (decide (V.int p.2.2 = V.int 1))]) _ _ l3
          exact ⟨D, ys, .ref t, rfl, rfl, l4, by rw [sizeLine_eq]; omega, hu _ _ ⟨_, ys ++ [.ref t], rfl, s4.mut f4 h0, f4, upd_same, al_snoc (fun z hz => (al z hz).up (same_new (s3.fh.free ht))) ⟨t, p.1, _, _, _, _, rfl, upd_same, ok.nm, .inl ⟨_, rfl, rfl, small ok.st⟩, .inr ⟨_, rfl, rfl⟩, .inr ⟨_, _, rfl, rfl⟩⟩, by rw [List.length_append]; show ys.length + 1 ≤ 4; omega⟩⟩
        · rw [decide_eq_false e1]
          exact iteF (hu _ _ ⟨F3, ys, rfl, s3, f3, l3, al, by omega⟩)
    clear s3 f3 l3 al yl
    rintro _ H3 ⟨F3, ys, rfl, s3, f3, l3, al, yl⟩
    exact ⟨_, rfl, k _ _ D ys (s3.freeze f3 h0 l3) upd_same (fun y hy => (al y hy).up (same_new f3)) yl⟩
end
end K26

set_option Elab.async false
set_option linter.all false
set_option maxRecDepth 100000
set_option maxHeartbeats 4000000
namespace K26
open PySem PySem.Spec PyProof.Rows L2 Ew
/-! ### what two worlds lack of each other -/
def lostP (L M : Prs) : List Spot := ((L.map (·.1)).filter fun p => !decide (p ∈ M.map (·.1))) ++ (M.map (·.1)).filter fun p => !decide (p ∈ L.map (·.1))
theorem lack_head (L M : Prs) : ((L.map (·.1)).filter fun p => !decide (p ∈ M.map (·.1))).head? = lack L M := by
  rw [List.head?_filter, List.find?_map]
  unfold lack
  congr 1
  congr 1
  funext s
  show (!decide (s.1 ∈ M.map (·.1))) = (look M s.1).isNone
  cases e : look M s.1 with
  | none => rw [decide_eq_false (look_none.mp e)]; rfl
  | some r =>
    have : s.1 ∈ M.map (·.1) := by
      refine Classical.byContradiction fun z => ?_
      rw [look_none.mpr z] at e
      cases e
    rw [decide_eq_true this]; rfl
theorem lost_head (L M : Prs) : (lostP L M).head? = lost L M := by
  unfold lostP lost
  rw [List.head?_append, lack_head, lack_head]
theorem lost_nil {L M : Prs} : lost L M = none ↔ lostP L M = [] := by
  rw [← lost_head, List.head?_eq_none_iff]
theorem ss_filter_snoc {F : Hp} {zs : List V} {ps : List Spot} {f : Spot → Bool} {x : V} {p : Spot} (h : Ss F zs (ps.filter f)) (k : Spt F x p) (t : f p = true) : Ss F (zs ++ [x]) ((ps ++ [p]).filter f) := by
  rw [List.filter_append, show [p].filter f = [p] by simp [t]]
  exact h.snoc k
/-- [spot for spot in a if spot not in b] -/
theorem lc_lost {K : PySem.W.Frag} {F H : Hp} {σ : L2.St} {iA iB : Nat} {A B : Addr} {xs ys : List V} {ps qs : List Spot} {Q : VK} (hA : σ[iA]? = some (some (.ref A))) (hv : ∀ v, ((wipe σ [15]).set 15 (some v))[15]? = some (some v))
    (hB : ∀ v, ((wipe σ [15]).set 15 (some v))[iB]? = some (some (.ref B))) (hw : ∀ v, wipe ((wipe σ [15]).set 15 (some v)) [15] = wipe σ [15]) (hf : Same F H) (lA : SqL K F A xs) (lB : SqL K F B ys) (sA : Ss F xs ps) (sB : Ss F ys qs) (okA : ∀ p ∈ ps, OkS p) (okB : ∀ p ∈ qs, OkS p) (len : ps.length ≤ 1000)
    (k : ∀ F' H' D zs, Stp F H F' H' → F' D = none → H' D = some (.lst zs) → H D = none → Ss F' zs (ps.filter fun p => !decide (p ∈ qs)) → Q (.ref D) H') :
    tLc (iList K (tVar iA)) (gName 15) (tTest (tOp (rNotInD K) (tVar 15) (tVar iB))) (tVar 15) [15] σ H Q := by
  refine ⟨_, hA, A, rfl, ⟨xs, upL hf lA⟩, fun D hD => ?_⟩
  have fD : F D = none := hf.free hD
  refine lc_it (walk_list (xs := xs)) (fun i H' => ∃ zs, Stp F H F H' ∧ H' D = some (.lst zs) ∧ Ss F zs ((ps.take i).filter fun p => !decide (p ∈ qs))) ?_ ?_ ?_ ?_
  · exact ⟨[], (Stm.refl hf).raw hD hD, upd_same, ⟨rfl, fun i p z => by simp at z⟩⟩
  · rintro i H' _ ⟨zs, s1, _⟩
    exact upL s1.fh lA
  · rintro i x H2o H2 hi ⟨zs, s1, h1, ss⟩ ⟨eH, hx⟩
    subst eH
    obtain ⟨p, hp⟩ : ∃ p, ps[i]? = some p := ⟨_, List.getElem?_eq_getElem (by rw [← sA.1]; exact (List.getElem?_eq_some_iff.mp hx).1)⟩
    obtain ⟨x', e, hsp⟩ := sA.2 i p hp
    rw [hx] at e
    cases e
    have okp := okA p (List.mem_of_getElem? hp)
    have tk : ps.take (i + 1) = ps.take i ++ [p] := by rw [List.take_add_one, hp]; rfl
    refine ⟨hw x, _, hv x, _, hB x, not_in (upL s1.fh lB) (sB.up s1.fh) okB (hsp.up s1.fh) okp.nm.1 ⟨_, rfl, ?_⟩⟩
    by_cases z : p ∈ qs
    · rw [decide_eq_true z]
      refine iteF ⟨zs, s1, h1, ?_⟩
      rw [tk, List.filter_append, show [p].filter (fun p => !decide (p ∈ qs)) = [] by simp [z], List.append_nil]
      exact ss
    · rw [decide_eq_false z]
      have zl : zs.length ≤ 1000 := by
        rw [ss.1]
        have := List.length_filter_le (fun p => !decide (p ∈ qs)) (ps.take i)
        rw [List.length_take] at this
        omega
      refine iteT ⟨_, hv x, zs, h1, by rw [sizeLine_eq]; omega, zs ++ [x], s1.mut fD hD, upd_same, ?_⟩
      rw [tk]
      exact ss_filter_snoc ss hsp (by simp [z])
  · rintro H2 ⟨zs, s1, h1, ss⟩
    refine k F H2 D zs s1 fD h1 hD ?_
    rw [show xs.length = ps.length from sA.1, List.take_length] at ss
    exact ss
/-- two ratios in lowest terms that are alike are one -/
theorem low_eq {r q : Int × Int} (h : Low r) (k : Low q) (e : r.1 * q.2 = q.1 * r.2) : r = q := by
  obtain ⟨a, b⟩ := r
  obtain ⟨c, d⟩ := q
  obtain ⟨h1, h2⟩ := h
  obtain ⟨k1, k2⟩ := k
  dsimp only at *
  have d1 : d.natAbs ∣ b.natAbs := by
    have : d.natAbs ∣ c.natAbs * b.natAbs := by
      rw [← Int.natAbs_mul, ← e, Int.natAbs_mul]
      exact Nat.dvd_mul_left _ _
    exact Nat.Coprime.dvd_of_dvd_mul_left (Nat.Coprime.symm k2) this
  have d2 : b.natAbs ∣ d.natAbs := by
    have : b.natAbs ∣ a.natAbs * d.natAbs := by
      rw [← Int.natAbs_mul, e, Int.natAbs_mul]
      exact Nat.dvd_mul_left _ _
    exact Nat.Coprime.dvd_of_dvd_mul_left (Nat.Coprime.symm h2) this
  have eb : b = d := by
    have := Nat.dvd_antisymm d2 d1
    omega
  subst eb
  have : a = c := Int.eq_of_mul_eq_mul_right (by omega) e
  rw [this]
end K26

set_option Elab.async false
set_option linter.all false
set_option maxRecDepth 100000
set_option maxHeartbeats 4000000
namespace K26
open PySem PySem.Spec PyProof.Rows L2 Ew
theorem seq_asg {te : TE} {g : TG} {u : TS} {D : Ends} {σ : L2.St} {H : Hp} (h : te σ H fun v H1 => g v σ H1 fun σ2 H2 => u D σ2 H2) : tSeq (tAsg te g) u D σ H := h
theorem op_in {r : R2} {ta tb : TE} {σ : L2.St} {H : Hp} {Q : VK} (h : ta σ H fun x H1 => tb σ H1 fun y H2 => r x y H2 Q) : tOp r ta tb σ H Q := h
/-- [pair[0] for pair in pairs] -/
theorem lc_firsts {K : PySem.W.Frag} {F H : Hp} {σ : L2.St} {n iA : Nat} {A : Addr} {xs : List V} {L : Prs} {Q : VK} (hA : σ[iA]? = some (some (.ref A))) (hv : ∀ v, ((wipe σ [n]).set n (some v))[n]? = some (some v))
    (hw : ∀ v, wipe ((wipe σ [n]).set n (some v)) [n] = wipe σ [n]) (hf : Same F H) (lA : SqL K F A xs) (hp : PrL K F xs L) (len : L.length ≤ 1000) (k : ∀ F' H' D zs, Stp F H F' H' → F' D = some (.lst zs) → Ss F' zs (L.map (·.1)) → Q (.ref D) H') :
    tLc (iList K (tVar iA)) (gName n) tYes (tOp (rIxT K) (tVar n) (tC (.int 0))) [n] σ H Q := by
  have xl := hp.len
  refine ⟨_, hA, A, rfl, ⟨xs, upL hf lA⟩, fun D hD => ?_⟩
  refine lcM memP (walk_list (xs := xs)) hf trivial hD (fun i F y => ∃ s, L[i]? = some s ∧ Spt F y s.1) (fun _ _ _ _ e z => by obtain ⟨s, h1, h2⟩ := z; exact ⟨s, h1, h2.up e⟩) (by omega) (fun F' H' e1 e2 => upL e2 (upL e1 lA)) ?_ ?_
  · rintro i y F' H2o H2 Kt Kn hi s1 _ ⟨eH, hy⟩ kk
    subst eH
    obtain ⟨s', hs, q, u, wv, rfl, hq, hu, hw', _⟩ := hp.at hy
    exact ⟨hw _, lc_yes ⟨_, hv _, q, _, _, _, rfl, rfl, upT s1.fh (upT s1.ff hq), at0, kk _ _ _ (.refl s1.fh) trivial ⟨s', hs, hu.up s1.ff⟩⟩⟩
  · intro F1 H1 zs s1 _ hD1 yl hr'
    refine k F1 H1 D zs s1 hD1 ⟨by rw [yl, xl, List.length_map], fun i p hpi => ?_⟩
    rw [List.getElem?_map, Option.map_eq_some_iff] at hpi
    obtain ⟨s', hs', rfl⟩ := hpi
    have lt : i < zs.length := by rw [yl, xl]; exact (List.getElem?_eq_some_iff.mp hs').1
    obtain ⟨s2, h2, h3⟩ := hr' i _ (List.getElem?_eq_getElem lt)
    rw [hs'] at h2
    cases h2
    exact ⟨_, List.getElem?_eq_getElem lt, h3⟩
theorem Ss.append {F : Hp} {xs ys : List V} {ps qs : List Spot} (h : Ss F xs ps) (k : Ss F ys qs) : Ss F (xs ++ ys) (ps ++ qs) := ⟨by rw [List.length_append, List.length_append, h.1, k.1], fun i p hp => by
  by_cases z : i < ps.length
  · rw [List.getElem?_append_left z] at hp
    obtain ⟨x, h1, h2⟩ := h.2 i p hp
    exact ⟨x, by rw [List.getElem?_append_left (by rw [h.1]; exact z)]; exact h1, h2⟩
  · rw [List.getElem?_append_right (by omega)] at hp
    obtain ⟨x, h1, h2⟩ := k.2 _ p hp
    exact ⟨x, by rw [List.getElem?_append_right (by rw [h.1]; omega), h.1]; exact h1, h2⟩⟩
theorem look_take {L : Prs} {j : Nat} {s : Spot × (Int × Int)} (nd : (L.map (·.1)).Nodup) (h : L[j]? = some s) : look (L.take j) s.1 = none := by
  rw [look_none]
  intro hm
  rw [List.map_take] at hm
  obtain ⟨i, hi⟩ := List.mem_iff_getElem?.mp hm
  rw [List.getElem?_take] at hi
  have il : i < j := by
    by_cases q : i < j
    · exact q
    · rw [if_neg q] at hi; cases hi
  rw [if_pos il] at hi
  have e2 : (L.map (·.1))[j]? = some s.1 := by rw [List.getElem?_map, h]; rfl
  have := (List.getElem?_inj (List.getElem?_eq_some_iff.mp hi).1 nd).mp (hi.trans e2.symm)
  omega
/-- the greater and the lesser, as they are told apart -/
theorem mix_hi {M : Prs} {s : Spot × (Int × Int)} {q : Int × Int} (h : look M s.1 = some q) : mixR 1 M s = if s.2.1 * q.2 < q.1 * s.2.2 then q else s.2 := by
  unfold mixR
  rw [h]
  dsimp only
  unfold rCmp
  by_cases e1 : q.1 * s.2.2 = s.2.1 * q.2
  · rw [if_pos e1, if_neg (by decide), if_neg (by omega)]
  · rw [if_neg e1]
    by_cases e2 : q.1 * s.2.2 < s.2.1 * q.2
    · rw [if_pos e2, if_neg (by decide), if_neg (by omega)]
    · rw [if_neg e2, if_pos rfl, if_pos (by omega)]
theorem mix_lo {M : Prs} {s : Spot × (Int × Int)} {q : Int × Int} (h : look M s.1 = some q) (l1 : Low s.2) (l2 : Low q) : mixR (-1) M s = if s.2.1 * q.2 < q.1 * s.2.2 then s.2 else q := by
  unfold mixR
  rw [h]
  dsimp only
  unfold rCmp
  by_cases e1 : q.1 * s.2.2 = s.2.1 * q.2
  · rw [if_pos e1, if_neg (by decide), if_neg (by omega)]
    exact low_eq l1 l2 e1.symm
  · rw [if_neg e1]
    by_cases e2 : q.1 * s.2.2 < s.2.1 * q.2
    · rw [if_pos e2, if_pos rfl, if_neg (by omega)]
    · rw [if_neg e2, if_neg (by decide), if_pos (by omega)]
section
variable {P : Program} {w : World} {K : PySem.W.Frag} {mg : Str → Option Value} {base : Heap} {a : Ad}
theorem at_zero {v : V} {xs : List V} : atI (v :: xs) 0 = some v := by
  have e : ixN (v :: xs).length 0 = some 0 := by
    unfold ixN
    rw [if_pos (by decide), if_pos (by rw [List.length_cons]; omega)]
    rfl
  unfold atI
  rw [e]
  rfl
/-- for i in range(n) -/
theorem for_rng {n : Nat} {g : TG} {tb u : TS} {D : Ends} {σ : L2.St} {H : Hp} (hn : n < 1000) (Pv : Nat → L2.St → Hp → Prop) (h0 : Pv 0 σ H)
    (hs : ∀ i σ H, i < n → Pv i σ H → g (.int (0 + (i : Int))) σ H fun σ2 H2 => tb ⟨Pv (i + 1), D.rt, u D, Pv (i + 1)⟩ σ2 H2) (hd : ∀ σ H, Pv n σ H → u D σ H) : tSeq (tFor (iRng1 (tCons (tC (.int n)) tNil)) g tb) u D σ H := by
  refine ⟨n, rfl, by omega, by omega, ?_⟩
  refine for_it (tb := tb) walk_range Pv h0 (fun _ _ _ _ _ => trivial) ?_ ?_
  · rintro i y σ' H' _ hi p ⟨rfl, rfl⟩
    exact hs i σ' _ (by simpa using hi) p
  · intro σ' H' p
    exact hd σ' H' (by simpa using p)
theorem mixed_caught (T : Txt K mg a) {Wo : WX} {D : Ends} {c0 c1 c2 c3 c4 c5 c7 c8 c9 c10 c11 c12 c13 c14 c15 : Option V} {D5 d : Addr} {zs : List V} {L M : Prs} {p : Spot} {F H : Hp} {u : V} (hz : F D5 = some (.lst zs)) (ss : Ss F zs (lostP L M)) (oks : ∀ p ∈ lostP L M, OkS p) (hp : lost L M = some p) (hf : Same F H) (hu : Spt H u p) (hd : H d = none)
    (k : ∀ F' H', Stp F H F' H' → D.nx [c0, c1, c2, c3, c4, c5, some (.ref D5), c7, c8, none, c10, c11, c12, c13, c14, c15] H') :
    wN K Wo D [(.ref a.EllError, some 9, fun xa cls d => tIfS (tOr (tTest (tOp (rEqD K) (tVar 6) (tLst tNil))) (tNot (tB (tCall (sp__law_lacks K a xa cls d) [] E0 (tCons (tVar 9) (tCons (tOp (rIxL K) (tVar 6) (tC (.int 0))) tNil)))))) (tRet (tC (.bl false))) tNext)] (.ref a.NoSpot) (some d)
      [c0, c1, c2, c3, c4, c5, some (.ref D5), c7, c8, c9, c10, c11, c12, c13, c14, c15] (upd H d (.xd [("spot", u)])) := by
  obtain ⟨uq, rfl, huq⟩ := hu
  have h0 : (lostP L M)[0]? = some p := by rw [← List.head?_eq_getElem?, lost_head]; exact hp
  obtain ⟨v0, hv0, vq, rfl, hvq⟩ := ss.2 0 p h0
  have ne : lostP L M ≠ [] := fun z => by rw [z] at h0; cases h0
  have okp := oks p (List.mem_of_getElem? h0)
  have s1 : Stp F H F (upd H d (.xd [("spot", .ref uq)])) := (Stm.refl hf).raw hd hd
  have e1 : Same H (upd H d (.xd [("spot", .ref uq)])) := same_new hd
  have hd1 : (upd H d (.xd [("spot", .ref uq)])) d = some (.xd [("spot", .ref uq)]) := upd_same
  refine ⟨true, T.em_NoSpot, fun _ ea hea => ?_, fun z => nomatch z⟩
  refine ⟨_, rfl, by show 0 ≤ sizeLine; decide, fun p8 hp8 => ?_⟩
  have s2 := s1.raw (o := .lst []) hp8 (s1.freshP hp8)
  have e2 := same_new hp8 (o := .lst [])
  refine ⟨.list ((lostP L M).map spD), .list (([] : List Spot).map spD), .lst (SqL.of (s2.fh _ _ hz)) (ss.up s2.fh).dp, .lst (SqL.of upd_same) .nil, (fl_spots oks).sh (by decide), by decide, ?_⟩
  rw [eqv_sps, decide_eq_false ne]
  refine ⟨_, rfl, iteF ?_⟩
  obtain ⟨rest, rfl⟩ : ∃ rest, zs = .ref vq :: rest := by
    cases zs with
    | nil => cases hv0
    | cons z zs => cases hv0; exact ⟨zs, rfl⟩
  exact ⟨_, rfl, _, rfl, D5, _, 0, .ref vq, rfl, rfl, SqL.of (s2.fh _ _ hz), at_zero, F, uq, vq, d, spD p, rfl, rfl, rfl, e2 _ _ hd1, dp_sp (SqT.of (e2 _ _ (e1 _ _ huq))), dp_sp (SqT.of (s2.fh _ _ hvq)), shw3 okp.nm (.inl ⟨_, rfl, rfl, small okp.st⟩) (.inl ⟨_, rfl, rfl, small okp.day⟩), s2.fh,
    fun F' H' st => ⟨true, rfl, iteF (k F' H' (s2.transP st))⟩⟩
/-- the worlds made so far -/
structure MadeOk (K : PySem.W.Frag) (C : Addr) (F : Hp) (L M : Prs) (i : Nat) (acc : List V) : Prop where
  a : lost L M = none → acc.length = i ∧ (∀ z, acc[0]? = some z → Wd K C F z (mix 1 L M)) ∧ ∀ z, acc[1]? = some z → Wd K C F z (mix (-1) L M)
  b : lost L M ≠ none → acc = []
  c : acc.length ≤ i
/-- the greater ones and the lesser ones so far -/
structure Mid (K : PySem.W.Frag) (F H F7 : Hp) (D6 D7 A1 A2 : Addr) (acc : List V) (kvs : List (List Key × V)) (F' H' : Hp) (hs ls : List V) (N1 N2 : Prs) : Prop where
  st : Stp F H F' H'
  e : Same F7 F'
  f1 : F' A1 = none
  f2 : F' A2 = none
  h1 : H' A1 = some (.lst hs)
  h2 : H' A2 = some (.lst ls)
  h7 : H' D7 = some (.dT kvs)
  h6 : H' D6 = some (.lst acc)
  p1 : PrL K F' hs N1
  p2 : PrL K F' ls N2
theorem PrL.snoc {K : PySem.W.Frag} {F : Hp} {xs : List V} {L : Prs} {x : V} {s : Spot × (Int × Int)} (h : PrL K F xs L) (k : Pr K any1 F x s) : PrL K F (xs ++ [x]) (L ++ [s]) := Paired.snoc h k
theorem Mid.hi {K : PySem.W.Frag} {F H F7 F' H' : Hp} {D6 D7 A1 A2 t qs : Addr} {acc hs ls : List V} {kvs : List (List Key × V)} {N1 N2 : Prs} {v : V} {s : Spot × (Int × Int)} (m : Mid K F H F7 D6 D7 A1 A2 acc kvs F' H' hs ls N1 N2) (n1 : H A1 = none) (d7 : D7 ≠ A1) (d6 : D6 ≠ A1) (d2 : A2 ≠ A1) (ht : H' t = none)
    (hq : F' qs = some (.tup (spV s.1))) (hv : Rt K F' v s.2) : Mid K F H F7 D6 D7 A1 A2 acc kvs (upd F' t (.tup [.ref qs, v])) (upd (upd H' t (.tup [.ref qs, v])) A1 (.lst (hs ++ [.ref t]))) (hs ++ [.ref t]) ls (N1 ++ [s]) N2 := by
  have e1 := same_new ht (o := .tup [.ref qs, v])
  have ef := same_new (m.st.fh.free ht) (o := .tup [.ref qs, v])
  have tA1 : A1 ≠ t := fun z => by rw [← z, m.h1] at ht; cases ht
  have tA2 : A2 ≠ t := fun z => by rw [← z, m.h2] at ht; cases ht
  have g1 : (upd F' t (.tup [.ref qs, v])) A1 = none := by rw [upd_ne tA1]; exact m.f1
  refine ⟨(m.st.newP ht).mut g1 n1, m.e.trans ef, g1, by rw [upd_ne tA2]; exact m.f2, upd_same, by rw [upd_ne d2]; exact e1 _ _ m.h2, by rw [upd_ne d7]; exact e1 _ _ m.h7, by rw [upd_ne d6]; exact e1 _ _ m.h6, ?_, m.p2.up ef⟩
  exact (m.p1.up ef).snoc ⟨t, .ref qs, v, rfl, SqT.of upd_same, ⟨qs, rfl, ef _ _ hq⟩, hv.up ef, trivial⟩
theorem Mid.swap {K : PySem.W.Frag} {F H F7 F' H' : Hp} {D6 D7 A1 A2 : Addr} {acc hs ls : List V} {kvs : List (List Key × V)} {N1 N2 : Prs} (m : Mid K F H F7 D6 D7 A1 A2 acc kvs F' H' hs ls N1 N2) : Mid K F H F7 D6 D7 A2 A1 acc kvs F' H' ls hs N2 N1 := ⟨m.st, m.e, m.f2, m.f1, m.h2, m.h1, m.h7, m.h6, m.p2, m.p1⟩
theorem mix_take {g : Int} {L M : Prs} {i : Nat} {s : Spot × (Int × Int)} (h : L[i]? = some s) : (mix g L M).take (i + 1) = (mix g L M).take i ++ [(s.1, mixR g M s)] := by
  have : (mix g L M)[i]? = some (s.1, mixR g M s) := by unfold mix; rw [List.getElem?_map, h]; rfl
  rw [List.take_add_one, this]
  rfl
def sp__law_mixed_as_due (K : PySem.W.Frag) (a : Ad) : Sp := fun vs H Q _ => ∃ (F : Hp) (x y : V) (p q : Addr) (xs ys : List V) (L M : Prs), vs = [x, y, .ref p, .ref q] ∧ Wd K a.World F x L ∧ Wd K a.World F y M ∧ SqL K F p xs ∧ SqL K F q ys ∧ PrL K F xs L ∧ PrL K F ys M ∧ OkW L ∧ OkW M ∧ (∀ s ∈ L, OkS s.1) ∧ (∀ s ∈ M, OkS s.1) ∧ Same F H ∧
  ∀ F' H', Stp F H F' H' → Q (.bl true) H'
theorem c__law_mixed_as_due (T : Txt K mg a) : ClG P w K mg base 8 "_law_mixed_as_due" P__law_mixed_as_due (sp__law_mixed_as_due K a) :=
  T.d__law_mixed_as_due.clG sc__law_mixed_as_due (fun vs H Q E h => by obtain ⟨F, x, y, p, q, xs, ys, L, M, rfl, _⟩ := h; rfl) fun f cdv A outer s H vs Q E hgd hr h => by
    obtain ⟨F, x, y, p, q, xs, ys, L, M, rfl, hx, hy, hp, hq, hxs, hys, okL, okM, okA, okB, hfs, k⟩ := h
    refine ⟨_, ((pss_cons (ps_set (i := 4) sc__law_mixed_as_due.nd rfl (Or.inr rfl) (pe_lc (own := [("_law_pair", 11)]) (g := (gName 11)) (by rfl) sc__law_mixed_as_due.nd (pi_list (pv 3)) (blkOk_by (own := [("_law_pair", 11)]) (N := N__law_mixed_as_due) (sc := defScope s__law_mixed_as_due) (by decide +kernel)) (fun _ _ _ _ _ => (pg_name (i := 11) sc__law_mixed_as_due.nd rfl (Or.inl rfl) (hf := .inr rfl))) (fun _ _ _ _ _ => pts_nil) (fun _ _ _ _ _ => (pe_ix (r := rIxT K) ix_tup (pv 11) pe_int (fun _ _ => rfl)))))
 (pss_cons (ps_set (i := 5) sc__law_mixed_as_due.nd rfl (Or.inr rfl) (pe_lc (own := [("_law_pair", 11)]) (g := (gName 11)) (by rfl) sc__law_mixed_as_due.nd (pi_list (pv 2)) (blkOk_by (own := [("_law_pair", 11)]) (N := N__law_mixed_as_due) (sc := defScope s__law_mixed_as_due) (by decide +kernel)) (fun _ _ _ _ _ => (pg_name (i := 11) sc__law_mixed_as_due.nd rfl (Or.inl rfl) (hf := .inr rfl))) (fun _ _ _ _ _ => pts_nil) (fun _ _ _ _ _ => (pe_ix (r := rIxT K) ix_tup (pv 11) pe_int (fun _ _ => rfl)))))
 (pss_cons (ps_set (i := 6) sc__law_mixed_as_due.nd rfl (Or.inl rfl) (pe_op op_cat (pe_lc (own := [("_law_spot", 15)]) (g := (gName 15)) (by rfl) sc__law_mixed_as_due.nd (pi_list (pv 5)) (blkOk_by (own := [("_law_spot", 15)]) (N := N__law_mixed_as_due) (sc := defScope s__law_mixed_as_due) (by decide +kernel)) (fun _ _ _ _ _ => (pg_name (i := 15) sc__law_mixed_as_due.nd rfl (Or.inl rfl) (hf := .inr rfl))) (fun _ _ _ _ _ => (pts_one (pt_cmpR (r := rNotInD K) (op_notInD (by exact units5 hr)) (pv 15) (pv 4) (by rfl)))) (fun _ _ _ _ _ => (pv 15))) (pe_lc (own := [("_law_spot", 15)]) (g := (gName 15)) (by rfl) sc__law_mixed_as_due.nd (pi_list (pv 4)) (blkOk_by (own := [("_law_spot", 15)]) (N := N__law_mixed_as_due) (sc := defScope s__law_mixed_as_due) (by decide +kernel)) (fun _ _ _ _ _ => (pg_name (i := 15) sc__law_mixed_as_due.nd rfl (Or.inl rfl) (hf := .inr rfl))) (fun _ _ _ _ _ => (pts_one (pt_cmpR (r := rNotInD K) (op_notInD (by exact units5 hr)) (pv 15) (pv 5) (by rfl)))) (fun _ _ _ _ _ => (pv 15)))))
 (pss_cons (ps_set (i := 7) sc__law_mixed_as_due.nd rfl (Or.inl rfl) (pe_lst pa_nil))
 (pss_cons (ps_for (passes_of rfl) rfl (pi_range1 (by rfl) T.n_range (pa_cons pe_int pa_nil)) (pg_name (i := 8) sc__law_mixed_as_due.nd rfl (Or.inl rfl))
 (pss_one (ps_tryN rfl rfl sc__law_mixed_as_due.nd (takes_of rfl rfl rfl rfl)
 (fun W pn xe tk tkp => (pss_one (ps_expr (by show PE _ _ (tBM K "list" rAppend (tVar 7) (tCons (tIf (tTest (tOp rEq (tVar 8) (tC (.int 0)))) (tF (fun vs H Q E => ∃ x y, vs = [x, y] ∧ sp__chosen K a [x, y, .int 1] H Q E) [] W (tCons (tVar 0) (tCons (tVar 1) tNil))) (tF (fun vs H Q E => ∃ x y, vs = [x, y] ∧ sp__chosen K a [x, y, .int (-1)] H Q E) [] W (tCons (tVar 0) (tCons (tVar 1) tNil)))) tNil)); exact pe_bm PySem.F.plainAttrs_list PySem.F.slot_list_append PySem.F.type_list_append mt_append (pv 7) (pa_cons (pe_ifExp (pt_cmpR op_eq (pv 8) pe_int (nomark _)) (pe_f (c_higher T) tk hr (by decide) rfl (pa_cons (pv 0) (pa_cons (pv 1) pa_nil))) (pe_f (c_lower T) tk hr (by decide) rfl (pa_cons (pv 0) (pa_cons (pv 1) pa_nil)))) pa_nil)))))
 (.nm (i := 9) rfl rfl ⟨rfl, by decide, .inl T.g_EllError⟩ (fun xa oe cls d pn hz hf => (pss_one (ps_if (PW.pt (pw_or (pt_cmpR (r := rEqD K) (op_eqD (by exact hr.units)) (pv 6) (pe_lst pa_nil) (nomark _)) (pw_or1 (pt_not (pt_val (pe_fE hgd (c__law_lacks T) hz hf hr (by decide) rfl (pa_cons (pv 9) (pa_cons (pe_ix (r := rIxL K) ix_list (pv 6) pe_int (fun _ _ => rfl)) pa_nil))))))))
 (pss_one (ps_ret pe_bl))
 pss_nil))) .nil))))
 (pss_cons (ps_if (pt_cmpR (op_neD hr.units) (pv 6) (pe_lst pa_nil) (nomark _))
 (pss_one (ps_ret (pe_cmpR (op_eqD hr.units) (pv 7) (pe_lst pa_nil) (nomark _))))
 pss_nil)
 (pss_cons (ps_set (i := 10) sc__law_mixed_as_due.nd rfl (Or.inl rfl) pe_dnewT)
 (pss_cons (ps_for (passes_of rfl) rfl (pi_list (pv 3)) (pg_name (i := 11) sc__law_mixed_as_due.nd rfl (Or.inl rfl))
 (pss_one (ps_dput (hu_of hr) (pv 10) (pe_ix ix_tup (pv 11) pe_int (fun _ _ => rfl)) (pe_ix ix_tup (pv 11) pe_int (fun _ _ => rfl)) rfl)))
 (pss_cons (ps_set (i := 12) sc__law_mixed_as_due.nd rfl (Or.inl rfl) (pe_lst pa_nil))
 (pss_cons (ps_set (i := 13) sc__law_mixed_as_due.nd rfl (Or.inl rfl) (pe_lst pa_nil))
 (pss_cons (ps_for (passes_of rfl) rfl (pi_list (pv 2)) (pg_name (i := 11) sc__law_mixed_as_due.nd rfl (Or.inl rfl))
 (pss_cons (ps_set (i := 14) sc__law_mixed_as_due.nd rfl (Or.inl rfl) (pe_f (c__law_less T) (takes_of rfl rfl rfl rfl) hr (by decide) rfl (pa_cons (pe_ix ix_tup (pv 11) pe_int (fun _ _ => rfl)) (pa_cons (pe_dget (hu_of hr) (pv 10) (pe_ix ix_tup (pv 11) pe_int (fun _ _ => rfl)) (fun _ _ => rfl)) pa_nil))))
 (pss_cons (ps_expr (pe_bm PySem.F.plainAttrs_list PySem.F.slot_list_append PySem.F.type_list_append mt_append (pv 12) (pa_cons (pe_tup (pa_cons (pe_ix ix_tup (pv 11) pe_int (fun _ _ => rfl)) (pa_cons (pe_ifExp (pt_val (pv 14)) (pe_dget (hu_of hr) (pv 10) (pe_ix ix_tup (pv 11) pe_int (fun _ _ => rfl)) (fun _ _ => rfl)) (pe_ix ix_tup (pv 11) pe_int (fun _ _ => rfl))) pa_nil))) pa_nil)))
 (pss_one (ps_expr (pe_bm PySem.F.plainAttrs_list PySem.F.slot_list_append PySem.F.type_list_append mt_append (pv 13) (pa_cons (pe_tup (pa_cons (pe_ix ix_tup (pv 11) pe_int (fun _ _ => rfl)) (pa_cons (pe_ifExp (pt_val (pv 14)) (pe_ix ix_tup (pv 11) pe_int (fun _ _ => rfl)) (pe_dget (hu_of hr) (pv 10) (pe_ix ix_tup (pv 11) pe_int (fun _ _ => rfl)) (fun _ _ => rfl))) pa_nil))) pa_nil)))))))
 (pss_one (ps_ret (pe_and (pe_f (c__law_told_well T) (takes_of rfl rfl rfl rfl) hr (by decide) rfl (pa_cons (pe_ix ix_list (pv 7) pe_int (fun _ _ => rfl)) (pa_cons (pv 12) pa_nil))) (pe_one (pe_f (c__law_told_well T) (takes_of rfl rfl rfl rfl) hr (by decide) rfl (pa_cons (pe_ix ix_list (pv 7) pe_int (fun _ _ => rfl)) (pa_cons (pv 13) pa_nil))))))))))))))))))), ?_⟩
    have okA' : ∀ p ∈ L.map (·.1), OkS p := fun p hp => by obtain ⟨s, hs, rfl⟩ := List.mem_map.mp hp; exact okA s hs
    have okB' : ∀ p ∈ M.map (·.1), OkS p := fun p hp => by obtain ⟨s, hs, rfl⟩ := List.mem_map.mp hp; exact okB s hs
    have lenL := okL.len
    have len' := hxs.len
    have lenM := okM.len
    refine seq_asg ?_
    refine lc_firsts (n := 11) (iA := 3) (σ := [some x, some y, some (.ref p), some (.ref q), none, none, none, none, none, none, none, none, none, none, none, none]) rfl (fun _ => rfl) (fun _ => rfl) hfs hq hys okM.len fun F1 H1 D1 rs s1 d1 ss1 => ?_
    refine gn ?_
    try dsimp only
    refine seq_asg ?_
    refine lc_firsts (n := 11) (iA := 2) (σ := [some x, some y, some (.ref p), some (.ref q), some (.ref D1), none, none, none, none, none, none, none, none, none, none, none]) rfl (fun _ => rfl) (fun _ => rfl) s1.fh (upL s1.ff hp) (hxs.up s1.ff) okL.len fun F2 H2 D2 ms s2 d2 ss2 => ?_
    refine gn ?_
    try dsimp only
    have t2 := s1.transP s2
    have d1' := s2.ff _ _ d1
    have ss1' := ss1.up s2.ff
    refine seq_asg (op_in ?_)
    refine lc_lost (iA := 5) (iB := 4) (σ := [some x, some y, some (.ref p), some (.ref q), some (.ref D1), some (.ref D2), none, none, none, none, none, none, none, none, none, none]) rfl (fun _ => rfl) (fun _ => rfl) (fun _ => rfl) s2.fh (SqL.of d2) (SqL.of d1') ss2 ss1' okA' okB' (by rw [List.length_map]; exact okL.len) fun F3 H3 D3 z3 s3 f3 h3 _ ss3 => ?_
    refine lc_lost (iA := 4) (iB := 5) (σ := [some x, some y, some (.ref p), some (.ref q), some (.ref D1), some (.ref D2), none, none, none, none, none, none, none, none, none, none]) rfl (fun _ => rfl) (fun _ => rfl) (fun _ => rfl) s3.fh (SqL.of (s3.ff _ _ d1')) (SqL.of (s3.ff _ _ d2)) (ss1'.up s3.ff) (ss2.up s3.ff) okB' okA' (by rw [List.length_map]; exact okM.len) fun F4 H4 D4 z4 s4 f4 h4 _ ss4 => ?_
    have t4 := (t2.transP s3).transP s4
    have ssl := (ss3.up s4.ff).append ss4
    have eL : ((L.map (·.1)).filter fun p => !decide (p ∈ M.map (·.1))) ++ ((M.map (·.1)).filter fun p => !decide (p ∈ L.map (·.1))) = lostP L M := rfl
    rw [eL] at ssl
    have ln3 : z3.length ≤ 1000 := by
      rw [ss3.1]
      exact Nat.le_trans (List.length_filter_le _ _) (by rw [List.length_map]; exact okL.len)
    have ln4 : z4.length ≤ 1000 := by
      rw [ss4.1]
      exact Nat.le_trans (List.length_filter_le _ _) (by rw [List.length_map]; exact okM.len)
    refine ⟨D3, D4, z3, z4, rfl, rfl, s4.hh D3 _ id h3, h4, by rw [sizeLine_eq]; omega, fun D5 hD5 => ?_⟩
    have s5 := t4.newP (o := .lst (z3 ++ z4)) hD5
    have d5 : (upd F4 D5 (.lst (z3 ++ z4))) D5 = some (.lst (z3 ++ z4)) := upd_same
    have ss5 := ssl.up (same_new (o := .lst (z3 ++ z4)) (t4.fh.free hD5))
    generalize upd F4 D5 (.lst (z3 ++ z4)) = F5 at *
    obtain ⟨H5, eH5⟩ : ∃ H5, H5 = upd H4 D5 (.lst (z3 ++ z4)) := ⟨_, rfl⟩
    rw [← eH5] at s5 ⊢
    clear eH5
    refine gn ?_
    try dsimp only
    refine ⟨by show 0 ≤ sizeLine; decide, fun D6 hD6 => ?_⟩
    have h06 : H D6 = none := s5.freshP hD6
    have s6 := s5.raw (o := .lst []) hD6 h06
    have f6 : F5 D6 = none := s5.fh.free hD6
    have h6 : (upd H5 D6 (.lst [])) D6 = some (.lst []) := upd_same
    obtain ⟨H6, eH6⟩ : ∃ H6, H6 = upd H5 D6 (.lst []) := ⟨_, rfl⟩
    rw [← eH6] at s6 h6 ⊢
    clear eH6
    refine gn ?_
    try dsimp only
    have oks : ∀ p ∈ lostP L M, OkS p := fun p hp => by
      rcases List.mem_append.mp hp with hp | hp
      · exact okA' p (List.mem_filter.mp hp).1
      · exact okB' p (List.mem_filter.mp hp).1
    refine seq_with (fun σ' H' => ∃ F' acc c8, σ' = [some x, some y, some (.ref p), some (.ref q), some (.ref D1), some (.ref D2), some (.ref D5), some (.ref D6), c8, none, none, none, none, none, none, none] ∧ Stp F H F' H' ∧ Same F5 F' ∧ F' D6 = none ∧ H' D6 = some (.lst acc) ∧ MadeOk K a.World F' L M 2 acc) (fun u hu => ?_) ?_
    · refine for_rng (n := 2) (by decide) (fun j σ' H' => ∃ F' acc c8, σ' = [some x, some y, some (.ref p), some (.ref q), some (.ref D1), some (.ref D2), some (.ref D5), some (.ref D6), c8, none, none, none, none, none, none, none] ∧ Stp F H F' H' ∧ Same F5 F' ∧ F' D6 = none ∧ H' D6 = some (.lst acc) ∧ MadeOk K a.World F' L M j acc) ?_ ?_ ?_
      · exact ⟨F5, [], none, rfl, s6, Same.refl _, f6, h6, ⟨fun _ => ⟨rfl, (fun _ z => nomatch z), (fun _ z => nomatch z)⟩, (fun _ => rfl), Nat.le_refl _⟩⟩
      · rintro j _ H7 hj2 ⟨F7, acc, c8, rfl, s7, e7, f7, h7, mk⟩
        refine gn ?_
        refine ⟨_, rfl, .inl ⟨rfl, acc, SqL.of h7⟩, _, rfl, rfl, _, rfl, ?_⟩
        have nx8 : ∀ {F8 H8}, Stp F7 H7 F8 H8 → F8 D6 = none := fun st => st.nw D6 f7 (by rw [h7]; exact fun z => nomatch z)
        have bad : ∀ {F8 H8}, Stp F7 H7 F8 H8 → ∀ {p}, lost L M = some p → MadeOk K a.World F8 L M (j + 1) acc := fun st p hl => ⟨fun z => (by rw [hl] at z; cases z), fun z => mk.b z, (by have := mk.c; omega)⟩
        have al : acc.length < sizeLine := by rw [sizeLine_eq]; have := mk.c; omega
        by_cases j0 : j = 0
        · subst j0
          refine iteY (vint_eq (by omega)) ?_
          refine ⟨_, rfl, _, rfl, x, y, rfl, F7, x, y, L, M, 1, rfl, hx.up s7.ff, hy.up s7.ff, s7.fh, okL, okM, fun lo F8 H8 z st hz => ?_, fun p hl u d hu' hd => ?_⟩
          · refine ⟨D6, acc, z, rfl, rfl, st.hh D6 _ id h7, al, F8, acc ++ [z], _, rfl, (s7.transP st).mut (nx8 st) h06, e7.trans st.ff, nx8 st, upd_same, ⟨fun _ => ?_, fun n => absurd lo n, by rw [List.length_append]; have := mk.c; show acc.length + 1 ≤ _; omega⟩⟩
            have : acc = [] := List.length_eq_zero_iff.mp (mk.a lo).1
            subst this
            exact ⟨rfl, fun z' e => (by cases e; exact hz), (fun z' e => nomatch e)⟩
          · exact mixed_caught T (e7 _ _ d5) (ss5.up e7) oks hl s7.fh hu' hd fun F8 H8 st => ⟨F8, acc, _, rfl, s7.transP st, e7.trans st.ff, nx8 st, st.hh D6 _ id h7, bad st hl⟩
        · have j1 : j = 1 := by omega
          subst j1
          refine iteN (vint_ne (by omega)) ?_
          refine ⟨_, rfl, _, rfl, x, y, rfl, F7, x, y, L, M, -1, rfl, hx.up s7.ff, hy.up s7.ff, s7.fh, okL, okM, fun lo F8 H8 z st hz => ?_, fun p hl u d hu' hd => ?_⟩
          · refine ⟨D6, acc, z, rfl, rfl, st.hh D6 _ id h7, al, F8, acc ++ [z], _, rfl, (s7.transP st).mut (nx8 st) h06, e7.trans st.ff, nx8 st, upd_same, ⟨fun _ => ?_, fun n => absurd lo n, by rw [List.length_append]; have := mk.c; show acc.length + 1 ≤ _; omega⟩⟩
            obtain ⟨ml, m0, _⟩ := mk.a lo
            match acc, ml, m0 with
            | [w0], _, m0 => exact ⟨rfl, fun z' e => (m0 z' e).up st.ff, fun z' e => (by cases e; exact hz)⟩
          · exact mixed_caught T (e7 _ _ d5) (ss5.up e7) oks hl s7.fh hu' hd fun F8 H8 st => ⟨F8, acc, _, rfl, s7.transP st, e7.trans st.ff, nx8 st, st.hh D6 _ id h7, bad st hl⟩
      · rintro _ H7 h
        exact hu _ _ h
    rintro _ H7 ⟨F7, acc, c8, rfl, s7, e7, f7, h7, mk⟩
    refine ⟨_, rfl, by show 0 ≤ sizeLine; decide, fun p8 hp8 => ?_⟩
    have s8 := s7.raw (o := .lst []) hp8 (s7.freshP hp8)
    have e8 := same_new hp8 (o := .lst [])
    refine ⟨.list ((lostP L M).map spD), .list (([] : List Spot).map spD), .lst (SqL.of (s8.fh _ _ (e7 _ _ d5))) ((ss5.up e7).up s8.fh).dp, .lst (SqL.of upd_same) .nil, (fl_spots oks).sh (by decide), by decide, ?_⟩
    rw [eqv_sps]
    refine ⟨_, rfl, ?_⟩
    by_cases lo : lost L M = none
    case neg =>
      rw [decide_eq_false (fun z => lo (lost_nil.mpr z))]
      have := mk.b lo
      subst this
      refine iteT ⟨_, rfl, by show 0 ≤ sizeLine; decide, fun p9 hp9 => ?_⟩
      have s9 := s8.raw (o := .lst []) hp9 (s8.freshP hp9)
      exact ⟨.list [], .list [], .lst (SqL.of (same_new hp9 _ _ (e8 _ _ h7))) .nil, .lst (SqL.of upd_same) .nil, by decide, by decide, k _ _ s9⟩
    rw [decide_eq_true (lost_nil.mp lo)]
    refine iteF ?_
    have h86 := e8 _ _ h7
    obtain ⟨H8, eH8⟩ : ∃ H8, H8 = upd H7 p8 (.lst []) := ⟨_, rfl⟩
    rw [← eH8] at s8 h86 ⊢
    clear eH8 e8 hp8 s7 h7
    refine fun D7 hD7 => ?_
    have h07 : H D7 = none := s8.freshP hD7
    have f77 : F7 D7 = none := s8.fh.free hD7
    have n76 : D6 ≠ D7 := fun z => by rw [z, hD7] at h86; cases h86
    have s9 := s8.raw (o := .dT []) hD7 h07
    refine gn ?_
    try dsimp only
    refine seq_with (fun σ' H' => ∃ kvs c11, σ' = [some x, some y, some (.ref p), some (.ref q), some (.ref D1), some (.ref D2), some (.ref D5), some (.ref D6), c8, none, some (.ref D7), c11, none, none, none, none] ∧ Stp F H F7 H' ∧ H' D7 = some (.dT kvs) ∧ H' D6 = some (.lst acc) ∧ Kvs K F7 kvs M) (fun u hu => ?_) ?_
    · refine ⟨_, rfl, q, rfl, ⟨ys, upL s9.fh (upL s9.ff hq)⟩, ?_⟩
      refine for_it (walk_list (xs := ys)) (fun j σ' H' => ∃ kvs c11, σ' = [some x, some y, some (.ref p), some (.ref q), some (.ref D1), some (.ref D2), some (.ref D5), some (.ref D6), c8, none, some (.ref D7), c11, none, none, none, none] ∧ Stp F H F7 H' ∧ H' D7 = some (.dT kvs) ∧ H' D6 = some (.lst acc) ∧ Kvs K F7 kvs (M.take j)) ?_ ?_ ?_ ?_
      · exact ⟨[], none, rfl, s9, upd_same, by rw [upd_ne n76]; exact h86, .nil⟩
      · rintro j σ' H' _ ⟨kvs, c11, _, sj, _⟩
        exact upL sj.fh (upL sj.ff hq)
      · rintro j v _ H9 _ hj ⟨kvs, c11, rfl, sj, h97, h96, hk⟩ ⟨eH, hv⟩
        subst eH
        obtain ⟨m, hm, q', _, wv, rfl, hq', ⟨qs, rfl, hqs⟩, hrr, _⟩ := hys.at hv
        have aj := sj.ff.trans sj.fh
        have hq9 := upT aj hq'
        have nin := look_take okM.ok.nd hm
        have g := hk.get m.1
        rw [nin] at g
        obtain ⟨g, _⟩ | ⟨_, _, _, z, _⟩ := g
        case inr => cases z
        have kl : kvs.length ≤ 1000 := by
          rw [hk.len, List.length_take]
          omega
        refine gn ?_
        refine ⟨_, rfl, q', _, _, _, rfl, rfl, hq9, at1, _, rfl, _, rfl, q', _, _, _, rfl, rfl, hq9, at0, D7, _, rfl, DPut.t (k := spK m.1) h97 (aj _ _ hqs) (by rw [sizeLine_eq]; omega), ?_⟩
        rw [putK_new wv g]
        have tk : M.take (j + 1) = M.take j ++ [m] := by rw [List.take_add_one, hm]; rfl
        exact ⟨_, _, rfl, sj.mut f77 h07, upd_same, by rw [upd_ne n76]; exact h96, by rw [tk]; exact hk.snoc (hrr.up sj.ff)⟩
      · rintro _ H9 ⟨kvs, c11, rfl, sj, h97, h96, hk⟩
        rw [hys.len, List.take_length] at hk
        exact hu _ _ ⟨kvs, c11, rfl, sj, h97, h96, hk⟩
    rintro _ H9 ⟨kvs, c11, rfl, sj, h97, h96, hk⟩
    clear s9 hD7 s8 h86
    refine ⟨by show 0 ≤ sizeLine; decide, fun A1 hA1 => ?_⟩
    have a1 := sj.raw (o := .lst []) hA1 (sj.freshP hA1)
    have x1 := same_new hA1 (o := .lst [])
    have hA1n : (upd H9 A1 (.lst [])) A1 = some (.lst []) := upd_same
    refine gn ?_
    refine ⟨by show 0 ≤ sizeLine; decide, fun A2 hA2 => ?_⟩
    have a2 := a1.raw (o := .lst []) hA2 (a1.freshP hA2)
    have x2 := same_new hA2 (o := .lst [])
    refine gn ?_
    have d71 : D7 ≠ A1 := fun z => by rw [← z, h97] at hA1; cases hA1
    have d61 : D6 ≠ A1 := fun z => by rw [← z, h96] at hA1; cases hA1
    have d72 : D7 ≠ A2 := fun z => by rw [← z, x1 _ _ h97] at hA2; cases hA2
    have d62 : D6 ≠ A2 := fun z => by rw [← z, x1 _ _ h96] at hA2; cases hA2
    have n12 : A1 ≠ A2 := fun z => by rw [← z, hA1n] at hA2; cases hA2
    have n1 := sj.freshP hA1
    have n2 := a1.freshP hA2
    have m0 : Mid K F H F7 D6 D7 A1 A2 acc kvs F7 (upd (upd H9 A1 (.lst [])) A2 (.lst [])) [] [] [] [] := ⟨a2, Same.refl _, sj.fh.free hA1, a1.fh.free hA2, x2 _ _ hA1n, upd_same, x2 _ _ (x1 _ _ h97), x2 _ _ (x1 _ _ h96), .nil, .nil⟩
    obtain ⟨H10, eH10⟩ : ∃ H10, H10 = upd (upd H9 A1 (.lst [])) A2 (.lst []) := ⟨_, rfl⟩
    rw [← eH10] at m0 ⊢
    clear eH10 a2 x2 hA2 a1 x1 hA1n hA1
    obtain ⟨ml, mz0, mz1⟩ := mk.a lo
    obtain ⟨z0, z1, rfl⟩ : ∃ z0 z1, acc = [z0, z1] := by
      match acc, ml with
      | [z0, z1], _ => exact ⟨z0, z1, rfl⟩
    have wz0 := mz0 z0 rfl
    have wz1 := mz1 z1 rfl
    have lk0 : lack L M = none := by
      have : (lack L M).or (lack M L) = none := lo
      exact (Option.or_eq_none_iff.mp this).1
    try dsimp only
    refine seq_with (fun σ' H' => ∃ F' hs ls c11 c14, σ' = [some x, some y, some (.ref p), some (.ref q), some (.ref D1), some (.ref D2), some (.ref D5), some (.ref D6), c8, none, some (.ref D7), c11, some (.ref A1), some (.ref A2), c14, none] ∧ Mid K F H F7 D6 D7 A1 A2 [z0, z1] kvs F' H' hs ls (mix 1 L M) (mix (-1) L M)) (fun u hu => ?_) ?_
    · refine ⟨_, rfl, p, rfl, ⟨xs, upL m0.st.fh (upL m0.st.ff hp)⟩, ?_⟩
      refine for_it (walk_list (xs := xs)) (fun i σ' H' => ∃ F' hs ls c11 c14, σ' = [some x, some y, some (.ref p), some (.ref q), some (.ref D1), some (.ref D2), some (.ref D5), some (.ref D6), c8, none, some (.ref D7), c11, some (.ref A1), some (.ref A2), c14, none] ∧ Mid K F H F7 D6 D7 A1 A2 [z0, z1] kvs F' H' hs ls ((mix 1 L M).take i) ((mix (-1) L M).take i)) ?_ ?_ ?_ ?_
      · exact ⟨F7, [], [], _, _, rfl, m0⟩
      · rintro i σ' H' _ ⟨F', hs, ls, _, _, _, m⟩
        exact upL m.st.fh (upL m.st.ff hp)
      · rintro i v _ H11 _ hi ⟨F11, hs, ls, c11, c14, rfl, m⟩ ⟨eH, hv⟩
        subst eH
        obtain ⟨sj, hsj, q', _, wv, rfl, hq', ⟨qs, rfl, hqs⟩, hrr, _⟩ := hxs.at hv
        have aj := m.st.ff.trans m.st.fh
        have hq11 := upT aj hq'
        have mem : sj ∈ L := List.mem_of_getElem? hsj
        obtain ⟨w9, qj, g, lk, hw9⟩ : ∃ w9 qj, valV kvs (spK sj.1) = some w9 ∧ look M sj.1 = some qj ∧ Rt K F7 w9 qj := by
          rcases hk.get sj.1 with ⟨_, z⟩ | ⟨w9, qj, g, lk, hw9⟩
          · exact absurd z (lack_none lk0 sj mem)
          · exact ⟨w9, qj, g, lk, hw9⟩
        have dgs : ∀ {HH : Hp}, HH D7 = some (.dT kvs) → Same F HH → DGet HH D7 (.ref qs) (some w9) := fun h e => by
          have := DGet.t (k := spK sj.1) h (e _ _ hqs)
          rw [g] at this
          exact this
        have dg := dgs m.h7 aj
        have f1 := okL.fine sj mem
        have f2 := okM.fine.look lk
        have hl : hs.length ≤ 1000 := by have := m.p1.len; rw [List.length_take] at this; omega
        have ll : ls.length ≤ 1000 := by have := m.p2.len; rw [List.length_take] at this; omega
        have e1 := mix_hi lk
        have e2 := mix_lo lk f1.low f2.low
        refine gn ?_
        refine ⟨_, rfl, q', _, _, _, rfl, rfl, hq11, at1, _, rfl, _, rfl, q', _, _, _, rfl, rfl, hq11, at0, D7, w9, rfl, dg, wv, w9, sj.2, qj, rfl, (hrr.up m.st.ff).up m.st.fh, (hw9.up m.e).up m.st.fh, f1.wide.1, f1.wide.2.1, f2.wide.1, f2.wide.2.1, ?_⟩
        refine gn ?_
        by_cases ab : sj.2.1 * qj.2 < qj.1 * sj.2.2
        · rw [if_pos ab] at e1 e2
          rw [decide_eq_true ab]
          refine ⟨_, rfl, .inl ⟨rfl, hs, SqL.of m.h1⟩, _, rfl, q', _, _, _, rfl, rfl, hq11, at0, _, rfl, true, rfl, iteT ⟨_, rfl, _, rfl, q', _, _, _, rfl, rfl, hq11, at0, D7, w9, rfl, dg, (by show 2 ≤ sizeLine; decide), fun t1 ht1 => ⟨A1, hs, .ref t1, rfl, rfl, same_new ht1 _ _ m.h1, by rw [sizeLine_eq]; omega, ?_⟩⟩⟩
          have m1 := m.hi (s := (sj.1, mixR 1 M sj)) (v := w9) n1 d71 d61 (Ne.symm n12) ht1 (m.st.ff _ _ hqs) (by rw [e1]; exact hw9.up m.e)
          have ef1 := same_new (m.st.fh.free ht1) (o := .tup [.ref qs, w9])
          have b1 := m1.st.ff.trans m1.st.fh
          have hq12 := upT b1 hq'
          have dg2 := dgs m1.h7 b1
          refine ⟨_, rfl, .inl ⟨rfl, ls, SqL.of m1.h2⟩, _, rfl, q', _, _, _, rfl, rfl, hq12, at0, _, rfl, true, rfl, iteT ⟨_, rfl, q', _, _, _, rfl, rfl, hq12, at1, (by show 2 ≤ sizeLine; decide), fun t2 ht2 => ⟨A2, ls, .ref t2, rfl, rfl, same_new ht2 _ _ m1.h2, by rw [sizeLine_eq]; omega, ?_⟩⟩⟩
          have m2 := (m1.swap.hi (s := (sj.1, mixR (-1) M sj)) (v := wv) n2 d72 d62 n12 ht2 (m1.st.ff _ _ hqs) (by rw [e2]; exact hrr.up (m.st.ff.trans ef1))).swap
          exact ⟨_, hs ++ [.ref t1], ls ++ [.ref t2], _, _, rfl, by rw [mix_take hsj, mix_take hsj]; exact m2⟩
        · rw [if_neg ab] at e1 e2
          rw [decide_eq_false ab]
          refine ⟨_, rfl, .inl ⟨rfl, hs, SqL.of m.h1⟩, _, rfl, q', _, _, _, rfl, rfl, hq11, at0, _, rfl, false, rfl, iteF ⟨_, rfl, q', _, _, _, rfl, rfl, hq11, at1, (by show 2 ≤ sizeLine; decide), fun t1 ht1 => ⟨A1, hs, .ref t1, rfl, rfl, same_new ht1 _ _ m.h1, by rw [sizeLine_eq]; omega, ?_⟩⟩⟩
          have m1 := m.hi (s := (sj.1, mixR 1 M sj)) (v := wv) n1 d71 d61 (Ne.symm n12) ht1 (m.st.ff _ _ hqs) (by rw [e1]; exact hrr.up m.st.ff)
          have ef1 := same_new (m.st.fh.free ht1) (o := .tup [.ref qs, wv])
          have b1 := m1.st.ff.trans m1.st.fh
          have hq12 := upT b1 hq'
          have dg2 := dgs m1.h7 b1
          refine ⟨_, rfl, .inl ⟨rfl, ls, SqL.of m1.h2⟩, _, rfl, q', _, _, _, rfl, rfl, hq12, at0, _, rfl, false, rfl, iteF ⟨_, rfl, _, rfl, q', _, _, _, rfl, rfl, hq12, at0, D7, w9, rfl, dg2, (by show 2 ≤ sizeLine; decide), fun t2 ht2 => ⟨A2, ls, .ref t2, rfl, rfl, same_new ht2 _ _ m1.h2, by rw [sizeLine_eq]; omega, ?_⟩⟩⟩
          have m2 := (m1.swap.hi (s := (sj.1, mixR (-1) M sj)) (v := w9) n2 d72 d62 n12 ht2 (m1.st.ff _ _ hqs) (by rw [e2]; exact (hw9.up m.e).up ef1)).swap
          exact ⟨_, hs ++ [.ref t1], ls ++ [.ref t2], _, _, rfl, by rw [mix_take hsj, mix_take hsj]; exact m2⟩
      · rintro _ H11 ⟨F11, hs, ls, c11, c14, rfl, m⟩
        have e3 : ∀ g, (mix g L M).take xs.length = mix g L M := fun g => by
          rw [len', show L.length = (mix g L M).length by unfold mix; rw [List.length_map], List.take_length]
        rw [e3, e3] at m
        exact hu _ _ ⟨F11, hs, ls, c11, c14, rfl, m⟩
    rintro _ H11 ⟨F11, hs, ls, c11, c14, rfl, m⟩
    have z1s := m.st.freeze m.f1 n1 m.h1
    have g2 : (upd F11 A1 (.lst hs)) A2 = none := by rw [upd_ne (Ne.symm n12)]; exact m.f2
    have z2s := z1s.freeze g2 n2 m.h2
    have ez := (same_new m.f1 (o := .lst hs)).trans (same_new g2 (o := .lst ls))
    have hA1' : (upd (upd F11 A1 (.lst hs)) A2 (.lst ls)) A1 = some (.lst hs) := same_new g2 _ _ upd_same
    have hA2' : (upd (upd F11 A1 (.lst hs)) A2 (.lst ls)) A2 = some (.lst ls) := upd_same
    generalize upd (upd F11 A1 (.lst hs)) A2 (.lst ls) = F12 at *
    refine ⟨_, rfl, D6, _, _, z0, rfl, rfl, SqL.of m.h6, at0, _, rfl, F12, z0, A1, hs, mix 1 L M, rfl, wz0.up (m.e.trans ez), SqL.of hA1', m.p1.up ez, mix_ok okL okM, z2s.fh, fun F13 H13 st13 => ⟨true, rfl, iteT ?_⟩⟩
    refine ⟨_, rfl, D6, _, _, z1, rfl, rfl, SqL.of (st13.hh D6 _ id m.h6), at1, _, rfl, F13, z1, A2, ls, mix (-1) L M, rfl, wz1.up ((m.e.trans ez).trans st13.ff), SqL.of (st13.ff _ _ hA2'), (m.p2.up ez).up st13.ff, mix_ok okL okM, st13.fh, fun F14 H14 st14 => ?_⟩
    exact k _ _ ((z2s.transP st13).transP st14)
end
end K26

set_option Elab.async false
set_option linter.all false
set_option maxRecDepth 100000
set_option maxHeartbeats 4000000
namespace K26
open PySem PySem.Spec PyProof.Rows L2 Ew
theorem int_item {ns : List Int} {i : Nat} {x : V} (h : (ns.map V.int)[i]? = some x) : ∃ d, ns[i]? = some d ∧ x = V.int d := by
  rw [List.getElem?_map, Option.map_eq_some_iff] at h
  obtain ⟨d, h1, h2⟩ := h
  exact ⟨d, h1, h2.symm⟩
section
variable {P : Program} {w : World} {K : PySem.W.Frag} {mg : Str → Option Value} {base : Heap} {a : Ad}
def sp__law_bag_of (K : PySem.W.Frag) : Sp := fun vs H Q _ => ∃ (F : Hp) (p : Addr) (ns : List Int), vs = [.ref p] ∧ SqL K F p (ns.map V.int) ∧ ns.length ≤ 1000 ∧ Same F H ∧ ∀ F' H' b, Stp F H F' H' → Bag K b F' H' → Q (.ref b) H'
theorem c__law_bag_of (T : Txt K mg a) : Cl P w K mg base 1 "_law_bag_of" P__law_bag_of (sp__law_bag_of K) [] :=
  T.d__law_bag_of.cl sc__law_bag_of (fun vs H Q E h => by obtain ⟨F, p, ns, rfl, _⟩ := h; rfl) fun f cdv A outer s H vs Q E hr h => by
    obtain ⟨F, p, ns, rfl, hp, hn, hf, k⟩ := h
    refine ⟨_, ((pss_cons (ps_set (i := 1) sc__law_bag_of.nd rfl (Or.inl rfl) pe_int)
 (pss_cons (ps_for (passes_of rfl) rfl (pi_list (pv 0)) (pg_name (i := 2) sc__law_bag_of.nd rfl (Or.inl rfl))
 (pss_one (ps_set (i := 1) sc__law_bag_of.nd rfl (Or.inl rfl) (pe_op op_mod (pe_callTy call_int1 (by rfl) T.n_int (by decide +kernel) (pa_cons (pe_op op_add (pe_op op_add (pe_op op_mul (pv 1) pe_int) (pv 2)) pe_int) pa_nil)) pe_int))))
 (pss_one (ps_ret (pe_disp (pps_cons pe_str (pe_lc (own := [("_law_cell", 2)]) (g := (gName 2)) (by rfl) sc__law_bag_of.nd (pi_list (pv 0)) (blkOk_by (own := [("_law_cell", 2)]) (N := N__law_bag_of) (sc := defScope s__law_bag_of) (by decide +kernel)) (fun _ _ _ _ _ => (pg_name (i := 2) sc__law_bag_of.nd rfl (Or.inl rfl) (hf := .inr rfl))) (fun _ _ _ _ _ => pts_nil) (fun _ _ _ _ _ => (pv 2))) (pps_cons pe_str pe_int (pps_cons pe_str pe_int (pps_cons pe_str (pv 1) (pps_cons pe_str pe_int pps_nil))))) (by rfl) (by rfl) (fun z => by cases z) (by decide))))))), ?_⟩
    refine ⟨_, rfl, p, rfl, ⟨_, upL hf hp⟩, ?_⟩
    refine for_list (fun i σ' H' => H = H' ∧ ∃ (m : Int) (c : Option V), σ' = [some (.ref p), some (.int m), c]) ⟨rfl, 7, none, rfl⟩ (fun i σ' H' _ q => by rw [← q.1]; exact upL hf hp) ?_ ?_
    · rintro i x _ _ hx ⟨rfl, m, c, rfl⟩
      obtain ⟨d, hd, rfl⟩ := int_item hx
      refine ⟨_, rfl, _, _, rfl, rfl, .inr ⟨by decide, by decide⟩, _, rfl, _, _, rfl, rfl, _, _, rfl, rfl, .inl ⟨_, rfl, _, _, rfl, rfl, (by decide : (0 : Int) < 1000003), ?_⟩⟩
      exact ⟨rfl, _, _, rfl⟩
    · rintro _ _ ⟨rfl, m, c, rfl⟩
      intro b hb
      have s0 : Stp F H F (upd H b (.dK [])) := (Stm.refl hf).raw hb hb
      refine ⟨_, rfl, p, rfl, ⟨_, upL s0.fh hp⟩, fun D hD => ?_⟩
      refine lcM memP walk_list s0.fh trivial hD (fun i _ y => ∃ d, ns[i]? = some d ∧ y = V.int d) (fun _ _ _ _ _ z => z) (by rw [List.length_map]; omega) (fun F' H' e1 e2 => upL e2 (upL e1 hp)) ?_ ?_
      · rintro i x F' H1 H'' Kt Kn hi s1 _ ⟨rfl, hx⟩ kk
        obtain ⟨d, hd, rfl⟩ := int_item hx
        exact ⟨rfl, lc_yes ⟨_, rfl, kk _ _ _ (.refl s1.fh) trivial ⟨d, hd, rfl⟩⟩⟩
      · intro F' H1 ys s1 _ hD' hy hr'
        rw [List.length_map] at hy
        obtain rfl := map_of hy hr'
        have fb : F' b = none := s1.nw b (hf.free hb) (by rw [upd_same]; exact fun z => nomatch z)
        refine ⟨_, rfl, s1.same b _ upd_same, bk D 0 0 m 0, rfl, (by show 5 ≤ 15; decide), ?_⟩
        refine k F' _ b ((s0.transP s1).mut fb hb) ⟨fb, D, ns, 0, 0, m, 0, by decide, hn, SqL.of hD', ?_⟩
        rw [upd_same]
        rfl
theorem cE__law_integer (T : Txt K mg a) : ClE P w K mg base 1 "_law_integer" P__law_integer (fun _ _ _ => sp_is_integer K) :=
  T.d__law_integer.clE sc__law_integer (fun ea cls d vs H Q E h => by obtain ⟨i, rfl, _⟩ := h; rfl) fun f cdv A outer s H vs Q E ea oe cls d hgd hz hf hr h => by
    obtain ⟨v, rfl, h⟩ := h
    refine ⟨_, ((pss_one (ps_ret (pe_and (pe_callB call_isi (by rfl) T.n_isinstance (by decide +kernel) (pa_cons (pv 0) (pa_cons (pe_bltn (v := .ty "int") (by rfl) T.n_int (by decide +kernel) rfl) pa_nil))) (pe_one (pe_not (pe_callB call_isi (by rfl) T.n_isinstance (by decide +kernel) (pa_cons (pv 0) (pa_cons (pe_bltn (v := .ty "bool") (by rfl) T.n_bool (by decide +kernel) rfl) pa_nil))))))))), ?_⟩
    rcases h with ⟨i, rfl, k⟩ | ⟨⟨b, rfl⟩ | ⟨t, ht, hk⟩, k⟩
    · refine ⟨_, rfl, _, _, _, _, true, rfl, .ty _, .base (.int _), kit_ty (by decide +kernel), true, rfl, iteT ?_⟩
      exact ⟨_, rfl, _, _, _, _, false, rfl, .ty _, .base (.int _), kit_ty (by decide +kernel), false, rfl, k⟩
    · refine ⟨_, rfl, _, _, _, _, true, rfl, .ty _, .base (.bl _), kit_ty (by decide +kernel), true, rfl, iteT ?_⟩
      exact ⟨_, rfl, _, _, _, _, true, rfl, .ty _, .base (.bl _), kit_ty (by decide +kernel), true, rfl, k⟩
    · exact ⟨_, rfl, _, _, _, _, false, rfl, .ty _, ht, hk, false, rfl, iteF k⟩
end
end K26

set_option Elab.async false
set_option linter.all false
set_option maxRecDepth 100000
set_option maxHeartbeats 4000000
namespace K26
open PySem PySem.Spec PyProof.Rows L2 Ew
/-! ### rows of odd things -/
/-- te tells v and changes nothing -/
def Ev (F0 : Hp) (σ : L2.St) (te : TE) (v : V) : Prop := ∀ (H : Hp) (Q : VK), Same F0 H → Q v H → te σ H Q
def EvL (F0 : Hp) (σ : L2.St) (t : TA) (vs : List V) : Prop := ∀ (H : Hp) (Q : List V → Hp → Prop), Same F0 H → Q vs H → t σ H Q
/-- te makes a thing of which P holds -/
def Mk (F0 : Hp) (σ : L2.St) (te : TE) (P : Hp → V → Prop) : Prop := ∀ (F H : Hp) (Q : VK), Same F0 F → Same F H → (∀ F' H' v, Stp F H F' H' → P F' v → Q v H') → te σ H Q
def MkL (F0 : Hp) (σ : L2.St) (t : TA) (n : Nat) (P : Hp → V → Prop) : Prop := ∀ (F H : Hp) (Q : List V → Hp → Prop), Same F0 F → Same F H → (∀ F' H' vs, Stp F H F' H' → vs.length = n → (∀ v ∈ vs, P F' v) → Q vs H') → t σ H Q
/-- what holds later too -/
def Up (P : Hp → V → Prop) : Prop := ∀ F F' v, Same F F' → P F v → P F' v
section
variable {K : PySem.W.Frag} {F0 : Hp} {σ : L2.St} {te ta tb : TE} {ts : TA} {P R : Hp → V → Prop} {v x : V} {xs vs : List V} {p : Addr} {i j : Int} {n : Nat}
theorem Ev.var {k : Nat} (h : σ[k]? = some (some v)) : Ev F0 σ (tVar k) v := fun H Q _ q => ⟨v, h, q⟩
theorem Ev.c : Ev F0 σ (tC v) v := fun H Q _ q => q
theorem Ev.ix (h : Ev F0 σ te (.ref p)) (hs : SqT K F0 p xs) (ha : atI xs i = some v) : Ev F0 σ (tOp (rIxT K) te (tC (.int i))) v := fun H Q e q => h H _ e ⟨p, xs, i, v, rfl, rfl, upT e hs, ha, q⟩
theorem Ev.ixL (h : Ev F0 σ te (.ref p)) (h2 : Ev F0 σ tb (.int i)) (hs : SqL K F0 p xs) (ha : atI xs i = some v) : Ev F0 σ (tOp (rIxL K) te tb) v := fun H Q e q => h H _ e (h2 H _ e ⟨p, xs, i, v, rfl, rfl, upL e hs, ha, q⟩)
theorem Ev.i0 {g : Int → Int → V} (h : Ev F0 σ ta (.int i)) (h2 : Ev F0 σ tb (.int j)) : Ev F0 σ (tOp (rI0 g) ta tb) (g i j) := fun H Q e q => h H _ e (h2 H _ e ⟨i, j, rfl, rfl, q⟩)
theorem Ev.iC {g : Int → Int → V} {C : Int → Int → Prop} (h : Ev F0 σ ta (.int i)) (h2 : Ev F0 σ tb (.int j)) (hc : C i j) : Ev F0 σ (tOp (rI C g) ta tb) (g i j) := fun H Q e q => h H _ e (h2 H _ e ⟨i, j, rfl, rfl, hc, q⟩)
theorem EvL.nil : EvL F0 σ tNil [] := fun H Q _ q => q
theorem EvL.cons (h : Ev F0 σ te v) (t : EvL F0 σ ts vs) : EvL F0 σ (tCons te ts) (v :: vs) := fun H Q e q => h H _ e (t H _ e q)
theorem Mk.ev (h : Ev F0 σ te v) (hp : ∀ F, Same F0 F → P F v) : Mk F0 σ te P := fun F H Q e e1 k => h H Q (e.trans e1) (k F H v (.refl e1) (hp F e))
theorem Mk.tup (h : EvL F0 σ ts xs) (hl : xs.length ≤ 1000) (hp : ∀ F q, Same F0 F → F q = some (.tup xs) → P F (.ref q)) : Mk F0 σ (tTup ts) P := fun F H Q e e1 k =>
  h H _ (e.trans e1) ⟨by rw [sizeLine_eq]; omega, fun q hq => k _ _ _ (stp_new e1 hq) (hp _ q (e.trans (same_new (e1.free hq))) upd_same)⟩
theorem Mk.lst (h : EvL F0 σ ts xs) (hl : xs.length ≤ 1000) (hp : ∀ F q, Same F0 F → F q = some (.lst xs) → P F (.ref q)) : Mk F0 σ (tLst ts) P := fun F H Q e e1 k =>
  h H _ (e.trans e1) ⟨by rw [sizeLine_eq]; omega, fun q hq => k _ _ _ (stp_new e1 hq) (hp _ q (e.trans (same_new (e1.free hq))) upd_same)⟩
theorem Mk.list_of (h : Ev F0 σ te (.ref p)) (hs : SqL K F0 p xs ∨ SqT K F0 p xs) (hp : ∀ F q, Same F0 F → F q = some (.lst xs) → P F (.ref q)) :
    Mk F0 σ (tCB (fun xs H Q => ∃ p ys, xs = [.ref p] ∧ (SqL K H p ys ∨ SqT K H p ys) ∧ ∀ l, H l = none → Q (.ref l) (upd H l (.lst ys))) (tCons te tNil)) P := fun F H Q e e1 k =>
  h H _ (e.trans e1) ⟨p, xs, rfl, hs.imp (upL (e.trans e1)) (upT (e.trans e1)), fun q hq => k _ _ _ (stp_new e1 hq) (hp _ q (e.trans (same_new (e1.free hq))) upd_same)⟩
/-- a tuple joined with a new one -/
theorem Mk.cat (h : Ev F0 σ te (.ref p)) (hs : SqT K F0 p xs) (t : EvL F0 σ ts vs) (n1 : xs ≠ []) (n2 : vs ≠ []) (hl : xs.length + vs.length ≤ 1000) (hp : ∀ F q, Same F0 F → F q = some (.tup (xs ++ vs)) → P F (.ref q)) :
    Mk F0 σ (tOp (rCatT K) te (tTup ts)) P := fun F H Q e e1 k =>
  h H _ (e.trans e1) (t H _ (e.trans e1) ⟨by rw [sizeLine_eq]; omega, fun q hq => ⟨p, q, xs, vs, rfl, rfl, upT (same_new hq) (upT (e.trans e1) hs), sq_new, n1, by rw [sizeLine_eq]; omega, fun z => absurd z n2, fun _ q2 hq2 =>
    k _ _ _ ((stp_new e1 hq).newP hq2) (hp _ q2 (e.trans ((same_new (e1.free hq)).trans (same_new ((stp_new e1 hq).fh.free hq2)))) upd_same)⟩⟩)
theorem MkL.nil : MkL F0 σ tNil 0 P := fun F H Q e e1 k => k F H [] (.refl e1) rfl fun _ z => nomatch z
theorem MkL.cons (up : Up P) (h : Mk F0 σ te P) (t : MkL F0 σ ts n P) : MkL F0 σ (tCons te ts) (n + 1) P := fun F H Q e e1 k =>
  h F H _ e e1 fun F1 H1 v s1 hv => t F1 H1 _ (e.trans s1.ff) s1.fh fun F2 H2 vs s2 hl hvs => k F2 H2 (v :: vs) (s1.transP s2) (by rw [List.length_cons, hl]) fun u hu => by
    rcases List.mem_cons.mp hu with rfl | hu
    · exact up _ _ _ s2.ff hv
    · exact hvs u hu
/-- a tuple of two or three, the last one made -/
theorem Mk.tup1 (h : Mk F0 σ te R) (hp : ∀ F q u, Same F0 F → R F u → F q = some (.tup [u]) → P F (.ref q)) (up : Up R) : Mk F0 σ (tTup (tCons te tNil)) P := fun F H Q e e1 k =>
  h F H _ e e1 fun F1 H1 v s1 hv => ⟨by show 1 ≤ sizeLine; decide, fun q hq => k _ _ _ (s1.newP hq) (hp _ q v (e.trans (s1.ff.trans (same_new (s1.fh.free hq)))) (up _ _ _ (same_new (s1.fh.free hq)) hv) upd_same)⟩
theorem Mk.last (t : Ev F0 σ ta x) (h : Mk F0 σ te R) (hp : ∀ F q u, Same F0 F → R F u → F q = some (.tup [x, u]) → P F (.ref q)) (up : Up R) : Mk F0 σ (tTup (tCons ta (tCons te tNil))) P := fun F H Q e e1 k =>
  t H _ (e.trans e1) (h F H _ e e1 fun F1 H1 v s1 hv => ⟨by show 2 ≤ sizeLine; decide, fun q hq => k _ _ _ (s1.newP hq) (hp _ q v (e.trans (s1.ff.trans (same_new (s1.fh.free hq)))) (up _ _ _ (same_new (s1.fh.free hq)) hv) upd_same)⟩)
theorem Mk.first (h : Mk F0 σ te R) (t : Ev F0 σ ta x) (hp : ∀ F q u, Same F0 F → R F u → F q = some (.tup [u, x]) → P F (.ref q)) (up : Up R) : Mk F0 σ (tTup (tCons te (tCons ta tNil))) P := fun F H Q e e1 k =>
  h F H _ e e1 fun F1 H1 v s1 hv => t H1 _ (e.trans (s1.ff.trans s1.fh)) ⟨by show 2 ≤ sizeLine; decide, fun q hq => k _ _ _ (s1.newP hq) (hp _ q v (e.trans (s1.ff.trans (same_new (s1.fh.free hq)))) (up _ _ _ (same_new (s1.fh.free hq)) hv) upd_same)⟩
theorem Mk.last3 {y : V} (t : Ev F0 σ ta x) (t2 : Ev F0 σ tb y) (h : Mk F0 σ te R) (hp : ∀ F q u, Same F0 F → R F u → F q = some (.tup [x, y, u]) → P F (.ref q)) (up : Up R) : Mk F0 σ (tTup (tCons ta (tCons tb (tCons te tNil)))) P := fun F H Q e e1 k =>
  t H _ (e.trans e1) (t2 H _ (e.trans e1) (h F H _ e e1 fun F1 H1 v s1 hv => ⟨by show 3 ≤ sizeLine; decide, fun q hq => k _ _ _ (s1.newP hq) (hp _ q v (e.trans (s1.ff.trans (same_new (s1.fh.free hq)))) (up _ _ _ (same_new (s1.fh.free hq)) hv) upd_same)⟩))
end
end K26

set_option Elab.async false
set_option linter.all false
set_option maxRecDepth 100000
set_option maxHeartbeats 4000000
namespace K26
open PySem PySem.Spec PyProof.Rows L2 Ew
theorem at_nat {xs : List V} {i : Nat} (h : i < xs.length) : atI xs (i : Int) = xs[i]? := by
  have e : ixN xs.length (i : Int) = some i := by
    unfold ixN
    rw [if_pos (by omega), if_pos (by omega)]
    simp
  unfold atI
  rw [e]
  rfl
section
variable {K : PySem.W.Frag} {F0 : Hp} {σ : L2.St} {te ta tb : TE} {ts : TA} {P R : Hp → V → Prop} {v x : V} {xs vs : List V} {p : Addr} {i j : Int} {n : Nat}
theorem Mk.cut2 {x y z : V} (h : Ev F0 σ te (.ref p)) (hs : SqT K F0 p [x, y, z]) (hp : ∀ F q, Same F0 F → F q = some (.tup [x, y]) → P F (.ref q)) : Mk F0 σ (tSl (rSlT K) te tNoPart (tPart (tC (.int 2)))) P := fun F H Q e e1 k =>
  h H _ (e.trans e1) ⟨2, rfl, p, _, rfl, upT (e.trans e1) hs, by show ¬ (HT.sIx 3 0 none = 0 ∧ HT.sIx 3 3 (some 2) = 3); decide, fun q hq => k _ _ _ (stp_new (o := .tup [x, y]) e1 hq) (hp _ q (e.trans (same_new (e1.free hq))) upd_same)⟩
theorem Ev.text {i : Int} (h : Ev F0 σ te (.int i)) (hi : i.natAbs.log2 < 1920) : Ev F0 σ (tCB (fun xs H Q => ∃ i, xs = [.int i] ∧ i.natAbs.log2 < 1920 ∧ Q (.str (Str.ofString (toString i))) H) (tCons te tNil)) (.str (Str.ofString (toString i))) := fun H Q e q => h H _ e ⟨i, rfl, hi, q⟩
theorem Ev.neg {g : Int → V} (h : Ev F0 σ te (.int i)) : Ev F0 σ (tUn (rU g) te) (g i) := fun H Q e q => h H _ e ⟨i, rfl, q⟩
/-- a list of things made -/
theorem MkL.lst {F H : Hp} {Q : VK} (h : MkL F0 σ ts n P) (up : Up P) (hn : n ≤ 1000) (e : Same F0 F) (e1 : Same F H) (k : ∀ F' H' p zs, Stp F H F' H' → F' p = some (.lst zs) → zs.length = n → (∀ v ∈ zs, P F' v) → Q (.ref p) H') : tLst ts σ H Q :=
  h F H _ e e1 fun F1 H1 zs s1 hl hv => ⟨by rw [sizeLine_eq]; omega, fun q hq => k _ _ q zs (s1.newP hq) upd_same hl fun v hv' => up _ _ _ (same_new (s1.fh.free hq)) (hv v hv')⟩
/-- a list joined with a new one -/
theorem MkL.cat {F H : Hp} {Q : VK} {k0 m : Nat} {p : Addr} {zs : List V} (h0 : σ[k0]? = some (some (.ref p))) (hp : F p = some (.lst zs)) (hz : zs.length = m) (all : ∀ v ∈ zs, P F v) (h : MkL F0 σ ts n P) (up : Up P) (hn : m + n ≤ 1000) (e : Same F0 F) (e1 : Same F H)
    (k : ∀ F' H' p zs, Stp F H F' H' → F' p = some (.lst zs) → zs.length = m + n → (∀ v ∈ zs, P F' v) → Q (.ref p) H') : tOp rCat (tVar k0) (tLst ts) σ H Q :=
  ⟨_, h0, MkL.lst h up (by omega) e e1 fun F1 H1 q ws s1 hq hl hw => ⟨p, q, zs, ws, rfl, rfl, s1.fh _ _ (s1.ff _ _ hp), s1.fh _ _ hq, by rw [sizeLine_eq]; omega, fun r hr => k _ _ r (zs ++ ws) (s1.newP hr) upd_same (by rw [List.length_append]; omega) fun v hv => by
    refine up _ _ _ (same_new (s1.fh.free hr)) ?_
    rcases List.mem_append.mp hv with hv | hv
    · exact up _ _ _ s1.ff (all v hv)
    · exact hw v hv⟩⟩
theorem up_notSp : Up (NotSp K) := fun _ _ _ e h => h.up e
theorem up_notRt : Up (NotRt K) := fun _ _ _ e h => h.up e
theorem up_wrong {L : Prs} : Up fun F v => Wrong K F L v := fun _ _ _ e h => Wrong.up h e
end
theorem no_two (n d : Int) : ¬ Low (2 * n, 2 * d) := fun z => by
  have h := z.2
  dsimp only at h
  rw [Int.natAbs_mul, Int.natAbs_mul, Nat.gcd_mul_left] at h
  have : (2 : Int).natAbs = 2 := rfl
  rw [this] at h
  omega
section
variable {P : Program} {w : World} {K : PySem.W.Frag} {mg : Str → Option Value} {base : Heap} {a : Ad}
def sp__law_wrong_pair (K : PySem.W.Frag) : Sp := fun vs H Q _ => ∃ (F : Hp) (b l : Addr) (xs : List V) (L : Prs) (i : Nat), vs = [.ref b, .ref l, .int (i : Nat)] ∧ Bag K b F H ∧ Same F H ∧ SqL K F l xs ∧ PrL K F xs L ∧ OkW L ∧ (∀ s ∈ L, OkS s.1) ∧ i < L.length ∧
  ∀ F' H' z, Sb b F H F' H' → Bag K b F' H' → Wrong K F' (L.take i) z → Q z H'
theorem c__law_wrong_pair (T : Txt K mg a) : Cl P w K mg base 5 "_law_wrong_pair" P__law_wrong_pair (sp__law_wrong_pair K) [] :=
  T.d__law_wrong_pair.cl sc__law_wrong_pair (fun vs H Q E h => by obtain ⟨F, b, l, xs, L, i, rfl, _⟩ := h; rfl) fun f cdv A outer s H vs Q E hr h => by
    obtain ⟨F, b, l, xs, L, i, rfl, hB, hf, hl, hp, okL, okS, iL, k⟩ := h
    refine ⟨_, ((pss_cons (ps_set (i := 3) sc__law_wrong_pair.nd rfl (Or.inl rfl) (pe_ix ix_tup (pe_ix ix_list (pv 1) (pv 2) (fun _ _ => rfl)) pe_int (fun _ _ => rfl)))
 (pss_cons (ps_set (i := 4) sc__law_wrong_pair.nd rfl (Or.inl rfl) (pe_ix ix_tup (pe_ix ix_list (pv 1) (pv 2) (fun _ _ => rfl)) pe_int (fun _ _ => rfl)))
 (pss_cons (ps_set (i := 5) sc__law_wrong_pair.nd rfl (Or.inl rfl) (pe_f (c__law_pick T) (takes_of rfl rfl rfl rfl) hr (by decide) rfl (pa_cons (pv 0) (pa_cons pe_int pa_nil))))
 (pss_cons (ps_if (pt_cmpR op_eq (pv 5) pe_int (nomark _))
 (pss_cons (ps_set (i := 6) sc__law_wrong_pair.nd rfl (Or.inl rfl) (pe_lst (pa_cons (pe_callTy call_list_of (by rfl) T.n_list (by decide +kernel) (pa_cons (pv 3) pa_nil)) (pa_cons (pe_slice sl_tup (pv 3) po_none (po_some pe_int)) (pa_cons (pe_op op_catT (pv 3) (pe_tup (pa_cons pe_int pa_nil))) (pa_cons (pe_tup (pa_cons pe_int (pa_cons (pe_ix ix_tup (pv 3) pe_int (fun _ _ => rfl)) (pa_cons (pe_ix ix_tup (pv 3) pe_int (fun _ _ => rfl)) pa_nil)))) (pa_cons (pe_tup (pa_cons (pe_ix ix_tup (pv 3) pe_int (fun _ _ => rfl)) (pa_cons pe_bl (pa_cons (pe_ix ix_tup (pv 3) pe_int (fun _ _ => rfl)) pa_nil)))) (pa_cons (pe_ix ix_tup (pv 3) pe_int (fun _ _ => rfl)) pa_nil))))))))
 (pss_cons (ps_set (i := 6) sc__law_wrong_pair.nd rfl (Or.inl rfl) (pe_op op_cat (pv 6) (pe_lst (pa_cons (pe_tup (pa_cons (pe_ix ix_tup (pv 3) pe_int (fun _ _ => rfl)) (pa_cons (pe_ix ix_tup (pv 3) pe_int (fun _ _ => rfl)) (pa_cons pe_non pa_nil)))) (pa_cons (pe_tup (pa_cons (pe_ix ix_tup (pv 3) pe_int (fun _ _ => rfl)) (pa_cons pe_bl (pa_cons pe_int pa_nil)))) (pa_cons (pe_tup (pa_cons pe_non (pa_cons pe_int (pa_cons pe_int pa_nil)))) (pa_cons (pe_tup (pa_cons (pe_ix ix_tup (pv 3) pe_int (fun _ _ => rfl)) (pa_cons (pe_ix ix_tup (pv 3) pe_int (fun _ _ => rfl)) (pa_cons (pe_tup (pa_cons pe_int (pa_cons pe_int pa_nil))) pa_nil)))) (pa_cons pe_non pa_nil))))))))
 (pss_one (ps_ret (pe_tup (pa_cons (pe_f (c__law_choice T) (takes_of rfl rfl rfl rfl) hr (by decide) rfl (pa_cons (pv 0) (pa_cons (pv 6) pa_nil))) (pa_cons (pv 4) pa_nil)))))))
 pss_nil)
 (pss_cons (ps_if (pt_cmpR op_eq (pv 5) pe_int (nomark _))
 (pss_cons (ps_set (i := 6) sc__law_wrong_pair.nd rfl (Or.inl rfl) (pe_lst (pa_cons (pe_tup (pa_cons (pe_ix ix_tup (pv 4) pe_int (fun _ _ => rfl)) (pa_cons pe_int pa_nil))) (pa_cons (pe_tup (pa_cons (pe_op op_mul pe_int (pe_ix ix_tup (pv 4) pe_int (fun _ _ => rfl))) (pa_cons (pe_op op_mul pe_int (pe_ix ix_tup (pv 4) pe_int (fun _ _ => rfl))) pa_nil))) (pa_cons (pe_tup (pa_cons (pe_op op_sub pe_int (pe_ix ix_tup (pv 4) pe_int (fun _ _ => rfl))) (pa_cons (pe_op op_sub pe_int (pe_ix ix_tup (pv 4) pe_int (fun _ _ => rfl))) pa_nil))) (pa_cons (pe_ix ix_tup (pv 4) pe_int (fun _ _ => rfl)) (pa_cons (pe_callTy call_list_of (by rfl) T.n_list (by decide +kernel) (pa_cons (pv 4) pa_nil)) pa_nil)))))))
 (pss_cons (ps_set (i := 6) sc__law_wrong_pair.nd rfl (Or.inl rfl) (pe_op op_cat (pv 6) (pe_lst (pa_cons (pe_tup (pa_cons (pe_ix ix_tup (pv 4) pe_int (fun _ _ => rfl)) pa_nil)) (pa_cons (pe_op op_catT (pv 4) (pe_tup (pa_cons pe_int pa_nil))) (pa_cons (pe_tup (pa_cons pe_bl (pa_cons pe_int pa_nil))) (pa_cons (pe_tup (pa_cons (pe_ix ix_tup (pv 4) pe_int (fun _ _ => rfl)) (pa_cons pe_bl pa_nil))) (pa_cons pe_non (pa_cons pe_str (pa_cons (pe_tup (pa_cons (pe_callTy call_str_int (by rfl) T.n_str (by decide +kernel) (pa_cons (pe_op op_fdiv (pe_ix ix_tup (pv 4) pe_int (fun _ _ => rfl)) pe_int) pa_nil)) (pa_cons pe_int pa_nil))) pa_nil))))))))))
 (pss_one (ps_ret (pe_tup (pa_cons (pv 3) (pa_cons (pe_f (c__law_choice T) (takes_of rfl rfl rfl rfl) hr (by decide) rfl (pa_cons (pv 0) (pa_cons (pv 6) pa_nil))) pa_nil)))))))
 pss_nil)
 (pss_cons (ps_if (pt_cmpR op_eq (pv 5) pe_int (nomark _))
 (pss_one (ps_ret (pe_f (c__law_choice T) (takes_of rfl rfl rfl rfl) hr (by decide) rfl (pa_cons (pv 0) (pa_cons (pe_lst (pa_cons (pe_tup (pa_cons (pv 3) pa_nil)) (pa_cons (pe_tup (pa_cons (pv 3) (pa_cons (pv 4) (pa_cons (pv 4) pa_nil)))) (pa_cons (pe_lst (pa_cons (pv 3) (pa_cons (pv 4) pa_nil))) (pa_cons (pe_tup (pa_cons (pv 4) (pa_cons (pv 3) pa_nil))) (pa_cons (pv 3) (pa_cons pe_non (pa_cons pe_int (pa_cons (pe_tup pa_nil) pa_nil))))))))) pa_nil)))))
 pss_nil)
 (pss_cons (ps_if (pt_cmpR op_eq (pv 2) pe_int (nomark _))
 (pss_one (ps_ret (pe_f (c__law_choice T) (takes_of rfl rfl rfl rfl) hr (by decide) rfl (pa_cons (pv 0) (pa_cons (pe_lst (pa_cons (pe_tup (pa_cons (pe_tup (pa_cons pe_str (pa_cons pe_int (pa_cons pe_int pa_nil)))) (pa_cons (pv 4) pa_nil))) (pa_cons (pe_tup (pa_cons (pe_tup (pa_cons pe_str (pa_cons pe_int (pa_cons pe_int pa_nil)))) (pa_cons (pv 4) pa_nil))) (pa_cons (pe_tup (pa_cons (pv 3) (pa_cons (pe_tup (pa_cons pe_int (pa_cons pe_int pa_nil))) pa_nil))) (pa_cons (pe_tup (pa_cons (pv 3) (pa_cons (pe_tup (pa_cons (pe_un un_neg pe_int) (pa_cons pe_int pa_nil))) pa_nil))) pa_nil))))) pa_nil)))))
 pss_nil)
 (pss_one (ps_ret (pe_tup (pa_cons (pe_ix ix_tup (pe_ix ix_list (pv 1) (pe_f (c__law_pick T) (takes_of rfl rfl rfl rfl) hr (by decide) rfl (pa_cons (pv 0) (pa_cons (pv 2) pa_nil))) (fun _ _ => rfl)) pe_int (fun _ _ => rfl)) (pa_cons (pe_f (c__law_choice T) (takes_of rfl rfl rfl rfl) hr (by decide) rfl (pa_cons (pv 0) (pa_cons (pe_lst (pa_cons (pv 4) (pa_cons (pe_tup (pa_cons pe_int (pa_cons pe_int pa_nil))) pa_nil))) pa_nil))) pa_nil))))))))))))), ?_⟩
    have len := hp.len
    have lenL := okL.len
    obtain ⟨v0, hv0⟩ : ∃ v, xs[i]? = some v := ⟨_, List.getElem?_eq_getElem (by omega)⟩
    obtain ⟨s0, hs0, q0, _, _, rfl, hq0, ⟨qs, rfl, hqs⟩, ⟨qr, rfl, hqr⟩, _⟩ := hp.at hv0
    have ai : atI xs (i : Int) = some (.ref q0) := by rw [at_nat (by omega)]; exact hv0
    have mem : s0 ∈ L := List.mem_of_getElem? hs0
    have low := okL.ok.low s0 mem
    have fine := okL.fine s0 mem
    have oks := okS s0 mem
    refine ⟨_, rfl, _, rfl, l, xs, _, _, rfl, rfl, upL hf hl, ai, q0, _, _, _, rfl, rfl, upT hf hq0, at0, ?_⟩
    refine gn ?_
    refine ⟨_, rfl, _, rfl, l, xs, _, _, rfl, rfl, upL hf hl, ai, q0, _, _, _, rfl, rfl, upT hf hq0, at1, ?_⟩
    refine gn ?_
    refine ⟨_, rfl, F, b, 5, rfl, hB, hf, by decide, sz_of 3 (by decide) (by decide), fun H1 way s1 B1 w0 w5 => ?_⟩
    refine gn ?_
    have hqs1 : F qs = some (.tup (spV s0.1)) := hqs
    have eF : Same F F := Same.refl F
    have spT : SqT K F qs (spV s0.1) := SqT.of hqs
    have rtT : SqT K F qr [.int s0.2.1, .int s0.2.2] := hqr
    have spU : ∀ {F'}, Same F F' → Spt F' (.ref qs) s0.1 := fun e => ⟨qs, rfl, e _ _ hqs⟩
    have rtU : ∀ {F'}, Same F F' → Rt K F' (.ref qr) s0.2 := fun e => ⟨qr, rfl, upT e hqr⟩
    -- a choice of odd things, and what comes of it
    have pick : ∀ {F' H' : Hp} {u : V} {zs : List V} {n : Nat} {Pv : Hp → V → Prop} {Q' : VK} {E' : XK}, Sb b F H F' H' → Bag K b F' H' → (∃ p, u = .ref p ∧ F' p = some (.lst zs)) → zs.length = n → n ≠ 0 → n ≤ 1000 → (∀ v ∈ zs, Pv F' v) → (∀ H2 v, Sb b F H F' H2 → Bag K b F' H2 → Pv F' v → Q' v H2) → sp__law_choice K [.ref b, u] H' Q' E' := by
      rintro F' H' _ zs n Pv Q' E' s2 B2 ⟨p, rfl, hp'⟩ hn n0 n1 hall kk
      refine ⟨F', b, .ref p, zs, rfl, .inl ⟨p, rfl, SqL.of hp'⟩, fun z => n0 (by rw [← hn, z]; rfl), by omega, B2, s2.fh, fun H2 v j s3 B3 hj => ?_⟩
      exact kk H2 v (seqB s2 B2 s3) B3 (hall v (List.mem_of_getElem? hj))
    by_cases w_0 : way = 0
    · refine ⟨_, rfl, rfl, _, rfl, iteY (vint_eq w_0) ?_⟩
      refine seq_asg ?_
      refine MkL.lst (F0 := F) (P := NotSp K) (MkL.cons up_notSp (Mk.list_of (Ev.var rfl) (.inr spT) fun F' q' e h => .nt (.lst (SqL.of h)) (by decide)) (MkL.cons up_notSp (Mk.cut2 (Ev.var rfl) spT fun F' q' e h => .len (SqT.of h) (by show 2 ≠ 3; decide)) (MkL.cons up_notSp (Mk.cat (Ev.var rfl) spT (EvL.cons Ev.c EvL.nil) (by intro z; cases z) (by intro z; cases z) (by show 3 + 1 ≤ 1000; decide) fun F' q' e h => .len (SqT.of h) (by show 4 ≠ 3; decide)) (MkL.cons up_notSp (Mk.tup (EvL.cons Ev.c (EvL.cons (Ev.ix (Ev.var rfl) spT rfl) (EvL.cons (Ev.ix (Ev.var rfl) spT rfl) EvL.nil))) (Nat.le_of_ble_eq_true rfl) fun F' q' e h => .name (SqT.of h) (.int _) (by decide)) (MkL.cons up_notSp (Mk.tup (EvL.cons (Ev.ix (Ev.var rfl) spT rfl) (EvL.cons Ev.c (EvL.cons (Ev.ix (Ev.var rfl) spT rfl) EvL.nil))) (Nat.le_of_ble_eq_true rfl) fun F' q' e h => .st (SqT.of h) (.bl _) (by decide)) (MkL.cons up_notSp (Mk.ev (Ev.ix (Ev.var rfl) spT rfl) fun F' e => .nt (.str _) (by decide)) MkL.nil)))))) up_notSp (by decide) eF s1.fh fun F2 H2 p2 z2 st2 hp2 hl2 hv2 => ?_
      refine gn ?_
      try dsimp only
      refine seq_asg ?_
      refine MkL.cat (F0 := F) (P := NotSp K) rfl hp2 hl2 hv2 (MkL.cons up_notSp (Mk.tup (EvL.cons (Ev.ix (Ev.var rfl) spT rfl) (EvL.cons (Ev.ix (Ev.var rfl) spT rfl) (EvL.cons Ev.c EvL.nil))) (Nat.le_of_ble_eq_true rfl) fun F' q' e h => .day (SqT.of h) .non (by decide)) (MkL.cons up_notSp (Mk.tup (EvL.cons (Ev.ix (Ev.var rfl) spT rfl) (EvL.cons Ev.c (EvL.cons Ev.c EvL.nil))) (Nat.le_of_ble_eq_true rfl) fun F' q' e h => .st (SqT.of h) (.bl _) (by decide)) (MkL.cons up_notSp (Mk.tup (EvL.cons Ev.c (EvL.cons Ev.c (EvL.cons Ev.c EvL.nil))) (Nat.le_of_ble_eq_true rfl) fun F' q' e h => .name (SqT.of h) .non (by decide)) (MkL.cons up_notSp (Mk.last3 (R := fun F v => ∃ p xs, v = .ref p ∧ SqT K F p xs) (Ev.ix (Ev.var rfl) spT rfl) (Ev.ix (Ev.var rfl) spT rfl) (Mk.tup (EvL.cons Ev.c (EvL.cons Ev.c EvL.nil)) (Nat.le_of_ble_eq_true rfl) fun F' q' e h => ⟨q', _, rfl, SqT.of h⟩) (fun F' q' u e hu h => by obtain ⟨p', xs', rfl, hu⟩ := hu; exact .day (SqT.of h) (.tup hu) (by decide)) fun _ _ _ e z => by obtain ⟨p', xs', h1, h2⟩ := z; exact ⟨p', xs', h1, upT e h2⟩) (MkL.cons up_notSp (Mk.ev Ev.c fun F' e => .nt .non (by decide)) MkL.nil))))) up_notSp (by decide) st2.ff st2.fh fun F3 H3 p3 z3 st3 hp3 hl3 hv3 => ?_
      refine gn ?_
      obtain ⟨s2, B2⟩ := pureB s1 B1 (st2.transP st3)
      refine ⟨_, rfl, _, rfl, arg2 (sp__law_choice K) (pick s2 B2 ⟨p3, rfl, hp3⟩ hl3 (by decide) (by decide) hv3 fun H4 v s4 B4 hv => ⟨_, rfl, by show 2 ≤ sizeLine; decide, fun t ht => ?_⟩)⟩
      obtain ⟨s5, B5⟩ := newB (o := .tup [v, .ref qr]) s4 B4 ht
      exact k _ _ _ s5 B5 (.spot (SqT.of upd_same) (hv.up (same_new (s4.fh.free ht))))
    refine ⟨_, rfl, rfl, _, rfl, iteN (vint_ne w_0) ?_⟩
    by_cases w_1 : way = 1
    · refine ⟨_, rfl, rfl, _, rfl, iteY (vint_eq w_1) ?_⟩
      have text7 : (s0.2.1 / 7).natAbs.log2 < 1920 := by
        have z1 : (s0.2.1 / 7).natAbs < 2 ^ 300 := Nat.lt_of_le_of_lt (Int.natAbs_ediv_le_natAbs _ _) fine.a
        exact Nat.lt_of_lt_of_le (PySem.Flt.log2_lt_of (by decide) z1) (by decide)
      refine seq_asg ?_
      refine MkL.lst (F0 := F) (P := NotRt K) (MkL.cons up_notRt (Mk.tup (EvL.cons (Ev.ix (Ev.var rfl) rtT rfl) (EvL.cons Ev.c EvL.nil)) (Nat.le_of_ble_eq_true rfl) fun F' q' e h => .low (r := (s0.2.1, 0)) (SqT.of h) (fun z => absurd z.1 (by show ¬ (1 : Int) ≤ 0; decide))) (MkL.cons up_notRt (Mk.tup (EvL.cons (Ev.iC Ev.c (Ev.ix (Ev.var rfl) rtT rfl) (.inl ⟨by decide, by decide⟩)) (EvL.cons (Ev.iC Ev.c (Ev.ix (Ev.var rfl) rtT rfl) (.inl ⟨by decide, by decide⟩)) EvL.nil)) (Nat.le_of_ble_eq_true rfl) fun F' q' e h => .low (r := (2 * s0.2.1, 2 * s0.2.2)) (SqT.of h) (no_two _ _)) (MkL.cons up_notRt (Mk.tup (EvL.cons (Ev.i0 Ev.c (Ev.ix (Ev.var rfl) rtT rfl)) (EvL.cons (Ev.i0 Ev.c (Ev.ix (Ev.var rfl) rtT rfl)) EvL.nil)) (Nat.le_of_ble_eq_true rfl) fun F' q' e h => .low (r := (0 - s0.2.1, 0 - s0.2.2)) (SqT.of h) (fun z => by have h1 := z.1; have h2 := low.1; dsimp only at h1; omega)) (MkL.cons up_notRt (Mk.ev (Ev.ix (Ev.var rfl) rtT rfl) fun F' e => .nt (.int _) (by decide)) (MkL.cons up_notRt (Mk.list_of (Ev.var rfl) (.inr rtT) fun F' q' e h => .nt (.lst (SqL.of h)) (by decide)) MkL.nil))))) up_notRt (by decide) eF s1.fh fun F2 H2 p2 z2 st2 hp2 hl2 hv2 => ?_
      refine gn ?_
      try dsimp only
      refine seq_asg ?_
      refine MkL.cat (F0 := F) (P := NotRt K) rfl hp2 hl2 hv2 (MkL.cons up_notRt (Mk.tup (EvL.cons (Ev.ix (Ev.var rfl) rtT rfl) EvL.nil) (Nat.le_of_ble_eq_true rfl) fun F' q' e h => .len (SqT.of h) (by show 1 ≠ 2; decide)) (MkL.cons up_notRt (Mk.cat (Ev.var rfl) rtT (EvL.cons Ev.c EvL.nil) (by intro z; cases z) (by intro z; cases z) (by show 2 + 1 ≤ 1000; decide) fun F' q' e h => .len (SqT.of h) (by show 3 ≠ 2; decide)) (MkL.cons up_notRt (Mk.tup (EvL.cons Ev.c (EvL.cons Ev.c EvL.nil)) (Nat.le_of_ble_eq_true rfl) fun F' q' e h => .one (SqT.of h) (.bl _) (by decide)) (MkL.cons up_notRt (Mk.tup (EvL.cons (Ev.ix (Ev.var rfl) rtT rfl) (EvL.cons Ev.c EvL.nil)) (Nat.le_of_ble_eq_true rfl) fun F' q' e h => .two (SqT.of h) (.bl _) (by decide)) (MkL.cons up_notRt (Mk.ev Ev.c fun F' e => .nt .non (by decide)) (MkL.cons up_notRt (Mk.ev Ev.c fun F' e => .nt (.str _) (by decide)) (MkL.cons up_notRt (Mk.tup (EvL.cons (Ev.text (Ev.iC (Ev.ix (Ev.var rfl) rtT rfl) Ev.c ⟨by decide, by decide⟩) text7) (EvL.cons Ev.c EvL.nil)) (Nat.le_of_ble_eq_true rfl) fun F' q' e h => .one (SqT.of h) (.str _) (by decide)) MkL.nil))))))) up_notRt (by decide) st2.ff st2.fh fun F3 H3 p3 z3 st3 hp3 hl3 hv3 => ?_
      refine gn ?_
      obtain ⟨s2, B2⟩ := pureB s1 B1 (st2.transP st3)
      refine ⟨_, rfl, _, rfl, _, rfl, arg2 (sp__law_choice K) (pick s2 B2 ⟨p3, rfl, hp3⟩ hl3 (by decide) (by decide) hv3 fun H4 v s4 B4 hv => ⟨by show 2 ≤ sizeLine; decide, fun t ht => ?_⟩)⟩
      obtain ⟨s5, B5⟩ := newB (o := .tup [.ref qs, v]) s4 B4 ht
      exact k _ _ _ s5 B5 (.ratio (SqT.of upd_same) (spU (s4.ff.trans (same_new (s4.fh.free ht)))) (hv.up (same_new (s4.fh.free ht))))
    refine ⟨_, rfl, rfl, _, rfl, iteN (vint_ne w_1) ?_⟩
    by_cases w_2 : way = 2
    · refine ⟨_, rfl, rfl, _, rfl, iteY (vint_eq w_2) ?_⟩
      refine ⟨_, rfl, ?_⟩
      refine MkL.lst (F0 := F) (P := fun F v => Wrong K F (L.take i) v) (MkL.cons up_wrong (Mk.tup (EvL.cons (Ev.var rfl) EvL.nil) (Nat.le_of_ble_eq_true rfl) fun F' q' e h => .len (SqT.of h) (by show 1 ≠ 2; decide)) (MkL.cons up_wrong (Mk.tup (EvL.cons (Ev.var rfl) (EvL.cons (Ev.var rfl) (EvL.cons (Ev.var rfl) EvL.nil))) (Nat.le_of_ble_eq_true rfl) fun F' q' e h => .len (SqT.of h) (by show 3 ≠ 2; decide)) (MkL.cons up_wrong (Mk.lst (EvL.cons (Ev.var rfl) (EvL.cons (Ev.var rfl) EvL.nil)) (Nat.le_of_ble_eq_true rfl) fun F' q' e h => .nt (.lst (SqL.of h)) (by decide)) (MkL.cons up_wrong (Mk.tup (EvL.cons (Ev.var rfl) (EvL.cons (Ev.var rfl) EvL.nil)) (Nat.le_of_ble_eq_true rfl) fun F' q' e h => .spot (SqT.of h) (.len (upT e rtT) (by show 2 ≠ 3; decide))) (MkL.cons up_wrong (Mk.ev (Ev.var rfl) fun F' e => .len (upT e spT) (by show 3 ≠ 2; decide)) (MkL.cons up_wrong (Mk.ev Ev.c fun F' e => .nt .non (by decide)) (MkL.cons up_wrong (Mk.ev Ev.c fun F' e => .nt (.int _) (by decide)) (MkL.cons up_wrong (Mk.tup EvL.nil (Nat.le_of_ble_eq_true rfl) fun F' q' e h => .len (SqT.of h) (by show 0 ≠ 2; decide)) MkL.nil)))))))) up_wrong (by decide) eF s1.fh fun F2 H2 p2 z2 st2 hp2 hl2 hv2 => ?_
      obtain ⟨s2, B2⟩ := pureB s1 B1 st2
      exact arg2 (sp__law_choice K) (pick (Pv := fun F v => Wrong K F (L.take i) v) s2 B2 ⟨p2, rfl, hp2⟩ hl2 (by decide) (by decide) hv2 fun H4 v s4 B4 hv => k _ _ _ s4 B4 hv)
    refine ⟨_, rfl, rfl, _, rfl, iteN (vint_ne w_2) ?_⟩
    by_cases i0 : i = 0
    · refine ⟨_, rfl, rfl, _, rfl, iteY (vint_eq (by omega)) ?_⟩
      subst i0
      rw [List.take_zero] at k
      refine ⟨_, rfl, ?_⟩
      refine MkL.lst (F0 := F) (P := fun F v => Wrong K F [] v) (MkL.cons up_wrong (Mk.first (R := fun F v => Spt F v (Str.ofString "grounds", 0, 0)) (Mk.tup (EvL.cons Ev.c (EvL.cons Ev.c (EvL.cons Ev.c EvL.nil))) (Nat.le_of_ble_eq_true rfl) fun F' q' e h => ⟨q', rfl, h⟩) (Ev.var rfl) (fun F' q' u e hu h => .first (SqT.of h) hu (rtU e) low rfl (.inl (by decide +kernel)) (by decide +kernel)) fun _ _ _ e z => z.up e) (MkL.cons up_wrong (Mk.first (R := fun F v => Spt F v (Str.ofString "ground", 0, 1)) (Mk.tup (EvL.cons Ev.c (EvL.cons Ev.c (EvL.cons Ev.c EvL.nil))) (Nat.le_of_ble_eq_true rfl) fun F' q' e h => ⟨q', rfl, h⟩) (Ev.var rfl) (fun F' q' u e hu h => .first (SqT.of h) hu (rtU e) low rfl (.inl (by decide +kernel)) (by decide +kernel)) fun _ _ _ e z => z.up e) (MkL.cons up_wrong (Mk.last (R := fun F v => Rt K F v (1, 1)) (Ev.var rfl) (Mk.tup (EvL.cons Ev.c (EvL.cons Ev.c EvL.nil)) (Nat.le_of_ble_eq_true rfl) fun F' q' e h => ⟨q', rfl, SqT.of h⟩) (fun F' q' u e hu h => .first (SqT.of h) (spU e) hu ⟨by decide, by decide⟩ rfl (.inr (by decide)) oks.nm.1) fun _ _ _ e z => z.up e) (MkL.cons up_wrong (Mk.last (R := fun F v => Rt K F v (-1, 3)) (Ev.var rfl) (Mk.tup (EvL.cons (Ev.neg Ev.c) (EvL.cons Ev.c EvL.nil)) (Nat.le_of_ble_eq_true rfl) fun F' q' e h => ⟨q', rfl, SqT.of h⟩) (fun F' q' u e hu h => .first (SqT.of h) (spU e) hu ⟨by decide, by decide⟩ rfl (.inr (by decide)) oks.nm.1) fun _ _ _ e z => z.up e) MkL.nil)))) up_wrong (by decide) eF s1.fh fun F2 H2 p2 z2 st2 hp2 hl2 hv2 => ?_
      obtain ⟨s2, B2⟩ := pureB s1 B1 st2
      exact arg2 (sp__law_choice K) (pick (Pv := fun F v => Wrong K F [] v) s2 B2 ⟨p2, rfl, hp2⟩ hl2 (by decide) (by decide) hv2 fun H4 v s4 B4 hv => k _ _ _ s4 B4 hv)
    refine ⟨_, rfl, rfl, _, rfl, iteN (vint_ne (by omega)) ?_⟩
    refine ⟨_, rfl, _, rfl, _, rfl, arg2 (sp__law_pick K) ⟨F, b, (i : Int), rfl, B1, s1.fh, by omega, sz_of 20 (by omega) (by decide), fun H2 j s2 B2 j0 j1 => ?_⟩⟩
    have s12 := seqB s1 B1 s2
    obtain ⟨jn, rfl⟩ : ∃ jn : Nat, j = jn := ⟨j.toNat, by omega⟩
    obtain ⟨v1, hv1⟩ : ∃ v, xs[jn]? = some v := ⟨_, List.getElem?_eq_getElem (by omega)⟩
    obtain ⟨s9, hs9, q9, _, _, rfl, hq9, ⟨qs9, rfl, hqs9⟩, _, _⟩ := hp.at hv1
    have aj : atI xs (jn : Int) = some (.ref q9) := by rw [at_nat (by omega)]; exact hv1
    refine ⟨l, xs, _, _, rfl, rfl, upL s12.fh hl, aj, q9, _, _, _, rfl, rfl, upT s12.fh hq9, at0, ?_⟩
    have mem9 : s9.1 ∈ (L.take i).map (·.1) := List.mem_map.mpr ⟨s9, List.mem_of_getElem? (show (L.take i)[jn]? = some s9 by rw [List.getElem?_take, if_pos (by omega)]; exact hs9), rfl⟩
    refine ⟨_, rfl, ?_⟩
    refine MkL.lst (F0 := F) (P := fun _ _ => True) (MkL.cons (fun _ _ _ _ _ => trivial) (Mk.ev (Ev.var rfl) fun _ _ => trivial) (MkL.cons (fun _ _ _ _ _ => trivial) (Mk.tup (EvL.cons Ev.c (EvL.cons Ev.c EvL.nil)) (Nat.le_of_ble_eq_true rfl) fun _ _ _ _ => trivial) MkL.nil)) (fun _ _ _ _ _ => trivial) (by decide) eF s12.fh fun F3 H3 p3 z3 st3 hp3 hl3 hv3 => ?_
    obtain ⟨s4, B4⟩ := pureB s12 B2 st3
    refine arg2 (sp__law_choice K) (pick (Pv := fun _ _ => True) s4 B4 ⟨p3, rfl, hp3⟩ hl3 (by decide) (by decide) hv3 fun H5 v s5 B5 _ => ⟨by show 2 ≤ sizeLine; decide, fun t ht => ?_⟩)
    obtain ⟨s6, B6⟩ := newB (o := .tup [.ref qs9, v]) s5 B5 ht
    exact k _ _ _ s6 B6 (.twice (SqT.of upd_same) ⟨qs9, rfl, s6.ff _ _ hqs9⟩ mem9)
end
end K26

set_option Elab.async false
set_option linter.all false
set_option maxRecDepth 100000
set_option maxHeartbeats 4000000
namespace K26
open PySem PySem.Spec PyProof.Rows L2 Ew
theorem ix_nat {n i : Nat} (h : i < n) : ixN n (i : Int) = some i := by
  unfold ixN
  rw [if_pos (by omega), if_pos (by omega)]
  simp
section
variable {K : PySem.W.Frag} {F0 : Hp} {σ : L2.St} {te : TE} {ts : TA} {P : Hp → V → Prop} {xs : List V} {p : Addr} {n : Nat}
theorem Mk.tup_of (h : Ev F0 σ te (.ref p)) (hs : SqL K F0 p xs) (hp : ∀ F q, Same F0 F → F q = some (.tup xs) → P F (.ref q)) :
    Mk F0 σ (tCB (fun xs H Q => ∃ p ys, xs = [.ref p] ∧ ((SqL K H p ys ∧ ∀ l, H l = none → Q (.ref l) (upd H l (.tup ys))) ∨ (SqT K H p ys ∧ Q (.ref p) H))) (tCons te tNil)) P := fun F H Q e e1 k =>
  h H _ (e.trans e1) ⟨p, xs, rfl, .inl ⟨upL (e.trans e1) hs, fun q hq => k _ _ _ (stp_new e1 hq) (hp _ q (e.trans (same_new (e1.free hq))) upd_same)⟩⟩
/-- for x in [..], the things just made -/
theorem for_made {F H : Hp} {g : TG} {tb u : TS} {D : Ends} (h : MkL F0 σ ts n P) (up : Up P) (hn : n ≤ 1000) (e : Same F0 F) (e1 : Same F H) (Pv : Hp → L2.St → Hp → Prop) (h0 : ∀ F1 H1, Stp F H F1 H1 → Pv F1 σ H1)
    (hG : ∀ F1 σ' H', Pv F1 σ' H' → Same F1 H') (hs : ∀ F1, Same F F1 → ∀ σ' H' v, Pv F1 σ' H' → P F1 v → g v σ' H' fun σ2 H2 => tb ⟨Pv F1, D.rt, u D, Pv F1⟩ σ2 H2)
    (hd : ∀ F1 σ' H', Same F F1 → Pv F1 σ' H' → u D σ' H') : tSeq (tFor (iList K (tLst ts)) g tb) u D σ H := by
  unfold tSeq tFor iList
  refine MkL.lst h up hn e e1 fun F1 H1 q zs s1 hq hl hv => ⟨q, rfl, ⟨zs, SqL.of (s1.fh _ _ hq)⟩, ?_⟩
  refine for_it (tb := tb) (walk_list (xs := zs)) (fun _ => Pv F1) (h0 F1 H1 s1) (fun i σ' H' _ z => SqL.of (hG _ _ _ z _ _ hq)) ?_ (fun σ' H' z => hd F1 σ' H' s1.ff z)
  rintro i v σ' H' _ hi z ⟨rfl, hx⟩
  exact hs F1 s1.ff σ' _ v z (hv v (List.mem_of_getElem? hx))
end
/-- a row that makes no world, and the place that is told of it -/
structure CaseB (K : PySem.W.Frag) (F : Hp) (p : Addr) (zs : List V) (L : Prs) : Prop where
  row : Row K F p zs
  len : zs.length ≤ 1000
  beg : Begin K any1 F zs L
  ok : OkL L
  str : ∀ s ∈ L, PyData.strOk s.1.1 = true
  bad : ∀ x, zs[L.length]? = some x → Wrong K F L x
  low : L.length < zs.length ∨ zs = []
def Case (K : PySem.W.Frag) (F : Hp) (v : V) : Prop := ∃ q p zs L, v = .ref q ∧ SqT K F q [.ref p, .int (L.length : Nat)] ∧ CaseB K F p zs L
theorem CaseB.up {K : PySem.W.Frag} {F F' : Hp} {p : Addr} {zs : List V} {L : Prs} (h : CaseB K F p zs L) (e : Same F F') : CaseB K F' p zs L := ⟨h.row.imp (upL e) (upT e), h.len, h.beg.up e, h.ok, h.str, fun x hx => (h.bad x hx).up e, h.low⟩
theorem up_case {K : PySem.W.Frag} : Up (Case K) := fun F F' v e h => by
  obtain ⟨q, p, zs, L, h1, h2, h3⟩ := h
  exact ⟨q, p, zs, L, h1, upT e h2, h3.up e⟩
theorem case_nil {K : PySem.W.Frag} {F : Hp} {p : Addr} (h : Row K F p []) : CaseB K F p [] [] := ⟨h, by decide, ⟨by decide, fun i s z => by simp at z⟩, ⟨by simp, (fun _ z => nomatch z), (fun _ z => nomatch z)⟩, (fun _ z => nomatch z), (fun x z => nomatch z), .inr rfl⟩
theorem OkL.take {L : Prs} (h : OkL L) (n : Nat) : OkL (L.take n) where
  nd := by rw [List.map_take]; exact h.nd.sublist (List.take_sublist _ _)
  low := fun s hs => h.low s (List.mem_of_mem_take hs)
  hd := fun s hs => h.hd s (by
    rw [List.getElem?_take] at hs
    by_cases q : 0 < n
    · rwa [if_pos q] at hs
    · rw [if_neg q] at hs; cases hs)
section
variable {P : Program} {w : World} {K : PySem.W.Frag} {mg : Str → Option Value} {base : Heap} {a : Ad}
/-- the suite that asks for a wrong place -/
theorem place_caught (T : Txt K mg a) {Wo : WX} {D : Ends} {c0 c1 c2 c3 c4 c5 c7 : Option V} {q d p : Addr} {n : Nat} {F H : Hp} (hq : SqT K F q [.ref p, .int (n : Nat)]) (hd : F d = some (.xd [("place", .int (n : Nat))])) (hf : Same F H)
    (k : ∀ H', Stp F H F H' → D.nx [c0, c1, c2, c3, c4, c5, some (.ref q), none] H') :
    wN K Wo D [(.ref a.EllError, some 7, fun xa cls d => tSeq (tIfS (tOr (tNot (tB (tCB (fun xs H Q => cls = .ref a.BadWorld ∧ rIsErr K a.BadWorld xa d xs H Q) (tCons (tVar 7) (tCons (tC (.ref a.BadWorld)) tNil)))))
        (tOr (tB (tCB (fun xs H Q => cls = .ref a.BadWorld ∧ rIsErr K a.BadWorld xa d xs H Q) (tCons (tVar 7) (tCons (tTup (tCons (tC (.ref a.NoSpot)) (tCons (tC (.ref a.BadSpot)) tNil))) tNil))))
          (tNot (tB (tCB (fun xs H Q => cls = .ref a.BadWorld ∧ rIsErr K a.BadWorld xa d xs H Q) (tCons (tVar 7) (tCons (tC (.ty "ValueError")) tNil))))))) (tRet (tC (.bl false))) tNext)
        (tIfS (tOr (tNot (tB (tCall (sp_is_integer K) [] E0 (tCons (tXf xa cls d a.BadWorld "place" (tVar 7)) tNil)))) (tTest (tOp rNe (tXf xa cls d a.BadWorld "place" (tVar 7)) (tOp (rIxT K) (tVar 6) (tC (.int 1)))))) (tRet (tC (.bl false))) tNext))]
      (.ref a.BadWorld) (some d) [c0, c1, c2, c3, c4, c5, some (.ref q), c7] H := by
  have hd0 := hf _ _ hd
  refine ⟨true, T.em_BadWorld, fun _ ea hea => ?_, fun z => nomatch z⟩
  refine ⟨_, rfl, rfl, fun d' z => ⟨_, by cases z; exact hd0⟩, .inl ⟨_, _, true, rfl, .own _, kit_same, true, rfl, iteF ?_⟩⟩
  refine ⟨_, rfl, by show 2 ≤ sizeLine; decide, fun tp htp => ?_⟩
  have st : Stp F H F (upd H tp (.tup [.ref a.NoSpot, .ref a.BadSpot])) := (Stm.refl hf).raw htp htp
  have hd2 := st.fh _ _ hd
  refine ⟨rfl, fun d' z => ⟨_, by cases z; exact hd2⟩, .inr ⟨tp, _, _, false, rfl, upd_same, .cons (.own _) (.cons (.own _) .nil), T.kn_BadWorld, false, rfl, iteF ?_⟩⟩
  refine ⟨_, rfl, rfl, fun d' z => ⟨_, by cases z; exact hd2⟩, .inl ⟨_, _, true, rfl, .ty _, T.kv_BadWorld, true, rfl, iteF ?_⟩⟩
  refine ⟨_, rfl, rfl, rfl, d, _, .int (n : Nat), rfl, hd2, rfl, .int (n : Nat), rfl, .inl ⟨_, rfl, true, rfl, iteF ?_⟩⟩
  refine ⟨_, rfl, rfl, rfl, d, _, .int (n : Nat), rfl, hd2, rfl, _, rfl, q, _, _, _, rfl, rfl, upT st.fh hq, at1, rfl, ?_⟩
  rw [decide_eq_true rfl]
  exact ⟨_, rfl, iteF (k _ st)⟩
def sp__law_wrong_rows_refused (K : PySem.W.Frag) : Sp := fun vs H Q _ => ∃ (F : Hp) (b l : Addr) (xs : List V) (L : Prs), vs = [.ref b, .ref l] ∧ Bag K b F H ∧ Same F H ∧ SqL K F l xs ∧ PrL K F xs L ∧ OkW L ∧ (∀ s ∈ L, OkS s.1) ∧
  ∀ F' H', Sb b F H F' H' → Bag K b F' H' → Q (.bl true) H'
theorem c__law_wrong_rows_refused (T : Txt K mg a) : ClG P w K mg base 7 "_law_wrong_rows_refused" P__law_wrong_rows_refused (sp__law_wrong_rows_refused K) :=
  T.d__law_wrong_rows_refused.clG sc__law_wrong_rows_refused (fun vs H Q E h => by obtain ⟨F, b, l, xs, L, rfl, _⟩ := h; rfl) fun f cdv A outer s H vs Q E hgd hr h => by
    obtain ⟨F, b, l, xs, L, rfl, hB, hf, hl, hp, okL, okS, k⟩ := h
    refine ⟨_, ((pss_cons (ps_set (i := 2) sc__law_wrong_rows_refused.nd rfl (Or.inl rfl) (pe_callTy call_list_of (by rfl) T.n_list (by decide +kernel) (pa_cons (pv 1) pa_nil)))
 (pss_cons (ps_set (i := 3) sc__law_wrong_rows_refused.nd rfl (Or.inl rfl) (pe_f (c__law_pick T) (takes_of rfl rfl rfl rfl) hr (by decide) rfl (pa_cons (pv 0) (pa_cons (pe_callB call_len_seq (by rfl) T.n_len (by decide +kernel) (pa_cons (pv 1) pa_nil)) pa_nil))))
 (pss_cons (ps_asg (pe_f (c__law_wrong_pair T) (takes_of rfl rfl rfl rfl) hr (by decide) rfl (pa_cons (pv 0) (pa_cons (pv 1) (pa_cons (pv 3) pa_nil)))) (pg_sub (pv 2) (pv 3) set_list))
 (pss_cons (ps_set (i := 4) sc__law_wrong_rows_refused.nd rfl (Or.inl rfl) (pe_op op_add (pv 3) (pe_f (c__law_pick T) (takes_of rfl rfl rfl rfl) hr (by decide) rfl (pa_cons (pv 0) (pa_cons (pe_op op_sub (pe_callB call_len_seq (by rfl) T.n_len (by decide +kernel) (pa_cons (pv 1) pa_nil)) (pv 3)) pa_nil)))))
 (pss_cons (ps_if (pt_cmpR op_gt (pv 4) (pv 3) (nomark _))
 (pss_one (ps_asg (pe_f (c__law_wrong_pair T) (takes_of rfl rfl rfl rfl) hr (by decide) rfl (pa_cons (pv 0) (pa_cons (pv 1) (pa_cons (pv 4) pa_nil)))) (pg_sub (pv 2) (pv 4) set_list)))
 pss_nil)
 (pss_cons (ps_set (i := 5) sc__law_wrong_rows_refused.nd rfl (Or.inl rfl) (pe_lst pa_nil))
 (pss_cons (ps_for (passes_of rfl) rfl (pi_list (pe_lst (pa_cons (pe_tup (pa_cons (pv 2) (pa_cons (pv 3) pa_nil))) (pa_cons (pe_tup (pa_cons (pe_callTy call_tuple_of (by rfl) T.n_tuple (by decide +kernel) (pa_cons (pv 2) pa_nil)) (pa_cons (pv 3) pa_nil))) (pa_cons (pe_tup (pa_cons (pe_lst pa_nil) (pa_cons pe_int pa_nil))) (pa_cons (pe_tup (pa_cons (pe_tup pa_nil) (pa_cons pe_int pa_nil))) pa_nil)))))) (pg_name (i := 6) sc__law_wrong_rows_refused.nd rfl (Or.inl rfl))
 (pss_one (ps_tryN rfl rfl sc__law_wrong_rows_refused.nd (takes_of rfl rfl rfl rfl)
 (fun W pn xe tk tkp => (pss_one (ps_expr (by show PE _ _ (tBM K "list" rAppend (tVar 5) (tCons (tMkW a.World (sp_Winit K a) W (tCons (tOp (rIxT K) (tVar 6) (tC (.int 0))) tNil)) tNil)); exact pe_bm PySem.F.plainAttrs_list PySem.F.slot_list_append PySem.F.type_list_append mt_append (pv 5) (pa_cons (pe_mkW (mk_World T) tk hr (by decide) rfl (pa_cons (pe_ix ix_tup (pv 6) pe_int (fun _ _ => rfl)) pa_nil)) pa_nil)))))
 (.nm (i := 7) rfl rfl ⟨rfl, by decide, .inl T.g_EllError⟩ (fun xa oe cls d pn hz hf => (pss_cons (ps_if (PW.pt (pw_or (pt_not (pt_val (pe_callB (call_isErrC T.e_BadWorld hz hf) (by rfl) T.n_isinstance (by decide +kernel) (pa_cons (pv 7) (pa_cons (pe_glob (v := .ref a.BadWorld) rfl T.g_BadWorld rfl) pa_nil))))) (pw_or (pt_val (pe_callB (call_isErrC T.e_BadWorld hz hf) (by rfl) T.n_isinstance (by decide +kernel) (pa_cons (pv 7) (pa_cons (pe_tup (pa_cons (pe_glob (v := .ref a.NoSpot) rfl T.g_NoSpot rfl) (pa_cons (pe_glob (v := .ref a.BadSpot) rfl T.g_BadSpot rfl) pa_nil))) pa_nil)))) (pw_or1 (pt_not (pt_val (pe_callB (call_isErrC T.e_BadWorld hz hf) (by rfl) T.n_isinstance (by decide +kernel) (pa_cons (pv 7) (pa_cons (pe_bltn (v := .ty "ValueError") (by rfl) T.n_ValueError (by decide +kernel) rfl) pa_nil)))))))))
 (pss_one (ps_ret pe_bl))
 pss_nil)
 (pss_one (ps_if (PW.pt (pw_or (pt_not (pt_val (pe_fE hgd (cE__law_integer T) hz hf hr (by decide) rfl (pa_cons (pe_xf T.xf_BadWorld T.no_BadWorld_place hz hf (pv 7)) pa_nil)))) (pw_or1 (pt_cmpR op_ne (pe_xf T.xf_BadWorld T.no_BadWorld_place hz hf (pv 7)) (pe_ix (r := rIxT K) ix_tup (pv 6) pe_int (fun _ _ => rfl)) (nomark _)))))
 (pss_one (ps_ret pe_bl))
 pss_nil)))) .nil))))
 (pss_one (ps_ret (pe_cmpR (op_eqD hr.units) (pv 5) (pe_lst pa_nil) (nomark _)))))))))))), ?_⟩
    have len := hp.len
    have lenL := okL.len
    have pos : 0 < xs.length := by rw [len]; exact List.length_pos_iff.mpr okL.ne
    refine ⟨_, rfl, l, xs, rfl, .inl (upL hf hl), fun R hR => ?_⟩
    have fR : F R = none := hf.free hR
    have nRb : R ≠ b := fun z => (memB K b).there hB z hR
    obtain ⟨s1, B1⟩ := rawB (o := .lst xs) (Stm.refl hf) hB hR
    have hR1 : (upd H R (.lst xs)) R = some (.lst xs) := upd_same
    obtain ⟨H1, eH1⟩ : ∃ H1, H1 = upd H R (.lst xs) := ⟨_, rfl⟩
    rw [← eH1] at s1 B1 hR1 ⊢
    refine gn ?_
    try dsimp only
    refine ⟨_, rfl, _, rfl, l, xs, rfl, .inl (upL s1.fh hl), F, b, _, rfl, B1, s1.fh, by omega, sz_of 20 (by omega) (by decide), fun H2 due s2 B2 d0 d1 => ?_⟩
    obtain ⟨du, rfl⟩ : ∃ du : Nat, due = du := ⟨due.toNat, by omega⟩
    have hR2 := s2.hh R _ nRb hR1
    have s12 := seqB s1 B1 s2
    refine gn ?_
    try dsimp only
    refine ⟨_, rfl, _, rfl, _, rfl, F, b, l, xs, L, du, rfl, B2, s2.fh, hl, hp, okL, okS, by omega, fun F3 H3 w1 s3 B3 hw => ?_⟩
    have hR3 := s3.hh R _ nRb hR2
    have fR3 : F3 R = none := s3.nw R fR (by rw [hR2]; exact fun z => nomatch z)
    have s13 := seqB s12 B2 s3
    refine ⟨_, rfl, _, rfl, R, xs, _, du, rfl, rfl, hR3, ix_nat (by omega), ?_⟩
    obtain ⟨s4, B4⟩ := mutB (o := .lst (xs.set du w1)) s13 B3 fR3 hR nRb
    have hR4 : (upd H3 R (.lst (xs.set du w1))) R = some (.lst (xs.set du w1)) := upd_same
    obtain ⟨H4, eH4⟩ : ∃ H4, H4 = upd H3 R (.lst (xs.set du w1)) := ⟨_, rfl⟩
    rw [← eH4] at s4 B4 hR4 ⊢
    try dsimp only
    refine ⟨_, rfl, _, rfl, _, rfl, l, xs, rfl, .inl (upL s4.fh (upL s4.ff hl)), _, rfl, _, _, rfl, rfl, F3, b, _, rfl, B4, s4.fh, by omega, sz_of 20 (by omega) (by decide), fun H5 x s5 B5 x0 x1 => ⟨_, _, rfl, rfl, ?_⟩⟩
    have s15 := seqB s4 B4 s5
    have hR5 := s5.hh R _ nRb hR4
    obtain ⟨xn, rfl⟩ : ∃ xn : Nat, x = xn := ⟨x.toNat, by omega⟩
    refine gn ?_
    try dsimp only
    refine seq_with (fun σ' H' => ∃ F' zs w c4, σ' = [some (.ref b), some (.ref l), some (.ref R), some (.int (du : Nat)), c4, none, none, none] ∧ Sb b F H F' H' ∧ Bag K b F' H' ∧ F' R = none ∧ H' R = some (.lst zs) ∧ zs.length = xs.length ∧ (∀ i, i < du → zs[i]? = xs[i]?) ∧ zs[du]? = some w ∧ Wrong K F' (L.take du) w) (fun u hu => ?_) ?_
    · refine ⟨_, rfl, _, rfl, _, _, rfl, rfl, _, rfl, ?_⟩
      have z1 : ∀ i, i < du → (xs.set du w1)[i]? = xs[i]? := fun i hi => by rw [List.getElem?_set_ne (by omega)]
      have z2 : (xs.set du w1)[du]? = some w1 := List.getElem?_set_self (by omega)
      by_cases x9 : xn = 0
      · rw [decide_eq_false (by omega)]
        exact iteF (hu _ _ ⟨F3, _, w1, _, rfl, s15, B5, fR3, hR5, by rw [List.length_set], z1, z2, hw⟩)
      · rw [decide_eq_true (by omega)]
        refine iteT ?_
        refine ⟨_, rfl, _, rfl, _, rfl, F3, b, l, xs, L, du + xn, by rw [Int.natCast_add]; rfl, B5, s5.fh, upL s4.ff hl, hp.up s4.ff, okL, okS, by omega, fun F6 H6 w2 s6 B6 _ => ?_⟩
        have hR6 := s6.hh R _ nRb hR5
        have fR6 : F6 R = none := s6.nw R fR3 (by rw [hR5]; exact fun z => nomatch z)
        have s16 := seqB s15 B5 s6
        refine ⟨_, rfl, _, rfl, R, _, _, du + xn, rfl, rfl, hR6, by rw [← Int.natCast_add]; exact ix_nat (by rw [List.length_set]; omega), ?_⟩
        obtain ⟨s7, B7⟩ := mutB (o := .lst ((xs.set du w1).set (du + xn) w2)) s16 B6 fR6 hR nRb
        exact hu _ _ ⟨F6, _, w1, _, rfl, s7, B7, fR6, upd_same, by rw [List.length_set, List.length_set], fun i hi => by rw [List.getElem?_set_ne (by omega)]; exact z1 i hi, by rw [List.getElem?_set_ne (by omega)]; exact z2, hw.up s6.ff⟩
    clear s15 B5 hR5 s5 s4 B4 hR4 eH4 s13 fR3 hR3 s3 B3 hw s12 hR2 s2 B2
    rintro _ H6 ⟨F6, zs, w0, c4, rfl, s6, B6, f6, h6, zl, za, zb, hw⟩
    refine ⟨by show 0 ≤ sizeLine; decide, fun Md hMd => ?_⟩
    have nMb : Md ≠ b := fun z => (memB K b).there B6 z hMd
    obtain ⟨s7, B7⟩ := rawB (o := .lst []) s6 B6 hMd
    have h7R := same_new hMd (o := .lst []) _ _ h6
    have h7M : (upd H6 Md (.lst [])) Md = some (.lst []) := upd_same
    obtain ⟨H7, eH7⟩ : ∃ H7, H7 = upd H6 Md (.lst []) := ⟨_, rfl⟩
    rw [← eH7] at s7 B7 h7R h7M ⊢
    clear eH7
    obtain ⟨s8, B8⟩ := freezeB s7 B7 f6 hR nRb h7R
    have hR8 : (upd F6 R (.lst zs)) R = some (.lst zs) := upd_same
    have e8 : Same F6 (upd F6 R (.lst zs)) := same_new f6
    generalize upd F6 R (.lst zs) = F8 at *
    refine gn ?_
    try dsimp only
    have a8 : Same F F8 := s6.ff.trans e8
    have hp8 := hp.up a8
    have lt : (L.take du).length = du := by rw [List.length_take]; omega
    have cb : ∀ {p}, Row K F8 p zs → CaseB K F8 p zs (L.take du) := fun hr => ⟨hr, by omega, ⟨by rw [lt]; omega, fun i s hs => by
        rw [List.getElem?_take] at hs
        by_cases q : i < du
        · rw [if_pos q] at hs
          obtain ⟨x, hx, px⟩ := hp8.of.2 i s hs
          exact ⟨x, by rw [za i q]; exact hx, px⟩
        · rw [if_neg q] at hs; cases hs⟩, okL.ok.take du, fun s hs => okL.str s (List.mem_of_mem_take hs), fun x hx => by
        rw [lt, zb] at hx
        cases hx
        exact hw.up e8, .inl (by rw [lt]; omega)⟩
    have cb0 : ∀ {F' : Hp} {p}, Same F8 F' → Row K F' p zs → CaseB K F' p zs (L.take du) := fun e hr => ⟨hr, by omega, (cb (p := R) (.inl (SqL.of hR8))).beg.up e, okL.ok.take du, fun s hs => okL.str s (List.mem_of_mem_take hs), fun x hx => ((cb (p := R) (.inl (SqL.of hR8))).bad x hx).up e, .inl (by rw [lt]; omega)⟩
    refine for_made (F0 := F8) (P := Case K) (MkL.cons up_case (Mk.tup (EvL.cons (Ev.var rfl) (EvL.cons (Ev.var rfl) EvL.nil)) (Nat.le_of_ble_eq_true rfl) fun F' q' e h => ⟨q', R, zs, L.take du, rfl, by rw [lt]; exact SqT.of h, (cb (.inl (SqL.of hR8))).up e⟩) (MkL.cons up_case (Mk.first (R := fun F v => ∃ p, v = .ref p ∧ SqT K F p zs) (Mk.tup_of (Ev.var rfl) (SqL.of hR8) fun F' q' e h => ⟨q', rfl, SqT.of h⟩) (Ev.var rfl) (fun F' q' u e hu h => by obtain ⟨p', rfl, hu⟩ := hu; exact ⟨q', p', zs, L.take du, rfl, by rw [lt]; exact SqT.of h, (cb0 (F' := F') e (.inr hu))⟩) fun _ _ _ e z => by obtain ⟨p', h1, h2⟩ := z; exact ⟨p', h1, upT e h2⟩) (MkL.cons up_case (Mk.first (R := fun F v => ∃ p, v = .ref p ∧ SqL K F p []) (Mk.lst EvL.nil (by decide) fun F' q' e h => ⟨q', rfl, SqL.of h⟩) Ev.c (fun F' q' u e hu h => by obtain ⟨p', rfl, hu⟩ := hu; exact ⟨q', p', [], [], rfl, SqT.of h, case_nil (.inl hu)⟩) fun _ _ _ e z => by obtain ⟨p', h1, h2⟩ := z; exact ⟨p', h1, upL e h2⟩) (MkL.cons up_case (Mk.first (R := fun F v => ∃ p, v = .ref p ∧ SqT K F p []) (Mk.tup EvL.nil (by decide) fun F' q' e h => ⟨q', rfl, SqT.of h⟩) Ev.c (fun F' q' u e hu h => by obtain ⟨p', rfl, hu⟩ := hu; exact ⟨q', p', [], [], rfl, SqT.of h, case_nil (.inr hu)⟩) fun _ _ _ e z => by obtain ⟨p', h1, h2⟩ := z; exact ⟨p', h1, upT e h2⟩) MkL.nil)))) up_case (by decide) (Same.refl _) s8.fh (fun F1 σ' H' => ∃ F' c6, σ' = [some (.ref b), some (.ref l), some (.ref R), some (.int (du : Nat)), c4, some (.ref Md), c6, none] ∧ Same F1 F' ∧ Sb b F H F' H' ∧ Bag K b F' H' ∧ H' Md = some (.lst [])) ?_ ?_ ?_ ?_
    · intro F1 H1' st
      obtain ⟨s9, B9⟩ := pureB s8 B8 st
      exact ⟨F1, none, rfl, Same.refl _, s9, B9, st.hh Md _ id h7M⟩
    · rintro F1 σ' H' ⟨F', c6, _, e', s9, _⟩
      exact e'.trans s9.fh
    · rintro F1 _ _ H' v ⟨F', c6, rfl, e', s9, B9, hM⟩ ⟨q, p, ys, L', rfl, hq, cs⟩
      have cs := cs.up e'
      have hq := upT e' hq
      refine gn ?_
      refine ⟨_, rfl, .inl ⟨rfl, [], SqL.of hM⟩, _, rfl, q, _, _, _, rfl, rfl, upT s9.fh hq, at0, ?_⟩
      refine mk_wd (a := a) (Q := fun x H1 => rAppend (.ref Md) [x] H1 fun _ H2 => ∃ F' c6', ([some (.ref b), some (.ref l), some (.ref R), some (.int (du : Nat)), c4, some (.ref Md), some (.ref q), none] : L2.St) = [some (.ref b), some (.ref l), some (.ref R), some (.int (du : Nat)), c4, some (.ref Md), c6', none] ∧ Same F1 F' ∧ Sb b F H F' H2 ∧ Bag K b F' H2 ∧ H2 Md = some (.lst [])) cs.row s9.fh cs.len cs.beg cs.ok cs.str (fun z1 z2 => ?_) cs.bad (fun _ F9 H9 d st hd => ?_)
      · rcases cs.low with z | z
        · omega
        · exact absurd z z2
      · obtain ⟨s10, B10⟩ := pureB s9 B9 st
        refine place_caught T (upT st.ff hq) hd st.fh fun H10 st10 => ?_
        obtain ⟨s11, B11⟩ := pureB s10 B10 st10
        exact ⟨F9, _, rfl, e'.trans st.ff, s11, B11, st10.hh Md _ id (st.hh Md _ id hM)⟩
    · rintro F1 _ H' _ ⟨F', c6, rfl, e', s9, B9, hM⟩
      refine ⟨_, rfl, by show 0 ≤ sizeLine; decide, fun p9 hp9 => ?_⟩
      obtain ⟨s10, B10⟩ := rawB (o := .lst []) s9 B9 hp9
      exact ⟨.list [], .list [], .lst (SqL.of (same_new hp9 _ _ hM)) .nil, .lst (SqL.of upd_same) .nil, by decide, by decide, k _ _ s10 B10⟩
end
end K26

set_option Elab.async false
set_option linter.all false
set_option maxRecDepth 100000
set_option maxHeartbeats 4000000
namespace K26
open PySem PySem.Spec PyProof.Rows L2 Ew
theorem Fl.bl {n : Nat} {b : Bool} : Fl n (.bool b) := ⟨by rw [PyData.canLay0], by rw [PyData.depth]; omega⟩
theorem eqvAll_bools : ∀ bs : List Bool, PyData.eqvAll (bs.map PyData.bool) (bs.map PyData.bool) = true
  | [] => rfl
  | b :: bs => by
    rw [List.map_cons, PyData.eqvAll, eqvAll_bools bs]
    have : PyData.eqv (.bool b) (.bool b) = true := by cases b <;> rfl
    rw [this]
    rfl
theorem eqv_bools (bs : List Bool) : PyData.eqv (.list (bs.map PyData.bool)) (.list (bs.map PyData.bool)) = true := by rw [PyData.eqv, eqvAll_bools]
theorem dp_bools {K : PySem.W.Frag} {H : Hp} : ∀ bs : List Bool, DpAll K H (bs.map V.bl) (bs.map PyData.bool)
  | [] => .nil
  | b :: bs => .cons (.bl b) (dp_bools bs)
theorem fl_bools (bs : List Bool) : Fl 2 (.list (bs.map PyData.bool)) := Fl.lst (FlA.all fun d hd => by
  obtain ⟨b, _, rfl⟩ := List.mem_map.mp hd
  exact Fl.bl)
theorem bools_two (m n : Nat) : (List.range (m + n)).map (fun i => V.bl (decide (i < m))) = (List.range m).map (fun _ => V.bl true) ++ (List.range n).map (fun _ => V.bl false) := by
  apply List.ext_getElem
  · simp
  · intro i h1 h2
    simp only [List.getElem_map, List.getElem_range, List.getElem_append, List.length_map, List.length_range]
    by_cases q : i < m
    · simp [q]
    · simp [q]
/-- [f(x) for x in xs], f telling and changing nothing -/
theorem lc_rest {K : PySem.W.Frag} {F H : Hp} {σ : L2.St} {n : Nat} {A : Addr} {xs : List V} {te : TE} {Q : VK} (hf : Same F H) (lA : SqL K F A xs) (len : xs.length ≤ 1000) (f : Nat → V) (hw : ∀ v, wipe ((wipe σ [n]).set n (some v)) [n] = wipe σ [n])
    (hs : ∀ i v H' (Kt : VK), xs[i]? = some v → Same F H' → Kt (f i) H' → te ((wipe σ [n]).set n (some v)) H' Kt) (k : ∀ F' H' D, Stp F H F' H' → F' D = some (.lst ((List.range xs.length).map f)) → Q (.ref D) H') :
    tLc (iList K (tC (.ref A))) (gName n) tYes te [n] σ H Q := by
  refine ⟨A, rfl, ⟨xs, upL hf lA⟩, fun D hD => ?_⟩
  refine lcM memP (walk_list (xs := xs)) hf trivial hD (fun i F y => y = f i) (fun _ _ _ _ _ z => z) (by omega) (fun F' H' e1 e2 => upL e2 (upL e1 lA)) ?_ ?_
  · rintro i y F' H2o H2 Kt Kn hi s1 _ ⟨eH, hy⟩ kk
    subst eH
    exact ⟨hw _, lc_yes (hs i y _ _ hy (s1.ff.trans s1.fh) (kk _ _ _ (.refl s1.fh) trivial rfl))⟩
  · intro F1 H1 zs s1 _ hD1 yl hr'
    refine k F1 H1 D s1 ?_
    have : zs = (List.range xs.length).map f := by
      apply List.ext_getElem
      · simp [yl]
      · intro i h1 h2
        rw [hr' i _ (List.getElem?_eq_getElem h1)]
        simp
    rw [← this]
    exact hD1
theorem Mk.first3 {F0 : Hp} {σ : L2.St} {te ta tb : TE} {P R : Hp → V → Prop} {x y : V} (h : Mk F0 σ te R) (t : Ev F0 σ ta x) (t2 : Ev F0 σ tb y) (hp : ∀ F q u, Same F0 F → R F u → F q = some (.tup [u, x, y]) → P F (.ref q)) (up : Up R) : Mk F0 σ (tTup (tCons te (tCons ta (tCons tb tNil)))) P := fun F H Q e e1 k =>
  h F H _ e e1 fun F1 H1 v s1 hv => t H1 _ (e.trans (s1.ff.trans s1.fh)) (t2 H1 _ (e.trans (s1.ff.trans s1.fh)) ⟨by show 3 ≤ sizeLine; decide, fun q hq => k _ _ _ (s1.newP hq) (hp _ q v (e.trans (s1.ff.trans (same_new (s1.fh.free hq)))) (up _ _ _ (same_new (s1.fh.free hq)) hv) upd_same)⟩)
section
variable {P : Program} {w : World} {K : PySem.W.Frag} {mg : Str → Option Value} {base : Heap} {a : Ad}
def sp__law_spots_known (K : PySem.W.Frag) : Sp := fun vs H Q _ => ∃ (F : Hp) (b l : Addr) (xs : List V) (ps : List Spot), vs = [.ref b, .ref l] ∧ Bag K b F H ∧ Same F H ∧ F l = some (.lst xs) ∧ Ss F xs ps ∧ ps ≠ [] ∧ ps.length ≤ 11 ∧ (∀ p ∈ ps, OkS p) ∧
  ∀ F' H', Sb b F H F' H' → Bag K b F' H' → Q (.bl true) H'
theorem c__law_spots_known (T : Txt K mg a) : Cl P w K mg base 4 "_law_spots_known" P__law_spots_known (sp__law_spots_known K) [] :=
  T.d__law_spots_known.cl sc__law_spots_known (fun vs H Q E h => by obtain ⟨F, b, l, xs, ps, rfl, _⟩ := h; rfl) fun f cdv A outer s H vs Q E hr h => by
    obtain ⟨F, b, l, xs, ps, rfl, hB, hf, hl, ss, ne, len, ok, k⟩ := h
    refine ⟨_, ((pss_cons (ps_set (i := 2) sc__law_spots_known.nd rfl (Or.inl rfl) (pe_f (c__law_choice T) (takes_of rfl rfl rfl rfl) hr (by decide) rfl (pa_cons (pv 0) (pa_cons (pv 1) pa_nil))))
 (pss_cons (ps_set (i := 3) sc__law_spots_known.nd rfl (Or.inl rfl) (pe_lst (pa_cons (pe_callTy call_list_of (by rfl) T.n_list (by decide +kernel) (pa_cons (pv 2) pa_nil)) (pa_cons (pe_slice sl_tup (pv 2) po_none (po_some pe_int)) (pa_cons (pe_op op_catT (pv 2) (pe_tup (pa_cons pe_int pa_nil))) (pa_cons (pe_tup (pa_cons (pe_ix ix_tup (pv 2) pe_int (fun _ _ => rfl)) (pa_cons (pe_ix ix_tup (pv 2) pe_int (fun _ _ => rfl)) (pa_cons (pe_ix ix_tup (pv 2) pe_int (fun _ _ => rfl)) pa_nil)))) (pa_cons (pe_tup (pa_cons (pe_ix ix_tup (pv 2) pe_int (fun _ _ => rfl)) (pa_cons pe_bl (pa_cons pe_int pa_nil)))) (pa_cons (pe_tup (pa_cons (pe_ix ix_tup (pv 2) pe_int (fun _ _ => rfl)) (pa_cons pe_int (pa_cons pe_bl pa_nil)))) pa_nil))))))))
 (pss_cons (ps_set (i := 3) sc__law_spots_known.nd rfl (Or.inl rfl) (pe_op op_cat (pv 3) (pe_lst (pa_cons (pe_tup (pa_cons (pe_ix ix_tup (pv 2) pe_int (fun _ _ => rfl)) (pa_cons (pe_ix ix_tup (pv 2) pe_int (fun _ _ => rfl)) (pa_cons (pe_callTy call_str_int (by rfl) T.n_str (by decide +kernel) (pa_cons (pe_ix ix_tup (pv 2) pe_int (fun _ _ => rfl)) pa_nil)) pa_nil)))) (pa_cons (pe_tup (pa_cons (pe_ix ix_tup (pv 2) pe_int (fun _ _ => rfl)) (pa_cons pe_non (pa_cons pe_int pa_nil)))) (pa_cons (pe_tup (pa_cons (pe_tup pa_nil) (pa_cons pe_int (pa_cons pe_int pa_nil)))) (pa_cons (pe_tup pa_nil) (pa_cons pe_non (pa_cons pe_int (pa_cons (pe_ix ix_tup (pv 2) pe_int (fun _ _ => rfl)) (pa_cons (pe_tup (pa_cons (pv 2) (pa_cons (pv 2) (pa_cons (pv 2) pa_nil)))) pa_nil)))))))))))
 (pss_cons (ps_if (PW.pt (pw_or (pt_cmpR (op_neD hr.units) (pe_glob (by rfl) T.k_GROUND rfl (v := .ref a.aG)) (pe_tup (pa_cons pe_str (pa_cons pe_int (pa_cons pe_int pa_nil)))) (nomark _)) (pw_or1 (pt_not (pt_val (pe_f (c__law_spot_like T) (takes_of rfl rfl rfl rfl) hr (by decide) rfl (pa_cons (pe_glob (by rfl) T.k_GROUND rfl (v := .ref a.aG)) pa_nil)))))))
 (pss_one (ps_ret pe_bl))
 pss_nil)
 (pss_one (ps_ret (pe_cmpR (op_eqD hr.units) (pe_lc (own := [("_law_thing", 4)]) (g := (gName 4)) (by rfl) sc__law_spots_known.nd (pi_list (pe_op op_cat (pv 1) (pv 3))) (blkOk_by (own := [("_law_thing", 4)]) (N := N__law_spots_known) (sc := defScope s__law_spots_known) (by decide +kernel)) (fun _ _ _ _ _ => (pg_name (i := 4) sc__law_spots_known.nd rfl (Or.inl rfl) (hf := .inr rfl))) (fun _ _ _ _ _ => pts_nil) (fun _ _ _ _ _ => (pe_f (c_is_spot T) takes0 hr (by decide) rfl (pa_cons (pv 4) pa_nil)))) (pe_op op_cat (pe_lc (own := [("_law_thing", 4)]) (g := (gName 4)) (by rfl) sc__law_spots_known.nd (pi_list (pv 1)) (blkOk_by (own := [("_law_thing", 4)]) (N := N__law_spots_known) (sc := defScope s__law_spots_known) (by decide +kernel)) (fun _ _ _ _ _ => (pg_name (i := 4) sc__law_spots_known.nd rfl (Or.inl rfl) (hf := .inr rfl))) (fun _ _ _ _ _ => pts_nil) (fun _ _ _ _ _ => pe_bl)) (pe_lc (own := [("_law_thing", 4)]) (g := (gName 4)) (by rfl) sc__law_spots_known.nd (pi_list (pv 3)) (blkOk_by (own := [("_law_thing", 4)]) (N := N__law_spots_known) (sc := defScope s__law_spots_known) (by decide +kernel)) (fun _ _ _ _ _ => (pg_name (i := 4) sc__law_spots_known.nd rfl (Or.inl rfl) (hf := .inr rfl))) (fun _ _ _ _ _ => pts_nil) (fun _ _ _ _ _ => pe_bl))) (nomark _))))))))), ?_⟩
    have xne : xs ≠ [] := fun z => by have := ss.1; rw [z] at this; exact ne (List.length_eq_zero_iff.mp this.symm)
    have xl : xs.length ≤ 11 := by rw [ss.1]; exact len
    refine ⟨_, rfl, _, rfl, arg2 (sp__law_choice K) ⟨F, b, .ref l, xs, rfl, .inl ⟨l, rfl, SqL.of hl⟩, xne, by omega, hB, hf, fun H1 x i s1 B1 hx => ?_⟩⟩
    obtain ⟨p0, hp0⟩ : ∃ p, ps[i]? = some p := ⟨_, List.getElem?_eq_getElem (by rw [← ss.1]; exact (List.getElem?_eq_some_iff.mp hx).1)⟩
    obtain ⟨x', ex, qs, rfl, hqs⟩ := ss.2 i p0 hp0
    rw [hx] at ex
    cases ex
    have okp := ok p0 (List.mem_of_getElem? hp0)
    have spT : SqT K F qs (spV p0) := SqT.of hqs
    refine gn ?_
    try dsimp only
    refine seq_asg ?_
    refine MkL.lst (F0 := F) (P := NotSp K) (MkL.cons up_notSp (Mk.list_of (Ev.var rfl) (.inr spT) fun F' q' e h => .nt (.lst (SqL.of h)) (by decide)) (MkL.cons up_notSp (Mk.cut2 (Ev.var rfl) spT fun F' q' e h => .len (SqT.of h) (by show 2 ≠ 3; decide)) (MkL.cons up_notSp (Mk.cat (Ev.var rfl) spT (EvL.cons Ev.c EvL.nil) (by intro z; cases z) (by intro z; cases z) (by show 3 + 1 ≤ 1000; decide) fun F' q' e h => .len (SqT.of h) (by show 4 ≠ 3; decide)) (MkL.cons up_notSp (Mk.tup (EvL.cons (Ev.ix (Ev.var rfl) spT rfl) (EvL.cons (Ev.ix (Ev.var rfl) spT rfl) (EvL.cons (Ev.ix (Ev.var rfl) spT rfl) EvL.nil))) (Nat.le_of_ble_eq_true rfl) fun F' q' e h => .name (SqT.of h) (.int _) (by decide)) (MkL.cons up_notSp (Mk.tup (EvL.cons (Ev.ix (Ev.var rfl) spT rfl) (EvL.cons Ev.c (EvL.cons Ev.c EvL.nil))) (Nat.le_of_ble_eq_true rfl) fun F' q' e h => .st (SqT.of h) (.bl _) (by decide)) (MkL.cons up_notSp (Mk.tup (EvL.cons (Ev.ix (Ev.var rfl) spT rfl) (EvL.cons Ev.c (EvL.cons Ev.c EvL.nil))) (Nat.le_of_ble_eq_true rfl) fun F' q' e h => .day (SqT.of h) (.bl _) (by decide)) MkL.nil)))))) up_notSp (by decide) (Same.refl F) s1.fh fun F2 H2 p2 z2 st2 hp2 hl2 hv2 => ?_
    refine gn ?_
    try dsimp only
    refine seq_asg ?_
    refine MkL.cat (F0 := F) (P := NotSp K) rfl hp2 hl2 hv2 (MkL.cons up_notSp (Mk.tup (EvL.cons (Ev.ix (Ev.var rfl) spT rfl) (EvL.cons (Ev.ix (Ev.var rfl) spT rfl) (EvL.cons (Ev.text (Ev.ix (Ev.var rfl) spT rfl) (small okp.day)) EvL.nil))) (Nat.le_of_ble_eq_true rfl) fun F' q' e h => .day (SqT.of h) (.str _) (by decide)) (MkL.cons up_notSp (Mk.tup (EvL.cons (Ev.ix (Ev.var rfl) spT rfl) (EvL.cons Ev.c (EvL.cons Ev.c EvL.nil))) (Nat.le_of_ble_eq_true rfl) fun F' q' e h => .st (SqT.of h) .non (by decide)) (MkL.cons up_notSp (Mk.first3 (R := fun F v => ∃ p, v = .ref p ∧ SqT K F p []) (Mk.tup EvL.nil (Nat.le_of_ble_eq_true rfl) fun F' q' e h => ⟨q', rfl, SqT.of h⟩) Ev.c Ev.c (fun F' q' u e hu h => by obtain ⟨p', rfl, hu⟩ := hu; exact .name (SqT.of h) (.tup hu) (by decide)) fun _ _ _ e z => by obtain ⟨p', h1, h2⟩ := z; exact ⟨p', h1, upT e h2⟩) (MkL.cons up_notSp (Mk.tup EvL.nil (Nat.le_of_ble_eq_true rfl) fun F' q' e h => .len (SqT.of h) (by show 0 ≠ 3; decide)) (MkL.cons up_notSp (Mk.ev Ev.c fun F' e => .nt .non (by decide)) (MkL.cons up_notSp (Mk.ev Ev.c fun F' e => .nt (.int _) (by decide)) (MkL.cons up_notSp (Mk.ev (Ev.ix (Ev.var rfl) spT rfl) fun F' e => .nt (.str _) (by decide)) (MkL.cons up_notSp (Mk.tup (EvL.cons (Ev.var rfl) (EvL.cons (Ev.var rfl) (EvL.cons (Ev.var rfl) EvL.nil))) (Nat.le_of_ble_eq_true rfl) fun F' q' e h => .name (SqT.of h) (.tup (upT e spT)) (by decide)) MkL.nil)))))))) up_notSp (by decide) st2.ff st2.fh fun F3 H3 p3 z3 st3 hp3 hl3 hv3 => ?_
    obtain ⟨s3, B3⟩ := pureB s1 B1 (st2.transP st3)
    refine gn ?_
    try dsimp only
    refine ⟨by show 3 ≤ sizeLine; decide, fun t ht => ?_⟩
    obtain ⟨s4, B4⟩ := newB (o := .tup (spV ground)) s3 B3 ht
    refine ⟨spD ground, spD ground, dp_sp (T.t_GROUND _), dp_sp sq_new, (fl_sp (by decide +kernel)).sh (by decide), (fl_sp (by decide +kernel)).sh (by decide), ?_⟩
    rw [eqv_sp, decide_eq_true rfl]
    refine ⟨_, rfl, iteF ⟨a.aG, ground, rfl, T.t_GROUND _, true, rfl, iteF ?_⟩⟩
    have ef := same_new (s3.fh.free ht) (o := .tup (spV ground))
    have hp4 := ef _ _ hp3
    have hl4 := s4.ff _ _ hl
    have hv4 : ∀ v ∈ z3, NotSp K (upd F3 t (.tup (spV ground))) v := fun v hv => (hv3 v hv).up ef
    have ss4 := ss.up s4.ff
    generalize upd F3 t (.tup (spV ground)) = F4 at *
    have hz : z3.length = 14 := by rw [hl3]
    show tOp (rEqD K) (tLc (iList K (tOp rCat (tVar 1) (tVar 3))) (gName 4) tYes (tF (sp_is_spot K) [] (fun _ _ _ _ => False) (tCons (tVar 4) tNil)) [4]) (tOp rCat (tLc (iList K (tVar 1)) (gName 4) tYes (tC (.bl true)) [4]) (tLc (iList K (tVar 3)) (gName 4) tYes (tC (.bl false)) [4])) [some (.ref b), some (.ref l), some (.ref qs), some (.ref p3), none] _ Q
    refine ⟨_, rfl, _, rfl, l, p3, xs, z3, rfl, rfl, s4.fh _ _ hl4, s4.fh _ _ hp4, by rw [sizeLine_eq]; omega, fun r hr => ?_⟩
    obtain ⟨s5, B5⟩ := newB (o := .lst (xs ++ z3)) s4 B4 hr
    have hr5 : (upd F4 r (.lst (xs ++ z3))) r = some (.lst (xs ++ z3)) := upd_same
    have e5 : Same F4 (upd F4 r (.lst (xs ++ z3))) := same_new (s4.fh.free hr)
    generalize upd F4 r (.lst (xs ++ z3)) = F5 at *
    show tLc (iList K (tC (.ref r))) (gName 4) tYes (tF (sp_is_spot K) [] (fun _ _ _ _ => False) (tCons (tVar 4) tNil)) [4] [some (.ref b), some (.ref l), some (.ref qs), some (.ref p3), none] _ (fun x H1 => tOp rCat (tLc (iList K (tVar 1)) (gName 4) tYes (tC (.bl true)) [4]) (tLc (iList K (tVar 3)) (gName 4) tYes (tC (.bl false)) [4]) [some (.ref b), some (.ref l), some (.ref qs), some (.ref p3), none] H1 fun y H2 => rEqD K x y H2 Q)
    refine lc_rest s5.fh (SqL.of hr5) (by rw [List.length_append]; omega) (fun i => .bl (decide (i < xs.length))) (fun _ => rfl) (fun i v H' Kt hv e kk => ?_) fun F6 H6 D6 st6 hD6 => ?_
    · refine ⟨_, rfl, v, rfl, ?_⟩
      by_cases q : i < xs.length
      · rw [List.getElem?_append_left q] at hv
        obtain ⟨p, hp⟩ : ∃ p, ps[i]? = some p := ⟨_, List.getElem?_eq_getElem (by rw [← ss.1]; exact q)⟩
        obtain ⟨v', ev, q', rfl, hq'⟩ := ss4.2 i p hp
        rw [hv] at ev
        cases ev
        refine .inl ⟨q', p, rfl, SqT.of (e _ _ (e5 _ _ hq')), ?_⟩
        have kk : Kt (.bl (decide (i < xs.length))) H' := kk
        rw [decide_eq_true q] at kk
        exact kk
      · rw [List.getElem?_append_right (by omega)] at hv
        refine .inr ⟨(hv4 v (List.mem_of_getElem? hv)).up (e5.trans e), ?_⟩
        have kk : Kt (.bl (decide (i < xs.length))) H' := kk
        rw [decide_eq_false q] at kk
        exact kk
    obtain ⟨s6, B6⟩ := pureB s5 B5 st6
    have a6 : Same F4 F6 := e5.trans st6.ff
    show tOp rCat (tLc (iList K (tVar 1)) (gName 4) tYes (tC (.bl true)) [4]) (tLc (iList K (tVar 3)) (gName 4) tYes (tC (.bl false)) [4]) [some (.ref b), some (.ref l), some (.ref qs), some (.ref p3), none] H6 (fun y H2 => rEqD K (.ref D6) y H2 Q)
    refine op_in ⟨_, rfl, ?_⟩
    show tLc (iList K (tC (.ref l))) (gName 4) tYes (tC (.bl true)) [4] [some (.ref b), some (.ref l), some (.ref qs), some (.ref p3), none] H6 (fun x H1 => (tLc (iList K (tVar 3)) (gName 4) tYes (tC (.bl false)) [4]) [some (.ref b), some (.ref l), some (.ref qs), some (.ref p3), none] H1 fun y H2 => rCat x y H2 fun y H2 => rEqD K (.ref D6) y H2 Q)
    refine lc_rest s6.fh (SqL.of (a6 _ _ hl4)) (by omega) (fun i => .bl true) (fun _ => rfl) (fun i v H' Kt hv e kk => kk) fun F7 H7 D7 st7 hD7 => ?_
    obtain ⟨s7, B7⟩ := pureB s6 B6 st7
    refine ⟨_, rfl, ?_⟩
    show tLc (iList K (tC (.ref p3))) (gName 4) tYes (tC (.bl false)) [4] [some (.ref b), some (.ref l), some (.ref qs), some (.ref p3), none] H7 (fun y H2 => rCat (.ref D7) y H2 fun y H2 => rEqD K (.ref D6) y H2 Q)
    refine lc_rest s7.fh (SqL.of (st7.ff _ _ (a6 _ _ hp4))) (by omega) (fun i => .bl false) (fun _ => rfl) (fun i v H' Kt hv e kk => kk) fun F8 H8 D8 st8 hD8 => ?_
    obtain ⟨s8, B8⟩ := pureB s7 B7 st8
    have h87 := st8.ff _ _ hD7
    have h86 := st8.ff _ _ (st7.ff _ _ hD6)
    refine ⟨D7, D8, _, _, rfl, rfl, s8.fh _ _ h87, s8.fh _ _ hD8, by rw [sizeLine_eq, List.length_map, List.length_map, List.length_range, List.length_range]; omega, fun D9 hD9 => ?_⟩
    obtain ⟨s9, B9⟩ := newB (o := .lst ((List.range xs.length).map (fun _ => V.bl true) ++ (List.range z3.length).map (fun _ => V.bl false))) s8 B8 hD9
    have h96 := s9.fh _ _ (same_new (s8.fh.free hD9) _ _ h86)
    rw [List.length_append] at h96
    have em : (List.range (xs.length + z3.length)).map (fun i => V.bl (decide (i < xs.length))) = ((List.range (xs.length + z3.length)).map (fun i => decide (i < xs.length))).map V.bl := by rw [List.map_map]; rfl
    rw [em] at h96
    obtain ⟨bs, ebs⟩ : ∃ bs, bs = (List.range (xs.length + z3.length)).map (fun i => decide (i < xs.length)) := ⟨_, rfl⟩
    rw [← ebs] at h96
    have h99 : (upd H8 D9 (.lst ((List.range xs.length).map (fun _ => V.bl true) ++ (List.range z3.length).map (fun _ => V.bl false)))) D9 = some (.lst (bs.map V.bl)) := by rw [upd_same, ← bools_two, em, ← ebs]
    refine ⟨.list (bs.map PyData.bool), .list (bs.map PyData.bool), .lst (SqL.of h96) (dp_bools bs), .lst (SqL.of h99) (dp_bools bs), (fl_bools bs).sh (by decide), (fl_bools bs).sh (by decide), ?_⟩
    rw [eqv_bools]
    exact k _ _ s9 B9
end
end K26

set_option Elab.async false
set_option linter.all false
set_option maxRecDepth 100000
set_option maxHeartbeats 4000000
namespace K26
open PySem PySem.Spec PyProof.Rows L2 Ew
/-! ### rows in another order, of some of their items -/
theorem Paired.perm {α β : Type} {R : α → β → Prop} {ys xs : List α} (p : ys.Perm xs) : ∀ {L : List β}, Paired R xs L → ∃ M : List β, M.Perm L ∧ Paired R ys M := by
  induction p with
  | nil => intro L h; exact ⟨L, .refl _, h⟩
  | cons x p ih =>
    intro L h
    cases h with
    | cons h t =>
      obtain ⟨M, h1, h2⟩ := ih t
      exact ⟨_ :: M, h1.cons _, .cons h h2⟩
  | swap x y l =>
    intro L h
    cases h with
    | cons h t =>
      cases t with
      | cons h2 t => exact ⟨_ :: _ :: _, .swap _ _ _, .cons h2 (.cons h t)⟩
  | trans p q ih1 ih2 =>
    intro L h
    obtain ⟨M, h1, h2⟩ := ih2 h
    obtain ⟨N, h3, h4⟩ := ih1 h2
    exact ⟨N, h3.trans h1, h4⟩
theorem Paired.sublist {α β : Type} {R : α → β → Prop} {ys xs : List α} (p : ys.Sublist xs) : ∀ {L : List β}, Paired R xs L → ∃ M : List β, M.Sublist L ∧ Paired R ys M := by
  induction p with
  | slnil => intro L h; exact ⟨L, .refl _, h⟩
  | cons x p ih =>
    intro L h
    cases h with
    | cons h t =>
      obtain ⟨M, h1, h2⟩ := ih t
      exact ⟨M, h1.cons _, h2⟩
  | cons_cons x p ih =>
    intro L h
    cases h with
    | cons h t =>
      obtain ⟨M, h1, h2⟩ := ih t
      exact ⟨_ :: M, List.Sublist.cons_cons _ h1, .cons h h2⟩
theorem Paired.app {α β : Type} {R : α → β → Prop} {xs ys : List α} {L M : List β} (h : Paired R xs L) (k : Paired R ys M) : Paired R (xs ++ ys) (L ++ M) := by
  induction h with
  | nil => exact k
  | cons h t ih => exact .cons h ih
theorem Paired.drop {α β : Type} {R : α → β → Prop} : ∀ {xs : List α} {L : List β} (n : Nat), Paired R xs L → Paired R (xs.drop n) (L.drop n)
  | _, _, 0, h => h
  | _, _, _ + 1, .nil => .nil
  | _, _, n + 1, .cons _ t => Paired.drop n t
theorem Paired.take {α β : Type} {R : α → β → Prop} : ∀ {xs : List α} {L : List β} (n : Nat), Paired R xs L → Paired R (xs.take n) (L.take n)
  | _, _, 0, _ => by rw [List.take_zero, List.take_zero]; exact .nil
  | _, _, _ + 1, .nil => .nil
  | _, _, n + 1, .cons h t => .cons h (Paired.take n t)
theorem rat_cross (n d : Int) : (rat n d).1 * d = n * (rat n d).2 := by
  unfold rat
  obtain ⟨x, hx⟩ := com_dn n d
  obtain ⟨y, hy⟩ := com_dd n d
  generalize com n d = c at *
  dsimp only
  by_cases c0 : c = 0
  · subst c0
    rw [Int.zero_mul] at hx hy
    subst hx hy
    rfl
  · subst hx hy
    rw [Int.mul_fdiv_cancel_left _ c0, Int.mul_fdiv_cancel_left _ c0, Int.mul_left_comm, ← Int.mul_assoc]
/-- a step that is not nothing moves -/
theorem plus_moves {r q : Int × Int} (h1 : r.2 ≠ 0) (h2 : q.2 ≠ 0) (h : q.1 ≠ 0) : rPlus r q ≠ r := fun e => by
  have c := rat_cross (r.1 * q.2 + q.1 * r.2) (r.2 * q.2)
  have e' : rat (r.1 * q.2 + q.1 * r.2) (r.2 * q.2) = r := e
  rw [e'] at c
  have : q.1 * (r.2 * r.2) = 0 := by
    have c1 : r.1 * (r.2 * q.2) = r.1 * q.2 * r.2 + q.1 * r.2 * r.2 := by rw [c, Int.add_mul]
    have c2 : r.1 * (r.2 * q.2) = r.1 * q.2 * r.2 := by rw [Int.mul_assoc, Int.mul_comm q.2]
    have c3 : q.1 * r.2 * r.2 = 0 := by omega
    rw [← Int.mul_assoc]; exact c3
  rcases Int.mul_eq_zero.mp this with z | z
  · exact h z
  · rcases Int.mul_eq_zero.mp z with z | z <;> exact h1 z
/-- a row of which a world can be made -/
structure OkR (L : Prs) : Prop where
  ok : OkL L
  str : ∀ s ∈ L, PyData.strOk s.1.1 = true
  ne : L ≠ []
  len : L.length ≤ 1000
theorem OkW.r {L : Prs} (h : OkW L) : OkR L := ⟨h.ok, h.str, h.ne, h.len⟩
/-- the same with other items of the same row -/
theorem OkR.sub {L M : Prs} (h : OkR L) (nd : (M.map (·.1)).Nodup) (mem : ∀ s ∈ M, s ∈ L) (hd : M[0]? = L[0]?) (len : M.length ≤ 1000) : OkR M where
  ok := ⟨nd, fun s hs => h.ok.low s (mem s hs), fun s hs => h.ok.hd s (by rw [← hd]; exact hs)⟩
  str := fun s hs => h.str s (mem s hs)
  ne := fun z => by
    subst z
    have : L[0]? = none := hd.symm
    exact h.ne (List.length_eq_zero_iff.mp (by have := List.getElem?_eq_none_iff.mp this; omega))
  len := len
theorem same_perm {L M : Prs} (p : M.Perm L) (nd : (M.map (·.1)).Nodup) : sameW L M = true := by
  unfold sameW
  rw [p.length_eq, Bool.and_eq_true, List.all_eq_true]
  exact ⟨by simp, fun s hs => decide_eq_true (look_mem nd s (p.mem_iff.mpr hs))⟩
theorem same_len {L M : Prs} (h : L.length ≠ M.length) : sameW L M = false := by
  unfold sameW
  rw [show (L.length == M.length) = false by simp [h]]
  rfl
theorem same_off {L M : Prs} {s : Spot × (Int × Int)} (h : s ∈ L) (k : look M s.1 ≠ some s.2) : sameW L M = false := by
  unfold sameW
  rw [Bool.and_eq_false_iff]
  refine .inr ?_
  rw [List.all_eq_false]
  exact ⟨s, h, by rw [decide_eq_false k]; decide⟩
section
variable {P : Program} {w : World} {K : PySem.W.Frag} {mg : Str → Option Value} {base : Heap} {a : Ad}
/-- World(row) of a good row -/
theorem mk_good {F H : Hp} {p : Addr} {xs : List V} {L : Prs} {Q : VK} {E : XK} (hp : Row K F p xs) (hf : Same F H) (pr : PrL K F xs L) (ok : OkR L) (k : ∀ F' H' z, Stp F H F' H' → Wd K a.World F' z L → Q z H') :
    ∀ o d, H o = none → H d = none → d ≠ o → sp_Winit K a (.ref o :: [.ref p]) (upd (upd H d (.own o)) o (.ins a.World d [])) (fun v H2 => v = .non ∧ Q (.ref o) H2) E := by
  have l := pr.len
  have len := ok.len
  have ne : xs ≠ [] := fun z => by
    rw [z] at l
    exact ok.ne (List.length_eq_zero_iff.mp l.symm)
  refine mk_wd hp hf (by omega) pr.of ok.ok ok.str (fun _ _ F' H' z st hw => k F' H' z st hw) (fun x hx => ?_) (fun h => ?_)
  · have := (List.getElem?_eq_some_iff.mp hx).1
    omega
  · rcases h with h | h
    · omega
    · exact absurd h ne
/-- == of two worlds -/
theorem eq_worlds {F H : Hp} {x y : V} {L M : Prs} {Q : VK} {E : XK} (hx : Wd K a.World F x L) (hy : Wd K a.World F y M) (hf : Same F H) (nd : (L.map (·.1)).Nodup) (nd2 : (M.map (·.1)).Nodup) (k : Q (.bl (sameW L M)) H) :
    ∃ p dx fs, x = .ref p ∧ H p = some (.ins a.World dx fs) ∧ RhsAny K a.World H y ∧ sp_eq K a [x, y] H Q E := by
  obtain ⟨xx, dx, d, o, kvs, rfl, e1, e2, e3⟩ := id hx
  obtain ⟨yy, dy, d', o', kvs', rfl, h1, h2, h3⟩ := id hy
  exact ⟨xx, dx, _, rfl, hf _ _ e1, .inr (.inr (.inr (.inr ⟨yy, rfl, .inl ⟨dy, _, hf _ _ h1⟩⟩))), F, .ref xx, .ref yy, L, rfl, hx, hf, .inl ⟨M, hy, nd, nd2, k⟩⟩
end
end K26

set_option Elab.async false
set_option linter.all false
set_option maxRecDepth 100000
set_option maxHeartbeats 4000000
namespace K26
open PySem PySem.Spec PyProof.Rows L2 Ew
theorem cut_to (xs : List V) (i : Nat) : cutV xs none (some (i : Int)) = xs.take i := by
  unfold cutV
  rw [HT.sIx_none, HT.sIx_nat, List.drop_zero, Nat.sub_zero]
  by_cases q : i ≤ xs.length
  · rw [Nat.min_eq_left q]
  · rw [Nat.min_eq_right (by omega), List.take_length, List.take_of_length_le (by omega)]
theorem cut_from (xs : List V) (i : Nat) : cutV xs (some (i : Int)) none = xs.drop i := by
  unfold cutV
  rw [HT.sIx_none, HT.sIx_nat]
  by_cases q : i ≤ xs.length
  · rw [Nat.min_eq_left q]
    exact List.take_of_length_le (by rw [List.length_drop]; omega)
  · rw [Nat.min_eq_right (by omega), List.drop_length, List.drop_of_length_le (by omega), List.take_nil]
section
variable {P : Program} {w : World} {K : PySem.W.Frag} {mg : Str → Option Value} {base : Heap} {a : Ad}
/-- the same, its promise by the new thing's place -/
theorem mk_goodA {F H : Hp} {p : Addr} {xs : List V} {L : Prs} {Q : Addr → Hp → Prop} {E : XK} (hp : Row K F p xs) (hf : Same F H) (pr : PrL K F xs L) (ok : OkR L) (k : ∀ F' H' o, Stp F H F' H' → Wd K a.World F' (.ref o) L → Q o H') :
    ∀ o d, H o = none → H d = none → d ≠ o → sp_Winit K a (.ref o :: [.ref p]) (upd (upd H d (.own o)) o (.ins a.World d [])) (fun v H2 => v = .non ∧ Q o H2) E :=
  mk_good (Q := fun v H => match v with | .ref o => Q o H | _ => False) hp hf pr ok fun F' H' z st hw => by
    obtain ⟨o, dx, d, ob, kvs, rfl, h⟩ := id hw
    exact k F' H' o st hw
theorem Kd.rhs {C : Addr} {F H : Hp} {v : V} {T : String} (h : Kd K F v T) (e : Same F H) : RhsAny K C H v := by
  cases h with
  | non => exact .inl rfl
  | bl b => exact .inr (.inl ⟨b, rfl⟩)
  | int i => exact .inr (.inr (.inl ⟨i, rfl⟩))
  | str z => exact .inr (.inr (.inr (.inl ⟨z, rfl⟩)))
  | lst h => exact .inr (.inr (.inr (.inr ⟨_, rfl, .inr (.inl ⟨_, upL e h⟩)⟩)))
  | tup h => exact .inr (.inr (.inr (.inr ⟨_, rfl, .inr (.inr ⟨_, upT e h⟩)⟩)))
theorem lc_made {F0 F H : Hp} {σ : L2.St} {ts : TA} {n : Nat} {P : Hp → V → Prop} {g : TG} {tt : TT} {te : TE} {vs : List Nat} {Q : VK} (h : MkL F0 σ ts n P) (up : Up P) (hn : n ≤ 1000) (e : Same F0 F) (e1 : Same F H)
    (k : ∀ F1 H1 p zs, Stp F H F1 H1 → F1 p = some (.lst zs) → zs.length = n → (∀ v ∈ zs, P F1 v) → tLc (iList K (tC (.ref p))) g tt te vs σ H1 Q) : tLc (iList K (tLst ts)) g tt te vs σ H Q := by
  unfold tLc iList
  exact MkL.lst h up hn e e1 fun F1 H1 p zs s hp hl hv => k F1 H1 p zs s hp hl hv
/-- a new thing beside one that is still written -/
theorem newD {b D p : Addr} {F H F1 H1 : Hp} {o o' : HO} (s : Sb b F H F1 H1) (B : Bag K b F1 H1) (fD : F1 D = none) (hD : H1 D = some o') (hp : H1 p = none) :
    Sb b F H (upd F1 p o) (upd H1 p o) ∧ Bag K b (upd F1 p o) (upd H1 p o) ∧ (upd F1 p o) D = none ∧ (upd H1 p o) D = some o' ∧ Same F1 (upd F1 p o) ∧ (upd F1 p o) p = some o := by
  obtain ⟨s2, B2⟩ := newB (o := o) s B hp
  have n : p ≠ D := fun z => by rw [z, hD] at hp; cases hp
  exact ⟨s2, B2, by rw [upd_ne (Ne.symm n)]; exact fD, same_new hp _ _ hD, same_new (s.fh.free hp), upd_same⟩
/-- a row that makes another world -/
def Other (K : PySem.W.Frag) (L : Prs) (F : Hp) (v : V) : Prop := ∃ p ys M, v = .ref p ∧ F p = some (.lst ys) ∧ PrL K F ys M ∧ OkR M ∧ sameW L M = false ∧ sameW M L = false
theorem up_other {L : Prs} : Up (Other K L) := fun F F' v e h => by
  obtain ⟨p, ys, M, h1, h2, h3, h4⟩ := h
  exact ⟨p, ys, M, h1, e _ _ h2, h3.up e, h4⟩
def sp__law_equal_as_due (K : PySem.W.Frag) (a : Ad) : Sp := fun vs H Q _ => ∃ (F : Hp) (b l : Addr) (x : V) (xs : List V) (L : Prs), vs = [.ref b, x, .ref l] ∧ Bag K b F H ∧ Same F H ∧ Wd K a.World F x L ∧ F l = some (.lst xs) ∧ PrL K F xs L ∧ OkW L ∧ (∀ s ∈ L, OkS s.1) ∧ L.length ≤ 10 ∧
  ∀ F' H', Sb b F H F' H' → Bag K b F' H' → Q (.bl true) H'
theorem c__law_equal_as_due (T : Txt K mg a) : Cl P w K mg base 9 "_law_equal_as_due" P__law_equal_as_due (sp__law_equal_as_due K a) [] :=
  T.d__law_equal_as_due.cl sc__law_equal_as_due (fun vs H Q E h => by obtain ⟨F, b, l, x, xs, L, rfl, _⟩ := h; rfl) fun f cdv A outer s H vs Q E hr h => by
    obtain ⟨F, b, l, x, xs, L, rfl, hB, hf, hx, hl, hp, okL, okS, lenL, k⟩ := h
    refine ⟨_, ((pss_cons (ps_set (i := 3) sc__law_equal_as_due.nd rfl (Or.inl rfl) (pe_mkW (mk_World T) (takes_of rfl rfl rfl rfl) hr (by decide) rfl (pa_cons (pe_callTy call_tuple_of (by rfl) T.n_tuple (by decide +kernel) (pa_cons (pe_op op_cat (pe_slice sl_list (pv 2) po_none (po_some pe_int)) (pe_f (c__law_shuffled T) (takes_of rfl rfl rfl rfl) hr (by decide) rfl (pa_cons (pv 0) (pa_cons (pe_slice sl_list (pv 2) (po_some pe_int) po_none) pa_nil)))) pa_nil)) pa_nil)))
 (pss_cons (ps_if (PW.pt (pw_or (pt_not (pt_cmp (pc_eqC (o_World_eq T) T.nf (takes_of rfl rfl rfl rfl) hr (by decide) (pv 1) (pv 3)) rfl)) (pw_or1 (pt_not (pt_cmp (pc_eqC (o_World_eq T) T.nf (takes_of rfl rfl rfl rfl) hr (by decide) (pv 3) (pv 1)) rfl)))))
 (pss_one (ps_ret pe_bl))
 pss_nil)
 (pss_cons (ps_set (i := 4) sc__law_equal_as_due.nd rfl (Or.inl rfl) (pe_lst (pa_cons (pe_op op_cat (pv 2) (pe_lst (pa_cons (pe_tup (pa_cons (pe_f (c__law_stranger T) (takes_of rfl rfl rfl rfl) hr (by decide) rfl (pa_cons (pv 0) (pa_cons (pe_lc (own := [("_law_pair", 10)]) (g := (gName 10)) (by rfl) sc__law_equal_as_due.nd (pi_list (pv 2)) (blkOk_by (own := [("_law_pair", 10)]) (N := N__law_equal_as_due) (sc := defScope s__law_equal_as_due) (by decide +kernel)) (fun _ _ _ _ _ => (pg_name (i := 10) sc__law_equal_as_due.nd rfl (Or.inl rfl) (hf := .inr rfl))) (fun _ _ _ _ _ => pts_nil) (fun _ _ _ _ _ => (pe_ix (r := rIxT K) ix_tup (pv 10) pe_int (fun _ _ => rfl)))) pa_nil))) (pa_cons (pe_tup (pa_cons pe_int (pa_cons pe_int pa_nil))) pa_nil))) pa_nil))) pa_nil)))
 (pss_cons (ps_if (pt_cmpR op_gt (pe_callB call_len_seq (by rfl) T.n_len (by decide +kernel) (pa_cons (pv 2) pa_nil)) pe_int (nomark _))
 (pss_cons (ps_set (i := 5) sc__law_equal_as_due.nd rfl (Or.inl rfl) (pe_op op_add pe_int (pe_f (c__law_pick T) (takes_of rfl rfl rfl rfl) hr (by decide) rfl (pa_cons (pv 0) (pa_cons (pe_op op_sub (pe_callB call_len_seq (by rfl) T.n_len (by decide +kernel) (pa_cons (pv 2) pa_nil)) pe_int) pa_nil)))))
 (pss_cons (ps_set (i := 6) sc__law_equal_as_due.nd rfl (Or.inl rfl) (pe_f (c__law_ratio T) (takes_of rfl rfl rfl rfl) hr (by decide) rfl (pa_cons (pe_f (c__law_choice T) (takes_of rfl rfl rfl rfl) hr (by decide) rfl (pa_cons (pv 0) (pa_cons (pe_lst (pa_cons pe_int (pa_cons (pe_un un_neg pe_int) pa_nil))) pa_nil))) (pa_cons (pe_op op_add pe_int (pe_f (c__law_pick T) (takes_of rfl rfl rfl rfl) hr (by decide) rfl (pa_cons (pv 0) (pa_cons pe_int pa_nil)))) pa_nil))))
 (pss_cons (ps_set (i := 7) sc__law_equal_as_due.nd rfl (Or.inl rfl) (pe_tup (pa_cons (pe_ix ix_tup (pe_ix ix_list (pv 2) (pv 5) (fun _ _ => rfl)) pe_int (fun _ _ => rfl)) (pa_cons (pe_f (c__law_plus T) (takes_of rfl rfl rfl rfl) hr (by decide) rfl (pa_cons (pe_ix ix_tup (pe_ix ix_list (pv 2) (pv 5) (fun _ _ => rfl)) pe_int (fun _ _ => rfl)) (pa_cons (pv 6) pa_nil))) pa_nil))))
 (pss_cons (ps_expr (pe_bm PySem.F.plainAttrs_list PySem.F.slot_list_append PySem.F.type_list_append mt_append (pv 4) (pa_cons (pe_op op_cat (pe_op op_cat (pe_slice sl_list (pv 2) po_none (po_some (pv 5))) (pe_lst (pa_cons (pv 7) pa_nil))) (pe_slice sl_list (pv 2) (po_some (pe_op op_add (pv 5) pe_int)) po_none)) pa_nil)))
 (pss_one (ps_expr (pe_bm PySem.F.plainAttrs_list PySem.F.slot_list_append PySem.F.type_list_append mt_append (pv 4) (pa_cons (pe_op op_cat (pe_slice sl_list (pv 2) po_none (po_some (pv 5))) (pe_slice sl_list (pv 2) (po_some (pe_op op_add (pv 5) pe_int)) po_none)) pa_nil))))))))
 pss_nil)
 (pss_cons (ps_for (passes_of rfl) rfl (pi_list (pv 4)) (pg_name (i := 8) sc__law_equal_as_due.nd rfl (Or.inl rfl))
 (pss_cons (ps_set (i := 9) sc__law_equal_as_due.nd rfl (Or.inl rfl) (pe_mkW (mk_World T) (takes_of rfl rfl rfl rfl) hr (by decide) rfl (pa_cons (pv 8) pa_nil)))
 (pss_one (ps_if (PW.pt (pw_or (pt_cmp (pc_eqC (o_World_eq T) T.nf (takes_of rfl rfl rfl rfl) hr (by decide) (pv 1) (pv 9)) rfl) (pw_or1 (pt_cmp (pc_eqC (o_World_eq T) T.nf (takes_of rfl rfl rfl rfl) hr (by decide) (pv 9) (pv 1)) rfl))))
 (pss_one (ps_ret pe_bl))
 pss_nil))))
 (pss_one (ps_ret (pe_cmpR (op_eqD hr.units) (pe_lc (own := [("_law_thing", 11)]) (g := (gName 11)) (by rfl) sc__law_equal_as_due.nd (pi_list (pe_lst (pa_cons pe_non (pa_cons pe_int (pa_cons pe_str (pa_cons (pe_tup pa_nil) (pa_cons (pe_callTy call_list_of (by rfl) T.n_list (by decide +kernel) (pa_cons (pv 2) pa_nil)) (pa_cons (pe_ix ix_list (pv 2) pe_int (fun _ _ => rfl)) pa_nil)))))))) (blkOk_by (own := [("_law_thing", 11)]) (N := N__law_equal_as_due) (sc := defScope s__law_equal_as_due) (by decide +kernel)) (fun _ _ _ _ _ => (pg_name (i := 11) sc__law_equal_as_due.nd rfl (Or.inl rfl) (hf := .inr rfl))) (fun _ _ _ _ _ => pts_nil) (fun _ _ _ _ _ => (by show PE _ _ (tEqA K a.World (sp_eq K a) (WE fun _ _ _ _ => False) (tVar 1) (tVar 11)); exact pe_cmp (pc_eqC (o_World_eq T) T.nf takes0 hr (by decide) (pv 1) (pv 11)) rfl))) (pe_op op_rep (pe_lst (pa_cons pe_bl pa_nil)) pe_int) (nomark _)))))))))), ?_⟩
    have len := hp.len
    have nd := okL.ok.nd
    refine ⟨_, rfl, 1, rfl, l, xs, rfl, SqL.of (hf _ _ hl), fun p1 hp1 => ?_⟩
    rw [show cutV xs none (some 1) = xs.take 1 from cut_to xs 1]
    obtain ⟨s1, B1⟩ := newB (o := .lst (xs.take 1)) (Stm.refl hf) hB hp1
    have f1 : (upd F p1 (.lst (xs.take 1))) p1 = some (.lst (xs.take 1)) := upd_same
    refine ⟨_, rfl, _, rfl, 1, rfl, l, xs, rfl, SqL.of (s1.fh _ _ (s1.ff _ _ hl)), fun p2 hp2 => ?_⟩
    rw [show cutV xs (some 1) none = xs.drop 1 from cut_from xs 1]
    obtain ⟨s2, B2⟩ := newB (o := .lst (xs.drop 1)) s1 B1 hp2
    have e2 := same_new (s1.fh.free hp2) (o := .lst (xs.drop 1))
    refine ⟨_, b, p2, xs.drop 1, rfl, B2, s2.fh, SqL.of upd_same, by rw [List.length_drop]; omega, fun F3 H3 D3 ys s3 B3 hD3 pm => ?_⟩
    have s3' := seqB s2 B2 s3
    have f3 := s3.ff _ _ (e2 _ _ f1)
    have yl : ys.length ≤ 10 := by rw [pm.length_eq, List.length_drop]; omega
    have tl : (xs.take 1).length ≤ 1 := by rw [List.length_take]; omega
    refine ⟨p1, D3, xs.take 1, ys, rfl, rfl, s3'.fh _ _ f3, s3'.fh _ _ hD3, by rw [sizeLine_eq]; omega, fun p4 hp4 => ?_⟩
    obtain ⟨s4, B4⟩ := newB (o := .lst (xs.take 1 ++ ys)) s3' B3 hp4
    refine ⟨p4, xs.take 1 ++ ys, rfl, .inl ⟨SqL.of upd_same, fun p5 hp5 => ?_⟩⟩
    obtain ⟨s5, B5⟩ := newB (o := .tup (xs.take 1 ++ ys)) s4 B4 hp5
    obtain ⟨M0, pm0, pr0⟩ := Paired.perm pm (Paired.drop 1 hp)
    have pr5 : PrL K _ (xs.take 1 ++ ys) (L.take 1 ++ M0) := PrL.up (Paired.app (Paired.take 1 hp) pr0) s5.ff
    have perm : (L.take 1 ++ M0).Perm L := by
      have := pm0.append_left (L.take 1)
      rwa [List.take_append_drop] at this
    have ndM : ((L.take 1 ++ M0).map (·.1)).Nodup := (perm.map (·.1)).nodup_iff.mpr nd
    have hd0 : (L.take 1 ++ M0)[0]? = L[0]? := by
      cases hL : L with
      | nil => exact absurd hL okL.ne
      | cons s L' => rfl
    have okM : OkR (L.take 1 ++ M0) := okL.r.sub ndM (fun s hs => perm.mem_iff.mp hs) hd0 (by rw [perm.length_eq]; omega)
    refine mk_goodA (a := a) (.inr (SqT.of upd_same)) s5.fh pr5 okM fun F6 H6 z st6 hz => ?_
    obtain ⟨s6, B6⟩ := pureB s5 B5 st6
    have hx6 := hx.up s6.ff
    refine gn ?_
    try dsimp only
    refine ⟨_, rfl, _, rfl, eq_worlds hx6 hz s6.fh nd ndM ?_⟩
    rw [same_perm perm ndM]
    refine ⟨true, rfl, iteF ⟨_, rfl, _, rfl, eq_worlds hz hx6 s6.fh ndM nd ?_⟩⟩
    rw [same_perm perm.symm nd]
    refine ⟨true, rfl, iteF ?_⟩
    clear s1 B1 f1 s2 B2 e2 s3 B3 hD3 s3' f3 s4 B4 s5 B5 pr5 st6 hp1 hp2 hp4 hp5
    have hl6 := s6.ff _ _ hl
    have hp6 := hp.up s6.ff
    have okS' : ∀ p ∈ L.map (·.1), OkS p := fun p hp => by obtain ⟨s, hs, rfl⟩ := List.mem_map.mp hp; exact okS s hs
    have neL : L.map (·.1) ≠ [] := fun z => okL.ne (List.map_eq_nil_iff.mp z)
    refine ⟨_, rfl, _, rfl, ?_⟩
    refine lc_firsts (n := 10) (iA := 2) (σ := [some (.ref b), some x, some (.ref l), some (.ref z), none, none, none, none, none, none, none, none]) rfl (fun _ => rfl) (fun _ => rfl) s6.fh (SqL.of hl6) hp6 okL.len fun F7 H7 D7 zs st7 hD7 ss7 => ?_
    obtain ⟨s7, B7⟩ := pureB s6 B6 st7
    refine ⟨F7, b, D7, zs, L.map (·.1), rfl, B7, s7.fh, SqL.of hD7, ss7, neL, by rw [List.length_map]; omega, okS', fun F8 H8 sv sp s8 B8 hsv nin str => ?_⟩
    have s8' := seqB s7 B7 s8
    refine ⟨(by show 2 ≤ sizeLine; decide), fun t1 ht1 => ⟨(by show 2 ≤ sizeLine; decide), fun t2 ht2 => ⟨(by show 1 ≤ sizeLine; decide), fun t3 ht3 => ?_⟩⟩⟩
    obtain ⟨s9, B9⟩ := newB (o := .tup [.int 0, .int 1]) s8' B8 ht1
    have e9 := same_new (s8'.fh.free ht1) (o := .tup [.int 0, .int 1])
    have h9 : (upd F8 t1 (.tup [.int 0, .int 1])) t1 = some (.tup [.int 0, .int 1]) := upd_same
    obtain ⟨s10, B10⟩ := newB (o := .tup [sv, .ref t1]) s9 B9 ht2
    have e10 := same_new (s9.fh.free ht2) (o := .tup [sv, .ref t1])
    have h10 : (upd (upd F8 t1 (.tup [.int 0, .int 1])) t2 (.tup [sv, .ref t1])) t2 = some (.tup [sv, .ref t1]) := upd_same
    obtain ⟨s11, B11⟩ := newB (o := .lst [.ref t2]) s10 B10 ht3
    have e11 := same_new (s10.fh.free ht3) (o := .lst [.ref t2])
    have h11 : (upd (upd (upd F8 t1 (.tup [.int 0, .int 1])) t2 (.tup [sv, .ref t1])) t3 (.lst [.ref t2])) t3 = some (.lst [.ref t2]) := upd_same
    have pnew : Pr K any1 (upd (upd (upd F8 t1 (.tup [.int 0, .int 1])) t2 (.tup [sv, .ref t1])) t3 (.lst [.ref t2])) (.ref t2) (sp, (0, 1)) := ⟨t2, sv, .ref t1, rfl, SqT.of (e11 _ _ h10), hsv.up (e9.trans (e10.trans e11)), ⟨t1, rfl, SqT.of (e11 _ _ (e10 _ _ h9))⟩, trivial⟩
    have e6 : Same F6 (upd (upd (upd F8 t1 (.tup [.int 0, .int 1])) t2 (.tup [sv, .ref t1])) t3 (.lst [.ref t2])) := st7.ff.trans (s8.ff.trans (e9.trans (e10.trans e11)))
    generalize upd (upd (upd F8 t1 (.tup [.int 0, .int 1])) t2 (.tup [sv, .ref t1])) t3 (.lst [.ref t2]) = F11 at *
    clear e9 h9 e10 h10 e11 s9 B9 s10 B10
    refine ⟨l, t3, xs, _, rfl, rfl, s11.fh _ _ (e6 _ _ hl6), s11.fh _ _ h11, by show xs.length + 1 ≤ sizeLine; rw [sizeLine_eq]; omega, fun t4 ht4 => ?_⟩
    obtain ⟨s12, B12⟩ := newB (o := .lst (xs ++ [.ref t2])) s11 B11 ht4
    have e12 := same_new (s11.fh.free ht4) (o := .lst (xs ++ [.ref t2]))
    have oth : Other K L (upd F11 t4 (.lst (xs ++ [.ref t2]))) (.ref t4) := by
      refine ⟨t4, _, L ++ [(sp, (0, 1))], rfl, upd_same, ((hp6.up e6).snoc pnew).up e12, ⟨⟨?_, ?_, ?_⟩, ?_, ?_, ?_⟩, same_len (by rw [List.length_append]; show L.length ≠ L.length + 1; omega), same_len (by rw [List.length_append]; show L.length + 1 ≠ L.length; omega)⟩
      · rw [List.map_append, List.nodup_append]
        refine ⟨nd, by simp, fun y hy y' hy' e => ?_⟩
        rw [List.map_cons, List.map_nil, List.mem_singleton] at hy'
        rw [e, hy'] at hy
        exact nin hy
      · intro s hs
        rcases List.mem_append.mp hs with hs | hs
        · exact okL.ok.low s hs
        · rw [List.mem_singleton.mp hs]; exact ⟨by show (1 : Int) ≤ 1; decide, by show Nat.gcd 0 1 = 1; decide⟩
      · intro s hs
        refine okL.ok.hd s ?_
        rw [List.getElem?_append_left (List.length_pos_iff.mpr okL.ne)] at hs
        exact hs
      · intro s hs
        rcases List.mem_append.mp hs with hs | hs
        · exact okL.str s hs
        · rw [List.mem_singleton.mp hs]; exact str.nm.1
      · exact fun z => by cases L <;> cases z
      · rw [List.length_append]; show L.length + 1 ≤ 1000; omega
    have e6' := e6.trans e12
    generalize upd F11 t4 (.lst (xs ++ [.ref t2])) = F12 at *
    refine ⟨(by show 1 ≤ sizeLine; decide), fun D hD => ?_⟩
    have hDb : D ≠ b := fun z => (memB K b).there B12 z hD
    obtain ⟨s13, B13⟩ := rawB (o := .lst [.ref t4]) s12 B12 hD
    have fD : F12 D = none := s12.fh.free hD
    have h13 : (upd (upd (upd (upd (upd H8 t1 (.tup [.int 0, .int 1])) t2 (.tup [sv, .ref t1])) t3 (.lst [.ref t2])) t4 (.lst (xs ++ [.ref t2]))) D (.lst [.ref t4])) D = some (.lst [.ref t4]) := upd_same
    have h0D : H D = none := s12.fresh (fun x z => (memB K b).there B12 z) hD
    refine gn ?_
    try dsimp only
    obtain ⟨H13, eH13⟩ : ∃ H13, H13 = (upd (upd (upd (upd (upd H8 t1 (.tup [.int 0, .int 1])) t2 (.tup [sv, .ref t1])) t3 (.lst [.ref t2])) t4 (.lst (xs ++ [.ref t2]))) D (.lst [.ref t4])) := ⟨_, rfl⟩
    rw [← eH13] at s13 B13 h13 ⊢
    clear eH13 hD s12 B12 s11 B11 ht1 ht2 ht3 ht4
    refine seq_with (fun σ' H' => ∃ F' os c5 c6 c7, σ' = [some (.ref b), some x, some (.ref l), some (.ref z), some (.ref D), c5, c6, c7, none, none, none, none] ∧ Sb b F H F' H' ∧ Bag K b F' H' ∧ Same F6 F' ∧ F' D = none ∧ H' D = some (.lst os) ∧ os.length ≤ 3 ∧ ∀ v ∈ os, Other K L F' v) (fun u hu => ?_) ?_
    · refine ⟨_, rfl, l, xs, rfl, .inl (SqL.of (s13.fh _ _ (e6' _ _ hl6))), _, _, rfl, rfl, _, rfl, ?_⟩
      by_cases l1 : 1 < xs.length
      case neg =>
        rw [decide_eq_false (by omega)]
        exact iteF (hu _ _ ⟨F12, _, none, none, none, rfl, s13, B13, e6', fD, h13, by show 1 ≤ 3; decide, fun v hv => by rw [List.mem_singleton.mp hv]; exact oth⟩)
      rw [decide_eq_true (by omega)]
      refine iteT ?_
      refine ⟨_, rfl, _, rfl, l, xs, rfl, .inl (SqL.of (s13.fh _ _ (e6' _ _ hl6))), _, _, rfl, rfl, F12, b, _, rfl, B13, s13.fh, by omega, sz_of 20 (by omega) (by decide), fun H14 pk s14 B14 k0 k1 => ⟨_, _, rfl, rfl, ?_⟩⟩
      obtain ⟨pn, rfl⟩ : ∃ pn : Nat, pk = pn := ⟨pk.toNat, by omega⟩
      have e1p : (1 : Int) + (pn : Int) = ((pn + 1 : Nat) : Int) := by omega
      have h14 := s14.hh D _ hDb h13
      have s14' := seqB s13 B13 s14
      refine gn ?_
      try dsimp only
      rw [e1p]
      obtain ⟨pl, epl⟩ : ∃ pl, pl = pn + 1 := ⟨_, rfl⟩
      rw [← epl]
      have pl0 : 0 < pl := by omega
      have pl1 : pl < xs.length := by omega
      obtain ⟨v0, hv0⟩ : ∃ v, xs[pl]? = some v := ⟨_, List.getElem?_eq_getElem pl1⟩
      obtain ⟨s0, hs0, q0, _, w0, rfl, hq0, ⟨qs, rfl, hqs⟩, hrr, _⟩ := hp6.at hv0
      have ai : atI xs (pl : Int) = some (.ref q0) := by rw [at_nat pl1]; exact hv0
      have mem0 : s0 ∈ L := List.mem_of_getElem? hs0
      have fine0 := okL.fine s0 mem0
      refine ⟨_, rfl, 1, rfl, (by show 2 ≤ sizeLine; decide), fun p5 hp5 => ?_⟩
      have np5 : p5 ≠ D := fun z => by rw [z, h14] at hp5; cases hp5
      obtain ⟨s15, B15⟩ := newB (o := .lst [.int 1, .int (-1)]) s14' B14 hp5
      have e15 := same_new (s14'.fh.free hp5) (o := .lst [.int 1, .int (-1)])
      have h15 := same_new hp5 (o := .lst [.int 1, .int (-1)]) _ _ h14
      have f15 : (upd F12 p5 (.lst [.int 1, .int (-1)])) D = none := by rw [upd_ne (Ne.symm np5)]; exact fD
      have h5 : (upd F12 p5 (.lst [.int 1, .int (-1)])) p5 = some (.lst [.int 1, .int (-1)]) := upd_same
      generalize upd F12 p5 (.lst [.int 1, .int (-1)]) = F15 at *
      refine ⟨F15, b, .ref p5, _, rfl, .inl ⟨p5, rfl, SqL.of h5⟩, (by intro z; cases z), (by show 2 ≤ 1000; decide), B15, s15.fh, fun H16 v j s16 B16 hv => ?_⟩
      obtain ⟨n, rfl, hn⟩ : ∃ n : Int, v = .int n ∧ (n = 1 ∨ n = -1) := by
        have := List.mem_of_getElem? hv
        simp only [List.mem_cons, List.not_mem_nil, or_false] at this
        rcases this with rfl | rfl
        · exact ⟨1, rfl, .inl rfl⟩
        · exact ⟨-1, rfl, .inr rfl⟩
      have h16 := s16.hh D _ hDb h15
      have s16' := seqB s15 B15 s16
      refine ⟨_, rfl, F15, b, 3, rfl, B16, s16.fh, by decide, sz_of 2 (by decide) (by decide), fun H17 dk s17 B17 d0 d1 => ⟨_, _, rfl, rfl, ?_⟩⟩
      have h17 := s17.hh D _ hDb h16
      have s17' := seqB s16' B16 s17
      have zn : Sz 3 n := sz_of 3 (by rcases hn with rfl | rfl <;> decide) (by decide)
      have zd : Sz 3 (1 + dk) := sz_of 3 (by omega) (by decide)
      have n0 : n ≠ 0 := by rcases hn with rfl | rfl <;> decide
      refine ⟨F15, n, 1 + dk, rfl, by omega, zd.mono (by decide), s17.fh, fun F18 H18 v6 st18 hv6 => ?_⟩
      obtain ⟨s18, B18⟩ := pureB s17' B17 st18
      have h18 := st18.hh D _ id h17
      have f18 : F18 D = none := st18.nw D f15 (by rw [h17]; exact fun z => nomatch z)
      have a18 : Same F6 F18 := e6'.trans (e15.trans st18.ff)
      refine gn ?_
      try dsimp only
      obtain ⟨q, eq⟩ : ∃ q, q = rat n (1 + dk) := ⟨_, rfl⟩
      have zq : Sz 3 q.1 ∧ Sz 3 q.2 := by rw [eq]; exact rat_sz zn zd
      have lq : Low q := by rw [eq]; exact low_rat (by omega)
      have q0' : q.1 ≠ 0 := fun z => by
        have c := rat_cross n (1 + dk)
        rw [← eq, z, Int.zero_mul] at c
        rcases Int.mul_eq_zero.mp c.symm with z | z
        · exact n0 z
        · have := lq.1; omega
      rw [← eq] at hv6
      have b18 := a18.trans s18.fh
      refine ⟨_, rfl, _, rfl, l, xs, _, _, rfl, rfl, SqL.of (b18 _ _ hl6), ai, q0, _, _, _, rfl, rfl, upT b18 hq0, at0, _, rfl, _, rfl, l, xs, _, _, rfl, rfl, SqL.of (b18 _ _ hl6), ai, q0, _, _, _, rfl, rfl, upT b18 hq0, at1, _, rfl, F18, w0, v6, s0.2, q, rfl, hrr.up a18, hv6, fine0.wide.1, fine0.wide.2.1, zq.1.mono (by decide), zq.2.mono (by decide), fine0.wide.2.2, by have := lq.1; omega, s18.fh, fun F19 H19 v7 st19 hv7 => ⟨by show 2 ≤ sizeLine; decide, fun t7 ht7 => ?_⟩⟩
      obtain ⟨s19, B19⟩ := pureB s18 B18 st19
      have h19 := st19.hh D _ id h18
      have f19 : F19 D = none := st19.nw D f18 (by rw [h18]; exact fun z => nomatch z)
      have nt7 : t7 ≠ D := fun z => by rw [z, h19] at ht7; cases ht7
      obtain ⟨s20, B20⟩ := newB (o := .tup [.ref qs, v7]) s19 B19 ht7
      have e20 := same_new (s19.fh.free ht7) (o := .tup [.ref qs, v7])
      have h20 := same_new ht7 (o := .tup [.ref qs, v7]) _ _ h19
      have f20 : (upd F19 t7 (.tup [.ref qs, v7])) D = none := by rw [upd_ne (Ne.symm nt7)]; exact f19
      have a20 : Same F6 (upd F19 t7 (.tup [.ref qs, v7])) := a18.trans (st19.ff.trans e20)
      have p7 : Pr K any1 (upd F19 t7 (.tup [.ref qs, v7])) (.ref t7) (s0.1, rPlus s0.2 q) := ⟨t7, .ref qs, v7, rfl, SqT.of upd_same, ⟨qs, rfl, a20 _ _ hqs⟩, hv7.up e20, trivial⟩
      have oth20 := up_other _ _ _ ((e15.trans st18.ff).trans (st19.ff.trans e20)) oth
      generalize upd F19 t7 (.tup [.ref qs, v7]) = F20 at *
      obtain ⟨H20, eH20⟩ : ∃ H20, H20 = upd H19 t7 (.tup [.ref qs, v7]) := ⟨_, rfl⟩
      rw [← eH20] at s20 B20 h20 ⊢
      clear eH20 ht7 s19 B19 h19 s18 B18 h18 s17 B17 h17 s17' s16 B16 h16 s16' s15 B15 h15 hp5
      refine gn ?_
      try dsimp only
      have hLs : L = L.take pl ++ s0 :: L.drop (pl + 1) := by
        have : L.drop pl = s0 :: L.drop (pl + 1) := by
          rw [List.drop_eq_getElem_cons (by omega)]
          congr 1
          exact (List.getElem?_eq_some_iff.mp hs0).2
        rw [← this, List.take_append_drop]
      have hpt : PrL K F20 (xs.take pl) (L.take pl) := PrL.up (Paired.take pl hp6) a20
      have hpd : PrL K F20 (xs.drop (pl + 1)) (L.drop (pl + 1)) := PrL.up (Paired.drop (pl + 1) hp6) a20
      have tl1 : (xs.take pl).length ≤ 10 := by rw [List.length_take]; omega
      have dl1 : (xs.drop (pl + 1)).length ≤ 10 := by rw [List.length_drop]; omega
      have b20 := a20.trans s20.fh
      -- the moved one
      refine ⟨_, rfl, .inl ⟨rfl, _, SqL.of h20⟩, _, rfl, _, rfl, pl, rfl, l, xs, rfl, SqL.of (b20 _ _ hl6), fun p1 hp1 => ?_⟩
      rw [cut_to]
      obtain ⟨s21, B21, f21, h21, e21, l21⟩ := newD (o := .lst (xs.take pl)) s20 B20 f20 h20 hp1
      refine ⟨_, rfl, (by show 1 ≤ sizeLine; decide), fun p2 hp2 => ?_⟩
      obtain ⟨s22, B22, f22, h22, e22, l22⟩ := newD (o := .lst [.ref t7]) s21 B21 f21 h21 hp2
      refine ⟨p1, p2, _, _, rfl, rfl, s22.fh _ _ (e22 _ _ l21), s22.fh _ _ l22, by rw [sizeLine_eq]; show (xs.take pl).length + 1 ≤ _; omega, fun p3 hp3 => ?_⟩
      obtain ⟨s23, B23, f23, h23, e23, l23⟩ := newD (o := .lst (xs.take pl ++ [.ref t7])) s22 B22 f22 h22 hp3
      have a23 := (e21.trans e22).trans e23
      refine ⟨_, rfl, _, rfl, _, _, rfl, rfl, ((pl : Int) + 1), rfl, l, xs, rfl, SqL.of (s23.fh _ _ (a23 _ _ (a20 _ _ hl6))), fun p4 hp4 => ?_⟩
      rw [show cutV xs (some ((pl : Int) + 1)) none = xs.drop (pl + 1) from cut_from xs (pl + 1)]
      obtain ⟨s24, B24, f24, h24, e24, l24⟩ := newD (o := .lst (xs.drop (pl + 1))) s23 B23 f23 h23 hp4
      refine ⟨p3, p4, _, _, rfl, rfl, s24.fh _ _ (e24 _ _ l23), s24.fh _ _ l24, by rw [sizeLine_eq, List.length_append]; show (xs.take pl).length + 1 + _ ≤ _; omega, fun p5 hp5 => ?_⟩
      obtain ⟨s25, B25, f25, h25, e25, l25⟩ := newD (o := .lst ((xs.take pl ++ [.ref t7]) ++ xs.drop (pl + 1))) s24 B24 f24 h24 hp5
      have a25 := a23.trans (e24.trans e25)
      have mapM : ((L.take pl ++ [(s0.1, rPlus s0.2 q)]) ++ L.drop (pl + 1)).map (·.1) = L.map (·.1) := by
        conv => rhs; rw [hLs]
        simp
      have ndM : (((L.take pl ++ [(s0.1, rPlus s0.2 q)]) ++ L.drop (pl + 1)).map (·.1)).Nodup := by rw [mapM]; exact nd
      have moves : rPlus s0.2 q ≠ s0.2 := plus_moves fine0.wide.2.2 (by have := lq.1; omega) q0'
      have memM : (s0.1, rPlus s0.2 q) ∈ (L.take pl ++ [(s0.1, rPlus s0.2 q)]) ++ L.drop (pl + 1) := by simp
      have hdM : ∀ {Z : Prs}, (L.take pl ++ Z)[0]? = L[0]? := by
        intro Z
        rw [List.getElem?_append_left (by rw [List.length_take]; omega), List.getElem?_take, if_pos pl0]
      have othA : Other K L _ (.ref p5) := ⟨p5, _, (L.take pl ++ [(s0.1, rPlus s0.2 q)]) ++ L.drop (pl + 1), rfl, l25, PrL.up (Paired.app (hpt.snoc p7) hpd) a25, ⟨⟨ndM, fun s hs => by
          rcases List.mem_append.mp hs with hs | hs
          · rcases List.mem_append.mp hs with hs | hs
            · exact okL.ok.low s (List.mem_of_mem_take hs)
            · rw [List.mem_singleton.mp hs]; exact low_rat (Int.mul_ne_zero fine0.wide.2.2 (by have := lq.1; omega))
          · exact okL.ok.low s (List.mem_of_mem_drop hs), fun s hs => okL.ok.hd s (by rw [List.append_assoc, hdM] at hs; exact hs)⟩, fun s hs => by
          rcases List.mem_append.mp hs with hs | hs
          · rcases List.mem_append.mp hs with hs | hs
            · exact okL.str s (List.mem_of_mem_take hs)
            · rw [List.mem_singleton.mp hs]; exact okL.str s0 mem0
          · exact okL.str s (List.mem_of_mem_drop hs), (fun z => by rw [z] at memM; cases memM), by rw [← List.length_map (f := (·.1)), mapM, List.length_map]; omega⟩,
        same_off mem0 (by rw [look_mem ndM _ memM]; exact fun z => moves (Option.some.inj z)), same_off memM (by rw [look_mem nd _ mem0]; exact fun z => moves (Option.some.inj z).symm)⟩
      refine ⟨D, _, .ref p5, rfl, rfl, h25, by show 1 < sizeLine; decide, ?_⟩
      have s26 := (mutB (o := .lst ([.ref t4] ++ [.ref p5])) s25 B25 f25 h0D hDb).1
      have B26 := (mutB (o := .lst ([.ref t4] ++ [.ref p5])) s25 B25 f25 h0D hDb).2
      have h26 : (upd (upd (upd (upd (upd (upd H20 p1 (.lst (xs.take pl))) p2 (.lst [.ref t7])) p3 (.lst (xs.take pl ++ [.ref t7]))) p4 (.lst (xs.drop (pl + 1)))) p5 (.lst ((xs.take pl ++ [.ref t7]) ++ xs.drop (pl + 1)))) D (.lst ([.ref t4] ++ [.ref p5]))) D = some (.lst ([.ref t4] ++ [.ref p5])) := upd_same
      have a26 := a20.trans a25
      have oth26 := up_other _ _ _ a25 oth20
      generalize upd (upd (upd (upd (upd F20 p1 (.lst (xs.take pl))) p2 (.lst [.ref t7])) p3 (.lst (xs.take pl ++ [.ref t7]))) p4 (.lst (xs.drop (pl + 1)))) p5 (.lst ((xs.take pl ++ [.ref t7]) ++ xs.drop (pl + 1))) = F26 at *
      obtain ⟨H26, eH26⟩ : ∃ H26, H26 = (upd (upd (upd (upd (upd (upd H20 p1 (.lst (xs.take pl))) p2 (.lst [.ref t7])) p3 (.lst (xs.take pl ++ [.ref t7]))) p4 (.lst (xs.drop (pl + 1)))) p5 (.lst ((xs.take pl ++ [.ref t7]) ++ xs.drop (pl + 1)))) D (.lst ([.ref t4] ++ [.ref p5]))) := ⟨_, rfl⟩
      rw [← eH26] at s26 B26 h26 ⊢
      clear eH26 s25 B25 h25 l25 s24 B24 h24 hp5 hp4 s23 B23 hp3 h23 s22 B22 h22 hp2 s21 B21 h21 hp1 l21 l22 l23 l24 e21 e22 e23 e24 e25
      have b26 := a26.trans s26.fh
      refine ⟨_, rfl, .inl ⟨rfl, _, SqL.of h26⟩, _, rfl, _, rfl, pl, rfl, l, xs, rfl, SqL.of (b26 _ _ hl6), fun p6 hp6' => ?_⟩
      rw [cut_to]
      obtain ⟨s27, B27, f27, h27, e27, l27⟩ := newD (o := .lst (xs.take pl)) s26 B26 f25 h26 hp6'
      refine ⟨_, rfl, _, rfl, _, _, rfl, rfl, ((pl : Int) + 1), rfl, l, xs, rfl, SqL.of (s27.fh _ _ (e27 _ _ (a26 _ _ hl6))), fun p8 hp8 => ?_⟩
      rw [show cutV xs (some ((pl : Int) + 1)) none = xs.drop (pl + 1) from cut_from xs (pl + 1)]
      obtain ⟨s28, B28, f28, h28, e28, l28⟩ := newD (o := .lst (xs.drop (pl + 1))) s27 B27 f27 h27 hp8
      refine ⟨p6, p8, _, _, rfl, rfl, s28.fh _ _ (e28 _ _ l27), s28.fh _ _ l28, by rw [sizeLine_eq]; omega, fun p9 hp9 => ?_⟩
      obtain ⟨s29, B29, f29, h29, e29, l29⟩ := newD (o := .lst (xs.take pl ++ xs.drop (pl + 1))) s28 B28 f28 h28 hp9
      have a29 := (e27.trans e28).trans e29
      have sub : (L.take pl ++ L.drop (pl + 1)).Sublist L := by
        conv => rhs; rw [hLs]
        exact (List.Sublist.refl _).append (List.sublist_cons_self _ _)
      have len3 : (L.take pl ++ L.drop (pl + 1)).length + 1 = L.length := by
        conv => rhs; rw [hLs]
        simp
        omega
      have othB : Other K L _ (.ref p9) := ⟨p9, _, L.take pl ++ L.drop (pl + 1), rfl, l29, PrL.up (PrL.up (Paired.app hpt hpd) a25) a29, okL.r.sub ((sub.map (·.1)).nodup nd) (fun s hs => sub.subset hs) hdM (by omega), same_len (by omega), same_len (by omega)⟩
      refine ⟨D, _, .ref p9, rfl, rfl, h29, by show 2 < sizeLine; decide, ?_⟩
      obtain ⟨s30, B30⟩ := mutB (o := .lst ([.ref t4] ++ [.ref p5] ++ [.ref p9])) s29 B29 f29 h0D hDb
      refine hu _ _ ⟨_, _, _, _, _, rfl, s30, B30, a26.trans a29, f29, upd_same, by show 3 ≤ 3; decide, fun v hv => ?_⟩
      simp only [List.append_assoc, List.cons_append, List.nil_append, List.mem_cons, List.not_mem_nil, or_false] at hv
      rcases hv with rfl | rfl | rfl
      · exact up_other _ _ _ a29 oth26
      · exact up_other _ _ _ a29 othA
      · exact othB
    rintro _ H14 ⟨F14, os, c5, c6, c7, rfl, s14, B14, a14, f14, h14, ol, all⟩
    obtain ⟨s15, B15⟩ := freezeB s14 B14 f14 h0D hDb h14
    have e15 : Same F14 (upd F14 D (.lst os)) := same_new f14
    have hD15 : (upd F14 D (.lst os)) D = some (.lst os) := upd_same
    generalize upd F14 D (.lst os) = F15 at *
    refine seq_with (fun σ' H' => ∃ F' c8 c9, σ' = [some (.ref b), some x, some (.ref l), some (.ref z), some (.ref D), c5, c6, c7, c8, c9, none, none] ∧ Sb b F H F' H' ∧ Bag K b F' H' ∧ Same F15 F') (fun u hu => ?_) ?_
    · refine ⟨_, rfl, D, rfl, ⟨os, SqL.of (s15.fh _ _ hD15)⟩, ?_⟩
      refine for_it (walk_list (xs := os)) (fun i σ' H' => ∃ F' c8 c9, σ' = [some (.ref b), some x, some (.ref l), some (.ref z), some (.ref D), c5, c6, c7, c8, c9, none, none] ∧ Sb b F H F' H' ∧ Bag K b F' H' ∧ Same F15 F') ?_ ?_ ?_ ?_
      · exact ⟨F15, none, none, rfl, s15, B15, Same.refl _⟩
      · rintro i σ' H' _ ⟨F', _, _, _, sj, _, e⟩
        exact SqL.of (sj.fh _ _ (e _ _ hD15))
      · rintro i v _ H' _ hi ⟨F', c8, c9, rfl, sj, Bj, e⟩ ⟨eH, hv⟩
        subst eH
        obtain ⟨p, ys', M, rfl, hp', pr, okm, sm1, sm2⟩ := up_other _ _ _ (e15.trans e) (all v (List.mem_of_getElem? hv))
        refine gn ?_
        refine ⟨_, rfl, ?_⟩
        refine mk_goodA (a := a) (.inl (SqL.of hp')) sj.fh pr okm fun F2 H2 o st ho => ?_
        obtain ⟨s2, B2⟩ := pureB sj Bj st
        have hx2 := hx.up s2.ff
        refine gn ?_
        refine ⟨_, rfl, _, rfl, eq_worlds hx2 ho s2.fh nd okm.ok.nd ?_⟩
        rw [sm1]
        refine ⟨false, rfl, iteF ⟨_, rfl, _, rfl, eq_worlds ho hx2 s2.fh okm.ok.nd nd ?_⟩⟩
        rw [sm2]
        exact ⟨false, rfl, iteF ⟨F2, _, _, rfl, s2, B2, e.trans st.ff⟩⟩
      · rintro _ H' ⟨F', c8, c9, rfl, sj, Bj, e⟩
        exact hu _ _ ⟨F', c8, c9, rfl, sj, Bj, e⟩
    rintro _ H16 ⟨F16, c8, c9, rfl, s16, B16, a16⟩
    have hx16 := hx.up s16.ff
    have hl16 := s16.ff _ _ hl
    obtain ⟨xx, dx, dd, oo, kvs, rfl, w1, w2, w3⟩ := id hx16
    have pos : 0 < xs.length := by rw [len]; exact List.length_pos_iff.mpr okL.ne
    obtain ⟨v0, hv0⟩ : ∃ v, xs[0]? = some v := ⟨_, List.getElem?_eq_getElem pos⟩
    obtain ⟨s0, hs0, q0, _, w0, rfl, hq0, _, _, _⟩ := hp.at hv0
    have ai0 : atI xs 0 = some (.ref q0) := by
      have := at_nat pos
      rw [hv0] at this
      exact this
    show tOp (rEqD K) (tLc (iList K (tLst _)) (gName 11) tYes (tEqA K a.World (sp_eq K a) (WE fun _ _ _ _ => False) (tVar 1) (tVar 11)) [11]) (tOp rRep (tLst (tCons (tC (.bl false)) tNil)) (tC (.int 6))) [some (.ref b), some (.ref xx), some (.ref l), some (.ref z), some (.ref D), c5, c6, c7, c8, c9, none, none] H16 Q
    refine lc_made (F0 := F16) (P := fun F v => ∃ T, Kd K F v T) (MkL.cons (fun _ _ _ e z => by obtain ⟨T, h⟩ := z; exact ⟨T, h.up e⟩) (Mk.ev Ev.c fun F' e => ⟨_, .non⟩) (MkL.cons (fun _ _ _ e z => by obtain ⟨T, h⟩ := z; exact ⟨T, h.up e⟩) (Mk.ev Ev.c fun F' e => ⟨_, .int _⟩) (MkL.cons (fun _ _ _ e z => by obtain ⟨T, h⟩ := z; exact ⟨T, h.up e⟩) (Mk.ev Ev.c fun F' e => ⟨_, .str _⟩) (MkL.cons (fun _ _ _ e z => by obtain ⟨T, h⟩ := z; exact ⟨T, h.up e⟩) (Mk.tup EvL.nil (Nat.le_of_ble_eq_true rfl) fun F' q' e h => ⟨_, .tup (SqT.of h)⟩) (MkL.cons (fun _ _ _ e z => by obtain ⟨T, h⟩ := z; exact ⟨T, h.up e⟩) (Mk.list_of (Ev.var rfl) (.inl (SqL.of hl16)) fun F' q' e h => ⟨_, .lst (SqL.of h)⟩) (MkL.cons (fun _ _ _ e z => by obtain ⟨T, h⟩ := z; exact ⟨T, h.up e⟩) (Mk.ev (Ev.ixL (Ev.var rfl) Ev.c (SqL.of hl16) ai0) fun F' e => ⟨_, .tup (upT e (upT (s16.ff) hq0))⟩) MkL.nil)))))) (fun _ _ _ e z => by obtain ⟨T, h⟩ := z; exact ⟨T, h.up e⟩) (by decide) (Same.refl _) s16.fh fun F17 H17 p17 zs st17 hp17 hz17 all17 => ?_
    obtain ⟨s17, B17⟩ := pureB s16 B16 st17
    refine lc_rest (K := K) s17.fh (SqL.of hp17) (by omega) (fun _ => .bl false) (fun _ => rfl) (fun i v H' Kt hv e kk => ?_) fun F18 H18 D18 st18 hD18 => ?_
    · obtain ⟨T', kd⟩ := all17 v (List.mem_of_getElem? hv)
      exact ⟨_, rfl, _, rfl, xx, dx, _, rfl, e _ _ (st17.ff _ _ w1), kd.rhs e, F17, .ref xx, v, L, rfl, hx16.up st17.ff, e, .inr ⟨T', kd, kk⟩⟩
    obtain ⟨s18, B18⟩ := pureB s17 B17 st18
    rw [hz17] at hD18
    refine ⟨by show 1 ≤ sizeLine; decide, fun p1 hp1 => ?_⟩
    obtain ⟨s19, B19⟩ := newB (o := .lst [.bl false]) s18 B18 hp1
    refine ⟨p1, 6, _, rfl, rfl, upd_same, by decide, by decide, by show 1 * 6 ≤ sizeLine; decide, fun p2 hp2 => ?_⟩
    obtain ⟨s20, B20⟩ := newB (o := .lst (List.replicate (6 : Int).toNat [V.bl false]).flatten) s19 B19 hp2
    have h1 := same_new hp2 (o := .lst (List.replicate (6 : Int).toNat [V.bl false]).flatten) _ _ (same_new hp1 (o := .lst [.bl false]) _ _ (s18.fh _ _ hD18))
    refine ⟨.list ([false, false, false, false, false, false].map PyData.bool), .list ([false, false, false, false, false, false].map PyData.bool), .lst (SqL.of h1) (dp_bools [false, false, false, false, false, false]), .lst (SqL.of upd_same) (dp_bools [false, false, false, false, false, false]), (fl_bools _).sh (by decide), (fl_bools _).sh (by decide), ?_⟩
    rw [eqv_bools]
    exact k _ _ s20 B20
end
end K26

set_option Elab.async false
set_option linter.all false
set_option maxRecDepth 100000
set_option maxHeartbeats 4000000
namespace K26
open PySem PySem.Spec PyProof.Rows L2 Ew
/-! ### rows of pairs, compared -/
def prD (s : Spot × (Int × Int)) : PyData := .tuple [spD s.1, intT [s.2.1, s.2.2]]
theorem dp_prs {K : PySem.W.Frag} {F : Hp} {xs : List V} {L : Prs} (h : PrL K F xs L) : DpAll K F xs (L.map prD) := by
  induction h with
  | nil => exact .nil
  | @cons x s xs L hd t ih =>
    obtain ⟨q, u, wv, rfl, hq, hu, hw, _⟩ := hd
    exact .cons (.tup hq (.cons hu.dp (.cons hw.dp .nil))) ih
theorem eqv_pr (s : Spot × (Int × Int)) : PyData.eqv (prD s) (prD s) = true := by
  unfold prD
  rw [PyData.eqv, PyData.eqvAll, PyData.eqvAll, PyData.eqvAll, eqv_sp, eqv_ints, decide_eq_true rfl, decide_eq_true rfl]
  rfl
theorem eqvAll_prs : ∀ L : Prs, PyData.eqvAll (L.map prD) (L.map prD) = true
  | [] => rfl
  | s :: L => by rw [List.map_cons, PyData.eqvAll, eqv_pr, eqvAll_prs L]; rfl
theorem eqv_prs (L : Prs) : PyData.eqv (.list (L.map prD)) (.list (L.map prD)) = true := by rw [PyData.eqv, eqvAll_prs]
theorem fl_prs {L : Prs} (h : ∀ s ∈ L, PyData.strOk s.1.1 = true) : Fl 3 (.list (L.map prD)) := Fl.lst (FlA.all fun d hd => by
  obtain ⟨s, hs, rfl⟩ := List.mem_map.mp hd
  exact Fl.tup (.cons (fl_sp (h s hs)) (.cons (fl_ints _) .nil)))
section
variable {P : Program} {w : World} {K : PySem.W.Frag} {mg : Str → Option Value} {base : Heap} {a : Ad}
/-- World(row) of a good row that is still written later -/
theorem mk_raw {F H : Hp} {R : Addr} {xs : List V} {L : Prs} {Q : Addr → Hp → Prop} {E : XK} (hR : H R = some (.lst xs)) (hf : Same F H) (pr : PrL K F xs L) (ok : OkR L) (k : ∀ F' H' o, Stp F H F' H' → Wd K a.World F' (.ref o) L → Q o H') :
    ∀ o d, H o = none → H d = none → d ≠ o → sp_Winit K a (.ref o :: [.ref R]) (upd (upd H d (.own o)) o (.ins a.World d [])) (fun v H2 => v = .non ∧ Q o H2) E := by
  have l := pr.len
  have len := ok.len
  have ne : xs ≠ [] := fun z => by
    rw [z] at l
    exact ok.ne (List.length_eq_zero_iff.mp l.symm)
  refine mk_wdG (Rt K F) (Q := fun v H => match v with | .ref o => Q o H | _ => False) (F := H) (xs := xs) (L := L) (.inl (SqL.of hR)) (Same.refl _) (by omega) ⟨by omega, fun j s hs => ?_⟩ ok.ok ok.str (fun _ _ F' H' z s2 gz => ?_) (fun x hx => ?_) (fun hx => ?_)
  · obtain ⟨x, hx, q, u, wv, rfl, h2, h3, h4, _⟩ := pr.of.2 j s hs
    exact ⟨_, hx, q, u, wv, rfl, upT hf h2, h3.up hf, h4.up hf, h4⟩
  · obtain ⟨x', dx', d', o', kvs', rfl, g1, g2, g3, n1, n2, g5⟩ := gz
    have fx : F x' = none := hf.free n1
    have fd : F d' = none := hf.free n2
    have nxd : x' ≠ d' := fun z => by rw [z, g2] at g1; cases g1
    have fx' : (upd F d' (.frz o' (.dT kvs'))) x' = none := by rw [upd_ne nxd]; exact fx
    have ff : Same F (upd (upd F d' (.frz o' (.dT kvs'))) x' (.ins a.World dx' [("_values", .ref d')])) := (same_new fd).trans (same_new fx')
    refine k (upd (upd F d' (.frz o' (.dT kvs'))) x' (.ins a.World dx' [("_values", .ref d')])) H' x' ⟨ff, fun b u e => ?_, fun b u n e => s2.same _ _ e, fun b n e => ?_⟩ ⟨x', dx', d', o', kvs', rfl, upd_same, by rw [upd_ne (Ne.symm nxd), upd_same], kvs_with g3 g5 ff⟩
    · by_cases z1 : b = x'
      · subst z1
        rw [upd_same] at e
        rw [← e]
        exact s2.fh _ _ g1
      · rw [upd_ne z1] at e
        by_cases z2 : b = d'
        · subst z2
          rw [upd_same] at e
          rw [← e]
          exact s2.fh _ _ g2
        · rw [upd_ne z2] at e
          exact s2.same _ _ (hf _ _ e)
    · rw [upd_ne (fun z => e (by rw [z]; exact n1)), upd_ne (fun z => e (by rw [z]; exact n2))]
      exact n
  · have := (List.getElem?_eq_some_iff.mp hx).1
    omega
  · rcases hx with hx | hx
    · omega
    · exact absurd hx ne
end
end K26

set_option Elab.async false
set_option linter.all false
set_option maxRecDepth 100000
set_option maxHeartbeats 4000000
namespace K26
open PySem PySem.Spec PyProof.Rows L2 Ew
theorem OkW.sub {L M : Prs} (h : OkW L) (s : M.Sublist L) (hd : M[0]? = L[0]?) : OkW M := by
  have r := h.r.sub ((s.map (·.1)).nodup h.ok.nd) (fun x hx => s.subset hx) hd (by have := s.length_le; have := h.len; omega)
  exact ⟨r.ok, fun x hx => h.fine x (s.subset hx), r.str, r.ne, r.len⟩
theorem MkL.raw {F0 : Hp} {σ : L2.St} {ts : TA} {n : Nat} {P : Hp → V → Prop} {F H : Hp} {Q : VK} (h : MkL F0 σ ts n P) (hn : n ≤ 1000) (e : Same F0 F) (e1 : Same F H) (k : ∀ F' H' p zs, Stp F H F' H' → H' p = none → zs.length = n → (∀ v ∈ zs, P F' v) → Q (.ref p) (upd H' p (.lst zs))) : tLst ts σ H Q :=
  h F H _ e e1 fun F1 H1 zs s1 hl hv => ⟨by rw [sizeLine_eq]; omega, fun q hq => k F1 H1 q zs s1 hq hl hv⟩
/-- three things to ask a world for -/
def CaseS (K : PySem.W.Frag) (L : Prs) (F : Hp) (v : V) : Prop := ∃ q u w t o1 o2, v = .ref q ∧ SqT K F q [u, w, t] ∧ At K F u L o1 ∧ At K F w L o2 ∧ At K F t L none ∧ Told K F t ∧ ((o1 = none ∧ t = u) ∨ ∃ r, o1 = some r ∧ o2 = none ∧ t = w)
theorem up_cases {K : PySem.W.Frag} {L : Prs} : Up (CaseS K L) := fun F F' v e h => by
  obtain ⟨q, u, w, t, o1, o2, h1, h2, h3, h4, h5, h6, h7⟩ := h
  exact ⟨q, u, w, t, o1, o2, h1, upT e h2, h3.up e, h4.up e, h5.up e, h6.up e, h7⟩
theorem told_spot {K : PySem.W.Frag} {F : Hp} {q : Addr} {p : Spot} (h : F q = some (.tup (spV p))) (hn : Nm p.1) (h1 : p.2.1.natAbs.log2 < 1920) (h2 : p.2.2.natAbs.log2 < 1920) : Told K F (.ref q) :=
  ⟨q, spD p, rfl, dp_sp (SqT.of h), shw3 hn (.inl ⟨_, rfl, rfl, h1⟩) (.inl ⟨_, rfl, rfl, h2⟩)⟩
/-- rows of pairs, from their items -/
theorem prl_of {K : PySem.W.Frag} {F : Hp} : ∀ {zs : List V} {qs : List Spot}, zs.length = qs.length → (∀ (j : Nat) y, zs[j]? = some y → ∃ p r, qs[j]? = some p ∧ Fine r ∧ Pr K any1 F y (p, r)) → ∃ L : Prs, PrL K F zs L ∧ L.map (·.1) = qs ∧ ∀ s ∈ L, Fine s.2
  | [], [], _, _ => ⟨[], .nil, rfl, fun _ z => nomatch z⟩
  | z :: zs, q :: qs, hl, h => by
    obtain ⟨p, r, e, fr, pr⟩ := h 0 z rfl
    cases e
    obtain ⟨L, h1, h2, h3⟩ := prl_of (zs := zs) (qs := qs) (by simpa using hl) fun j y hy => h (j + 1) y hy
    exact ⟨(q, r) :: L, .cons pr h1, by rw [List.map_cons, h2], fun s hs => by
      rcases List.mem_cons.mp hs with rfl | hs
      · exact fr
      · exact h3 s hs⟩
section
variable {P : Program} {w : World} {K : PySem.W.Frag} {mg : Str → Option Value} {base : Heap} {a : Ad}
def sp_law (K : PySem.W.Frag) : Sp := fun vs H Q _ => ∃ (F : Hp) (p : Addr) (ns : List Int), vs = [.ref p] ∧ SqL K F p (ns.map V.int) ∧ ns.length ≤ 1000 ∧ Same F H ∧ ∀ H', Q (.bl true) H'
theorem b_law (T : Txt K mg a) : BodyG P w K mg base N_law "law" s_law 10 (sp_law K) := fun f cdv A outer s0 H vs Q E hgd hr h => by
    obtain ⟨F, p, ns, rfl, hp, hn, hf, k⟩ := h
    refine ⟨_, ((pss_cons (ps_set (i := 1) sc_law.nd rfl (Or.inr rfl) (pe_f (c__law_bag_of T) (takes_of rfl rfl rfl rfl) hr (by decide) rfl (pa_cons (pv 0) pa_nil)))
 (pss_cons (ps_set (i := 2) sc_law.nd rfl (Or.inl rfl) (pe_f (c__law_some_spots T) (takes_of rfl rfl rfl rfl) hr (by decide) rfl (pa_cons (pv 1) (pa_cons (pe_f (c__law_pick T) (takes_of rfl rfl rfl rfl) hr (by decide) rfl (pa_cons (pv 1) (pa_cons pe_int pa_nil))) pa_nil))))
 (pss_cons (ps_set (i := 3) sc_law.nd rfl (Or.inl rfl) (pe_op op_cat (pe_lst (pa_cons (pe_tup (pa_cons (pe_ix ix_list (pv 2) pe_int (fun _ _ => rfl)) (pa_cons (pe_tup (pa_cons pe_int (pa_cons pe_int pa_nil))) pa_nil))) pa_nil)) (pe_lc (own := [("_law_spot", 17)]) (g := (gName 17)) (by rfl) sc_law.nd (pi_list (pe_slice sl_list (pv 2) (po_some pe_int) po_none)) (blkOk_by (own := [("_law_spot", 17)]) (N := N_law) (sc := defScope s_law) (by decide +kernel)) (fun _ _ _ _ _ => (pg_name (i := 17) sc_law.nd rfl (Or.inl rfl) (hf := .inr rfl))) (fun _ _ _ _ _ => pts_nil) (fun _ _ _ _ _ => (pe_tup (pa_cons (pv 17) (pa_cons (pe_f (c__law_drawn_ratio T) takes0 hr (by decide) rfl (pa_cons (pv 1) pa_nil)) pa_nil)))))))
 (pss_cons (ps_set (i := 4) sc_law.nd rfl (Or.inl rfl) (pe_lst pa_nil))
 (pss_cons (ps_for (passes_of rfl) rfl (pi_list (pe_slice sl_list (pv 3) (po_some pe_int) po_none)) (pg_name (i := 5) sc_law.nd rfl (Or.inl rfl))
 (pss_one (ps_expr (pe_bm PySem.F.plainAttrs_list PySem.F.slot_list_append PySem.F.type_list_append mt_append (pv 4) (pa_cons (pe_tup (pa_cons (pe_ix ix_tup (pv 5) pe_int (fun _ _ => rfl)) (pa_cons (pe_f (c__law_choice T) (takes_of rfl rfl rfl rfl) hr (by decide) rfl (pa_cons (pv 1) (pa_cons (pe_lst (pa_cons (pe_ix ix_tup (pv 5) pe_int (fun _ _ => rfl)) (pa_cons (pe_f (c__law_drawn_ratio T) (takes_of rfl rfl rfl rfl) hr (by decide) rfl (pa_cons (pv 1) pa_nil)) pa_nil))) pa_nil))) pa_nil))) pa_nil)))))
 (pss_cons (ps_set (i := 6) sc_law.nd rfl (Or.inl rfl) (pe_f (c__law_pick T) (takes_of rfl rfl rfl rfl) hr (by decide) rfl (pa_cons (pv 1) (pa_cons pe_int pa_nil))))
 (pss_cons (ps_set (i := 7) sc_law.nd rfl (Or.inl rfl) (pe_callTy call_list_of (by rfl) T.n_list (by decide +kernel) (pa_cons (pv 3) pa_nil)))
 (pss_cons (ps_if (PW.pt (pw_or (pt_cmpR op_eq (pv 6) pe_int (nomark _)) (pw_or1 (pt_cmpR op_eq (pv 6) pe_int (nomark _)))))
 (pss_one (ps_set (i := 4) sc_law.nd rfl (Or.inl rfl) (pe_f (c__law_some T) (takes_of rfl rfl rfl rfl) hr (by decide) rfl (pa_cons (pv 1) (pa_cons (pv 4) pa_nil)))))
 pss_nil)
 (pss_cons (ps_if (PW.pt (pw_or (pt_cmpR op_eq (pv 6) pe_int (nomark _)) (pw_or1 (pt_cmpR op_eq (pv 6) pe_int (nomark _)))))
 (pss_one (ps_set (i := 7) sc_law.nd rfl (Or.inl rfl) (pe_op op_cat (pe_slice sl_list (pv 3) po_none (po_some pe_int)) (pe_f (c__law_some T) (takes_of rfl rfl rfl rfl) hr (by decide) rfl (pa_cons (pv 1) (pa_cons (pe_slice sl_list (pv 3) (po_some pe_int) po_none) pa_nil))))))
 pss_nil)
 (pss_cons (ps_set (i := 4) sc_law.nd rfl (Or.inl rfl) (pe_op op_cat (pe_slice sl_list (pv 3) po_none (po_some pe_int)) (pe_f (c__law_shuffled T) (takes_of rfl rfl rfl rfl) hr (by decide) rfl (pa_cons (pv 1) (pa_cons (pv 4) pa_nil)))))
 (pss_cons (ps_set (i := 8) sc_law.nd rfl (Or.inl rfl) (pe_callTy call_list_of (by rfl) T.n_list (by decide +kernel) (pa_cons (pv 7) pa_nil)))
 (pss_cons (ps_set (i := 9) sc_law.nd rfl (Or.inl rfl) (pe_mkW (mk_World T) (takes_of rfl rfl rfl rfl) hr (by decide) rfl (pa_cons (pv 8) pa_nil)))
 (pss_cons (ps_set (i := 10) sc_law.nd rfl (Or.inl rfl) (pe_mkW (mk_World T) (takes_of rfl rfl rfl rfl) hr (by decide) rfl (pa_cons (pe_callTy call_tuple_of (by rfl) T.n_tuple (by decide +kernel) (pa_cons (pv 4) pa_nil)) pa_nil)))
 (pss_cons (ps_if (PW.pt (pw_or (pt_cmpR (op_neD hr.units) (pv 8) (pv 7) (nomark _)) (pw_or (pt_not (pt_val (pe_f (c__law_told_well T) (takes_of rfl rfl rfl rfl) hr (by decide) rfl (pa_cons (pv 9) (pa_cons (pv 7) pa_nil))))) (pw_or1 (pt_not (pt_val (pe_f (c__law_told_well T) (takes_of rfl rfl rfl rfl) hr (by decide) rfl (pa_cons (pv 10) (pa_cons (pv 4) pa_nil)))))))))
 (pss_one (ps_ret pe_bl))
 pss_nil)
 (pss_cons (ps_asg (pe_tup (pa_cons (pe_f (c__law_stranger T) (takes_of rfl rfl rfl rfl) hr (by decide) rfl (pa_cons (pv 1) (pa_cons (pv 2) pa_nil))) (pa_cons (pe_tup (pa_cons pe_int (pa_cons pe_int pa_nil))) pa_nil))) (pg_sub (pv 8) pe_int set_list))
 (pss_cons (ps_expr (pe_bm PySem.F.plainAttrs_list PySem.F.slot_list_append PySem.F.type_list_append mt_append (pv 8) (pa_cons (pe_ix ix_list (pv 8) pe_int (fun _ _ => rfl)) pa_nil)))
 (pss_cons (ps_if (PW.pt (pw_or (pt_not (pt_val (pe_fG hgd (c__law_mixed_as_due T) (takes_of rfl rfl rfl rfl) hr (by decide) rfl (pa_cons (pv 9) (pa_cons (pv 10) (pa_cons (pv 7) (pa_cons (pv 4) pa_nil))))))) (pw_or1 (pt_not (pt_val (pe_fG hgd (c__law_mixed_as_due T) (takes_of rfl rfl rfl rfl) hr (by decide) rfl (pa_cons (pv 10) (pa_cons (pv 9) (pa_cons (pv 4) (pa_cons (pv 7) pa_nil))))))))))
 (pss_one (ps_ret pe_bl))
 pss_nil)
 (pss_cons (ps_if (PW.pt (pw_or (pt_not (pt_val (pe_f (c__law_gaps_told_well T) (takes_of rfl rfl rfl rfl) hr (by decide) rfl (pa_cons (pv 9) (pa_cons (pv 7) pa_nil))))) (pw_or1 (pt_not (pt_val (pe_f (c__law_gaps_told_well T) (takes_of rfl rfl rfl rfl) hr (by decide) rfl (pa_cons (pv 10) (pa_cons (pv 4) pa_nil))))))))
 (pss_one (ps_ret pe_bl))
 pss_nil)
 (pss_cons (ps_set (i := 11) sc_law.nd rfl (Or.inl rfl) (pe_f (c__law_stranger T) (takes_of rfl rfl rfl rfl) hr (by decide) rfl (pa_cons (pv 1) (pa_cons (pv 2) pa_nil))))
 (pss_cons (ps_set (i := 12) sc_law.nd rfl (Or.inl rfl) (pe_tup (pa_cons (pe_ix ix_tup (pv 11) pe_int (fun _ _ => rfl)) (pa_cons (pe_op op_sub (pe_ix ix_tup (pv 11) pe_int (fun _ _ => rfl)) pe_int) (pa_cons (pe_op op_add (pe_ix ix_tup (pv 11) pe_int (fun _ _ => rfl)) (pe_op op_pow pe_int pe_int)) pa_nil)))))
 (pss_cons (ps_set (i := 13) sc_law.nd rfl (Or.inl rfl) (pe_ix ix_tup (pe_f (c__law_choice T) (takes_of rfl rfl rfl rfl) hr (by decide) rfl (pa_cons (pv 1) (pa_cons (pv 7) pa_nil))) pe_int (fun _ _ => rfl)))
 (pss_cons (ps_set (i := 14) sc_law.nd rfl (Or.inl rfl) (pe_lst (pa_cons (pe_tup (pa_cons (pv 11) (pa_cons (pv 13) (pa_cons (pv 11) pa_nil)))) (pa_cons (pe_tup (pa_cons (pv 13) (pa_cons (pv 11) (pa_cons (pv 11) pa_nil)))) (pa_cons (pe_tup (pa_cons (pv 11) (pa_cons (pv 12) (pa_cons (pv 11) pa_nil)))) (pa_cons (pe_tup (pa_cons (pv 12) (pa_cons (pv 11) (pa_cons (pv 12) pa_nil)))) pa_nil))))))
 (pss_cons (ps_for (passes_of rfl) rfl (pi_list (pe_f (c__law_lookalikes T) (takes_of rfl rfl rfl rfl) hr (by decide) rfl (pa_cons (pv 13) pa_nil))) (pg_name (i := 15) sc_law.nd rfl (Or.inl rfl))
 (pss_one (ps_expr (pe_bm PySem.F.plainAttrs_list PySem.F.slot_list_append PySem.F.type_list_append mt_append (pv 14) (pa_cons (pe_tup (pa_cons (pv 15) (pa_cons (pv 11) (pa_cons (pv 15) pa_nil)))) pa_nil)))))
 (pss_cons (ps_for (passes_of rfl) rfl (pi_list (pv 14)) (pg_name (i := 16) sc_law.nd rfl (Or.inl rfl))
 (pss_one (ps_if (pt_not (pt_val (pe_fG hgd (c__law_strangers_refused T) (takes_of rfl rfl rfl rfl) hr (by decide) rfl (pa_cons (pv 9) (pa_cons (pe_ix ix_tup (pv 16) pe_int (fun _ _ => rfl)) (pa_cons (pe_ix ix_tup (pv 16) pe_int (fun _ _ => rfl)) (pa_cons (pe_ix ix_tup (pv 16) pe_int (fun _ _ => rfl)) pa_nil)))))))
 (pss_one (ps_ret pe_bl))
 pss_nil)))
 (pss_cons (ps_if (PW.pt (pw_or (pt_not (pt_val (pe_f (c__law_equal_as_due T) (takes_of rfl rfl rfl rfl) hr (by decide) rfl (pa_cons (pv 1) (pa_cons (pv 9) (pa_cons (pv 7) pa_nil)))))) (pw_or1 (pt_not (pt_val (pe_f (c__law_equal_as_due T) (takes_of rfl rfl rfl rfl) hr (by decide) rfl (pa_cons (pv 1) (pa_cons (pv 10) (pa_cons (pv 4) pa_nil)))))))))
 (pss_one (ps_ret pe_bl))
 pss_nil)
 (pss_cons (ps_if (PW.pt (pw_or (pt_not (pt_val (pe_fG hgd (c__law_wrong_rows_refused T) (takes_of rfl rfl rfl rfl) hr (by decide) rfl (pa_cons (pv 1) (pa_cons (pv 7) pa_nil))))) (pw_or1 (pt_not (pt_val (pe_f (c__law_spots_known T) (takes_of rfl rfl rfl rfl) hr (by decide) rfl (pa_cons (pv 1) (pa_cons (pv 2) pa_nil))))))))
 (pss_one (ps_ret pe_bl))
 pss_nil)
 (pss_one (ps_ret (pe_and (pe_f (c__law_told_well T) (takes_of rfl rfl rfl rfl) hr (by decide) rfl (pa_cons (pv 9) (pa_cons (pv 7) pa_nil))) (pe_one (pe_f (c__law_told_well T) (takes_of rfl rfl rfl rfl) hr (by decide) rfl (pa_cons (pv 10) (pa_cons (pv 4) pa_nil)))))))))))))))))))))))))))))))))), ?_⟩
    refine ⟨_, rfl, F, p, ns, rfl, hp, hn, hf, fun F1 H1 b st1 B1 => ?_⟩
    refine gn ?_
    try dsimp only
    refine ⟨_, rfl, _, rfl, F1, b, 10, rfl, B1, st1.fh, by decide, sz_of 4 (by decide) (by decide), fun H2 many s2 B2 m0 m1 => ?_⟩
    refine ⟨F1, b, many, rfl, B2, s2.fh, by omega, by omega, ?_⟩
    intro F3 H3 l xs ps s3 B3 hl ss ndp hd0 plen okp
    have s13 := seqB s2 B2 s3
    refine gn ?_
    try dsimp only
    have xl : xs.length ≤ 10 := by rw [ss.1]; exact plen
    have pos : 0 < xs.length := by
      rw [ss.1]
      exact (List.getElem?_eq_some_iff.mp hd0).1
    obtain ⟨v0, hv0, q0, rfl, hq0⟩ := ss.2 0 ground hd0
    have ai0 : atI xs 0 = some (.ref q0) := by
      have := at_nat pos
      rw [hv0] at this
      exact this
    -- the pairs
    refine seq_asg (op_in ?_)
    refine ⟨_, rfl, l, xs, 0, .ref q0, rfl, rfl, SqL.of (s13.fh _ _ hl), ai0, (by show 2 ≤ sizeLine; decide), fun t1 ht1 => ⟨(by show 2 ≤ sizeLine; decide), fun t2 ht2 => ⟨(by show 1 ≤ sizeLine; decide), fun l1 hl1 => ?_⟩⟩⟩
    obtain ⟨s4, B4⟩ := newB (o := .tup [.int 0, .int 1]) s13 B3 ht1
    have e4 := same_new (s13.fh.free ht1) (o := .tup [.int 0, .int 1])
    have h4 : (upd F3 t1 (.tup [.int 0, .int 1])) t1 = some (.tup [.int 0, .int 1]) := upd_same
    obtain ⟨s5, B5⟩ := newB (o := .tup [.ref q0, .ref t1]) s4 B4 ht2
    have e5 := same_new (s4.fh.free ht2) (o := .tup [.ref q0, .ref t1])
    have h5 : (upd (upd F3 t1 (.tup [.int 0, .int 1])) t2 (.tup [.ref q0, .ref t1])) t2 = some (.tup [.ref q0, .ref t1]) := upd_same
    obtain ⟨s6, B6⟩ := newB (o := .lst [.ref t2]) s5 B5 hl1
    have e6 := same_new (s5.fh.free hl1) (o := .lst [.ref t2])
    have h6 : (upd (upd (upd F3 t1 (.tup [.int 0, .int 1])) t2 (.tup [.ref q0, .ref t1])) l1 (.lst [.ref t2])) l1 = some (.lst [.ref t2]) := upd_same
    have a6 : Same F3 (upd (upd (upd F3 t1 (.tup [.int 0, .int 1])) t2 (.tup [.ref q0, .ref t1])) l1 (.lst [.ref t2])) := e4.trans (e5.trans e6)
    have pg : Pr K any1 (upd (upd (upd F3 t1 (.tup [.int 0, .int 1])) t2 (.tup [.ref q0, .ref t1])) l1 (.lst [.ref t2])) (.ref t2) (ground, (0, 1)) := ⟨t2, .ref q0, .ref t1, rfl, SqT.of (e6 _ _ h5), ⟨q0, rfl, a6 _ _ hq0⟩, ⟨t1, rfl, SqT.of (e6 _ _ (e5 _ _ h4))⟩, trivial⟩
    generalize upd (upd (upd F3 t1 (.tup [.int 0, .int 1])) t2 (.tup [.ref q0, .ref t1])) l1 (.lst [.ref t2]) = F6 at *
    refine ⟨_, rfl, 1, rfl, l, xs, rfl, SqL.of (s6.fh _ _ (a6 _ _ hl)), fun l2 hl2 => ?_⟩
    rw [show cutV xs (some 1) none = xs.drop 1 from cut_from xs 1]
    obtain ⟨s7, B7⟩ := newB (o := .lst (xs.drop 1)) s6 B6 hl2
    have e7 := same_new (s6.fh.free hl2) (o := .lst (xs.drop 1))
    have h7 : (upd F6 l2 (.lst (xs.drop 1))) l2 = some (.lst (xs.drop 1)) := upd_same
    generalize upd F6 l2 (.lst (xs.drop 1)) = F7 at *
    refine ⟨l2, rfl, ⟨_, SqL.of (s7.fh _ _ h7)⟩, fun D hD => ?_⟩
    have dl : (xs.drop 1).length = (ps.drop 1).length := by rw [List.length_drop, List.length_drop, ss.1]
    refine lcM (memB K b) (walk_list (xs := xs.drop 1)) s7.fh B7 hD (fun i F y => ∃ p r, (ps.drop 1)[i]? = some p ∧ Fine r ∧ Pr K any1 F y (p, r)) (fun _ _ _ _ e z => by obtain ⟨p, r, h1, h2, h3⟩ := z; exact ⟨p, r, h1, h2, h3.up e⟩) (by rw [List.length_drop]; omega) (fun F' H' e1 e2 => SqL.of (e2 _ _ (e1 _ _ h7))) ?_ ?_
    · rintro i v F' H' H'' Kt Kn hi sj Bj ⟨eH, hv⟩ kk
      subst eH
      obtain ⟨p, hp⟩ : ∃ p, (ps.drop 1)[i]? = some p := ⟨_, List.getElem?_eq_getElem (by rw [← dl]; exact (List.getElem?_eq_some_iff.mp hv).1)⟩
      have hv1 : xs[1 + i]? = some v := by rw [← List.getElem?_drop]; exact hv
      have hp1 : ps[1 + i]? = some p := by rw [← List.getElem?_drop]; exact hp
      obtain ⟨v', ev, spv⟩ := ss.2 (1 + i) p hp1
      rw [hv1] at ev
      cases ev
      refine ⟨rfl, lc_yes ⟨_, rfl, _, rfl, F', b, rfl, Bj, sj.fh, fun F8 H8 rv r s8 B8 hr fr => ⟨by show 2 ≤ sizeLine; decide, fun t ht => ?_⟩⟩⟩
      obtain ⟨s9, B9⟩ := newB (o := .tup [v, rv]) s8 B8 ht
      have e9 := same_new (s8.fh.free ht) (o := .tup [v, rv])
      exact kk _ _ _ s9 B9 ⟨p, r, hp, fr, t, v, rv, rfl, SqT.of upd_same, spv.up (a6.trans (e7.trans (sj.ff.trans (s8.ff.trans e9)))), hr.up e9, trivial⟩
    intro F8 H8 zs s8 B8 hD8 zl hrz
    obtain ⟨L0, pr0, m0', f0⟩ := prl_of (by rw [zl, dl]) hrz
    have s8' := seqB s7 B7 s8
    have a8 : Same F6 F8 := e7.trans s8.ff
    have zsl : zs.length ≤ 10 := by rw [zl, List.length_drop]; omega
    refine ⟨l1, D, _, _, rfl, rfl, s8'.fh _ _ (a8 _ _ h6), s8'.fh _ _ hD8, by rw [sizeLine_eq]; show 1 + zs.length ≤ _; omega, fun lp hlp => ?_⟩
    obtain ⟨s9, B9⟩ := newB (o := .lst ([.ref t2] ++ zs)) s8' B8 hlp
    have e9 := same_new (s8'.fh.free hlp) (o := .lst ([.ref t2] ++ zs))
    have h9 : (upd F8 lp (.lst ([.ref t2] ++ zs))) lp = some (.lst ([.ref t2] ++ zs)) := upd_same
    have prA : PrL K (upd F8 lp (.lst ([.ref t2] ++ zs))) ([.ref t2] ++ zs) ((ground, (0, 1)) :: L0) := PrL.up (Paired.cons (pg.up a8) pr0) e9
    obtain ⟨LA, eLA⟩ : ∃ LA : Prs, LA = (ground, (0, 1)) :: L0 := ⟨_, rfl⟩
    have mapA : LA.map (·.1) = ps := by
      rw [eLA, List.map_cons, m0']
      cases ps with
      | nil => cases hd0
      | cons p ps => cases hd0; rfl
    rw [← eLA] at prA
    have okA : OkW LA := by
      refine ⟨⟨by rw [mapA]; exact ndp, fun s hs => ?_, fun s hs => ?_⟩, fun s hs => ?_, fun s hs => ?_, (by rw [eLA]; exact fun z => (by cases z)), by rw [← List.length_map (f := (·.1)), mapA]; omega⟩
      · rw [eLA] at hs
        rcases List.mem_cons.mp hs with rfl | hs
        · exact ⟨by show (1 : Int) ≤ 1; decide, by show Nat.gcd 0 1 = 1; decide⟩
        · exact (f0 s hs).low
      · rw [eLA] at hs
        cases hs
        exact ⟨rfl, rfl⟩
      · rw [eLA] at hs
        rcases List.mem_cons.mp hs with rfl | hs
        · exact ⟨by show Sz 300 0; unfold Sz; exact Nat.two_pow_pos _, (by show Sz 300 1; unfold Sz; exact Nat.one_lt_two_pow (by decide)) , ⟨by show (1 : Int) ≤ 1; decide, by show Nat.gcd 0 1 = 1; decide⟩⟩
        · exact f0 s hs
      · exact (okp s.1 (by rw [← mapA]; exact List.mem_map.mpr ⟨s, hs, rfl⟩)).nm.1
    have a9 := (a6.trans a8).trans e9
    generalize upd F8 lp (.lst ([.ref t2] ++ zs)) = F9 at *
    refine gn ?_
    try dsimp only
    refine ⟨by show 0 ≤ sizeLine; decide, fun D4 hD4 => ?_⟩
    have h04 : H1 D4 = none := s9.fresh (fun x z => (memB K b).there B9 z) hD4
    have f94 : F9 D4 = none := s9.fh.free hD4
    have n4b : D4 ≠ b := fun z => (memB K b).there B9 z hD4
    obtain ⟨s10, B10⟩ := rawB (o := .lst []) s9 B9 hD4
    have h10 : (upd (upd H8 lp (.lst ([.ref t2] ++ zs))) D4 (.lst [])) D4 = some (.lst []) := upd_same
    obtain ⟨H10, eH10⟩ : ∃ H10, H10 = upd (upd H8 lp (.lst ([.ref t2] ++ zs))) D4 (.lst []) := ⟨_, rfl⟩
    rw [← eH10] at s10 B10 h10 ⊢
    clear eH10 hD4 hlp
    obtain ⟨vs0, evs⟩ : ∃ vs0, vs0 = [V.ref t2] ++ zs := ⟨_, rfl⟩
    rw [← evs] at h9 prA
    have lenA : LA.length ≤ 10 := by rw [← List.length_map (f := (·.1)), mapA]; exact plen
    have okSA : ∀ s ∈ LA, OkS s.1 := fun s hs => okp s.1 (by rw [← mapA]; exact List.mem_map.mpr ⟨s, hs, rfl⟩)
    refine gn ?_
    try dsimp only
    refine seq_with (fun σ' H' => ∃ F' ys M c5, σ' = [some (.ref p), some (.ref b), some (.ref l), some (.ref lp), some (.ref D4), c5, none, none, none, none, none, none, none, none, none, none, none, none] ∧ Sb b F1 H1 F' H' ∧ Bag K b F' H' ∧ Same F9 F' ∧ F' D4 = none ∧ H' D4 = some (.lst ys) ∧ PrL K F' ys M ∧ M.map (·.1) = (LA.drop 1).map (·.1) ∧ ∀ s ∈ M, Fine s.2) (fun u hu => ?_) ?_
    · refine ⟨_, rfl, 1, rfl, lp, vs0, rfl, SqL.of (s10.fh _ _ h9), fun l3 hl3 => ?_⟩
      rw [show cutV vs0 (some 1) none = vs0.drop 1 from cut_from vs0 1]
      obtain ⟨s11, B11, f11, h11, e11, l11⟩ := newD (o := .lst (vs0.drop 1)) s10 B10 f94 h10 hl3
      have prD := PrL.up (Paired.drop 1 prA) e11
      generalize upd F9 l3 (.lst (vs0.drop 1)) = F11 at *
      refine ⟨l3, rfl, ⟨_, SqL.of (s11.fh _ _ l11)⟩, ?_⟩
      refine for_it (walk_list (xs := vs0.drop 1)) (fun j σ' H' => ∃ F' ys M c5, σ' = [some (.ref p), some (.ref b), some (.ref l), some (.ref lp), some (.ref D4), c5, none, none, none, none, none, none, none, none, none, none, none, none] ∧ Sb b F1 H1 F' H' ∧ Bag K b F' H' ∧ Same F11 F' ∧ F' D4 = none ∧ H' D4 = some (.lst ys) ∧ PrL K F' ys M ∧ M.map (·.1) = ((LA.drop 1).take j).map (·.1) ∧ ∀ s ∈ M, Fine s.2) ?_ ?_ ?_ ?_
      · exact ⟨F11, [], [], none, rfl, s11, B11, Same.refl _, f11, h11, .nil, rfl, fun _ z => nomatch z⟩
      · rintro j σ' H' _ ⟨F', _, _, _, _, sj, _, e, _⟩
        exact SqL.of (sj.fh _ _ (e _ _ l11))
      · rintro j v _ H' _ hj ⟨F', ys, M, c5, rfl, sj, Bj, e, fj, hj4, pj, mj, fine⟩ ⟨eH, hv⟩
        subst eH
        obtain ⟨sk, hsk, q, _, wv, rfl, hq, ⟨qs, rfl, hqs⟩, hw, _⟩ := (PrL.up prD e).at hv
        have memk : sk ∈ LA := List.mem_of_mem_drop (List.mem_of_getElem? hsk)
        refine gn ?_
        have hq2 := upT sj.fh hq
        refine ⟨_, rfl, .inl ⟨rfl, ys, SqL.of hj4⟩, _, rfl, q, _, _, _, rfl, rfl, hq2, at0, _, rfl, _, rfl, q, _, _, _, rfl, rfl, hq2, at1, _, rfl, F', b, rfl, Bj, sj.fh, fun F12 H12 rv r s12 B12 hr fr => ⟨by show 2 ≤ sizeLine; decide, fun t ht => ?_⟩⟩
        have h12 := s12.hh D4 _ n4b hj4
        have f12 : F12 D4 = none := s12.nw D4 fj (by rw [hj4]; exact fun z => nomatch z)
        obtain ⟨s13', B13', f13, h13, e13, l13⟩ := newD (o := .lst [wv, rv]) (seqB sj Bj s12) B12 f12 h12 ht
        have hwv := (hw.up s12.ff).up e13
        have hrv := hr.up e13
        have hqs' := e13 _ _ (s12.ff _ _ hqs)
        have pj' := (pj.up s12.ff).up e13
        have ee := (e.trans s12.ff).trans e13
        generalize upd F12 t (.lst [wv, rv]) = F13 at *
        refine ⟨F13, b, .ref t, _, rfl, .inl ⟨t, rfl, SqL.of l13⟩, (by intro z; cases z), (by show 2 ≤ 1000; decide), B13', s13'.fh, fun H14 v9 j9 s14 B14 hv9 => ⟨by show 2 ≤ sizeLine; decide, fun t5 ht5 => ?_⟩⟩
        obtain ⟨r9, hr9, fr9⟩ : ∃ r9, Rt K F13 v9 r9 ∧ Fine r9 := by
          have := List.mem_of_getElem? hv9
          simp only [List.mem_cons, List.not_mem_nil, or_false] at this
          rcases this with rfl | rfl
          · exact ⟨_, hwv, okA.fine sk memk⟩
          · exact ⟨_, hrv, fr⟩
        have h14 := s14.hh D4 _ n4b h13
        obtain ⟨s15, B15, f15, h15, e15, l15⟩ := newD (o := .tup [.ref qs, v9]) (seqB s13' B13' s14) B14 f13 h14 ht5
        have yl : ys.length ≤ 10 := by
          have h1 := pj.len
          have h2 : M.length = ((LA.drop 1).take j).length := by rw [← List.length_map (f := (·.1)), mj, List.length_map]
          rw [List.length_take, List.length_drop] at h2
          omega
        obtain ⟨s16, B16⟩ := mutB (o := .lst (ys ++ [.ref t5])) s15 B15 f15 h04 n4b
        have tk : (LA.drop 1).take (j + 1) = (LA.drop 1).take j ++ [sk] := by rw [List.take_add_one, hsk]; rfl
        exact ⟨D4, ys, .ref t5, rfl, rfl, h15, by rw [sizeLine_eq]; omega, _, ys ++ [.ref t5], M ++ [(sk.1, r9)], _, rfl, s16, B16, ee.trans e15, f15, upd_same, (pj'.up e15).snoc ⟨t5, .ref qs, v9, rfl, SqT.of l15, ⟨qs, rfl, e15 _ _ hqs'⟩, hr9.up e15, trivial⟩, by rw [tk, List.map_append, List.map_append, mj]; rfl, fun s hs => by
          rcases List.mem_append.mp hs with hs | hs
          · exact fine s hs
          · rw [List.mem_singleton.mp hs]; exact fr9⟩
      · rintro _ H' ⟨F', ys, M, c5, rfl, sj, Bj, e, fj, hj4, pj, mj, fine⟩
        have : (vs0.drop 1).length = (LA.drop 1).length := by rw [List.length_drop, List.length_drop, prA.len]
        rw [this, List.take_length] at mj
        exact hu _ _ ⟨F', ys, M, c5, rfl, sj, Bj, e11.trans e, fj, hj4, pj, mj, fine⟩
    clear s10 B10 h10 f94 s9 B9 s8 s8' B8 hD8 s7 B7 s6 B6 s5 B5 s4 B4 s13 B3 s3 s2 B2 hl1 ht1 ht2 hl2 hD a8 a6 e9 h4 h5 h6 h7 e4 e5 e6 e7 pg
    rintro _ H10 ⟨F10, ys, M, c5, rfl, s10, B10, e10, f10, h10, pM, mM, fineM⟩
    obtain ⟨s11, B11⟩ := freezeB s10 B10 f10 h04 n4b h10
    have e11 := same_new f10 (o := .lst ys)
    have d11 : (upd F10 D4 (.lst ys)) D4 = some (.lst ys) := upd_same
    have pM := pM.up e11
    have a11 := e10.trans e11
    generalize upd F10 D4 (.lst ys) = F11 at *
    refine ⟨_, rfl, F11, b, 5, rfl, B11, s11.fh, by decide, sz_of 3 (by decide) (by decide), fun H12 way s12 B12 w0 w1 => ?_⟩
    have s12' := seqB s11 B11 s12
    refine gn ?_
    try dsimp only
    refine ⟨_, rfl, lp, vs0, rfl, .inl (SqL.of (s12.fh _ _ (a11 _ _ h9))), fun lm hlm => ?_⟩
    obtain ⟨s13, B13⟩ := newB (o := .lst vs0) s12' B12 hlm
    have e13 := same_new (s12'.fh.free hlm) (o := .lst vs0)
    have dm : (upd F11 lm (.lst vs0)) lm = some (.lst vs0) := upd_same
    have d13 := e13 _ _ d11
    have pM := pM.up e13
    have a13 := a11.trans e13
    generalize upd F11 lm (.lst vs0) = F13 at *
    refine gn ?_
    try dsimp only
    have prM0 : PrL K F13 vs0 LA := prA.up a13
    have len0 : vs0.length ≤ 10 := by rw [prA.len]; exact lenA
    have lenM : M.length ≤ 10 := by
      rw [← List.length_map (f := (·.1)), mM, List.length_map, List.length_drop]; omega
    -- others: some of them
    refine seq_with (fun σ' H' => ∃ F' D ys M, σ' = [some (.ref p), some (.ref b), some (.ref l), some (.ref lp), some (.ref D), c5, some (.int way), some (.ref lm), none, none, none, none, none, none, none, none, none, none] ∧ Sb b F1 H1 F' H' ∧ Bag K b F' H' ∧ Same F13 F' ∧ F' D = some (.lst ys) ∧ PrL K F' ys M ∧ (M.map (·.1)).Sublist ((LA.drop 1).map (·.1)) ∧ M.length ≤ 10 ∧ ∀ s ∈ M, Fine s.2) (fun u hu => ?_) ?_
    · have skip := hu _ _ ⟨F13, D4, ys, M, rfl, s13, B13, Same.refl _, d13, pM, by rw [mM]; exact List.Sublist.refl _, lenM, fineM⟩
      refine ⟨_, rfl, rfl, _, rfl, ?_⟩
      have go : ∀ {Q' : VK} {E' : XK}, (∀ F' D ys M H', Sb b F1 H1 F' H' ∧ Bag K b F' H' ∧ Same F13 F' ∧ F' D = some (.lst ys) ∧ PrL K F' ys M ∧ (M.map (·.1)).Sublist ((LA.drop 1).map (·.1)) ∧ M.length ≤ 10 ∧ (∀ s ∈ M, Fine s.2) → Q' (.ref D) H') → sp__law_some K [.ref b, .ref D4] (upd H12 lm (.lst vs0)) Q' E' := by
        intro Q' E' kk
        refine ⟨F13, b, D4, ys, rfl, B13, s13.fh, SqL.of d13, by have := pM.len; omega, fun F' H' D ys' s B hD sub => ?_⟩
        obtain ⟨M', sub', pr'⟩ := Paired.sublist sub pM
        exact kk F' D ys' M' H' ⟨seqB s13 B13 s, B, s.ff, hD, PrL.up pr' s.ff, by rw [← mM]; exact sub'.map _, by have := sub'.length_le; omega, fun s hs => fineM s (sub'.subset hs)⟩
      by_cases w_1 : V.int way = V.int 1
      · rw [decide_eq_true w_1]
        exact iteT (iteT ⟨_, rfl, _, rfl, arg2 (sp__law_some K) (go fun F' D ys M H' c => hu _ _ ⟨F', D, ys, M, rfl, c⟩)⟩)
      rw [decide_eq_false w_1]
      refine iteF ⟨_, rfl, rfl, _, rfl, ?_⟩
      by_cases w_2 : V.int way = V.int 2
      · rw [decide_eq_true w_2]
        exact iteT ⟨_, rfl, _, rfl, arg2 (sp__law_some K) (go fun F' D ys M H' c => hu _ _ ⟨F', D, ys, M, rfl, c⟩)⟩
      · rw [decide_eq_false w_2]
        exact iteF skip
    clear s13 B13 s12' s12 B12 hlm s11 B11
    rintro _ H14 ⟨F14, D, ys', M', rfl, s14, B14, a14, hD, pM', sM', lM', fM'⟩
    have hlp14 := a14 _ _ (a13 _ _ h9)
    have hlm14 := a14 _ _ dm
    have prM := prM0.up a14
    -- mine: some of them
    refine seq_with (fun σ' H' => ∃ F' Dm xsm LM, σ' = [some (.ref p), some (.ref b), some (.ref l), some (.ref lp), some (.ref D), c5, some (.int way), some (.ref Dm), none, none, none, none, none, none, none, none, none, none] ∧ Sb b F1 H1 F' H' ∧ Bag K b F' H' ∧ Same F14 F' ∧ F' Dm = some (.lst xsm) ∧ PrL K F' xsm LM ∧ LM.Sublist LA ∧ LM[0]? = LA[0]?) (fun u hu => ?_) ?_
    · have skip := hu _ _ ⟨F14, lm, vs0, LA, rfl, s14, B14, Same.refl _, hlm14, prM, List.Sublist.refl _, rfl⟩
      have go : ∀ {σ : L2.St} {Q' : VK}, σ[1]? = some (some (.ref b)) → σ[3]? = some (some (.ref lp)) → (∀ F' Dm xsm LM H', Sb b F1 H1 F' H' ∧ Bag K b F' H' ∧ Same F14 F' ∧ F' Dm = some (.lst xsm) ∧ PrL K F' xsm LM ∧ LM.Sublist LA ∧ LM[0]? = LA[0]? → Q' (.ref Dm) H') →
          tOp rCat (tSl (rSlL K) (tVar 3) tNoPart (tPart (tC (.int 1)))) (tF (sp__law_some K) [] (fun cls d x H => E cls d H) (tCons (tVar 1) (tCons (tSl (rSlL K) (tVar 3) (tPart (tC (.int 1))) tNoPart) tNil))) σ H14 Q' := by
        intro σ Q' g1 g3 kk
        refine ⟨_, g3, 1, rfl, lp, vs0, rfl, SqL.of (s14.fh _ _ hlp14), fun p1 hp1 => ?_⟩
        rw [show cutV vs0 none (some 1) = vs0.take 1 from cut_to vs0 1]
        obtain ⟨s1, B1⟩ := newB (o := .lst (vs0.take 1)) s14 B14 hp1
        have e1 := same_new (s14.fh.free hp1) (o := .lst (vs0.take 1))
        have f1 : (upd F14 p1 (.lst (vs0.take 1))) p1 = some (.lst (vs0.take 1)) := upd_same
        refine ⟨_, g1, _, g3, 1, rfl, lp, vs0, rfl, SqL.of (s1.fh _ _ (e1 _ _ hlp14)), fun p2 hp2 => ?_⟩
        rw [show cutV vs0 (some 1) none = vs0.drop 1 from cut_from vs0 1]
        obtain ⟨s2, B2⟩ := newB (o := .lst (vs0.drop 1)) s1 B1 hp2
        have e2 := same_new (s1.fh.free hp2) (o := .lst (vs0.drop 1))
        refine ⟨_, b, p2, vs0.drop 1, rfl, B2, s2.fh, SqL.of upd_same, by rw [List.length_drop]; omega, fun F' H' Dd zz s3 B3 hDd sub => ?_⟩
        obtain ⟨M3, sub3, pr3⟩ := Paired.sublist sub (Paired.drop 1 prM)
        have s3' := seqB s2 B2 s3
        have zl := sub.length_le
        rw [List.length_drop] at zl
        have e3 := e1.trans (e2.trans s3.ff)
        refine ⟨p1, Dd, _, _, rfl, rfl, s3'.fh _ _ (s3.ff _ _ (e2 _ _ f1)), s3'.fh _ _ hDd, by rw [sizeLine_eq, List.length_take]; omega, fun p4 hp4 => ?_⟩
        obtain ⟨s4, B4⟩ := newB (o := .lst (vs0.take 1 ++ zz)) s3' B3 hp4
        have e4 := same_new (s3'.fh.free hp4) (o := .lst (vs0.take 1 ++ zz))
        refine kk _ p4 _ (LA.take 1 ++ M3) _ ⟨s4, B4, e3.trans e4, upd_same, PrL.up (Paired.app (Paired.take 1 prM) pr3) (e3.trans e4), ?_, ?_⟩
        · have := (List.Sublist.refl (LA.take 1)).append sub3
          rwa [List.take_append_drop] at this
        · rw [eLA]; rfl
      refine ⟨_, rfl, rfl, _, rfl, ?_⟩
      by_cases w_2 : V.int way = V.int 2
      · rw [decide_eq_true w_2]
        exact iteT (iteT (go rfl rfl fun F' Dm xsm LM H' c => hu _ _ ⟨F', Dm, xsm, LM, rfl, c⟩))
      rw [decide_eq_false w_2]
      refine iteF ⟨_, rfl, rfl, _, rfl, ?_⟩
      by_cases w_3 : V.int way = V.int 3
      · rw [decide_eq_true w_3]
        exact iteT (go rfl rfl fun F' Dm xsm LM H' c => hu _ _ ⟨F', Dm, xsm, LM, rfl, c⟩)
      · rw [decide_eq_false w_3]
        exact iteF skip
    clear s14 B14
    rintro _ H15 ⟨F15, Dm, xsm, LM, rfl, s15, B15, a15, hDm, prm, subm, hdm⟩
    have okM : OkW LM := okA.sub subm hdm
    have lenLM : LM.length ≤ 10 := by have := subm.length_le; omega
    have okSM : ∀ s ∈ LM, OkS s.1 := fun s hs => okSA s (subm.subset hs)
    have hlp15 := a15 _ _ hlp14
    have hD15 := a15 _ _ hD
    -- others: in another order
    refine ⟨_, rfl, 1, rfl, lp, vs0, rfl, SqL.of (s15.fh _ _ hlp15), fun p1 hp1 => ?_⟩
    rw [show cutV vs0 none (some 1) = vs0.take 1 from cut_to vs0 1]
    obtain ⟨s16, B16⟩ := newB (o := .lst (vs0.take 1)) s15 B15 hp1
    have e16 := same_new (s15.fh.free hp1) (o := .lst (vs0.take 1))
    have f16 : (upd F15 p1 (.lst (vs0.take 1))) p1 = some (.lst (vs0.take 1)) := upd_same
    refine ⟨_, rfl, _, rfl, _, b, D, ys', rfl, B16, s16.fh, SqL.of (e16 _ _ hD15), by have := pM'.len; omega, fun F17 H17 D3 zz s17 B17 hD3 pm => ?_⟩
    obtain ⟨M3, pm3, pr3⟩ := Paired.perm pm pM'
    have s17' := seqB s16 B16 s17
    have zl : zz.length ≤ 10 := by rw [pm.length_eq]; have := pM'.len; omega
    refine ⟨p1, D3, _, _, rfl, rfl, s17'.fh _ _ (s17.ff _ _ f16), s17'.fh _ _ hD3, by rw [sizeLine_eq, List.length_take]; omega, fun lo hlo => ?_⟩
    obtain ⟨s18, B18⟩ := newB (o := .lst (vs0.take 1 ++ zz)) s17' B17 hlo
    have e18 := same_new (s17'.fh.free hlo) (o := .lst (vs0.take 1 ++ zz))
    have hlo18 : (upd F17 lo (.lst (vs0.take 1 ++ zz))) lo = some (.lst (vs0.take 1 ++ zz)) := upd_same
    have a18 : Same F15 (upd F17 lo (.lst (vs0.take 1 ++ zz))) := e16.trans (s17.ff.trans e18)
    obtain ⟨LO, eLO⟩ : ∃ LO : Prs, LO = LA.take 1 ++ M3 := ⟨_, rfl⟩
    have prO : PrL K (upd F17 lo (.lst (vs0.take 1 ++ zz))) (vs0.take 1 ++ zz) LO := by
      rw [eLO]
      exact Paired.app (PrL.up (Paired.take 1 prM) (a15.trans a18)) (PrL.up pr3 (a15.trans a18))
    have permO : (LO.map (·.1)).Perm ((LA.take 1).map (·.1) ++ M'.map (·.1)) := by
      rw [eLO, List.map_append]
      exact (pm3.map (·.1)).append_left _
    have subO : ((LA.take 1).map (·.1) ++ M'.map (·.1)).Sublist (LA.map (·.1)) := by
      have h1 := (List.Sublist.refl ((LA.take 1).map (·.1))).append sM'
      have h2 : (LA.take 1).map (·.1) ++ (LA.drop 1).map (·.1) = LA.map (·.1) := by rw [← List.map_append, List.take_append_drop]
      rwa [h2] at h1
    have memO : ∀ s ∈ LO, s.1 ∈ LA.map (·.1) := fun s hs => subO.subset (permO.mem_iff.mp (List.mem_map.mpr ⟨s, hs, rfl⟩))
    have fineO : ∀ s ∈ LO, Fine s.2 := fun s hs => by
      rw [eLO] at hs
      rcases List.mem_append.mp hs with hs | hs
      · exact okA.fine s (List.mem_of_mem_take hs)
      · exact fM' s (pm3.mem_iff.mp hs)
    have hdO : LO[0]? = LA[0]? := by rw [eLO, eLA]; rfl
    have lenO : LO.length ≤ 10 := by
      have h1 := permO.length_eq
      have h2 := subO.length_le
      rw [List.length_map] at h1 h2
      omega
    have okO : OkW LO := ⟨⟨permO.nodup_iff.mpr (subO.nodup okA.ok.nd), fun s hs => (fineO s hs).low, fun s hs => okA.ok.hd s (by rw [← hdO]; exact hs)⟩, fineO, fun s hs => (okp s.1 (by rw [← mapA]; exact memO s hs)).nm.1, (fun z => by rw [z, eLA] at hdO; cases hdO), by omega⟩
    have okSO : ∀ s ∈ LO, OkS s.1 := fun s hs => okp s.1 (by rw [← mapA]; exact memO s hs)
    obtain ⟨vsO, evO⟩ : ∃ vsO, vsO = vs0.take 1 ++ zz := ⟨_, rfl⟩
    rw [← evO] at hlo18 prO s18 B18 a18 e18 ⊢
    generalize upd F17 lo (.lst vsO) = F18 at *
    refine gn ?_
    try dsimp only
    have hDm18 := a18 _ _ hDm
    refine ⟨_, rfl, Dm, xsm, rfl, .inl (SqL.of (s18.fh _ _ hDm18)), fun R hR => ?_⟩
    have fR : F18 R = none := s18.fh.free hR
    have nRb : R ≠ b := fun z => (memB K b).there B18 z hR
    have h0R : H1 R = none := s18.fresh (fun x z => (memB K b).there B18 z) hR
    obtain ⟨s19, B19⟩ := rawB (o := .lst xsm) s18 B18 hR
    have hR19 : (upd (upd H17 lo (.lst vsO)) R (.lst xsm)) R = some (.lst xsm) := upd_same
    obtain ⟨H19, eH19⟩ : ∃ H19, H19 = upd (upd H17 lo (.lst vsO)) R (.lst xsm) := ⟨_, rfl⟩
    rw [← eH19] at s19 B19 hR19 ⊢
    clear eH19 hR hlo s18 B18 s17' s17 B17 hp1 s16 B16 s15 B15
    have prm18 := prm.up a18
    refine gn ?_
    try dsimp only
    refine ⟨_, rfl, ?_⟩
    refine mk_raw (a := a) hR19 s19.fh prm18 okM.r fun F20 H20 x1 st20 wx1 => ?_
    obtain ⟨s20, B20⟩ := pureB s19 B19 st20
    have hR20 := st20.hh R _ id hR19
    have fR20 : F20 R = none := st20.nw R fR (by rw [hR19]; exact fun z => nomatch z)
    have hlo20 := st20.ff _ _ hlo18
    have hDm20 := st20.ff _ _ hDm18
    refine gn ?_
    try dsimp only
    refine ⟨_, rfl, lo, vsO, rfl, .inl ⟨SqL.of (s20.fh _ _ hlo20), fun t ht => ?_⟩⟩
    obtain ⟨s21, B21, fR21, hR21, e21, l21⟩ := newD (o := .tup vsO) s20 B20 fR20 hR20 ht
    have prO21 := (prO.up st20.ff).up e21
    refine mk_goodA (a := a) (.inr (SqT.of l21)) s21.fh prO21 okO.r fun F22 H22 x2 st22 wx2 => ?_
    obtain ⟨s22, B22⟩ := pureB s21 B21 st22
    have hR22 := st22.hh R _ id hR21
    have fR22 : F22 R = none := st22.nw R fR21 (by rw [hR21]; exact fun z => nomatch z)
    have a22 : Same F18 F22 := st20.ff.trans (e21.trans st22.ff)
    have wx1 := wx1.up (e21.trans st22.ff)
    have hlo22 := a22 _ _ hlo18
    have hDm22 := a22 _ _ hDm18
    have prm22 := prm18.up a22
    have prO22 := prO.up a22
    clear hlo20 hDm20 s21 B21 hR21 fR21 ht s20 B20 hR20 fR20 s19 B19 hR19 prO21
    refine gn ?_
    try dsimp only
    refine ⟨_, rfl, _, rfl, .list (LM.map prD), .list (LM.map prD), .lst (SqL.of hR22) (dp_prs (prm22.up s22.fh)), .lst (SqL.of (s22.fh _ _ hDm22)) (dp_prs (prm22.up s22.fh)), (fl_prs okM.str).sh (by decide), (fl_prs okM.str).sh (by decide), ?_⟩
    rw [eqv_prs]
    refine ⟨_, rfl, iteF ?_⟩
    refine ⟨_, rfl, _, rfl, F22, .ref x1, Dm, xsm, LM, rfl, wx1, SqL.of hDm22, prm22, okM, s22.fh, fun F23 H23 st23 => ⟨true, rfl, iteF ?_⟩⟩
    obtain ⟨s23, B23⟩ := pureB s22 B22 st23
    refine ⟨_, rfl, _, rfl, F23, .ref x2, lo, vsO, LO, rfl, wx2.up st23.ff, SqL.of (st23.ff _ _ hlo22), prO22.up st23.ff, okO, s23.fh, fun F24 H24 st24 => ⟨true, rfl, iteF ?_⟩⟩
    obtain ⟨s24, B24⟩ := pureB s23 B23 st24
    have a24 : Same F22 F24 := st23.ff.trans st24.ff
    have hR24 := st24.hh R _ id (st23.hh R _ id hR22)
    have fR24 : F24 R = none := st24.nw R (st23.nw R fR22 (by rw [hR22]; exact fun z => nomatch z)) (by rw [st23.hh R _ id hR22]; exact fun z => nomatch z)
    have tot : Same F3 F24 := a9.trans (a13.trans (a14.trans (a15.trans (a18.trans (a22.trans a24)))))
    have nps : ps ≠ [] := fun z => by rw [z] at hd0; cases hd0
    refine ⟨_, rfl, _, rfl, F24, b, l, xs, ps, rfl, B24, s24.fh, SqL.of (tot _ _ hl), ss.up tot, nps, by omega, okp, fun F25 H25 sv sp s25 B25 hsv nin str => ⟨by show 2 ≤ sizeLine; decide, fun t3 ht3 => ⟨by show 2 ≤ sizeLine; decide, fun t4 ht4 => ?_⟩⟩⟩
    have hR25 := s25.hh R _ nRb hR24
    have fR25 : F25 R = none := s25.nw R fR24 (by rw [hR24]; exact fun z => nomatch z)
    obtain ⟨s26, B26, fR26, hR26, e26, l26⟩ := newD (o := .tup [.int 1, .int 1]) (seqB s24 B24 s25) B25 fR25 hR25 ht3
    obtain ⟨s27, B27, fR27, hR27, e27, l27⟩ := newD (o := .tup [sv, .ref t3]) s26 B26 fR26 hR26 ht4
    obtain ⟨y0, xr, exm⟩ : ∃ y0 xr, xsm = y0 :: xr := by
      cases hh : xsm with
      | nil =>
        rw [hh] at prm
        have := prm.len
        exact absurd (List.length_eq_zero_iff.mp this.symm) okM.ne
      | cons y0 xr => exact ⟨y0, xr, rfl⟩
    have lxr : xr.length ≤ 10 := by
      have := prm.len
      rw [exm] at this
      have h2 : (y0 :: xr).length = xr.length + 1 := rfl
      omega
    have set0 : ∀ v, xsm.set 0 v = v :: xr := fun v => by rw [exm]; rfl
    refine ⟨_, rfl, R, xsm, 0, 0, rfl, rfl, hR27, by rw [exm]; exact ix_nat (n := (y0 :: xr).length) (i := 0) (Nat.succ_pos _), ?_⟩
    rw [set0]
    obtain ⟨s28, B28⟩ := mutB (o := .lst (.ref t4 :: xr)) s27 B27 fR27 h0R nRb
    have a28 := (s25.ff.trans e26).trans e27
    generalize upd (upd F25 t3 (.tup [.int 1, .int 1])) t4 (.tup [sv, .ref t3]) = F28 at *
    have hR28 : (upd (upd (upd H25 t3 (.tup [.int 1, .int 1])) t4 (.tup [sv, .ref t3])) R (.lst (.ref t4 :: xr))) R = some (.lst (.ref t4 :: xr)) := upd_same
    obtain ⟨H28, eH28⟩ : ∃ H28, H28 = upd (upd (upd H25 t3 (.tup [.int 1, .int 1])) t4 (.tup [sv, .ref t3])) R (.lst (.ref t4 :: xr)) := ⟨_, rfl⟩
    rw [← eH28] at s28 B28 hR28 ⊢
    clear eH28 ht3 ht4 s27 B27 hR27 s26 B26 hR26 s25 B25 hR25 s24 B24 hR24 s23 B23 s22 B22 hR22
    try dsimp only
    refine ⟨_, rfl, .inl ⟨rfl, _, SqL.of hR28⟩, _, rfl, R, _, 0, .ref t4, rfl, rfl, SqL.of hR28, at_zero, R, _, .ref t4, rfl, rfl, hR28, by rw [sizeLine_eq]; show xr.length + 1 < _; omega, ?_⟩
    obtain ⟨s29, B29⟩ := mutB (o := .lst ((.ref t4 :: xr) ++ [.ref t4])) s28 B28 fR27 h0R nRb
    have a29 := a24.trans a28
    have wx1 := wx1.up a29
    have wx2 := wx2.up a29
    have hDm29 := a29 _ _ hDm22
    have hlo29 := a29 _ _ hlo22
    have prm29 := prm22.up a29
    have prO29 := prO22.up a29
    clear s28 B28 hR28
    try dsimp only
    refine ⟨_, rfl, _, rfl, _, rfl, _, rfl, F28, .ref x1, .ref x2, Dm, lo, xsm, vsO, LM, LO, rfl, wx1, wx2, SqL.of hDm29, SqL.of hlo29, prm29, prO29, okM, okO, okSM, okSO, s29.fh, fun F30 H30 st30 => ⟨true, rfl, iteF ?_⟩⟩
    obtain ⟨s30, B30⟩ := pureB s29 B29 st30
    refine ⟨_, rfl, _, rfl, _, rfl, _, rfl, F30, .ref x2, .ref x1, lo, Dm, vsO, xsm, LO, LM, rfl, wx2.up st30.ff, wx1.up st30.ff, SqL.of (st30.ff _ _ hlo29), SqL.of (st30.ff _ _ hDm29), prO29.up st30.ff, prm29.up st30.ff, okO, okM, okSO, okSM, s30.fh, fun F31 H31 st31 => ⟨true, rfl, iteF ?_⟩⟩
    obtain ⟨s31, B31⟩ := pureB s30 B30 st31
    have a31 := st30.ff.trans st31.ff
    refine ⟨_, rfl, _, rfl, F31, .ref x1, Dm, xsm, LM, rfl, wx1.up a31, SqL.of (a31 _ _ hDm29), prm29.up a31, okM, s31.fh, fun F32 H32 st32 => ⟨true, rfl, iteF ?_⟩⟩
    obtain ⟨s32, B32⟩ := pureB s31 B31 st32
    refine ⟨_, rfl, _, rfl, F32, .ref x2, lo, vsO, LO, rfl, wx2.up (a31.trans st32.ff), SqL.of (st32.ff _ _ (a31 _ _ hlo29)), prO29.up (a31.trans st32.ff), okO, s32.fh, fun F33 H33 st33 => ⟨true, rfl, iteF ?_⟩⟩
    obtain ⟨s33, B33⟩ := pureB s32 B32 st33
    have a33 := a31.trans (st32.ff.trans st33.ff)
    have tot33 : Same F3 F33 := tot.trans (a28.trans a33)
    have prm33 := prm29.up a33
    have prO33 := prO29.up a33
    have wx1 := wx1.up a33
    have wx2 := wx2.up a33
    have hDm33 := a33 _ _ hDm29
    have hlo33 := a33 _ _ hlo29
    clear s32 B32 s31 B31 s30 B30 s29 B29
    refine ⟨_, rfl, _, rfl, F33, b, l, xs, ps, rfl, B33, s33.fh, SqL.of (tot33 _ _ hl), ss.up tot33, nps, by omega, okp, fun F34 H34 _ sp2 s34 B34 ⟨sq, e2, hsq⟩ nin2 str2 => ?_⟩
    subst e2
    have s34' := seqB s33 B33 s34
    refine gn ?_
    try dsimp only
    have sqT := SqT.of (K := K) (s34'.fh _ _ hsq)
    refine ⟨_, rfl, sq, _, _, _, rfl, rfl, sqT, rfl, _, rfl, sq, _, _, _, rfl, rfl, sqT, rfl, _, _, rfl, rfl, _, rfl, sq, _, _, _, rfl, rfl, sqT, rfl, _, _, rfl, rfl, ⟨by decide, by decide, by decide⟩, _, _, rfl, rfl, by show 3 ≤ sizeLine; decide, fun tf htf => ?_⟩
    obtain ⟨fp, efp⟩ : ∃ fp : Spot, fp = (sp2.1, sp2.2.1 - 1, sp2.2.2 + 10 ^ (15 : Int).toNat) := ⟨_, rfl⟩
    obtain ⟨s35, B35⟩ := newB (o := .tup (spV (sp2.1, sp2.2.1 - 1, sp2.2.2 + 10 ^ (15 : Int).toNat))) s34' B34 htf
    have e35 := same_new (s34'.fh.free htf) (o := .tup (spV (sp2.1, sp2.2.1 - 1, sp2.2.2 + 10 ^ (15 : Int).toNat)))
    have hf35 : (upd F34 tf (.tup (spV (sp2.1, sp2.2.1 - 1, sp2.2.2 + 10 ^ (15 : Int).toNat)))) tf = some (.tup (spV fp)) := by rw [efp]; exact upd_same
    have hs35 := e35 _ _ hsq
    have a35 := s34.ff.trans e35
    generalize upd F34 tf (.tup (spV (sp2.1, sp2.2.1 - 1, sp2.2.2 + 10 ^ (15 : Int).toNat))) = F35 at *
    have dy : -(5 * 10 ^ 13) ≤ sp2.2.2 ∧ sp2.2.2 ≤ 5 * 10 ^ 13 := str2.day
    have sy := str2.st
    have p15 : (10 : Int) ^ (15 : Int).toNat = 1000000000000000 := by decide
    have nfar : fp ∉ ps := fun z => by
      have h1 := (okp fp z).day
      have h2 : -(10 ^ 14) ≤ fp.2.2 ∧ fp.2.2 ≤ 10 ^ 14 := h1
      rw [efp] at h2
      have h3 : sp2.2.2 + 10 ^ (15 : Int).toNat ≤ 10 ^ 14 := h2.2
      rw [p15] at h3
      omega
    have keysM : ∀ q, q ∉ ps → look LM q = none := fun q z => look_none.mpr fun hm => z (by rw [← mapA]; exact (subm.map (·.1)).subset hm)
    have atS : At K F35 (.ref sq) LM none := .inl ⟨sp2, ⟨sq, rfl, hs35⟩, keysM _ nin2⟩
    have atF : At K F35 (.ref tf) LM none := .inl ⟨fp, ⟨tf, rfl, hf35⟩, keysM _ nfar⟩
    have l60 : ∀ {n : Int}, n.natAbs < 2 ^ 60 → n.natAbs.log2 < 1920 := fun h => Nat.lt_of_lt_of_le (PySem.Flt.log2_lt_of (by decide) h) (by decide)
    have toS : Told K F35 (.ref sq) := told_spot hs35 str2.nm (l60 (by omega)) (l60 (by omega))
    have toF : Told K F35 (.ref tf) := told_spot hf35 (by rw [efp]; exact str2.nm) (l60 (by rw [efp]; show (sp2.2.1 - 1).natAbs < 2 ^ 60; omega)) (l60 (by rw [efp]; show (sp2.2.2 + 10 ^ (15 : Int).toNat).natAbs < 2 ^ 60; rw [p15]; omega))
    refine gn ?_
    try dsimp only
    have hDm35 := a35 _ _ hDm33
    have prm35 := prm33.up a35
    have lxm : xsm.length ≤ 1000 := by rw [exm]; show xr.length + 1 ≤ 1000; omega
    refine ⟨_, rfl, _, rfl, F35, b, .ref Dm, xsm, rfl, .inl ⟨Dm, rfl, SqL.of hDm35⟩, (by rw [exm]; intro z; cases z), lxm, B35, s35.fh, fun H36 v9 j9 s36 B36 hv9 => ?_⟩
    obtain ⟨sk, hsk, qk, _, wk, rfl, hqk, ⟨ks, rfl, hks⟩, _, _⟩ := prm35.at hv9
    have memk : sk ∈ LM := List.mem_of_getElem? hsk
    have atK : At K F35 (.ref ks) LM (some sk.2) := .inl ⟨sk.1, ⟨ks, rfl, hks⟩, look_mem okM.ok.nd sk memk⟩
    have s36' := seqB s35 B35 s36
    refine ⟨qk, _, _, _, rfl, rfl, upT s36'.fh hqk, at0, ?_⟩
    refine gn ?_
    try dsimp only
    refine seq_asg ?_
    refine MkL.raw (F0 := F35) (P := CaseS K LM) (MkL.cons up_cases (Mk.tup (EvL.cons (Ev.var rfl) (EvL.cons (Ev.var rfl) (EvL.cons (Ev.var rfl) EvL.nil))) (Nat.le_of_ble_eq_true rfl) fun F' q' e h => ⟨q', _, _, _, none, _, rfl, SqT.of h, (atS.up e), (atK.up e), (atS.up e), (toS.up e), .inl ⟨rfl, rfl⟩⟩) (MkL.cons up_cases (Mk.tup (EvL.cons (Ev.var rfl) (EvL.cons (Ev.var rfl) (EvL.cons (Ev.var rfl) EvL.nil))) (Nat.le_of_ble_eq_true rfl) fun F' q' e h => ⟨q', _, _, _, (some sk.2), none, rfl, SqT.of h, (atK.up e), (atS.up e), (atS.up e), (toS.up e), .inr ⟨_, rfl, rfl, rfl⟩⟩) (MkL.cons up_cases (Mk.tup (EvL.cons (Ev.var rfl) (EvL.cons (Ev.var rfl) (EvL.cons (Ev.var rfl) EvL.nil))) (Nat.le_of_ble_eq_true rfl) fun F' q' e h => ⟨q', _, _, _, none, _, rfl, SqT.of h, (atS.up e), (atF.up e), (atS.up e), (toS.up e), .inl ⟨rfl, rfl⟩⟩) (MkL.cons up_cases (Mk.tup (EvL.cons (Ev.var rfl) (EvL.cons (Ev.var rfl) (EvL.cons (Ev.var rfl) EvL.nil))) (Nat.le_of_ble_eq_true rfl) fun F' q' e h => ⟨q', _, _, _, none, _, rfl, SqT.of h, (atF.up e), (atS.up e), (atF.up e), (toF.up e), .inl ⟨rfl, rfl⟩⟩) MkL.nil)))) (by decide) (Same.refl _) s36'.fh fun F37 H37 Dc cs st37 hDc lcs acs => ?_
    have fDc : F37 Dc = none := st37.fh.free hDc
    obtain ⟨s37, B37⟩ := pureB s36' B36 st37
    have h0Dc : H1 Dc = none := s37.fresh (fun x z => (memB K b).there B37 z) hDc
    have nDcb : Dc ≠ b := fun z => (memB K b).there B37 z hDc
    obtain ⟨s38, B38⟩ := rawB (o := .lst cs) s37 B37 hDc
    have h38 : (upd H37 Dc (.lst cs)) Dc = some (.lst cs) := upd_same
    obtain ⟨H38, eH38⟩ : ∃ H38, H38 = upd H37 Dc (.lst cs) := ⟨_, rfl⟩
    rw [← eH38] at s38 B38 h38 ⊢
    clear eH38 s37 B37 s36' s36 B36 s35 B35 s34' s34 B34 s33 B33
    have a37 : Same F35 F37 := st37.ff
    refine gn ?_
    try dsimp only
    refine seq_with (fun σ' H' => ∃ F' cs c15, σ' = [some (.ref p), some (.ref b), some (.ref l), some (.ref lp), some (.ref lo), c5, some (.int way), some (.ref Dm), some (.ref R), some (.ref x1), some (.ref x2), some (.ref sq), some (.ref tf), some (.ref ks), some (.ref Dc), c15, none, none] ∧ Sb b F1 H1 F' H' ∧ Bag K b F' H' ∧ Same F37 F' ∧ F' Dc = none ∧ H' Dc = some (.lst cs) ∧ cs.length ≤ 8 ∧ ∀ v ∈ cs, CaseS K LM F' v) (fun u hu => ?_) ?_
    · refine ⟨_, rfl, F37, ks, sk.1, rfl, a37 _ _ hks, okSM sk memk, s38.fh, fun F39 H39 Da ya st39 hDa al lal => ?_⟩
      obtain ⟨s39, B39⟩ := pureB s38 B38 st39
      have f39 : F39 Dc = none := st39.nw Dc fDc (by rw [h38]; exact fun z => nomatch z)
      have h39 := st39.hh Dc _ id h38
      refine ⟨Da, rfl, ⟨ya, SqL.of (s39.fh _ _ hDa)⟩, ?_⟩
      refine for_it (walk_list (xs := ya)) (fun j σ' H' => ∃ F' cs c15, σ' = [some (.ref p), some (.ref b), some (.ref l), some (.ref lp), some (.ref lo), c5, some (.int way), some (.ref Dm), some (.ref R), some (.ref x1), some (.ref x2), some (.ref sq), some (.ref tf), some (.ref ks), some (.ref Dc), c15, none, none] ∧ Sb b F1 H1 F' H' ∧ Bag K b F' H' ∧ Same F39 F' ∧ F' Dc = none ∧ H' Dc = some (.lst cs) ∧ cs.length = 4 + j ∧ ∀ v ∈ cs, CaseS K LM F' v) ?_ ?_ ?_ ?_
      · exact ⟨F39, cs, none, rfl, s39, B39, Same.refl _, f39, h39, by rw [lcs], fun v hv => up_cases _ _ _ st39.ff (acs v hv)⟩
      · rintro j σ' H' _ ⟨F', _, _, _, sj, _, e, _⟩
        exact SqL.of (sj.fh _ _ (e _ _ hDa))
      · rintro j v _ H' _ hj ⟨F', cs, c15, rfl, sj, Bj, e, fj, hj4, cl, ac⟩ ⟨eH, hv⟩
        subst eH
        have ak := (al v (List.mem_of_getElem? hv)).up e
        refine gn ?_
        refine ⟨_, rfl, .inl ⟨rfl, cs, SqL.of hj4⟩, _, rfl, _, rfl, _, rfl, by show 3 ≤ sizeLine; decide, fun t ht => ?_⟩
        obtain ⟨s40, B40, f40, h40, e40, l40⟩ := newD (o := .tup [v, .ref sq, v]) sj Bj fj hj4 ht
        obtain ⟨s41, B41⟩ := mutB (o := .lst (cs ++ [.ref t])) s40 B40 f40 h0Dc nDcb
        refine ⟨Dc, cs, .ref t, rfl, rfl, h40, by rw [sizeLine_eq]; omega, _, cs ++ [.ref t], _, rfl, s41, B41, e.trans e40, f40, upd_same, by rw [List.length_append, cl]; show 4 + j + 1 = 4 + (j + 1); omega, fun w hw => ?_⟩
        rcases List.mem_append.mp hw with hw | hw
        · exact up_cases _ _ _ e40 (ac w hw)
        · rw [List.mem_singleton.mp hw]
          exact ⟨t, _, _, _, none, none, rfl, SqT.of l40, .inr ⟨(ak.up e40).notSp, rfl⟩, (atS.up (a37.trans (st39.ff.trans e))).up e40, .inr ⟨(ak.up e40).notSp, rfl⟩, (ak.up e40).told, .inl ⟨rfl, rfl⟩⟩
      · rintro _ H' ⟨F', cs, c15, rfl, sj, Bj, e, fj, hj4, cl, ac⟩
        exact hu _ _ ⟨F', cs, c15, rfl, sj, Bj, st39.ff.trans e, fj, hj4, by omega, ac⟩
    clear s38 B38 h38
    rintro _ H40 ⟨F40, cs', c15, rfl, s40, B40, a40, f40, h40, cl, ac⟩
    obtain ⟨s41, B41⟩ := freezeB s40 B40 f40 h0Dc nDcb h40
    have e41 := same_new f40 (o := .lst cs')
    have h41 : (upd F40 Dc (.lst cs')) Dc = some (.lst cs') := upd_same
    have ac41 : ∀ v ∈ cs', CaseS K LM (upd F40 Dc (.lst cs')) v := fun v hv => up_cases _ _ _ e41 (ac v hv)
    have a41 : Same F33 (upd F40 Dc (.lst cs')) := a35.trans (a37.trans (a40.trans e41))
    generalize upd F40 Dc (.lst cs') = F41 at *
    clear s40 B40 h40
    refine seq_with (fun σ' H' => ∃ F' c16, σ' = [some (.ref p), some (.ref b), some (.ref l), some (.ref lp), some (.ref lo), c5, some (.int way), some (.ref Dm), some (.ref R), some (.ref x1), some (.ref x2), some (.ref sq), some (.ref tf), some (.ref ks), some (.ref Dc), c15, c16, none] ∧ Sb b F1 H1 F' H' ∧ Bag K b F' H' ∧ Same F41 F') (fun u hu => ?_) ?_
    · refine ⟨_, rfl, Dc, rfl, ⟨cs', SqL.of (s41.fh _ _ h41)⟩, ?_⟩
      refine for_it (walk_list (xs := cs')) (fun j σ' H' => ∃ F' c16, σ' = [some (.ref p), some (.ref b), some (.ref l), some (.ref lp), some (.ref lo), c5, some (.int way), some (.ref Dm), some (.ref R), some (.ref x1), some (.ref x2), some (.ref sq), some (.ref tf), some (.ref ks), some (.ref Dc), c15, c16, none] ∧ Sb b F1 H1 F' H' ∧ Bag K b F' H' ∧ Same F41 F') ?_ ?_ ?_ ?_
      · exact ⟨F41, none, rfl, s41, B41, Same.refl _⟩
      · rintro j σ' H' _ ⟨F', _, _, sj, _, e⟩
        exact SqL.of (sj.fh _ _ (e _ _ h41))
      · rintro j v _ H' _ hj ⟨F', c16, rfl, sj, Bj, e⟩ ⟨eH, hv⟩
        subst eH
        obtain ⟨q, u1, u2, u3, o1, o2, rfl, hq, g1, g2, g3, g4, g5⟩ := up_cases _ _ _ e (ac41 v (List.mem_of_getElem? hv))
        have hq2 := upT sj.fh hq
        refine gn ?_
        refine ⟨_, rfl, _, rfl, q, _, _, _, rfl, rfl, hq2, rfl, _, rfl, q, _, _, _, rfl, rfl, hq2, rfl, _, rfl, q, _, _, _, rfl, rfl, hq2, rfl, F', .ref x1, u1, u2, u3, LM, o1, o2, rfl, wx1.up (a41.trans e), sj.fh, okM.fine, g1, g2, g3, g4, g5, fun F2 H2 st => ⟨true, rfl, iteF ?_⟩⟩
        obtain ⟨s2, B2⟩ := pureB sj Bj st
        exact ⟨F2, _, rfl, s2, B2, e.trans st.ff⟩
      · rintro _ H' h
        exact hu _ _ h
    clear s41 B41
    rintro _ H42 ⟨F42, c16, rfl, s42, B42, a42⟩
    have b42 : Same F33 F42 := a41.trans a42
    have hDm42 := b42 _ _ hDm33
    have hlo42 := b42 _ _ hlo33
    have prm42 := prm33.up b42
    have prO42 := prO33.up b42
    have wx1 := wx1.up b42
    have wx2 := wx2.up b42
    have t42 := tot33.trans b42
    refine ⟨_, rfl, _, rfl, _, rfl, F42, b, Dm, .ref x1, xsm, LM, rfl, B42, s42.fh, wx1, hDm42, prm42, okM, okSM, lenLM, fun F43 H43 s43 B43 => ⟨true, rfl, iteF ?_⟩⟩
    have c43 := s43.ff
    refine ⟨_, rfl, _, rfl, _, rfl, F43, b, lo, .ref x2, vsO, LO, rfl, B43, s43.fh, wx2.up c43, c43 _ _ hlo42, prO42.up c43, okO, okSO, lenO, fun F44 H44 s44 B44 => ⟨true, rfl, iteF ?_⟩⟩
    have c44 := c43.trans s44.ff
    refine ⟨_, rfl, _, rfl, F44, b, Dm, xsm, LM, rfl, B44, s44.fh, SqL.of (c44 _ _ hDm42), prm42.up c44, okM, okSM, fun F45 H45 s45 B45 => ⟨true, rfl, iteF ?_⟩⟩
    have c45 := c44.trans s45.ff
    refine ⟨_, rfl, _, rfl, F45, b, l, xs, ps, rfl, B45, s45.fh, c45 _ _ (t42 _ _ hl), ss.up (t42.trans c45), nps, by omega, okp, fun F46 H46 s46 B46 => ⟨true, rfl, iteF ?_⟩⟩
    have c46 := c45.trans s46.ff
    refine ⟨_, rfl, _, rfl, F46, .ref x1, Dm, xsm, LM, rfl, wx1.up c46, SqL.of (c46 _ _ hDm42), prm42.up c46, okM, s46.fh, fun F47 H47 st47 => ⟨true, rfl, iteT ?_⟩⟩
    have c47 := c46.trans st47.ff
    exact ⟨_, rfl, _, rfl, F47, .ref x2, lo, vsO, LO, rfl, wx2.up c47, SqL.of (c47 _ _ hlo42), prO42.up c47, okO, st47.fh, fun F48 H48 st48 => k H48⟩
end
end K26

set_option Elab.async false
set_option linter.all false
set_option maxRecDepth 100000
set_option maxHeartbeats 4000000
namespace K26
open PySem PySem.Spec PyProof.Rows L2 Ew
theorem kit_cls0 {K : PySem.W.Frag} {t : Value} {C : Addr} {b : Bool} (h2 : PySem.W.isClsIn K C = true) (h3 : PySem.W.typeIn K (.ref C) = some (.type "type")) (h4 : PySem.W.subIn K t (.ref C) = some b) : PySem.W.kitCls K t (.ref C) = some b := by
  have e2 : ((PySem.W.clsIn K C).isSome && PySem.W.typeIn K (.ref C) == some (.type "type")) = true := by
    have h2' : (PySem.W.clsIn K C).isSome = true := h2
    rw [h2', h3] <;> rfl
  show (if ((PySem.W.clsIn K C).isSome && PySem.W.typeIn K (.ref C) == some (.type "type")) = true then PySem.W.subIn K t (.ref C) else none) = some b
  rw [if_pos e2]
  exact h4
theorem nf_of {K : PySem.W.Frag} {C : Addr} {T : String} (h : PySem.W.subIn K (.type T) (.ref C) = some false) : PySem.W.notFirst K C (.type T) = true := by
  unfold PySem.W.notFirst
  rw [h]
  simp
theorem fn_at {K : PySem.W.Frag} {f : Addr} {oc : Value} {od : Option Addr} {fd : FuncData} {sl : Array (Option Value)} (l : K.lookup f = some ⟨oc, od, .func fd, sl⟩) : PySem.W.fnIn K f = true := by
  unfold PySem.W.fnIn
  rw [l]
theorem all6 {p : String → Prop} (h1 : p "NoneType") (h2 : p "bool") (h3 : p "int") (h4 : p "str") (h5 : p "list") (h6 : p "tuple") : ∀ T ∈ (["NoneType", "bool", "int", "str", "list", "tuple"] : List String), p T := by
  intro T h
  simp only [List.mem_cons, List.not_mem_nil, or_false] at h
  rcases h with rfl | rfl | rfl | rfl | rfl | rfl
  · exact h1
  · exact h2
  · exact h3
  · exact h4
  · exact h5
  · exact h6
theorem ground_at {K : PySem.W.Frag} {aG : Addr} {odW : Option Addr} {nW : Nat} {slW : Array (Option Value)} {w0 w1 w2 : Tok} (l : K.lookup aG = some ⟨.type "tuple", odW, .seq #[.str "ground" w0, .int 0 w1, .int 0 w2] nW, slW⟩) : ∀ H, SqT K H aG [.str "ground", .int 0, .int 0] := fun H =>
  .inr ⟨_, _, nW, l, rfl, rfl, by show 3 ≤ sizeLine; decide, .cons ⟨_, rfl⟩ (.cons ⟨_, rfl⟩ (.cons ⟨_, rfl⟩ .nil))⟩
theorem kit_no1 {K : PySem.W.Frag} {C : Addr} {T : String} (h2 : PySem.W.isClsIn K C = true) (h3 : PySem.W.typeIn K (.ref C) = some (.type "type")) (h4 : PySem.W.subIn K (.type T) (.ref C) = some false) : PySem.W.kitOne K (.type T) (.ref C) = some false := by
  unfold PySem.W.kitOne
  rw [if_neg (by simp)]
  exact kit_cls0 h2 h3 h4
theorem kit_ty2 {K : PySem.W.Frag} {C : Addr} (h4 : PySem.W.subIn K (.ref C) (.type "ValueError") = some true) : PySem.W.kitOne K (.ref C) (.type "ValueError") = some true := by
  unfold PySem.W.kitOne
  rw [if_neg (by simp)]
  show (if PySem.W.kitMeta "ValueError" = true then PySem.W.subIn K (.ref C) (.type "ValueError") else none) = some true
  rw [if_pos (by decide +kernel)]
  exact h4
theorem kit_no2 {K : PySem.W.Frag} {D C1 C2 : Addr} (n1 : D ≠ C1) (n2 : D ≠ C2) (h2 : PySem.W.isClsIn K C1 = true) (h3 : PySem.W.typeIn K (.ref C1) = some (.type "type")) (h4 : PySem.W.subIn K (.ref D) (.ref C1) = some false)
    (g2 : PySem.W.isClsIn K C2 = true) (g3 : PySem.W.typeIn K (.ref C2) = some (.type "type")) (g4 : PySem.W.subIn K (.ref D) (.ref C2) = some false) : PySem.W.kitAny K (.ref D) [.ref C1, .ref C2] = some false := by
  have e1 : PySem.W.kitOne K (.ref D) (.ref C1) = some false := by
    unfold PySem.W.kitOne
    rw [if_neg (by simpa using n1)]
    exact kit_cls0 h2 h3 h4
  have e2 : PySem.W.kitOne K (.ref D) (.ref C2) = some false := by
    unfold PySem.W.kitOne
    rw [if_neg (by simpa using n2)]
    exact kit_cls0 g2 g3 g4
  simp only [PySem.W.kitAny, e1, e2]
theorem exm_of {K : PySem.W.Frag} {D C : Addr} {b : Bool} (e : PySem.W.subIn K (.ref C) (.type "BaseException") = some true) (h2 : PySem.W.isClsIn K C = true) (h3 : PySem.W.typeIn K (.ref C) = some (.type "type")) (h4 : PySem.W.subIn K (.ref D) (.ref C) = some b) : PySem.W.exmOne K (.ref D) (.ref C) = some b := by
  unfold PySem.W.exmOne
  have e1 : (PySem.W.subIn K (.ref C) (.type "BaseException") == some true) = true := by rw [e] <;> rfl
  rw [if_pos e1]
  exact kit_cls0 h2 h3 h4
theorem ratio_at {K : PySem.W.Frag} {mg : Str → Option Value} {f TT : Addr} {od an : Option Addr} {sl : Array (Option Value)} {oc kV dc pm cd ct : Value} {tD : Tok} {nD0 : Nat} {odT : Option Addr} {ocT : Value} {slT : Array (Option Value)}
    (l : K.lookup f = some ⟨oc, od, .func (PySem.W.fnOf "ratio" "ratio" (defArgs s_ratio) (defBody s_ratio) (defScope s_ratio) (.ref TT) kV dc pm an cd ct), sl⟩) (lT : K.lookup TT = some ⟨ocT, odT, .seq #[.int 1 tD] nD0, slT⟩) (c : PySem.W.codeIn K cd "ratio" = true) (k : PySem.W.keepIn K (.ref f) = true) (g : mg "ratio" = some (.ref f)) :
    DefAtD K mg "ratio" s_ratio P_ratio [.int 1] := by
  have F : FunD K "ratio" "ratio" (defArgs s_ratio) (defBody s_ratio) (defScope s_ratio) [.int 1] [] f (PySem.W.fnOf "ratio" "ratio" (defArgs s_ratio) (defBody s_ratio) (defScope s_ratio) (.ref TT) kV dc pm an cd ct) :=
    ⟨⟨oc, od, .ref TT, kV, dc, pm, an, cd, ct, sl, rfl, l, c, .inr ⟨(fun z => nomatch z), TT, _, [.int 1 tD], nD0, rfl, lT, rfl, .cons ⟨tD, rfl⟩ .nil⟩, .inl rfl⟩, k⟩
  refine ⟨f, _, F, g, fun j hj => ?_⟩
  have hj : j = 0 ∨ j = 1 := by
    have : j ≤ 1 := hj
    omega
  rcases hj with rfl | rfl
  · exact F.binds1 1 0 (fun z => nomatch z) rfl fun T kV doc pm an cdv ct us its h1 h2 => match us, its, h1, h2 with | [_], [_], _, _ => ⟨_, rfl, rfl⟩
  · exact F.binds1 2 1 (fun z => nomatch z) rfl fun T kV doc pm an cdv ct us its h1 h2 => match us, its, h1, h2 with | [_, _], [_], _, _ => ⟨_, rfl, rfl⟩
theorem all_mk {P : Program} {w : World} {K : PySem.W.Frag} {h : Heap} {mg : Str → Option Value} {fa : Addr} (X : K.In h) (G : h.Ns mainGlobals mg) (hfa : mg "law" = some (.ref fa))
    {aG : Addr} {odW : Option Addr} {nW : Nat} {slW : Array (Option Value)} {w0 w1 w2 : Tok}
    {C_EllError : Addr}
    {C_Nought : Addr} {nm_Nought q_Nought : Str} {N_Nought : Addr} {bs_Nought : List Value} {sn_Nought : List Str} {sub_Nought : List Value} {ab_Nought : Bool} {col_Nought : Option Bool} {dd_Nought : Option Addr} {m0_Nought m1_Nought m2_Nought m3_Nought m5_Nought : Option Value}
    {f1 : Addr} {od1 an1 : Option Addr} {sl1 : Array (Option Value)} {oc1 kV1 dc1 pm1 cd1 ct1 : Value}
    {C_BadWorld : Addr} {nm_BadWorld q_BadWorld : Str} {N_BadWorld : Addr} {bs_BadWorld : List Value} {sn_BadWorld : List Str} {sub_BadWorld : List Value} {ab_BadWorld : Bool} {col_BadWorld : Option Bool} {dd_BadWorld : Option Addr} {m0_BadWorld m1_BadWorld m2_BadWorld m3_BadWorld m5_BadWorld : Option Value}
    {f2 : Addr} {od2 an2 : Option Addr} {sl2 : Array (Option Value)} {oc2 kV2 dc2 pm2 cd2 ct2 : Value}
    {C_NoSpot : Addr} {nm_NoSpot q_NoSpot : Str} {N_NoSpot : Addr} {bs_NoSpot : List Value} {sn_NoSpot : List Str} {sub_NoSpot : List Value} {ab_NoSpot : Bool} {col_NoSpot : Option Bool} {dd_NoSpot : Option Addr} {m0_NoSpot m1_NoSpot m2_NoSpot m3_NoSpot m5_NoSpot : Option Value}
    {f3 : Addr} {od3 an3 : Option Addr} {sl3 : Array (Option Value)} {oc3 kV3 dc3 pm3 cd3 ct3 : Value}
    {C_BadSpot : Addr}
    {C_World : Addr}
    {f4 : Addr} {od4 an4 : Option Addr} {sl4 : Array (Option Value)} {oc4 kV4 dc4 pm4 cd4 ct4 : Value}
    {f5 : Addr} {od5 an5 : Option Addr} {sl5 : Array (Option Value)} {oc5 kV5 dc5 pm5 cd5 ct5 : Value}
    {f6 : Addr} {od6 an6 : Option Addr} {sl6 : Array (Option Value)} {oc6 kV6 dc6 pm6 cd6 ct6 : Value}
    {f7 : Addr} {od7 an7 : Option Addr} {sl7 : Array (Option Value)} {oc7 kV7 dc7 pm7 cd7 ct7 : Value}
    {f8 : Addr} {od8 an8 : Option Addr} {sl8 : Array (Option Value)} {oc8 kV8 dc8 pm8 cd8 ct8 : Value}
    {f9 : Addr} {od9 an9 : Option Addr} {sl9 : Array (Option Value)} {oc9 kV9 dc9 pm9 cd9 ct9 : Value}
    {f10 : Addr} {od10 an10 : Option Addr} {sl10 : Array (Option Value)} {oc10 kV10 dc10 pm10 cd10 ct10 : Value}
    {f11 : Addr} {od11 an11 : Option Addr} {sl11 : Array (Option Value)} {oc11 kV11 dc11 pm11 cd11 ct11 : Value}
    {f12 : Addr} {od12 an12 : Option Addr} {sl12 : Array (Option Value)} {oc12 kV12 dc12 pm12 cd12 ct12 : Value}
    {f13 : Addr} {od13 an13 : Option Addr} {sl13 : Array (Option Value)} {oc13 kV13 dc13 pm13 cd13 ct13 : Value}
    {f14 : Addr} {od14 an14 : Option Addr} {sl14 : Array (Option Value)} {oc14 kV14 dc14 pm14 cd14 ct14 : Value}
    {f15 : Addr} {od15 an15 : Option Addr} {sl15 : Array (Option Value)} {oc15 kV15 dc15 pm15 cd15 ct15 : Value}
    {f16 : Addr} {od16 an16 : Option Addr} {sl16 : Array (Option Value)} {oc16 kV16 dc16 pm16 cd16 ct16 : Value}
    {f17 : Addr} {od17 an17 : Option Addr} {sl17 : Array (Option Value)} {oc17 kV17 dc17 pm17 cd17 ct17 : Value}
    {f18 : Addr} {od18 an18 : Option Addr} {sl18 : Array (Option Value)} {oc18 kV18 dc18 pm18 cd18 ct18 : Value}
    {f19 : Addr} {od19 an19 : Option Addr} {sl19 : Array (Option Value)} {oc19 kV19 dc19 pm19 cd19 ct19 : Value}
    {f20 : Addr} {od20 an20 : Option Addr} {sl20 : Array (Option Value)} {oc20 kV20 dc20 pm20 cd20 ct20 : Value}
    {f21 : Addr} {od21 an21 : Option Addr} {sl21 : Array (Option Value)} {oc21 kV21 dc21 pm21 cd21 ct21 : Value}
    {f22 : Addr} {od22 an22 : Option Addr} {sl22 : Array (Option Value)} {oc22 kV22 dc22 pm22 cd22 ct22 : Value}
    {f23 : Addr} {od23 an23 : Option Addr} {sl23 : Array (Option Value)} {oc23 kV23 dc23 pm23 cd23 ct23 : Value}
    {f24 : Addr} {od24 an24 : Option Addr} {sl24 : Array (Option Value)} {oc24 kV24 dc24 pm24 cd24 ct24 : Value}
    {f25 : Addr} {od25 an25 : Option Addr} {sl25 : Array (Option Value)} {oc25 kV25 dc25 pm25 cd25 ct25 : Value}
    {f26 : Addr} {od26 an26 : Option Addr} {sl26 : Array (Option Value)} {oc26 kV26 dc26 pm26 cd26 ct26 : Value}
    {f27 : Addr} {od27 an27 : Option Addr} {sl27 : Array (Option Value)} {oc27 kV27 dc27 pm27 cd27 ct27 : Value}
    {f28 : Addr} {od28 an28 : Option Addr} {sl28 : Array (Option Value)} {oc28 kV28 dc28 pm28 cd28 ct28 : Value}
    {f29 : Addr} {od29 an29 : Option Addr} {sl29 : Array (Option Value)} {oc29 kV29 dc29 pm29 cd29 ct29 : Value}
    {f30 : Addr} {od30 an30 : Option Addr} {sl30 : Array (Option Value)} {oc30 kV30 dc30 pm30 cd30 ct30 : Value}
    {f31 : Addr} {od31 an31 : Option Addr} {sl31 : Array (Option Value)} {oc31 kV31 dc31 pm31 cd31 ct31 : Value}
    {f32 : Addr} {od32 an32 : Option Addr} {sl32 : Array (Option Value)} {oc32 kV32 dc32 pm32 cd32 ct32 : Value}
    {f33 : Addr} {od33 an33 : Option Addr} {sl33 : Array (Option Value)} {oc33 kV33 dc33 pm33 cd33 ct33 : Value}
    {f34 : Addr} {od34 an34 : Option Addr} {sl34 : Array (Option Value)} {oc34 kV34 dc34 pm34 cd34 ct34 : Value}
    {f35 : Addr} {od35 an35 : Option Addr} {sl35 : Array (Option Value)} {oc35 kV35 dc35 pm35 cd35 ct35 : Value}
    {f36 : Addr} {od36 an36 : Option Addr} {sl36 : Array (Option Value)} {oc36 kV36 dc36 pm36 cd36 ct36 : Value}
    {f37 : Addr} {od37 an37 : Option Addr} {sl37 : Array (Option Value)} {oc37 kV37 dc37 pm37 cd37 ct37 : Value}
    {f38 : Addr} {od38 an38 : Option Addr} {sl38 : Array (Option Value)} {oc38 kV38 dc38 pm38 cd38 ct38 : Value}
    {f39 : Addr} {od39 an39 : Option Addr} {sl39 : Array (Option Value)} {oc39 kV39 dc39 pm39 cd39 ct39 : Value}
    {f40 : Addr} {od40 an40 : Option Addr} {sl40 : Array (Option Value)} {oc40 kV40 dc40 pm40 cd40 ct40 : Value}
    {f41 : Addr} {od41 an41 : Option Addr} {sl41 : Array (Option Value)} {oc41 kV41 dc41 pm41 cd41 ct41 : Value}
    {f42 : Addr} {od42 an42 : Option Addr} {sl42 : Array (Option Value)} {oc42 kV42 dc42 pm42 cd42 ct42 : Value}
    {f43 : Addr} {od43 an43 : Option Addr} {sl43 : Array (Option Value)} {oc43 kV43 dc43 pm43 cd43 ct43 : Value}
    {f44 : Addr} {od44 an44 : Option Addr} {sl44 : Array (Option Value)} {oc44 kV44 dc44 pm44 cd44 ct44 : Value}
    {f45 : Addr} {od45 an45 : Option Addr} {sl45 : Array (Option Value)} {oc45 kV45 dc45 pm45 cd45 ct45 : Value}
    {f46 : Addr} {od46 an46 : Option Addr} {sl46 : Array (Option Value)} {oc46 kV46 dc46 pm46 cd46 ct46 : Value}
    {f47 : Addr} {od47 an47 : Option Addr} {sl47 : Array (Option Value)} {oc47 kV47 dc47 pm47 cd47 ct47 : Value}
    {f48 : Addr} {od48 an48 : Option Addr} {sl48 : Array (Option Value)} {oc48 kV48 dc48 pm48 cd48 ct48 : Value}
    {f49 : Addr} {od49 an49 : Option Addr} {sl49 : Array (Option Value)} {oc49 kV49 dc49 pm49 cd49 ct49 : Value}
    {f50 : Addr} {od50 an50 : Option Addr} {sl50 : Array (Option Value)} {oc50 kV50 dc50 pm50 cd50 ct50 : Value}
    {f51 : Addr} {od51 an51 : Option Addr} {sl51 : Array (Option Value)} {oc51 kV51 dc51 pm51 cd51 ct51 : Value}
    {f52 : Addr} {od52 an52 : Option Addr} {sl52 : Array (Option Value)} {oc52 kV52 dc52 pm52 cd52 ct52 : Value}
    {f53 TT : Addr} {od53 an53 : Option Addr} {sl53 : Array (Option Value)} {oc53 kV53 dc53 pm53 cd53 ct53 : Value} {tD : Tok} {nD0 : Nat} {odT : Option Addr} {ocT : Value} {slT : Array (Option Value)}
    {f54 : Addr} {od54 an54 : Option Addr} {sl54 : Array (Option Value)} {oc54 kV54 dc54 pm54 cd54 ct54 : Value}
    (z_isinstance : PySem.W.nsIn K mainGlobals "isinstance" = some none)
    (z_int : PySem.W.nsIn K mainGlobals "int" = some none)
    (z_bool : PySem.W.nsIn K mainGlobals "bool" = some none)
    (z_tuple : PySem.W.nsIn K mainGlobals "tuple" = some none)
    (z_str : PySem.W.nsIn K mainGlobals "str" = some none)
    (z_list : PySem.W.nsIn K mainGlobals "list" = some none)
    (z_len : PySem.W.nsIn K mainGlobals "len" = some none)
    (z_abs : PySem.W.nsIn K mainGlobals "abs" = some none)
    (z_range : PySem.W.nsIn K mainGlobals "range" = some none)
    (z_enumerate : PySem.W.nsIn K mainGlobals "enumerate" = some none)
    (z_iter : PySem.W.nsIn K mainGlobals "iter" = some none)
    (z_repr : PySem.W.nsIn K mainGlobals "repr" = some none)
    (z_ValueError : PySem.W.nsIn K mainGlobals "ValueError" = some none)
    (zgcd : PySem.W.nsIn K mainGlobals "gcd" = some (some (.builtin "math.gcd")))
    (zz_GROUND : PySem.W.nsIn K mainGlobals "GROUND" = some (some (.ref aG)))
    (lGG : K.lookup aG = some ⟨.type "tuple", odW, .seq #[.str "ground" w0, .int 0 w1, .int 0 w2] nW, slW⟩)
    (gg0 : PySem.W.specialIn K (.builtin "object.__class__") "__get__" = some (some (.builtin "getset_descriptor.__get__")))
    (tk0 : PySem.W.takesIn K (.builtin "object.__class__") = some true)
    (a_EllError : PySem.W.nsIn K mainGlobals "EllError" = some (some (.ref C_EllError)))
    (ic_EllError : PySem.W.isClsIn K C_EllError = true)
    (tC_EllError : PySem.W.typeIn K (.ref C_EllError) = some (.type "type"))
    (a_Nought : PySem.W.nsIn K mainGlobals "Nought" = some (some (.ref C_Nought)))
    (x_Nought : K.lookup C_Nought = some (excClassObj nm_Nought q_Nought C_Nought N_Nought bs_Nought [.ref C_EllError, .type "ValueError", .type "Exception", .type "BaseException", .type "object"] true sn_Nought sub_Nought ab_Nought col_Nought dd_Nought m0_Nought m1_Nought m2_Nought m3_Nought m5_Nought "ValueError.__new__"))
    (sa_Nought : PySem.W.findIn K (.ref C_Nought) "__setattr__" = some (some (.builtin "object.__setattr__")))
    (ga_Nought : PySem.W.findIn K (.ref C_Nought) "__getattribute__" = some (some (.builtin "BaseException.__getattribute__")))
    (gt_Nought : PySem.W.findIn K (.ref C_Nought) "__getattr__" = some none)
    (ca_Nought : PySem.W.findIn K (.ref C_Nought) "__class__" = some (some (.builtin "object.__class__")))
    (kC_Nought : PySem.W.keepIn K (.ref C_Nought) = true)
    (eC_Nought : PySem.W.subIn K (.ref C_Nought) (.type "BaseException") = some true)
    (vC_Nought : PySem.W.subIn K (.ref C_Nought) (.type "ValueError") = some true)
    (lC_Nought : PySem.W.subIn K (.ref C_Nought) (.ref C_EllError) = some true)
    (tC_Nought : PySem.W.typeIn K (.ref C_Nought) = some (.type "type"))
    (hC_Nought : PySem.W.hasDictIn K C_Nought = true)
    (ic_Nought : PySem.W.isClsIn K C_Nought = true)
    (mo_Nought : PySem.W.mroIn K C_Nought (.type "object") = some true)
    (no_Nought_number : PySem.W.findIn K (.ref C_Nought) "number" = some none)
    (a1 : PySem.W.findIn K (.ref C_Nought) "__init__" = some (some (.ref f1)))
    (t1 : PySem.W.typeIn K (.ref f1) = some (.type "function"))
    (l1 : K.lookup f1 = some ⟨oc1, od1, .func (PySem.W.fnOf "__init__" "Nought.__init__" (defArgs s_NoughtD_initD) (defBody s_NoughtD_initD) (defScope s_NoughtD_initD) .none kV1 dc1 pm1 an1 cd1 ct1), sl1⟩)
    (c1 : PySem.W.codeIn K cd1 "Nought.__init__" = true)
    (k1 : PySem.W.keepIn K (.ref f1) = true)
    (a_BadWorld : PySem.W.nsIn K mainGlobals "BadWorld" = some (some (.ref C_BadWorld)))
    (x_BadWorld : K.lookup C_BadWorld = some (excClassObj nm_BadWorld q_BadWorld C_BadWorld N_BadWorld bs_BadWorld [.ref C_EllError, .type "ValueError", .type "Exception", .type "BaseException", .type "object"] true sn_BadWorld sub_BadWorld ab_BadWorld col_BadWorld dd_BadWorld m0_BadWorld m1_BadWorld m2_BadWorld m3_BadWorld m5_BadWorld "ValueError.__new__"))
    (sa_BadWorld : PySem.W.findIn K (.ref C_BadWorld) "__setattr__" = some (some (.builtin "object.__setattr__")))
    (ga_BadWorld : PySem.W.findIn K (.ref C_BadWorld) "__getattribute__" = some (some (.builtin "BaseException.__getattribute__")))
    (gt_BadWorld : PySem.W.findIn K (.ref C_BadWorld) "__getattr__" = some none)
    (ca_BadWorld : PySem.W.findIn K (.ref C_BadWorld) "__class__" = some (some (.builtin "object.__class__")))
    (kC_BadWorld : PySem.W.keepIn K (.ref C_BadWorld) = true)
    (eC_BadWorld : PySem.W.subIn K (.ref C_BadWorld) (.type "BaseException") = some true)
    (vC_BadWorld : PySem.W.subIn K (.ref C_BadWorld) (.type "ValueError") = some true)
    (lC_BadWorld : PySem.W.subIn K (.ref C_BadWorld) (.ref C_EllError) = some true)
    (tC_BadWorld : PySem.W.typeIn K (.ref C_BadWorld) = some (.type "type"))
    (hC_BadWorld : PySem.W.hasDictIn K C_BadWorld = true)
    (ic_BadWorld : PySem.W.isClsIn K C_BadWorld = true)
    (mo_BadWorld : PySem.W.mroIn K C_BadWorld (.type "object") = some true)
    (no_BadWorld_place : PySem.W.findIn K (.ref C_BadWorld) "place" = some none)
    (a2 : PySem.W.findIn K (.ref C_BadWorld) "__init__" = some (some (.ref f2)))
    (t2 : PySem.W.typeIn K (.ref f2) = some (.type "function"))
    (l2 : K.lookup f2 = some ⟨oc2, od2, .func (PySem.W.fnOf "__init__" "BadWorld.__init__" (defArgs s_BadWorldD_initD) (defBody s_BadWorldD_initD) (defScope s_BadWorldD_initD) .none kV2 dc2 pm2 an2 cd2 ct2), sl2⟩)
    (c2 : PySem.W.codeIn K cd2 "BadWorld.__init__" = true)
    (k2 : PySem.W.keepIn K (.ref f2) = true)
    (a_NoSpot : PySem.W.nsIn K mainGlobals "NoSpot" = some (some (.ref C_NoSpot)))
    (x_NoSpot : K.lookup C_NoSpot = some (excClassObj nm_NoSpot q_NoSpot C_NoSpot N_NoSpot bs_NoSpot [.ref C_EllError, .type "ValueError", .type "Exception", .type "BaseException", .type "object"] true sn_NoSpot sub_NoSpot ab_NoSpot col_NoSpot dd_NoSpot m0_NoSpot m1_NoSpot m2_NoSpot m3_NoSpot m5_NoSpot "ValueError.__new__"))
    (sa_NoSpot : PySem.W.findIn K (.ref C_NoSpot) "__setattr__" = some (some (.builtin "object.__setattr__")))
    (ga_NoSpot : PySem.W.findIn K (.ref C_NoSpot) "__getattribute__" = some (some (.builtin "BaseException.__getattribute__")))
    (gt_NoSpot : PySem.W.findIn K (.ref C_NoSpot) "__getattr__" = some none)
    (ca_NoSpot : PySem.W.findIn K (.ref C_NoSpot) "__class__" = some (some (.builtin "object.__class__")))
    (kC_NoSpot : PySem.W.keepIn K (.ref C_NoSpot) = true)
    (eC_NoSpot : PySem.W.subIn K (.ref C_NoSpot) (.type "BaseException") = some true)
    (vC_NoSpot : PySem.W.subIn K (.ref C_NoSpot) (.type "ValueError") = some true)
    (lC_NoSpot : PySem.W.subIn K (.ref C_NoSpot) (.ref C_EllError) = some true)
    (tC_NoSpot : PySem.W.typeIn K (.ref C_NoSpot) = some (.type "type"))
    (hC_NoSpot : PySem.W.hasDictIn K C_NoSpot = true)
    (ic_NoSpot : PySem.W.isClsIn K C_NoSpot = true)
    (mo_NoSpot : PySem.W.mroIn K C_NoSpot (.type "object") = some true)
    (no_NoSpot_spot : PySem.W.findIn K (.ref C_NoSpot) "spot" = some none)
    (a3 : PySem.W.findIn K (.ref C_NoSpot) "__init__" = some (some (.ref f3)))
    (t3 : PySem.W.typeIn K (.ref f3) = some (.type "function"))
    (l3 : K.lookup f3 = some ⟨oc3, od3, .func (PySem.W.fnOf "__init__" "NoSpot.__init__" (defArgs s_NoSpotD_initD) (defBody s_NoSpotD_initD) (defScope s_NoSpotD_initD) .none kV3 dc3 pm3 an3 cd3 ct3), sl3⟩)
    (c3 : PySem.W.codeIn K cd3 "NoSpot.__init__" = true)
    (k3 : PySem.W.keepIn K (.ref f3) = true)
    (a_BadSpot : PySem.W.nsIn K mainGlobals "BadSpot" = some (some (.ref C_BadSpot)))
    (ic_BadSpot : PySem.W.isClsIn K C_BadSpot = true)
    (tC_BadSpot : PySem.W.typeIn K (.ref C_BadSpot) = some (.type "type"))
    (eC_EllError : PySem.W.subIn K (.ref C_EllError) (.type "BaseException") = some true)
    (s_NoSpot_BadWorld : PySem.W.subIn K (.ref C_NoSpot) (.ref C_BadWorld) = some false)
    (ne_NoSpot_BadWorld : C_NoSpot ≠ C_BadWorld)
    (s_NoSpot_BadSpot : PySem.W.subIn K (.ref C_NoSpot) (.ref C_BadSpot) = some false)
    (ne_NoSpot_BadSpot : C_NoSpot ≠ C_BadSpot)
    (s_BadWorld_NoSpot : PySem.W.subIn K (.ref C_BadWorld) (.ref C_NoSpot) = some false)
    (ne_BadWorld_NoSpot : C_BadWorld ≠ C_NoSpot)
    (s_BadWorld_BadSpot : PySem.W.subIn K (.ref C_BadWorld) (.ref C_BadSpot) = some false)
    (ne_BadWorld_BadSpot : C_BadWorld ≠ C_BadSpot)
    (a_World : PySem.W.nsIn K mainGlobals "World" = some (some (.ref C_World)))
    (pg : PySem.W.plainGet K C_World Str.empty = true)
    (hd : PySem.W.hasDictIn K C_World = true)
    (po : PySem.W.plainOver K C_World = true)
    (sa : PySem.W.findIn K (.ref C_World) "__setattr__" = some (some (.builtin "object.__setattr__")))
    (ca : PySem.W.findIn K (.ref C_World) "__class__" = some (some (.builtin "object.__class__")))
    (mo : PySem.W.mroIn K C_World (.type "object") = some true)
    (nV : PySem.W.findIn K (.ref C_World) "_values" = some none)
    (ic : PySem.W.isClsIn K C_World = true)
    (tC : PySem.W.typeIn K (.ref C_World) = some (.type "type"))
    (mk : PySem.W.makesIn K C_World = true)
    (kc : PySem.W.keepIn K (.ref C_World) = true)
    (sb_NoneType : PySem.W.subIn K (.type "NoneType") (.ref C_World) = some false)
    (sb_bool : PySem.W.subIn K (.type "bool") (.ref C_World) = some false)
    (sb_int : PySem.W.subIn K (.type "int") (.ref C_World) = some false)
    (sb_str : PySem.W.subIn K (.type "str") (.ref C_World) = some false)
    (sb_list : PySem.W.subIn K (.type "list") (.ref C_World) = some false)
    (sb_tuple : PySem.W.subIn K (.type "tuple") (.ref C_World) = some false)
    (a4 : PySem.W.findIn K (.ref C_World) "__init__" = some (some (.ref f4)))
    (i4 : PySem.W.isFn K (.ref f4) = true)
    (l4 : K.lookup f4 = some ⟨oc4, od4, .func (PySem.W.fnOf "__init__" "World.__init__" (defArgs s_WorldD_initD) (defBody s_WorldD_initD) (defScope s_WorldD_initD) .none kV4 dc4 pm4 an4 cd4 ct4), sl4⟩)
    (c4 : PySem.W.codeIn K cd4 "World.__init__" = true)
    (k4 : PySem.W.keepIn K (.ref f4) = true)
    (a5 : PySem.W.findIn K (.ref C_World) "__getitem__" = some (some (.ref f5)))
    (i5 : PySem.W.isFn K (.ref f5) = true)
    (l5 : K.lookup f5 = some ⟨oc5, od5, .func (PySem.W.fnOf "__getitem__" "World.__getitem__" (defArgs s_WorldD_getitemD) (defBody s_WorldD_getitemD) (defScope s_WorldD_getitemD) .none kV5 dc5 pm5 an5 cd5 ct5), sl5⟩)
    (c5 : PySem.W.codeIn K cd5 "World.__getitem__" = true)
    (k5 : PySem.W.keepIn K (.ref f5) = true)
    (a6 : PySem.W.findIn K (.ref C_World) "__contains__" = some (some (.ref f6)))
    (i6 : PySem.W.isFn K (.ref f6) = true)
    (l6 : K.lookup f6 = some ⟨oc6, od6, .func (PySem.W.fnOf "__contains__" "World.__contains__" (defArgs s_WorldD_containsD) (defBody s_WorldD_containsD) (defScope s_WorldD_containsD) .none kV6 dc6 pm6 an6 cd6 ct6), sl6⟩)
    (c6 : PySem.W.codeIn K cd6 "World.__contains__" = true)
    (k6 : PySem.W.keepIn K (.ref f6) = true)
    (a7 : PySem.W.findIn K (.ref C_World) "__len__" = some (some (.ref f7)))
    (i7 : PySem.W.isFn K (.ref f7) = true)
    (l7 : K.lookup f7 = some ⟨oc7, od7, .func (PySem.W.fnOf "__len__" "World.__len__" (defArgs s_WorldD_lenD) (defBody s_WorldD_lenD) (defScope s_WorldD_lenD) .none kV7 dc7 pm7 an7 cd7 ct7), sl7⟩)
    (c7 : PySem.W.codeIn K cd7 "World.__len__" = true)
    (k7 : PySem.W.keepIn K (.ref f7) = true)
    (a8 : PySem.W.findIn K (.ref C_World) "__eq__" = some (some (.ref f8)))
    (i8 : PySem.W.isFn K (.ref f8) = true)
    (l8 : K.lookup f8 = some ⟨oc8, od8, .func (PySem.W.fnOf "__eq__" "World.__eq__" (defArgs s_WorldD_eqD) (defBody s_WorldD_eqD) (defScope s_WorldD_eqD) .none kV8 dc8 pm8 an8 cd8 ct8), sl8⟩)
    (c8 : PySem.W.codeIn K cd8 "World.__eq__" = true)
    (k8 : PySem.W.keepIn K (.ref f8) = true)
    (a9 : PySem.W.findIn K (.ref C_World) "__iter__" = some (some (.ref f9)))
    (i9 : PySem.W.isFn K (.ref f9) = true)
    (l9 : K.lookup f9 = some ⟨oc9, od9, .func (PySem.W.fnOf "__iter__" "World.__iter__" (defArgs s_WorldD_iterD) (defBody s_WorldD_iterD) (defScope s_WorldD_iterD) .none kV9 dc9 pm9 an9 cd9 ct9), sl9⟩)
    (c9 : PySem.W.codeIn K cd9 "World.__iter__" = true)
    (k9 : PySem.W.keepIn K (.ref f9) = true)
    (a10 : PySem.W.findIn K (.ref C_World) "gap" = some (some (.ref f10)))
    (i10 : PySem.W.isFn K (.ref f10) = true)
    (l10 : K.lookup f10 = some ⟨oc10, od10, .func (PySem.W.fnOf "gap" "World.gap" (defArgs s_World_gap) (defBody s_World_gap) (defScope s_World_gap) .none kV10 dc10 pm10 an10 cd10 ct10), sl10⟩)
    (c10 : PySem.W.codeIn K cd10 "World.gap" = true)
    (k10 : PySem.W.keepIn K (.ref f10) = true)
    (a11 : PySem.W.findIn K (.ref C_World) "keeps" = some (some (.ref f11)))
    (i11 : PySem.W.isFn K (.ref f11) = true)
    (l11 : K.lookup f11 = some ⟨oc11, od11, .func (PySem.W.fnOf "keeps" "World.keeps" (defArgs s_World_keeps) (defBody s_World_keeps) (defScope s_World_keeps) .none kV11 dc11 pm11 an11 cd11 ct11), sl11⟩)
    (c11 : PySem.W.codeIn K cd11 "World.keeps" = true)
    (k11 : PySem.W.keepIn K (.ref f11) = true)
    (a12 : PySem.W.nsIn K mainGlobals "is_integer" = some (some (.ref f12)))
    (l12 : K.lookup f12 = some ⟨oc12, od12, .func (PySem.W.fnOf "is_integer" "is_integer" (defArgs s_is_integer) (defBody s_is_integer) (defScope s_is_integer) .none kV12 dc12 pm12 an12 cd12 ct12), sl12⟩)
    (c12 : PySem.W.codeIn K cd12 "is_integer" = true)
    (k12 : PySem.W.keepIn K (.ref f12) = true)
    (a13 : PySem.W.nsIn K mainGlobals "is_row" = some (some (.ref f13)))
    (l13 : K.lookup f13 = some ⟨oc13, od13, .func (PySem.W.fnOf "is_row" "is_row" (defArgs s_is_row) (defBody s_is_row) (defScope s_is_row) .none kV13 dc13 pm13 an13 cd13 ct13), sl13⟩)
    (c13 : PySem.W.codeIn K cd13 "is_row" = true)
    (k13 : PySem.W.keepIn K (.ref f13) = true)
    (a14 : PySem.W.nsIn K mainGlobals "is_tuple_of" = some (some (.ref f14)))
    (l14 : K.lookup f14 = some ⟨oc14, od14, .func (PySem.W.fnOf "is_tuple_of" "is_tuple_of" (defArgs s_is_tuple_of) (defBody s_is_tuple_of) (defScope s_is_tuple_of) .none kV14 dc14 pm14 an14 cd14 ct14), sl14⟩)
    (c14 : PySem.W.codeIn K cd14 "is_tuple_of" = true)
    (k14 : PySem.W.keepIn K (.ref f14) = true)
    (a15 : PySem.W.nsIn K mainGlobals "is_ratio" = some (some (.ref f15)))
    (l15 : K.lookup f15 = some ⟨oc15, od15, .func (PySem.W.fnOf "is_ratio" "is_ratio" (defArgs s_is_ratio) (defBody s_is_ratio) (defScope s_is_ratio) .none kV15 dc15 pm15 an15 cd15 ct15), sl15⟩)
    (c15 : PySem.W.codeIn K cd15 "is_ratio" = true)
    (k15 : PySem.W.keepIn K (.ref f15) = true)
    (a16 : PySem.W.nsIn K mainGlobals "minus" = some (some (.ref f16)))
    (l16 : K.lookup f16 = some ⟨oc16, od16, .func (PySem.W.fnOf "minus" "minus" (defArgs s_minus) (defBody s_minus) (defScope s_minus) .none kV16 dc16 pm16 an16 cd16 ct16), sl16⟩)
    (c16 : PySem.W.codeIn K cd16 "minus" = true)
    (k16 : PySem.W.keepIn K (.ref f16) = true)
    (a17 : PySem.W.nsIn K mainGlobals "compare" = some (some (.ref f17)))
    (l17 : K.lookup f17 = some ⟨oc17, od17, .func (PySem.W.fnOf "compare" "compare" (defArgs s_compare) (defBody s_compare) (defScope s_compare) .none kV17 dc17 pm17 an17 cd17 ct17), sl17⟩)
    (c17 : PySem.W.codeIn K cd17 "compare" = true)
    (k17 : PySem.W.keepIn K (.ref f17) = true)
    (a18 : PySem.W.nsIn K mainGlobals "is_spot" = some (some (.ref f18)))
    (l18 : K.lookup f18 = some ⟨oc18, od18, .func (PySem.W.fnOf "is_spot" "is_spot" (defArgs s_is_spot) (defBody s_is_spot) (defScope s_is_spot) .none kV18 dc18 pm18 an18 cd18 ct18), sl18⟩)
    (c18 : PySem.W.codeIn K cd18 "is_spot" = true)
    (k18 : PySem.W.keepIn K (.ref f18) = true)
    (a19 : PySem.W.nsIn K mainGlobals "_values_of" = some (some (.ref f19)))
    (l19 : K.lookup f19 = some ⟨oc19, od19, .func (PySem.W.fnOf "_values_of" "_values_of" (defArgs s__values_of) (defBody s__values_of) (defScope s__values_of) .none kV19 dc19 pm19 an19 cd19 ct19), sl19⟩)
    (c19 : PySem.W.codeIn K cd19 "_values_of" = true)
    (k19 : PySem.W.keepIn K (.ref f19) = true)
    (a20 : PySem.W.nsIn K mainGlobals "higher" = some (some (.ref f20)))
    (l20 : K.lookup f20 = some ⟨oc20, od20, .func (PySem.W.fnOf "higher" "higher" (defArgs s_higher) (defBody s_higher) (defScope s_higher) .none kV20 dc20 pm20 an20 cd20 ct20), sl20⟩)
    (c20 : PySem.W.codeIn K cd20 "higher" = true)
    (k20 : PySem.W.keepIn K (.ref f20) = true)
    (a21 : PySem.W.nsIn K mainGlobals "lower" = some (some (.ref f21)))
    (l21 : K.lookup f21 = some ⟨oc21, od21, .func (PySem.W.fnOf "lower" "lower" (defArgs s_lower) (defBody s_lower) (defScope s_lower) .none kV21 dc21 pm21 an21 cd21 ct21), sl21⟩)
    (c21 : PySem.W.codeIn K cd21 "lower" = true)
    (k21 : PySem.W.keepIn K (.ref f21) = true)
    (a22 : PySem.W.nsIn K mainGlobals "_chosen" = some (some (.ref f22)))
    (l22 : K.lookup f22 = some ⟨oc22, od22, .func (PySem.W.fnOf "_chosen" "_chosen" (defArgs s__chosen) (defBody s__chosen) (defScope s__chosen) .none kV22 dc22 pm22 an22 cd22 ct22), sl22⟩)
    (c22 : PySem.W.codeIn K cd22 "_chosen" = true)
    (k22 : PySem.W.keepIn K (.ref f22) = true)
    (a23 : PySem.W.nsIn K mainGlobals "_ask_for_all" = some (some (.ref f23)))
    (l23 : K.lookup f23 = some ⟨oc23, od23, .func (PySem.W.fnOf "_ask_for_all" "_ask_for_all" (defArgs s__ask_for_all) (defBody s__ask_for_all) (defScope s__ask_for_all) .none kV23 dc23 pm23 an23 cd23 ct23), sl23⟩)
    (c23 : PySem.W.codeIn K cd23 "_ask_for_all" = true)
    (k23 : PySem.W.keepIn K (.ref f23) = true)
    (a24 : PySem.W.nsIn K mainGlobals "_law_bag_of" = some (some (.ref f24)))
    (l24 : K.lookup f24 = some ⟨oc24, od24, .func (PySem.W.fnOf "_law_bag_of" "_law_bag_of" (defArgs s__law_bag_of) (defBody s__law_bag_of) (defScope s__law_bag_of) .none kV24 dc24 pm24 an24 cd24 ct24), sl24⟩)
    (c24 : PySem.W.codeIn K cd24 "_law_bag_of" = true)
    (k24 : PySem.W.keepIn K (.ref f24) = true)
    (a25 : PySem.W.nsIn K mainGlobals "_law_pick" = some (some (.ref f25)))
    (l25 : K.lookup f25 = some ⟨oc25, od25, .func (PySem.W.fnOf "_law_pick" "_law_pick" (defArgs s__law_pick) (defBody s__law_pick) (defScope s__law_pick) .none kV25 dc25 pm25 an25 cd25 ct25), sl25⟩)
    (c25 : PySem.W.codeIn K cd25 "_law_pick" = true)
    (k25 : PySem.W.keepIn K (.ref f25) = true)
    (a26 : PySem.W.nsIn K mainGlobals "_law_choice" = some (some (.ref f26)))
    (l26 : K.lookup f26 = some ⟨oc26, od26, .func (PySem.W.fnOf "_law_choice" "_law_choice" (defArgs s__law_choice) (defBody s__law_choice) (defScope s__law_choice) .none kV26 dc26 pm26 an26 cd26 ct26), sl26⟩)
    (c26 : PySem.W.codeIn K cd26 "_law_choice" = true)
    (k26 : PySem.W.keepIn K (.ref f26) = true)
    (a27 : PySem.W.nsIn K mainGlobals "_law_some" = some (some (.ref f27)))
    (l27 : K.lookup f27 = some ⟨oc27, od27, .func (PySem.W.fnOf "_law_some" "_law_some" (defArgs s__law_some) (defBody s__law_some) (defScope s__law_some) .none kV27 dc27 pm27 an27 cd27 ct27), sl27⟩)
    (c27 : PySem.W.codeIn K cd27 "_law_some" = true)
    (k27 : PySem.W.keepIn K (.ref f27) = true)
    (a28 : PySem.W.nsIn K mainGlobals "_law_shuffled" = some (some (.ref f28)))
    (l28 : K.lookup f28 = some ⟨oc28, od28, .func (PySem.W.fnOf "_law_shuffled" "_law_shuffled" (defArgs s__law_shuffled) (defBody s__law_shuffled) (defScope s__law_shuffled) .none kV28 dc28 pm28 an28 cd28 ct28), sl28⟩)
    (c28 : PySem.W.codeIn K cd28 "_law_shuffled" = true)
    (k28 : PySem.W.keepIn K (.ref f28) = true)
    (a29 : PySem.W.nsIn K mainGlobals "_law_integer" = some (some (.ref f29)))
    (l29 : K.lookup f29 = some ⟨oc29, od29, .func (PySem.W.fnOf "_law_integer" "_law_integer" (defArgs s__law_integer) (defBody s__law_integer) (defScope s__law_integer) .none kV29 dc29 pm29 an29 cd29 ct29), sl29⟩)
    (c29 : PySem.W.codeIn K cd29 "_law_integer" = true)
    (k29 : PySem.W.keepIn K (.ref f29) = true)
    (a30 : PySem.W.nsIn K mainGlobals "_law_gcd" = some (some (.ref f30)))
    (l30 : K.lookup f30 = some ⟨oc30, od30, .func (PySem.W.fnOf "_law_gcd" "_law_gcd" (defArgs s__law_gcd) (defBody s__law_gcd) (defScope s__law_gcd) .none kV30 dc30 pm30 an30 cd30 ct30), sl30⟩)
    (c30 : PySem.W.codeIn K cd30 "_law_gcd" = true)
    (k30 : PySem.W.keepIn K (.ref f30) = true)
    (a31 : PySem.W.nsIn K mainGlobals "_law_ratio" = some (some (.ref f31)))
    (l31 : K.lookup f31 = some ⟨oc31, od31, .func (PySem.W.fnOf "_law_ratio" "_law_ratio" (defArgs s__law_ratio) (defBody s__law_ratio) (defScope s__law_ratio) .none kV31 dc31 pm31 an31 cd31 ct31), sl31⟩)
    (c31 : PySem.W.codeIn K cd31 "_law_ratio" = true)
    (k31 : PySem.W.keepIn K (.ref f31) = true)
    (a32 : PySem.W.nsIn K mainGlobals "_law_is_ratio" = some (some (.ref f32)))
    (l32 : K.lookup f32 = some ⟨oc32, od32, .func (PySem.W.fnOf "_law_is_ratio" "_law_is_ratio" (defArgs s__law_is_ratio) (defBody s__law_is_ratio) (defScope s__law_is_ratio) .none kV32 dc32 pm32 an32 cd32 ct32), sl32⟩)
    (c32 : PySem.W.codeIn K cd32 "_law_is_ratio" = true)
    (k32 : PySem.W.keepIn K (.ref f32) = true)
    (a33 : PySem.W.nsIn K mainGlobals "_law_plus" = some (some (.ref f33)))
    (l33 : K.lookup f33 = some ⟨oc33, od33, .func (PySem.W.fnOf "_law_plus" "_law_plus" (defArgs s__law_plus) (defBody s__law_plus) (defScope s__law_plus) .none kV33 dc33 pm33 an33 cd33 ct33), sl33⟩)
    (c33 : PySem.W.codeIn K cd33 "_law_plus" = true)
    (k33 : PySem.W.keepIn K (.ref f33) = true)
    (a34 : PySem.W.nsIn K mainGlobals "_law_minus" = some (some (.ref f34)))
    (l34 : K.lookup f34 = some ⟨oc34, od34, .func (PySem.W.fnOf "_law_minus" "_law_minus" (defArgs s__law_minus) (defBody s__law_minus) (defScope s__law_minus) .none kV34 dc34 pm34 an34 cd34 ct34), sl34⟩)
    (c34 : PySem.W.codeIn K cd34 "_law_minus" = true)
    (k34 : PySem.W.keepIn K (.ref f34) = true)
    (a35 : PySem.W.nsIn K mainGlobals "_law_less" = some (some (.ref f35)))
    (l35 : K.lookup f35 = some ⟨oc35, od35, .func (PySem.W.fnOf "_law_less" "_law_less" (defArgs s__law_less) (defBody s__law_less) (defScope s__law_less) .none kV35 dc35 pm35 an35 cd35 ct35), sl35⟩)
    (c35 : PySem.W.codeIn K cd35 "_law_less" = true)
    (k35 : PySem.W.keepIn K (.ref f35) = true)
    (a36 : PySem.W.nsIn K mainGlobals "_law_ground" = some (some (.ref f36)))
    (l36 : K.lookup f36 = some ⟨oc36, od36, .func (PySem.W.fnOf "_law_ground" "_law_ground" (defArgs s__law_ground) (defBody s__law_ground) (defScope s__law_ground) .none kV36 dc36 pm36 an36 cd36 ct36), sl36⟩)
    (c36 : PySem.W.codeIn K cd36 "_law_ground" = true)
    (k36 : PySem.W.keepIn K (.ref f36) = true)
    (a37 : PySem.W.nsIn K mainGlobals "_law_word_drawn" = some (some (.ref f37)))
    (l37 : K.lookup f37 = some ⟨oc37, od37, .func (PySem.W.fnOf "_law_word_drawn" "_law_word_drawn" (defArgs s__law_word_drawn) (defBody s__law_word_drawn) (defScope s__law_word_drawn) .none kV37 dc37 pm37 an37 cd37 ct37), sl37⟩)
    (c37 : PySem.W.codeIn K cd37 "_law_word_drawn" = true)
    (k37 : PySem.W.keepIn K (.ref f37) = true)
    (a38 : PySem.W.nsIn K mainGlobals "_law_whole" = some (some (.ref f38)))
    (l38 : K.lookup f38 = some ⟨oc38, od38, .func (PySem.W.fnOf "_law_whole" "_law_whole" (defArgs s__law_whole) (defBody s__law_whole) (defScope s__law_whole) .none kV38 dc38 pm38 an38 cd38 ct38), sl38⟩)
    (c38 : PySem.W.codeIn K cd38 "_law_whole" = true)
    (k38 : PySem.W.keepIn K (.ref f38) = true)
    (a39 : PySem.W.nsIn K mainGlobals "_law_some_spots" = some (some (.ref f39)))
    (l39 : K.lookup f39 = some ⟨oc39, od39, .func (PySem.W.fnOf "_law_some_spots" "_law_some_spots" (defArgs s__law_some_spots) (defBody s__law_some_spots) (defScope s__law_some_spots) .none kV39 dc39 pm39 an39 cd39 ct39), sl39⟩)
    (c39 : PySem.W.codeIn K cd39 "_law_some_spots" = true)
    (k39 : PySem.W.keepIn K (.ref f39) = true)
    (a40 : PySem.W.nsIn K mainGlobals "_law_stranger" = some (some (.ref f40)))
    (l40 : K.lookup f40 = some ⟨oc40, od40, .func (PySem.W.fnOf "_law_stranger" "_law_stranger" (defArgs s__law_stranger) (defBody s__law_stranger) (defScope s__law_stranger) .none kV40 dc40 pm40 an40 cd40 ct40), sl40⟩)
    (c40 : PySem.W.codeIn K cd40 "_law_stranger" = true)
    (k40 : PySem.W.keepIn K (.ref f40) = true)
    (a41 : PySem.W.nsIn K mainGlobals "_law_spot_like" = some (some (.ref f41)))
    (l41 : K.lookup f41 = some ⟨oc41, od41, .func (PySem.W.fnOf "_law_spot_like" "_law_spot_like" (defArgs s__law_spot_like) (defBody s__law_spot_like) (defScope s__law_spot_like) .none kV41 dc41 pm41 an41 cd41 ct41), sl41⟩)
    (c41 : PySem.W.codeIn K cd41 "_law_spot_like" = true)
    (k41 : PySem.W.keepIn K (.ref f41) = true)
    (a42 : PySem.W.nsIn K mainGlobals "_law_drawn_ratio" = some (some (.ref f42)))
    (l42 : K.lookup f42 = some ⟨oc42, od42, .func (PySem.W.fnOf "_law_drawn_ratio" "_law_drawn_ratio" (defArgs s__law_drawn_ratio) (defBody s__law_drawn_ratio) (defScope s__law_drawn_ratio) .none kV42 dc42 pm42 an42 cd42 ct42), sl42⟩)
    (c42 : PySem.W.codeIn K cd42 "_law_drawn_ratio" = true)
    (k42 : PySem.W.keepIn K (.ref f42) = true)
    (a43 : PySem.W.nsIn K mainGlobals "_law_told_well" = some (some (.ref f43)))
    (l43 : K.lookup f43 = some ⟨oc43, od43, .func (PySem.W.fnOf "_law_told_well" "_law_told_well" (defArgs s__law_told_well) (defBody s__law_told_well) (defScope s__law_told_well) .none kV43 dc43 pm43 an43 cd43 ct43), sl43⟩)
    (c43 : PySem.W.codeIn K cd43 "_law_told_well" = true)
    (k43 : PySem.W.keepIn K (.ref f43) = true)
    (a44 : PySem.W.nsIn K mainGlobals "_law_gaps_told_well" = some (some (.ref f44)))
    (l44 : K.lookup f44 = some ⟨oc44, od44, .func (PySem.W.fnOf "_law_gaps_told_well" "_law_gaps_told_well" (defArgs s__law_gaps_told_well) (defBody s__law_gaps_told_well) (defScope s__law_gaps_told_well) .none kV44 dc44 pm44 an44 cd44 ct44), sl44⟩)
    (c44 : PySem.W.codeIn K cd44 "_law_gaps_told_well" = true)
    (k44 : PySem.W.keepIn K (.ref f44) = true)
    (a45 : PySem.W.nsIn K mainGlobals "_law_lacks" = some (some (.ref f45)))
    (l45 : K.lookup f45 = some ⟨oc45, od45, .func (PySem.W.fnOf "_law_lacks" "_law_lacks" (defArgs s__law_lacks) (defBody s__law_lacks) (defScope s__law_lacks) .none kV45 dc45 pm45 an45 cd45 ct45), sl45⟩)
    (c45 : PySem.W.codeIn K cd45 "_law_lacks" = true)
    (k45 : PySem.W.keepIn K (.ref f45) = true)
    (a46 : PySem.W.nsIn K mainGlobals "_law_lookalikes" = some (some (.ref f46)))
    (l46 : K.lookup f46 = some ⟨oc46, od46, .func (PySem.W.fnOf "_law_lookalikes" "_law_lookalikes" (defArgs s__law_lookalikes) (defBody s__law_lookalikes) (defScope s__law_lookalikes) .none kV46 dc46 pm46 an46 cd46 ct46), sl46⟩)
    (c46 : PySem.W.codeIn K cd46 "_law_lookalikes" = true)
    (k46 : PySem.W.keepIn K (.ref f46) = true)
    (a47 : PySem.W.nsIn K mainGlobals "_law_strangers_refused" = some (some (.ref f47)))
    (l47 : K.lookup f47 = some ⟨oc47, od47, .func (PySem.W.fnOf "_law_strangers_refused" "_law_strangers_refused" (defArgs s__law_strangers_refused) (defBody s__law_strangers_refused) (defScope s__law_strangers_refused) .none kV47 dc47 pm47 an47 cd47 ct47), sl47⟩)
    (c47 : PySem.W.codeIn K cd47 "_law_strangers_refused" = true)
    (k47 : PySem.W.keepIn K (.ref f47) = true)
    (a48 : PySem.W.nsIn K mainGlobals "_law_equal_as_due" = some (some (.ref f48)))
    (l48 : K.lookup f48 = some ⟨oc48, od48, .func (PySem.W.fnOf "_law_equal_as_due" "_law_equal_as_due" (defArgs s__law_equal_as_due) (defBody s__law_equal_as_due) (defScope s__law_equal_as_due) .none kV48 dc48 pm48 an48 cd48 ct48), sl48⟩)
    (c48 : PySem.W.codeIn K cd48 "_law_equal_as_due" = true)
    (k48 : PySem.W.keepIn K (.ref f48) = true)
    (a49 : PySem.W.nsIn K mainGlobals "_law_mixed_as_due" = some (some (.ref f49)))
    (l49 : K.lookup f49 = some ⟨oc49, od49, .func (PySem.W.fnOf "_law_mixed_as_due" "_law_mixed_as_due" (defArgs s__law_mixed_as_due) (defBody s__law_mixed_as_due) (defScope s__law_mixed_as_due) .none kV49 dc49 pm49 an49 cd49 ct49), sl49⟩)
    (c49 : PySem.W.codeIn K cd49 "_law_mixed_as_due" = true)
    (k49 : PySem.W.keepIn K (.ref f49) = true)
    (a50 : PySem.W.nsIn K mainGlobals "_law_wrong_pair" = some (some (.ref f50)))
    (l50 : K.lookup f50 = some ⟨oc50, od50, .func (PySem.W.fnOf "_law_wrong_pair" "_law_wrong_pair" (defArgs s__law_wrong_pair) (defBody s__law_wrong_pair) (defScope s__law_wrong_pair) .none kV50 dc50 pm50 an50 cd50 ct50), sl50⟩)
    (c50 : PySem.W.codeIn K cd50 "_law_wrong_pair" = true)
    (k50 : PySem.W.keepIn K (.ref f50) = true)
    (a51 : PySem.W.nsIn K mainGlobals "_law_wrong_rows_refused" = some (some (.ref f51)))
    (l51 : K.lookup f51 = some ⟨oc51, od51, .func (PySem.W.fnOf "_law_wrong_rows_refused" "_law_wrong_rows_refused" (defArgs s__law_wrong_rows_refused) (defBody s__law_wrong_rows_refused) (defScope s__law_wrong_rows_refused) .none kV51 dc51 pm51 an51 cd51 ct51), sl51⟩)
    (c51 : PySem.W.codeIn K cd51 "_law_wrong_rows_refused" = true)
    (k51 : PySem.W.keepIn K (.ref f51) = true)
    (a52 : PySem.W.nsIn K mainGlobals "_law_spots_known" = some (some (.ref f52)))
    (l52 : K.lookup f52 = some ⟨oc52, od52, .func (PySem.W.fnOf "_law_spots_known" "_law_spots_known" (defArgs s__law_spots_known) (defBody s__law_spots_known) (defScope s__law_spots_known) .none kV52 dc52 pm52 an52 cd52 ct52), sl52⟩)
    (c52 : PySem.W.codeIn K cd52 "_law_spots_known" = true)
    (k52 : PySem.W.keepIn K (.ref f52) = true)
    (a53 : PySem.W.nsIn K mainGlobals "ratio" = some (some (.ref f53)))
    (l53 : K.lookup f53 = some ⟨oc53, od53, .func (PySem.W.fnOf "ratio" "ratio" (defArgs s_ratio) (defBody s_ratio) (defScope s_ratio) (.ref TT) kV53 dc53 pm53 an53 cd53 ct53), sl53⟩)
    (lT : K.lookup TT = some ⟨ocT, odT, .seq #[.int 1 tD] nD0, slT⟩)
    (c53 : PySem.W.codeIn K cd53 "ratio" = true)
    (k53 : PySem.W.keepIn K (.ref f53) = true)
    (a54 : PySem.W.nsIn K mainGlobals "law" = some (some (.ref f54)))
    (l54 : K.lookup f54 = some ⟨oc54, od54, .func (PySem.W.fnOf "law" "law" (defArgs s_law) (defBody s_law) (defScope s_law) .none kV54 dc54 pm54 an54 cd54 ct54), sl54⟩)
    (c54 : PySem.W.codeIn K cd54 "law" = true)
    (k54 : PySem.W.keepIn K (.ref f54) = true) :
    ∃ fd : FuncData, (∀ (s : Shared) (v : Value), BindsTo s fd ⟨[v], []⟩ [("_law_script", v)]) ∧ ∀ base : Heap, K.In base → base.Ns mainGlobals mg → FnG P w K mg base 11 fa fd ["_law_script"] (sp_law K) := by
  have e := hfa.symm.trans (PySem.W.mg_of X G a54)
  cases e
  have T : Txt K mg ⟨C_World, C_Nought, C_BadWorld, C_BadSpot, C_NoSpot, C_EllError, aG⟩ :=
    { n_isinstance := PySem.W.mg_none_of X G z_isinstance,
      n_int := PySem.W.mg_none_of X G z_int,
      n_bool := PySem.W.mg_none_of X G z_bool,
      n_tuple := PySem.W.mg_none_of X G z_tuple,
      n_str := PySem.W.mg_none_of X G z_str,
      n_list := PySem.W.mg_none_of X G z_list,
      n_len := PySem.W.mg_none_of X G z_len,
      n_abs := PySem.W.mg_none_of X G z_abs,
      n_range := PySem.W.mg_none_of X G z_range,
      n_enumerate := PySem.W.mg_none_of X G z_enumerate,
      n_iter := PySem.W.mg_none_of X G z_iter,
      n_repr := PySem.W.mg_none_of X G z_repr,
      n_ValueError := PySem.W.mg_none_of X G z_ValueError,
      gcd := PySem.W.mg_of X G zgcd,
      k_GROUND := PySem.W.mg_of X G zz_GROUND,
      t_GROUND := ground_at lGG,
      g_EllError := PySem.W.mg_of X G a_EllError,
      g_Nought := PySem.W.mg_of X G a_Nought,
      no_Nought_number := no_Nought_number,
      i_Nought := ⟨_, _, a1, t1, (fun_mk (st := s_NoughtD_initD) l1 c1 k1), ((fun_mk (st := s_NoughtD_initD) l1 c1 k1).binds (ps := P_NoughtD_initD) fun _ _ _ _ _ _ us hl => match us, hl with | [_, _], _ => rfl)⟩,
      ox_Nought := ⟨⟨nm_Nought, q_Nought, N_Nought, bs_Nought, _, sn_Nought, sub_Nought, ab_Nought, col_Nought, dd_Nought, m0_Nought, m1_Nought, m2_Nought, m3_Nought, m5_Nought, x_Nought, rfl⟩, sa_Nought, eC_Nought, tC_Nought, kC_Nought⟩,
      e_Nought := ⟨ic_Nought, ga_Nought, gt_Nought, eC_Nought, ca_Nought, gg0, tk0, mo_Nought⟩,
      xf_Nought := ⟨ga_Nought, gt_Nought, eC_Nought, hC_Nought⟩,
      kv_Nought := kit_ty2 vC_Nought,
      g_BadWorld := PySem.W.mg_of X G a_BadWorld,
      no_BadWorld_place := no_BadWorld_place,
      i_BadWorld := ⟨_, _, a2, t2, (fun_mk (st := s_BadWorldD_initD) l2 c2 k2), ((fun_mk (st := s_BadWorldD_initD) l2 c2 k2).binds (ps := P_BadWorldD_initD) fun _ _ _ _ _ _ us hl => match us, hl with | [_, _], _ => rfl)⟩,
      ox_BadWorld := ⟨⟨nm_BadWorld, q_BadWorld, N_BadWorld, bs_BadWorld, _, sn_BadWorld, sub_BadWorld, ab_BadWorld, col_BadWorld, dd_BadWorld, m0_BadWorld, m1_BadWorld, m2_BadWorld, m3_BadWorld, m5_BadWorld, x_BadWorld, rfl⟩, sa_BadWorld, eC_BadWorld, tC_BadWorld, kC_BadWorld⟩,
      e_BadWorld := ⟨ic_BadWorld, ga_BadWorld, gt_BadWorld, eC_BadWorld, ca_BadWorld, gg0, tk0, mo_BadWorld⟩,
      xf_BadWorld := ⟨ga_BadWorld, gt_BadWorld, eC_BadWorld, hC_BadWorld⟩,
      kv_BadWorld := kit_ty2 vC_BadWorld,
      g_NoSpot := PySem.W.mg_of X G a_NoSpot,
      no_NoSpot_spot := no_NoSpot_spot,
      i_NoSpot := ⟨_, _, a3, t3, (fun_mk (st := s_NoSpotD_initD) l3 c3 k3), ((fun_mk (st := s_NoSpotD_initD) l3 c3 k3).binds (ps := P_NoSpotD_initD) fun _ _ _ _ _ _ us hl => match us, hl with | [_, _], _ => rfl)⟩,
      ox_NoSpot := ⟨⟨nm_NoSpot, q_NoSpot, N_NoSpot, bs_NoSpot, _, sn_NoSpot, sub_NoSpot, ab_NoSpot, col_NoSpot, dd_NoSpot, m0_NoSpot, m1_NoSpot, m2_NoSpot, m3_NoSpot, m5_NoSpot, x_NoSpot, rfl⟩, sa_NoSpot, eC_NoSpot, tC_NoSpot, kC_NoSpot⟩,
      e_NoSpot := ⟨ic_NoSpot, ga_NoSpot, gt_NoSpot, eC_NoSpot, ca_NoSpot, gg0, tk0, mo_NoSpot⟩,
      xf_NoSpot := ⟨ga_NoSpot, gt_NoSpot, eC_NoSpot, hC_NoSpot⟩,
      kv_NoSpot := kit_ty2 vC_NoSpot,
      g_BadSpot := PySem.W.mg_of X G a_BadSpot,
      kn_NoSpot := kit_no2 ne_NoSpot_BadWorld ne_NoSpot_BadSpot ic_BadWorld tC_BadWorld s_NoSpot_BadWorld ic_BadSpot tC_BadSpot s_NoSpot_BadSpot,
      em_NoSpot := exm_of eC_EllError ic_EllError tC_EllError lC_NoSpot,
      kn_BadWorld := kit_no2 ne_BadWorld_NoSpot ne_BadWorld_BadSpot ic_NoSpot tC_NoSpot s_BadWorld_NoSpot ic_BadSpot tC_BadSpot s_BadWorld_BadSpot,
      em_BadWorld := exm_of eC_EllError ic_EllError tC_EllError lC_BadWorld,
      g_World := PySem.W.mg_of X G a_World,
      ki := ⟨⟨pg, hd, po, sa⟩, ca, gg0, tk0, mo⟩,
      nV := nV,
      nf := all6 (nf_of sb_NoneType) (nf_of sb_bool) (nf_of sb_int) (nf_of sb_str) (nf_of sb_list) (nf_of sb_tuple),
      kit_no := all6 (kit_no1 ic tC sb_NoneType) (kit_no1 ic tC sb_bool) (kit_no1 ic tC sb_int) (kit_no1 ic tC sb_str) (kit_no1 ic tC sb_list) (kit_no1 ic tC sb_tuple),
      i_World := ⟨_, _, ⟨mk, a4, i4, kc⟩, (fun_mk (st := s_WorldD_initD) l4 c4 k4), ((fun_mk (st := s_WorldD_initD) l4 c4 k4).binds (ps := P_WorldD_initD) fun _ _ _ _ _ _ us hl => match us, hl with | [_, _], _ => rfl)⟩,
      o_getitem := ⟨_, _, ⟨a5, i5⟩, fn_at l5, (fun_mk (st := s_WorldD_getitemD) l5 c5 k5), ((fun_mk (st := s_WorldD_getitemD) l5 c5 k5).binds (ps := P_WorldD_getitemD) fun _ _ _ _ _ _ us hl => match us, hl with | [_, _], _ => rfl)⟩,
      o_contains := ⟨_, _, ⟨a6, i6⟩, fn_at l6, (fun_mk (st := s_WorldD_containsD) l6 c6 k6), ((fun_mk (st := s_WorldD_containsD) l6 c6 k6).binds (ps := P_WorldD_containsD) fun _ _ _ _ _ _ us hl => match us, hl with | [_, _], _ => rfl)⟩,
      o_len := ⟨_, _, ⟨a7, i7⟩, fn_at l7, (fun_mk (st := s_WorldD_lenD) l7 c7 k7), ((fun_mk (st := s_WorldD_lenD) l7 c7 k7).binds (ps := P_WorldD_lenD) fun _ _ _ _ _ _ us hl => match us, hl with | [_], _ => rfl)⟩,
      o_eq := ⟨_, _, ⟨a8, i8⟩, fn_at l8, (fun_mk (st := s_WorldD_eqD) l8 c8 k8), ((fun_mk (st := s_WorldD_eqD) l8 c8 k8).binds (ps := P_WorldD_eqD) fun _ _ _ _ _ _ us hl => match us, hl with | [_, _], _ => rfl)⟩,
      o_iter := ⟨_, _, ⟨a9, i9⟩, fn_at l9, (fun_mk (st := s_WorldD_iterD) l9 c9 k9), ((fun_mk (st := s_WorldD_iterD) l9 c9 k9).binds (ps := P_WorldD_iterD) fun _ _ _ _ _ _ us hl => match us, hl with | [_], _ => rfl)⟩,
      m_gap := ⟨_, _, ⟨a10, i10, k10⟩, (fun_mk (st := s_World_gap) l10 c10 k10), ((fun_mk (st := s_World_gap) l10 c10 k10).binds (ps := P_World_gap) fun _ _ _ _ _ _ us hl => match us, hl with | [_, _, _], _ => rfl)⟩,
      m_keeps := ⟨_, _, ⟨a11, i11, k11⟩, (fun_mk (st := s_World_keeps) l11 c11 k11), ((fun_mk (st := s_World_keeps) l11 c11 k11).binds (ps := P_World_keeps) fun _ _ _ _ _ _ us hl => match us, hl with | [_, _], _ => rfl)⟩,
      d_is_integer := ⟨_, _, (fun_mk (st := s_is_integer) l12 c12 k12), PySem.W.mg_of X G a12, ((fun_mk (st := s_is_integer) l12 c12 k12).binds (ps := P_is_integer) fun _ _ _ _ _ _ us hl => match us, hl with | [_], _ => rfl)⟩,
      d_is_row := ⟨_, _, (fun_mk (st := s_is_row) l13 c13 k13), PySem.W.mg_of X G a13, ((fun_mk (st := s_is_row) l13 c13 k13).binds (ps := P_is_row) fun _ _ _ _ _ _ us hl => match us, hl with | [_], _ => rfl)⟩,
      d_is_tuple_of := ⟨_, _, (fun_mk (st := s_is_tuple_of) l14 c14 k14), PySem.W.mg_of X G a14, ((fun_mk (st := s_is_tuple_of) l14 c14 k14).binds (ps := P_is_tuple_of) fun _ _ _ _ _ _ us hl => match us, hl with | [_, _], _ => rfl)⟩,
      d_is_ratio := ⟨_, _, (fun_mk (st := s_is_ratio) l15 c15 k15), PySem.W.mg_of X G a15, ((fun_mk (st := s_is_ratio) l15 c15 k15).binds (ps := P_is_ratio) fun _ _ _ _ _ _ us hl => match us, hl with | [_], _ => rfl)⟩,
      d_minus := ⟨_, _, (fun_mk (st := s_minus) l16 c16 k16), PySem.W.mg_of X G a16, ((fun_mk (st := s_minus) l16 c16 k16).binds (ps := P_minus) fun _ _ _ _ _ _ us hl => match us, hl with | [_, _], _ => rfl)⟩,
      d_compare := ⟨_, _, (fun_mk (st := s_compare) l17 c17 k17), PySem.W.mg_of X G a17, ((fun_mk (st := s_compare) l17 c17 k17).binds (ps := P_compare) fun _ _ _ _ _ _ us hl => match us, hl with | [_, _], _ => rfl)⟩,
      d_is_spot := ⟨_, _, (fun_mk (st := s_is_spot) l18 c18 k18), PySem.W.mg_of X G a18, ((fun_mk (st := s_is_spot) l18 c18 k18).binds (ps := P_is_spot) fun _ _ _ _ _ _ us hl => match us, hl with | [_], _ => rfl)⟩,
      d__values_of := ⟨_, _, (fun_mk (st := s__values_of) l19 c19 k19), PySem.W.mg_of X G a19, ((fun_mk (st := s__values_of) l19 c19 k19).binds (ps := P__values_of) fun _ _ _ _ _ _ us hl => match us, hl with | [_], _ => rfl)⟩,
      d_higher := ⟨_, _, (fun_mk (st := s_higher) l20 c20 k20), PySem.W.mg_of X G a20, ((fun_mk (st := s_higher) l20 c20 k20).binds (ps := P_higher) fun _ _ _ _ _ _ us hl => match us, hl with | [_, _], _ => rfl)⟩,
      d_lower := ⟨_, _, (fun_mk (st := s_lower) l21 c21 k21), PySem.W.mg_of X G a21, ((fun_mk (st := s_lower) l21 c21 k21).binds (ps := P_lower) fun _ _ _ _ _ _ us hl => match us, hl with | [_, _], _ => rfl)⟩,
      d__chosen := ⟨_, _, (fun_mk (st := s__chosen) l22 c22 k22), PySem.W.mg_of X G a22, ((fun_mk (st := s__chosen) l22 c22 k22).binds (ps := P__chosen) fun _ _ _ _ _ _ us hl => match us, hl with | [_, _, _], _ => rfl)⟩,
      d__ask_for_all := ⟨_, _, (fun_mk (st := s__ask_for_all) l23 c23 k23), PySem.W.mg_of X G a23, ((fun_mk (st := s__ask_for_all) l23 c23 k23).binds (ps := P__ask_for_all) fun _ _ _ _ _ _ us hl => match us, hl with | [_, _], _ => rfl)⟩,
      d__law_bag_of := ⟨_, _, (fun_mk (st := s__law_bag_of) l24 c24 k24), PySem.W.mg_of X G a24, ((fun_mk (st := s__law_bag_of) l24 c24 k24).binds (ps := P__law_bag_of) fun _ _ _ _ _ _ us hl => match us, hl with | [_], _ => rfl)⟩,
      d__law_pick := ⟨_, _, (fun_mk (st := s__law_pick) l25 c25 k25), PySem.W.mg_of X G a25, ((fun_mk (st := s__law_pick) l25 c25 k25).binds (ps := P__law_pick) fun _ _ _ _ _ _ us hl => match us, hl with | [_, _], _ => rfl)⟩,
      d__law_choice := ⟨_, _, (fun_mk (st := s__law_choice) l26 c26 k26), PySem.W.mg_of X G a26, ((fun_mk (st := s__law_choice) l26 c26 k26).binds (ps := P__law_choice) fun _ _ _ _ _ _ us hl => match us, hl with | [_, _], _ => rfl)⟩,
      d__law_some := ⟨_, _, (fun_mk (st := s__law_some) l27 c27 k27), PySem.W.mg_of X G a27, ((fun_mk (st := s__law_some) l27 c27 k27).binds (ps := P__law_some) fun _ _ _ _ _ _ us hl => match us, hl with | [_, _], _ => rfl)⟩,
      d__law_shuffled := ⟨_, _, (fun_mk (st := s__law_shuffled) l28 c28 k28), PySem.W.mg_of X G a28, ((fun_mk (st := s__law_shuffled) l28 c28 k28).binds (ps := P__law_shuffled) fun _ _ _ _ _ _ us hl => match us, hl with | [_, _], _ => rfl)⟩,
      d__law_integer := ⟨_, _, (fun_mk (st := s__law_integer) l29 c29 k29), PySem.W.mg_of X G a29, ((fun_mk (st := s__law_integer) l29 c29 k29).binds (ps := P__law_integer) fun _ _ _ _ _ _ us hl => match us, hl with | [_], _ => rfl)⟩,
      d__law_gcd := ⟨_, _, (fun_mk (st := s__law_gcd) l30 c30 k30), PySem.W.mg_of X G a30, ((fun_mk (st := s__law_gcd) l30 c30 k30).binds (ps := P__law_gcd) fun _ _ _ _ _ _ us hl => match us, hl with | [_, _], _ => rfl)⟩,
      d__law_ratio := ⟨_, _, (fun_mk (st := s__law_ratio) l31 c31 k31), PySem.W.mg_of X G a31, ((fun_mk (st := s__law_ratio) l31 c31 k31).binds (ps := P__law_ratio) fun _ _ _ _ _ _ us hl => match us, hl with | [_, _], _ => rfl)⟩,
      d__law_is_ratio := ⟨_, _, (fun_mk (st := s__law_is_ratio) l32 c32 k32), PySem.W.mg_of X G a32, ((fun_mk (st := s__law_is_ratio) l32 c32 k32).binds (ps := P__law_is_ratio) fun _ _ _ _ _ _ us hl => match us, hl with | [_], _ => rfl)⟩,
      d__law_plus := ⟨_, _, (fun_mk (st := s__law_plus) l33 c33 k33), PySem.W.mg_of X G a33, ((fun_mk (st := s__law_plus) l33 c33 k33).binds (ps := P__law_plus) fun _ _ _ _ _ _ us hl => match us, hl with | [_, _], _ => rfl)⟩,
      d__law_minus := ⟨_, _, (fun_mk (st := s__law_minus) l34 c34 k34), PySem.W.mg_of X G a34, ((fun_mk (st := s__law_minus) l34 c34 k34).binds (ps := P__law_minus) fun _ _ _ _ _ _ us hl => match us, hl with | [_, _], _ => rfl)⟩,
      d__law_less := ⟨_, _, (fun_mk (st := s__law_less) l35 c35 k35), PySem.W.mg_of X G a35, ((fun_mk (st := s__law_less) l35 c35 k35).binds (ps := P__law_less) fun _ _ _ _ _ _ us hl => match us, hl with | [_, _], _ => rfl)⟩,
      d__law_ground := ⟨_, _, (fun_mk (st := s__law_ground) l36 c36 k36), PySem.W.mg_of X G a36, ((fun_mk (st := s__law_ground) l36 c36 k36).binds (ps := P__law_ground) fun _ _ _ _ _ _ us hl => match us, hl with | [], _ => rfl)⟩,
      d__law_word_drawn := ⟨_, _, (fun_mk (st := s__law_word_drawn) l37 c37 k37), PySem.W.mg_of X G a37, ((fun_mk (st := s__law_word_drawn) l37 c37 k37).binds (ps := P__law_word_drawn) fun _ _ _ _ _ _ us hl => match us, hl with | [_], _ => rfl)⟩,
      d__law_whole := ⟨_, _, (fun_mk (st := s__law_whole) l38 c38 k38), PySem.W.mg_of X G a38, ((fun_mk (st := s__law_whole) l38 c38 k38).binds (ps := P__law_whole) fun _ _ _ _ _ _ us hl => match us, hl with | [_], _ => rfl)⟩,
      d__law_some_spots := ⟨_, _, (fun_mk (st := s__law_some_spots) l39 c39 k39), PySem.W.mg_of X G a39, ((fun_mk (st := s__law_some_spots) l39 c39 k39).binds (ps := P__law_some_spots) fun _ _ _ _ _ _ us hl => match us, hl with | [_, _], _ => rfl)⟩,
      d__law_stranger := ⟨_, _, (fun_mk (st := s__law_stranger) l40 c40 k40), PySem.W.mg_of X G a40, ((fun_mk (st := s__law_stranger) l40 c40 k40).binds (ps := P__law_stranger) fun _ _ _ _ _ _ us hl => match us, hl with | [_, _], _ => rfl)⟩,
      d__law_spot_like := ⟨_, _, (fun_mk (st := s__law_spot_like) l41 c41 k41), PySem.W.mg_of X G a41, ((fun_mk (st := s__law_spot_like) l41 c41 k41).binds (ps := P__law_spot_like) fun _ _ _ _ _ _ us hl => match us, hl with | [_], _ => rfl)⟩,
      d__law_drawn_ratio := ⟨_, _, (fun_mk (st := s__law_drawn_ratio) l42 c42 k42), PySem.W.mg_of X G a42, ((fun_mk (st := s__law_drawn_ratio) l42 c42 k42).binds (ps := P__law_drawn_ratio) fun _ _ _ _ _ _ us hl => match us, hl with | [_], _ => rfl)⟩,
      d__law_told_well := ⟨_, _, (fun_mk (st := s__law_told_well) l43 c43 k43), PySem.W.mg_of X G a43, ((fun_mk (st := s__law_told_well) l43 c43 k43).binds (ps := P__law_told_well) fun _ _ _ _ _ _ us hl => match us, hl with | [_, _], _ => rfl)⟩,
      d__law_gaps_told_well := ⟨_, _, (fun_mk (st := s__law_gaps_told_well) l44 c44 k44), PySem.W.mg_of X G a44, ((fun_mk (st := s__law_gaps_told_well) l44 c44 k44).binds (ps := P__law_gaps_told_well) fun _ _ _ _ _ _ us hl => match us, hl with | [_, _], _ => rfl)⟩,
      d__law_lacks := ⟨_, _, (fun_mk (st := s__law_lacks) l45 c45 k45), PySem.W.mg_of X G a45, ((fun_mk (st := s__law_lacks) l45 c45 k45).binds (ps := P__law_lacks) fun _ _ _ _ _ _ us hl => match us, hl with | [_, _], _ => rfl)⟩,
      d__law_lookalikes := ⟨_, _, (fun_mk (st := s__law_lookalikes) l46 c46 k46), PySem.W.mg_of X G a46, ((fun_mk (st := s__law_lookalikes) l46 c46 k46).binds (ps := P__law_lookalikes) fun _ _ _ _ _ _ us hl => match us, hl with | [_], _ => rfl)⟩,
      d__law_strangers_refused := ⟨_, _, (fun_mk (st := s__law_strangers_refused) l47 c47 k47), PySem.W.mg_of X G a47, ((fun_mk (st := s__law_strangers_refused) l47 c47 k47).binds (ps := P__law_strangers_refused) fun _ _ _ _ _ _ us hl => match us, hl with | [_, _, _, _], _ => rfl)⟩,
      d__law_equal_as_due := ⟨_, _, (fun_mk (st := s__law_equal_as_due) l48 c48 k48), PySem.W.mg_of X G a48, ((fun_mk (st := s__law_equal_as_due) l48 c48 k48).binds (ps := P__law_equal_as_due) fun _ _ _ _ _ _ us hl => match us, hl with | [_, _, _], _ => rfl)⟩,
      d__law_mixed_as_due := ⟨_, _, (fun_mk (st := s__law_mixed_as_due) l49 c49 k49), PySem.W.mg_of X G a49, ((fun_mk (st := s__law_mixed_as_due) l49 c49 k49).binds (ps := P__law_mixed_as_due) fun _ _ _ _ _ _ us hl => match us, hl with | [_, _, _, _], _ => rfl)⟩,
      d__law_wrong_pair := ⟨_, _, (fun_mk (st := s__law_wrong_pair) l50 c50 k50), PySem.W.mg_of X G a50, ((fun_mk (st := s__law_wrong_pair) l50 c50 k50).binds (ps := P__law_wrong_pair) fun _ _ _ _ _ _ us hl => match us, hl with | [_, _, _], _ => rfl)⟩,
      d__law_wrong_rows_refused := ⟨_, _, (fun_mk (st := s__law_wrong_rows_refused) l51 c51 k51), PySem.W.mg_of X G a51, ((fun_mk (st := s__law_wrong_rows_refused) l51 c51 k51).binds (ps := P__law_wrong_rows_refused) fun _ _ _ _ _ _ us hl => match us, hl with | [_, _], _ => rfl)⟩,
      d__law_spots_known := ⟨_, _, (fun_mk (st := s__law_spots_known) l52 c52 k52), PySem.W.mg_of X G a52, ((fun_mk (st := s__law_spots_known) l52 c52 k52).binds (ps := P__law_spots_known) fun _ _ _ _ _ _ us hl => match us, hl with | [_, _], _ => rfl)⟩,
      d_ratio := ratio_at l53 lT c53 k53 (PySem.W.mg_of X G a53),
      d_law := ⟨_, _, (fun_mk (st := s_law) l54 c54 k54), PySem.W.mg_of X G a54, ((fun_mk (st := s_law) l54 c54 k54).binds (ps := P_law) fun _ _ _ _ _ _ us hl => match us, hl with | [_], _ => rfl)⟩ }
  have FL := (fun_mk (st := s_law) l54 c54 k54)
  exact ⟨PySem.W.fnOf "law" "law" (defArgs s_law) (defBody s_law) (defScope s_law) .none kV54 dc54 pm54 an54 cd54 ct54, fun s v => .of_eq rfl, fun base _ _ => fun_gd FL sc_law (fun vs H Q E h => by obtain ⟨_, p, ns, rfl, _⟩ := h; rfl) (b_law T)⟩
theorem walk {l : PySem.W.OpenLaw} {q : Program} {loose : List Str} {XP : (Str → Option Value) → Heap → Prop} {YP : World → Heap → Prop} {d : DefRec} {K : Params → PySem.W.Frag} (hn : l.most = some 63) (hdf : d.params.defaults = [])
    (hY : ∀ (w : World) (h : Heap), YP w h → (K w.params).In h)
    (F : ∀ (w : World) (mg : Str → Option Value) (fa : Addr) (h : Heap), (K w.params).In h → h.Ns mainGlobals mg → mg d.name = some (.ref fa) →
      ∃ fd : FuncData, (∀ (s : Shared) (u : Value), BindsTo s fd ⟨[u], []⟩ [("_law_script", u)]) ∧ ∀ base : Heap, (K w.params).In base → base.Ns mainGlobals mg → FnG l.prog w (K w.params) mg base 11 fa fd ["_law_script"] (sp_law (K w.params))) :
    PySem.W.WalkO q loose XP YP l.row.toRowW d [] (fun f vs => PySem.call f vs) :=
  walk_G (n := 63) (k := 11) (x := "_law_script") (sp := fun w => sp_law (K w.params)) hn (by decide) hdf ⟨rfl, by decide, by decide⟩ hY F (fun _ _ a ns hl _ hS => ⟨_, a, ns, rfl, hS, by omega, Same.refl _, fun _ => rfl⟩)
end K26

set_option linter.all false
open PySem PySem.W PyProof.Rows
set_option maxRecDepth 100000 in
set_option maxHeartbeats 0 in
theorem PySem.Challenge.cw_ellwarden_k26_worlds_holds : PySem.Challenge.rw_ellwarden_k26_worlds.Holds := by
  w_on; o_law; k_head; (case hw => w_witness2)
  k_fill
  refine K26.walk (l := PySem.Challenge.rw_ellwarden_k26_worlds) rfl rfl (fun w h Y => PySem.W.kIn_of Y) ?F
  case F =>
    intro w mg fa h KX G hmg
    refine' K26.all_mk KX G hmg ?z_isinstance ?z_int ?z_bool ?z_tuple ?z_str ?z_list ?z_len ?z_abs ?z_range ?z_enumerate ?z_iter ?z_repr ?z_ValueError ?zgcd ?zz_GROUND ?lGG ?gg0 ?tk0 ?a_EllError ?ic_EllError ?tC_EllError ?a_Nought ?x_Nought ?sa_Nought ?ga_Nought ?gt_Nought ?ca_Nought ?kC_Nought ?eC_Nought ?vC_Nought ?lC_Nought ?tC_Nought ?hC_Nought ?ic_Nought ?mo_Nought ?no_Nought_number ?a1 ?t1 ?l1 ?c1 ?k1 ?a_BadWorld ?x_BadWorld ?sa_BadWorld ?ga_BadWorld ?gt_BadWorld ?ca_BadWorld ?kC_BadWorld ?eC_BadWorld ?vC_BadWorld ?lC_BadWorld ?tC_BadWorld ?hC_BadWorld ?ic_BadWorld ?mo_BadWorld ?no_BadWorld_place ?a2 ?t2 ?l2 ?c2 ?k2 ?a_NoSpot ?x_NoSpot ?sa_NoSpot ?ga_NoSpot ?gt_NoSpot ?ca_NoSpot ?kC_NoSpot ?eC_NoSpot ?vC_NoSpot ?lC_NoSpot ?tC_NoSpot ?hC_NoSpot ?ic_NoSpot ?mo_NoSpot ?no_NoSpot_spot ?a3 ?t3 ?l3 ?c3 ?k3 ?a_BadSpot ?ic_BadSpot ?tC_BadSpot ?eC_EllError ?s_NoSpot_BadWorld ?ne_NoSpot_BadWorld ?s_NoSpot_BadSpot ?ne_NoSpot_BadSpot ?s_BadWorld_NoSpot ?ne_BadWorld_NoSpot ?s_BadWorld_BadSpot ?ne_BadWorld_BadSpot ?a_World ?pg ?hd ?po ?sa ?ca ?mo ?nV ?ic ?tC ?mk ?kc ?sb_NoneType ?sb_bool ?sb_int ?sb_str ?sb_list ?sb_tuple ?a4 ?i4 ?l4 ?c4 ?k4 ?a5 ?i5 ?l5 ?c5 ?k5 ?a6 ?i6 ?l6 ?c6 ?k6 ?a7 ?i7 ?l7 ?c7 ?k7 ?a8 ?i8 ?l8 ?c8 ?k8 ?a9 ?i9 ?l9 ?c9 ?k9 ?a10 ?i10 ?l10 ?c10 ?k10 ?a11 ?i11 ?l11 ?c11 ?k11 ?a12 ?l12 ?c12 ?k12 ?a13 ?l13 ?c13 ?k13 ?a14 ?l14 ?c14 ?k14 ?a15 ?l15 ?c15 ?k15 ?a16 ?l16 ?c16 ?k16 ?a17 ?l17 ?c17 ?k17 ?a18 ?l18 ?c18 ?k18 ?a19 ?l19 ?c19 ?k19 ?a20 ?l20 ?c20 ?k20 ?a21 ?l21 ?c21 ?k21 ?a22 ?l22 ?c22 ?k22 ?a23 ?l23 ?c23 ?k23 ?a24 ?l24 ?c24 ?k24 ?a25 ?l25 ?c25 ?k25 ?a26 ?l26 ?c26 ?k26 ?a27 ?l27 ?c27 ?k27 ?a28 ?l28 ?c28 ?k28 ?a29 ?l29 ?c29 ?k29 ?a30 ?l30 ?c30 ?k30 ?a31 ?l31 ?c31 ?k31 ?a32 ?l32 ?c32 ?k32 ?a33 ?l33 ?c33 ?k33 ?a34 ?l34 ?c34 ?k34 ?a35 ?l35 ?c35 ?k35 ?a36 ?l36 ?c36 ?k36 ?a37 ?l37 ?c37 ?k37 ?a38 ?l38 ?c38 ?k38 ?a39 ?l39 ?c39 ?k39 ?a40 ?l40 ?c40 ?k40 ?a41 ?l41 ?c41 ?k41 ?a42 ?l42 ?c42 ?k42 ?a43 ?l43 ?c43 ?k43 ?a44 ?l44 ?c44 ?k44 ?a45 ?l45 ?c45 ?k45 ?a46 ?l46 ?c46 ?k46 ?a47 ?l47 ?c47 ?k47 ?a48 ?l48 ?c48 ?k48 ?a49 ?l49 ?c49 ?k49 ?a50 ?l50 ?c50 ?k50 ?a51 ?l51 ?c51 ?k51 ?a52 ?l52 ?c52 ?k52 ?a53 ?l53 ?lT ?c53 ?k53 ?a54 ?l54 ?c54 ?k54
    (case z_isinstance => k_is)
    (case z_int => k_is)
    (case z_bool => k_is)
    (case z_tuple => k_is)
    (case z_str => k_is)
    (case z_list => k_is)
    (case z_len => k_is)
    (case z_abs => k_is)
    (case z_range => k_is)
    (case z_enumerate => k_is)
    (case z_iter => k_is)
    (case z_repr => k_is)
    (case z_ValueError => k_is)
    (case zgcd => k_is)
    (case zz_GROUND => k_is)
    (case lGG => k_is)
    (case gg0 => k_is)
    (case tk0 => k_is)
    (case a_EllError => k_is)
    (case ic_EllError => k_is)
    (case tC_EllError => k_is)
    (case a_Nought => k_is)
    (case x_Nought => k_is)
    (case sa_Nought => k_is)
    (case ga_Nought => k_is)
    (case gt_Nought => k_is)
    (case ca_Nought => k_is)
    (case kC_Nought => k_is)
    (case eC_Nought => k_is)
    (case vC_Nought => k_is)
    (case lC_Nought => k_is)
    (case tC_Nought => k_is)
    (case hC_Nought => k_is)
    (case ic_Nought => k_is)
    (case mo_Nought => k_is)
    (case no_Nought_number => k_is)
    (case a1 => k_is)
    (case t1 => k_is)
    (case l1 => k_is)
    (case c1 => k_is)
    (case k1 => k_is)
    (case a_BadWorld => k_is)
    (case x_BadWorld => k_is)
    (case sa_BadWorld => k_is)
    (case ga_BadWorld => k_is)
    (case gt_BadWorld => k_is)
    (case ca_BadWorld => k_is)
    (case kC_BadWorld => k_is)
    (case eC_BadWorld => k_is)
    (case vC_BadWorld => k_is)
    (case lC_BadWorld => k_is)
    (case tC_BadWorld => k_is)
    (case hC_BadWorld => k_is)
    (case ic_BadWorld => k_is)
    (case mo_BadWorld => k_is)
    (case no_BadWorld_place => k_is)
    (case a2 => k_is)
    (case t2 => k_is)
    (case l2 => k_is)
    (case c2 => k_is)
    (case k2 => k_is)
    (case a_NoSpot => k_is)
    (case x_NoSpot => k_is)
    (case sa_NoSpot => k_is)
    (case ga_NoSpot => k_is)
    (case gt_NoSpot => k_is)
    (case ca_NoSpot => k_is)
    (case kC_NoSpot => k_is)
    (case eC_NoSpot => k_is)
    (case vC_NoSpot => k_is)
    (case lC_NoSpot => k_is)
    (case tC_NoSpot => k_is)
    (case hC_NoSpot => k_is)
    (case ic_NoSpot => k_is)
    (case mo_NoSpot => k_is)
    (case no_NoSpot_spot => k_is)
    (case a3 => k_is)
    (case t3 => k_is)
    (case l3 => k_is)
    (case c3 => k_is)
    (case k3 => k_is)
    (case a_BadSpot => k_is)
    (case ic_BadSpot => k_is)
    (case tC_BadSpot => k_is)
    (case eC_EllError => k_is)
    (case s_NoSpot_BadWorld => k_is)
    (case ne_NoSpot_BadWorld => decide)
    (case s_NoSpot_BadSpot => k_is)
    (case ne_NoSpot_BadSpot => decide)
    (case s_BadWorld_NoSpot => k_is)
    (case ne_BadWorld_NoSpot => decide)
    (case s_BadWorld_BadSpot => k_is)
    (case ne_BadWorld_BadSpot => decide)
    (case a_World => k_is)
    (case pg => k_is)
    (case hd => k_is)
    (case po => k_is)
    (case sa => k_is)
    (case ca => k_is)
    (case mo => k_is)
    (case nV => k_is)
    (case ic => k_is)
    (case tC => k_is)
    (case mk => k_is)
    (case kc => k_is)
    (case sb_NoneType => k_is)
    (case sb_bool => k_is)
    (case sb_int => k_is)
    (case sb_str => k_is)
    (case sb_list => k_is)
    (case sb_tuple => k_is)
    (case a4 => k_is)
    (case i4 => k_is)
    (case l4 => k_is)
    (case c4 => k_is)
    (case k4 => k_is)
    (case a5 => k_is)
    (case i5 => k_is)
    (case l5 => k_is)
    (case c5 => k_is)
    (case k5 => k_is)
    (case a6 => k_is)
    (case i6 => k_is)
    (case l6 => k_is)
    (case c6 => k_is)
    (case k6 => k_is)
    (case a7 => k_is)
    (case i7 => k_is)
    (case l7 => k_is)
    (case c7 => k_is)
    (case k7 => k_is)
    (case a8 => k_is)
    (case i8 => k_is)
    (case l8 => k_is)
    (case c8 => k_is)
    (case k8 => k_is)
    (case a9 => k_is)
    (case i9 => k_is)
    (case l9 => k_is)
    (case c9 => k_is)
    (case k9 => k_is)
    (case a10 => k_is)
    (case i10 => k_is)
    (case l10 => k_is)
    (case c10 => k_is)
    (case k10 => k_is)
    (case a11 => k_is)
    (case i11 => k_is)
    (case l11 => k_is)
    (case c11 => k_is)
    (case k11 => k_is)
    (case a12 => k_is)
    (case l12 => k_is)
    (case c12 => k_is)
    (case k12 => k_is)
    (case a13 => k_is)
    (case l13 => k_is)
    (case c13 => k_is)
    (case k13 => k_is)
    (case a14 => k_is)
    (case l14 => k_is)
    (case c14 => k_is)
    (case k14 => k_is)
    (case a15 => k_is)
    (case l15 => k_is)
    (case c15 => k_is)
    (case k15 => k_is)
    (case a16 => k_is)
    (case l16 => k_is)
    (case c16 => k_is)
    (case k16 => k_is)
    (case a17 => k_is)
    (case l17 => k_is)
    (case c17 => k_is)
    (case k17 => k_is)
    (case a18 => k_is)
    (case l18 => k_is)
    (case c18 => k_is)
    (case k18 => k_is)
    (case a19 => k_is)
    (case l19 => k_is)
    (case c19 => k_is)
    (case k19 => k_is)
    (case a20 => k_is)
    (case l20 => k_is)
    (case c20 => k_is)
    (case k20 => k_is)
    (case a21 => k_is)
    (case l21 => k_is)
    (case c21 => k_is)
    (case k21 => k_is)
    (case a22 => k_is)
    (case l22 => k_is)
    (case c22 => k_is)
    (case k22 => k_is)
    (case a23 => k_is)
    (case l23 => k_is)
    (case c23 => k_is)
    (case k23 => k_is)
    (case a24 => k_is)
    (case l24 => k_is)
    (case c24 => k_is)
    (case k24 => k_is)
    (case a25 => k_is)
    (case l25 => k_is)
    (case c25 => k_is)
    (case k25 => k_is)
    (case a26 => k_is)
    (case l26 => k_is)
    (case c26 => k_is)
    (case k26 => k_is)
    (case a27 => k_is)
    (case l27 => k_is)
    (case c27 => k_is)
    (case k27 => k_is)
    (case a28 => k_is)
    (case l28 => k_is)
    (case c28 => k_is)
    (case k28 => k_is)
    (case a29 => k_is)
    (case l29 => k_is)
    (case c29 => k_is)
    (case k29 => k_is)
    (case a30 => k_is)
    (case l30 => k_is)
    (case c30 => k_is)
    (case k30 => k_is)
    (case a31 => k_is)
    (case l31 => k_is)
    (case c31 => k_is)
    (case k31 => k_is)
    (case a32 => k_is)
    (case l32 => k_is)
    (case c32 => k_is)
    (case k32 => k_is)
    (case a33 => k_is)
    (case l33 => k_is)
    (case c33 => k_is)
    (case k33 => k_is)
    (case a34 => k_is)
    (case l34 => k_is)
    (case c34 => k_is)
    (case k34 => k_is)
    (case a35 => k_is)
    (case l35 => k_is)
    (case c35 => k_is)
    (case k35 => k_is)
    (case a36 => k_is)
    (case l36 => k_is)
    (case c36 => k_is)
    (case k36 => k_is)
    (case a37 => k_is)
    (case l37 => k_is)
    (case c37 => k_is)
    (case k37 => k_is)
    (case a38 => k_is)
    (case l38 => k_is)
    (case c38 => k_is)
    (case k38 => k_is)
    (case a39 => k_is)
    (case l39 => k_is)
    (case c39 => k_is)
    (case k39 => k_is)
    (case a40 => k_is)
    (case l40 => k_is)
    (case c40 => k_is)
    (case k40 => k_is)
    (case a41 => k_is)
    (case l41 => k_is)
    (case c41 => k_is)
    (case k41 => k_is)
    (case a42 => k_is)
    (case l42 => k_is)
    (case c42 => k_is)
    (case k42 => k_is)
    (case a43 => k_is)
    (case l43 => k_is)
    (case c43 => k_is)
    (case k43 => k_is)
    (case a44 => k_is)
    (case l44 => k_is)
    (case c44 => k_is)
    (case k44 => k_is)
    (case a45 => k_is)
    (case l45 => k_is)
    (case c45 => k_is)
    (case k45 => k_is)
    (case a46 => k_is)
    (case l46 => k_is)
    (case c46 => k_is)
    (case k46 => k_is)
    (case a47 => k_is)
    (case l47 => k_is)
    (case c47 => k_is)
    (case k47 => k_is)
    (case a48 => k_is)
    (case l48 => k_is)
    (case c48 => k_is)
    (case k48 => k_is)
    (case a49 => k_is)
    (case l49 => k_is)
    (case c49 => k_is)
    (case k49 => k_is)
    (case a50 => k_is)
    (case l50 => k_is)
    (case c50 => k_is)
    (case k50 => k_is)
    (case a51 => k_is)
    (case l51 => k_is)
    (case c51 => k_is)
    (case k51 => k_is)
    (case a52 => k_is)
    (case l52 => k_is)
    (case c52 => k_is)
    (case k52 => k_is)
    (case a53 => k_is)
    (case l53 => k_is)
    (case lT => k_is)
    (case c53 => k_is)
    (case k53 => k_is)
    (case a54 => k_is)
    (case l54 => k_is)
    (case c54 => k_is)
    (case k54 => k_is)
