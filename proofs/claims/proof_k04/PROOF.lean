import PyProof.Rows.All
import Wide.All
import OpenK.AllK
import Wide.FinOn
import HandS.ForMost
import HandS.ForExc
import HandS.TryMany
import HandS.ExcInit
import HandS.ExcField
import HandS.ExcIs
import HandS.IsInst
import KE.KExcIs
import KE.KOpsOwn
import HandS.OwnEq
import HandS.Wide
import HandS.Gcd
import HandS.TupMul
import HandS.Zip
import HandS.Defaults
import HandS.Walk
import HandS.ClsMeth
import PySem.Challenge.RW_ellwarden_k04_amounts
import HandS.Style
set_option Elab.async false
set_option linter.all false
set_option maxRecDepth 100000
set_option maxHeartbeats 4000000
/-! a try with several clauses, each with a name or without -/
namespace Ew
open PySem PySem.Spec PyProof.Rows L2
/-- one clause: what it names, the slot of its name, what its suite asks -/
abbrev Cl1 := Value × Option Nat × (Addr → Value → Option Addr → TS)
/-- behind a suite the slot of its name is empty -/
def Emp : Option Nat → Ends → Ends
  | none, D => D
  | some i, D => ⟨fun t G => D.nx (t.set i none) G, D.rt, fun t G => D.bk (t.set i none) G, fun t G => D.ct (t.set i none) G⟩
def bindAt : Option Nat → Addr → L2.St → L2.St
  | none, _, σ => σ
  | some i, a, σ => σ.set i (some (.ref a))
def wN (K : PySem.W.Frag) (Wo : WX) (D : Ends) : List Cl1 → WX
  | [] => Wo
  | (c, i, ts) :: r => fun cls d σ H => ∃ b, PySem.W.exmOne K cls c = some b ∧ (b = true → ∀ a, H a = none → ts a cls d (Emp i D) (bindAt i a σ) H) ∧ (b = false → wN K Wo D r cls d σ H)
/-- a suite keeps its reading whatever exception it holds -/
def SuiteOk (X : Cx) (sts : List Stmt) (ts : Addr → Value → Option Addr → TS) : Prop := ∀ a oe cls d pn, Zc cls d oe → (∃ vs, oe.data = .fields vs) → PSs (X.suite a ((a, oe) :: pn)) sts (ts a cls d)
inductive HdsN (X : Cx) : List ExceptHandler → List Cl1 → Prop
  | nil : HdsN X [] []
  | pl {x : Str} {c : Value} {ts b sts p q hs l} : Names X x c → SuiteOk X (b :: sts) ts → HdsN X hs l → HdsN X (.ExceptHandler (some (.Name x p)) none (b :: sts) q :: hs) ((c, none, ts) :: l)
  | nm {x n : Str} {i : Nat} {c : Value} {ts b sts p q hs l} : X.N[i]? = some n → X.env.kindOf n = some .local → Names X x c → SuiteOk X (b :: sts) ts → HdsN X hs l → HdsN X (.ExceptHandler (some (.Name x p)) (some n) (b :: sts) q :: hs) ((c, some i, ts) :: l)
section
variable {X : Cx} {pins : List (Addr × Obj)} {σ : L2.St} {H : Hp} {a : Addr} {cls : Value} {d : Option Addr} {D : Ends} {s : Shared} {Wo : WX}
/-- an exception lies at a, looked at by the frame's own handlers -/
structure Caught (X : Cx) (pins : List (Addr × Obj)) (σ : L2.St) (H : Hp) (a : Addr) (cls : Value) (d : Option Addr) (s : Shared) : Prop where
  ok : X.Ok
  st : X.stack = X.env :: X.outer
  fr : X.env.frame = some X.env.locals
  free : H a = none
  rest : ∃ B sI, Inv X pins σ H sI ∧ (∀ b o, sI.heap.get? b = some o → b ∉ frs X.stack → B.get? b = some o) ∧ sI.heap.UpToSlots s.heap ∧ s.os = sI.os ∧ AllBare s.gens ∧ HandSPX.FlyingZ B (X.env :: X.outer) a (Zc cls d) s.heap
theorem Caught.inv (c : Caught X pins σ H a cls d s) : Inv X pins σ H s := by
  obtain ⟨B, sI, J, nb, up, os, ag, fl⟩ := c.rest
  obtain ⟨hp, g, dr, t, o⟩ := s
  exact J.landed nb fl.1 up os ag
theorem Caught.off (c : Caught X pins σ H a cls d s) : a ∉ frs (X.env :: X.outer) := fun hm => by
  obtain ⟨B, sI, J, nb, up, os, ag, fl⟩ := c.rest
  obtain ⟨o, vs, e, z, q⟩ := fl.there
  obtain ⟨_, o', e', w⟩ := fl.2.2.1.mem hm
  obtain rfl := Option.some.inj (e.symm.trans e')
  exact w _ q
theorem Caught.held (c : Caught X pins σ H a cls d s) : ∃ oe, s.heap.get? a = some oe ∧ Zc cls d oe ∧ (∃ vs, oe.data = .fields vs) ∧ Inv (X.suite a ((a, oe) :: (X.pn ++ pins))) [] σ H s := by
  obtain ⟨B, sI, J, nb, up, os, ag, fl⟩ := id c.rest
  obtain ⟨oe, vs, e, z, q⟩ := fl.there
  refine ⟨oe, e, z, ⟨vs, q⟩, c.inv.suite e q c.free (fun h => c.off ?_) fun h => c.off ?_⟩
  · exact List.mem_filterMap.mpr ⟨_, List.mem_cons_self, c.fr.trans (congrArg some h.symm)⟩
  · obtain ⟨y, hy, w⟩ := List.mem_filterMap.mp h
    exact List.mem_filterMap.mpr ⟨y, List.mem_cons_of_mem _ hy, w⟩
/-- the clause's class is looked at -/
theorem Caught.asks (c : Caught X pins σ H a cls d s) {x : Str} {p : Pos} {v : Value} (n : Names X x v) {Q E : Value → Shared → Prop} (q : Q v s) :
    wpAny (model X.prog X.w) (X.A.mark (some (.ref a))) (eval (.Name x p) X.env) Q E s := by
  obtain ⟨oe, _, _, _, S⟩ := c.held
  obtain ⟨g, db, m | ⟨m, v', nn⟩⟩ := n
  · exact ld_glob (X := X.suite a ((a, oe) :: (X.pn ++ pins))) S g m q db
  · exact ld_blt (X := X.suite a ((a, oe) :: (X.pn ++ pins))) S g m v' q nn db
theorem Caught.judged (c : Caught X pins σ H a cls d s) {v : Value} {b : Bool} (h : PySem.W.exmOne X.K cls v = some b) : PySem.W.Looks (model X.prog X.w) s.heap (excMatches (.ref a) v) b := by
  obtain ⟨oe, e, z, _, _⟩ := c.held
  exact PySem.W.exm_one c.inv.kIn (fun _ _ _ _ k q => wpAny_typeOf_ref (k _ _ e) (z.1.symm ▸ q)) h
/-- what behind the suite is left of an end -/
theorem Caught.done (c : Caught X pins σ H a cls d s) {oe : Obj} {i : Option Nat} {f : Flow} {s' : Shared} (hN : X.N.Nodup) {n : Str} (hn : ∀ j, i = some j → X.N[j]? = some n ∧ X.env.kindOf n = some .local)
    (h : SP (X.suite a ((a, oe) :: (X.pn ++ pins))) [] (Emp i D) f s') {p : Pos} :
    (i = none → SP X pins D f s') ∧ (i ≠ none → wpAny (model X.prog X.w) X.A (do bindName X.env n .none; unbindBehindTheSuite X.env n p) (fun _ s7 => SP X pins D f s7) X.xe s') := by
  cases i with
  | none =>
    refine ⟨fun _ => ?_, fun z => absurd rfl z⟩
    cases f <;> first
      | (obtain ⟨σ6, H6, S, q⟩ := h; exact ⟨σ6, H6, S.unsuite c.ok, q⟩)
      | (obtain ⟨v, σ6, H6, S, r, q⟩ := h; exact ⟨v, σ6, H6, S.unsuite c.ok, r, q⟩)
  | some j =>
    obtain ⟨hj, hk⟩ := hn j rfl
    refine ⟨fun z => (nomatch z), fun _ => ?_⟩
    cases f <;> first
      | (obtain ⟨σ6, H6, S, q⟩ := h; exact gone_ok (S.unsuite c.ok) hN hj hk fun s7 J => ⟨_, _, J, q⟩)
      | (obtain ⟨v, σ6, H6, S, r, q⟩ := h; exact gone_ok (S.unsuite c.ok) hN hj hk fun s7 J => ⟨_, _, _, J, r, q⟩)
/-- the clauses, one after the other -/
theorem Caught.handled {pos : Pos} (hN : X.N.Nodup) (tk : Takes X Wo) : ∀ {hs : List ExceptHandler} {l : List Cl1}, HdsN X hs l → ∀ {s : Shared}, Caught X pins σ H a cls d s → wN X.K Wo D l cls d σ H →
    wpAny (model X.prog X.w) X.A (handleBy (.ref a) X.env hs) (SP X pins D) X.xe s
  | _, _, .nil, s, c, w => by
    obtain ⟨B, sI, J, nb, up, os, ag, fl⟩ := id c.rest
    obtain ⟨_, _, _, oe, vs, T, oT, ts', he, hz, hd, h1, hr⟩ := id fl
    refine wpAny_handleBy_nil ?_
    have up2 : wpAny (model X.prog X.w) X.A (setFlight (.ref a) X.env.frame) (fun _ s4 => wpAny (model X.prog X.w) X.A (throw (.ref a) : Sem Flow) (SP X pins D) X.xe s4) X.xe s := by
      obtain ⟨hp, g, dr, t, o⟩ := s
      rw [c.fr]
      refine HandSPX.setFlight_upZ fl fun h4 hh4 u4 => wpAny_throw (tk _ _ ⟨a, B, sI, pins, σ, H, cls, d, rfl, J, nb, up.trans u4, .inr (.inr ?_), c.free, os, ag, w⟩)
      rw [c.st]
      exact hh4
    unfold PySem.passOn
    refine wpAny_bind (wpAny_field he hd h1 ?_)
    rw [if_neg (fun z => by simp at z)]
    first
      | exact wpAny_bind (wpAny_pure (wpAny_bind up2))
      | exact wpAny_bind up2
  | _, _, .pl hc hsu r, s, c, w => by
    obtain ⟨b, e, yes, no⟩ := w
    refine wpAny_handleBy_cons (codeAny_handlers_test (c.asks hc ((c.judged e).here ?_))) (fun q => nomatch q)
    cases b with
    | false => exact Caught.handled (pos := pos) hN tk r c (no rfl)
    | true =>
      refine codeAny_handlers_suite ?_
      obtain ⟨B, sI, J, nb, up, os, ag, fl⟩ := id c.rest
      obtain ⟨hp, g, dr, t, o⟩ := s
      refine HandSPX.lands_againZ fl fun h4 fl4 u4 => ?_
      have c4 : Caught X pins σ H a cls d ⟨h4, g, dr, t, o⟩ := ⟨c.ok, c.st, c.fr, c.free, B, sI, J, nb, up.trans u4, os, ag, fl4⟩
      obtain ⟨oe, _, z, q, S⟩ := c4.held
      exact wpAny_mono ((hsu a oe cls d _ z q).run [] _ _ H _ S (yes rfl a c.free)) (fun f s6 h => (c4.done (i := none) (n := "") (p := pos) hN (fun _ z => (nomatch z)) h).1 rfl) fun _ _ z => z.elim
  | _, _, .nm hi hl hc hsu r, s, c, w => by
    obtain ⟨b, e, yes, no⟩ := w
    refine wpAny_handleBy_cons (codeAny_handlers_test (c.asks hc ((c.judged e).here ?_))) (fun q => nomatch q)
    cases b with
    | false => exact Caught.handled (pos := pos) hN tk r c (no rfl)
    | true =>
      refine codeAny_handlers_suite_as ?_
      obtain ⟨B, sI, J, nb, up, os, ag, fl⟩ := id c.rest
      obtain ⟨hp, g, dr, t, o⟩ := s
      refine HandSPX.lands_againZ fl fun h4 fl4 u4 => ?_
      have c4 : Caught X pins σ H a cls d ⟨h4, g, dr, t, o⟩ := ⟨c.ok, c.st, c.fr, c.free, B, sI, J, nb, up.trans u4, os, ag, fl4⟩
      obtain ⟨oe, _, z, q, S⟩ := c4.held
      refine store_ok (X := X.suite a ((a, oe) :: (X.pn ++ pins))) (v := .ref a) S hN hi (.inl hl) rfl (fun s5 S5 => ?_) (.inr hl)
      exact wpAny_mono ((hsu a oe cls d _ z q).run [] s5 _ H _ S5 (yes rfl a c.free)) (fun f s6 h => (c4.done (i := some _) hN (fun j e => by cases e; exact ⟨hi, hl⟩) h).2 (fun z => (nomatch z))) fun _ _ z => z.elim
/-- try: body / several clauses -/
theorem ps_tryN {body : List Stmt} {h0 : ExceptHandler} {hs : List ExceptHandler} {l : List Cl1} {pos : Pos} {tb : WX → TS} (hst : X.stack = X.env :: X.outer) (hfr : X.env.frame = some X.env.locals) (hN : X.N.Nodup) (tk : Takes X Wo)
    (hb : ∀ (W : WX) (pn : List (Addr × Obj)) (xe : Value → Shared → Prop), Takes (X.tr pn xe) W → PassesOwn (model X.prog X.w) X.A X.env xe → PSs (X.tr pn xe) body (tb W)) (hh : HdsN X (h0 :: hs) l) :
    PS X (.Try body (h0 :: hs) [] [] pos) (fun D σ H => tb (wN X.K Wo D l) D σ H) := ⟨fun pins s σ H D I h => by
  have ok := I.ok
  let xe : Value → Shared → Prop := fun e s₁ => wpAny (model X.prog X.w) X.A (noteFrame e X.env) (fun _ s₂ => wpAny (model X.prog X.w) X.A (setFlight e none) (fun _ s₃ => wpAny (model X.prog X.w) X.A (handleBy e X.env (h0 :: hs)) (SP X pins D) X.xe s₃) X.xe s₂) X.xe s₁
  have tk2 : Takes (X.tr (X.pn ++ pins) xe) (wN X.K Wo D l) := fun u s' ⟨a, B, sI, pins', σ', H', cls, d, e, J', nb, up, sky, na, os, ag, w⟩ => by
    subst e
    have sky2 : Sky B (X.env :: X.outer) a (Zc cls d) X.env.locals s'.heap := by rw [← hst]; exact sky
    obtain ⟨hp, g, dr, t, o⟩ := s'
    refine Sky.land Zc.steady (ok.frames.trans (congrArg some hst)) hfr sky2 fun h3 fl u3 => ?_
    exact Caught.handled (pos := pos) hN tk hh ⟨ok, hst, hfr, na, B, sI, J'.ofTry ok, nb, up.trans u3, os, ag, fl⟩ w
  refine wpAny_Try_except (wpAny_mono ((hb _ _ xe tk2 PassesOwn.looking).run [] s σ H D (I.toTry _) h) (fun f s1 q => ?_) fun _ _ z => z)
  cases f <;> first
    | (obtain ⟨σ', H', J, q⟩ := q; exact wpAny_execs_nil ⟨σ', H', J.ofTry ok, q⟩)
    | (obtain ⟨σ', H', J, q⟩ := q; exact ⟨σ', H', J.ofTry ok, q⟩)
    | (obtain ⟨v, σ', H', J, r, q⟩ := q; exact ⟨v, σ', H', J.ofTry ok, r, q⟩)⟩
end
end Ew

set_option Elab.async false
set_option linter.all false
set_option maxRecDepth 100000
set_option maxHeartbeats 4000000
namespace Ew
open PySem PySem.Spec PyProof.Rows L2
/-- what the text's class D of an error says -/
structure ErrC (K : PySem.W.Frag) (D : Addr) : Prop where
  cl : (PySem.W.clsIn K D).isSome = true
  ga : PySem.W.findIn K (.ref D) "__getattribute__" = some (some (.builtin "BaseException.__getattribute__"))
  gt : PySem.W.findIn K (.ref D) "__getattr__" = some none
  sb : PySem.W.subIn K (.ref D) (.type "BaseException") = some true
  ca : PySem.W.findIn K (.ref D) "__class__" = some (some (.builtin "object.__class__"))
  gg : PySem.W.specialIn K (.builtin "object.__class__") "__get__" = some (some (.builtin "getset_descriptor.__get__"))
  tk : PySem.W.takesIn K (.builtin "object.__class__") = some true
  mo : PySem.W.mroIn K D (.type "object") = some true
section
variable {X : Cx} {a D : Addr} {oe : Obj} {pn : List (Addr × Obj)} {d : Option Addr}
theorem err_kit (C : ErrC X.K D) (hz : Zc (.ref D) d oe) (hf : ∃ vs, oe.data = .fields vs) {pins : List (Addr × Obj)} {σ : L2.St} {H : Hp} {s : Shared} (I : Inv (X.suite a ((a, oe) :: pn)) pins σ H s) (hd : ∀ dd, d = some dd → ∃ o, H dd = some o) :
    ∃ P : Heap → Prop, PySem.W.KitX X.K (.ref a) (.ref D) P ∧ P s.heap := by
  obtain ⟨at_, _⟩ := I.pin (a, oe) (List.mem_append.mpr (.inl List.mem_cons_self))
  obtain ⟨vs, hv⟩ := hf
  obtain ⟨oc, od, oda, osl⟩ := oe
  obtain ⟨h1, h2⟩ := hz
  dsimp only at h1 h2 hv
  subst h1 h2 hv
  cases od with
  | none => exact ⟨_, PySem.W.kitx_exc (od := none) C.cl C.ga C.gt C.sb C.ca C.gg C.tk C.mo, at_, rfl, rfl, trivial⟩
  | some dd =>
    obtain ⟨o, ho⟩ := hd dd rfl
    obtain ⟨u, hu⟩ := objOk_get (I.hok dd o ho)
    exact ⟨_, PySem.W.kitx_exc (od := some u) C.cl C.ga C.gt C.sb C.ca C.gg C.tk C.mo, at_, rfl, rfl, hu⟩
/-- isinstance(e, c) | isinstance(e, (c1, c2, ..)), e the error that the suite holds -/
def rIsErr (K : PySem.W.Frag) (D a : Addr) (d : Option Addr) : List V → Hp → VK → Prop := fun xs H Q => (∀ dd, d = some dd → ∃ o, H dd = some o) ∧
  ((∃ c u b, xs = [.ref a, c] ∧ ClsV c u ∧ PySem.W.kitOne K (.ref D) u = some b ∧ Q (.bl b) H) ∨ (∃ tp cs us b, xs = [.ref a, .ref tp] ∧ H tp = some (.tup cs) ∧ Paired ClsV cs us ∧ PySem.W.kitAny K (.ref D) us = some b ∧ Q (.bl b) H))
theorem call_isErr (C : ErrC X.K D) (hz : Zc (.ref D) d oe) (hf : ∃ vs, oe.data = .fields vs) : CallR (X.suite a ((a, oe) :: pn)) (.builtin "isinstance") (rIsErr X.K D a d) := by
  intro pins s σ H xs us Q I r h
  obtain ⟨hd, h⟩ := h
  obtain ⟨P, Z, p⟩ := err_kit C hz hf I hd
  rcases h with ⟨c, u, b, rfl, k, e, q⟩ | ⟨tp, cs, ws, b, rfl, ht, k, e, q⟩
  · obtain ⟨u1, u2, rfl, r1, r2⟩ := vals2 r
    cases r1
    obtain rfl := k.eq r2
    exact PySem.W.kia_one Z I.kIn p e (fun z => nomatch z) fun t => ⟨.bl b, H, I.tok t, rfl, q⟩
  · obtain ⟨u1, u2, rfl, r1, r2⟩ := vals2 r
    cases r1
    cases r2
    obtain ⟨_, its, rv, ⟨oc, od, dt, sl⟩, g1, g2, n, g3⟩ := (show ObjOk X.prog X.w H s.heap tp (.tup cs) from I.hok tp _ ht)
    dsimp only at g2 g3
    subst g2 g3
    obtain rfl := ClsV.all k rv
    exact PySem.W.kia_tup Z I.kIn p g1 e (fun z => nomatch z) fun t => ⟨.bl b, H, I.tok t, rfl, q⟩
/-- the same, the class told by the reading -/
theorem call_isErrC {cls : Value} (C : ErrC X.K D) (hz : Zc cls d oe) (hf : ∃ vs, oe.data = .fields vs) : CallR (X.suite a ((a, oe) :: pn)) (.builtin "isinstance") (fun xs H Q => cls = .ref D ∧ rIsErr X.K D a d xs H Q) := by
  intro pins s σ H xs us Q I r h
  obtain ⟨e, h⟩ := h
  subst e
  exact call_isErr C hz hf pins s σ H xs us Q I r h
end

/-! ### own operators -/
/-- a method of the class by a name of its own -/
structure OpM (K : PySem.W.Frag) (C : Addr) (name : Str) (f : Addr) : Prop where
  at_ : PySem.W.findIn K (.ref C) name = some (some (.ref f))
  fn : PySem.W.isFn K (.ref f) = true
section
variable {X : Cx} {CX : CXT} {k : Nat} {f C : Addr} {fd : FuncData} {ps : List Str} {sp : Sp} {E : L2.St → XK} {a b : Expr} {ta tb : TE} {pos : Pos}
theorem back_of {pins : List (Addr × Obj)} {σ : L2.St} {Q : VK} {u : Value} {s : Shared} (h : EP X pins σ Q u s) : PySem.W.CmpBack (EP X pins σ Q) u s := by
  obtain ⟨v, H, I, r, q⟩ := id h
  cases v <;> first
    | (cases r; exact h)
    | (obtain ⟨t, rfl⟩ := r; exact h)
theorem ins_at {pins : List (Addr × Obj)} {σ : L2.St} {H : Hp} {s : Shared} {x dx : Addr} {fs : List (Str × V)} (I : Inv X pins σ H s) (e : H x = some (.ins C dx fs)) : ∃ od, PySem.W.InstAt s.heap x (PySem.W.instObj C dx) C (some od) := by
  obtain ⟨mA, J, _⟩ := ins_get I.hok e
  obtain ⟨od, J, _⟩ := J.look
  exact ⟨od, J⟩
def tBinO (C : Addr) (sp : Sp) (E : L2.St → XK) (ta tb : TE) : TE := fun σ H Q => ta σ H fun x H1 => tb σ H1 fun y H2 => ∃ p q dx dy fs gs, x = .ref p ∧ y = .ref q ∧ H2 p = some (.ins C dx fs) ∧ H2 q = some (.ins C dy gs) ∧ sp [x, y] H2 Q (E σ)
/-- a + b and its like, both of one own class -/
theorem pe_binO {op : Operator} (F : FnOk X.prog X.w X.K X.mg X.base CX k f fd ps sp) (hr : Room k X.A) (M : OpM X.K C (PySem.dunder op.info.2) f) (sf : PySem.W.selfFirst X.K C = true) (hb : Binds X.K fd ps []) (hx : ∀ σ, PassesAt CX X σ (E σ))
    (h1 : PE X a ta) (h2 : PE X b tb) : PE X (.BinOp a op b pos) (tBinO C sp E ta tb) := by
  refine ⟨fun pins s σ H Q I h => wpAny_BinOp (bin h1 h2 I h fun v u s2 x y H2 I2 rx ry q => ?_)⟩
  obtain ⟨p, q', dx, dy, fs, gs, rfl, rfl, e1, e2, q⟩ := q
  cases rx
  cases ry
  obtain ⟨o1, J1⟩ := ins_at I2 e1
  obtain ⟨o2, J2⟩ := ins_at I2 e2
  obtain ⟨m, fr⟩ := I2.fr
  exact PySem.W.binop_K fr I2.ok.mod.kin J1 J2.type sf M.at_ M.fn (thn (run_fnS (vs := [.ref p, .ref q']) F hr hb (hx σ) I2 (.cons rfl (.cons rfl .nil)) q) fun _ _ z => back_of z)
def tNegO (C : Addr) (sp : Sp) (E : L2.St → XK) (ta : TE) : TE := fun σ H Q => ta σ H fun x H1 => ∃ p dx fs, x = .ref p ∧ H1 p = some (.ins C dx fs) ∧ sp [x] H1 Q (E σ)
/-- -a of an own class -/
theorem pe_negO (F : FnOk X.prog X.w X.K X.mg X.base CX k f fd ps sp) (hr : Room k X.A) (M : OpM X.K C "__neg__" f) (hb : Binds X.K fd ps []) (hx : ∀ σ, PassesAt CX X σ (E σ))
    (h1 : PE X a ta) : PE X (.UnaryOp .USub a pos) (tNegO C sp E ta) := by
  refine ⟨fun pins s σ H Q I h => UnaryOp_ (thn (h1.run pins s σ H _ I h) fun v s1 ⟨x, H1, I1, r1, q1⟩ => ?_)⟩
  obtain ⟨p, dx, fs, rfl, e1, q⟩ := q1
  cases r1
  obtain ⟨o1, J1⟩ := ins_at I1 e1
  obtain ⟨m, fr⟩ := I1.fr
  exact PySem.W.ksp_neg fr I1.ok.mod.kin J1 M.at_ M.fn (run_fnS (vs := [.ref p]) F hr hb (hx σ) I1 (.cons rfl .nil) q)
/-- what stands to the right of an own ==: another of the class, or a tuple -/
def RhsEq (K : PySem.W.Frag) (C : Addr) (H : Hp) (y : V) : Prop := ∃ q, y = .ref q ∧ ((∃ dy gs, H q = some (.ins C dy gs)) ∨ ∃ ys, SqT K H q ys)
def tEqO (K : PySem.W.Frag) (C : Addr) (sp : Sp) (E : L2.St → XK) (ta tb : TE) : TE := fun σ H Q => ta σ H fun x H1 => tb σ H1 fun y H2 => ∃ p dx fs, x = .ref p ∧ H2 p = some (.ins C dx fs) ∧ RhsEq K C H2 y ∧ sp [x, y] H2 Q (E σ)
theorem pc_eqO (F : FnOk X.prog X.w X.K X.mg X.base CX k f fd ps sp) (hr : Room k X.A) (M : OpM X.K C "__eq__" f) (ht : PySem.W.notFirst X.K C (.type "tuple") = true) (hb : Binds X.K fd ps []) (hx : ∀ σ, PassesAt CX X σ (E σ))
    (h1 : PE X a ta) (h2 : PE X b tb) : PC X .Eq a b (tEqO X.K C sp E ta tb) := by
  refine ⟨fun pins s σ H Q I h => bin h1 h2 I h fun v u s2 x y H2 I2 rx ry q => ?_⟩
  obtain ⟨p, dx, fs, rfl, e1, ⟨q', rfl, r⟩, q⟩ := q
  cases rx
  cases ry
  obtain ⟨o1, J1⟩ := ins_at I2 e1
  obtain ⟨m, fr⟩ := I2.fr
  have run := thn (run_fnS (vs := [.ref p, .ref q']) F hr hb (hx σ) I2 (.cons rfl (.cons rfl .nil)) q) fun _ _ z => back_of z
  show wpAny _ _ (richCompare .Eq (.ref p) (.ref q')) _ _ _
  rcases r with ⟨dy, gs, e2⟩ | ⟨ys, e2⟩
  · obtain ⟨o2, J2⟩ := ins_at I2 e2
    exact PySem.W.cmp_K (op := .Eq) hr.units0 fr I2.ok.mod.kin J1 J2.type (by simp [PySem.W.notFirst]) M.at_ M.fn run
  · obtain ⟨its, rv, ⟨o, ho, hc, _⟩, _⟩ := I2.tuple e2
    exact PySem.W.cmp_K (op := .Eq) hr.units0 fr I2.ok.mod.kin J1 (fun A' Q' E' s' kp z => wpAny_typeOf_ref (kp _ _ ho) (by rw [hc]; exact z)) ht M.at_ M.fn run
end
end Ew

set_option Elab.async false
set_option linter.all false
set_option maxRecDepth 100000
set_option maxHeartbeats 4000000
namespace Ew
open PySem PySem.Spec PyProof.Rows L2
/-! ### a def of the top as it stands behind the top, and its promise -/
section
variable {P : Program} {w : World} {K : PySem.W.Frag} {mg : Str → Option Value} {base : Heap}
structure DefAt (K : PySem.W.Frag) (mg : Str → Option Value) (x : Str) (st : Stmt) (ps : List Str) : Prop where
  ex : ∃ f fd, Fun K x x st f fd ∧ mg x = some (.ref f) ∧ Binds K fd ps []
structure Cl (P : Program) (w : World) (K : PySem.W.Frag) (mg : Str → Option Value) (base : Heap) (k : Nat) (x : Str) (ps : List Str) (sp : Sp) (dvs : List V) : Prop where
  ex : ∃ f fd ds, FnOk P w K mg base (L2.CX P w) k f fd ps sp ∧ mg x = some (.ref f) ∧ PySem.W.keepIn K (.ref f) = true ∧ Binds K fd ps ds ∧ Vals dvs ds
/-- where a body runs -/
abbrev cxB (P : Program) (w : World) (K : PySem.W.Frag) (mg : Str → Option Value) (base : Heap) (N : List Str) (qual : Str) (st : Stmt) (f : Addr) (cdv : Value) (A : Around) (outer : List Env) (s : Shared) (H : Hp) (E : XK) : Cx := cxOf (L2.CX P w) P w K mg base N qual (defScope st) f cdv A outer s H E
def BodyOk (P : Program) (w : World) (K : PySem.W.Frag) (mg : Str → Option Value) (base : Heap) (N : List Str) (qual : Str) (st : Stmt) (k : Nat) (sp : Sp) : Prop :=
  ∀ (f : Addr) (cdv : Value) (A : Around) (outer : List Env) (s : Shared) (H : Hp) (vs : List V) (Q : VK) (E : XK), Room k (cxB P w K mg base N qual st f cdv A outer s H E).A → sp vs H Q E →
    ∃ t, PSs (cxB P w K mg base N qual st f cdv A outer s H E) (defBody st) t ∧ t { nx := fun _ H' => Q .non H', rt := Q } (start N vs) H
theorem DefAt.cl {x : Str} {st : Stmt} {ps N : List Str} {k : Nat} {sp : Sp} (D : DefAt K mg x st ps) (S : FnScope N ps (defScope st)) (len : ∀ vs H Q E, sp vs H Q E → vs.length = ps.length) (h : BodyOk P w K mg base N x st k sp) : Cl P w K mg base (k + 1) x ps sp [] := by
  obtain ⟨f, fd, F, g, b⟩ := D.ex
  exact ⟨f, fd, [], F.okX S len fun cdv A outer s H vs Q E hr hs => h f cdv A outer s H vs Q E hr hs, g, F.kp, b, .nil⟩
/-- a def with defaults -/
structure DefAtD (K : PySem.W.Frag) (mg : Str → Option Value) (x : Str) (st : Stmt) (ps : List Str) (dvs : List V) : Prop where
  ex : ∃ f fd, FunD K x x (defArgs st) (defBody st) (defScope st) dvs [] f fd ∧ mg x = some (.ref f) ∧ ∀ j, j ≤ dvs.length → ∃ ds, Vals (dvs.drop j) ds ∧ Binds K fd ps ds
theorem DefAtD.cl {x : Str} {st : Stmt} {ps N : List Str} {k : Nat} {sp : Sp} {dvs : List V} (D : DefAtD K mg x st ps dvs) (j : Nat) (hj : j ≤ dvs.length) (S : FnScope N ps (defScope st)) (len : ∀ vs H Q E, sp vs H Q E → vs.length = ps.length)
    (h : BodyOk P w K mg base N x st k sp) : Cl P w K mg base (k + 1) x ps sp (dvs.drop j) := by
  obtain ⟨f, fd, F, g, b⟩ := D.ex
  obtain ⟨ds, hd, hb⟩ := b j hj
  exact ⟨f, fd, ds, F.ok S len fun cdv A outer s H vs Q E hr hs => h f cdv A outer s H vs Q E hr hs, g, F.kp, hb, hd⟩
theorem fun_ok {x qual : Str} {st : Stmt} {f : Addr} {fd : FuncData} {ps N : List Str} {k : Nat} {sp : Sp} (F : Fun K x qual st f fd) (S : FnScope N ps (defScope st)) (len : ∀ vs H Q E, sp vs H Q E → vs.length = ps.length) (h : BodyOk P w K mg base N qual st k sp) :
    FnOk P w K mg base (L2.CX P w) (k + 1) f fd ps sp := F.okX S len fun cdv A outer s H vs Q E hr hs => h f cdv A outer s H vs Q E hr hs
end
/-! ### calls -/
section
variable {X : Cx} {k j : Nat} {x m : Str} {ps : List Str} {sp : Sp} {dvs : List V} {e o : Expr} {es : List Expr} {t : TA} {ta : TE} {p pos apos : Pos} {W : WX} {C : Addr}
theorem run_dv {f : Addr} {fd : FuncData} {ds : List Value} {pins : List (Addr × Obj)} {σ : L2.St} {H : Hp} {s : Shared} {Q : VK} {us : List Value} {vs : List V} (F : FnOk X.prog X.w X.K X.mg X.base (L2.CX X.prog X.w) k f fd ps sp) (hr : Room k X.A) (hb : Binds X.K fd ps ds) (hd : Vals dvs ds)
    (tk : Takes X W) (I : Inv X pins σ H s) (r : Vals vs us) (h : sp (vs ++ dvs) H Q (WE W σ)) : wpAny (model X.prog X.w) X.A (call (.ref f) us) (EP X pins σ Q) X.xe s := by
  have r2 := r.append hd
  have hl : (us ++ ds).length = ps.length := by rw [← r2.length]; exact F.len _ _ _ _ h
  refine wpAny_call (codeAny_mono (F.run X.A X.stack s H ⟨us, []⟩ (us ++ ds) (vs ++ dvs) Q (WE W σ) hr I.env0 (hb s us I.kIn hl) r2 h) fun y s' hq => ?_)
  match y, hq with
  | .error e, hq => exact passAt tk σ pins H s e s' I hq
  | .ok (.ret u), hq => exact I.after hq
def tF (sp : Sp) (dvs : List V) (W : WX) (t : TA) : TE := fun σ H Q => t σ H fun vs H1 => sp (vs ++ dvs) H1 Q (WE W σ)
theorem pe_f (c : Cl X.prog X.w X.K X.mg X.base k x ps sp dvs) (tk : Takes X W) (hr : Room j X.A) (hk : k ≤ j) (hg : Gl X x) (ha : PA X (e :: es) t) (hdb : (x == ("__debug__" : Str)) = false := by decide)
    (he : starEach (e :: es) X.env = (false, eval e X.env) :: starEach es X.env := by rfl) (hpl : (backTo pos (starEach es X.env)).any (·.1) = false := by rfl) : PE X (.Call (.Name x p) (e :: es) [] pos) (tF sp dvs W t) := by
  obtain ⟨f, fd, ds, F, hm, hkp, hb, hd⟩ := c.ex
  exact ⟨fun pins s σ H Q I h => wpAny_Call_Name_kw (ld_glob I hg hm (PySem.W.callWith_K (h₀ := X.base) I.ok.mod.kin hkp (thn (ha.run pos pins s σ H _ I h) fun us s1 ⟨vs, H1, I1, r, q⟩ => ⟨I1.kIn, run_dv F (hr.mono hk) hb hd tk I1 r q⟩) he hpl) hdb)⟩
/-- a method of the class at C -/
structure Mt (P : Program) (w : World) (K : PySem.W.Frag) (mg : Str → Option Value) (base : Heap) (k : Nat) (C : Addr) (m : Str) (ps : List Str) (sp : Sp) (dvs : List V) : Prop where
  cl : Cls K C
  ex : ∃ f fd ds, Meth K C m f ∧ FnOk P w K mg base (L2.CX P w) k f fd ps sp ∧ Binds K fd ps ds ∧ Vals dvs ds
def tM (C : Addr) (m : Str) (sp : Sp) (dvs : List V) (W : WX) (ta : TE) (t : TA) : TE := fun σ H Q => ta σ H fun x H1 => ∃ a dx fs, x = .ref a ∧ H1 a = some (.ins C dx fs) ∧ fs.lookup m = none ∧ t σ H1 fun vs H2 => sp (x :: (vs ++ dvs)) H2 Q (WE W σ)
theorem pe_mf {pl : Sem Bool} (c : Mt X.prog X.w X.K X.mg X.base k C m ps sp dvs) (tk : Takes X W) (hr : Room j X.A) (hk : k ≤ j) (he : PE X o ta) (ha : PA X (e :: es) t)
    (hst : starEach (e :: es) X.env = (false, eval e X.env) :: starEach es X.env := by rfl) (hpl : (backTo pos (starEach es X.env)).any (·.1) = false := by rfl)
    (ht : eval (.Call (.Attribute o m apos) (e :: es) [] pos) X.env = (do
      let v ← eval o X.env
      standAt apos.atName
      let (g, first) ← holding [v] (getMethod v m pl)
      callWith pos g first (backTo pos (starEach (e :: es) X.env)) (backToKw pos (keywordEach [] X.env))) := by rfl) :
    PE X (.Call (.Attribute o m apos) (e :: es) [] pos) (tM C m sp dvs W ta t) := by
  obtain ⟨f, fd, ds, hm, F, hb, hd⟩ := c.ex
  refine ⟨fun pins s σ H Q I h => PySem.W.methodCall_KW (pl := pl) (thn (he.run pins s σ H _ I h) fun u s1 ⟨x, H1, I1, rx, a, dx, fs, ex, ea, l, q⟩ => ?_) ht⟩
  subst ex
  obtain rfl : u = Value.ref a := rx
  refine getmeth_ok I1 ea c.cl hm l ?_
  refine PySem.W.callWith_K (h₀ := X.base) I1.ok.mod.kin hm.kp (thn (ha.run pos pins s1 σ H1 _ I1 q) fun us s2 ⟨vs, H2, I2, r, q2⟩ => ⟨I2.kIn, ?_⟩) hst hpl
  exact run_dv (vs := .ref a :: vs) F (hr.mono hk) hb hd tk I2 (.cons rfl r) q2
/-- a new instance of the class x at C -/
structure Mkr (P : Program) (w : World) (K : PySem.W.Frag) (mg : Str → Option Value) (base : Heap) (k : Nat) (x : Str) (C : Addr) (ps : List Str) (sp : Sp) : Prop where
  gC : mg x = some (.ref C)
  ex : ∃ f fd, Mk K C f ∧ FnOk P w K mg base (L2.CX P w) k f fd ps sp ∧ Binds K fd ps []
theorem pe_mkf (c : Mkr X.prog X.w X.K X.mg X.base k x C ps sp) (hr : Room j X.A) (hk : k + 1 ≤ j) (hg : Gl X x) (ha : PA X (e :: es) t) (hdb : (x == ("__debug__" : Str)) = false := by decide)
    (he : starEach (e :: es) X.env = (false, eval e X.env) :: starEach es X.env := by rfl) (hpl : (backTo pos (starEach es X.env)).any (·.1) = false := by rfl) : PE X (.Call (.Name x p) (e :: es) [] pos) (tMake C sp [] E0 t) := by
  obtain ⟨f, fd, M, F, hb⟩ := c.ex
  exact pe_make M F (hr.mono hk) hg c.gC hb .nil passL ha hdb he hpl
/-- an own error made by C(e, ..) -/
structure Mke (P : Program) (w : World) (K : PySem.W.Frag) (mg : Str → Option Value) (base : Heap) (k : Nat) (x : Str) (C : Addr) (ps : List Str) (sp : Sp) : Prop where
  gC : mg x = some (.ref C)
  ox : OexC K C
  ex : ∃ f fd, PySem.W.findIn K (.ref C) "__init__" = some (some (.ref f)) ∧ PySem.W.typeIn K (.ref f) = some (.type "function") ∧ FnOk P w K mg base (L2.CX P w) k f fd ps sp ∧ Binds K fd ps []
theorem pmk_err (c : Mke X.prog X.w X.K X.mg X.base k x C ps sp) (hr : Room j X.A) (hk : k + 1 ≤ j) (hg : Gl X x) (ha : PA X (e :: es) t) (hdb : (x == ("__debug__" : Str)) = false := by decide)
    (he : starEach (e :: es) X.env = (false, eval e X.env) :: starEach es X.env := by rfl) (hpl : (backTo pos (starEach es X.env)).any (·.1) = false := by rfl) : PMk X (.Call (.Name x p) (e :: es) [] pos) (tMkO C sp [] t) := by
  obtain ⟨f, fd, hi, ht, F, hb⟩ := c.ex
  exact pmk_oex c.ox hi ht F (hr.mono hk) hb .nil passL hg c.gC ha hdb he hpl
end
/-! ### what is frozen: F, a part of the heap that stays; m: what may be changed -/
structure Stm (m : Addr → Prop) (F H F' H' : Hp) : Prop where
  ff : Same F F'
  fh : Same F' H'
  hh : ∀ a o, ¬ m a → H a = some o → H' a = some o
  nw : ∀ a, F a = none → H a ≠ none → F' a = none
abbrev Stp := Stm (fun _ => False)
section
variable {m m' : Addr → Prop} {F H F' H' F2 H2 : Hp} {p : Addr} {o : HO}
theorem Stm.refl (h : Same F H) : Stm m F H F H := ⟨Same.refl F, h, fun _ _ _ e => e, fun _ n _ => n⟩
theorem Stm.mono (a : Stm m F H F' H') (h : ∀ x, m x → m' x) : Stm m' F H F' H' := ⟨a.ff, a.fh, fun x o n e => a.hh x o (fun z => n (h x z)) e, a.nw⟩
theorem Stm.any (a : Stp F H F' H') : Stm m F H F' H' := a.mono fun _ z => z.elim
theorem Stm.same (a : Stp F H F' H') : Same H H' := fun x o e => a.hh x o (fun z => z) e
theorem Stm.there (a : Stm m F H F' H') (hm : ∀ x, m x → H x ≠ none → H' x ≠ none) {x : Addr} (h : H x ≠ none) : H' x ≠ none := by
  by_cases q : m x
  · exact hm x q h
  · cases e : H x with
    | none => exact absurd e h
    | some o => rw [a.hh x o q e]; exact fun z => nomatch z
theorem Stm.trans (a : Stm m F H F' H') (b : Stm m F' H' F2 H2) (hm : ∀ x, m x → H x ≠ none → H' x ≠ none) : Stm m F H F2 H2 :=
  ⟨a.ff.trans b.ff, b.fh, fun x o n e => b.hh x o n (a.hh x o n e), fun q n z => b.nw q (a.nw q n z) (a.there hm z)⟩
theorem Stm.transP (a : Stp F H F' H') (b : Stp F' H' F2 H2) : Stp F H F2 H2 := a.trans b fun _ z => z.elim
theorem same_new (h : H p = none) : Same H (upd H p o) := fun b u e => by rw [upd_ne (ne_of_none e h)]; exact e
/-- a new thing is laid, and frozen at once -/
theorem Stm.new (a : Stm m F H F' H') (hp : H' p = none) (h0 : H p = none) : Stm m F H (upd F' p o) (upd H' p o) where
  ff := a.ff.trans (same_new (a.fh.free hp))
  fh := fun b u e => by
    by_cases hb : b = p
    · subst hb; rw [upd_same] at e ⊢; exact e
    · rw [upd_ne hb] at e ⊢; exact a.fh b u e
  hh := fun x u n e => by rw [upd_ne (ne_of_none e h0)]; exact a.hh x u n e
  nw := fun x n z => by rw [upd_ne (fun q => z (by rw [q]; exact h0))]; exact a.nw x n z
/-- a new thing is laid that is to be changed further -/
theorem Stm.raw (a : Stm m F H F' H') (hp : H' p = none) (h0 : H p = none) : Stm m F H F' (upd H' p o) := ⟨a.ff, a.fh.trans (same_new hp), fun x u n e => by rw [upd_ne (ne_of_none e h0)]; exact a.hh x u n e, a.nw⟩
/-- a thing of the def's own is changed -/
theorem Stm.mut (a : Stm m F H F' H') (hf : F' p = none) (h0 : H p = none) : Stm m F H F' (upd H' p o) := ⟨a.ff, fun b u e => by rw [upd_ne (ne_of_none e hf)]; exact a.fh b u e, fun x u n e => by rw [upd_ne (ne_of_none e h0)]; exact a.hh x u n e, a.nw⟩
/-- a thing of the def's own stays from now on -/
theorem Stm.freeze (a : Stm m F H F' H') (hf : F' p = none) (h0 : H p = none) (e : H' p = some o) : Stm m F H (upd F' p o) H' where
  ff := a.ff.trans (same_new hf)
  fh := fun b u q => by
    by_cases hb : b = p
    · subst hb; rw [upd_same] at q; rw [e]; exact q
    · rw [upd_ne hb] at q; exact a.fh b u q
  hh := a.hh
  nw := fun x n z => by rw [upd_ne (fun q => z (by rw [q]; exact h0))]; exact a.nw x n z
/-- fresh now is fresh at the start, where what may change is there -/
theorem Stm.fresh (a : Stm m F H F' H') (hm : ∀ x, m x → H' x ≠ none) {x : Addr} (h : H' x = none) : H x = none := by
  by_cases q : m x
  · exact absurd h (hm x q)
  · cases e : H x with
    | none => rfl
    | some o => rw [a.hh x o q e] at h; cases h
theorem Stm.freshP (a : Stp F H F' H') {x : Addr} (h : H' x = none) : H x = none := a.fresh (fun _ z => z.elim) h
theorem Stm.newP (a : Stp F H F' H') (hp : H' p = none) : Stp F H (upd F' p o) (upd H' p o) := a.new hp (a.freshP hp)
theorem stp_new (h : Same F H) (hp : H p = none) : Stp F H (upd F p o) (upd H p o) := (Stm.refl h).newP hp
end
theorem upT {K : PySem.W.Frag} {H H' : Hp} {a : Addr} {xs : List V} (e : Same H H') (h : SqT K H a xs) : SqT K H' a xs := h.ext e
theorem upL {K : PySem.W.Frag} {H H' : Hp} {a : Addr} {xs : List V} (e : Same H H') (h : SqL K H a xs) : SqL K H' a xs := h.ext e
theorem sq_new {K : PySem.W.Frag} {H : Hp} {p : Addr} {xs : List V} : SqT K (upd H p (.tup xs)) p xs := SqT.of upd_same
/-- what a def promises that changes nothing: a part of the heap stays, the answer stands in it -/
def Pu (F H : Hp) (Q : VK) (post : Hp → V → Prop) : Prop := Same F H ∧ ∀ F' H' v, Stp F H F' H' → post F' v → Q v H'
theorem iteY {c A B : Prop} [Decidable c] (h : c) (x : A) : if c then A else B := by rw [if_pos h]; exact x
theorem iteN {c A B : Prop} [Decidable c] (h : ¬ c) (x : B) : if c then A else B := by rw [if_neg h]; exact x
theorem vint_ne {a b : Int} (h : a ≠ b) : ¬ decide (V.int a = V.int b) = true := fun z => h (V.int.inj (of_decide_eq_true z))
theorem vint_eq {a b : Int} (h : a = b) : decide (V.int a = V.int b) = true := decide_eq_true (congrArg V.int h)
/-! ### // by any divisor but 0 -/
def CDivX (_ j : Int) : Prop := j ≠ 0 ∧ j.natAbs.log2 < 9000
theorem op_fdivX {X : Cx} : OpR X (binaryOp .FloorDiv) (rI CDivX fun i j => .int (i.fdiv j)) := opI fun _ _ _ _ _ _ _ hc q => floordiv_int hc.1 q (.inl (PyProof.noPylong_of_log2 hc.2))
end Ew

set_option Elab.async false
set_option linter.all false
set_option maxRecDepth 100000
set_option maxHeartbeats 4000000
namespace Ew
open PySem PySem.Spec PyProof.Rows L2
/-- an error's __init__ that keeps its one argument (its two) -/
def spI1 (C : Addr) (f : Str) : Sp := fun vs H Q _ => ∃ x v, vs = [.ref x, v] ∧ H x = some (exo x C none) ∧ ∀ dx, H dx = none → dx ≠ x → Q .non (upd (upd H dx (exd dx [(f, v)])) x (exo x C (some dx)))
def spI2 (C : Addr) (f g : Str) : Sp := fun vs H Q _ => ∃ x u v, vs = [.ref x, u, v] ∧ H x = some (exo x C none) ∧
  ∀ dx, H dx = none → dx ≠ x → Q .non (upd (upd (upd H dx (exd dx [(f, u)])) x (exo x C (some dx))) dx (exd dx [(g, v), (f, u)]))
theorem back1 {H : Hp} {a d : Addr} {o1 o2 o3 o4 : HO} (ha : H a = none) (h : d ≠ a) : upd (del (upd (upd (upd H a o1) d o2) a o3) a) d o4 = upd H d o4 := by
  funext b
  by_cases e : b = d
  · subst e; rw [upd_same, upd_same]
  · rw [upd_ne e, upd_ne e]
    by_cases e2 : b = a
    · subst e2; rw [del_same, ha]
    · rw [del_ne e2, upd_ne e2, upd_ne e, upd_ne e2]
theorem back2 {H : Hp} {a d : Addr} {o1 o2 o3 o4 o5 : HO} (ha : H a = none) (h : d ≠ a) : upd (del (upd (upd (upd (upd H a o1) d o2) a o3) d o5) a) d o4 = upd H d o4 := by
  funext b
  by_cases e : b = d
  · subst e; rw [upd_same, upd_same]
  · rw [upd_ne e, upd_ne e]
    by_cases e2 : b = a
    · subst e2; rw [del_same, ha]
    · rw [del_ne e2, upd_ne e, upd_ne e2, upd_ne e, upd_ne e2]
section
variable {X : Cx} {k j : Nat} {x f g : Str} {ps : List Str} {e e2 : Expr} {te te2 : TE} {p pos pos2 : Pos} {W : WX} {C : Addr}
def tR1 (C : Addr) (f : Str) (W : WX) (te : TE) : TS := fun _ σ H => te σ H fun v H1 => ∀ d, H1 d = none → W (.ref C) (some d) σ (upd H1 d (.xd [(f, v)]))
def tR2 (C : Addr) (f g : Str) (W : WX) (te te2 : TE) : TS := fun _ σ H => te σ H fun u H1 => te2 σ H1 fun v H2 => ∀ d, H2 d = none → W (.ref C) (some d) σ (upd H2 d (.xd [(g, v), (f, u)]))
theorem ps_weak {st : Stmt} {t t' : TS} (h : PS X st t) (q : ∀ D σ H, t' D σ H → t D σ H) : PS X st t' := ⟨fun pins s σ H D I z => h.run pins s σ H D I (q D σ H z)⟩
end
/-- te says what it says of more, too -/
def TeMono (te : TE) : Prop := ∀ σ H (Q Q' : VK), (∀ v H', Q v H' → Q' v H') → te σ H Q → te σ H Q'
theorem pe_up {X : Cx} {e : Expr} {te : TE} (h : PE X e te) : PE X e fun σ H Q => ∃ Q', (∀ v H', Q' v H' → Q v H') ∧ te σ H Q' := ⟨fun pins s σ H Q I ⟨Q', q, z⟩ => thn (h.run pins s σ H Q' I z) fun _ _ ⟨v, H', I', r, y⟩ => ⟨v, H', I', r, q v H' y⟩⟩
section
variable {X : Cx} {k j : Nat} {x f g : Str} {ps : List Str} {e e2 : Expr} {te te2 : TE} {p pos pos2 : Pos} {W : WX} {C : Addr}
theorem ps_raise1 (hc : X.calm = true) (tk : Takes X W) (c : Mke X.prog X.w X.K X.mg X.base k x C ps (spI1 C f)) (hr : Room j X.A) (hk : k + 1 ≤ j) (hg : Gl X x) (he : PE X e te) (hdb : (x == ("__debug__" : Str)) = false := by decide)
    (hs : starEach [e] X.env = [(false, eval e X.env)] := by rfl) (hpl : (backTo pos (starEach ([] : List Expr) X.env)).any (·.1) = false := by rfl) : PS X (.Raise (some (.Call (.Name x p) [e] [] pos)) none pos2) (tR1 C f W te) := by
  refine ps_weak (ps_raise hc tk (pmk_err c hr hk hg (pa_cons (pe_up he) pa_nil hs) hdb hs hpl)) fun D σ H h => ⟨_, fun v H1 z => ?_, h⟩
  refine ⟨Nat.le_of_ble_eq_true rfl, fun a ha => ⟨a, v, rfl, upd_same, fun dx n ne => ⟨rfl, dx, [(f, v)], upd_same, ?_, ?_, ?_⟩⟩⟩
  · rw [upd_ne ne, upd_same]
  · rw [upd_ne ne] at n; exact n
  · rw [back1 ha ne]
    rw [upd_ne ne] at n
    exact z dx n
theorem ps_raise2 (hc : X.calm = true) (tk : Takes X W) (c : Mke X.prog X.w X.K X.mg X.base k x C ps (spI2 C f g)) (hr : Room j X.A) (hk : k + 1 ≤ j) (hg : Gl X x) (he : PE X e te) (he2 : PE X e2 te2) (hdb : (x == ("__debug__" : Str)) = false := by decide)
    (hs : starEach [e, e2] X.env = [(false, eval e X.env), (false, eval e2 X.env)] := by rfl) (hs2 : starEach [e2] X.env = [(false, eval e2 X.env)] := by rfl) (hpl : (backTo pos (starEach [e2] X.env)).any (·.1) = false := by rfl) :
    PS X (.Raise (some (.Call (.Name x p) [e, e2] [] pos)) none pos2) (tR2 C f g W te te2) := by
  have hs' : starEach [e, e2] X.env = (false, eval e X.env) :: starEach [e2] X.env := by rw [hs, hs2]
  refine ps_weak (ps_raise hc tk (pmk_err c hr hk hg (pa_cons (pe_up he) (pa_cons (pe_up he2) pa_nil hs2) hs') hdb hs' hpl)) fun D σ H h => ⟨_, fun u H1 y => ⟨_, fun v H2 z => ?_, y⟩, h⟩
  refine ⟨Nat.le_of_ble_eq_true rfl, fun a ha => ⟨a, u, v, rfl, upd_same, fun dx n ne => ⟨rfl, dx, [(g, v), (f, u)], ?_, upd_same, ?_, ?_⟩⟩⟩
  · rw [upd_ne (Ne.symm ne), upd_same]
  · rw [upd_ne ne] at n; exact n
  · rw [back2 ha ne]
    rw [upd_ne ne] at n
    exact z dx n
end
/-- what a def promises of an error that leaves it -/
def Ra (F H : Hp) (E : XK) (C : Addr) (post : Hp → Addr → Prop) : Prop := ∀ F' H' d, Stp F H F' H' → post F' d → E (.ref C) (some d) H'
theorem ty_sqT {K : PySem.W.Frag} {H : Hp} {p : Addr} {xs : List V} (h : SqT K H p xs) : TyX K H (.ref p) (.type "tuple") := by
  rcases h with (h | ⟨o, h⟩) | h
  · exact .base (.tup h)
  · exact .fTuple h
  · obtain ⟨o, its, n, e, c, _⟩ := h
    exact .kTuple e c
theorem ty_sqL {K : PySem.W.Frag} {H : Hp} {p : Addr} {xs : List V} (h : SqL K H p xs) : TyX K H (.ref p) (.type "list") := by
  rcases h with (h | ⟨o, h⟩) | h
  · exact .base (.lst h)
  · exact .base (.frz h)
  · obtain ⟨o, its, n, e, c, _⟩ := h
    exact .kList e c
end Ew

set_option Elab.async false
set_option linter.all false
set_option maxRecDepth 100000
set_option maxHeartbeats 4000000
namespace Ew
open PySem PySem.Spec PyProof.Rows L2
/-- what may be changed (m), and what stays true of it (I) -/
structure Mem (m : Addr → Prop) (I : Hp → Hp → Prop) : Prop where
  there : ∀ {F H x}, I F H → m x → H x ≠ none
  off : ∀ {F H x}, I F H → m x → F x = none
  put : ∀ {F H p o}, I F H → ¬ m p → I F (upd H p o)
  grow : ∀ {F F' H}, I F H → Same F F' → (∀ x, m x → F' x = none) → I F' H
theorem memP : Mem (fun _ => False) (fun _ _ => True) := ⟨fun _ z => z.elim, fun _ z => z.elim, fun _ _ => trivial, fun _ _ _ => trivial⟩
section
variable {m : Addr → Prop} {I : Hp → Hp → Prop} {F H F' H' F2 H2 : Hp} {J : It} {n : Nat} {G : Hp → Prop} {Y : Nat → Hp → V → Hp → Prop}
theorem Stm.then (M : Mem m I) (i : I F' H') (a : Stm m F H F' H') (b : Stm m F' H' F2 H2) : Stm m F H F2 H2 := a.trans b fun _ z _ => M.there i z
/-- a comprehension: each turn gives one item, of which R says what is wanted; the new list is frozen at the end -/
theorem lcM (M : Mem m I) (w : Walk J n G Y) {g : TG} {tt : TT} {te : TE} {vs : List Nat} {σ : L2.St} {D : Addr} {Qd : Hp → Prop} (hf : Same F H) (i0 : I F H) (hD : H D = none) (R : Nat → Hp → V → Prop) (hR : ∀ i F F' y, Same F F' → R i F y → R i F' y)
    (hn : n ≤ 1000000) (hG : ∀ F' H', Same F F' → Same F' H' → G H')
    (hs : ∀ i x F' H' H'' (Kt : VK) (Kn : Hp → Prop), i < n → Stm m F H F' H' → I F' H' → Y i H' x H'' → (∀ y F4 H4, Stm m F' H' F4 H4 → I F4 H4 → R i F4 y → Kt y H4) →
      g x (wipe σ vs) H'' fun σ2 H2 => wipe σ2 vs = wipe σ vs ∧ tt σ2 H2 fun b H3 => if b = true then te σ2 H3 Kt else Kn H3)
    (hd : ∀ F' H' ys, Stm m F H F' H' → I F' H' → F' D = some (.lst ys) → ys.length = n → (∀ j y, ys[j]? = some y → R j F' y) → Qd H') :
    ∃ W : Nat → Nat → Hp → Prop, (∃ k, W 0 k (upd H D (.lst []))) ∧ ∀ i k H, W i k H →
      (J.stop i H ∧ Qd H) ∨ (J.go i H ∧ ∃ Nx : Hp → Prop, (∀ H', Nx H' → ∃ k', k' < k ∧ W (i + 1) k' H') ∧ ∀ x H', J.yld i H x H' → g x (wipe σ vs) H' fun σ2 H2 => wipe σ2 vs = wipe σ vs ∧ tt σ2 H2 fun b H3 =>
        if b = true then te σ2 H3 fun y H4 => ∃ acc, H4 D = some (.lst acc) ∧ acc.length < sizeLine ∧ Nx (upd H4 D (.lst (acc ++ [y]))) else Nx H3) := by
  have nm : ¬ m D := fun z => M.there i0 z hD
  have fD : F D = none := hf.free hD
  refine lc_it w (fun i H' => ∃ F' acc, Stm m F H F' H' ∧ I F' H' ∧ F' D = none ∧ H' D = some (.lst acc) ∧ acc.length = i ∧ ∀ j y, acc[j]? = some y → R j F' y) ?_ ?_ ?_ ?_
  · exact ⟨F, [], (Stm.refl hf).raw hD hD, M.put i0 nm, fD, upd_same, rfl, fun j y z => by simp at z⟩
  · rintro i H' _ ⟨F', acc, s, _⟩
    exact hG F' H' s.ff s.fh
  · rintro i x H' H'' hi ⟨F', acc, s, iv, f', h', hl, hr⟩ y
    refine hs i x F' H' H'' _ _ hi s iv y fun y F4 H4 s4 i4 r4 => ?_
    have f4 : F4 D = none := s4.nw D f' (by rw [h']; exact fun z => nomatch z)
    have h4 : H4 D = some (.lst acc) := s4.hh D _ nm h'
    refine ⟨acc, h4, by rw [sizeLine_eq]; omega, F4, acc ++ [y], (s.then M iv s4).mut f4 hD, M.put i4 nm, f4, upd_same, by rw [List.length_append, hl]; rfl, fun j z hz => ?_⟩
    rcases Nat.lt_or_ge j acc.length with hj | hj
    · rw [List.getElem?_append_left hj] at hz
      exact hR j F' F4 z s4.ff (hr j z hz)
    · rw [List.getElem?_append_right hj] at hz
      have e0 : j - acc.length = 0 := by
        rcases Nat.eq_zero_or_pos (j - acc.length) with h0 | h0
        · exact h0
        · rw [List.getElem?_eq_none (by simp; omega)] at hz; cases hz
      rw [e0] at hz
      cases hz
      have ej : j = i := by omega
      rw [ej]
      exact r4
  · rintro H' ⟨F', acc, s, iv, f', h', hl, hr⟩
    refine hd (upd F' D (.lst acc)) H' acc (s.freeze f' hD h') (M.grow iv (same_new f') fun x hx => ?_) upd_same hl fun j y hy => hR j F' _ y (same_new f') (hr j y hy)
    rw [upd_ne (fun z => nm (by rw [← z]; exact hx))]
    exact M.off iv hx
theorem lc_yes {te : TE} {σ : L2.St} {H : Hp} {Kt : VK} {Kn : Hp → Prop} (h : te σ H Kt) : tYes σ H fun b H3 => if b = true then te σ H3 Kt else Kn H3 := by
  show if true = true then te σ H Kt else Kn H
  rw [if_pos rfl]
  exact h
end
end Ew

set_option Elab.async false
set_option linter.all false
set_option maxRecDepth 100000
set_option maxHeartbeats 4000000
namespace Ew
open PySem PySem.Spec PyProof.Rows L2
/-- a tuple of ints as data -/
def intT (ds : List Int) : PyData := .tuple (ds.map .int)
theorem dpAll_ints {K : PySem.W.Frag} {H : Hp} : ∀ ds : List Int, DpAll K H (ds.map V.int) (ds.map PyData.int)
  | [] => .nil
  | d :: ds => .cons (.int d) (dpAll_ints ds)
theorem dp_ints {K : PySem.W.Frag} {H : Hp} {p : Addr} {ds : List Int} (h : SqT K H p (ds.map V.int)) : Dp K H (.ref p) (intT ds) := .tup h (dpAll_ints ds)
theorem eqvAll_ints : ∀ a b : List Int, PyData.eqvAll (a.map .int) (b.map .int) = decide (a = b)
  | [], [] => rfl
  | [], y :: b => rfl
  | x :: a, [] => rfl
  | x :: a, y :: b => by
    rw [List.map_cons, List.map_cons, PyData.eqvAll, PyData.eqv, eqvAll_ints a b]
    by_cases h : x = y
    · subst h; by_cases h2 : a = b <;> simp [h2]
    · simp [h]
theorem eqv_ints (a b : List Int) : PyData.eqv (intT a) (intT b) = decide (a = b) := by
  unfold intT
  rw [PyData.eqv, eqvAll_ints]
theorem lay_ints : ∀ ds : List Int, PyData.canLayAll0 (ds.map PyData.int) = true
  | [] => by rw [List.map_nil, PyData.canLayAll0]
  | d :: ds => by rw [List.map_cons, PyData.canLayAll0, lay_ints ds, PyData.canLay0, Bool.and_self]
theorem dep_ints : ∀ ds : List Int, PyData.depthAll (ds.map PyData.int) = 0
  | [] => by rw [List.map_nil, PyData.depthAll]
  | d :: ds => by rw [List.map_cons, PyData.depthAll, dep_ints ds, PyData.depth, Nat.max_self]
theorem shaped_ints (ds : List Int) : SeqAt.shaped (intT ds) = true := by
  unfold SeqAt.shaped intT
  rw [PyData.canLay0, lay_ints, PyData.depth, dep_ints]
  rfl
/-! ### ratios -/
/-- at v a pair of ints; a tuple of ints -/
def Rt (K : PySem.W.Frag) (F : Hp) (v : V) (r : Int × Int) : Prop := ∃ p, v = .ref p ∧ SqT K F p [.int r.1, .int r.2]
def Dm (K : PySem.W.Frag) (F : Hp) (v : V) (ds : List Int) : Prop := ∃ p, v = .ref p ∧ SqT K F p (ds.map V.int)
section
variable {K : PySem.W.Frag} {F F' : Hp} {v : V} {r : Int × Int} {ds : List Int}
theorem Rt.up (h : Rt K F v r) (e : Same F F') : Rt K F' v r := by obtain ⟨p, h1, h2⟩ := h; exact ⟨p, h1, upT e h2⟩
theorem Dm.up (h : Dm K F v ds) (e : Same F F') : Dm K F' v ds := by obtain ⟨p, h1, h2⟩ := h; exact ⟨p, h1, upT e h2⟩
theorem Rt.dp (h : Rt K F v r) : Dp K F v (intT [r.1, r.2]) := by obtain ⟨p, rfl, h2⟩ := h; exact dp_ints h2
theorem Dm.dp (h : Dm K F v ds) : Dp K F v (intT ds) := by obtain ⟨p, rfl, h2⟩ := h; exact dp_ints h2
end
/-- the common divisor, with the sign of d -/
def com (n d : Int) : Int := if d < 0 then -((Nat.gcd n.natAbs d.natAbs : Nat) : Int) else ((Nat.gcd n.natAbs d.natAbs : Nat) : Int)
/-- n / d in lowest terms -/
def rat (n d : Int) : Int × Int := (n.fdiv (com n d), d.fdiv (com n d))
/-- size: below 2 ^ b -/
def Sz (b : Nat) (n : Int) : Prop := n.natAbs < 2 ^ b
theorem Sz.mono {a b : Nat} {n : Int} (h : Sz a n) (k : a ≤ b) : Sz b n := Nat.lt_of_lt_of_le h (Nat.pow_le_pow_right (by decide) k)
theorem Sz.log {b : Nat} {n : Int} (h : Sz b n) (h0 : 0 < b) (k : b ≤ 9000) : n.natAbs.log2 < 9000 := Nat.lt_of_lt_of_le (PySem.Flt.log2_lt_of h0 h) k
theorem Sz.mul {a b : Nat} {m n : Int} (h : Sz a m) (k : Sz b n) : Sz (a + b) (m * n) := wide_lt h k
theorem Sz.add {a : Nat} {m n : Int} (h : Sz a m) (k : Sz a n) : Sz (a + 1) (m + n) := by
  unfold Sz at *
  have := Int.natAbs_add_le m n
  rw [Nat.pow_succ]
  omega
theorem Sz.sub {a : Nat} {m n : Int} (h : Sz a m) (k : Sz a n) : Sz (a + 1) (m - n) := by
  unfold Sz at *
  rw [Nat.pow_succ]
  omega
theorem Sz.neg {a : Nat} {m : Int} (h : Sz a m) : Sz a (-m) := by
  unfold Sz at *
  rwa [Int.natAbs_neg]
theorem com_ne {n d : Int} (h : d ≠ 0) : com n d ≠ 0 := by
  have g : 0 < Nat.gcd n.natAbs d.natAbs := Nat.gcd_pos_of_pos_right _ (by omega)
  unfold com
  split <;> omega
theorem com_abs (n d : Int) : (com n d).natAbs = Nat.gcd n.natAbs d.natAbs := by
  unfold com
  split <;> simp
theorem com_sz {n d : Int} {b : Nat} (h0 : d ≠ 0) (h : Sz b d) : Sz b (com n d) := by
  unfold Sz
  rw [com_abs]
  exact Nat.lt_of_le_of_lt (Nat.gcd_le_right _ (by omega)) h
theorem com_dn (n d : Int) : com n d ∣ n := by
  rw [← Int.natAbs_dvd_natAbs, com_abs]
  exact Nat.gcd_dvd_left _ _
theorem com_dd (n d : Int) : com n d ∣ d := by
  rw [← Int.natAbs_dvd_natAbs, com_abs]
  exact Nat.gcd_dvd_right _ _
theorem fdiv_abs {n c : Int} (h : c ∣ n) : (n.fdiv c).natAbs = n.natAbs / c.natAbs := by
  obtain ⟨k, rfl⟩ := h
  by_cases h0 : c = 0
  · subst h0; simp
  · rw [Int.mul_fdiv_cancel_left _ h0, Int.natAbs_mul, Nat.mul_div_cancel_left _ (by omega)]
theorem Sz.fdiv {n c : Int} {b : Nat} (h : Sz b n) (hd : c ∣ n) : Sz b (n.fdiv c) := by
  unfold Sz
  rw [fdiv_abs hd]
  exact Nat.lt_of_le_of_lt (Nat.div_le_self _ _) h
theorem rat_sz {n d : Int} {b : Nat} (h1 : Sz b n) (h2 : Sz b d) : Sz b (rat n d).1 ∧ Sz b (rat n d).2 := ⟨h1.fdiv (com_dn n d), h2.fdiv (com_dd n d)⟩
theorem rat_pos {n d : Int} (h : d ≠ 0) : 0 < (rat n d).2 := by
  show 0 < d.fdiv (com n d)
  have g : 0 < Nat.gcd n.natAbs d.natAbs := Nat.gcd_pos_of_pos_right _ (by omega)
  obtain ⟨k, hk⟩ := com_dd n d
  have hc := com_ne (n := n) h
  have e : d.fdiv (com n d) = k := by
    conv => lhs; lhs; rw [hk]
    rw [Int.mul_fdiv_cancel_left _ hc]
  rw [e]
  unfold com at hk
  split at hk
  · rename_i hd
    rcases Int.lt_trichotomy k 0 with q | q | q
    · have : 0 < -((Nat.gcd n.natAbs d.natAbs : Nat) : Int) * k := Int.mul_pos_of_neg_of_neg (by omega) q
      omega
    · subst q; simp at hk; omega
    · exact q
  · rename_i hd
    rcases Int.lt_trichotomy k 0 with q | q | q
    · have : ((Nat.gcd n.natAbs d.natAbs : Nat) : Int) * k < 0 := Int.mul_neg_of_pos_of_neg (by omega) q
      omega
    · subst q; simp at hk; omega
    · exact q
theorem rat_cop {n d : Int} (h : d ≠ 0) : Nat.gcd (rat n d).1.natAbs (rat n d).2.natAbs = 1 := by
  show Nat.gcd (n.fdiv (com n d)).natAbs (d.fdiv (com n d)).natAbs = 1
  rw [fdiv_abs (com_dn n d), fdiv_abs (com_dd n d), com_abs]
  exact Nat.gcd_div_gcd_div_gcd_of_pos_right (by omega)
end Ew

set_option Elab.async false
set_option linter.all false
set_option maxRecDepth 100000
set_option maxHeartbeats 4000000
namespace Ew
open PySem PySem.Spec PyProof.Rows L2
/-- a static method m of the class at C: what stands at p holds the def at g -/
structure StM (K : PySem.W.Frag) (C : Addr) (mc : Value) (m : Str) (p g : Addr) : Prop where
  rd : ClX.CRead K C mc
  off : PySem.W.findCls K (.ref C) mc m = some (.get (.builtin "staticmethod.__get__") (.ref p) .none (.ref C))
  rc : ∃ rest, PySem.W.recIn K p "staticmethod" = some (.ref g :: rest)
  kp : PySem.W.keepIn K (.ref g) = true
  pg : PySem.W.plainGet K C Str.empty = true
  ic : PySem.W.isClsIn K C = true
  at_ : PySem.W.findIn K (.ref C) m = some (some (.ref p))
  ty : PySem.W.typeIn K (.ref p) = some (.type "staticmethod")
  gt : PySem.W.specialIn K (.ref p) "__get__" = some (some (.builtin "staticmethod.__get__"))
  tk : PySem.W.takesIn K (.ref p) = some false
  cp : PySem.W.copiedNames.contains m = false
section
variable {X : Cx} {pins : List (Addr × Obj)} {σ : L2.St} {H : Hp} {s : Shared} {b C p g : Addr} {mc : Value} {m : Str} {A : Around} {E : Value → Shared → Prop}
theorem sm_off {pl : Sem Bool} {Q : Value × List Value → Shared → Prop} (I : Inv X pins σ H s) (k : StM X.K C mc m p g) (h : ∀ s', Inv X pins σ H s' → Q (.ref g, []) s') : wpAny (model X.prog X.w) A (getMethod (.ref C) m pl) Q E s := by
  obtain ⟨rest, hp⟩ := k.rc
  exact PySem.W.method_cls I.kIn k.rd.ga (PySem.W.cls_bind I.kIn k.rd.rd k.off (wpAny_call (PySem.W.sm_get (s := { s with toks := s.toks + 1 }) I.kIn hp (PySem.W.handed_on rfl (h _ (I.tok _))))))
theorem sm_on {pl : Sem Bool} {ox od : Obj} {Q : Value × List Value → Shared → Prop} (I : Inv X pins σ H s) (J : PySem.W.InstAt s.heap b ox C (some od)) (hl : PySem.W.lookIn m od = some none) (k : StM X.K C mc m p g)
    (h : ∀ s', Inv X pins σ H s' → Q (.ref g, []) s') : wpAny (model X.prog X.w) A (getMethod (.ref b) m pl) Q E s := by
  obtain ⟨rest, hp⟩ := k.rc
  have pg : PySem.W.plainGet X.K C m = true := k.pg
  refine PySem.W.method_usual (r := some (.ref p)) I.kIn J (PySem.W.plainGet_of pg).1 (PySem.W.plainGet_of pg).2 k.at_ ?_ (PySem.W.get_bind I.kIn J (PySem.W.plainGet_of pg).1 (ClX.find_cm k.ic k.at_ k.gt k.tk k.cp hl) (PySem.W.plainGet_of pg).2
    (wpAny_call (PySem.W.sm_get (s := { s with toks := s.toks + 1 }) I.kIn hp (PySem.W.handed_on rfl (h _ (I.tok _))))))
  rw [Option.all_some, k.ty]
  decide +kernel
variable {k j : Nat} {fd : FuncData} {ps : List Str} {sp : Sp} {e o : Expr} {es : List Expr} {t : TA} {ta : TE} {pos apos : Pos} {W : WX}
/-- C.m(e, ..), o.m(e, ..), m a static method -/
structure Sm (P : Program) (w : World) (K : PySem.W.Frag) (mg : Str → Option Value) (base : Heap) (k : Nat) (C : Addr) (m : Str) (ps : List Str) (sp : Sp) : Prop where
  ex : ∃ mc p g fd, StM K C mc m p g ∧ FnOk P w K mg base (L2.CX P w) k g fd ps sp ∧ Binds K fd ps []
def tSm (K : PySem.W.Frag) (C : Addr) (m : Str) (sp : Sp) (W : WX) (ta : TE) (t : TA) : TE := fun σ H Q => ta σ H fun x H1 => (x = .ref C ∨ ∃ b dx fs, x = .ref b ∧ H1 b = some (.ins C dx fs) ∧ fs.lookup m = none) ∧ t σ H1 fun vs H2 => sp vs H2 Q (WE W σ)
theorem pe_sm {pl : Sem Bool} (c : Sm X.prog X.w X.K X.mg X.base k C m ps sp) (tk : Takes X W) (hr : Room j X.A) (hk : k ≤ j) (he : PE X o ta) (ha : PA X (e :: es) t)
    (hst : starEach (e :: es) X.env = (false, eval e X.env) :: starEach es X.env := by rfl) (hpl : (backTo pos (starEach es X.env)).any (·.1) = false := by rfl)
    (ht : eval (.Call (.Attribute o m apos) (e :: es) [] pos) X.env = (do
      let v ← eval o X.env
      standAt apos.atName
      let (g, first) ← holding [v] (getMethod v m pl)
      callWith pos g first (backTo pos (starEach (e :: es) X.env)) (backToKw pos (keywordEach [] X.env))) := by rfl) :
    PE X (.Call (.Attribute o m apos) (e :: es) [] pos) (tSm X.K C m sp W ta t) := by
  obtain ⟨mc, p, g, fd, S, F, hb⟩ := c.ex
  refine ⟨fun pins s σ H Q I h => PySem.W.methodCall_KW (pl := pl) (thn (he.run pins s σ H _ I h) fun u s1 ⟨x, H1, I1, rx, ex, q⟩ => ?_) ht⟩
  have go : ∀ s', Inv X pins σ H1 s' → wpAny (model X.prog X.w) X.A (callWith pos (.ref g) [] (backTo pos (starEach (e :: es) X.env)) (backToKw pos (keywordEach [] X.env))) (EP X pins σ Q) X.xe s' := fun s' I' =>
    PySem.W.callWith_K (h₀ := X.base) I'.ok.mod.kin S.kp (thn (ha.run pos pins s' σ H1 _ I' q) fun us s2 ⟨vs, H2, I2, r, q2⟩ => ⟨I2.kIn, run_dv F (hr.mono hk) hb .nil tk I2 r (by rw [List.append_nil]; exact q2)⟩) hst hpl
  rcases ex with rfl | ⟨b, dx, fs, rfl, eb, l⟩
  · obtain rfl : u = Value.ref C := rx
    exact sm_off I1 S fun s' I' => go s' I'
  · obtain rfl : u = Value.ref b := rx
    obtain ⟨mA, O, rr, _, _, _⟩ := ins_get I1.hok eb
    obtain ⟨od, J, hl⟩ := O.look
    have hn : mA m = none := RelO.none_of (by rw [← l]; exact rr m)
    exact sm_on I1 J (by rw [hl m, hn]) S fun s' I' => go s' I'
end
/-! ### methods as they stand behind the top -/
structure MthAt (K : PySem.W.Frag) (C : Addr) (m q : Str) (st : Stmt) (ps : List Str) : Prop where
  ex : ∃ f fd, Meth K C m f ∧ Fun K m q st f fd ∧ Binds K fd ps []
structure OpAt (K : PySem.W.Frag) (C : Addr) (m x q : Str) (st : Stmt) (ps : List Str) : Prop where
  ex : ∃ f fd, OpM K C m f ∧ Fun K x q st f fd ∧ Binds K fd ps []
structure MkAt (K : PySem.W.Frag) (C : Addr) (q : Str) (st : Stmt) (ps : List Str) : Prop where
  ex : ∃ f fd, Mk K C f ∧ Fun K "__init__" q st f fd ∧ Binds K fd ps []
structure SmAt (K : PySem.W.Frag) (C : Addr) (m q : Str) (st : Stmt) (ps : List Str) : Prop where
  ex : ∃ mc p g fd, StM K C mc m p g ∧ Fun K m q st g fd ∧ Binds K fd ps []
/-- an own operator's method, its promise -/
structure OpC (P : Program) (w : World) (K : PySem.W.Frag) (mg : Str → Option Value) (base : Heap) (k : Nat) (C : Addr) (m : Str) (ps : List Str) (sp : Sp) : Prop where
  sf : PySem.W.selfFirst K C = true
  ex : ∃ f fd, OpM K C m f ∧ FnOk P w K mg base (L2.CX P w) k f fd ps sp ∧ Binds K fd ps []
section
variable {X : Cx} {k j : Nat} {C : Addr} {ps : List Str} {sp : Sp} {e1 e2 : Expr} {ta tb : TE} {pos : Pos} {W : WX}
theorem pe_bop {op : Operator} (c : OpC X.prog X.w X.K X.mg X.base k C (PySem.dunder op.info.2) ps sp) (tk : Takes X W) (hr : Room j X.A) (hk : k ≤ j) (h1 : PE X e1 ta) (h2 : PE X e2 tb) : PE X (.BinOp e1 op e2 pos) (tBinO C sp (WE W) ta tb) := by
  obtain ⟨f, fd, M, F, hb⟩ := c.ex
  exact pe_binO F (hr.mono hk) M c.sf hb (fun σ => passAt tk σ) h1 h2
theorem pe_nop (c : OpC X.prog X.w X.K X.mg X.base k C "__neg__" ps sp) (tk : Takes X W) (hr : Room j X.A) (hk : k ≤ j) (h1 : PE X e1 ta) : PE X (.UnaryOp .USub e1 pos) (tNegO C sp (WE W) ta) := by
  obtain ⟨f, fd, M, F, hb⟩ := c.ex
  exact pe_negO F (hr.mono hk) M hb (fun σ => passAt tk σ) h1
theorem pc_eop (c : OpC X.prog X.w X.K X.mg X.base k C "__eq__" ps sp) (tk : Takes X W) (hr : Room j X.A) (hk : k ≤ j) (ht : PySem.W.notFirst X.K C (.type "tuple") = true) (h1 : PE X e1 ta) (h2 : PE X e2 tb) : PC X .Eq e1 e2 (tEqO X.K C sp (WE W) ta tb) := by
  obtain ⟨f, fd, M, F, hb⟩ := c.ex
  exact pc_eqO F (hr.mono hk) M ht hb (fun σ => passAt tk σ) h1 h2
end
/-- what isinstance asks of an own class -/
structure KiC (K : PySem.W.Frag) (C : Addr) : Prop where
  cl : Cls K C
  ca : PySem.W.findIn K (.ref C) "__class__" = some (some (.builtin "object.__class__"))
  gg : PySem.W.specialIn K (.builtin "object.__class__") "__get__" = some (some (.builtin "getset_descriptor.__get__"))
  tk : PySem.W.takesIn K (.builtin "object.__class__") = some true
  mo : PySem.W.mroIn K C (.type "object") = some true
theorem KiC.ty {K : PySem.W.Frag} {C : Addr} (k : KiC K C) {H : Hp} {x dx : Addr} {fs : List (Str × V)} (h : H x = some (.ins C dx fs)) : TyX K H (.ref x) (.ref C) := .base (.ins h k.cl k.ca k.gg k.tk k.mo)
theorem kit_same {K : PySem.W.Frag} {t : Value} : PySem.W.kitOne K t t = some true := by
  unfold PySem.W.kitOne
  rw [if_pos (beq_self_eq_true t)]
end Ew

set_option Elab.async false
set_option linter.all false
set_option maxRecDepth 100000
set_option maxHeartbeats 4000000
namespace Ew
open PySem PySem.Spec PyProof.Rows L2
open AutoSeq1 (wpAny_loadPart')
open MeetsSeq MeetsSeq2 MeetsSeq3 SeqRoads2
theorem tup_once (l : Addr) (items : Array Value) (n : Nat) (dd : Option Addr) (sl : Array (Option Value)) (u : Tok) :
    Meets (Builtin.«tuple.__mul__» ⟨[.ref l, .int 1 u], []⟩) (fun _ R s => s.heap.get? l = some { cls := .type "tuple", dict := dd, data := .seq items n, slots := sl } ∧ R (.ok (.ret (.ref l))) s) :=
  .of_wp fun prog w A R s h => by
    obtain ⟨hp, g, d, tk, os⟩ := s
    obtain ⟨hl, h⟩ := h
    have f1 := AutoSeq1.idx_int
    wp_walk using wpAny_loadPart' hl
    exact ⟨_, rfl, h⟩
def rRep1 (K : PySem.W.Frag) : R2 := fun x y H Q => ∃ l xs, x = .ref l ∧ y = .int 1 ∧ SqT K H l xs ∧ Q (.ref l) H
theorem op_rep1 {X : Cx} : OpR X (binaryOp .Mult) (rRep1 X.K) := by
  intro pins s σ H x y v u Q I rx ry h
  obtain ⟨l, xs, rfl, rfl, hT, q⟩ := h
  cases rx
  obtain ⟨t, rfl⟩ := ry
  obtain ⟨its, r, ⟨⟨cls, dd, data, sl⟩, ho, hc, n, hd⟩, hs⟩ := I.tuple hT
  dsimp only at hc hd
  subst hc hd
  exact wpAny_binaryOp_repeat_ref (T := "tuple") (U := "int") (by decide) ⟨_, ho, rfl⟩ (fun s' => typeIs_int s' 1 t) noFill_tuple_mul F.fills_int_mul F.slot_int_rmul repeat_tuple F.slot_int_index.lookup
    (call_meets F.slot_int_rmul (typeIs_int s 1 t) F.entry_int_rmul (F.args_int_rmul_2 _ _) (int_rmul_tuple 1 t l its.toArray n dd sl)
      ⟨ho, rfl, ⟨_, ho, rfl⟩, call_meets F.slot_tuple_mul ⟨_, ho, rfl⟩ F.entry_tuple_mul (F.args_tuple_mul_2 _ _) (tup_once l its.toArray n dd sl t) ⟨ho, .ref l, H, I, rfl, q⟩⟩)
theorem op_repA {X : Cx} : OpR X (binaryOp .Mult) (fun x y H Q => rRepT X.K x y H Q ∨ rRep1 X.K x y H Q) := op_repT.or op_rep1
end Ew

set_option Elab.async false
set_option linter.all false
set_option maxRecDepth 100000
set_option maxHeartbeats 4000000
namespace Ew
open PySem PySem.Spec PyProof.Rows L2
/-- data that may be compared: n deep at most -/
structure Fl (n : Nat) (d : PyData) : Prop where
  c : d.canLay0 = true
  d : d.depth ≤ n
structure FlA (n : Nat) (ds : List PyData) : Prop where
  c : PyData.canLayAll0 ds = true
  d : PyData.depthAll ds ≤ n
theorem FlA.nil {n : Nat} : FlA n [] := ⟨by rw [PyData.canLayAll0], by rw [PyData.depthAll]; omega⟩
theorem FlA.cons {n : Nat} {d : PyData} {ds : List PyData} (h : Fl n d) (t : FlA n ds) : FlA n (d :: ds) := ⟨by rw [PyData.canLayAll0, h.c, t.c]; rfl, by rw [PyData.depthAll]; have := h.d; have := t.d; omega⟩
theorem FlA.all {n : Nat} : ∀ {ds : List PyData}, (∀ d ∈ ds, Fl n d) → FlA n ds
  | [], _ => .nil
  | d :: ds, h => .cons (h d List.mem_cons_self) (FlA.all fun x hx => h x (List.mem_cons_of_mem _ hx))
theorem Fl.tup {n : Nat} {ds : List PyData} (h : FlA n ds) : Fl (n + 1) (.tuple ds) := ⟨by rw [PyData.canLay0]; exact h.c, by rw [PyData.depth]; have := h.d; omega⟩
theorem Fl.lst {n : Nat} {ds : List PyData} (h : FlA n ds) : Fl (n + 1) (.list ds) := ⟨by rw [PyData.canLay0]; exact h.c, by rw [PyData.depth]; have := h.d; omega⟩
theorem Fl.int {n : Nat} {i : Int} : Fl n (.int i) := ⟨by rw [PyData.canLay0], by rw [PyData.depth]; omega⟩
theorem Fl.str {n : Nat} {x : Str} (h : PyData.strOk x = true) : Fl n (.str x) := ⟨by rw [PyData.canLay0]; exact h, by rw [PyData.depth]; omega⟩
theorem Fl.sh {n : Nat} {d : PyData} (h : Fl n d) (k : n ≤ 64) : SeqAt.shaped d = true := by
  unfold SeqAt.shaped
  have := h.d
  rw [h.c, decide_eq_true (by omega : d.depth ≤ 64)]
  rfl
theorem fl_ints {n : Nat} (ds : List Int) : Fl (n + 1) (intT ds) := Fl.tup ⟨lay_ints ds, by rw [dep_ints]; omega⟩
/-- a pair of a ratio and a tuple of ints -/
def rowD (s : (Int × Int) × List Int) : PyData := .tuple [intT [s.1.1, s.1.2], intT s.2]
theorem fl_row {n : Nat} (s : (Int × Int) × List Int) : Fl (n + 2) (rowD s) := Fl.tup (.cons (fl_ints _) (.cons (fl_ints _) .nil))
theorem eqv_row (s t : (Int × Int) × List Int) : PyData.eqv (rowD s) (rowD t) = decide (s = t) := by
  unfold rowD
  rw [PyData.eqv, PyData.eqvAll, PyData.eqvAll, PyData.eqvAll, eqv_ints, eqv_ints]
  obtain ⟨⟨a, b⟩, c⟩ := s
  obtain ⟨⟨a', b'⟩, c'⟩ := t
  by_cases h1 : a = a' <;> by_cases h2 : b = b' <;> by_cases h3 : c = c' <;> simp [h1, h2, h3]
def Row (K : PySem.W.Frag) (F : Hp) (v : V) (s : (Int × Int) × List Int) : Prop := ∃ p u w, v = .ref p ∧ SqT K F p [u, w] ∧ Rt K F u s.1 ∧ Dm K F w s.2
theorem Row.up {K : PySem.W.Frag} {F F' : Hp} {v : V} {s : (Int × Int) × List Int} (h : Row K F v s) (e : Same F F') : Row K F' v s := by
  obtain ⟨p, u, w, h1, h2, h3, h4⟩ := h
  exact ⟨p, u, w, h1, upT e h2, h3.up e, h4.up e⟩
theorem Row.dp {K : PySem.W.Frag} {F : Hp} {v : V} {s : (Int × Int) × List Int} (h : Row K F v s) : Dp K F v (rowD s) := by
  obtain ⟨p, u, w, rfl, h2, h3, h4⟩ := h
  exact .tup h2 (.cons h3.dp (.cons h4.dp .nil))
/-- items, each with its own word -/
def Rws (K : PySem.W.Frag) (F : Hp) (xs : List V) (ss : List ((Int × Int) × List Int)) : Prop := xs.length = ss.length ∧ ∀ (i : Nat) x, xs[i]? = some x → ∃ s, ss[i]? = some s ∧ Row K F x s
theorem Rws.up {K : PySem.W.Frag} {F F' : Hp} {xs : List V} {ss : List ((Int × Int) × List Int)} (h : Rws K F xs ss) (e : Same F F') : Rws K F' xs ss := ⟨h.1, fun i x hx => by
  obtain ⟨s, h1, h2⟩ := h.2 i x hx
  exact ⟨s, h1, h2.up e⟩⟩
theorem Rws.nil {K : PySem.W.Frag} {F : Hp} : Rws K F [] [] := ⟨rfl, fun i x h => by simp at h⟩
theorem Rws.snoc {K : PySem.W.Frag} {F : Hp} {xs : List V} {ss : List ((Int × Int) × List Int)} {x : V} {s : (Int × Int) × List Int} (h : Rws K F xs ss) (k : Row K F x s) : Rws K F (xs ++ [x]) (ss ++ [s]) := by
  refine ⟨by simp [h.1], fun i y hy => ?_⟩
  rcases Nat.lt_or_ge i xs.length with hi | hi
  · rw [List.getElem?_append_left hi] at hy
    obtain ⟨t, h1, h2⟩ := h.2 i y hy
    exact ⟨t, by rw [List.getElem?_append_left (by rw [← h.1]; exact hi)]; exact h1, h2⟩
  · rw [List.getElem?_append_right hi] at hy
    have e0 : i - xs.length = 0 := by
      rcases Nat.eq_zero_or_pos (i - xs.length) with h0 | h0
      · exact h0
      · rw [List.getElem?_eq_none (by simp; omega)] at hy; cases hy
    rw [e0] at hy
    cases hy
    refine ⟨s, ?_, k⟩
    rw [List.getElem?_append_right (by rw [← h.1]; exact hi), ← h.1, e0]
    rfl
theorem Rws.dps {K : PySem.W.Frag} {F : Hp} : ∀ {xs : List V} {ss : List ((Int × Int) × List Int)}, Rws K F xs ss → DpAll K F xs (ss.map rowD)
  | [], [], _ => .nil
  | [], s :: ss, h => absurd h.1 (by simp)
  | x :: xs, [], h => absurd h.1 (by simp)
  | x :: xs, s :: ss, h => by
    obtain ⟨t, h1, h2⟩ := h.2 0 x rfl
    cases h1
    exact .cons h2.dp (Rws.dps ⟨by simpa using h.1, fun i y hy => h.2 (i + 1) y hy⟩)
end Ew

set_option Elab.async false
set_option linter.all false
set_option maxRecDepth 100000
set_option maxHeartbeats 4000000
namespace K04
open PySem PySem.Spec PyProof.Rows L2 Ew
def top (i : Nat) : Stmt := PySem.Challenge.pw_ellwarden_k04_amounts.main.body.getD i (.Pass ⟨0, 0, 0, 0⟩)
abbrev s_is_integer : Stmt := (top 2)
abbrev N_is_integer : List Str := ["thing"]
abbrev P_is_integer : List Str := ["thing"]
theorem sc_is_integer : FnScope N_is_integer P_is_integer (defScope s_is_integer) := ⟨rfl, rfl, rfl, by decide +kernel, rfl, by decide +kernel, by decide +kernel⟩
abbrev s_is_within : Stmt := (top 3)
abbrev N_is_within : List Str := ["thing", "least", "greatest"]
abbrev P_is_within : List Str := ["thing", "least", "greatest"]
theorem sc_is_within : FnScope N_is_within P_is_within (defScope s_is_within) := ⟨rfl, rfl, rfl, by decide +kernel, rfl, by decide +kernel, by decide +kernel⟩
abbrev s_is_tuple_of : Stmt := (top 4)
abbrev N_is_tuple_of : List Str := ["thing", "many"]
abbrev P_is_tuple_of : List Str := ["thing", "many"]
theorem sc_is_tuple_of : FnScope N_is_tuple_of P_is_tuple_of (defScope s_is_tuple_of) := ⟨rfl, rfl, rfl, by decide +kernel, rfl, by decide +kernel, by decide +kernel⟩
abbrev s_NoughtD_initD : Stmt := inClass (top 7) 0
abbrev N_NoughtD_initD : List Str := ["self", "number"]
abbrev P_NoughtD_initD : List Str := ["self", "number"]
theorem sc_NoughtD_initD : FnScope N_NoughtD_initD P_NoughtD_initD (defScope s_NoughtD_initD) := ⟨rfl, rfl, rfl, by decide +kernel, rfl, by decide +kernel, by decide +kernel⟩
abbrev s_TooHighD_initD : Stmt := inClass (top 8) 0
abbrev N_TooHighD_initD : List Str := ["self", "dimension"]
abbrev P_TooHighD_initD : List Str := ["self", "dimension"]
theorem sc_TooHighD_initD : FnScope N_TooHighD_initD P_TooHighD_initD (defScope s_TooHighD_initD) := ⟨rfl, rfl, rfl, by decide +kernel, rfl, by decide +kernel, by decide +kernel⟩
abbrev s_MixedD_initD : Stmt := inClass (top 9) 0
abbrev N_MixedD_initD : List Str := ["self", "left", "right"]
abbrev P_MixedD_initD : List Str := ["self", "left", "right"]
theorem sc_MixedD_initD : FnScope N_MixedD_initD P_MixedD_initD (defScope s_MixedD_initD) := ⟨rfl, rfl, rfl, by decide +kernel, rfl, by decide +kernel, by decide +kernel⟩
abbrev s_is_dimension : Stmt := (top 12)
abbrev N_is_dimension : List Str := ["thing", "many", "exponent"]
abbrev P_is_dimension : List Str := ["thing", "many"]
theorem sc_is_dimension : FnScope N_is_dimension P_is_dimension (defScope s_is_dimension) := ⟨rfl, rfl, rfl, by decide +kernel, rfl, by decide +kernel, by decide +kernel⟩
abbrev s__is_exponent : Stmt := (top 13)
abbrev N__is_exponent : List Str := ["thing"]
abbrev P__is_exponent : List Str := ["thing"]
theorem sc__is_exponent : FnScope N__is_exponent P__is_exponent (defScope s__is_exponent) := ⟨rfl, rfl, rfl, by decide +kernel, rfl, by decide +kernel, by decide +kernel⟩
abbrev s_multiplied : Stmt := (top 14)
abbrev N_multiplied : List Str := ["a", "b", "left", "right"]
abbrev P_multiplied : List Str := ["a", "b"]
theorem sc_multiplied : FnScope N_multiplied P_multiplied (defScope s_multiplied) := ⟨rfl, rfl, rfl, by decide +kernel, rfl, by decide +kernel, by decide +kernel⟩
abbrev s_divided : Stmt := (top 15)
abbrev N_divided : List Str := ["a", "b", "left", "right"]
abbrev P_divided : List Str := ["a", "b"]
theorem sc_divided : FnScope N_divided P_divided (defScope s_divided) := ⟨rfl, rfl, rfl, by decide +kernel, rfl, by decide +kernel, by decide +kernel⟩
abbrev s__checked : Stmt := (top 16)
abbrev N__checked : List Str := ["dimension"]
abbrev P__checked : List Str := ["dimension"]
theorem sc__checked : FnScope N__checked P__checked (defScope s__checked) := ⟨rfl, rfl, rfl, by decide +kernel, rfl, by decide +kernel, by decide +kernel⟩
abbrev s_ratio : Stmt := (top 18)
abbrev N_ratio : List Str := ["n", "d", "common"]
abbrev P_ratio : List Str := ["n", "d"]
theorem sc_ratio : FnScope N_ratio P_ratio (defScope s_ratio) := ⟨rfl, rfl, rfl, by decide +kernel, rfl, by decide +kernel, by decide +kernel⟩
abbrev s_plus : Stmt := (top 19)
abbrev N_plus : List Str := ["a", "b"]
abbrev P_plus : List Str := ["a", "b"]
theorem sc_plus : FnScope N_plus P_plus (defScope s_plus) := ⟨rfl, rfl, rfl, by decide +kernel, rfl, by decide +kernel, by decide +kernel⟩
abbrev s_minus : Stmt := (top 20)
abbrev N_minus : List Str := ["a", "b"]
abbrev P_minus : List Str := ["a", "b"]
theorem sc_minus : FnScope N_minus P_minus (defScope s_minus) := ⟨rfl, rfl, rfl, by decide +kernel, rfl, by decide +kernel, by decide +kernel⟩
abbrev s_times : Stmt := (top 21)
abbrev N_times : List Str := ["a", "b"]
abbrev P_times : List Str := ["a", "b"]
theorem sc_times : FnScope N_times P_times (defScope s_times) := ⟨rfl, rfl, rfl, by decide +kernel, rfl, by decide +kernel, by decide +kernel⟩
abbrev s_over : Stmt := (top 22)
abbrev N_over : List Str := ["a", "b"]
abbrev P_over : List Str := ["a", "b"]
theorem sc_over : FnScope N_over P_over (defScope s_over) := ⟨rfl, rfl, rfl, by decide +kernel, rfl, by decide +kernel, by decide +kernel⟩
abbrev s_compare : Stmt := (top 23)
abbrev N_compare : List Str := ["a", "b", "left", "right"]
abbrev P_compare : List Str := ["a", "b"]
theorem sc_compare : FnScope N_compare P_compare (defScope s_compare) := ⟨rfl, rfl, rfl, by decide +kernel, rfl, by decide +kernel, by decide +kernel⟩
abbrev s_AmountD_initD : Stmt := inClass (top 25) 0
abbrev N_AmountD_initD : List Str := ["self", "number", "dimension"]
abbrev P_AmountD_initD : List Str := ["self", "number", "dimension"]
theorem sc_AmountD_initD : FnScope N_AmountD_initD P_AmountD_initD (defScope s_AmountD_initD) := ⟨rfl, rfl, rfl, by decide +kernel, rfl, by decide +kernel, by decide +kernel⟩
abbrev s_Amount_bare : Stmt := inClass (top 25) 1
abbrev N_Amount_bare : List Str := ["number", "many"]
abbrev P_Amount_bare : List Str := ["number", "many"]
theorem sc_Amount_bare : FnScope N_Amount_bare P_Amount_bare (defScope s_Amount_bare) := ⟨rfl, rfl, rfl, by decide +kernel, rfl, by decide +kernel, by decide +kernel⟩
abbrev s_AmountD_addD : Stmt := inClass (top 25) 2
abbrev N_AmountD_addD : List Str := ["self", "other"]
abbrev P_AmountD_addD : List Str := ["self", "other"]
theorem sc_AmountD_addD : FnScope N_AmountD_addD P_AmountD_addD (defScope s_AmountD_addD) := ⟨rfl, rfl, rfl, by decide +kernel, rfl, by decide +kernel, by decide +kernel⟩
abbrev s_AmountD_subD : Stmt := inClass (top 25) 3
abbrev N_AmountD_subD : List Str := ["self", "other"]
abbrev P_AmountD_subD : List Str := ["self", "other"]
theorem sc_AmountD_subD : FnScope N_AmountD_subD P_AmountD_subD (defScope s_AmountD_subD) := ⟨rfl, rfl, rfl, by decide +kernel, rfl, by decide +kernel, by decide +kernel⟩
abbrev s_AmountD_mulD : Stmt := inClass (top 25) 4
abbrev N_AmountD_mulD : List Str := ["self", "other", "dimension"]
abbrev P_AmountD_mulD : List Str := ["self", "other"]
theorem sc_AmountD_mulD : FnScope N_AmountD_mulD P_AmountD_mulD (defScope s_AmountD_mulD) := ⟨rfl, rfl, rfl, by decide +kernel, rfl, by decide +kernel, by decide +kernel⟩
abbrev s_AmountD_floordivD : Stmt := inClass (top 25) 5
abbrev N_AmountD_floordivD : List Str := ["self", "other", "dimension"]
abbrev P_AmountD_floordivD : List Str := ["self", "other"]
theorem sc_AmountD_floordivD : FnScope N_AmountD_floordivD P_AmountD_floordivD (defScope s_AmountD_floordivD) := ⟨rfl, rfl, rfl, by decide +kernel, rfl, by decide +kernel, by decide +kernel⟩
abbrev s_AmountD_negD : Stmt := inClass (top 25) 6
abbrev N_AmountD_negD : List Str := ["self"]
abbrev P_AmountD_negD : List Str := ["self"]
theorem sc_AmountD_negD : FnScope N_AmountD_negD P_AmountD_negD (defScope s_AmountD_negD) := ⟨rfl, rfl, rfl, by decide +kernel, rfl, by decide +kernel, by decide +kernel⟩
abbrev s_AmountD_eqD : Stmt := inClass (top 25) 7
abbrev N_AmountD_eqD : List Str := ["self", "other"]
abbrev P_AmountD_eqD : List Str := ["self", "other"]
theorem sc_AmountD_eqD : FnScope N_AmountD_eqD P_AmountD_eqD (defScope s_AmountD_eqD) := ⟨rfl, rfl, rfl, by decide +kernel, rfl, by decide +kernel, by decide +kernel⟩
abbrev s_Amount_compared : Stmt := inClass (top 25) 8
abbrev N_Amount_compared : List Str := ["self", "other"]
abbrev P_Amount_compared : List Str := ["self", "other"]
theorem sc_Amount_compared : FnScope N_Amount_compared P_Amount_compared (defScope s_Amount_compared) := ⟨rfl, rfl, rfl, by decide +kernel, rfl, by decide +kernel, by decide +kernel⟩
abbrev s__ask_for_one : Stmt := (top 26)
abbrev N__ask_for_one : List Str := ["left", "right"]
abbrev P__ask_for_one : List Str := ["left", "right"]
theorem sc__ask_for_one : FnScope N__ask_for_one P__ask_for_one (defScope s__ask_for_one) := ⟨rfl, rfl, rfl, by decide +kernel, rfl, by decide +kernel, by decide +kernel⟩
abbrev s__law_bag_of : Stmt := (top 28)
abbrev N__law_bag_of : List Str := ["_law_script", "_law_mixed", "_law_cell"]
abbrev P__law_bag_of : List Str := ["_law_script"]
theorem sc__law_bag_of : FnScope N__law_bag_of P__law_bag_of (defScope s__law_bag_of) := ⟨rfl, rfl, rfl, by decide +kernel, rfl, by decide +kernel, by decide +kernel⟩
abbrev s__law_pick : Stmt := (top 29)
abbrev N__law_pick : List Str := ["_law_bag", "_law_many", "_law_number", "_law_cell"]
abbrev P__law_pick : List Str := ["_law_bag", "_law_many"]
theorem sc__law_pick : FnScope N__law_pick P__law_pick (defScope s__law_pick) := ⟨rfl, rfl, rfl, by decide +kernel, rfl, by decide +kernel, by decide +kernel⟩
abbrev s__law_choice : Stmt := (top 30)
abbrev N__law_choice : List Str := ["_law_bag", "_law_things"]
abbrev P__law_choice : List Str := ["_law_bag", "_law_things"]
theorem sc__law_choice : FnScope N__law_choice P__law_choice (defScope s__law_choice) := ⟨rfl, rfl, rfl, by decide +kernel, rfl, by decide +kernel, by decide +kernel⟩
abbrev s__law_one_in : Stmt := (top 31)
abbrev N__law_one_in : List Str := ["_law_bag", "_law_many"]
abbrev P__law_one_in : List Str := ["_law_bag", "_law_many"]
theorem sc__law_one_in : FnScope N__law_one_in P__law_one_in (defScope s__law_one_in) := ⟨rfl, rfl, rfl, by decide +kernel, rfl, by decide +kernel, by decide +kernel⟩
abbrev s__law_integer : Stmt := (top 32)
abbrev N__law_integer : List Str := ["_law_thing"]
abbrev P__law_integer : List Str := ["_law_thing"]
theorem sc__law_integer : FnScope N__law_integer P__law_integer (defScope s__law_integer) := ⟨rfl, rfl, rfl, by decide +kernel, rfl, by decide +kernel, by decide +kernel⟩
abbrev s__law_gcd : Stmt := (top 33)
abbrev N__law_gcd : List Str := ["_law_a", "_law_b", "_law_first", "_law_second", "_law_rest"]
abbrev P__law_gcd : List Str := ["_law_a", "_law_b"]
theorem sc__law_gcd : FnScope N__law_gcd P__law_gcd (defScope s__law_gcd) := ⟨rfl, rfl, rfl, by decide +kernel, rfl, by decide +kernel, by decide +kernel⟩
abbrev s__law_ratio : Stmt := (top 34)
abbrev N__law_ratio : List Str := ["_law_n", "_law_d", "_law_common"]
abbrev P__law_ratio : List Str := ["_law_n", "_law_d"]
theorem sc__law_ratio : FnScope N__law_ratio P__law_ratio (defScope s__law_ratio) := ⟨rfl, rfl, rfl, by decide +kernel, rfl, by decide +kernel, by decide +kernel⟩
abbrev s__law_is_ratio : Stmt := (top 35)
abbrev N__law_is_ratio : List Str := ["_law_thing"]
abbrev P__law_is_ratio : List Str := ["_law_thing"]
theorem sc__law_is_ratio : FnScope N__law_is_ratio P__law_is_ratio (defScope s__law_is_ratio) := ⟨rfl, rfl, rfl, by decide +kernel, rfl, by decide +kernel, by decide +kernel⟩
abbrev s__law_plus : Stmt := (top 36)
abbrev N__law_plus : List Str := ["_law_a", "_law_b"]
abbrev P__law_plus : List Str := ["_law_a", "_law_b"]
theorem sc__law_plus : FnScope N__law_plus P__law_plus (defScope s__law_plus) := ⟨rfl, rfl, rfl, by decide +kernel, rfl, by decide +kernel, by decide +kernel⟩
abbrev s__law_minus : Stmt := (top 37)
abbrev N__law_minus : List Str := ["_law_a", "_law_b"]
abbrev P__law_minus : List Str := ["_law_a", "_law_b"]
theorem sc__law_minus : FnScope N__law_minus P__law_minus (defScope s__law_minus) := ⟨rfl, rfl, rfl, by decide +kernel, rfl, by decide +kernel, by decide +kernel⟩
abbrev s__law_times : Stmt := (top 38)
abbrev N__law_times : List Str := ["_law_a", "_law_b"]
abbrev P__law_times : List Str := ["_law_a", "_law_b"]
theorem sc__law_times : FnScope N__law_times P__law_times (defScope s__law_times) := ⟨rfl, rfl, rfl, by decide +kernel, rfl, by decide +kernel, by decide +kernel⟩
abbrev s__law_over : Stmt := (top 39)
abbrev N__law_over : List Str := ["_law_a", "_law_b"]
abbrev P__law_over : List Str := ["_law_a", "_law_b"]
theorem sc__law_over : FnScope N__law_over P__law_over (defScope s__law_over) := ⟨rfl, rfl, rfl, by decide +kernel, rfl, by decide +kernel, by decide +kernel⟩
abbrev s__law_less : Stmt := (top 40)
abbrev N__law_less : List Str := ["_law_a", "_law_b"]
abbrev P__law_less : List Str := ["_law_a", "_law_b"]
theorem sc__law_less : FnScope N__law_less P__law_less (defScope s__law_less) := ⟨rfl, rfl, rfl, by decide +kernel, rfl, by decide +kernel, by decide +kernel⟩
abbrev s__law_number_of : Stmt := (top 41)
abbrev N__law_number_of : List Str := ["_law_bag", "_law_way", "_law_wide", "_law_number"]
abbrev P__law_number_of : List Str := ["_law_bag"]
theorem sc__law_number_of : FnScope N__law_number_of P__law_number_of (defScope s__law_number_of) := ⟨rfl, rfl, rfl, by decide +kernel, rfl, by decide +kernel, by decide +kernel⟩
abbrev s__law_dimension_of : Stmt := (top 42)
abbrev N__law_dimension_of : List Str := ["_law_bag", "_law_many", "_law_wide", "_law_k"]
abbrev P__law_dimension_of : List Str := ["_law_bag", "_law_many"]
theorem sc__law_dimension_of : FnScope N__law_dimension_of P__law_dimension_of (defScope s__law_dimension_of) := ⟨rfl, rfl, rfl, by decide +kernel, rfl, by decide +kernel, by decide +kernel⟩
abbrev s__law_pairs_drawn : Stmt := (top 43)
abbrev N__law_pairs_drawn : List Str := ["_law_bag", "_law_many", "_law_sides", "_law_rows", "_law_k", "_law_number"]
abbrev P__law_pairs_drawn : List Str := ["_law_bag", "_law_many"]
theorem sc__law_pairs_drawn : FnScope N__law_pairs_drawn P__law_pairs_drawn (defScope s__law_pairs_drawn) := ⟨rfl, rfl, rfl, by decide +kernel, rfl, by decide +kernel, by decide +kernel⟩
abbrev s__law_high : Stmt := (top 44)
abbrev N__law_high : List Str := ["_law_dimension", "_law_one"]
abbrev P__law_high : List Str := ["_law_dimension"]
theorem sc__law_high : FnScope N__law_high P__law_high (defScope s__law_high) := ⟨rfl, rfl, rfl, by decide +kernel, rfl, by decide +kernel, by decide +kernel⟩
abbrev s__law_due_of : Stmt := (top 45)
abbrev N__law_due_of : List Str := ["_law_first", "_law_second", "_law_sign", "_law_turn", "_law_dimension", "_law_k"]
abbrev P__law_due_of : List Str := ["_law_first", "_law_second", "_law_sign"]
theorem sc__law_due_of : FnScope N__law_due_of P__law_due_of (defScope s__law_due_of) := ⟨rfl, rfl, rfl, by decide +kernel, rfl, by decide +kernel, by decide +kernel⟩
abbrev s__law_done : Stmt := (top 46)
abbrev N__law_done : List Str := ["_law_a", "_law_b", "_law_sign"]
abbrev P__law_done : List Str := ["_law_a", "_law_b", "_law_sign"]
theorem sc__law_done : FnScope N__law_done P__law_done (defScope s__law_done) := ⟨rfl, rfl, rfl, by decide +kernel, rfl, by decide +kernel, by decide +kernel⟩
abbrev s__law_told_of : Stmt := (top 47)
abbrev N__law_told_of : List Str := ["_law_a", "_law_b", "_law_sign", "e"]
abbrev P__law_told_of : List Str := ["_law_a", "_law_b", "_law_sign"]
theorem sc__law_told_of : FnScope N__law_told_of P__law_told_of (defScope s__law_told_of) := ⟨rfl, rfl, rfl, by decide +kernel, rfl, by decide +kernel, by decide +kernel⟩
abbrev s__law_plain : Stmt := (top 48)
abbrev N__law_plain : List Str := ["_law_thing", "_law_one"]
abbrev P__law_plain : List Str := ["_law_thing"]
theorem sc__law_plain : FnScope N__law_plain P__law_plain (defScope s__law_plain) := ⟨rfl, rfl, rfl, by decide +kernel, rfl, by decide +kernel, by decide +kernel⟩
abbrev s__law_is_amount : Stmt := (top 49)
abbrev N__law_is_amount : List Str := ["_law_thing", "_law_number", "_law_dimension"]
abbrev P__law_is_amount : List Str := ["_law_thing", "_law_number", "_law_dimension"]
theorem sc__law_is_amount : FnScope N__law_is_amount P__law_is_amount (defScope s__law_is_amount) := ⟨rfl, rfl, rfl, by decide +kernel, rfl, by decide +kernel, by decide +kernel⟩
abbrev s__law_right_of : Stmt := (top 50)
abbrev N__law_right_of : List Str := ["_law_told", "_law_due", "_law_one"]
abbrev P__law_right_of : List Str := ["_law_told", "_law_due"]
theorem sc__law_right_of : FnScope N__law_right_of P__law_right_of (defScope s__law_right_of) := ⟨rfl, rfl, rfl, by decide +kernel, rfl, by decide +kernel, by decide +kernel⟩
abbrev s__law_right_pair : Stmt := (top 51)
abbrev N__law_right_pair : List Str := ["_law_a", "_law_b", "_law_first", "_law_second", "_law_sign", "_law_alike"]
abbrev P__law_right_pair : List Str := ["_law_a", "_law_b", "_law_first", "_law_second"]
theorem sc__law_right_pair : FnScope N__law_right_pair P__law_right_pair (defScope s__law_right_pair) := ⟨rfl, rfl, rfl, by decide +kernel, rfl, by decide +kernel, by decide +kernel⟩
abbrev s__law_right_row : Stmt := (top 52)
abbrev N__law_right_row : List Str := ["_law_bag", "_law_amounts", "_law_rows", "_law_total", "_law_due", "_law_step", "_law_at", "_law_sign", "_law_back", "_law_left", "_law_right", "_law_told", "_law_wish"]
abbrev P__law_right_row : List Str := ["_law_bag", "_law_amounts", "_law_rows"]
theorem sc__law_right_row : FnScope N__law_right_row P__law_right_row (defScope s__law_right_row) := ⟨rfl, rfl, rfl, by decide +kernel, rfl, by decide +kernel, by decide +kernel⟩
abbrev s_law : Stmt := (top 53)
abbrev N_law : List Str := ["_law_script", "_law_bag", "_law_many", "_law_rows", "_law_amounts", "_law_k", "_law_step", "_law_number", "_law_row"]
abbrev P_law : List Str := ["_law_script"]
theorem sc_law : FnScope N_law P_law (defScope s_law) := ⟨rfl, rfl, rfl, by decide +kernel, rfl, by decide +kernel, by decide +kernel⟩
structure Ad where
  Amount : Addr
  Nought : Addr
  TooHigh : Addr
  Mixed : Addr
  EllError : Addr
  tH : Tok
/-- an error's own __init__ -/
structure IniAt (K : PySem.W.Frag) (C : Addr) (q : Str) (st : Stmt) (ps : List Str) : Prop where
  ex : ∃ f fd, PySem.W.findIn K (.ref C) "__init__" = some (some (.ref f)) ∧ PySem.W.typeIn K (.ref f) = some (.type "function") ∧ Fun K "__init__" q st f fd ∧ Binds K fd ps []
/-- what the top has written -/
structure Txt (K : PySem.W.Frag) (mg : Str → Option Value) (a : Ad) : Prop where
  n_isinstance : mg "isinstance" = none
  n_int : mg "int" = none
  n_bool : mg "bool" = none
  n_tuple : mg "tuple" = none
  n_len : mg "len" = none
  n_all : mg "all" = none
  n_abs : mg "abs" = none
  n_range : mg "range" = none
  n_zip : mg "zip" = none
  n_ValueError : mg "ValueError" = none
  gcd : mg "gcd" = some (.builtin "math.gcd")
  k_HIGHEST : mg "HIGHEST" = some (.int 9 a.tH)
  ox_Nought : OexC K a.Nought
  ox_TooHigh : OexC K a.TooHigh
  ox_Mixed : OexC K a.Mixed
  g_Nought : mg "Nought" = some (.ref a.Nought)
  g_TooHigh : mg "TooHigh" = some (.ref a.TooHigh)
  g_Mixed : mg "Mixed" = some (.ref a.Mixed)
  no_Nought_number : PySem.W.findIn K (.ref a.Nought) "number" = some none
  no_TooHigh_dimension : PySem.W.findIn K (.ref a.TooHigh) "dimension" = some none
  no_Mixed_left : PySem.W.findIn K (.ref a.Mixed) "left" = some none
  no_Mixed_right : PySem.W.findIn K (.ref a.Mixed) "right" = some none
  i_Nought : IniAt K a.Nought "Nought.__init__" s_NoughtD_initD P_NoughtD_initD
  i_TooHigh : IniAt K a.TooHigh "TooHigh.__init__" s_TooHighD_initD P_TooHighD_initD
  i_Mixed : IniAt K a.Mixed "Mixed.__init__" s_MixedD_initD P_MixedD_initD
  g_Amount : mg "Amount" = some (.ref a.Amount)
  ki : KiC K a.Amount
  nN : NoAttr K a.Amount "number"
  nD : NoAttr K a.Amount "dimension"
  sf : PySem.W.selfFirst K a.Amount = true
  nft : PySem.W.notFirst K a.Amount (.type "tuple") = true
  kit_tA : PySem.W.kitOne K (.type "tuple") (.ref a.Amount) = some false
  i_Amount : MkAt K a.Amount "Amount.__init__" s_AmountD_initD P_AmountD_initD
  m_bare : SmAt K a.Amount "bare" "Amount.bare" s_Amount_bare P_Amount_bare
  o_add : OpAt K a.Amount (PySem.dunder Operator.Add.info.2) "__add__" "Amount.__add__" s_AmountD_addD P_AmountD_addD
  o_sub : OpAt K a.Amount (PySem.dunder Operator.Sub.info.2) "__sub__" "Amount.__sub__" s_AmountD_subD P_AmountD_subD
  o_mul : OpAt K a.Amount (PySem.dunder Operator.Mult.info.2) "__mul__" "Amount.__mul__" s_AmountD_mulD P_AmountD_mulD
  o_div : OpAt K a.Amount (PySem.dunder Operator.FloorDiv.info.2) "__floordiv__" "Amount.__floordiv__" s_AmountD_floordivD P_AmountD_floordivD
  o_neg : OpAt K a.Amount "__neg__" "__neg__" "Amount.__neg__" s_AmountD_negD P_AmountD_negD
  o_eq : OpAt K a.Amount "__eq__" "__eq__" "Amount.__eq__" s_AmountD_eqD P_AmountD_eqD
  m_compared : MthAt K a.Amount "compared" "Amount.compared" s_Amount_compared P_Amount_compared
  e_Nought : ErrC K a.Nought
  xf_Nought : XfC K a.Nought
  kv_Nought : PySem.W.kitOne K (.ref a.Nought) (.type "ValueError") = some true
  ke_Nought : PySem.W.kitOne K (.ref a.Nought) (.ref a.EllError) = some true
  kn_Nought : PySem.W.kitAny K (.ref a.Nought) [.ref a.Mixed, .ref a.TooHigh] = some false
  e_TooHigh : ErrC K a.TooHigh
  xf_TooHigh : XfC K a.TooHigh
  kv_TooHigh : PySem.W.kitOne K (.ref a.TooHigh) (.type "ValueError") = some true
  ke_TooHigh : PySem.W.kitOne K (.ref a.TooHigh) (.ref a.EllError) = some true
  kn_TooHigh : PySem.W.kitAny K (.ref a.TooHigh) [.ref a.Mixed, .ref a.Nought] = some false
  e_Mixed : ErrC K a.Mixed
  xf_Mixed : XfC K a.Mixed
  kv_Mixed : PySem.W.kitOne K (.ref a.Mixed) (.type "ValueError") = some true
  ke_Mixed : PySem.W.kitOne K (.ref a.Mixed) (.ref a.EllError) = some true
  kn_Mixed : PySem.W.kitAny K (.ref a.Mixed) [.ref a.TooHigh, .ref a.Nought] = some false
  em_Mixed_Mixed : PySem.W.exmOne K (.ref a.Mixed) (.ref a.Mixed) = some true
  em_TooHigh_Mixed : PySem.W.exmOne K (.ref a.TooHigh) (.ref a.Mixed) = some false
  em_TooHigh_TooHigh : PySem.W.exmOne K (.ref a.TooHigh) (.ref a.TooHigh) = some true
  em_Nought_Mixed : PySem.W.exmOne K (.ref a.Nought) (.ref a.Mixed) = some false
  em_Nought_TooHigh : PySem.W.exmOne K (.ref a.Nought) (.ref a.TooHigh) = some false
  em_Nought_Nought : PySem.W.exmOne K (.ref a.Nought) (.ref a.Nought) = some true
  g_EllError : mg "EllError" = some (.ref a.EllError)
  d_is_integer : DefAt K mg "is_integer" s_is_integer P_is_integer
  d_is_within : DefAt K mg "is_within" s_is_within P_is_within
  d_is_tuple_of : DefAt K mg "is_tuple_of" s_is_tuple_of P_is_tuple_of
  d_is_dimension : DefAt K mg "is_dimension" s_is_dimension P_is_dimension
  d__is_exponent : DefAt K mg "_is_exponent" s__is_exponent P__is_exponent
  d_multiplied : DefAt K mg "multiplied" s_multiplied P_multiplied
  d_divided : DefAt K mg "divided" s_divided P_divided
  d__checked : DefAt K mg "_checked" s__checked P__checked
  d_plus : DefAt K mg "plus" s_plus P_plus
  d_minus : DefAt K mg "minus" s_minus P_minus
  d_times : DefAt K mg "times" s_times P_times
  d_over : DefAt K mg "over" s_over P_over
  d_compare : DefAt K mg "compare" s_compare P_compare
  d__ask_for_one : DefAt K mg "_ask_for_one" s__ask_for_one P__ask_for_one
  d__law_bag_of : DefAt K mg "_law_bag_of" s__law_bag_of P__law_bag_of
  d__law_pick : DefAt K mg "_law_pick" s__law_pick P__law_pick
  d__law_choice : DefAt K mg "_law_choice" s__law_choice P__law_choice
  d__law_one_in : DefAt K mg "_law_one_in" s__law_one_in P__law_one_in
  d__law_integer : DefAt K mg "_law_integer" s__law_integer P__law_integer
  d__law_gcd : DefAt K mg "_law_gcd" s__law_gcd P__law_gcd
  d__law_ratio : DefAt K mg "_law_ratio" s__law_ratio P__law_ratio
  d__law_is_ratio : DefAt K mg "_law_is_ratio" s__law_is_ratio P__law_is_ratio
  d__law_plus : DefAt K mg "_law_plus" s__law_plus P__law_plus
  d__law_minus : DefAt K mg "_law_minus" s__law_minus P__law_minus
  d__law_times : DefAt K mg "_law_times" s__law_times P__law_times
  d__law_over : DefAt K mg "_law_over" s__law_over P__law_over
  d__law_less : DefAt K mg "_law_less" s__law_less P__law_less
  d__law_number_of : DefAt K mg "_law_number_of" s__law_number_of P__law_number_of
  d__law_dimension_of : DefAt K mg "_law_dimension_of" s__law_dimension_of P__law_dimension_of
  d__law_pairs_drawn : DefAt K mg "_law_pairs_drawn" s__law_pairs_drawn P__law_pairs_drawn
  d__law_high : DefAt K mg "_law_high" s__law_high P__law_high
  d__law_due_of : DefAt K mg "_law_due_of" s__law_due_of P__law_due_of
  d__law_done : DefAt K mg "_law_done" s__law_done P__law_done
  d__law_told_of : DefAt K mg "_law_told_of" s__law_told_of P__law_told_of
  d__law_plain : DefAt K mg "_law_plain" s__law_plain P__law_plain
  d__law_is_amount : DefAt K mg "_law_is_amount" s__law_is_amount P__law_is_amount
  d__law_right_of : DefAt K mg "_law_right_of" s__law_right_of P__law_right_of
  d__law_right_pair : DefAt K mg "_law_right_pair" s__law_right_pair P__law_right_pair
  d__law_right_row : DefAt K mg "_law_right_row" s__law_right_row P__law_right_row
  d_law : DefAt K mg "law" s_law P_law
  d_ratio : DefAtD K mg "ratio" s_ratio P_ratio [.int 1]
section
variable {P : Program} {w : World} {K : PySem.W.Frag} {mg : Str → Option Value} {base : Heap} {a : Ad}
/-! ### checks -/
def sp_is_integer : Sp := fun vs H Q _ => ∃ i : Int, vs = [.int i] ∧ Q (.bl true) H
theorem c_is_integer (T : Txt K mg a) : Cl P w K mg base 1 "is_integer" P_is_integer sp_is_integer [] :=
  T.d_is_integer.cl sc_is_integer (fun vs H Q E h => by obtain ⟨i, rfl, _⟩ := h; rfl) fun f cdv A outer s H vs Q E hr h => by
    obtain ⟨i, rfl, k⟩ := h
    refine ⟨_, ((pss_one (ps_ret (pe_and (pe_callB call_isi (by rfl) T.n_isinstance (by decide +kernel) (pa_cons (pv 0) (pa_cons (pe_bltn (v := .ty "int") (by rfl) T.n_int (by decide +kernel) rfl) pa_nil))) (pe_one (pe_not (pe_callB call_isi (by rfl) T.n_isinstance (by decide +kernel) (pa_cons (pv 0) (pa_cons (pe_bltn (v := .ty "bool") (by rfl) T.n_bool (by decide +kernel) rfl) pa_nil))))))))), ?_⟩
    refine ⟨_, rfl, _, _, _, _, true, rfl, .ty _, .base (.int _), kit_ty (by decide +kernel), true, rfl, iteT ?_⟩
    exact ⟨_, rfl, _, _, _, _, false, rfl, .ty _, .base (.int _), kit_ty (by decide +kernel), false, rfl, k⟩
def sp_is_within : Sp := fun vs H Q _ => ∃ i lo hi : Int, vs = [.int i, .int lo, .int hi] ∧ Q (.bl (decide (lo ≤ i) && decide (i ≤ hi))) H
theorem c_is_within (T : Txt K mg a) : Cl P w K mg base 2 "is_within" P_is_within sp_is_within [] :=
  T.d_is_within.cl sc_is_within (fun vs H Q E h => by obtain ⟨i, lo, hi, rfl, _⟩ := h; rfl) fun f cdv A outer s H vs Q E hr h => by
    obtain ⟨i, lo, hi, rfl, k⟩ := h
    refine ⟨_, ((pss_one (ps_ret (pe_and (pe_f (c_is_integer T) (takes_of rfl rfl rfl rfl) hr (by decide) rfl (pa_cons (pv 0) pa_nil)) (pe_one (pe_chain op_le op_le (pv 1) (pv 0) (pv 2))))))), ?_⟩
    refine ⟨_, rfl, i, rfl, true, rfl, iteT ?_⟩
    refine ⟨_, rfl, _, rfl, _, _, rfl, rfl, _, rfl, ?_⟩
    cases e : decide (lo ≤ i) with
    | true => exact iteT ⟨_, rfl, _, _, rfl, rfl, by rw [e] at k; exact k⟩
    | false => exact iteF (by rw [e] at k; exact k)
def sp_is_tuple_of (K : PySem.W.Frag) : Sp := fun vs H Q _ => ∃ (p : Addr) (xs : List V) (m : Int), vs = [.ref p, .int m] ∧ SqT K H p xs ∧ Q (.bl (decide (V.int xs.length = V.int m))) H
theorem c_is_tuple_of (T : Txt K mg a) : Cl P w K mg base 1 "is_tuple_of" P_is_tuple_of (sp_is_tuple_of K) [] :=
  T.d_is_tuple_of.cl sc_is_tuple_of (fun vs H Q E h => by obtain ⟨i, lo, hi, rfl, _⟩ := h; rfl) fun f cdv A outer s H vs Q E hr h => by
    obtain ⟨p, xs, m, rfl, hx, k⟩ := h
    refine ⟨_, ((pss_one (ps_ret (pe_and (pe_callB call_isi (by rfl) T.n_isinstance (by decide +kernel) (pa_cons (pv 0) (pa_cons (pe_bltn (v := .ty "tuple") (by rfl) T.n_tuple (by decide +kernel) rfl) pa_nil))) (pe_one (pe_cmpR op_eq (pe_callB call_len_seq (by rfl) T.n_len (by decide +kernel) (pa_cons (pv 0) pa_nil)) (pv 1) (nomark _))))))), ?_⟩
    refine ⟨_, rfl, _, _, _, _, true, rfl, .ty _, ty_sqT hx, kit_ty (by decide +kernel), true, rfl, iteT ?_⟩
    exact ⟨_, rfl, _, _, rfl, .inr hx, _, rfl, rfl, k⟩
def okE (i : Int) : Bool := decide (-9 ≤ i) && decide (i ≤ 9)
def sp__is_exponent : Sp := fun vs H Q _ => ∃ i : Int, vs = [.int i] ∧ Q (.bl (okE i)) H
theorem c__is_exponent (T : Txt K mg a) : Cl P w K mg base 3 "_is_exponent" P__is_exponent sp__is_exponent [] :=
  T.d__is_exponent.cl sc__is_exponent (fun vs H Q E h => by obtain ⟨i, rfl, _⟩ := h; rfl) fun f cdv A outer s H vs Q E hr h => by
    obtain ⟨i, rfl, k⟩ := h
    refine ⟨_, ((pss_one (ps_ret (pe_f (c_is_within T) (takes_of rfl rfl rfl rfl) hr (by decide) rfl (pa_cons (pv 0) (pa_cons (pe_un un_neg (pe_glob (by rfl) T.k_HIGHEST ⟨_, rfl⟩ (v := .int 9))) (pa_cons (pe_glob (by rfl) T.k_HIGHEST ⟨_, rfl⟩ (v := .int 9)) pa_nil))))))), ?_⟩
    exact ⟨_, rfl, _, rfl, _, _, _, rfl, k⟩
theorem map_of {α : Type} {xs : List α} {f : α → V} : ∀ {ys : List V}, ys.length = xs.length → (∀ (j : Nat) y, ys[j]? = some y → ∃ x, xs[j]? = some x ∧ y = f x) → ys = xs.map f := by
  induction xs with
  | nil => intro ys h _; simpa using h
  | cons x xs ih =>
    intro ys h q
    cases ys with
    | nil => simp at h
    | cons y ys =>
      obtain ⟨x', hx, hy⟩ := q 0 y rfl
      cases hx
      rw [hy, List.map_cons, ih (by simpa using h) fun j z hz => q (j + 1) z hz]
def okD (ds : List Int) : Bool := ds.all okE
def sp_is_dimension (K : PySem.W.Frag) : Sp := fun vs H Q _ => ∃ (F : Hp) (p : Addr) (ds : List Int) (m : Int), vs = [.ref p, .int m] ∧ SqT K F p (ds.map V.int) ∧ ds.length = m ∧ ds.length ≤ 100 ∧ Pu F H Q (fun _ v => v = .bl (okD ds))
theorem c_is_dimension (T : Txt K mg a) : Cl P w K mg base 4 "is_dimension" P_is_dimension (sp_is_dimension K) [] :=
  T.d_is_dimension.cl sc_is_dimension (fun vs H Q E h => by obtain ⟨F, p, ds, m, rfl, _⟩ := h; rfl) fun f cdv A outer s H vs Q E hr h => by
    obtain ⟨F, p, ds, m, rfl, hx, hm, hl, hf, k⟩ := h
    refine ⟨_, ((pss_one (ps_ret (pe_and (pe_f (c_is_tuple_of T) (takes_of rfl rfl rfl rfl) hr (by decide) rfl (pa_cons (pv 0) (pa_cons (pv 1) pa_nil))) (pe_one (pe_callB (cr_all rfl) (by rfl) T.n_all (by decide +kernel) (pa_cons (pe_lc (own := [("exponent", 2)]) (g := (gName 2)) (by rfl) sc_is_dimension.nd (pi_tup (pv 0)) (blkOk_by (own := [("exponent", 2)]) (N := N_is_dimension) (sc := defScope s_is_dimension) (by decide +kernel)) (fun _ _ _ _ _ => (pg_name (i := 2) sc_is_dimension.nd rfl (Or.inl rfl) (hf := .inr rfl))) (fun _ _ _ _ _ => pts_nil) (fun _ _ _ _ _ => (pe_f (c__is_exponent T) takes0 hr (by decide) rfl (pa_cons (pv 2) pa_nil)))) pa_nil))))))), ?_⟩
    refine ⟨_, rfl, _, rfl, p, ds.map V.int, m, rfl, upT hf hx, true, by rw [List.length_map, hm]; simp, iteT ?_⟩
    refine ⟨_, rfl, p, rfl, ⟨_, upT hf hx⟩, fun D hD => ?_⟩
    refine lcM memP walk_tup hf trivial hD (fun i _ y => ∃ d, ds[i]? = some d ∧ y = V.bl (okE d)) (fun _ _ _ _ _ z => z) (by rw [List.length_map]; omega) (fun F' H' e1 e2 => upT e2 (upT e1 hx)) ?_ ?_
    · rintro i x F' H' H'' Kt Kn hi s _ ⟨rfl, hx⟩ kk
      obtain ⟨d, hd, rfl⟩ : ∃ d, ds[i]? = some d ∧ x = V.int d := by
        rw [List.getElem?_map] at hx
        cases e : ds[i]? with
        | none => rw [e] at hx; cases hx
        | some d => rw [e] at hx; cases hx; exact ⟨d, rfl, rfl⟩
      refine ⟨rfl, ?_⟩
      exact lc_yes ⟨_, rfl, _, rfl, kk _ _ _ (.refl s.fh) trivial ⟨d, hd, rfl⟩⟩
    · intro F' H' ys s _ hD' hy hr'
      rw [List.length_map] at hy
      obtain rfl := map_of hy hr'
      refine ⟨D, ds.map okE, rfl, SqL.of (by rw [List.map_map]; exact s.fh D _ hD'), ?_⟩
      refine k _ _ _ s ?_
      rw [List.all_map]
      rfl
end
end K04

set_option Elab.async false
set_option linter.all false
set_option maxRecDepth 100000
set_option maxHeartbeats 4000000
namespace K04
open PySem PySem.Spec PyProof.Rows L2 Ew
section
variable {P : Program} {w : World} {K : PySem.W.Frag} {mg : Str → Option Value} {base : Heap} {a : Ad}
/-! ### errors -/
theorem x_Nought (T : Txt K mg a) : Mke P w K mg base 1 "Nought" a.Nought P_NoughtD_initD (spI1 a.Nought "number") := by
  obtain ⟨f, fd, hi, ht, F, b⟩ := T.i_Nought.ex
  refine ⟨T.g_Nought, T.ox_Nought, f, fd, hi, ht, fun_ok F sc_NoughtD_initD (fun vs H Q E h => by obtain ⟨x, v, rfl, _⟩ := h; rfl) fun f cdv A outer s H vs Q E hr h => ?_, b⟩
  obtain ⟨x, v, rfl, hx, k⟩ := h
  exact ⟨_, ((pss_one (ps_ost (pv 0) (pv 1)))), _, rfl, _, rfl, x, a.Nought, rfl, T.ox_Nought, T.no_Nought_number, .inl ⟨hx, fun dx n ne => k dx n ne⟩⟩
theorem x_TooHigh (T : Txt K mg a) : Mke P w K mg base 1 "TooHigh" a.TooHigh P_TooHighD_initD (spI1 a.TooHigh "dimension") := by
  obtain ⟨f, fd, hi, ht, F, b⟩ := T.i_TooHigh.ex
  refine ⟨T.g_TooHigh, T.ox_TooHigh, f, fd, hi, ht, fun_ok F sc_TooHighD_initD (fun vs H Q E h => by obtain ⟨x, v, rfl, _⟩ := h; rfl) fun f cdv A outer s H vs Q E hr h => ?_, b⟩
  obtain ⟨x, v, rfl, hx, k⟩ := h
  exact ⟨_, ((pss_one (ps_ost (pv 0) (pv 1)))), _, rfl, _, rfl, x, a.TooHigh, rfl, T.ox_TooHigh, T.no_TooHigh_dimension, .inl ⟨hx, fun dx n ne => k dx n ne⟩⟩
theorem x_Mixed (T : Txt K mg a) : Mke P w K mg base 1 "Mixed" a.Mixed P_MixedD_initD (spI2 a.Mixed "left" "right") := by
  obtain ⟨f, fd, hi, ht, F, b⟩ := T.i_Mixed.ex
  refine ⟨T.g_Mixed, T.ox_Mixed, f, fd, hi, ht, fun_ok F sc_MixedD_initD (fun vs H Q E h => by obtain ⟨x, u, v, rfl, _⟩ := h; rfl) fun f cdv A outer s H vs Q E hr h => ?_, b⟩
  obtain ⟨x, u, v, rfl, hx, k⟩ := h
  exact ⟨_, ((pss_cons (ps_ost (pv 0) (pv 1))
 (pss_one (ps_ost (pv 0) (pv 2))))), _, rfl, _, rfl, x, a.Mixed, rfl, T.ox_Mixed, T.no_Mixed_left, .inl ⟨hx, fun dx n ne =>
    ⟨_, rfl, _, rfl, x, a.Mixed, rfl, T.ox_Mixed, T.no_Mixed_right, .inr ⟨dx, _, upd_same, by rw [upd_ne ne, upd_same], Nat.le_of_ble_eq_true rfl, k dx n ne⟩⟩⟩⟩
/-! ### dims -/
def sp__checked (K : PySem.W.Frag) (a : Ad) : Sp := fun vs H Q E => ∃ (F : Hp) (p : Addr) (ds : List Int), vs = [.ref p] ∧ SqT K F p (ds.map V.int) ∧ ds.length ≤ 100 ∧ Same F H ∧
  (okD ds = true → ∀ F' H', Stp F H F' H' → Q (.ref p) H') ∧ (okD ds = false → Ra F H E a.TooHigh fun F' d => F' d = some (.xd [("dimension", .ref p)]))
theorem c__checked (T : Txt K mg a) : Cl P w K mg base 5 "_checked" P__checked (sp__checked K a) [] :=
  T.d__checked.cl sc__checked (fun vs H Q E h => by obtain ⟨F, p, ds, rfl, _⟩ := h; rfl) fun f cdv A outer s H vs Q E hr h => by
    obtain ⟨F, p, ds, rfl, hx, hl, hf, k1, k2⟩ := h
    refine ⟨_, ((pss_cons (ps_if (pt_not (pt_val (pe_f (c_is_dimension T) (takes_of rfl rfl rfl rfl) hr (by decide) rfl (pa_cons (pv 0) (pa_cons (pe_callB call_len_seq (by rfl) T.n_len (by decide +kernel) (pa_cons (pv 0) pa_nil)) pa_nil)))))
 (pss_one (ps_raise1 rfl (takes_of rfl rfl rfl rfl) (x_TooHigh T) hr (by decide) rfl (pv 0)))
 pss_nil)
 (pss_one (ps_ret (pv 0))))), ?_⟩
    refine ⟨_, rfl, _, rfl, p, _, rfl, .inr (upT hf hx), F, p, ds, (ds.length : Int), by rw [List.length_map]; rfl, hx, rfl, hl, hf, fun F1 H1 v s1 e => ?_⟩
    obtain rfl := e
    refine ⟨_, rfl, ?_⟩
    cases e : okD ds with
    | true => exact iteF ⟨_, rfl, k1 e _ _ s1⟩
    | false => exact iteT ⟨_, rfl, fun d hd => k2 e _ _ d (s1.newP hd) upd_same⟩
/-- two tuples, in pairs -/
theorem walk_zipT {K : PySem.W.Frag} {b c : Addr} {xs ys : List V} (h : xs.length = ys.length) : Walk (RZ.ItzT K b c) xs.length (fun H => SqT K H b xs ∧ SqT K H c ys) (YPair (fun i => xs[i]?) (fun i => ys[i]?)) := by
  refine ⟨fun i _ hi q => ⟨xs, ys, xs[i], ys[i]'(h ▸ hi), q.1, q.2, by simp [hi], by simp [h ▸ hi]⟩, fun _ q => ⟨xs, ys, q.1, q.2, .inl (Nat.le_refl _)⟩, fun i H v H' _ q y => ?_⟩
  obtain ⟨t, x, z, h1, h2, h3, h4, h5⟩ := y
  exact ⟨t, x, z, h1, h2, h3, h4 xs q.1, h5 ys q.2⟩
def sp_dims (K : PySem.W.Frag) (a : Ad) (g : Int → Int → Int) : Sp := fun vs H Q E => ∃ (F : Hp) (u v : V) (xs ys : List Int), vs = [u, v] ∧ Dm K F u xs ∧ Dm K F v ys ∧ xs.length = ys.length ∧ xs.length ≤ 100 ∧ Same F H ∧
  (okD (List.zipWith g xs ys) = true → ∀ F' H' r, Stp F H F' H' → Dm K F' r (List.zipWith g xs ys) → Q r H') ∧
  (okD (List.zipWith g xs ys) = false → Ra F H E a.TooHigh fun F' d => ∃ r, F' d = some (.xd [("dimension", r)]) ∧ Dm K F' r (List.zipWith g xs ys))
theorem zip_of {g : Int → Int → Int} : ∀ {xs ys : List Int} {zs : List V}, xs.length = ys.length → zs.length = xs.length → (∀ (j : Nat) z, zs[j]? = some z → ∃ x y, xs[j]? = some x ∧ ys[j]? = some y ∧ z = .int (g x y)) → zs = (List.zipWith g xs ys).map V.int
  | [], [], [], _, _, _ => rfl
  | x :: xs, y :: ys, z :: zs, h, h2, q => by
    obtain ⟨x', y', hx, hy, hz⟩ := q 0 z rfl
    cases hx; cases hy
    rw [hz, List.zipWith_cons_cons, List.map_cons, zip_of (by simpa using h) (by simpa using h2) fun j z hz => q (j + 1) z hz]
theorem int_at {xs : List Int} {i : Nat} {x : V} (h : (xs.map V.int)[i]? = some x) : ∃ d, xs[i]? = some d ∧ x = .int d := by
  rw [List.getElem?_map] at h
  cases e : xs[i]? with
  | none => rw [e] at h; cases h
  | some d => rw [e] at h; cases h; exact ⟨d, rfl, rfl⟩
theorem c_multiplied (T : Txt K mg a) : Cl P w K mg base 6 "multiplied" P_multiplied (sp_dims K a (· + ·)) [] :=
  T.d_multiplied.cl sc_multiplied (fun vs H Q E h => by obtain ⟨F, u, v, xs, ys, rfl, _⟩ := h; rfl) fun f cdv A outer s H vs Q E hr h => by
    obtain ⟨F, u, v, xs, ys, rfl, ⟨p, rfl, hx⟩, ⟨q, rfl, hy⟩, hl, hl1, hf, k1, k2⟩ := h
    refine ⟨_, ((pss_one (ps_ret (pe_f (c__checked T) (takes_of rfl rfl rfl rfl) hr (by decide) rfl (pa_cons (pe_callTy call_tuple_of (by rfl) T.n_tuple (by decide +kernel) (pa_cons (pe_lc (own := [("left", 2), ("right", 3)]) (g := (gTup K 2 (gCons (gName 2) (gCons (gName 3) gNil)))) (by rfl) sc_multiplied.nd (RZ.pi_zipA (by rfl) T.n_zip (pa_cons (pv 0) (pa_cons (pv 1) pa_nil))) (blkOk_by (own := [("left", 2), ("right", 3)]) (N := N_multiplied) (sc := defScope s_multiplied) (by decide +kernel)) (fun _ _ _ _ _ => (pg_tup rfl (pgs_cons (pg_name (i := 2) sc_multiplied.nd rfl (Or.inl rfl) (hf := .inr rfl)) (pgs_cons (pg_name (i := 3) sc_multiplied.nd rfl (Or.inl rfl) (hf := .inr rfl)) pgs_nil)))) (fun _ _ _ _ _ => pts_nil) (fun _ _ _ _ _ => (pe_op op_add (pv 2) (pv 3)))) pa_nil)) pa_nil))))), ?_⟩
    refine ⟨_, rfl, _, rfl, p, q, _, _, rfl, .inr ⟨upT hf hx, upT hf hy, fun D hD => ?_⟩⟩
    refine lcM memP (walk_zipT (by rw [List.length_map, List.length_map, hl])) hf trivial hD (fun i _ z => ∃ x y, xs[i]? = some x ∧ ys[i]? = some y ∧ z = .int (x + y)) (fun _ _ _ _ _ z => z) (by rw [List.length_map]; omega) (fun F' H' e1 e2 => ⟨upT e2 (upT e1 hx), upT e2 (upT e1 hy)⟩) ?_ ?_
    · rintro i x F' H' H'' Kt Kn hi s1 _ ⟨t, x, y, rfl, ht, rfl, hx', hy'⟩ kk
      obtain ⟨x, hx1, rfl⟩ := int_at hx'
      obtain ⟨y, hy1, rfl⟩ := int_at hy'
      refine ⟨t, _, rfl, sq_new, rfl, _, _, rfl, _, _, rfl, rfl, rfl, lc_yes ?_⟩
      exact ⟨_, rfl, _, rfl, _, _, rfl, rfl, kk _ _ _ ((Stm.refl s1.fh).raw ht ht) trivial ⟨x, y, hx1, hy1, rfl⟩⟩
    · intro F' H' zs s1 _ hD' hz hr'
      rw [List.length_map] at hz
      obtain rfl := zip_of hl hz hr'
      refine ⟨D, _, rfl, .inl ⟨SqL.of (s1.fh D _ hD'), fun l hl' => ?_⟩⟩
      have s2 := s1.newP (o := .tup ((List.zipWith (· + ·) xs ys).map V.int)) hl'
      refine ⟨_, l, _, rfl, sq_new, by rw [List.length_zipWith]; omega, s2.fh, fun e F3 H3 s3 => ?_, fun e F3 H3 d s3 hd => ?_⟩
      · exact k1 e F3 H3 _ (s2.transP s3) ⟨l, rfl, upT s3.ff sq_new⟩
      · exact k2 e F3 H3 d (s2.transP s3) ⟨_, hd, l, rfl, upT s3.ff sq_new⟩
theorem c_divided (T : Txt K mg a) : Cl P w K mg base 6 "divided" P_divided (sp_dims K a (· - ·)) [] :=
  T.d_divided.cl sc_divided (fun vs H Q E h => by obtain ⟨F, u, v, xs, ys, rfl, _⟩ := h; rfl) fun f cdv A outer s H vs Q E hr h => by
    obtain ⟨F, u, v, xs, ys, rfl, ⟨p, rfl, hx⟩, ⟨q, rfl, hy⟩, hl, hl1, hf, k1, k2⟩ := h
    refine ⟨_, ((pss_one (ps_ret (pe_f (c__checked T) (takes_of rfl rfl rfl rfl) hr (by decide) rfl (pa_cons (pe_callTy call_tuple_of (by rfl) T.n_tuple (by decide +kernel) (pa_cons (pe_lc (own := [("left", 2), ("right", 3)]) (g := (gTup K 2 (gCons (gName 2) (gCons (gName 3) gNil)))) (by rfl) sc_divided.nd (RZ.pi_zipA (by rfl) T.n_zip (pa_cons (pv 0) (pa_cons (pv 1) pa_nil))) (blkOk_by (own := [("left", 2), ("right", 3)]) (N := N_divided) (sc := defScope s_divided) (by decide +kernel)) (fun _ _ _ _ _ => (pg_tup rfl (pgs_cons (pg_name (i := 2) sc_divided.nd rfl (Or.inl rfl) (hf := .inr rfl)) (pgs_cons (pg_name (i := 3) sc_divided.nd rfl (Or.inl rfl) (hf := .inr rfl)) pgs_nil)))) (fun _ _ _ _ _ => pts_nil) (fun _ _ _ _ _ => (pe_op op_sub (pv 2) (pv 3)))) pa_nil)) pa_nil))))), ?_⟩
    refine ⟨_, rfl, _, rfl, p, q, _, _, rfl, .inr ⟨upT hf hx, upT hf hy, fun D hD => ?_⟩⟩
    refine lcM memP (walk_zipT (by rw [List.length_map, List.length_map, hl])) hf trivial hD (fun i _ z => ∃ x y, xs[i]? = some x ∧ ys[i]? = some y ∧ z = .int (x - y)) (fun _ _ _ _ _ z => z) (by rw [List.length_map]; omega) (fun F' H' e1 e2 => ⟨upT e2 (upT e1 hx), upT e2 (upT e1 hy)⟩) ?_ ?_
    · rintro i x F' H' H'' Kt Kn hi s1 _ ⟨t, x, y, rfl, ht, rfl, hx', hy'⟩ kk
      obtain ⟨x, hx1, rfl⟩ := int_at hx'
      obtain ⟨y, hy1, rfl⟩ := int_at hy'
      refine ⟨t, _, rfl, sq_new, rfl, _, _, rfl, _, _, rfl, rfl, rfl, lc_yes ?_⟩
      exact ⟨_, rfl, _, rfl, _, _, rfl, rfl, kk _ _ _ ((Stm.refl s1.fh).raw ht ht) trivial ⟨x, y, hx1, hy1, rfl⟩⟩
    · intro F' H' zs s1 _ hD' hz hr'
      rw [List.length_map] at hz
      obtain rfl := zip_of hl hz hr'
      refine ⟨D, _, rfl, .inl ⟨SqL.of (s1.fh D _ hD'), fun l hl' => ?_⟩⟩
      have s2 := s1.newP (o := .tup ((List.zipWith (· - ·) xs ys).map V.int)) hl'
      refine ⟨_, l, _, rfl, sq_new, by rw [List.length_zipWith]; omega, s2.fh, fun e F3 H3 s3 => ?_, fun e F3 H3 d s3 hd => ?_⟩
      · exact k1 e F3 H3 _ (s2.transP s3) ⟨l, rfl, upT s3.ff sq_new⟩
      · exact k2 e F3 H3 d (s2.transP s3) ⟨_, hd, l, rfl, upT s3.ff sq_new⟩
end
end K04

set_option Elab.async false
set_option linter.all false
set_option maxRecDepth 100000
set_option maxHeartbeats 4000000
namespace K04
open PySem PySem.Spec PyProof.Rows L2 Ew
section
variable {P : Program} {w : World} {K : PySem.W.Frag} {mg : Str → Option Value} {base : Heap} {a : Ad}
/-! ### ratios -/
theorem at0 {x y : V} : atI [x, y] 0 = some x := rfl
theorem at1 {x y : V} : atI [x, y] 1 = some y := rfl
/-- n over d, where d is not 0 -/
def sp_ratio (K : PySem.W.Frag) : Sp := fun vs H Q _ => ∃ (F : Hp) (n d : Int), vs = [.int n, .int d] ∧ d ≠ 0 ∧ Sz 8000 d ∧ Pu F H Q fun F' v => Rt K F' v (rat n d)
theorem c_ratio (T : Txt K mg a) : Cl P w K mg base 3 "ratio" P_ratio (sp_ratio K) [] :=
  T.d_ratio.cl 1 (by decide) sc_ratio (fun vs H Q E h => by obtain ⟨F, n, d, rfl, _⟩ := h; rfl) fun f cdv A outer s H vs Q E hr h => by
    obtain ⟨F, n, d, rfl, h0, hz, hf, k⟩ := h
    refine ⟨_, ((pss_cons (ps_if (pt_cmpR op_eq (pv 1) pe_int (nomark _))
 (pss_one (ps_raise1 rfl (takes_of rfl rfl rfl rfl) (x_Nought T) hr (by decide) rfl (pv 0)))
 pss_nil)
 (pss_cons (ps_set (i := 2) sc_ratio.nd rfl (Or.inl rfl) (pe_callBfun cr_gcd (by rfl) T.gcd (pa_cons (pv 0) (pa_cons (pv 1) pa_nil))))
 (pss_cons (ps_if (pt_cmpR op_lt (pv 1) pe_int (nomark _))
 (pss_one (ps_set (i := 2) sc_ratio.nd rfl (Or.inl rfl) (pe_un un_neg (pv 2))))
 pss_nil)
 (pss_one (ps_ret (pe_tup (pa_cons (pe_op op_fdivX (pv 0) (pv 2)) (pa_cons (pe_op op_fdivX (pv 1) (pv 2)) pa_nil))))))))), ?_⟩
    have cd : ∀ i : Int, CDivX i (com n d) := fun i => ⟨com_ne h0, (com_sz h0 hz).log (by decide) (by decide)⟩
    refine ⟨_, rfl, rfl, _, rfl, ?_⟩
    refine iteN (vint_ne h0) ⟨_, rfl, _, rfl, n, d, rfl, ?_⟩
    have fin : ∀ c : Int, c = com n d → (tRet (tTup (tCons (tOp (rI CDivX fun i j => .int (i.fdiv j)) (tVar 0) (tVar 2)) (tCons (tOp (rI CDivX fun i j => .int (i.fdiv j)) (tVar 1) (tVar 2)) tNil)))) { nx := fun _ H' => Q .non H', rt := Q } [some (.int n), some (.int d), some (.int c)] H := by
      rintro c rfl
      refine ⟨_, rfl, _, rfl, _, _, rfl, rfl, cd _, _, rfl, _, rfl, _, _, rfl, rfl, cd _, by show 2 ≤ sizeLine; decide, fun p hp => ?_⟩
      exact k _ _ _ (stp_new hf hp) ⟨p, rfl, sq_new⟩
    refine ⟨_, rfl, _, _, rfl, rfl, _, rfl, ?_⟩
    refine ite2 (fun e => ?_) (fun e => ?_)
    · refine ⟨_, rfl, _, rfl, fin _ ?_⟩
      unfold com; rw [if_pos (of_decide_eq_true e)]
    · refine fin _ ?_
      unfold com; rw [if_neg fun z => e (decide_eq_true z)]
/-- a def of two ratios that hands back a ratio -/
def sp_two (K : PySem.W.Frag) (g : Int × Int → Int × Int → Int × Int) : Sp := fun vs H Q _ => ∃ (F : Hp) (u v : V) (r q : Int × Int), vs = [u, v] ∧ Rt K F u r ∧ Rt K F v q ∧ Sz 1000 r.1 ∧ Sz 1000 r.2 ∧ Sz 1000 q.1 ∧ Sz 1000 q.2 ∧ r.2 ≠ 0 ∧ q.2 ≠ 0 ∧ Pu F H Q fun F' z => Rt K F' z (g r q)
def rPlus (r q : Int × Int) : Int × Int := rat (r.1 * q.2 + q.1 * r.2) (r.2 * q.2)
def rMinus (r q : Int × Int) : Int × Int := rat (r.1 * q.2 - q.1 * r.2) (r.2 * q.2)
def rTimes (r q : Int × Int) : Int × Int := rat (r.1 * q.1) (r.2 * q.2)
def rOver (r q : Int × Int) : Int × Int := rat (r.1 * q.2) (r.2 * q.1)
theorem mulw {x y : Int} (h : Sz 1000 x) (k : Sz 1000 y) : CMulW x y := wide_mul h k (by decide) (by decide) (by decide)
theorem c_plus (T : Txt K mg a) : Cl P w K mg base 4 "plus" P_plus (sp_two K rPlus) [] :=
  T.d_plus.cl sc_plus (fun vs H Q E h => by obtain ⟨F, u, v, r, q, rfl, _⟩ := h; rfl) fun f cdv A outer s H vs Q E hr h => by
    obtain ⟨F, u, v, r, q, rfl, ⟨p1, rfl, h1⟩, ⟨p2, rfl, h2⟩, z1, z2, z3, z4, n1, n2, hf, k⟩ := h
    refine ⟨_, ((pss_one (ps_ret (pe_f (c_ratio T) (takes_of rfl rfl rfl rfl) hr (by decide) rfl (pa_cons (pe_op op_add (pe_op op_mulW (pe_ix ix_tup (pv 0) pe_int (fun _ _ => rfl)) (pe_ix ix_tup (pv 1) pe_int (fun _ _ => rfl))) (pe_op op_mulW (pe_ix ix_tup (pv 1) pe_int (fun _ _ => rfl)) (pe_ix ix_tup (pv 0) pe_int (fun _ _ => rfl)))) (pa_cons (pe_op op_mulW (pe_ix ix_tup (pv 0) pe_int (fun _ _ => rfl)) (pe_ix ix_tup (pv 1) pe_int (fun _ _ => rfl))) pa_nil)))))), ?_⟩
    refine ⟨_, rfl, p1, _, _, _, rfl, rfl, upT hf h1, at0, _, rfl, p2, _, _, _, rfl, rfl, upT hf h2, at1, _, _, rfl, rfl, mulw z1 z4, ?_⟩
    refine ⟨_, rfl, p2, _, _, _, rfl, rfl, upT hf h2, at0, _, rfl, p1, _, _, _, rfl, rfl, upT hf h1, at1, _, _, rfl, rfl, mulw z3 z2, _, _, rfl, rfl, ?_⟩
    refine ⟨_, rfl, p1, _, _, _, rfl, rfl, upT hf h1, at1, _, rfl, p2, _, _, _, rfl, rfl, upT hf h2, at1, _, _, rfl, rfl, mulw z2 z4, ?_⟩
    exact ⟨F, _, _, rfl, Int.mul_ne_zero n1 n2, (z2.mul z4).mono (by decide), hf, k⟩
theorem c_minus (T : Txt K mg a) : Cl P w K mg base 4 "minus" P_minus (sp_two K rMinus) [] :=
  T.d_minus.cl sc_minus (fun vs H Q E h => by obtain ⟨F, u, v, r, q, rfl, _⟩ := h; rfl) fun f cdv A outer s H vs Q E hr h => by
    obtain ⟨F, u, v, r, q, rfl, ⟨p1, rfl, h1⟩, ⟨p2, rfl, h2⟩, z1, z2, z3, z4, n1, n2, hf, k⟩ := h
    refine ⟨_, ((pss_one (ps_ret (pe_f (c_ratio T) (takes_of rfl rfl rfl rfl) hr (by decide) rfl (pa_cons (pe_op op_sub (pe_op op_mulW (pe_ix ix_tup (pv 0) pe_int (fun _ _ => rfl)) (pe_ix ix_tup (pv 1) pe_int (fun _ _ => rfl))) (pe_op op_mulW (pe_ix ix_tup (pv 1) pe_int (fun _ _ => rfl)) (pe_ix ix_tup (pv 0) pe_int (fun _ _ => rfl)))) (pa_cons (pe_op op_mulW (pe_ix ix_tup (pv 0) pe_int (fun _ _ => rfl)) (pe_ix ix_tup (pv 1) pe_int (fun _ _ => rfl))) pa_nil)))))), ?_⟩
    refine ⟨_, rfl, p1, _, _, _, rfl, rfl, upT hf h1, at0, _, rfl, p2, _, _, _, rfl, rfl, upT hf h2, at1, _, _, rfl, rfl, mulw z1 z4, ?_⟩
    refine ⟨_, rfl, p2, _, _, _, rfl, rfl, upT hf h2, at0, _, rfl, p1, _, _, _, rfl, rfl, upT hf h1, at1, _, _, rfl, rfl, mulw z3 z2, _, _, rfl, rfl, ?_⟩
    refine ⟨_, rfl, p1, _, _, _, rfl, rfl, upT hf h1, at1, _, rfl, p2, _, _, _, rfl, rfl, upT hf h2, at1, _, _, rfl, rfl, mulw z2 z4, ?_⟩
    exact ⟨F, _, _, rfl, Int.mul_ne_zero n1 n2, (z2.mul z4).mono (by decide), hf, k⟩
theorem c_times (T : Txt K mg a) : Cl P w K mg base 4 "times" P_times (sp_two K rTimes) [] :=
  T.d_times.cl sc_times (fun vs H Q E h => by obtain ⟨F, u, v, r, q, rfl, _⟩ := h; rfl) fun f cdv A outer s H vs Q E hr h => by
    obtain ⟨F, u, v, r, q, rfl, ⟨p1, rfl, h1⟩, ⟨p2, rfl, h2⟩, z1, z2, z3, z4, n1, n2, hf, k⟩ := h
    refine ⟨_, ((pss_one (ps_ret (pe_f (c_ratio T) (takes_of rfl rfl rfl rfl) hr (by decide) rfl (pa_cons (pe_op op_mulW (pe_ix ix_tup (pv 0) pe_int (fun _ _ => rfl)) (pe_ix ix_tup (pv 1) pe_int (fun _ _ => rfl))) (pa_cons (pe_op op_mulW (pe_ix ix_tup (pv 0) pe_int (fun _ _ => rfl)) (pe_ix ix_tup (pv 1) pe_int (fun _ _ => rfl))) pa_nil)))))), ?_⟩
    refine ⟨_, rfl, p1, _, _, _, rfl, rfl, upT hf h1, at0, _, rfl, p2, _, _, _, rfl, rfl, upT hf h2, at0, _, _, rfl, rfl, mulw z1 z3, ?_⟩
    refine ⟨_, rfl, p1, _, _, _, rfl, rfl, upT hf h1, at1, _, rfl, p2, _, _, _, rfl, rfl, upT hf h2, at1, _, _, rfl, rfl, mulw z2 z4, ?_⟩
    exact ⟨F, _, _, rfl, Int.mul_ne_zero n1 n2, (z2.mul z4).mono (by decide), hf, k⟩
def sp_over (K : PySem.W.Frag) (a : Ad) : Sp := fun vs H Q E => ∃ (F : Hp) (u v : V) (r q : Int × Int), vs = [u, v] ∧ Rt K F u r ∧ Rt K F v q ∧ Sz 1000 r.1 ∧ Sz 1000 r.2 ∧ Sz 1000 q.1 ∧ Sz 1000 q.2 ∧ r.2 ≠ 0 ∧ q.2 ≠ 0 ∧ Same F H ∧
  (q.1 ≠ 0 → ∀ F' H' z, Stp F H F' H' → Rt K F' z (rOver r q) → Q z H') ∧ (q.1 = 0 → Ra F H E a.Nought fun F' d => F' d = some (.xd [("number", u)]))
theorem c_over (T : Txt K mg a) : Cl P w K mg base 4 "over" P_over (sp_over K a) [] :=
  T.d_over.cl sc_over (fun vs H Q E h => by obtain ⟨F, u, v, r, q, rfl, _⟩ := h; rfl) fun f cdv A outer s H vs Q E hr h => by
    obtain ⟨F, u, v, r, q, rfl, ⟨p1, rfl, h1⟩, ⟨p2, rfl, h2⟩, z1, z2, z3, z4, n1, n2, hf, k1, k2⟩ := h
    refine ⟨_, ((pss_cons (ps_if (pt_cmpR op_eq (pe_ix ix_tup (pv 1) pe_int (fun _ _ => rfl)) pe_int (nomark _))
 (pss_one (ps_raise1 rfl (takes_of rfl rfl rfl rfl) (x_Nought T) hr (by decide) rfl (pv 0)))
 pss_nil)
 (pss_one (ps_ret (pe_f (c_ratio T) (takes_of rfl rfl rfl rfl) hr (by decide) rfl (pa_cons (pe_op op_mulW (pe_ix ix_tup (pv 0) pe_int (fun _ _ => rfl)) (pe_ix ix_tup (pv 1) pe_int (fun _ _ => rfl))) (pa_cons (pe_op op_mulW (pe_ix ix_tup (pv 0) pe_int (fun _ _ => rfl)) (pe_ix ix_tup (pv 1) pe_int (fun _ _ => rfl))) pa_nil))))))), ?_⟩
    refine ⟨_, rfl, p2, _, _, _, rfl, rfl, upT hf h2, at0, rfl, _, rfl, ?_⟩
    refine ite2 (fun e => ?_) (fun e => ?_)
    · have e : q.1 = 0 := by have := of_decide_eq_true e; injection this
      exact ⟨_, rfl, fun d hd => k2 e _ _ d (stp_new hf hd) upd_same⟩
    · have e : q.1 ≠ 0 := fun z => e (decide_eq_true (by rw [z]))
      refine ⟨_, rfl, p1, _, _, _, rfl, rfl, upT hf h1, at0, _, rfl, p2, _, _, _, rfl, rfl, upT hf h2, at1, _, _, rfl, rfl, mulw z1 z4, ?_⟩
      refine ⟨_, rfl, p1, _, _, _, rfl, rfl, upT hf h1, at1, _, rfl, p2, _, _, _, rfl, rfl, upT hf h2, at0, _, _, rfl, rfl, mulw z2 z3, ?_⟩
      exact ⟨F, _, _, rfl, Int.mul_ne_zero n1 e, (z2.mul z3).mono (by decide), hf, k1 e⟩
def rCmp (r q : Int × Int) : Int := if r.1 * q.2 = q.1 * r.2 then 0 else if r.1 * q.2 < q.1 * r.2 then -1 else 1
def sp_compare (K : PySem.W.Frag) : Sp := fun vs H Q _ => ∃ (u v : V) (r q : Int × Int), vs = [u, v] ∧ Rt K H u r ∧ Rt K H v q ∧ Sz 1000 r.1 ∧ Sz 1000 r.2 ∧ Sz 1000 q.1 ∧ Sz 1000 q.2 ∧ Q (.int (rCmp r q)) H
theorem c_compare (T : Txt K mg a) : Cl P w K mg base 1 "compare" P_compare (sp_compare K) [] :=
  T.d_compare.cl sc_compare (fun vs H Q E h => by obtain ⟨u, v, r, q, rfl, _⟩ := h; rfl) fun f cdv A outer s H vs Q E hr h => by
    obtain ⟨u, v, r, q, rfl, ⟨p1, rfl, h1⟩, ⟨p2, rfl, h2⟩, z1, z2, z3, z4, k⟩ := h
    refine ⟨_, ((pss_cons (ps_set (i := 2) sc_compare.nd rfl (Or.inl rfl) (pe_op op_mulW (pe_ix ix_tup (pv 0) pe_int (fun _ _ => rfl)) (pe_ix ix_tup (pv 1) pe_int (fun _ _ => rfl))))
 (pss_cons (ps_set (i := 3) sc_compare.nd rfl (Or.inl rfl) (pe_op op_mulW (pe_ix ix_tup (pv 1) pe_int (fun _ _ => rfl)) (pe_ix ix_tup (pv 0) pe_int (fun _ _ => rfl))))
 (pss_cons (ps_if (pt_cmpR op_eq (pv 2) (pv 3) (nomark _))
 (pss_one (ps_ret pe_int))
 pss_nil)
 (pss_one (ps_ret (pe_ifExp (pt_cmpR op_lt (pv 2) (pv 3) (nomark _)) (pe_un un_neg pe_int) pe_int))))))), ?_⟩
    refine ⟨_, rfl, p1, _, _, _, rfl, rfl, h1, at0, _, rfl, p2, _, _, _, rfl, rfl, h2, at1, _, _, rfl, rfl, mulw z1 z4, ?_⟩
    refine ⟨_, rfl, p2, _, _, _, rfl, rfl, h2, at0, _, rfl, p1, _, _, _, rfl, rfl, h1, at1, _, _, rfl, rfl, mulw z3 z2, ?_⟩
    refine ⟨_, rfl, _, rfl, rfl, _, rfl, ?_⟩
    unfold rCmp at k
    refine ite2 (fun e => ?_) (fun e => ?_)
    · have e : r.1 * q.2 = q.1 * r.2 := by have := of_decide_eq_true e; injection this
      rw [if_pos e] at k
      exact k
    · have e : ¬ r.1 * q.2 = q.1 * r.2 := fun z => e (decide_eq_true (congrArg V.int z))
      rw [if_neg e] at k
      refine ⟨_, rfl, _, rfl, _, _, rfl, rfl, _, rfl, ?_⟩
      refine ite2 (fun e => ?_) (fun e => ?_)
      · rw [if_pos (of_decide_eq_true e)] at k
        exact ⟨_, rfl, k⟩
      · rw [if_neg fun z => e (decide_eq_true z)] at k
        exact k
end
end K04

set_option Elab.async false
set_option linter.all false
set_option maxRecDepth 100000
set_option maxHeartbeats 4000000
namespace K04
open PySem PySem.Spec PyProof.Rows L2 Ew
/-! ### amounts -/
def af (u w : V) : List (Str × V) := putF "dimension" w (putF "number" u [])
theorem dn_ : ("dimension" : Str) ≠ "number" := by decide
theorem af_n {u w : V} : (af u w).lookup ("number" : Str) = some u := by
  unfold af
  rw [lookup_putF, if_neg (Ne.symm dn_), lookup_putF, if_pos rfl]
theorem af_d {u w : V} : (af u w).lookup ("dimension" : Str) = some w := by
  unfold af
  rw [lookup_putF, if_pos rfl]
theorem af_o {u w : V} {m : Str} (h1 : m ≠ "dimension") (h2 : m ≠ "number") : (af u w).lookup m = none := by
  unfold af
  rw [lookup_putF, if_neg h1, lookup_putF, if_neg h2]
  rfl
def Amt (K : PySem.W.Frag) (C : Addr) (F : Hp) (v : V) (r : Int × Int) (ds : List Int) : Prop := ∃ p dx u w, v = .ref p ∧ F p = some (.ins C dx (af u w)) ∧ Rt K F u r ∧ Dm K F w ds
theorem Amt.up {K : PySem.W.Frag} {C : Addr} {F F' : Hp} {v : V} {r : Int × Int} {ds : List Int} (h : Amt K C F v r ds) (e : Same F F') : Amt K C F' v r ds := by
  obtain ⟨p, dx, u, w, h1, h2, h3, h4⟩ := h
  exact ⟨p, dx, u, w, h1, e p _ h2, h3.up e, h4.up e⟩
structure Ok2 (r q : Int × Int) : Prop where
  a : Sz 1000 r.1
  b : Sz 1000 r.2
  c : Sz 1000 q.1
  d : Sz 1000 q.2
  e : r.2 ≠ 0
  f : q.2 ≠ 0
section
variable {P : Program} {w : World} {K : PySem.W.Frag} {mg : Str → Option Value} {base : Heap} {a : Ad}
def sp_Ainit (C : Addr) : Sp := fun vs H Q _ => ∃ x dx u v, vs = [.ref x, u, v] ∧ H x = some (.ins C dx []) ∧ Q .non (upd H x (.ins C dx (af u v)))
theorem mk_Amount (T : Txt K mg a) : Mkr P w K mg base 1 "Amount" a.Amount P_AmountD_initD (sp_Ainit a.Amount) := by
  obtain ⟨f, fd, M, F, b⟩ := T.i_Amount.ex
  refine ⟨T.g_Amount, f, fd, M, fun_ok F sc_AmountD_initD (fun vs H Q E h => by obtain ⟨x, dx, u, v, rfl, _⟩ := h; rfl) fun f cdv A outer s H vs Q E hr h => ?_, b⟩
  obtain ⟨x, dx, u, v, rfl, hx, k⟩ := h
  refine ⟨_, ((pss_cons (ps_fld (pv 0) (pv 1) rfl)
 (pss_one (ps_fld (pv 0) (pv 2) rfl)))), ?_⟩
  refine ⟨_, rfl, _, rfl, x, a.Amount, dx, [], rfl, hx, T.ki.cl, T.nN, Nat.le_of_ble_eq_true rfl, ?_⟩
  refine ⟨_, rfl, _, rfl, x, a.Amount, dx, _, rfl, upd_same, T.ki.cl, T.nD, Nat.le_of_ble_eq_true rfl, ?_⟩
  rw [upd_upd]
  exact k
theorem mk_amt {C : Addr} {F H : Hp} {u v : V} {r : Int × Int} {ds : List Int} {Q : VK} {E : XK} (hf : Same F H) (hu : Rt K F u r) (hv : Dm K F v ds) (k : ∀ F' H' z, Stp F H F' H' → Amt K C F' z r ds → Q z H') :
    ∀ x dx, H x = none → H dx = none → dx ≠ x → sp_Ainit C (.ref x :: ([u, v] ++ [])) (upd (upd H dx (.own x)) x (.ins C dx [])) (fun v H2 => v = .non ∧ Q (.ref x) H2) E := by
  intro x dx hx hd ne
  refine ⟨x, dx, u, v, rfl, upd_same, rfl, ?_⟩
  rw [upd_upd]
  have s := (stp_new (o := .own x) hf hd).newP (p := x) (o := .ins C dx (af u v)) (by rw [upd_ne (Ne.symm ne)]; exact hx)
  exact k _ _ _ s ⟨x, dx, u, v, rfl, upd_same, hu.up s.ff, hv.up s.ff⟩
def sp__ask_for_one (K : PySem.W.Frag) (a : Ad) : Sp := fun vs H Q E => ∃ (F : Hp) (u v : V) (ds es : List Int), vs = [u, v] ∧ Dm K F u ds ∧ Dm K F v es ∧ Same F H ∧ (ds = es → Q .non H) ∧
  (ds ≠ es → Ra F H E a.Mixed fun F' d => F' d = some (.xd [("right", v), ("left", u)]))
theorem c__ask_for_one (T : Txt K mg a) : Cl P w K mg base 3 "_ask_for_one" P__ask_for_one (sp__ask_for_one K a) [] :=
  T.d__ask_for_one.cl sc__ask_for_one (fun vs H Q E h => by obtain ⟨F, u, v, ds, es, rfl, _⟩ := h; rfl) fun f cdv A outer s H vs Q E hr h => by
    obtain ⟨F, u, v, ds, es, rfl, h1, h2, hf, k1, k2⟩ := h
    refine ⟨_, ((pss_one (ps_if (pt_cmpR (op_neD hr.units) (pv 0) (pv 1) (nomark _))
 (pss_one (ps_raise2 rfl (takes_of rfl rfl rfl rfl) (x_Mixed T) hr (by decide) rfl (pv 0) (pv 1)))
 pss_nil))), ?_⟩
    refine ⟨_, rfl, _, rfl, _, _, (h1.up hf).dp, (h2.up hf).dp, shaped_ints _, shaped_ints _, _, rfl, ?_⟩
    rw [eqv_ints]
    by_cases e : ds = es
    · exact iteN (by simp [e]) (k1 e)
    · exact iteY (by simp [e]) ⟨_, rfl, _, rfl, fun d hd => k2 e _ _ d (stp_new hf hd) upd_same⟩
/-- where the fields stand -/
theorem Amt.f {C : Addr} {F H : Hp} {v : V} {r : Int × Int} {ds : List Int} (h : Amt K C F v r ds) (e : Same F H) : ∃ p dx u w, v = .ref p ∧ H p = some (.ins C dx (af u w)) ∧ F p = some (.ins C dx (af u w)) ∧ Rt K F u r ∧ Dm K F w ds := by
  obtain ⟨p, dx, u, w, h1, h2, h3, h4⟩ := h
  exact ⟨p, dx, u, w, h1, e p _ h2, h2, h3, h4⟩
def sp_pm (K : PySem.W.Frag) (a : Ad) (g : Int × Int → Int × Int → Int × Int) : Sp := fun vs H Q E => ∃ (F : Hp) (u v : V) (r q : Int × Int) (ds es : List Int), vs = [u, v] ∧ Amt K a.Amount F u r ds ∧ Amt K a.Amount F v q es ∧ Ok2 r q ∧ Same F H ∧
  (ds = es → ∀ F' H' z, Stp F H F' H' → Amt K a.Amount F' z (g r q) ds → Q z H') ∧ (ds ≠ es → Ra F H E a.Mixed fun F' d => ∃ u w, F' d = some (.xd [("right", w), ("left", u)]) ∧ Dm K F' u ds ∧ Dm K F' w es)
theorem b_add (T : Txt K mg a) : OpC P w K mg base 5 a.Amount (PySem.dunder Operator.Add.info.2) P_AmountD_addD (sp_pm K a rPlus) := by
  obtain ⟨f, fd, M, F, b⟩ := T.o_add.ex
  refine ⟨T.sf, f, fd, M, fun_ok F sc_AmountD_addD (fun vs H Q E h => by obtain ⟨F, u, v, r, q, ds, es, rfl, _⟩ := h; rfl) fun f cdv A outer s H vs Q E hr h => ?_, b⟩
  obtain ⟨F, u, v, r, q, ds, es, rfl, h1, h2, o, hf, k1, k2⟩ := h
  obtain ⟨p1, dx1, u1, w1, rfl, e1, f1, hr1, hd1⟩ := h1.f hf
  obtain ⟨p2, dx2, u2, w2, rfl, e2, f2, hr2, hd2⟩ := h2.f hf
  refine ⟨_, ((pss_cons (ps_if (pt_not (pt_val (pe_callB call_isi (by rfl) T.n_isinstance (by decide +kernel) (pa_cons (pv 1) (pa_cons (pe_glob (v := .ref a.Amount) rfl T.g_Amount rfl) pa_nil)))))
 (pss_one ps_never)
 pss_nil)
 (pss_cons (ps_expr (pe_f (c__ask_for_one T) (takes_of rfl rfl rfl rfl) hr (by decide) rfl (pa_cons (pe_fld (pv 0) rfl) (pa_cons (pe_fld (pv 1) rfl) pa_nil))))
 (pss_one (ps_ret (pe_mkf (mk_Amount T) hr (by decide) rfl (pa_cons (pe_f (c_plus T) (takes_of rfl rfl rfl rfl) hr (by decide) rfl (pa_cons (pe_fld (pv 0) rfl) (pa_cons (pe_fld (pv 1) rfl) pa_nil))) (pa_cons (pe_fld (pv 0) rfl) pa_nil)))))))), ?_⟩
  refine ⟨_, rfl, _, _, _, _, true, rfl, .own _, T.ki.ty e2, kit_same, true, rfl, iteF ?_⟩
  refine ⟨_, rfl, p1, _, dx1, _, _, rfl, e1, T.ki.cl, T.nD, af_d, _, rfl, p2, _, dx2, _, _, rfl, e2, T.ki.cl, T.nD, af_d, F, _, _, ds, es, rfl, hd1, hd2, hf, fun e => ?_, fun e F1 H1 d s1 hd => ?_⟩
  · refine ⟨_, rfl, p1, _, dx1, _, _, rfl, e1, T.ki.cl, T.nN, af_n, _, rfl, p2, _, dx2, _, _, rfl, e2, T.ki.cl, T.nN, af_n, F, _, _, r, q, rfl, hr1, hr2, o.a, o.b, o.c, o.d, o.e, o.f, hf, fun F1 H1 z s1 hz => ?_⟩
    refine ⟨_, rfl, p1, _, dx1, _, _, rfl, s1.same _ _ e1, T.ki.cl, T.nD, af_d, mk_amt s1.fh hz (hd1.up s1.ff) fun F2 H2 y s2 hy => ?_⟩
    exact k1 e F2 H2 y (s1.transP s2) hy
  · exact k2 e F1 H1 d s1 ⟨_, _, hd, hd1.up s1.ff, hd2.up s1.ff⟩
theorem b_sub (T : Txt K mg a) : OpC P w K mg base 5 a.Amount (PySem.dunder Operator.Sub.info.2) P_AmountD_subD (sp_pm K a rMinus) := by
  obtain ⟨f, fd, M, F, b⟩ := T.o_sub.ex
  refine ⟨T.sf, f, fd, M, fun_ok F sc_AmountD_subD (fun vs H Q E h => by obtain ⟨F, u, v, r, q, ds, es, rfl, _⟩ := h; rfl) fun f cdv A outer s H vs Q E hr h => ?_, b⟩
  obtain ⟨F, u, v, r, q, ds, es, rfl, h1, h2, o, hf, k1, k2⟩ := h
  obtain ⟨p1, dx1, u1, w1, rfl, e1, f1, hr1, hd1⟩ := h1.f hf
  obtain ⟨p2, dx2, u2, w2, rfl, e2, f2, hr2, hd2⟩ := h2.f hf
  refine ⟨_, ((pss_cons (ps_if (pt_not (pt_val (pe_callB call_isi (by rfl) T.n_isinstance (by decide +kernel) (pa_cons (pv 1) (pa_cons (pe_glob (v := .ref a.Amount) rfl T.g_Amount rfl) pa_nil)))))
 (pss_one ps_never)
 pss_nil)
 (pss_cons (ps_expr (pe_f (c__ask_for_one T) (takes_of rfl rfl rfl rfl) hr (by decide) rfl (pa_cons (pe_fld (pv 0) rfl) (pa_cons (pe_fld (pv 1) rfl) pa_nil))))
 (pss_one (ps_ret (pe_mkf (mk_Amount T) hr (by decide) rfl (pa_cons (pe_f (c_minus T) (takes_of rfl rfl rfl rfl) hr (by decide) rfl (pa_cons (pe_fld (pv 0) rfl) (pa_cons (pe_fld (pv 1) rfl) pa_nil))) (pa_cons (pe_fld (pv 0) rfl) pa_nil)))))))), ?_⟩
  refine ⟨_, rfl, _, _, _, _, true, rfl, .own _, T.ki.ty e2, kit_same, true, rfl, iteF ?_⟩
  refine ⟨_, rfl, p1, _, dx1, _, _, rfl, e1, T.ki.cl, T.nD, af_d, _, rfl, p2, _, dx2, _, _, rfl, e2, T.ki.cl, T.nD, af_d, F, _, _, ds, es, rfl, hd1, hd2, hf, fun e => ?_, fun e F1 H1 d s1 hd => ?_⟩
  · refine ⟨_, rfl, p1, _, dx1, _, _, rfl, e1, T.ki.cl, T.nN, af_n, _, rfl, p2, _, dx2, _, _, rfl, e2, T.ki.cl, T.nN, af_n, F, _, _, r, q, rfl, hr1, hr2, o.a, o.b, o.c, o.d, o.e, o.f, hf, fun F1 H1 z s1 hz => ?_⟩
    refine ⟨_, rfl, p1, _, dx1, _, _, rfl, s1.same _ _ e1, T.ki.cl, T.nD, af_d, mk_amt s1.fh hz (hd1.up s1.ff) fun F2 H2 y s2 hy => ?_⟩
    exact k1 e F2 H2 y (s1.transP s2) hy
  · exact k2 e F1 H1 d s1 ⟨_, _, hd, hd1.up s1.ff, hd2.up s1.ff⟩
def sp_mul (K : PySem.W.Frag) (a : Ad) : Sp := fun vs H Q E => ∃ (F : Hp) (u v : V) (r q : Int × Int) (ds es : List Int), vs = [u, v] ∧ Amt K a.Amount F u r ds ∧ Amt K a.Amount F v q es ∧ Ok2 r q ∧ ds.length = es.length ∧ ds.length ≤ 100 ∧ Same F H ∧
  (okD (List.zipWith (· + ·) ds es) = true → ∀ F' H' z, Stp F H F' H' → Amt K a.Amount F' z (rTimes r q) (List.zipWith (· + ·) ds es) → Q z H') ∧
  (okD (List.zipWith (· + ·) ds es) = false → Ra F H E a.TooHigh fun F' d => ∃ x, F' d = some (.xd [("dimension", x)]) ∧ Dm K F' x (List.zipWith (· + ·) ds es))
theorem b_mul (T : Txt K mg a) : OpC P w K mg base 7 a.Amount (PySem.dunder Operator.Mult.info.2) P_AmountD_mulD (sp_mul K a) := by
  obtain ⟨f, fd, M, F, b⟩ := T.o_mul.ex
  refine ⟨T.sf, f, fd, M, fun_ok F sc_AmountD_mulD (fun vs H Q E h => by obtain ⟨F, u, v, r, q, ds, es, rfl, _⟩ := h; rfl) fun f cdv A outer s H vs Q E hr h => ?_, b⟩
  obtain ⟨F, u, v, r, q, ds, es, rfl, h1, h2, o, hl, hl1, hf, k1, k2⟩ := h
  obtain ⟨p1, dx1, u1, w1, rfl, e1, f1, hr1, hd1⟩ := h1.f hf
  obtain ⟨p2, dx2, u2, w2, rfl, e2, f2, hr2, hd2⟩ := h2.f hf
  refine ⟨_, ((pss_cons (ps_if (pt_not (pt_val (pe_callB call_isi (by rfl) T.n_isinstance (by decide +kernel) (pa_cons (pv 1) (pa_cons (pe_glob (v := .ref a.Amount) rfl T.g_Amount rfl) pa_nil)))))
 (pss_one ps_never)
 pss_nil)
 (pss_cons (ps_set (i := 2) sc_AmountD_mulD.nd rfl (Or.inl rfl) (pe_f (c_multiplied T) (takes_of rfl rfl rfl rfl) hr (by decide) rfl (pa_cons (pe_fld (pv 0) rfl) (pa_cons (pe_fld (pv 1) rfl) pa_nil))))
 (pss_one (ps_ret (pe_mkf (mk_Amount T) hr (by decide) rfl (pa_cons (pe_f (c_times T) (takes_of rfl rfl rfl rfl) hr (by decide) rfl (pa_cons (pe_fld (pv 0) rfl) (pa_cons (pe_fld (pv 1) rfl) pa_nil))) (pa_cons (pv 2) pa_nil)))))))), ?_⟩
  refine ⟨_, rfl, _, _, _, _, true, rfl, .own _, T.ki.ty e2, kit_same, true, rfl, iteF ?_⟩
  refine ⟨_, rfl, p1, _, dx1, _, _, rfl, e1, T.ki.cl, T.nD, af_d, _, rfl, p2, _, dx2, _, _, rfl, e2, T.ki.cl, T.nD, af_d, F, _, _, ds, es, rfl, hd1, hd2, hl, hl1, hf, fun e F1 H1 z s1 hz => ?_, fun e F1 H1 d s1 hd => k2 e F1 H1 d s1 hd⟩
  refine ⟨_, rfl, p1, _, dx1, _, _, rfl, s1.same _ _ e1, T.ki.cl, T.nN, af_n, _, rfl, p2, _, dx2, _, _, rfl, s1.same _ _ e2, T.ki.cl, T.nN, af_n, F1, _, _, r, q, rfl, hr1.up s1.ff, hr2.up s1.ff, o.a, o.b, o.c, o.d, o.e, o.f, s1.fh, fun F2 H2 y s2 hy => ?_⟩
  exact ⟨_, rfl, mk_amt s2.fh hy (hz.up s2.ff) fun F3 H3 x s3 hx => k1 e F3 H3 x (s1.transP (s2.transP s3)) hx⟩
def sp_div (K : PySem.W.Frag) (a : Ad) : Sp := fun vs H Q E => ∃ (F : Hp) (u v : V) (r q : Int × Int) (ds es : List Int), vs = [u, v] ∧ Amt K a.Amount F u r ds ∧ Amt K a.Amount F v q es ∧ Ok2 r q ∧ ds.length = es.length ∧ ds.length ≤ 100 ∧ Same F H ∧
  (q.1 = 0 → Ra F H E a.Nought fun F' d => ∃ x, F' d = some (.xd [("number", x)]) ∧ Rt K F' x r) ∧
  (q.1 ≠ 0 → okD (List.zipWith (· - ·) ds es) = true → ∀ F' H' z, Stp F H F' H' → Amt K a.Amount F' z (rOver r q) (List.zipWith (· - ·) ds es) → Q z H') ∧
  (q.1 ≠ 0 → okD (List.zipWith (· - ·) ds es) = false → Ra F H E a.TooHigh fun F' d => ∃ x, F' d = some (.xd [("dimension", x)]) ∧ Dm K F' x (List.zipWith (· - ·) ds es))
theorem b_div (T : Txt K mg a) : OpC P w K mg base 7 a.Amount (PySem.dunder Operator.FloorDiv.info.2) P_AmountD_floordivD (sp_div K a) := by
  obtain ⟨f, fd, M, F, b⟩ := T.o_div.ex
  refine ⟨T.sf, f, fd, M, fun_ok F sc_AmountD_floordivD (fun vs H Q E h => by obtain ⟨F, u, v, r, q, ds, es, rfl, _⟩ := h; rfl) fun f cdv A outer s H vs Q E hr h => ?_, b⟩
  obtain ⟨F, u, v, r, q, ds, es, rfl, h1, h2, o, hl, hl1, hf, k0, k1, k2⟩ := h
  obtain ⟨p1, dx1, u1, w1, rfl, e1, f1, hr1, hd1⟩ := h1.f hf
  obtain ⟨p2, dx2, u2, w2, rfl, e2, f2, hr2, hd2⟩ := h2.f hf
  obtain ⟨p3, hp3, hq3⟩ := hr2.up hf
  refine ⟨_, ((pss_cons (ps_if (pt_not (pt_val (pe_callB call_isi (by rfl) T.n_isinstance (by decide +kernel) (pa_cons (pv 1) (pa_cons (pe_glob (v := .ref a.Amount) rfl T.g_Amount rfl) pa_nil)))))
 (pss_one ps_never)
 pss_nil)
 (pss_cons (ps_if (pt_cmpR op_eq (pe_ix ix_tup (pe_fld (pv 1) rfl) pe_int (fun _ _ => rfl)) pe_int (nomark _))
 (pss_one (ps_raise1 rfl (takes_of rfl rfl rfl rfl) (x_Nought T) hr (by decide) rfl (pe_fld (pv 0) rfl)))
 pss_nil)
 (pss_cons (ps_set (i := 2) sc_AmountD_floordivD.nd rfl (Or.inl rfl) (pe_f (c_divided T) (takes_of rfl rfl rfl rfl) hr (by decide) rfl (pa_cons (pe_fld (pv 0) rfl) (pa_cons (pe_fld (pv 1) rfl) pa_nil))))
 (pss_one (ps_ret (pe_mkf (mk_Amount T) hr (by decide) rfl (pa_cons (pe_f (c_over T) (takes_of rfl rfl rfl rfl) hr (by decide) rfl (pa_cons (pe_fld (pv 0) rfl) (pa_cons (pe_fld (pv 1) rfl) pa_nil))) (pa_cons (pv 2) pa_nil))))))))), ?_⟩
  refine ⟨_, rfl, _, _, _, _, true, rfl, .own _, T.ki.ty e2, kit_same, true, rfl, iteF ?_⟩
  refine ⟨_, rfl, p2, _, dx2, _, _, rfl, e2, T.ki.cl, T.nN, af_n, p3, _, _, _, hp3, rfl, hq3, at0, rfl, _, rfl, ?_⟩
  refine ite2 (fun e => ?_) (fun e => ?_)
  · have e : q.1 = 0 := by have := of_decide_eq_true e; injection this
    refine ⟨_, rfl, p1, _, dx1, _, _, rfl, e1, T.ki.cl, T.nN, af_n, fun d hd => k0 e _ _ d (stp_new hf hd) ⟨_, upd_same, hr1.up (stp_new hf hd).ff⟩⟩
  · have e0 : q.1 ≠ 0 := fun z => e (decide_eq_true (by rw [z]))
    refine ⟨_, rfl, p1, _, dx1, _, _, rfl, e1, T.ki.cl, T.nD, af_d, _, rfl, p2, _, dx2, _, _, rfl, e2, T.ki.cl, T.nD, af_d, F, _, _, ds, es, rfl, hd1, hd2, hl, hl1, hf, fun e F1 H1 z s1 hz => ?_, fun e F1 H1 d s1 hd => k2 e0 e F1 H1 d s1 hd⟩
    refine ⟨_, rfl, p1, _, dx1, _, _, rfl, s1.same _ _ e1, T.ki.cl, T.nN, af_n, _, rfl, p2, _, dx2, _, _, rfl, s1.same _ _ e2, T.ki.cl, T.nN, af_n, F1, _, _, r, q, rfl, hr1.up s1.ff, hr2.up s1.ff, o.a, o.b, o.c, o.d, o.e, o.f, s1.fh, fun _ F2 H2 y s2 hy => ?_, fun z => absurd z e0⟩
    exact ⟨_, rfl, mk_amt s2.fh hy (hz.up s2.ff) fun F3 H3 x s3 hx => k1 e0 e F3 H3 x (s1.transP (s2.transP s3)) hx⟩
theorem sz0 : Sz 1000 0 := by unfold Sz; exact Nat.two_pow_pos _
theorem sz1 : Sz 1000 1 := by unfold Sz; exact Nat.one_lt_two_pow (by decide)
def sp_neg (K : PySem.W.Frag) (a : Ad) : Sp := fun vs H Q E => ∃ (F : Hp) (u : V) (r : Int × Int) (ds : List Int), vs = [u] ∧ Amt K a.Amount F u r ds ∧ Sz 1000 r.1 ∧ Sz 1000 r.2 ∧ r.2 ≠ 0 ∧ Same F H ∧
  ∀ F' H' z, Stp F H F' H' → Amt K a.Amount F' z (rMinus (0, 1) r) ds → Q z H'
theorem b_neg (T : Txt K mg a) : OpC P w K mg base 5 a.Amount "__neg__" P_AmountD_negD (sp_neg K a) := by
  obtain ⟨f, fd, M, F, b⟩ := T.o_neg.ex
  refine ⟨T.sf, f, fd, M, fun_ok F sc_AmountD_negD (fun vs H Q E h => by obtain ⟨F, u, r, ds, rfl, _⟩ := h; rfl) fun f cdv A outer s H vs Q E hr h => ?_, b⟩
  obtain ⟨F, u, r, ds, rfl, h1, z1, z2, n0, hf, k⟩ := h
  obtain ⟨p1, dx1, u1, w1, rfl, e1, f1, hr1, hd1⟩ := h1.f hf
  refine ⟨_, ((pss_one (ps_ret (pe_mkf (mk_Amount T) hr (by decide) rfl (pa_cons (pe_f (c_minus T) (takes_of rfl rfl rfl rfl) hr (by decide) rfl (pa_cons (pe_tup (pa_cons pe_int (pa_cons pe_int pa_nil))) (pa_cons (pe_fld (pv 0) rfl) pa_nil))) (pa_cons (pe_fld (pv 0) rfl) pa_nil)))))), ?_⟩
  refine ⟨by show 2 ≤ sizeLine; decide, fun p hp => ?_⟩
  have s0 := stp_new (o := .tup [.int 0, .int 1]) hf hp
  refine ⟨_, rfl, p1, _, dx1, _, _, rfl, s0.same _ _ e1, T.ki.cl, T.nN, af_n, _, _, _, (0, 1), r, rfl, ⟨p, rfl, sq_new⟩, hr1.up s0.ff, sz0, sz1, z1, z2, by decide, n0, s0.fh, fun F1 H1 z s1 hz => ?_⟩
  exact ⟨_, rfl, p1, _, dx1, _, _, rfl, s1.same _ _ (s0.same _ _ e1), T.ki.cl, T.nD, af_d, mk_amt s1.fh hz (hd1.up (s0.transP s1).ff) fun F2 H2 y s2 hy => k F2 H2 y (s0.transP (s1.transP s2)) hy⟩
theorem eq_pair (r q : Int × Int) : decide ([r.1, r.2] = [q.1, q.2]) = decide (r = q) := by
  obtain ⟨a, b⟩ := r
  obtain ⟨c, d⟩ := q
  by_cases h1 : a = c <;> by_cases h2 : b = d <;> simp [h1, h2]
def sp_eq (K : PySem.W.Frag) (a : Ad) : Sp := fun vs H Q E => ∃ (u v : V) (r : Int × Int) (ds : List Int), vs = [u, v] ∧ Amt K a.Amount H u r ds ∧
  ((∃ q es, Amt K a.Amount H v q es ∧ Q (.bl (decide (r = q) && decide (ds = es))) H) ∨ ∃ p ys, v = .ref p ∧ SqT K H p ys ∧ Q (.bl false) H)
theorem b_eq (T : Txt K mg a) : OpC P w K mg base 1 a.Amount "__eq__" P_AmountD_eqD (sp_eq K a) := by
  obtain ⟨f, fd, M, F, b⟩ := T.o_eq.ex
  refine ⟨T.sf, f, fd, M, fun_ok F sc_AmountD_eqD (fun vs H Q E h => by obtain ⟨u, v, r, ds, rfl, _⟩ := h; rfl) fun f cdv A outer s H vs Q E hr h => ?_, b⟩
  obtain ⟨u, v, r, ds, rfl, ⟨p1, dx1, u1, w1, rfl, e1, hr1, hd1⟩, h⟩ := h
  refine ⟨_, ((pss_one (ps_ret (pe_and (pe_callB call_isi (by rfl) T.n_isinstance (by decide +kernel) (pa_cons (pv 1) (pa_cons (pe_glob (v := .ref a.Amount) rfl T.g_Amount rfl) pa_nil))) (pe_and (pe_cmpR (op_eqD hr.units) (pe_fld (pv 0) rfl) (pe_fld (pv 1) rfl) (nomark _)) (pe_one (pe_cmpR (op_eqD hr.units) (pe_fld (pv 0) rfl) (pe_fld (pv 1) rfl) (nomark _)))))))), ?_⟩
  rcases h with ⟨q, es, ⟨p2, dx2, u2, w2, rfl, e2, hr2, hd2⟩, k⟩ | ⟨p, ys, rfl, hp, k⟩
  · refine ⟨_, rfl, _, _, _, _, true, rfl, .own _, T.ki.ty e2, kit_same, true, rfl, iteT ?_⟩
    refine ⟨_, rfl, p1, _, dx1, _, _, rfl, e1, T.ki.cl, T.nN, af_n, _, rfl, p2, _, dx2, _, _, rfl, e2, T.ki.cl, T.nN, af_n, _, _, hr1.dp, hr2.dp, shaped_ints _, shaped_ints _, _, rfl, ?_⟩
    rw [eqv_ints, eq_pair]
    cases e : decide (r = q) with
    | false => exact iteF (by rw [e] at k; exact k)
    | true =>
      rw [e, Bool.true_and] at k
      refine iteT ⟨_, rfl, p1, _, dx1, _, _, rfl, e1, T.ki.cl, T.nD, af_d, _, rfl, p2, _, dx2, _, _, rfl, e2, T.ki.cl, T.nD, af_d, _, _, hd1.dp, hd2.dp, shaped_ints _, shaped_ints _, ?_⟩
      rw [eqv_ints]
      exact k
  · exact ⟨_, rfl, _, _, _, _, false, rfl, .own _, ty_sqT hp, T.kit_tA, false, rfl, iteF k⟩
/-- a method and its promise -/
def sp_compared (K : PySem.W.Frag) (a : Ad) : Sp := fun vs H Q E => ∃ (F : Hp) (u v : V) (r q : Int × Int) (ds es : List Int), vs = [u, v] ∧ Amt K a.Amount F u r ds ∧ Amt K a.Amount F v q es ∧ Ok2 r q ∧ Same F H ∧
  (ds = es → Q (.int (rCmp r q)) H) ∧ (ds ≠ es → Ra F H E a.Mixed fun F' d => ∃ u w, F' d = some (.xd [("right", w), ("left", u)]) ∧ Dm K F' u ds ∧ Dm K F' w es)
theorem m_Amount_compared (T : Txt K mg a) : Mt P w K mg base 4 a.Amount "compared" P_Amount_compared (sp_compared K a) [] := by
  obtain ⟨f, fd, M, F, b⟩ := T.m_compared.ex
  refine ⟨T.ki.cl, f, fd, [], M, fun_ok F sc_Amount_compared (fun vs H Q E h => by obtain ⟨F, u, v, r, q, ds, es, rfl, _⟩ := h; rfl) fun f cdv A outer s H vs Q E hr h => ?_, b, .nil⟩
  obtain ⟨F, u, v, r, q, ds, es, rfl, h1, h2, o, hf, k1, k2⟩ := h
  obtain ⟨p1, dx1, u1, w1, rfl, e1, f1, hr1, hd1⟩ := h1.f hf
  obtain ⟨p2, dx2, u2, w2, rfl, e2, f2, hr2, hd2⟩ := h2.f hf
  refine ⟨_, ((pss_cons (ps_expr (pe_f (c__ask_for_one T) (takes_of rfl rfl rfl rfl) hr (by decide) rfl (pa_cons (pe_fld (pv 0) rfl) (pa_cons (pe_fld (pv 1) rfl) pa_nil))))
 (pss_one (ps_ret (pe_f (c_compare T) (takes_of rfl rfl rfl rfl) hr (by decide) rfl (pa_cons (pe_fld (pv 0) rfl) (pa_cons (pe_fld (pv 1) rfl) pa_nil))))))), ?_⟩
  refine ⟨_, rfl, p1, _, dx1, _, _, rfl, e1, T.ki.cl, T.nD, af_d, _, rfl, p2, _, dx2, _, _, rfl, e2, T.ki.cl, T.nD, af_d, F, _, _, ds, es, rfl, hd1, hd2, hf, fun e => ?_, fun e F1 H1 d s1 hd => ?_⟩
  · exact ⟨_, rfl, p1, _, dx1, _, _, rfl, e1, T.ki.cl, T.nN, af_n, _, rfl, p2, _, dx2, _, _, rfl, e2, T.ki.cl, T.nN, af_n, _, _, r, q, rfl, hr1.up hf, hr2.up hf, o.a, o.b, o.c, o.d, k1 e⟩
  · exact k2 e F1 H1 d s1 ⟨_, _, hd, hd1.up s1.ff, hd2.up s1.ff⟩
/-- (x,) * n -/
theorem rep_of {F H : Hp} {p : Addr} {x n : Int} {Q : VK} (hf : Same F H) (hx : SqT K F p [.int x]) (h1 : 1 ≤ n) (h2 : n ≤ 100) (k : ∀ F' H' z, Stp F H F' H' → Dm K F' z (List.replicate n.toNat x) → Q z H') : rRepT K (.ref p) (.int n) H Q ∨ rRep1 K (.ref p) (.int n) H Q := by
  by_cases e : n = 1
  · subst e
    exact .inr ⟨p, _, rfl, rfl, upT hf hx, k F H _ (.refl hf) ⟨p, rfl, hx⟩⟩
  · refine .inl ?_
    refine ⟨p, n, _, rfl, rfl, upT hf hx, (fun z => nomatch z), by omega, by omega, (by show 1 ≤ 1000; decide), fun q hq => ?_⟩
    rw [List.flatten_replicate_singleton]
    have s := stp_new (o := .tup (List.replicate n.toNat (V.int x))) hf hq
    refine k _ _ _ s ⟨q, rfl, ?_⟩
    rw [List.map_replicate]
    exact sq_new
def sp_bare (K : PySem.W.Frag) (a : Ad) : Sp := fun vs H Q E => ∃ (F : Hp) (u : V) (r : Int × Int) (n : Int), vs = [u, .int n] ∧ Rt K F u r ∧ 1 ≤ n ∧ n ≤ 100 ∧ Same F H ∧ ∀ F' H' z, Stp F H F' H' → Amt K a.Amount F' z r (List.replicate n.toNat 0) → Q z H'
theorem m_Amount_bare (T : Txt K mg a) : Sm P w K mg base 3 a.Amount "bare" P_Amount_bare (sp_bare K a) := by
  obtain ⟨mc, p, g, fd, S, F, b⟩ := T.m_bare.ex
  refine ⟨mc, p, g, fd, S, fun_ok F sc_Amount_bare (fun vs H Q E h => by obtain ⟨F, u, r, n, rfl, _⟩ := h; rfl) fun f cdv A outer s H vs Q E hr h => ?_, b⟩
  obtain ⟨F, u, r, n, rfl, hu, h1, h2, hf, k⟩ := h
  refine ⟨_, ((pss_one (ps_ret (pe_mkf (mk_Amount T) hr (by decide) rfl (pa_cons (pv 0) (pa_cons (pe_op op_repA (pe_tup (pa_cons pe_int pa_nil)) (pv 1)) pa_nil)))))), ?_⟩
  refine ⟨_, rfl, by show 1 ≤ sizeLine; decide, fun p hp => ?_⟩
  have s0 := stp_new (o := .tup [.int 0]) hf hp
  refine ⟨_, rfl, rep_of s0.fh sq_new h1 h2 fun F1 H1 z s1 hz => ?_⟩
  exact mk_amt s1.fh (hu.up (s0.transP s1).ff) hz fun F2 H2 y s2 hy => k F2 H2 y (s0.transP (s1.transP s2)) hy
end
end K04

set_option Elab.async false
set_option linter.all false
set_option maxRecDepth 100000
set_option maxHeartbeats 4000000
namespace K04
open PySem PySem.Spec PyProof.Rows L2 Ew
/-! ### the law's bag -/
theorem _root_.Ew.Stm.touch {m : Addr → Prop} {F H F' H' : Hp} {p : Addr} {o : HO} (a : Stm m F H F' H') (hm : m p) (hf : F' p = none) : Stm m F H F' (upd H' p o) :=
  ⟨a.ff, fun b u e => by rw [upd_ne (ne_of_none e hf)]; exact a.fh b u e, fun x u n e => by rw [upd_ne (fun z => n (by rw [z]; exact hm))]; exact a.hh x u n e, a.nw⟩
def bk (la : Addr) (at_ rest mixed count : Int) : List (Key × V) := [(.inr "cells", .ref la), (.inr "at", .int at_), (.inr "rest", .int rest), (.inr "mixed", .int mixed), (.inr "count", .int count)]
def Bag (K : PySem.W.Frag) (b : Addr) (F H : Hp) : Prop := F b = none ∧ ∃ (la : Addr) (ns : List Int) (at_ rest mixed count : Int), 0 ≤ at_ ∧ ns.length ≤ 1000 ∧ SqL K F la (ns.map V.int) ∧ H b = some (.dK (bk la at_ rest mixed count))
theorem memB (K : PySem.W.Frag) (b : Addr) : Mem (fun x => x = b) (Bag K b) where
  there := fun ⟨_, _, _, _, _, _, _, _, _, _, h⟩ z => by rw [z, h]; exact fun q => nomatch q
  off := fun ⟨h, _⟩ z => by rw [z]; exact h
  put := fun ⟨h, la, ns, at_, rest, mixed, count, h1, h2, h3, h4⟩ n => ⟨h, la, ns, at_, rest, mixed, count, h1, h2, h3, by rw [upd_ne (fun z => n z.symm)]; exact h4⟩
  grow := fun ⟨h, la, ns, at_, rest, mixed, count, h1, h2, h3, h4⟩ e k => ⟨k _ rfl, la, ns, at_, rest, mixed, count, h1, h2, upL e h3, h4⟩
section
variable {H : Hp} {b la : Addr} {at_ rest mixed count n : Int}
theorem dg_c (h : H b = some (.dK (bk la at_ rest mixed count))) : DGet H b (.str "cells") (some (.ref la)) := .inl ⟨_, .inr "cells", .inl h, rfl, rfl⟩
theorem dg_a (h : H b = some (.dK (bk la at_ rest mixed count))) : DGet H b (.str "at") (some (.int at_)) := .inl ⟨_, .inr "at", .inl h, rfl, rfl⟩
theorem dg_r (h : H b = some (.dK (bk la at_ rest mixed count))) : DGet H b (.str "rest") (some (.int rest)) := .inl ⟨_, .inr "rest", .inl h, rfl, rfl⟩
theorem dg_m (h : H b = some (.dK (bk la at_ rest mixed count))) : DGet H b (.str "mixed") (some (.int mixed)) := .inl ⟨_, .inr "mixed", .inl h, rfl, rfl⟩
theorem dg_n (h : H b = some (.dK (bk la at_ rest mixed count))) : DGet H b (.str "count") (some (.int count)) := .inl ⟨_, .inr "count", .inl h, rfl, rfl⟩
theorem dp_a (h : H b = some (.dK (bk la at_ rest mixed count))) : DPut H b (.str "at") (.int n) (upd H b (.dK (bk la n rest mixed count))) := .inl ⟨_, .inr "at", h, rfl, Nat.lt_of_le_of_lt (by decide : 5 ≤ 1000) (by decide), rfl⟩
theorem dp_r (h : H b = some (.dK (bk la at_ rest mixed count))) : DPut H b (.str "rest") (.int n) (upd H b (.dK (bk la at_ n mixed count))) := .inl ⟨_, .inr "rest", h, rfl, Nat.lt_of_le_of_lt (by decide : 5 ≤ 1000) (by decide), rfl⟩
theorem dp_m (h : H b = some (.dK (bk la at_ rest mixed count))) : DPut H b (.str "mixed") (.int n) (upd H b (.dK (bk la at_ rest n count))) := .inl ⟨_, .inr "mixed", h, rfl, Nat.lt_of_le_of_lt (by decide : 5 ≤ 1000) (by decide), rfl⟩
theorem dp_n (h : H b = some (.dK (bk la at_ rest mixed count))) : DPut H b (.str "count") (.int n) (upd H b (.dK (bk la at_ rest mixed n))) := .inl ⟨_, .inr "count", h, rfl, Nat.lt_of_le_of_lt (by decide : 5 ≤ 1000) (by decide), rfl⟩
end
section
variable {P : Program} {w : World} {K : PySem.W.Frag} {mg : Str → Option Value} {base : Heap} {a : Ad}
theorem log_sz {j : Int} (h : Sz 8000 j) : j.natAbs.log2 < 9000 := h.log (by decide) (by decide)
theorem atI_int {α : Type} {xs : List α} {i : Int} {x : α} (h0 : 0 ≤ i) (h1 : i < xs.length) (h : xs[i.toNat]? = some x) : atI xs i = some x := by
  unfold atI
  unfold ixN
  rw [if_pos h0, if_pos h1]
  exact h
theorem seq_with {t u : TS} {D : Ends} {σ : L2.St} {H : Hp} (Pv : L2.St → Hp → Prop) (h1 : ∀ u', (∀ σ H, Pv σ H → u' D σ H) → tSeq t u' D σ H) (h2 : ∀ σ H, Pv σ H → u D σ H) : tSeq t u D σ H := h1 u h2
def sp__law_pick (K : PySem.W.Frag) : Sp := fun vs H Q _ => ∃ (F : Hp) (b : Addr) (many : Int), vs = [.ref b, .int many] ∧ Bag K b F H ∧ Same F H ∧ 0 < many ∧ Sz 8000 many ∧
  ∀ H' (i : Int), Stm (fun x => x = b) F H F H' → Bag K b F H' → 0 ≤ i → i < many → Q (.int i) H'
theorem c__law_pick (T : Txt K mg a) : Cl P w K mg base 1 "_law_pick" P__law_pick (sp__law_pick K) [] :=
  T.d__law_pick.cl sc__law_pick (fun vs H Q E h => by obtain ⟨F, b, many, rfl, _⟩ := h; rfl) fun f cdv A outer s H vs Q E hr h => by
    obtain ⟨F, b, many, rfl, ⟨fb, la, ns, at_, rest, mixed, count, h0, hn, hl, hb⟩, hf, hm, hz, k⟩ := h
    have hz := log_sz hz
    have ok : ∀ (x : Int), 0 ≤ x % many ∧ x % many < many := fun x => ⟨Int.emod_nonneg _ (by omega), Int.emod_lt_of_pos _ hm⟩
    refine ⟨_, ((pss_cons (ps_dput (hu_of hr) (pv 0) pe_str (pe_op op_add (pe_dget (hu_of hr) (pv 0) pe_str (fun _ _ => rfl)) pe_int) rfl)
 (pss_cons (ps_if (pt_cmpR op_gt (pe_dget (hu_of hr) (pv 0) pe_str (fun _ _ => rfl)) pe_int (nomark _))
 (pss_cons (ps_set (i := 2) sc__law_pick.nd rfl (Or.inl rfl) (pe_dget (hu_of hr) (pv 0) pe_str (fun _ _ => rfl)))
 (pss_cons (ps_dput (hu_of hr) (pv 0) pe_str (pe_op op_fdivW (pv 2) (pv 1)) rfl)
 (pss_one (ps_ret (pe_op op_mod (pe_callTy call_int1 (by rfl) T.n_int (by decide +kernel) (pa_cons (pv 2) pa_nil)) (pv 1))))))
 pss_nil)
 (pss_cons (ps_set (i := 3) sc__law_pick.nd rfl (Or.inl rfl) pe_int)
 (pss_cons (ps_if (pt_cmpR op_lt (pe_dget (hu_of hr) (pv 0) pe_str (fun _ _ => rfl)) (pe_callB call_len_seq (by rfl) T.n_len (by decide +kernel) (pa_cons (pe_dget (hu_of hr) (pv 0) pe_str (fun _ _ => rfl)) pa_nil)) (nomark _))
 (pss_cons (ps_set (i := 3) sc__law_pick.nd rfl (Or.inl rfl) (pe_ix ix_list (pe_dget (hu_of hr) (pv 0) pe_str (fun _ _ => rfl)) (pe_dget (hu_of hr) (pv 0) pe_str (fun _ _ => rfl)) (fun _ _ => rfl)))
 (pss_cons (ps_dput (hu_of hr) (pv 0) pe_str (pe_op op_add (pe_dget (hu_of hr) (pv 0) pe_str (fun _ _ => rfl)) pe_int) rfl)
 (pss_one (ps_if (pt_cmpR op_ge (pv 3) (pe_op op_pow pe_int pe_int) (nomark _))
 (pss_cons (ps_dput (hu_of hr) (pv 0) pe_str (pe_op op_fdivW (pv 3) (pv 1)) rfl)
 (pss_one (ps_ret (pe_op op_mod (pe_callTy call_int1 (by rfl) T.n_int (by decide +kernel) (pa_cons (pv 3) pa_nil)) (pv 1)))))
 pss_nil))))
 pss_nil)
 (pss_cons (ps_set (i := 2) sc__law_pick.nd rfl (Or.inl rfl) (pe_op op_mod (pe_callTy call_int1 (by rfl) T.n_int (by decide +kernel) (pa_cons (pe_op op_add (pe_op op_add (pe_op op_mul (pv 3) pe_int) (pe_op op_mul (pe_dget (hu_of hr) (pv 0) pe_str (fun _ _ => rfl)) pe_int)) (pe_op op_mul (pe_dget (hu_of hr) (pv 0) pe_str (fun _ _ => rfl)) pe_int)) pa_nil)) pe_int))
 (pss_cons (ps_set (i := 2) sc__law_pick.nd rfl (Or.inl rfl) (pe_op op_mod (pe_callTy call_int1 (by rfl) T.n_int (by decide +kernel) (pa_cons (pe_op op_add (pe_op op_mul (pv 2) pe_int) pe_int) pa_nil)) pe_int))
 (pss_cons (ps_dput (hu_of hr) (pv 0) pe_str (pe_op op_mod (pe_callTy call_int1 (by rfl) T.n_int (by decide +kernel) (pa_cons (pv 2) pa_nil)) pe_int) rfl)
 (pss_one (ps_ret (pe_op op_mod (pe_callTy call_int1 (by rfl) T.n_int (by decide +kernel) (pa_cons (pe_op op_fdiv (pv 2) pe_int) pa_nil)) (pv 1)))))))))))), ?_⟩
    refine ⟨_, rfl, b, _, rfl, dg_n hb, _, _, rfl, rfl, _, rfl, b, _, rfl, dp_n hb, ?_⟩
    have s1 : Stm (fun x => x = b) F H F (upd H b (.dK (bk la at_ rest mixed (count + 1)))) := Stm.touch (Stm.refl hf) rfl fb
    generalize hH1 : upd H b (.dK (bk la at_ rest mixed (count + 1))) = H1 at s1
    have hb1 : H1 b = some (.dK (bk la at_ rest mixed (count + 1))) := by rw [← hH1]; exact upd_same
    refine ⟨_, rfl, b, _, rfl, dg_r hb1, _, _, rfl, rfl, _, rfl, ?_⟩
    refine ite2 (fun e => ?_) (fun e => ?_)
    · refine ⟨_, rfl, b, _, rfl, dg_r hb1, ?_⟩
      refine ⟨_, rfl, _, rfl, _, _, rfl, rfl, ⟨hm, hz⟩, _, rfl, b, _, rfl, dp_r hb1, ?_⟩
      refine ⟨_, rfl, .inl ⟨_, rfl, _, rfl, _, _, rfl, rfl, hm, ?_⟩⟩
      exact k _ _ (s1.touch rfl fb) ⟨fb, la, ns, at_, _, mixed, _, h0, hn, hl, upd_same⟩ (ok _).1 (ok _).2
    · refine seq_with (fun σ2 H2 => σ2 = L2.start N__law_pick [.ref b, .int many] ∧ H1 = H2) (fun u hu => hu _ _ ⟨rfl, rfl⟩) ?_
      rintro _ _ ⟨rfl, rfl⟩
      refine seq_with (fun σ2 H2 => σ2 = [some (.ref b), some (.int many), none, some (.int 0)] ∧ H1 = H2) (fun u hu => hu _ _ ⟨rfl, rfl⟩) ?_
      rintro _ _ ⟨rfl, rfl⟩
      refine seq_with (fun σ2 H2 => ∃ cell at2, σ2 = [some (.ref b), some (.int many), none, some (.int cell)] ∧ Stm (fun x => x = b) F H F H2 ∧ 0 ≤ at2 ∧ H2 b = some (.dK (bk la at2 rest mixed (count + 1)))) (fun u hu => ?_) ?_
      · refine ⟨_, rfl, b, _, rfl, dg_a hb1, _, rfl, b, _, rfl, dg_c hb1, la, _, rfl, .inl (upL s1.fh hl), _, _, rfl, rfl, _, rfl, ?_⟩
        refine ite2 (fun e2 => ?_) (fun e2 => ?_)
        · have lt : at_.toNat < ns.length := by
            have := of_decide_eq_true e2
            rw [List.length_map] at this
            omega
          refine ⟨_, rfl, b, _, rfl, dg_c hb1, _, rfl, b, _, rfl, dg_a hb1, la, _, _, .int ns[at_.toNat], rfl, rfl, upL s1.fh hl, ?_, ?_⟩
          · exact atI_int h0 (by rw [List.length_map]; omega) (by rw [List.getElem?_map, List.getElem?_eq_getElem lt]; rfl)
          refine ⟨_, rfl, b, _, rfl, dg_a hb1, _, _, rfl, rfl, _, rfl, b, _, rfl, dp_a hb1, ?_⟩
          have s2 := s1.touch (p := b) (o := .dK (bk la (at_ + 1) rest mixed (count + 1))) rfl fb
          generalize hH2 : upd _ b (.dK (bk la (at_ + 1) rest mixed (count + 1))) = H2 at s2
          have hb2 : H2 b = some (.dK (bk la (at_ + 1) rest mixed (count + 1))) := by rw [← hH2]; exact upd_same
          refine ⟨_, rfl, _, _, rfl, rfl, ⟨by decide, by decide, by decide⟩, _, _, rfl, rfl, _, rfl, ?_⟩
          refine ite2 (fun e => ?_) (fun e => ?_)
          · refine ⟨_, rfl, _, rfl, _, _, rfl, rfl, ⟨hm, hz⟩, _, rfl, b, _, rfl, dp_r hb2, ?_⟩
            refine ⟨_, rfl, .inl ⟨_, rfl, _, rfl, _, _, rfl, rfl, hm, ?_⟩⟩
            exact k _ _ (s2.touch rfl fb) ⟨fb, la, ns, _, _, mixed, _, by omega, hn, hl, upd_same⟩ (ok _).1 (ok _).2
          · exact hu _ _ ⟨_, _, rfl, s2, by omega, hb2⟩
        · exact hu _ _ ⟨_, _, rfl, s1, h0, hb1⟩
      · rintro _ H2 ⟨cell, at2, rfl, s2, h2, hb2⟩
        have cm : ∀ i j : Int, -(2 ^ 64) < j → j < 2 ^ 64 → CMul i j := fun i j h1 h2 => .inr ⟨h1, h2⟩
        refine ⟨_, rfl, _, _, rfl, rfl, cm _ _ (by decide) (by decide), _, rfl, b, _, rfl, dg_m hb2, _, _, rfl, rfl, cm _ _ (by decide) (by decide), _, _, rfl, rfl, _, rfl, b, _, rfl, dg_n hb2, _, _, rfl, rfl, cm _ _ (by decide) (by decide), _, _, rfl, rfl, .inl ⟨_, rfl, _, _, rfl, rfl, (by decide : (0 : Int) < 2147483647), ?_⟩⟩
        refine ⟨_, rfl, _, _, rfl, rfl, cm _ _ (by decide) (by decide), _, _, rfl, rfl, .inl ⟨_, rfl, _, _, rfl, rfl, (by decide : (0 : Int) < 2147483647), ?_⟩⟩
        refine ⟨_, rfl, .inl ⟨_, rfl, _, _, rfl, rfl, (by decide : (0 : Int) < 1000003), _, rfl, b, _, rfl, dp_m hb2, ?_⟩⟩
        refine ⟨_, rfl, _, _, rfl, rfl, ⟨by decide, by decide⟩, .inl ⟨_, rfl, _, rfl, _, _, rfl, rfl, hm, ?_⟩⟩
        exact k _ _ (s2.touch rfl fb) ⟨fb, la, ns, _, _, _, _, h2, hn, hl, upd_same⟩ (ok _).1 (ok _).2
end
end K04

set_option Elab.async false
set_option linter.all false
set_option maxRecDepth 100000
set_option maxHeartbeats 4000000
namespace K04
open PySem PySem.Spec PyProof.Rows L2 Ew
abbrev Sb (b : Addr) := Stm (fun x => x = b)
section
variable {P : Program} {w : World} {K : PySem.W.Frag} {mg : Str → Option Value} {base : Heap} {a : Ad}
/-- what a choice is made of -/
def Things (K : PySem.W.Frag) (F H : Hp) (b : Addr) (u : V) (xs : List V) : Prop := (∃ p, u = .ref p ∧ SqL K F p xs) ∨ (∃ p, u = .ref p ∧ p ≠ b ∧ H p = some (.lst xs)) ∨ ∃ z : Str, u = .str z ∧ z.length ≤ sizeLine ∧ xs = z.cps.toList.map fun c => V.str ⟨#[c]⟩
theorem sz_len {n : Nat} (h : n ≤ 1000) : Sz 8000 (n : Int) := by
  unfold Sz
  have : (2 : Nat) ^ 10 ≤ 2 ^ 8000 := Nat.pow_le_pow_right (by decide) (by decide)
  have e : (2 : Nat) ^ 10 = 1024 := by decide
  omega
def sp__law_choice (K : PySem.W.Frag) : Sp := fun vs H Q _ => ∃ (F : Hp) (b : Addr) (u : V) (xs : List V), vs = [.ref b, u] ∧ Things K F H b u xs ∧ xs ≠ [] ∧ xs.length ≤ 1000 ∧ Bag K b F H ∧ Same F H ∧
  ∀ H' x (i : Nat), Sb b F H F H' → Bag K b F H' → xs[i]? = some x → Q x H'
theorem c__law_choice (T : Txt K mg a) : Cl P w K mg base 2 "_law_choice" P__law_choice (sp__law_choice K) [] :=
  T.d__law_choice.cl sc__law_choice (fun vs H Q E h => by obtain ⟨F, b, u, xs, rfl, _⟩ := h; rfl) fun f cdv A outer s H vs Q E hr h => by
    obtain ⟨F, b, u, xs, rfl, ht, h0, hl, hB, hf, k⟩ := h
    refine ⟨_, ((pss_one (ps_ret (pe_ix ix_seq (pv 1) (pe_f (c__law_pick T) (takes_of rfl rfl rfl rfl) hr (by decide) rfl (pa_cons (pv 0) (pa_cons (pe_callB (call_len_seq.or call_len_str) (by rfl) T.n_len (by decide +kernel) (pa_cons (pv 1) pa_nil)) pa_nil))) (fun _ _ => rfl))))), ?_⟩
    have l0 : 0 < xs.length := List.length_pos_iff.mpr h0
    have get : ∀ (i : Int) (h1 : 0 ≤ i) (h2 : i < (xs.length : Int)), atI xs i = some (xs[i.toNat]'((Int.toNat_lt h1).mpr h2)) := fun i h1 h2 => atI_int h1 h2 (List.getElem?_eq_getElem _)
    have fin : ∀ H' (i : Int) (h1 : 0 ≤ i) (h2 : i < (xs.length : Int)), Sb b F H F H' → Bag K b F H' → Q (xs[i.toNat]'((Int.toNat_lt h1).mpr h2)) H' := fun H' i h1 h2 s1 B1 => k H' _ i.toNat s1 B1 (List.getElem?_eq_getElem _)
    rcases ht with ⟨p, rfl, hp⟩ | ⟨p, rfl, nb, hp⟩ | ⟨z, rfl, hz, rfl⟩
    · refine ⟨_, rfl, _, rfl, _, rfl, .inl ⟨p, xs, rfl, .inl (upL hf hp), F, b, _, rfl, hB, hf, by omega, sz_len hl, fun H' i s1 B1 h1 h2 => ?_⟩⟩
      exact .inl ⟨p, xs, i, _, rfl, rfl, upL s1.fh hp, get i h1 h2, fin H' i h1 h2 s1 B1⟩
    · refine ⟨_, rfl, _, rfl, _, rfl, .inl ⟨p, xs, rfl, .inl (SqL.of hp), F, b, _, rfl, hB, hf, by omega, sz_len hl, fun H' i s1 B1 h1 h2 => ?_⟩⟩
      exact .inl ⟨p, xs, i, _, rfl, rfl, SqL.of (s1.hh p _ nb hp), get i h1 h2, fin H' i h1 h2 s1 B1⟩
    · have zl : z.length = z.cps.size := rfl
      have xl : (z.cps.toList.map fun c => V.str ⟨#[c]⟩).length = z.cps.size := by rw [List.length_map, Array.length_toList]
      rw [xl] at l0 hl
      refine ⟨_, rfl, _, rfl, _, rfl, .inr ⟨z, rfl, hz, F, b, _, rfl, hB, hf, by rw [zl]; omega, sz_len (by rw [zl]; exact hl), fun H' i s1 B1 h1 h2 => ?_⟩⟩
      rw [zl] at h2
      have lt : i.toNat < z.cps.toList.length := by rw [Array.length_toList]; omega
      refine .inr (.inr ⟨z, i, z.cps.toList[i.toNat]'lt, rfl, rfl, hz, atI_int h1 (by rw [Array.length_toList]; exact h2) (List.getElem?_eq_getElem _), ?_⟩)
      have := fin H' i h1 (by rw [xl]; exact h2) s1 B1
      rw [List.getElem_map] at this
      exact this
def sp__law_one_in (K : PySem.W.Frag) : Sp := fun vs H Q _ => ∃ (F : Hp) (b : Addr) (many : Int), vs = [.ref b, .int many] ∧ Bag K b F H ∧ Same F H ∧ 0 < many ∧ Sz 8000 many ∧
  ∀ H' (c : Bool), Sb b F H F H' → Bag K b F H' → Q (.bl c) H'
theorem c__law_one_in (T : Txt K mg a) : Cl P w K mg base 2 "_law_one_in" P__law_one_in (sp__law_one_in K) [] :=
  T.d__law_one_in.cl sc__law_one_in (fun vs H Q E h => by obtain ⟨F, b, u, rfl, _⟩ := h; rfl) fun f cdv A outer s H vs Q E hr h => by
    obtain ⟨F, b, many, rfl, hB, hf, h0, hz, k⟩ := h
    refine ⟨_, ((pss_one (ps_ret (pe_cmpR op_eq (pe_f (c__law_pick T) (takes_of rfl rfl rfl rfl) hr (by decide) rfl (pa_cons (pv 0) (pa_cons (pv 1) pa_nil))) pe_int (nomark _))))), ?_⟩
    exact ⟨_, rfl, _, rfl, F, b, _, rfl, hB, hf, h0, hz, fun H' i s1 B1 h1 h2 => ⟨rfl, k H' _ s1 B1⟩⟩
def sp_int : Sp := fun vs H Q _ => ∃ i : Int, vs = [.int i] ∧ Q (.bl true) H
theorem c__law_integer (T : Txt K mg a) : Cl P w K mg base 1 "_law_integer" P__law_integer sp_int [] :=
  T.d__law_integer.cl sc__law_integer (fun vs H Q E h => by obtain ⟨i, rfl, _⟩ := h; rfl) fun f cdv A outer s H vs Q E hr h => by
    obtain ⟨i, rfl, k⟩ := h
    refine ⟨_, ((pss_one (ps_ret (pe_and (pe_callB call_isi (by rfl) T.n_isinstance (by decide +kernel) (pa_cons (pv 0) (pa_cons (pe_bltn (v := .ty "int") (by rfl) T.n_int (by decide +kernel) rfl) pa_nil))) (pe_one (pe_not (pe_callB call_isi (by rfl) T.n_isinstance (by decide +kernel) (pa_cons (pv 0) (pa_cons (pe_bltn (v := .ty "bool") (by rfl) T.n_bool (by decide +kernel) rfl) pa_nil))))))))), ?_⟩
    refine ⟨_, rfl, _, _, _, _, true, rfl, .ty _, .base (.int _), kit_ty (by decide +kernel), true, rfl, iteT ?_⟩
    exact ⟨_, rfl, _, _, _, _, false, rfl, .ty _, .base (.int _), kit_ty (by decide +kernel), false, rfl, k⟩
def mu3 (σ : L2.St) : Nat := match σ[3]? with | some (some (V.int y)) => y.toNat | _ => 0
def sp__law_gcd : Sp := fun vs H Q _ => ∃ n d : Int, vs = [.int n, .int d] ∧ Q (.int (Nat.gcd n.natAbs d.natAbs : Nat)) H
theorem c__law_gcd (T : Txt K mg a) : Cl P w K mg base 1 "_law_gcd" P__law_gcd sp__law_gcd [] :=
  T.d__law_gcd.cl sc__law_gcd (fun vs H Q E h => by obtain ⟨n, d, rfl, _⟩ := h; rfl) fun f cdv A outer s H vs Q E hr h => by
    obtain ⟨n, d, rfl, k⟩ := h
    refine ⟨_, ((pss_cons (ps_set (i := 2) sc__law_gcd.nd rfl (Or.inl rfl) (pe_callB call_abs (by rfl) T.n_abs (by decide +kernel) (pa_cons (pv 0) pa_nil)))
 (pss_cons (ps_set (i := 3) sc__law_gcd.nd rfl (Or.inl rfl) (pe_callB call_abs (by rfl) T.n_abs (by decide +kernel) (pa_cons (pv 1) pa_nil)))
 (pss_cons (ps_while (passes_of rfl) (pt_cmpR op_gt (pv 3) pe_int (nomark _))
 (pss_cons (ps_set (i := 4) sc__law_gcd.nd rfl (Or.inl rfl) (pe_op op_mod (pe_callTy call_int1 (by rfl) T.n_int (by decide +kernel) (pa_cons (pv 2) pa_nil)) (pv 3)))
 (pss_cons (ps_set (i := 2) sc__law_gcd.nd rfl (Or.inl rfl) (pv 3))
 (pss_one (ps_set (i := 3) sc__law_gcd.nd rfl (Or.inl rfl) (pv 4))))))
 (pss_one (ps_ret (pv 2))))))), ?_⟩
    have ab : ∀ i : Int, (if i < 0 then -i else i) = (i.natAbs : Int) := fun i => by split <;> omega
    refine ⟨_, rfl, _, rfl, ?_⟩
    rw [ab]
    refine ⟨_, rfl, _, rfl, ?_⟩
    rw [ab]
    refine while_by (fun σ' H' => H' = H ∧ ∃ (x y : Nat) (r : Option V), σ' = [some (.int n), some (.int d), some (.int x), some (.int y), r] ∧ Nat.gcd x y = Nat.gcd n.natAbs d.natAbs)
      (fun σ' _ => mu3 σ') ⟨rfl, _, _, none, rfl, rfl⟩ ?_ ?_
    · rintro _ _ ⟨rfl, x, y, r, rfl, hg⟩
      refine ⟨_, rfl, _, _, rfl, rfl, _, rfl, ?_⟩
      refine ite2 (fun e => ?_) (fun e => ?_)
      · have hy : 0 < y := by have := of_decide_eq_true e; omega
        refine ⟨_, rfl, .inl ⟨_, rfl, _, rfl, _, _, rfl, rfl, (by omega : (0 : Int) < y), ?_⟩⟩
        refine ⟨_, rfl, ?_⟩
        refine ⟨_, rfl, ⟨rfl, y, x % y, some (.int ((x % y : Nat) : Int)), by rw [Int.natCast_emod]; rfl, ?_⟩, ?_⟩
        · rw [← hg, Nat.gcd_comm y, Nat.gcd_comm x y]
          exact (Nat.gcd_rec y x).symm
        · show ((x : Int) % (y : Int)).toNat < ((y : Int)).toNat
          have := Nat.mod_lt x hy
          rw [← Int.natCast_emod]
          omega
      · have hy : y = 0 := by
          rcases Nat.eq_zero_or_pos y with h | h
          · exact h
          · exact absurd (decide_eq_true (by omega)) e
        subst hy
        rw [Nat.gcd_zero_right] at hg
        exact ⟨_, rfl, by rw [hg]; exact k⟩
    · rintro σ' H' Q1 Q2 q h
      obtain ⟨v, e1, i, j, e2, e3, c, e4, q'⟩ := h
      exact ⟨v, e1, i, j, e2, e3, c, e4, q _ _ q'⟩
def sp_rat (K : PySem.W.Frag) : Sp := sp_ratio K
theorem com_pos {n d : Int} (h : 0 < d) : com n d = ((Nat.gcd n.natAbs d.natAbs : Nat) : Int) := by unfold com; rw [if_neg (by omega)]
theorem com_neg {n d : Int} (h0 : d ≠ 0) (h : ¬ 0 < d) : com n d = 0 - ((Nat.gcd n.natAbs d.natAbs : Nat) : Int) := by unfold com; rw [if_pos (by omega)]; omega
theorem c__law_ratio (T : Txt K mg a) : Cl P w K mg base 2 "_law_ratio" P__law_ratio (sp_ratio K) [] :=
  T.d__law_ratio.cl sc__law_ratio (fun vs H Q E h => by obtain ⟨F, n, d, rfl, _⟩ := h; rfl) fun f cdv A outer s H vs Q E hr h => by
    obtain ⟨F, n, d, rfl, h0, hz, hf, k⟩ := h
    refine ⟨_, ((pss_cons (ps_set (i := 2) sc__law_ratio.nd rfl (Or.inl rfl) (pe_ifExp (pt_cmpR op_gt (pv 1) pe_int (nomark _)) (pe_f (c__law_gcd T) (takes_of rfl rfl rfl rfl) hr (by decide) rfl (pa_cons (pv 0) (pa_cons (pv 1) pa_nil))) (pe_op op_sub pe_int (pe_f (c__law_gcd T) (takes_of rfl rfl rfl rfl) hr (by decide) rfl (pa_cons (pv 0) (pa_cons (pv 1) pa_nil))))))
 (pss_one (ps_ret (pe_tup (pa_cons (pe_op op_fdivX (pv 0) (pv 2)) (pa_cons (pe_op op_fdivX (pv 1) (pv 2)) pa_nil))))))), ?_⟩
    have cd : ∀ i : Int, CDivX i (com n d) := fun i => ⟨com_ne h0, (com_sz h0 hz).log (by decide) (by decide)⟩
    have fin : ∀ c : Int, c = com n d → (tRet (tTup (tCons (tOp (rI CDivX fun i j => .int (i.fdiv j)) (tVar 0) (tVar 2)) (tCons (tOp (rI CDivX fun i j => .int (i.fdiv j)) (tVar 1) (tVar 2)) tNil)))) { nx := fun _ H' => Q .non H', rt := Q } [some (.int n), some (.int d), some (.int c)] H := by
      rintro c rfl
      refine ⟨_, rfl, _, rfl, _, _, rfl, rfl, cd _, _, rfl, _, rfl, _, _, rfl, rfl, cd _, by show 2 ≤ sizeLine; decide, fun p hp => ?_⟩
      exact k _ _ _ (stp_new hf hp) ⟨p, rfl, sq_new⟩
    refine ⟨_, rfl, _, _, rfl, rfl, _, rfl, ?_⟩
    refine ite2 (fun e => ?_) (fun e => ?_)
    · exact ⟨_, rfl, _, rfl, _, _, rfl, fin _ (com_pos (of_decide_eq_true e)).symm⟩
    · exact ⟨_, rfl, _, rfl, _, _, rfl, _, _, rfl, rfl, fin _ (com_neg h0 fun z => e (decide_eq_true z)).symm⟩
def sp_isr (K : PySem.W.Frag) : Sp := fun vs H Q _ => ∃ (u : V) (r : Int × Int), vs = [u] ∧ Rt K H u r ∧ 0 < r.2 ∧ Nat.gcd r.1.natAbs r.2.natAbs = 1 ∧ Q (.bl true) H
theorem c__law_is_ratio (T : Txt K mg a) : Cl P w K mg base 2 "_law_is_ratio" P__law_is_ratio (sp_isr K) [] :=
  T.d__law_is_ratio.cl sc__law_is_ratio (fun vs H Q E h => by obtain ⟨u, r, rfl, _⟩ := h; rfl) fun f cdv A outer s H vs Q E hr h => by
    obtain ⟨u, r, rfl, ⟨p, rfl, hp⟩, h0, hg, k⟩ := h
    refine ⟨_, ((pss_cons (ps_if (PW.pt (pw_or (pt_not (pt_val (pe_callB call_isi (by rfl) T.n_isinstance (by decide +kernel) (pa_cons (pv 0) (pa_cons (pe_bltn (v := .ty "tuple") (by rfl) T.n_tuple (by decide +kernel) rfl) pa_nil))))) (pw_or1 (pt_cmpR op_ne (pe_callB call_len_seq (by rfl) T.n_len (by decide +kernel) (pa_cons (pv 0) pa_nil)) pe_int (nomark _)))))
 (pss_one (ps_ret pe_bl))
 pss_nil)
 (pss_one (ps_ret (pe_and (pe_f (c__law_integer T) (takes_of rfl rfl rfl rfl) hr (by decide) rfl (pa_cons (pe_ix ix_tup (pv 0) pe_int (fun _ _ => rfl)) pa_nil)) (pe_and (pe_f (c__law_integer T) (takes_of rfl rfl rfl rfl) hr (by decide) rfl (pa_cons (pe_ix ix_tup (pv 0) pe_int (fun _ _ => rfl)) pa_nil)) (pe_and (pe_cmpR op_ge (pe_ix ix_tup (pv 0) pe_int (fun _ _ => rfl)) pe_int (nomark _)) (pe_one (pe_cmpR op_eq (pe_f (c__law_gcd T) (takes_of rfl rfl rfl rfl) hr (by decide) rfl (pa_cons (pe_ix ix_tup (pv 0) pe_int (fun _ _ => rfl)) (pa_cons (pe_ix ix_tup (pv 0) pe_int (fun _ _ => rfl)) pa_nil))) pe_int (nomark _)))))))))), ?_⟩
    refine ⟨_, rfl, _, _, _, _, true, rfl, .ty _, ty_sqT hp, kit_ty (by decide +kernel), true, rfl, iteF ⟨_, rfl, p, _, rfl, .inr hp, rfl, _, rfl, iteF ?_⟩⟩
    refine ⟨_, rfl, p, _, _, _, rfl, rfl, hp, at0, _, rfl, true, rfl, iteT ?_⟩
    refine ⟨_, rfl, p, _, _, _, rfl, rfl, hp, at1, _, rfl, true, rfl, iteT ?_⟩
    refine ⟨_, rfl, p, _, _, _, rfl, rfl, hp, at1, _, _, rfl, rfl, _, rfl, iteY (decide_eq_true (by omega)) ?_⟩
    refine ⟨_, rfl, p, _, _, _, rfl, rfl, hp, at0, _, rfl, p, _, _, _, rfl, rfl, hp, at1, _, _, rfl, rfl, ?_⟩
    rw [hg]
    exact k
theorem c__law_plus (T : Txt K mg a) : Cl P w K mg base 3 "_law_plus" P__law_plus (sp_two K rPlus) [] :=
  T.d__law_plus.cl sc__law_plus (fun vs H Q E h => by obtain ⟨F, u, v, r, q, rfl, _⟩ := h; rfl) fun f cdv A outer s H vs Q E hr h => by
    obtain ⟨F, u, v, r, q, rfl, ⟨p1, rfl, h1⟩, ⟨p2, rfl, h2⟩, z1, z2, z3, z4, n1, n2, hf, k⟩ := h
    refine ⟨_, ((pss_one (ps_ret (pe_f (c__law_ratio T) (takes_of rfl rfl rfl rfl) hr (by decide) rfl (pa_cons (pe_op op_add (pe_op op_mulW (pe_ix ix_tup (pv 0) pe_int (fun _ _ => rfl)) (pe_ix ix_tup (pv 1) pe_int (fun _ _ => rfl))) (pe_op op_mulW (pe_ix ix_tup (pv 1) pe_int (fun _ _ => rfl)) (pe_ix ix_tup (pv 0) pe_int (fun _ _ => rfl)))) (pa_cons (pe_op op_mulW (pe_ix ix_tup (pv 0) pe_int (fun _ _ => rfl)) (pe_ix ix_tup (pv 1) pe_int (fun _ _ => rfl))) pa_nil)))))), ?_⟩
    refine ⟨_, rfl, p1, _, _, _, rfl, rfl, upT hf h1, at0, _, rfl, p2, _, _, _, rfl, rfl, upT hf h2, at1, _, _, rfl, rfl, mulw z1 z4, ?_⟩
    refine ⟨_, rfl, p2, _, _, _, rfl, rfl, upT hf h2, at0, _, rfl, p1, _, _, _, rfl, rfl, upT hf h1, at1, _, _, rfl, rfl, mulw z3 z2, _, _, rfl, rfl, ?_⟩
    refine ⟨_, rfl, p1, _, _, _, rfl, rfl, upT hf h1, at1, _, rfl, p2, _, _, _, rfl, rfl, upT hf h2, at1, _, _, rfl, rfl, mulw z2 z4, ?_⟩
    exact ⟨F, _, _, rfl, Int.mul_ne_zero n1 n2, (z2.mul z4).mono (by decide), hf, k⟩
theorem c__law_minus (T : Txt K mg a) : Cl P w K mg base 3 "_law_minus" P__law_minus (sp_two K rMinus) [] :=
  T.d__law_minus.cl sc__law_minus (fun vs H Q E h => by obtain ⟨F, u, v, r, q, rfl, _⟩ := h; rfl) fun f cdv A outer s H vs Q E hr h => by
    obtain ⟨F, u, v, r, q, rfl, ⟨p1, rfl, h1⟩, ⟨p2, rfl, h2⟩, z1, z2, z3, z4, n1, n2, hf, k⟩ := h
    refine ⟨_, ((pss_one (ps_ret (pe_f (c__law_ratio T) (takes_of rfl rfl rfl rfl) hr (by decide) rfl (pa_cons (pe_op op_sub (pe_op op_mulW (pe_ix ix_tup (pv 0) pe_int (fun _ _ => rfl)) (pe_ix ix_tup (pv 1) pe_int (fun _ _ => rfl))) (pe_op op_mulW (pe_ix ix_tup (pv 1) pe_int (fun _ _ => rfl)) (pe_ix ix_tup (pv 0) pe_int (fun _ _ => rfl)))) (pa_cons (pe_op op_mulW (pe_ix ix_tup (pv 0) pe_int (fun _ _ => rfl)) (pe_ix ix_tup (pv 1) pe_int (fun _ _ => rfl))) pa_nil)))))), ?_⟩
    refine ⟨_, rfl, p1, _, _, _, rfl, rfl, upT hf h1, at0, _, rfl, p2, _, _, _, rfl, rfl, upT hf h2, at1, _, _, rfl, rfl, mulw z1 z4, ?_⟩
    refine ⟨_, rfl, p2, _, _, _, rfl, rfl, upT hf h2, at0, _, rfl, p1, _, _, _, rfl, rfl, upT hf h1, at1, _, _, rfl, rfl, mulw z3 z2, _, _, rfl, rfl, ?_⟩
    refine ⟨_, rfl, p1, _, _, _, rfl, rfl, upT hf h1, at1, _, rfl, p2, _, _, _, rfl, rfl, upT hf h2, at1, _, _, rfl, rfl, mulw z2 z4, ?_⟩
    exact ⟨F, _, _, rfl, Int.mul_ne_zero n1 n2, (z2.mul z4).mono (by decide), hf, k⟩
theorem c__law_times (T : Txt K mg a) : Cl P w K mg base 3 "_law_times" P__law_times (sp_two K rTimes) [] :=
  T.d__law_times.cl sc__law_times (fun vs H Q E h => by obtain ⟨F, u, v, r, q, rfl, _⟩ := h; rfl) fun f cdv A outer s H vs Q E hr h => by
    obtain ⟨F, u, v, r, q, rfl, ⟨p1, rfl, h1⟩, ⟨p2, rfl, h2⟩, z1, z2, z3, z4, n1, n2, hf, k⟩ := h
    refine ⟨_, ((pss_one (ps_ret (pe_f (c__law_ratio T) (takes_of rfl rfl rfl rfl) hr (by decide) rfl (pa_cons (pe_op op_mulW (pe_ix ix_tup (pv 0) pe_int (fun _ _ => rfl)) (pe_ix ix_tup (pv 1) pe_int (fun _ _ => rfl))) (pa_cons (pe_op op_mulW (pe_ix ix_tup (pv 0) pe_int (fun _ _ => rfl)) (pe_ix ix_tup (pv 1) pe_int (fun _ _ => rfl))) pa_nil)))))), ?_⟩
    refine ⟨_, rfl, p1, _, _, _, rfl, rfl, upT hf h1, at0, _, rfl, p2, _, _, _, rfl, rfl, upT hf h2, at0, _, _, rfl, rfl, mulw z1 z3, ?_⟩
    refine ⟨_, rfl, p1, _, _, _, rfl, rfl, upT hf h1, at1, _, rfl, p2, _, _, _, rfl, rfl, upT hf h2, at1, _, _, rfl, rfl, mulw z2 z4, ?_⟩
    exact ⟨F, _, _, rfl, Int.mul_ne_zero n1 n2, (z2.mul z4).mono (by decide), hf, k⟩
def sp_ov (K : PySem.W.Frag) : Sp := fun vs H Q _ => ∃ (F : Hp) (u v : V) (r q : Int × Int), vs = [u, v] ∧ Rt K F u r ∧ Rt K F v q ∧ Sz 1000 r.1 ∧ Sz 1000 r.2 ∧ Sz 1000 q.1 ∧ Sz 1000 q.2 ∧ r.2 ≠ 0 ∧ q.2 ≠ 0 ∧ q.1 ≠ 0 ∧ Pu F H Q fun F' z => Rt K F' z (rOver r q)
theorem c__law_over (T : Txt K mg a) : Cl P w K mg base 3 "_law_over" P__law_over (sp_ov K) [] :=
  T.d__law_over.cl sc__law_over (fun vs H Q E h => by obtain ⟨F, u, v, r, q, rfl, _⟩ := h; rfl) fun f cdv A outer s H vs Q E hr h => by
    obtain ⟨F, u, v, r, q, rfl, ⟨p1, rfl, h1⟩, ⟨p2, rfl, h2⟩, z1, z2, z3, z4, n1, n2, n3, hf, k⟩ := h
    refine ⟨_, ((pss_one (ps_ret (pe_f (c__law_ratio T) (takes_of rfl rfl rfl rfl) hr (by decide) rfl (pa_cons (pe_op op_mulW (pe_ix ix_tup (pv 0) pe_int (fun _ _ => rfl)) (pe_ix ix_tup (pv 1) pe_int (fun _ _ => rfl))) (pa_cons (pe_op op_mulW (pe_ix ix_tup (pv 0) pe_int (fun _ _ => rfl)) (pe_ix ix_tup (pv 1) pe_int (fun _ _ => rfl))) pa_nil)))))), ?_⟩
    refine ⟨_, rfl, p1, _, _, _, rfl, rfl, upT hf h1, at0, _, rfl, p2, _, _, _, rfl, rfl, upT hf h2, at1, _, _, rfl, rfl, mulw z1 z4, ?_⟩
    refine ⟨_, rfl, p1, _, _, _, rfl, rfl, upT hf h1, at1, _, rfl, p2, _, _, _, rfl, rfl, upT hf h2, at0, _, _, rfl, rfl, mulw z2 z3, ?_⟩
    exact ⟨F, _, _, rfl, Int.mul_ne_zero n1 n3, (z2.mul z3).mono (by decide), hf, k⟩
def sp_less (K : PySem.W.Frag) : Sp := fun vs H Q _ => ∃ (u v : V) (r q : Int × Int), vs = [u, v] ∧ Rt K H u r ∧ Rt K H v q ∧ Sz 1000 r.1 ∧ Sz 1000 r.2 ∧ Sz 1000 q.1 ∧ Sz 1000 q.2 ∧ Q (.bl (decide (r.1 * q.2 < q.1 * r.2))) H
theorem c__law_less (T : Txt K mg a) : Cl P w K mg base 1 "_law_less" P__law_less (sp_less K) [] :=
  T.d__law_less.cl sc__law_less (fun vs H Q E h => by obtain ⟨u, v, r, q, rfl, _⟩ := h; rfl) fun f cdv A outer s H vs Q E hr h => by
    obtain ⟨u, v, r, q, rfl, ⟨p1, rfl, h1⟩, ⟨p2, rfl, h2⟩, z1, z2, z3, z4, k⟩ := h
    refine ⟨_, ((pss_one (ps_ret (pe_cmpR op_lt (pe_op op_mulW (pe_ix ix_tup (pv 0) pe_int (fun _ _ => rfl)) (pe_ix ix_tup (pv 1) pe_int (fun _ _ => rfl))) (pe_op op_mulW (pe_ix ix_tup (pv 1) pe_int (fun _ _ => rfl)) (pe_ix ix_tup (pv 0) pe_int (fun _ _ => rfl))) (nomark _))))), ?_⟩
    refine ⟨_, rfl, p1, _, _, _, rfl, rfl, h1, at0, _, rfl, p2, _, _, _, rfl, rfl, h2, at1, _, _, rfl, rfl, mulw z1 z4, ?_⟩
    exact ⟨_, rfl, p2, _, _, _, rfl, rfl, h2, at0, _, rfl, p1, _, _, _, rfl, rfl, h1, at1, _, _, rfl, rfl, mulw z3 z2, _, _, rfl, rfl, k⟩
end
end K04

set_option Elab.async false
set_option linter.all false
set_option maxRecDepth 100000
set_option maxHeartbeats 4000000
namespace K04
open PySem PySem.Spec PyProof.Rows L2 Ew
/-- small, in lowest terms, the lower part above 0 -/
structure Gd (b : Nat) (r : Int × Int) : Prop where
  a : Sz b r.1
  b : Sz b r.2
  p : 0 < r.2
  c : Nat.gcd r.1.natAbs r.2.natAbs = 1
theorem Gd.mono {b b' : Nat} {r : Int × Int} (h : Gd b r) (k : b ≤ b') : Gd b' r := ⟨h.a.mono k, h.b.mono k, h.p, h.c⟩
theorem Gd.rat {b : Nat} {n d : Int} (h1 : Sz b n) (h2 : Sz b d) (h0 : d ≠ 0) : Gd b (rat n d) := ⟨(rat_sz h1 h2).1, (rat_sz h1 h2).2, rat_pos h0, rat_cop h0⟩
theorem sz_of {b : Nat} {n : Int} (k : Nat) (h : n.natAbs < 2 ^ k) (hk : k ≤ b) : Sz b n := Nat.lt_of_lt_of_le h (Nat.pow_le_pow_right (by decide) hk)
section
variable {K : PySem.W.Frag} {b p : Addr} {F H F' H' F2 H2 : Hp} {o : HO}
theorem newB (s : Sb b F H F' H') (B : Bag K b F' H') (hp : H' p = none) : Sb b F H (upd F' p o) (upd H' p o) ∧ Bag K b (upd F' p o) (upd H' p o) := by
  have nb : ¬ p = b := fun z => (memB K b).there B z hp
  have h0 : H p = none := s.fresh (fun x z => (memB K b).there B z) hp
  refine ⟨s.new hp h0, (memB K b).grow ((memB K b).put B nb) (same_new (s.fh.free hp)) fun x z => ?_⟩
  rw [upd_ne (fun q => nb (by rw [← q]; exact z))]
  exact (memB K b).off B z
theorem seqB (s : Sb b F H F' H') (B : Bag K b F' H') (s2 : Sb b F' H' F2 H2) : Sb b F H F2 H2 := s.then (memB K b) B s2
theorem pureB (s : Sb b F H F' H') (B : Bag K b F' H') (s2 : Stp F' H' F2 H2) : Sb b F H F2 H2 ∧ Bag K b F2 H2 := by
  refine ⟨seqB s B s2.any, ?_⟩
  obtain ⟨h, la, ns, at_, rest, mixed, count, h1, h2, h3, h4⟩ := B
  exact ⟨s2.nw b h (by rw [h4]; exact fun q => nomatch q), la, ns, at_, rest, mixed, count, h1, h2, upL s2.ff h3, s2.same b _ h4⟩
end
section
variable {P : Program} {w : World} {K : PySem.W.Frag} {mg : Str → Option Value} {base : Heap} {a : Ad}
def sp__law_bag_of (K : PySem.W.Frag) : Sp := fun vs H Q _ => ∃ (F : Hp) (p : Addr) (ns : List Int), vs = [.ref p] ∧ SqL K F p (ns.map V.int) ∧ ns.length ≤ 1000 ∧ Same F H ∧ ∀ F' H' b, Stp F H F' H' → Bag K b F' H' → Q (.ref b) H'
theorem c__law_bag_of (T : Txt K mg a) : Cl P w K mg base 1 "_law_bag_of" P__law_bag_of (sp__law_bag_of K) [] :=
  T.d__law_bag_of.cl sc__law_bag_of (fun vs H Q E h => by obtain ⟨F, p, ns, rfl, _⟩ := h; rfl) fun f cdv A outer s H vs Q E hr h => by
    obtain ⟨F, p, ns, rfl, hp, hn, hf, k⟩ := h
    refine ⟨_, ((pss_cons (ps_set (i := 1) sc__law_bag_of.nd rfl (Or.inl rfl) pe_int)
 (pss_cons (ps_for (passes_of rfl) rfl (pi_list (pv 0)) (pg_name (i := 2) sc__law_bag_of.nd rfl (Or.inl rfl))
 (pss_one (ps_set (i := 1) sc__law_bag_of.nd rfl (Or.inl rfl) (pe_op op_mod (pe_callTy call_int1 (by rfl) T.n_int (by decide +kernel) (pa_cons (pe_op op_add (pe_op op_add (pe_op op_mul (pv 1) pe_int) (pv 2)) pe_int) pa_nil)) pe_int))))
 (pss_one (ps_ret (pe_disp (pps_cons pe_str (pe_lc (own := [("_law_cell", 2)]) (g := (gName 2)) (by rfl) sc__law_bag_of.nd (pi_list (pv 0)) (blkOk_by (own := [("_law_cell", 2)]) (N := N__law_bag_of) (sc := defScope s__law_bag_of) (by decide +kernel)) (fun _ _ _ _ _ => (pg_name (i := 2) sc__law_bag_of.nd rfl (Or.inl rfl) (hf := .inr rfl))) (fun _ _ _ _ _ => pts_nil) (fun _ _ _ _ _ => (pv 2))) (pps_cons pe_str pe_int (pps_cons pe_str pe_int (pps_cons pe_str (pv 1) (pps_cons pe_str pe_int pps_nil))))) (by rfl) (by rfl) (fun z => by cases z) (by decide))))))), ?_⟩
    refine ⟨_, rfl, p, rfl, ⟨_, upL hf hp⟩, ?_⟩
    refine for_list (fun i σ' H' => H = H' ∧ ∃ (m : Int) (c : Option V), σ' = [some (.ref p), some (.int m), c]) ⟨rfl, 7, none, rfl⟩ (fun i σ' H' _ q => by rw [← q.1]; exact upL hf hp) ?_ ?_
    · rintro i x _ _ hx ⟨rfl, m, c, rfl⟩
      obtain ⟨d, hd, rfl⟩ := int_at hx
      refine ⟨_, rfl, _, _, rfl, rfl, .inr ⟨by decide, by decide⟩, _, rfl, _, _, rfl, rfl, _, _, rfl, rfl, .inl ⟨_, rfl, _, _, rfl, rfl, (by decide : (0 : Int) < 1000003), ?_⟩⟩
      exact ⟨rfl, _, _, rfl⟩
    · rintro _ _ ⟨rfl, m, c, rfl⟩
      intro b hb
      have s0 : Stp F H F (upd H b (.dK [])) := (Stm.refl hf).raw hb hb
      refine ⟨_, rfl, p, rfl, ⟨_, upL s0.fh hp⟩, fun D hD => ?_⟩
      refine lcM memP walk_list s0.fh trivial hD (fun i _ y => ∃ d, ns[i]? = some d ∧ y = V.int d) (fun _ _ _ _ _ z => z) (by rw [List.length_map]; omega) (fun F' H' e1 e2 => upL e2 (upL e1 hp)) ?_ ?_
      · rintro i x F' H1 H'' Kt Kn hi s1 _ ⟨rfl, hx⟩ kk
        obtain ⟨d, hd, rfl⟩ := int_at hx
        exact ⟨rfl, lc_yes ⟨_, rfl, kk _ _ _ (.refl s1.fh) trivial ⟨d, hd, rfl⟩⟩⟩
      · intro F' H1 ys s1 _ hD' hy hr'
        rw [List.length_map] at hy
        obtain rfl := map_of hy hr'
        have fb : F' b = none := s1.nw b (hf.free hb) (by rw [upd_same]; exact fun z => nomatch z)
        refine ⟨_, rfl, s1.same b _ upd_same, bk D 0 0 m 0, rfl, (by show 5 ≤ 15; decide), ?_⟩
        refine k F' _ b ((s0.transP s1).mut fb hb) ⟨fb, D, ns, 0, 0, m, 0, by decide, hn, SqL.of hD', ?_⟩
        rw [upd_same]
        rfl
/-! ### numbers and dimensions that are drawn -/
def sp__law_number_of (K : PySem.W.Frag) : Sp := fun vs H Q _ => ∃ (F : Hp) (b : Addr), vs = [.ref b] ∧ Bag K b F H ∧ Same F H ∧ ∀ F' H' v r, Sb b F H F' H' → Bag K b F' H' → Rt K F' v r → Gd 80 r → Q v H'
theorem wides : ∀ i : Int, 0 ≤ i → i < 6 → ∃ x : Int, atI [V.int 3, .int 10, .int 100, .int ((10 : Int) ^ (6 : Int).toNat), .int ((10 : Int) ^ (20 : Int).toNat), .int ((10 : Int) ^ (20 : Int).toNat)] i = some (.int x) ∧ 0 < x ∧ x ≤ 100000000000000000000 := by
  intro i h0 h1
  have : i = 0 ∨ i = 1 ∨ i = 2 ∨ i = 3 ∨ i = 4 ∨ i = 5 := by omega
  rcases this with rfl | rfl | rfl | rfl | rfl | rfl <;> exact ⟨_, rfl, by decide, by decide⟩
theorem c__law_number_of (T : Txt K mg a) : Cl P w K mg base 3 "_law_number_of" P__law_number_of (sp__law_number_of K) [] :=
  T.d__law_number_of.cl sc__law_number_of (fun vs H Q E h => by obtain ⟨F, b, rfl, _⟩ := h; rfl) fun f cdv A outer s H vs Q E hr h => by
    obtain ⟨F, b, rfl, hB, hf, k⟩ := h
    refine ⟨_, ((pss_cons (ps_set (i := 1) sc__law_number_of.nd rfl (Or.inl rfl) (pe_f (c__law_pick T) (takes_of rfl rfl rfl rfl) hr (by decide) rfl (pa_cons (pv 0) (pa_cons pe_int pa_nil))))
 (pss_cons (ps_set (i := 2) sc__law_number_of.nd rfl (Or.inl rfl) (pe_ix ix_list (pe_lst (pa_cons pe_int (pa_cons pe_int (pa_cons pe_int (pa_cons (pe_op op_pow pe_int pe_int) (pa_cons (pe_op op_pow pe_int pe_int) (pa_cons (pe_op op_pow pe_int pe_int) pa_nil))))))) (pv 1) (fun _ _ => rfl)))
 (pss_cons (ps_set (i := 3) sc__law_number_of.nd rfl (Or.inl rfl) (pe_op op_sub (pe_f (c__law_pick T) (takes_of rfl rfl rfl rfl) hr (by decide) rfl (pa_cons (pv 0) (pa_cons (pv 2) pa_nil))) (pe_f (c__law_choice T) (takes_of rfl rfl rfl rfl) hr (by decide) rfl (pa_cons (pv 0) (pa_cons (pe_lst (pa_cons pe_int (pa_cons pe_int (pa_cons (pe_op op_fdiv (pv 2) pe_int) pa_nil)))) pa_nil)))))
 (pss_cons (ps_if (pt_val (pe_f (c__law_one_in T) (takes_of rfl rfl rfl rfl) hr (by decide) rfl (pa_cons (pv 0) (pa_cons pe_int pa_nil))))
 (pss_one (ps_ret (pe_f (c__law_ratio T) (takes_of rfl rfl rfl rfl) hr (by decide) rfl (pa_cons (pv 3) (pa_cons pe_int pa_nil)))))
 pss_nil)
 (pss_one (ps_ret (pe_f (c__law_ratio T) (takes_of rfl rfl rfl rfl) hr (by decide) rfl (pa_cons (pv 3) (pa_cons (pe_op op_add pe_int (pe_f (c__law_pick T) (takes_of rfl rfl rfl rfl) hr (by decide) rfl (pa_cons (pv 0) (pa_cons (pv 2) pa_nil)))) pa_nil)))))))))), ?_⟩
    refine ⟨_, rfl, F, b, _, rfl, hB, hf, by decide, sz_of 3 (by decide) (by decide), fun H1 i s1 B1 h1 h2 => ?_⟩
    refine ⟨_, _, rfl, rfl, ⟨by decide, by decide, by decide⟩, _, _, rfl, rfl, ⟨by decide, by decide, by decide⟩, _, _, rfl, rfl, ⟨by decide, by decide, by decide⟩, by show 6 ≤ sizeLine; decide, fun p hp => ?_⟩
    obtain ⟨s2, B2⟩ := newB (o := .lst [V.int 3, .int 10, .int 100, .int ((10 : Int) ^ (6 : Int).toNat), .int ((10 : Int) ^ (20 : Int).toNat), .int ((10 : Int) ^ (20 : Int).toNat)]) s1 B1 hp
    obtain ⟨x, hx, x0, x1⟩ := wides i h1 h2
    refine ⟨_, rfl, p, _, _, _, rfl, rfl, SqL.of upd_same, hx, ?_⟩
    have xz : Sz 8000 x := sz_of 70 (by omega) (by decide)
    refine ⟨_, rfl, _, rfl, _, b, _, rfl, B2, s2.fh, x0, xz, fun H3 y s3 B3 y0 y1 => ?_⟩
    have s3 := seqB s2 B2 s3
    refine ⟨_, rfl, _, rfl, _, _, rfl, rfl, ⟨by decide, by decide⟩, by show 3 ≤ sizeLine; decide, fun q hq => ?_⟩
    obtain ⟨s4, B4⟩ := newB (o := .lst [.int 0, .int 1, .int (x / 2)]) s3 B3 hq
    refine ⟨_, b, _, [.int 0, .int 1, .int (x / 2)], rfl, .inl ⟨q, rfl, SqL.of upd_same⟩, (fun z => nomatch z), (by show 3 ≤ 1000; decide), B4, s4.fh, fun H5 z j s5 B5 hz => ?_⟩
    have s5 := seqB s4 B4 s5
    obtain ⟨zi, rfl, z0, z1⟩ : ∃ zi : Int, z = .int zi ∧ 0 ≤ zi ∧ zi ≤ x := by
      match j, hz with
      | 0, e => cases e; exact ⟨0, rfl, by omega, by omega⟩
      | 1, e => cases e; exact ⟨1, rfl, by omega, by omega⟩
      | 2, e => cases e; exact ⟨_, rfl, by omega, by omega⟩
    refine ⟨_, _, rfl, rfl, ?_⟩
    have nz : Sz 80 (y - zi) := sz_of 70 (by omega) (by decide)
    refine ⟨_, rfl, _, b, _, rfl, B5, s5.fh, by decide, sz_of 3 (by decide) (by decide), fun H6 c s6 B6 => ⟨c, rfl, ?_⟩⟩
    have s6 := seqB s5 B5 s6
    refine ite2 (fun e => ?_) (fun e => ?_)
    · refine ⟨_, rfl, _, _, _, rfl, by decide, sz_of 1 (by decide) (by decide), s6.fh, fun F7 H7 v s7 hv => ?_⟩
      obtain ⟨s7, B7⟩ := pureB s6 B6 s7
      exact k F7 H7 v _ s7 B7 hv (Gd.rat nz (sz_of 1 (by decide) (by decide)) (by decide))
    · refine ⟨_, rfl, _, rfl, _, rfl, _, b, _, rfl, B6, s6.fh, x0, xz, fun H7 t s7 B7 t0 t1 => ⟨_, _, rfl, rfl, ?_⟩⟩
      have s7 := seqB s6 B6 s7
      have dz : Sz 80 (1 + t) := sz_of 70 (by omega) (by decide)
      refine ⟨_, _, _, rfl, by omega, dz.mono (by decide), s7.fh, fun F8 H8 v s8 hv => ?_⟩
      obtain ⟨s8, B8⟩ := pureB s7 B7 s8
      exact k F8 H8 v _ s8 B8 hv (Gd.rat nz dz (by omega))
theorem ints_of : ∀ {ys : List V}, (∀ (j : Nat) y, ys[j]? = some y → ∃ d : Int, y = .int d ∧ okE d = true) → ∃ ds : List Int, ys = ds.map V.int ∧ okD ds = true
  | [], _ => ⟨[], rfl, rfl⟩
  | y :: ys, h => by
    obtain ⟨d, rfl, h2⟩ := h 0 y rfl
    obtain ⟨ds, rfl, h4⟩ := ints_of (ys := ys) fun j z hz => h (j + 1) z hz
    exact ⟨d :: ds, rfl, by show (okE d && ds.all okE) = true; rw [h2]; exact h4⟩
def sp__law_dimension_of (K : PySem.W.Frag) : Sp := fun vs H Q _ => ∃ (F : Hp) (b : Addr) (many : Int), vs = [.ref b, .int many] ∧ Bag K b F H ∧ Same F H ∧ 1 ≤ many ∧ many ≤ 100 ∧
  ∀ F' H' v ds, Sb b F H F' H' → Bag K b F' H' → Dm K F' v ds → ds.length = many.toNat → okD ds = true → Q v H'
theorem c__law_dimension_of (T : Txt K mg a) : Cl P w K mg base 2 "_law_dimension_of" P__law_dimension_of (sp__law_dimension_of K) [] :=
  T.d__law_dimension_of.cl sc__law_dimension_of (fun vs H Q E h => by obtain ⟨F, b, many, rfl, _⟩ := h; rfl) fun f cdv A outer s H vs Q E hr h => by
    obtain ⟨F, b, many, rfl, hB, hf, m1, m2, k⟩ := h
    refine ⟨_, ((pss_cons (ps_set (i := 2) sc__law_dimension_of.nd rfl (Or.inr rfl) (pe_ix ix_list (pe_lst (pa_cons pe_int (pa_cons pe_int (pa_cons pe_int (pa_cons pe_int pa_nil))))) (pe_f (c__law_pick T) (takes_of rfl rfl rfl rfl) hr (by decide) rfl (pa_cons (pv 0) (pa_cons pe_int pa_nil))) (fun _ _ => rfl)))
 (pss_one (ps_ret (pe_callTy call_tuple_of (by rfl) T.n_tuple (by decide +kernel) (pa_cons (pe_lc (own := [("_law_k", 3)]) (g := (gName 3)) (by rfl) sc__law_dimension_of.nd (pi_range1 (by rfl) T.n_range (pa_cons (pv 1) pa_nil)) (blkOk_by (own := [("_law_k", 3)]) (N := N__law_dimension_of) (sc := defScope s__law_dimension_of) (by decide +kernel)) (fun _ _ _ _ _ => (pg_name (i := 3) sc__law_dimension_of.nd rfl (Or.inl rfl) (hf := .inr rfl))) (fun _ _ _ _ _ => pts_nil) (fun _ _ _ _ _ => (pe_op op_sub (pe_f (c__law_pick T) takes0 hr (by decide) rfl (pa_cons (pv 0) (pa_cons (pe_op op_add (pe_op op_mul pe_int (pv 2)) pe_int) pa_nil))) (pv 2)))) pa_nil)))))), ?_⟩
    refine ⟨by show 4 ≤ sizeLine; decide, fun p hp => ?_⟩
    obtain ⟨s0, B0⟩ := newB (o := .lst [.int 1, .int 1, .int 4, .int 9]) (Stm.refl hf) hB hp
    refine ⟨_, rfl, _, b, _, rfl, B0, s0.fh, by decide, sz_of 3 (by decide) (by decide), fun H1 i s1 B1 h1 h2 => ?_⟩
    have s1 := seqB s0 B0 s1
    obtain ⟨x, hx, x0, x1⟩ : ∃ x : Int, atI [V.int 1, .int 1, .int 4, .int 9] i = some (.int x) ∧ 0 < x ∧ x ≤ 9 := by
      have : i = 0 ∨ i = 1 ∨ i = 2 ∨ i = 3 := by omega
      rcases this with rfl | rfl | rfl | rfl <;> exact ⟨_, rfl, by decide, by decide⟩
    refine ⟨p, _, _, _, rfl, rfl, SqL.of (s1.fh p _ upd_same), hx, ?_⟩
    refine ⟨_, rfl, _, rfl, by omega, by omega, fun D hD => ?_⟩
    refine lcM (memB K b) walk_range s1.fh B1 hD (fun i _ y => ∃ d : Int, y = .int d ∧ okE d = true) (fun _ _ _ _ _ z => z) (by omega) (fun F' H' e1 e2 => trivial) ?_ ?_
    · rintro j y F2 H2 H'' Kt Kn hi s2 B2 ⟨rfl, rfl⟩ kk
      refine ⟨rfl, lc_yes ⟨_, rfl, _, rfl, _, _, rfl, rfl, .inl ⟨by decide, by decide⟩, _, _, rfl, rfl, F2, b, _, rfl, B2, s2.fh, by omega, sz_of 10 (by omega) (by decide), fun H3 t s3 B3 t0 t1 => ⟨_, rfl, _, _, rfl, rfl, ?_⟩⟩⟩
      refine kk _ _ _ s3 B3 ⟨_, rfl, ?_⟩
      unfold okE
      rw [decide_eq_true (by omega : -9 ≤ t - x), decide_eq_true (by omega : t - x ≤ 9)]
      rfl
    · intro F2 H2 ys s2 B2 hD' hy hr'
      obtain ⟨ds, rfl, ok⟩ := ints_of hr'
      have s2 := seqB s1 B1 s2
      refine ⟨D, _, rfl, .inl ⟨SqL.of (s2.fh D _ hD'), fun l hl => ?_⟩⟩
      obtain ⟨s3, B3⟩ := newB (o := .tup (ds.map V.int)) s2 B2 hl
      exact k _ _ _ ds s3 B3 ⟨l, rfl, sq_new⟩ (by rw [List.length_map] at hy; exact hy) ok
end
end K04

set_option Elab.async false
set_option linter.all false
set_option maxRecDepth 100000
set_option maxHeartbeats 4000000
namespace K04
open PySem PySem.Spec PyProof.Rows L2 Ew
abbrev RowS := (Int × Int) × List Int
structure Good (many : Int) (s : RowS) : Prop where
  g : Gd 80 s.1
  l : s.2.length = many.toNat
  o : okD s.2 = true
def Side (K : PySem.W.Frag) (F : Hp) (many : Int) (v : V) : Prop := ∃ ds : List Int, Dm K F v ds ∧ ds.length = many.toNat ∧ okD ds = true
section
variable {K : PySem.W.Frag} {b l : Addr} {F H F' H' F2 H2 : Hp} {o : HO} {many : Int} {v : V}
theorem Side.up (h : Side K F many v) (e : Same F F') : Side K F' many v := by
  obtain ⟨ds, h1, h2⟩ := h
  exact ⟨ds, h1.up e, h2⟩
theorem keepL (s2 : Sb b F' H' F2 H2) (nb : ¬ l = b) (fl : F' l = none) (hl : H' l = some o) : F2 l = none ∧ H2 l = some o := ⟨s2.nw l fl (by rw [hl]; exact fun z => nomatch z), s2.hh l _ nb hl⟩
theorem okD_rep (n : Nat) {c : Int} (h : okE c = true) : okD (List.replicate n c) = true := by
  unfold okD
  rw [List.all_eq_true]
  intro x hx
  rw [List.eq_of_mem_replicate hx]
  exact h
theorem gd_neg {r : Int × Int} (h : Gd 80 r) : Gd 80 (0 - r.1, r.2) := ⟨by have := h.a.neg; rwa [← Int.zero_sub] at this, h.b, h.p, by show Nat.gcd (0 - r.1).natAbs r.2.natAbs = 1; rw [Int.zero_sub, Int.natAbs_neg]; exact h.c⟩
end
section
variable {P : Program} {w : World} {K : PySem.W.Frag} {mg : Str → Option Value} {base : Heap} {a : Ad}
def sp__law_pairs_drawn (K : PySem.W.Frag) : Sp := fun vs H Q _ => ∃ (F : Hp) (b : Addr) (many : Int), vs = [.ref b, .int many] ∧ Bag K b F H ∧ Same F H ∧ 1 ≤ many ∧ many ≤ 100 ∧
  ∀ F' H' l xs ss, Sb b F H F' H' → Bag K b F' H' → SqL K F' l xs → Rws K F' xs ss → xs.length ≤ 10 → 2 ≤ xs.length → (∀ s ∈ ss, Good many s) → Q (.ref l) H'
theorem c__law_pairs_drawn (T : Txt K mg a) : Cl P w K mg base 4 "_law_pairs_drawn" P__law_pairs_drawn (sp__law_pairs_drawn K) [] :=
  T.d__law_pairs_drawn.cl sc__law_pairs_drawn (fun vs H Q E h => by obtain ⟨F, b, many, rfl, _⟩ := h; rfl) fun f cdv A outer s H vs Q E hr h => by
    obtain ⟨F, b, many, rfl, hB, hf, m1, m2, k⟩ := h
    refine ⟨_, ((pss_cons (ps_set (i := 2) sc__law_pairs_drawn.nd rfl (Or.inl rfl) (pe_lst (pa_cons (pe_f (c__law_dimension_of T) (takes_of rfl rfl rfl rfl) hr (by decide) rfl (pa_cons (pv 0) (pa_cons (pv 1) pa_nil))) (pa_cons (pe_f (c__law_dimension_of T) (takes_of rfl rfl rfl rfl) hr (by decide) rfl (pa_cons (pv 0) (pa_cons (pv 1) pa_nil))) (pa_cons (pe_f (c__law_choice T) (takes_of rfl rfl rfl rfl) hr (by decide) rfl (pa_cons (pv 0) (pa_cons (pe_lst (pa_cons (pe_op op_repA (pe_tup (pa_cons pe_int pa_nil)) (pv 1)) (pa_cons (pe_op op_repA (pe_tup (pa_cons pe_int pa_nil)) (pv 1)) (pa_cons (pe_op op_repA (pe_tup (pa_cons (pe_un un_neg pe_int) pa_nil)) (pv 1)) pa_nil)))) pa_nil))) pa_nil)))))
 (pss_cons (ps_set (i := 3) sc__law_pairs_drawn.nd rfl (Or.inl rfl) (pe_lst pa_nil))
 (pss_cons (ps_for (passes_of rfl) rfl (pi_range1 (by rfl) T.n_range (pa_cons (pe_op op_add pe_int (pe_f (c__law_pick T) (takes_of rfl rfl rfl rfl) hr (by decide) rfl (pa_cons (pv 0) (pa_cons pe_int pa_nil)))) pa_nil)) (pg_name (i := 4) sc__law_pairs_drawn.nd rfl (Or.inl rfl))
 (pss_cons (ps_set (i := 5) sc__law_pairs_drawn.nd rfl (Or.inl rfl) (pe_f (c__law_number_of T) (takes_of rfl rfl rfl rfl) hr (by decide) rfl (pa_cons (pv 0) pa_nil)))
 (pss_cons (ps_if (PW.pt (pw_and (pt_cmpR (op_neD hr.units) (pv 3) (pe_lst pa_nil) (nomark _)) (pw_and1 (pt_val (pe_f (c__law_one_in T) (takes_of rfl rfl rfl rfl) hr (by decide) rfl (pa_cons (pv 0) (pa_cons pe_int pa_nil)))))))
 (pss_cons (ps_set (i := 5) sc__law_pairs_drawn.nd rfl (Or.inl rfl) (pe_ix ix_tup (pe_f (c__law_choice T) (takes_of rfl rfl rfl rfl) hr (by decide) rfl (pa_cons (pv 0) (pa_cons (pv 3) pa_nil))) pe_int (fun _ _ => rfl)))
 (pss_one (ps_if (pt_val (pe_f (c__law_one_in T) (takes_of rfl rfl rfl rfl) hr (by decide) rfl (pa_cons (pv 0) (pa_cons pe_int pa_nil))))
 (pss_one (ps_set (i := 5) sc__law_pairs_drawn.nd rfl (Or.inl rfl) (pe_tup (pa_cons (pe_op op_sub pe_int (pe_ix ix_tup (pv 5) pe_int (fun _ _ => rfl))) (pa_cons (pe_ix ix_tup (pv 5) pe_int (fun _ _ => rfl)) pa_nil)))))
 pss_nil)))
 pss_nil)
 (pss_one (ps_expr (pe_bm PySem.F.plainAttrs_list PySem.F.slot_list_append PySem.F.type_list_append mt_append (pv 3) (pa_cons (pe_tup (pa_cons (pv 5) (pa_cons (pe_f (c__law_choice T) (takes_of rfl rfl rfl rfl) hr (by decide) rfl (pa_cons (pv 0) (pa_cons (pv 2) pa_nil))) pa_nil))) pa_nil)))))))
 (pss_one (ps_ret (pv 3))))))), ?_⟩
    refine ⟨_, rfl, _, rfl, F, b, many, rfl, hB, hf, m1, m2, fun F1 H1 v1 d1 s1 B1 h1 l1 o1 => ?_⟩
    refine ⟨_, rfl, _, rfl, F1, b, many, rfl, B1, s1.fh, m1, m2, fun F2 H2 v2 d2 s2 B2 h2 l2 o2 => ?_⟩
    have t2 := s2.ff
    have s2 := seqB s1 B1 s2
    refine ⟨_, rfl, by show 1 ≤ sizeLine; decide, fun p3 hp3 => ?_⟩
    obtain ⟨s3, B3⟩ := newB (o := .tup [.int 0]) s2 B2 hp3
    refine ⟨_, rfl, rep_of s3.fh sq_new m1 m2 fun F4 H4 z1 s4 hz1 => ?_⟩
    have t3 := (same_new (o := .tup [.int 0]) (s2.fh.free hp3)).trans s4.ff
    obtain ⟨s4, B4⟩ := pureB s3 B3 s4
    refine ⟨by show 1 ≤ sizeLine; decide, fun p5 hp5 => ?_⟩
    obtain ⟨s5, B5⟩ := newB (o := .tup [.int 9]) s4 B4 hp5
    refine ⟨_, rfl, rep_of s5.fh sq_new m1 m2 fun F6 H6 z2 s6 hz2 => ?_⟩
    have t5 := (same_new (o := .tup [.int 9]) (s4.fh.free hp5)).trans s6.ff
    obtain ⟨s6, B6⟩ := pureB s5 B5 s6
    refine ⟨_, rfl, by show 1 ≤ sizeLine; decide, fun p7 hp7 => ?_⟩
    obtain ⟨s7, B7⟩ := newB (o := .tup [.int (-9)]) s6 B6 hp7
    refine ⟨_, rfl, rep_of s7.fh sq_new m1 m2 fun F8 H8 z3 s8 hz3 => ?_⟩
    have t7 := (same_new (o := .tup [.int (-9)]) (s6.fh.free hp7)).trans s8.ff
    obtain ⟨s8, B8⟩ := pureB s7 B7 s8
    refine ⟨by show 3 ≤ sizeLine; decide, fun p9 hp9 => ?_⟩
    have t9 := same_new (o := .lst [z1, z2, z3]) (s8.fh.free hp9)
    obtain ⟨s9, B9⟩ := newB (o := .lst [z1, z2, z3]) s8 B8 hp9
    refine ⟨_, b, _, [z1, z2, z3], rfl, .inl ⟨p9, rfl, SqL.of upd_same⟩, (fun z => nomatch z), (by show 3 ≤ 1000; decide), B9, s9.fh, fun H10 z j s10 B10 hz => ?_⟩
    have s10 := seqB s9 B9 s10
    refine ⟨by show 3 ≤ sizeLine; decide, fun sd hsd => ?_⟩
    have t11 := same_new (o := .lst [v1, v2, z]) (s10.fh.free hsd)
    obtain ⟨s11, B11⟩ := newB (o := .lst [v1, v2, z]) s10 B10 hsd
    have sz : Side K (upd F8 p9 (.lst [z1, z2, z3])) many z := by
      match j, hz with
      | 0, e => cases e; exact ⟨_, hz1.up ((t5.trans t7).trans t9), List.length_replicate, okD_rep _ (by decide)⟩
      | 1, e => cases e; exact ⟨_, hz2.up (t7.trans t9), List.length_replicate, okD_rep _ (by decide)⟩
      | 2, e => cases e; exact ⟨_, hz3.up t9, List.length_replicate, okD_rep _ (by decide)⟩
    have sides : ∀ v ∈ [v1, v2, z], Side K (upd (upd F8 p9 (.lst [z1, z2, z3])) sd (.lst [v1, v2, z])) many v := by
      intro v hv
      have t := ((t3.trans t5).trans t7).trans (t9.trans t11)
      rcases List.mem_cons.mp hv with rfl | hv
      · exact ⟨d1, (h1.up t2).up t, l1, o1⟩
      rcases List.mem_cons.mp hv with rfl | hv
      · exact ⟨d2, h2.up t, l2, o2⟩
      rcases List.mem_cons.mp hv with rfl | hv
      · exact sz.up t11
      · cases hv
    refine ⟨by show 0 ≤ sizeLine; decide, fun l hl => ?_⟩
    generalize hF : upd (upd F8 p9 (.lst [z1, z2, z3])) sd (.lst [v1, v2, z]) = F12 at s11 B11 sides
    generalize hH : upd H10 sd (.lst [v1, v2, z]) = H12 at s11 B11 hl
    have sdl : SqL K F12 sd [v1, v2, z] := by rw [← hF]; exact SqL.of upd_same
    clear hF hH
    have nb : ¬ l = b := fun z => (memB K b).there B11 z hl
    have l0 : H l = none := s11.fresh (fun x z => (memB K b).there B11 z) hl
    have s12 : Sb b F H F12 (upd H12 l (.lst [])) := s11.raw hl l0
    have B12 : Bag K b F12 (upd H12 l (.lst [])) := (memB K b).put B11 nb
    have fl12 : F12 l = none := s11.fh.free hl
    refine ⟨_, rfl, F12, b, _, rfl, B12, s12.fh, by decide, sz_of 3 (by decide) (by decide), fun H13 n s13 B13 n0 n1 => ⟨_, _, rfl, rfl, _, rfl, by omega, by omega, ?_⟩⟩
    have hl13 := keepL s13 nb fl12 (upd_same (o := .lst []))
    have s13 := seqB s12 B12 s13
    refine for_it walk_range (fun i σ' H' => ∃ F' xs ss c4 c5, σ' = [some (.ref b), some (.int many), some (.ref sd), some (.ref l), c4, c5] ∧ Sb b F H F' H' ∧ Bag K b F' H' ∧ Same F12 F' ∧ F' l = none ∧ H' l = some (.lst xs) ∧ Rws K F' xs ss ∧ xs.length = i ∧ ∀ s ∈ ss, Good many s)
      ⟨F12, [], [], none, none, rfl, s13, B13, Same.refl _, fl12, hl13.2, .nil, rfl, fun s hs => nomatch hs⟩ (fun _ _ _ _ _ => trivial) ?_ ?_
    · rintro i x _ H' H'' hi ⟨F', xs, ss, c4, c5, rfl, s1, B1, e1, fl, hl, hr1, hlen, hg⟩ ⟨rfl, rfl⟩
      have hi : i < 10 := by omega
      refine ⟨_, rfl, F', b, rfl, B1, s1.fh, fun F2 H2 v r s2 B2 hv gv => ?_⟩
      obtain ⟨fl2, hl2⟩ := keepL s2 nb fl hl
      have e2 := s2.ff
      have s2 := seqB s1 B1 s2
      refine seq_with (fun σ3 H3 => [some (.ref b), some (.int many), some (.ref sd), some (.ref l), some (.int (0 + (i : Int))), some v] = σ3 ∧ H2 = H3) (fun u hu => hu _ _ ⟨rfl, rfl⟩) ?_
      rintro _ _ ⟨rfl, rfl⟩
      refine seq_with (fun σ3 H3 => ∃ F3 v r, σ3 = [some (.ref b), some (.int many), some (.ref sd), some (.ref l), some (.int (0 + (i : Int))), some v] ∧ Sb b F H F3 H3 ∧ Bag K b F3 H3 ∧ Same F' F3 ∧ F3 l = none ∧ H3 l = some (.lst xs) ∧ Rt K F3 v r ∧ Gd 80 r) (fun u hu => ?_) ?_
      · refine ⟨_, rfl, by show 0 ≤ sizeLine; decide, fun q hq => ?_⟩
        have nl : ¬ l = q := fun z => by rw [← z, hl2] at hq; cases hq
        have e3 := same_new (o := .lst []) (s2.fh.free hq)
        obtain ⟨s3, B3⟩ := newB (o := .lst []) s2 B2 hq
        have fl3 : upd F2 q (.lst []) l = none := by rw [upd_ne nl]; exact fl2
        have hl3 : upd H2 q (.lst []) l = some (.lst xs) := by rw [upd_ne nl]; exact hl2
        have hr3 : Rws K (upd F2 q (.lst [])) xs ss := hr1.up (e2.trans e3)
        have yes0 := hu _ _ ⟨_, v, r, rfl, s3, B3, e2.trans e3, fl3, hl3, hv.up e3, gv⟩
        refine ⟨.list (ss.map rowD), .list [], .lst (SqL.of hl3) (hr3.up s3.fh).dps, .lst (SqL.of upd_same) .nil, (Fl.lst (FlA.all fun d hd => by obtain ⟨s, _, rfl⟩ := List.mem_map.mp hd; exact fl_row s) : Fl 3 _).sh (by decide), (Fl.lst .nil : Fl 1 _).sh (by decide), _, rfl, ?_⟩
        refine ite2 (fun c => ?_) (fun c => ?_)
        · have ne : xs ≠ [] := by
            intro z
            rw [z] at hr3
            have : ss = [] := List.eq_nil_of_length_eq_zero (by rw [← hr3.1]; rfl)
            rw [this] at c
            exact absurd c (by decide +kernel)
          refine ⟨_, rfl, _, b, _, rfl, B3, s3.fh, by decide, sz_of 3 (by decide) (by decide), fun H4 c4 s4 B4 => ⟨c4, rfl, ?_⟩⟩
          obtain ⟨fl4, hl4⟩ := keepL s4 nb fl3 hl3
          have s4 := seqB s3 B3 s4
          refine ite2 (fun c => ?_) (fun c => ?_)
          · refine ⟨_, rfl, _, rfl, _, b, _, xs, rfl, .inr (.inl ⟨l, rfl, nb, hl4⟩), ne, by omega, B4, s4.fh, fun H5 x j s5 B5 hx => ?_⟩
            obtain ⟨fl5, hl5⟩ := keepL s5 nb fl4 hl4
            have s5 := seqB s4 B4 s5
            obtain ⟨t, ht, p, x1, x2, rfl, hp, hx1, hx2⟩ := hr3.2 j x hx
            have gt := hg t (List.mem_of_getElem? ht)
            refine ⟨p, _, _, _, rfl, rfl, upT s5.fh hp, at0, ?_⟩
            refine ⟨_, rfl, _, b, _, rfl, B5, s5.fh, by decide, sz_of 3 (by decide) (by decide), fun H6 c6 s6 B6 => ⟨c6, rfl, ?_⟩⟩
            obtain ⟨fl6, hl6⟩ := keepL s6 nb fl5 hl5
            have s6 := seqB s5 B5 s6
            refine ite2 (fun c => ?_) (fun c => ?_)
            · obtain ⟨px, rfl, hpx⟩ := hx1
              refine ⟨_, rfl, px, _, _, _, rfl, rfl, upT s6.fh hpx, at0, _, _, rfl, rfl, _, rfl, px, _, _, _, rfl, rfl, upT s6.fh hpx, at1, (by show 2 ≤ sizeLine; decide), fun q2 hq2 => ?_⟩
              have nl2 : ¬ l = q2 := fun z => by rw [← z, hl6] at hq2; cases hq2
              obtain ⟨s7, B7⟩ := newB (o := .tup [.int (0 - t.1.1), .int t.1.2]) s6 B6 hq2
              exact hu _ _ ⟨_, _, (0 - t.1.1, t.1.2), rfl, s7, B7, e2.trans (e3.trans (same_new (s6.fh.free hq2))), by rw [upd_ne nl2]; exact fl6, by rw [upd_ne nl2]; exact hl6, ⟨q2, rfl, sq_new⟩, gd_neg gt.g⟩
            · exact hu _ _ ⟨_, _, t.1, rfl, s6, B6, e2.trans e3, fl6, hl6, hx1, gt.g⟩
          · exact hu _ _ ⟨_, v, r, rfl, s4, B4, e2.trans e3, fl4, hl4, hv.up e3, gv⟩
        · exact yes0
      · rintro _ H3 ⟨F3, v, r, rfl, s3, B3, e3, fl3, hl3, hv, gv⟩
        refine ⟨_, rfl, .inl ⟨rfl, _, SqL.of hl3⟩, _, rfl, _, rfl, _, rfl, F3, b, _, [v1, v2, z], rfl, .inl ⟨sd, rfl, upL (e1.trans e3) sdl⟩, (fun z => nomatch z), (by show 3 ≤ 1000; decide), B3, s3.fh, fun H4 y j s4 B4 hy => ?_⟩
        obtain ⟨fl4, hl4⟩ := keepL s4 nb fl3 hl3
        have s4 := seqB s3 B3 s4
        refine ⟨by show 2 ≤ sizeLine; decide, fun q hq => ?_⟩
        have nl : ¬ l = q := fun z => by rw [← z, hl4] at hq; cases hq
        obtain ⟨s5, B5⟩ := newB (o := .tup [v, y]) s4 B4 hq
        have e5 := same_new (o := .tup [v, y]) (s4.fh.free hq)
        obtain ⟨ds, hd, dl, dk⟩ := ((sides y (List.mem_of_getElem? hy)).up (e1.trans e3)).up e5
        have fl5 : upd F3 q (.tup [v, y]) l = none := by rw [upd_ne nl]; exact fl4
        refine ⟨l, xs, _, rfl, rfl, by rw [upd_ne nl]; exact hl4, by rw [sizeLine_eq]; omega, ?_⟩
        refine ⟨_, xs ++ [.ref q], ss ++ [(r, ds)], _, _, rfl, s5.mut fl5 l0, (memB K b).put B5 nb, e1.trans (e3.trans e5), fl5, upd_same, (hr1.up (e3.trans e5)).snoc ⟨q, v, y, rfl, sq_new, hv.up e5, hd⟩, by rw [List.length_append, hlen]; rfl, fun s hs => ?_⟩
        rcases List.mem_append.mp hs with hs | hs
        · exact hg s hs
        · rw [List.mem_singleton.mp hs]
          exact ⟨gv, dl, dk⟩
    · rintro _ H' ⟨F', xs, ss, c4, c5, rfl, s1, B1, e1, fl, hl, hr1, hlen, hg⟩
      refine ⟨_, rfl, ?_⟩
      have fB : Bag K b (upd F' l (.lst xs)) H' := (memB K b).grow B1 (same_new fl) fun x z => by rw [upd_ne (fun q => nb (by rw [← q]; exact z))]; exact (memB K b).off B1 z
      exact k _ H' l xs ss (s1.freeze fl l0 hl) fB (SqL.of upd_same) (hr1.up (same_new fl)) (by omega) (by omega) hg
end
end K04

set_option Elab.async false
set_option linter.all false
set_option maxRecDepth 100000
set_option maxHeartbeats 4000000
namespace K04
open PySem PySem.Spec PyProof.Rows L2 Ew
inductive Sg | add | sub | mul | div | cmp
def Sg.str : Sg → Str
  | .add => ⟨#[43]⟩
  | .sub => ⟨#[45]⟩
  | .mul => ⟨#[42]⟩
  | .div => ⟨#[47]⟩
  | .cmp => ⟨#[63]⟩
inductive Due
  | mixed (ds es : List Int)
  | cmp (i : Int)
  | amt (r : Int × Int) (ds : List Int)
  | nought (r : Int × Int)
  | high (ds : List Int)
abbrev zAdd (x y : List Int) : List Int := List.zipWith (· + ·) x y
abbrev zSub (x y : List Int) : List Int := List.zipWith (· - ·) x y
def dueOf (s t : RowS) : Sg → Due
  | .add => if s.2 = t.2 then .amt (rPlus s.1 t.1) s.2 else .mixed s.2 t.2
  | .sub => if s.2 = t.2 then .amt (rMinus s.1 t.1) s.2 else .mixed s.2 t.2
  | .cmp => if s.2 = t.2 then .cmp (rCmp s.1 t.1) else .mixed s.2 t.2
  | .mul => if okD (zAdd s.2 t.2) = true then .amt (rTimes s.1 t.1) (zAdd s.2 t.2) else .high (zAdd s.2 t.2)
  | .div => if t.1.1 = 0 then .nought s.1 else if okD (zSub s.2 t.2) = true then .amt (rOver s.1 t.1) (zSub s.2 t.2) else .high (zSub s.2 t.2)
def DueAt (K : PySem.W.Frag) (F : Hp) (v : V) : Due → Prop
  | .mixed ds es => ∃ p u w, v = .ref p ∧ SqT K F p [.str "mixed", u, w] ∧ Dm K F u ds ∧ Dm K F w es
  | .cmp i => ∃ p, v = .ref p ∧ SqT K F p [.str "is", .int i]
  | .amt r ds => ∃ p u w, v = .ref p ∧ SqT K F p [.str "is", u, w] ∧ Rt K F u r ∧ Dm K F w ds
  | .nought r => ∃ p u, v = .ref p ∧ SqT K F p [.str "nought", u] ∧ Rt K F u r
  | .high ds => ∃ p u, v = .ref p ∧ SqT K F p [.str "high", u] ∧ Dm K F u ds
def ToldAt (K : PySem.W.Frag) (C : Addr) (F : Hp) (v : V) : Due → Prop
  | .amt r ds => ∃ p u, v = .ref p ∧ SqT K F p [.str "is", u] ∧ Amt K C F u r ds
  | d => DueAt K F v d
theorem DueAt.up {K : PySem.W.Frag} {F F' : Hp} {v : V} {d : Due} (h : DueAt K F v d) (e : Same F F') : DueAt K F' v d := by
  cases d with
  | mixed ds es => obtain ⟨p, u, w, h1, h2, h3, h4⟩ := h; exact ⟨p, u, w, h1, upT e h2, h3.up e, h4.up e⟩
  | cmp i => obtain ⟨p, h1, h2⟩ := h; exact ⟨p, h1, upT e h2⟩
  | amt r ds => obtain ⟨p, u, w, h1, h2, h3, h4⟩ := h; exact ⟨p, u, w, h1, upT e h2, h3.up e, h4.up e⟩
  | nought r => obtain ⟨p, u, h1, h2, h3⟩ := h; exact ⟨p, u, h1, upT e h2, h3.up e⟩
  | high ds => obtain ⟨p, u, h1, h2, h3⟩ := h; exact ⟨p, u, h1, upT e h2, h3.up e⟩
theorem ToldAt.up {K : PySem.W.Frag} {C : Addr} {F F' : Hp} {v : V} {d : Due} (h : ToldAt K C F v d) (e : Same F F') : ToldAt K C F' v d := by
  cases d with
  | amt r ds => obtain ⟨p, u, h1, h2, h3⟩ := h; exact ⟨p, u, h1, upT e h2, h3.up e⟩
  | mixed ds es => exact DueAt.up (d := Due.mixed ds es) h e
  | cmp i => exact DueAt.up (d := Due.cmp i) h e
  | nought r => exact DueAt.up (d := Due.nought r) h e
  | high ds => exact DueAt.up (d := Due.high ds) h e
section
variable {P : Program} {w : World} {K : PySem.W.Frag} {mg : Str → Option Value} {base : Heap} {a : Ad}
theorem getz {xs : List Int} {i : Nat} {d : Int} (h : xs[i]? = some d) : atI (xs.map V.int) (0 + (i : Int)) = some (.int d) := by
  rw [Int.zero_add]
  exact atI_nat (by rw [List.getElem?_map, h]; rfl)
/-- every one in bounds -/
def sp__law_high (K : PySem.W.Frag) : Sp := fun vs H Q _ => ∃ (u : V) (ds : List Int), vs = [u] ∧ Dm K H u ds ∧ Q (.bl (!okD ds)) H
theorem c__law_high (T : Txt K mg a) : Cl P w K mg base 1 "_law_high" P__law_high (sp__law_high K) [] :=
  T.d__law_high.cl sc__law_high (fun vs H Q E h => by obtain ⟨u, ds, rfl, _⟩ := h; rfl) fun f cdv A outer s H vs Q E hr h => by
    obtain ⟨u, ds, rfl, ⟨p, rfl, hp⟩, k⟩ := h
    refine ⟨_, ((pss_cons (ps_for (passes_of rfl) rfl (pi_tup (pv 0)) (pg_name (i := 1) sc__law_high.nd rfl (Or.inl rfl))
 (pss_one (ps_if (pt_not (pt_chain op_le op_le (pe_un un_neg pe_int) (pv 1) pe_int))
 (pss_one (ps_ret pe_bl))
 pss_nil)))
 (pss_one (ps_ret pe_bl)))), ?_⟩
    refine ⟨_, rfl, p, rfl, ⟨_, hp⟩, ?_⟩
    refine for_tup (fun i σ' H' => H = H' ∧ (∃ c : Option V, σ' = [some (.ref p), c]) ∧ ∀ (j : Nat) d, j < i → ds[j]? = some d → okE d = true) ⟨rfl, ⟨none, rfl⟩, fun j d z => absurd z (Nat.not_lt_zero _)⟩ (fun i σ' H' _ q => by rw [← q.1]; exact hp) ?_ ?_
    · rintro i x _ _ hx ⟨rfl, ⟨c, rfl⟩, hj⟩
      obtain ⟨d, hd, rfl⟩ := int_at hx
      refine ⟨_, rfl, _, rfl, _, _, rfl, rfl, _, rfl, ?_⟩
      have fin : okE d = false → Q (.bl true) H := fun e => by
        have : okD ds = false := by
          unfold okD
          rw [List.all_eq_false]
          exact ⟨d, List.mem_of_getElem? hd, by rw [e]; exact fun z => nomatch z⟩
        rw [this] at k
        exact k
      by_cases e1 : -9 ≤ d
      · refine iteY (decide_eq_true e1) ⟨_, _, rfl, rfl, _, rfl, ?_⟩
        by_cases e2 : d ≤ 9
        · rw [decide_eq_true e2]
          refine iteF ⟨rfl, ⟨_, rfl⟩, fun j d' hj' hd' => ?_⟩
          rcases Nat.lt_or_ge j i with h | h
          · exact hj j d' h hd'
          · have : j = i := by omega
            subst this
            rw [hd] at hd'
            cases hd'
            unfold okE
            rw [decide_eq_true e1, decide_eq_true e2]
            rfl
        · rw [decide_eq_false e2]
          refine iteT (fin ?_)
          unfold okE
          rw [decide_eq_false e2, Bool.and_false]
      · refine iteN (by rw [decide_eq_false e1]; exact fun z => nomatch z) ?_
        refine ⟨_, rfl, iteT (fin ?_)⟩
        unfold okE
        rw [decide_eq_false e1, Bool.false_and]
    · rintro _ _ ⟨rfl, ⟨c, rfl⟩, hj⟩
      have : okD ds = true := by
        unfold okD
        rw [List.all_eq_true]
        intro d hd
        obtain ⟨j, lt, e⟩ := List.getElem_of_mem hd
        exact hj j d (by rw [List.length_map]; exact lt) (by rw [← e]; exact List.getElem?_eq_getElem lt)
      rw [this] at k
      exact k
def sp__law_plain (K : PySem.W.Frag) : Sp := fun vs H Q _ => ∃ (u : V) (ds : List Int), vs = [u] ∧ Dm K H u ds ∧ Q (.bl true) H
theorem c__law_plain (T : Txt K mg a) : Cl P w K mg base 2 "_law_plain" P__law_plain (sp__law_plain K) [] :=
  T.d__law_plain.cl sc__law_plain (fun vs H Q E h => by obtain ⟨u, ds, rfl, _⟩ := h; rfl) fun f cdv A outer s H vs Q E hr h => by
    obtain ⟨u, ds, rfl, ⟨p, rfl, hp⟩, k⟩ := h
    refine ⟨_, ((pss_cons (ps_if (pt_not (pt_val (pe_callB call_isi (by rfl) T.n_isinstance (by decide +kernel) (pa_cons (pv 0) (pa_cons (pe_bltn (v := .ty "tuple") (by rfl) T.n_tuple (by decide +kernel) rfl) pa_nil)))))
 (pss_one (ps_ret pe_bl))
 pss_nil)
 (pss_cons (ps_for (passes_of rfl) rfl (pi_tup (pv 0)) (pg_name (i := 1) sc__law_plain.nd rfl (Or.inl rfl))
 (pss_one (ps_if (pt_not (pt_val (pe_f (c__law_integer T) (takes_of rfl rfl rfl rfl) hr (by decide) rfl (pa_cons (pv 1) pa_nil))))
 (pss_one (ps_ret pe_bl))
 pss_nil)))
 (pss_one (ps_ret pe_bl))))), ?_⟩
    refine ⟨_, rfl, _, _, _, _, true, rfl, .ty _, ty_sqT hp, kit_ty (by decide +kernel), true, rfl, iteF ?_⟩
    refine ⟨_, rfl, p, rfl, ⟨_, hp⟩, ?_⟩
    refine for_tup (fun i σ' H' => H = H' ∧ ∃ c : Option V, σ' = [some (.ref p), c]) ⟨rfl, none, rfl⟩ (fun i σ' H' _ q => by rw [← q.1]; exact hp) ?_ ?_
    · rintro i x _ _ hx ⟨rfl, c, rfl⟩
      obtain ⟨d, hd, rfl⟩ := int_at hx
      exact ⟨_, rfl, _, rfl, true, rfl, iteF ⟨rfl, _, rfl⟩⟩
    · rintro _ _ ⟨rfl, c, rfl⟩
      exact k
theorem Rt.dm {F : Hp} {v : V} {r : Int × Int} (h : Rt K F v r) : Dm K F v [r.1, r.2] := h
def sp__law_is_amount (K : PySem.W.Frag) (a : Ad) : Sp := fun vs H Q _ => ∃ (u v x : V) (r : Int × Int) (ds : List Int), vs = [u, v, x] ∧ Amt K a.Amount H u r ds ∧ Rt K H v r ∧ Dm K H x ds ∧ 0 < r.2 ∧ Nat.gcd r.1.natAbs r.2.natAbs = 1 ∧ Q (.bl true) H
theorem c__law_is_amount (T : Txt K mg a) : Cl P w K mg base 3 "_law_is_amount" P__law_is_amount (sp__law_is_amount K a) [] :=
  T.d__law_is_amount.cl sc__law_is_amount (fun vs H Q E h => by obtain ⟨u, v, x, r, ds, rfl, _⟩ := h; rfl) fun f cdv A outer s H vs Q E hr h => by
    obtain ⟨u, v, x, r, ds, rfl, ⟨p1, dx1, u1, w1, rfl, e1, hr1, hd1⟩, hv, hx, h0, hg, k⟩ := h
    refine ⟨_, ((pss_cons (ps_if (PW.pt (pw_or (pt_not (pt_val (pe_callB call_isi (by rfl) T.n_isinstance (by decide +kernel) (pa_cons (pv 0) (pa_cons (pe_glob (v := .ref a.Amount) rfl T.g_Amount rfl) pa_nil))))) (pw_or (pt_not (pt_val (pe_f (c__law_is_ratio T) (takes_of rfl rfl rfl rfl) hr (by decide) rfl (pa_cons (pe_fld (pv 0) rfl) pa_nil)))) (pw_or1 (pt_not (pt_val (pe_f (c__law_plain T) (takes_of rfl rfl rfl rfl) hr (by decide) rfl (pa_cons (pe_fld (pv 0) rfl) pa_nil))))))))
 (pss_one (ps_ret pe_bl))
 pss_nil)
 (pss_one (ps_ret (pe_and (pe_cmpR (op_eqD hr.units) (pe_fld (pv 0) rfl) (pv 1) (nomark _)) (pe_one (pe_cmpR (op_eqD hr.units) (pe_fld (pv 0) rfl) (pv 2) (nomark _)))))))), ?_⟩
    refine ⟨_, rfl, _, _, _, _, true, rfl, .own _, T.ki.ty e1, kit_same, true, rfl, iteF ?_⟩
    refine ⟨_, rfl, p1, _, dx1, _, _, rfl, e1, T.ki.cl, T.nN, af_n, _, r, rfl, hr1, h0, hg, true, rfl, iteF ?_⟩
    refine ⟨_, rfl, p1, _, dx1, _, _, rfl, e1, T.ki.cl, T.nD, af_d, _, ds, rfl, hd1, true, rfl, iteF ?_⟩
    refine ⟨_, rfl, p1, _, dx1, _, _, rfl, e1, T.ki.cl, T.nN, af_n, _, rfl, _, _, hr1.dp, hv.dp, shaped_ints _, shaped_ints _, true, by rw [eqv_ints, decide_eq_true rfl], iteT ?_⟩
    refine ⟨_, rfl, p1, _, dx1, _, _, rfl, e1, T.ki.cl, T.nD, af_d, _, rfl, _, _, hd1.dp, hx.dp, shaped_ints _, shaped_ints _, ?_⟩
    rw [eqv_ints, decide_eq_true rfl]
    exact k
end
end K04

set_option Elab.async false
set_option linter.all false
set_option maxRecDepth 100000
set_option maxHeartbeats 4000000
namespace K04
open PySem PySem.Spec PyProof.Rows L2 Ew
section
variable {P : Program} {w : World} {K : PySem.W.Frag} {mg : Str → Option Value} {base : Heap} {a : Ad}
theorem cmp_is (r q : Int × Int) : (if decide (q.1 * r.2 < r.1 * q.2) = true then 1 else 0) - (if decide (r.1 * q.2 < q.1 * r.2) = true then 1 else 0) = rCmp r q := by
  unfold rCmp
  by_cases h1 : r.1 * q.2 = q.1 * r.2
  · simp [h1]
  · by_cases h2 : r.1 * q.2 < q.1 * r.2
    · have h3 : ¬ q.1 * r.2 < r.1 * q.2 := by omega
      simp [h1, h2, h3]
    · have h3 : q.1 * r.2 < r.1 * q.2 := by omega
      simp [h1, h2, h3]
def sp__law_due_of (K : PySem.W.Frag) : Sp := fun vs H Q _ => ∃ (F : Hp) (u v : V) (s t : RowS) (sg : Sg), vs = [u, v, .str sg.str] ∧ Row K F u s ∧ Row K F v t ∧ Ok2 s.1 t.1 ∧ s.2.length = t.2.length ∧ s.2.length ≤ 100 ∧ Same F H ∧
  ∀ F' H' z, Stp F H F' H' → DueAt K F' z (dueOf s t sg) → Q z H'
theorem c__law_due_of (T : Txt K mg a) : Cl P w K mg base 4 "_law_due_of" P__law_due_of (sp__law_due_of K) [] :=
  T.d__law_due_of.cl sc__law_due_of (fun vs H Q E h => by obtain ⟨F, u, v, s, t, sg, rfl, _⟩ := h; rfl) fun f cdv A outer s H vs Q E hr h => by
    obtain ⟨F, u, v, s, t, sg, rfl, ⟨p1, u1, w1, rfl, hp1, hr1, hd1⟩, ⟨p2, u2, w2, rfl, hp2, hr2, hd2⟩, o, hl, hl1, hf, k⟩ := h
    refine ⟨_, ((pss_cons (ps_if (pt_cmpR op_in_str (pv 2) pe_str (by rfl))
 (pss_cons (ps_if (pt_cmpR (op_neD hr.units) (pe_ix ix_tup (pv 0) pe_int (fun _ _ => rfl)) (pe_ix ix_tup (pv 1) pe_int (fun _ _ => rfl)) (nomark _))
 (pss_one (ps_ret (pe_tup (pa_cons pe_str (pa_cons (pe_ix ix_tup (pv 0) pe_int (fun _ _ => rfl)) (pa_cons (pe_ix ix_tup (pv 1) pe_int (fun _ _ => rfl)) pa_nil))))))
 pss_nil)
 (pss_cons (ps_if (pt_cmpR op_eq (pv 2) pe_str (nomark _))
 (pss_one (ps_ret (pe_tup (pa_cons pe_str (pa_cons (pe_op op_sub (pe_callTy call_int1 (by rfl) T.n_int (by decide +kernel) (pa_cons (pe_f (c__law_less T) (takes_of rfl rfl rfl rfl) hr (by decide) rfl (pa_cons (pe_ix ix_tup (pv 1) pe_int (fun _ _ => rfl)) (pa_cons (pe_ix ix_tup (pv 0) pe_int (fun _ _ => rfl)) pa_nil))) pa_nil)) (pe_callTy call_int1 (by rfl) T.n_int (by decide +kernel) (pa_cons (pe_f (c__law_less T) (takes_of rfl rfl rfl rfl) hr (by decide) rfl (pa_cons (pe_ix ix_tup (pv 0) pe_int (fun _ _ => rfl)) (pa_cons (pe_ix ix_tup (pv 1) pe_int (fun _ _ => rfl)) pa_nil))) pa_nil))) pa_nil)))))
 pss_nil)
 (pss_cons (ps_if (pt_cmpR op_eq (pv 2) pe_str (nomark _))
 (pss_one (ps_ret (pe_tup (pa_cons pe_str (pa_cons (pe_f (c__law_plus T) (takes_of rfl rfl rfl rfl) hr (by decide) rfl (pa_cons (pe_ix ix_tup (pv 0) pe_int (fun _ _ => rfl)) (pa_cons (pe_ix ix_tup (pv 1) pe_int (fun _ _ => rfl)) pa_nil))) (pa_cons (pe_ix ix_tup (pv 0) pe_int (fun _ _ => rfl)) pa_nil))))))
 pss_nil)
 (pss_one (ps_ret (pe_tup (pa_cons pe_str (pa_cons (pe_f (c__law_minus T) (takes_of rfl rfl rfl rfl) hr (by decide) rfl (pa_cons (pe_ix ix_tup (pv 0) pe_int (fun _ _ => rfl)) (pa_cons (pe_ix ix_tup (pv 1) pe_int (fun _ _ => rfl)) pa_nil))) (pa_cons (pe_ix ix_tup (pv 0) pe_int (fun _ _ => rfl)) pa_nil)))))))))
 pss_nil)
 (pss_cons (ps_if (PW.pt (pw_and (pt_cmpR op_eq (pv 2) pe_str (nomark _)) (pw_and1 (pt_cmpR op_eq (pe_ix ix_tup (pe_ix ix_tup (pv 1) pe_int (fun _ _ => rfl)) pe_int (fun _ _ => rfl)) pe_int (nomark _)))))
 (pss_one (ps_ret (pe_tup (pa_cons pe_str (pa_cons (pe_ix ix_tup (pv 0) pe_int (fun _ _ => rfl)) pa_nil)))))
 pss_nil)
 (pss_cons (ps_set (i := 3) sc__law_due_of.nd rfl (Or.inr rfl) (pe_ifExp (pt_cmpR op_eq (pv 2) pe_str (nomark _)) (pe_un un_neg pe_int) pe_int))
 (pss_cons (ps_set (i := 4) sc__law_due_of.nd rfl (Or.inl rfl) (pe_callTy call_tuple_of (by rfl) T.n_tuple (by decide +kernel) (pa_cons (pe_lc (own := [("_law_k", 5)]) (g := (gName 5)) (by rfl) sc__law_due_of.nd (pi_range1 (by rfl) T.n_range (pa_cons (pe_callB call_len_seq (by rfl) T.n_len (by decide +kernel) (pa_cons (pe_ix ix_tup (pv 0) pe_int (fun _ _ => rfl)) pa_nil)) pa_nil)) (blkOk_by (own := [("_law_k", 5)]) (N := N__law_due_of) (sc := defScope s__law_due_of) (by decide +kernel)) (fun _ _ _ _ _ => (pg_name (i := 5) sc__law_due_of.nd rfl (Or.inl rfl) (hf := .inr rfl))) (fun _ _ _ _ _ => pts_nil) (fun _ _ _ _ _ => (pe_op op_add (pe_ix (r := rIxT K) ix_tup (pe_ix (r := rIxT K) ix_tup (pv 0) pe_int (fun _ _ => rfl)) (pv 5) (fun _ _ => rfl)) (pe_op op_mul (pv 3) (pe_ix (r := rIxT K) ix_tup (pe_ix (r := rIxT K) ix_tup (pv 1) pe_int (fun _ _ => rfl)) (pv 5) (fun _ _ => rfl)))))) pa_nil)))
 (pss_cons (ps_if (pt_val (pe_f (c__law_high T) (takes_of rfl rfl rfl rfl) hr (by decide) rfl (pa_cons (pv 4) pa_nil)))
 (pss_one (ps_ret (pe_tup (pa_cons pe_str (pa_cons (pv 4) pa_nil)))))
 pss_nil)
 (pss_cons (ps_if (pt_cmpR op_eq (pv 2) pe_str (nomark _))
 (pss_one (ps_ret (pe_tup (pa_cons pe_str (pa_cons (pe_f (c__law_over T) (takes_of rfl rfl rfl rfl) hr (by decide) rfl (pa_cons (pe_ix ix_tup (pv 0) pe_int (fun _ _ => rfl)) (pa_cons (pe_ix ix_tup (pv 1) pe_int (fun _ _ => rfl)) pa_nil))) (pa_cons (pv 4) pa_nil))))))
 pss_nil)
 (pss_one (ps_ret (pe_tup (pa_cons pe_str (pa_cons (pe_f (c__law_times T) (takes_of rfl rfl rfl rfl) hr (by decide) rfl (pa_cons (pe_ix ix_tup (pv 0) pe_int (fun _ _ => rfl)) (pa_cons (pe_ix ix_tup (pv 1) pe_int (fun _ _ => rfl)) pa_nil))) (pa_cons (pv 4) pa_nil))))))))))))), ?_⟩
    cases sg
    · -- add
      refine ⟨_, rfl, _, _, rfl, rfl, _, rfl, iteY (by decide +kernel) ?_⟩
      refine ⟨_, rfl, p1, _, _, _, rfl, rfl, upT hf hp1, at1, _, rfl, p2, _, _, _, rfl, rfl, upT hf hp2, at1, _, _, (hd1.up hf).dp, (hd2.up hf).dp, shaped_ints _, shaped_ints _, _, rfl, ?_⟩
      rw [eqv_ints]
      by_cases e : s.2 = t.2
      · refine iteN (by simp [e]) ?_
        have hd : dueOf s t .add = _ := if_pos e
        rw [hd] at k
        refine ⟨_, rfl, rfl, _, rfl, iteN (by decide +kernel) ?_⟩
        refine ⟨_, rfl, rfl, _, rfl, iteY (by decide +kernel) ?_⟩
        refine ⟨_, rfl, p1, _, _, _, rfl, rfl, upT hf hp1, at0, _, rfl, p2, _, _, _, rfl, rfl, upT hf hp2, at0, F, _, _, s.1, t.1, rfl, hr1, hr2, o.a, o.b, o.c, o.d, o.e, o.f, hf, fun F1 H1 z s1 hz => ?_⟩
        refine ⟨_, rfl, p1, _, _, _, rfl, rfl, upT s1.fh (upT s1.ff hp1), at1, by show 3 ≤ sizeLine; decide, fun p hp => ?_⟩
        have s2 := s1.newP (o := .tup [.str "is", z, w1]) hp
        have e2 := same_new (o := .tup [.str "is", z, w1]) (s1.fh.free hp)
        exact k _ _ _ s2 ⟨p, z, w1, rfl, sq_new, hz.up e2, (hd1.up s1.ff).up e2⟩
      · refine iteY (by simp [e]) ?_
        have hd : dueOf s t .add = _ := if_neg e
        rw [hd] at k
        refine ⟨_, rfl, p1, _, _, _, rfl, rfl, upT hf hp1, at1, _, rfl, p2, _, _, _, rfl, rfl, upT hf hp2, at1, by show 3 ≤ sizeLine; decide, fun p hp => ?_⟩
        have s2 := stp_new (o := .tup [.str "mixed", w1, w2]) hf hp
        exact k _ _ _ s2 ⟨p, w1, w2, rfl, sq_new, hd1.up s2.ff, hd2.up s2.ff⟩
    · -- sub
      refine ⟨_, rfl, _, _, rfl, rfl, _, rfl, iteY (by decide +kernel) ?_⟩
      refine ⟨_, rfl, p1, _, _, _, rfl, rfl, upT hf hp1, at1, _, rfl, p2, _, _, _, rfl, rfl, upT hf hp2, at1, _, _, (hd1.up hf).dp, (hd2.up hf).dp, shaped_ints _, shaped_ints _, _, rfl, ?_⟩
      rw [eqv_ints]
      by_cases e : s.2 = t.2
      · refine iteN (by simp [e]) ?_
        have hd : dueOf s t .sub = _ := if_pos e
        rw [hd] at k
        refine ⟨_, rfl, rfl, _, rfl, iteN (by decide +kernel) ?_⟩
        refine ⟨_, rfl, rfl, _, rfl, iteN (by decide +kernel) ?_⟩
        refine ⟨_, rfl, p1, _, _, _, rfl, rfl, upT hf hp1, at0, _, rfl, p2, _, _, _, rfl, rfl, upT hf hp2, at0, F, _, _, s.1, t.1, rfl, hr1, hr2, o.a, o.b, o.c, o.d, o.e, o.f, hf, fun F1 H1 z s1 hz => ?_⟩
        refine ⟨_, rfl, p1, _, _, _, rfl, rfl, upT s1.fh (upT s1.ff hp1), at1, by show 3 ≤ sizeLine; decide, fun p hp => ?_⟩
        have s2 := s1.newP (o := .tup [.str "is", z, w1]) hp
        have e2 := same_new (o := .tup [.str "is", z, w1]) (s1.fh.free hp)
        exact k _ _ _ s2 ⟨p, z, w1, rfl, sq_new, hz.up e2, (hd1.up s1.ff).up e2⟩
      · refine iteY (by simp [e]) ?_
        have hd : dueOf s t .sub = _ := if_neg e
        rw [hd] at k
        refine ⟨_, rfl, p1, _, _, _, rfl, rfl, upT hf hp1, at1, _, rfl, p2, _, _, _, rfl, rfl, upT hf hp2, at1, by show 3 ≤ sizeLine; decide, fun p hp => ?_⟩
        have s2 := stp_new (o := .tup [.str "mixed", w1, w2]) hf hp
        exact k _ _ _ s2 ⟨p, w1, w2, rfl, sq_new, hd1.up s2.ff, hd2.up s2.ff⟩
    · -- mul
      refine ⟨_, rfl, _, _, rfl, rfl, _, rfl, iteN (by decide +kernel) ?_⟩
      refine ⟨_, rfl, rfl, _, rfl, iteN (by decide +kernel) (iteF ?_)⟩
      refine ⟨_, rfl, rfl, _, rfl, iteN (by decide +kernel) ?_⟩
      obtain ⟨pa, rfl, ha⟩ := hd1
      obtain ⟨pb, rfl, hb⟩ := hd2
      refine ⟨_, rfl, p1, _, _, _, rfl, rfl, upT hf hp1, at1, pa, _, rfl, .inr (upT hf ha), _, rfl, by omega, by rw [List.length_map]; omega, fun D hD => ?_⟩
      refine lcM memP walk_range hf trivial hD (fun i _ y => ∃ x z, s.2[i]? = some x ∧ t.2[i]? = some z ∧ y = V.int (x + 1 * z)) (fun _ _ _ _ _ z => z) (by rw [List.length_map]; omega) (fun F' H' e1 e2 => trivial) ?_ ?_
      · rintro i x F' H' H'' Kt Kn hi s1 _ ⟨rfl, rfl⟩ kk
        have hi : i < s.2.length := by rw [List.length_map] at hi; omega
        have x1 : s.2[i]? = some _ := List.getElem?_eq_getElem hi
        have x2 : t.2[i]? = some _ := List.getElem?_eq_getElem (by omega)
        have f1 := s1.ff.trans s1.fh
        refine ⟨rfl, lc_yes ⟨_, rfl, p1, _, _, _, rfl, rfl, upT f1 hp1, at1, _, rfl, pa, _, _, _, rfl, rfl, upT f1 ha, getz x1, _, rfl, _, rfl, p2, _, _, _, rfl, rfl, upT f1 hp2, at1, _, rfl, pb, _, _, _, rfl, rfl, upT f1 hb, getz x2, _, _, rfl, rfl, .inl ⟨by decide, by decide⟩, _, _, rfl, rfl, ?_⟩⟩
        exact kk _ _ _ (.refl s1.fh) trivial ⟨_, _, x1, x2, rfl⟩
      · intro F' H' ys s1 _ hD' hy hr'
        have hy : ys.length = s.2.length := by rw [List.length_map] at hy; omega
        obtain rfl := zip_of hl hy hr'
        have zz : List.zipWith (fun x z => x + 1 * z) s.2 t.2 = zAdd s.2 t.2 := by
          unfold zAdd
          congr 1
          funext x z
          omega
        rw [zz] at hD'
        refine ⟨D, _, rfl, .inl ⟨SqL.of (s1.fh D _ hD'), fun l hl' => ?_⟩⟩
        have s2 := s1.newP (o := .tup ((zAdd s.2 t.2).map V.int)) hl'
        have dl : Dm K (upd F' l (.tup ((zAdd s.2 t.2).map V.int))) (.ref l) (zAdd s.2 t.2) := ⟨l, rfl, sq_new⟩
        generalize upd F' l (.tup ((zAdd s.2 t.2).map V.int)) = F2 at s2 dl
        generalize upd H' l (.tup ((zAdd s.2 t.2).map V.int)) = H2 at s2 
        refine ⟨_, rfl, _, _, rfl, dl.up s2.fh, _, rfl, ?_⟩
        cases e : okD (zAdd s.2 t.2) with
        | false =>
          refine iteT ?_
          have hd : dueOf s t .mul = .high (zAdd s.2 t.2) := by unfold dueOf; exact if_neg (by rw [e]; exact fun z => nomatch z)
          rw [hd] at k
          refine ⟨_, rfl, by show 2 ≤ sizeLine; decide, fun p hp => ?_⟩
          have s3 := s2.newP (o := .tup [.str "high", .ref l]) hp
          have e3 := same_new (o := .tup [.str "high", .ref l]) (s2.fh.free hp)
          exact k _ _ _ s3 ⟨p, _, rfl, sq_new, dl.up e3⟩
        | true =>
          refine iteF ?_
          have hd : dueOf s t .mul = .amt (rTimes s.1 t.1) (zAdd s.2 t.2) := by unfold dueOf; exact if_pos e
          rw [hd] at k
          refine ⟨_, rfl, rfl, _, rfl, iteN (by decide +kernel) ?_⟩
          have f2 := s2.ff.trans s2.fh
          refine ⟨_, rfl, p1, _, _, _, rfl, rfl, upT f2 hp1, at0, _, rfl, p2, _, _, _, rfl, rfl, upT f2 hp2, at0, F2, _, _, s.1, t.1, rfl, hr1.up s2.ff, hr2.up s2.ff, o.a, o.b, o.c, o.d, o.e, o.f, s2.fh, fun F3 H3 z s3 hz => ?_⟩
          refine ⟨_, rfl, by show 3 ≤ sizeLine; decide, fun p hp => ?_⟩
          have s4 := (s2.transP s3).newP (o := .tup [.str "is", z, .ref l]) hp
          have e4 := same_new (o := .tup [.str "is", z, .ref l]) (s3.fh.free hp)
          exact k _ _ _ s4 ⟨p, z, _, rfl, sq_new, hz.up e4, (dl.up s3.ff).up e4⟩
    · -- div
      refine ⟨_, rfl, _, _, rfl, rfl, _, rfl, iteN (by decide +kernel) ?_⟩
      obtain ⟨px, hpx, hqx⟩ := hr2.up hf
      refine ⟨_, rfl, rfl, _, rfl, iteY (by decide +kernel) ⟨_, rfl, p2, _, _, _, rfl, rfl, upT hf hp2, at0, px, _, _, _, hpx, rfl, hqx, at0, rfl, _, rfl, ?_⟩⟩
      by_cases e0 : t.1.1 = 0
      · refine iteY (vint_eq e0) ?_
        have hd : dueOf s t .div = _ := if_pos e0
        rw [hd] at k
        refine ⟨_, rfl, p1, _, _, _, rfl, rfl, upT hf hp1, at0, by show 2 ≤ sizeLine; decide, fun p hp => ?_⟩
        have s2 := stp_new (o := .tup [.str "nought", u1]) hf hp
        exact k _ _ _ s2 ⟨p, u1, rfl, sq_new, hr1.up s2.ff⟩
      refine iteN (vint_ne e0) ?_
      refine ⟨_, rfl, rfl, _, rfl, iteY (by decide +kernel) ⟨_, rfl, ?_⟩⟩
      obtain ⟨pa, rfl, ha⟩ := hd1
      obtain ⟨pb, rfl, hb⟩ := hd2
      refine ⟨_, rfl, p1, _, _, _, rfl, rfl, upT hf hp1, at1, pa, _, rfl, .inr (upT hf ha), _, rfl, by omega, by rw [List.length_map]; omega, fun D hD => ?_⟩
      refine lcM memP walk_range hf trivial hD (fun i _ y => ∃ x z, s.2[i]? = some x ∧ t.2[i]? = some z ∧ y = V.int (x + -1 * z)) (fun _ _ _ _ _ z => z) (by rw [List.length_map]; omega) (fun F' H' e1 e2 => trivial) ?_ ?_
      · rintro i x F' H' H'' Kt Kn hi s1 _ ⟨rfl, rfl⟩ kk
        have hi : i < s.2.length := by rw [List.length_map] at hi; omega
        have x1 : s.2[i]? = some _ := List.getElem?_eq_getElem hi
        have x2 : t.2[i]? = some _ := List.getElem?_eq_getElem (by omega)
        have f1 := s1.ff.trans s1.fh
        refine ⟨rfl, lc_yes ⟨_, rfl, p1, _, _, _, rfl, rfl, upT f1 hp1, at1, _, rfl, pa, _, _, _, rfl, rfl, upT f1 ha, getz x1, _, rfl, _, rfl, p2, _, _, _, rfl, rfl, upT f1 hp2, at1, _, rfl, pb, _, _, _, rfl, rfl, upT f1 hb, getz x2, _, _, rfl, rfl, .inl ⟨by decide, by decide⟩, _, _, rfl, rfl, ?_⟩⟩
        exact kk _ _ _ (.refl s1.fh) trivial ⟨_, _, x1, x2, rfl⟩
      · intro F' H' ys s1 _ hD' hy hr'
        have hy : ys.length = s.2.length := by rw [List.length_map] at hy; omega
        obtain rfl := zip_of hl hy hr'
        have zz : List.zipWith (fun x z => x + -1 * z) s.2 t.2 = zSub s.2 t.2 := by
          unfold zSub
          congr 1
          funext x z
          omega
        rw [zz] at hD'
        refine ⟨D, _, rfl, .inl ⟨SqL.of (s1.fh D _ hD'), fun l hl' => ?_⟩⟩
        have s2 := s1.newP (o := .tup ((zSub s.2 t.2).map V.int)) hl'
        have dl : Dm K (upd F' l (.tup ((zSub s.2 t.2).map V.int))) (.ref l) (zSub s.2 t.2) := ⟨l, rfl, sq_new⟩
        generalize upd F' l (.tup ((zSub s.2 t.2).map V.int)) = F2 at s2 dl
        generalize upd H' l (.tup ((zSub s.2 t.2).map V.int)) = H2 at s2 
        refine ⟨_, rfl, _, _, rfl, dl.up s2.fh, _, rfl, ?_⟩
        cases e : okD (zSub s.2 t.2) with
        | false =>
          refine iteT ?_
          have hd : dueOf s t .div = .high (zSub s.2 t.2) := by unfold dueOf; rw [if_neg e0]; exact if_neg (by rw [e]; exact fun z => nomatch z)
          rw [hd] at k
          refine ⟨_, rfl, by show 2 ≤ sizeLine; decide, fun p hp => ?_⟩
          have s3 := s2.newP (o := .tup [.str "high", .ref l]) hp
          have e3 := same_new (o := .tup [.str "high", .ref l]) (s2.fh.free hp)
          exact k _ _ _ s3 ⟨p, _, rfl, sq_new, dl.up e3⟩
        | true =>
          refine iteF ?_
          have hd : dueOf s t .div = .amt (rOver s.1 t.1) (zSub s.2 t.2) := by unfold dueOf; rw [if_neg e0]; exact if_pos e
          rw [hd] at k
          refine ⟨_, rfl, rfl, _, rfl, iteY (by decide +kernel) ?_⟩
          have f2 := s2.ff.trans s2.fh
          refine ⟨_, rfl, p1, _, _, _, rfl, rfl, upT f2 hp1, at0, _, rfl, p2, _, _, _, rfl, rfl, upT f2 hp2, at0, F2, _, _, s.1, t.1, rfl, hr1.up s2.ff, hr2.up s2.ff, o.a, o.b, o.c, o.d, o.e, o.f, e0, s2.fh, fun F3 H3 z s3 hz => ?_⟩
          refine ⟨_, rfl, by show 3 ≤ sizeLine; decide, fun p hp => ?_⟩
          have s4 := (s2.transP s3).newP (o := .tup [.str "is", z, .ref l]) hp
          have e4 := same_new (o := .tup [.str "is", z, .ref l]) (s3.fh.free hp)
          exact k _ _ _ s4 ⟨p, z, _, rfl, sq_new, hz.up e4, (dl.up s3.ff).up e4⟩
    · -- cmp
      refine ⟨_, rfl, _, _, rfl, rfl, _, rfl, iteY (by decide +kernel) ?_⟩
      refine ⟨_, rfl, p1, _, _, _, rfl, rfl, upT hf hp1, at1, _, rfl, p2, _, _, _, rfl, rfl, upT hf hp2, at1, _, _, (hd1.up hf).dp, (hd2.up hf).dp, shaped_ints _, shaped_ints _, _, rfl, ?_⟩
      rw [eqv_ints]
      by_cases e : s.2 = t.2
      · refine iteN (by simp [e]) ?_
        have hd : dueOf s t .cmp = _ := if_pos e
        rw [hd] at k
        refine ⟨_, rfl, rfl, _, rfl, iteY (by decide +kernel) ?_⟩
        refine ⟨_, rfl, p2, _, _, _, rfl, rfl, upT hf hp2, at0, _, rfl, p1, _, _, _, rfl, rfl, upT hf hp1, at0, _, _, t.1, s.1, rfl, hr2.up hf, hr1.up hf, o.c, o.d, o.a, o.b, .inr ⟨_, rfl, ?_⟩⟩
        refine ⟨_, rfl, p1, _, _, _, rfl, rfl, upT hf hp1, at0, _, rfl, p2, _, _, _, rfl, rfl, upT hf hp2, at0, _, _, s.1, t.1, rfl, hr1.up hf, hr2.up hf, o.a, o.b, o.c, o.d, .inr ⟨_, rfl, _, _, rfl, rfl, ?_⟩⟩
        refine ⟨by show 2 ≤ sizeLine; decide, fun p hp => ?_⟩
        exact k _ _ _ (stp_new hf hp) ⟨p, rfl, by rw [← cmp_is]; exact sq_new⟩
      · refine iteY (by simp [e]) ?_
        have hd : dueOf s t .cmp = _ := if_neg e
        rw [hd] at k
        refine ⟨_, rfl, p1, _, _, _, rfl, rfl, upT hf hp1, at1, _, rfl, p2, _, _, _, rfl, rfl, upT hf hp2, at1, by show 3 ≤ sizeLine; decide, fun p hp => ?_⟩
        have s2 := stp_new (o := .tup [.str "mixed", w1, w2]) hf hp
        exact k _ _ _ s2 ⟨p, w1, w2, rfl, sq_new, hd1.up s2.ff, hd2.up s2.ff⟩
end
end K04

set_option Elab.async false
set_option linter.all false
set_option maxRecDepth 100000
set_option maxHeartbeats 4000000
namespace K04
open PySem PySem.Spec PyProof.Rows L2 Ew
theorem eqvAll_intT : ∀ l : List (List Int), PyData.eqvAll (l.map intT) (l.map intT) = true
  | [] => by rw [List.map_nil, PyData.eqvAll]
  | d :: l => by rw [List.map_cons, PyData.eqvAll, eqv_ints, eqvAll_intT l, decide_eq_true rfl]; rfl
theorem eqv_tag {nm : Str} {l : List (List Int)} : PyData.eqv (.tuple (.str nm :: l.map intT)) (.tuple (.str nm :: l.map intT)) = true := by
  rw [PyData.eqv, PyData.eqvAll, PyData.eqv, eqvAll_intT, beq_self_eq_true]
  rfl
theorem fl_tag {nm : Str} {l : List (List Int)} (h : PyData.strOk nm = true) : SeqAt.shaped (.tuple (.str nm :: l.map intT)) = true :=
  (Fl.tup (.cons (.str h) (FlA.all fun d hd => by obtain ⟨x, _, rfl⟩ := List.mem_map.mp hd; exact fl_ints x)) : Fl 2 _).sh (by decide)
section
variable {P : Program} {w : World} {K : PySem.W.Frag} {mg : Str → Option Value} {base : Heap} {a : Ad}
def GdD : Due → Prop
  | .amt r _ => 0 < r.2 ∧ Nat.gcd r.1.natAbs r.2.natAbs = 1
  | _ => True
def sp__law_right_of (K : PySem.W.Frag) (a : Ad) : Sp := fun vs H Q _ => ∃ (u v : V) (d : Due), vs = [u, v] ∧ ToldAt K a.Amount H u d ∧ DueAt K H v d ∧ GdD d ∧ ∀ H', Same H H' → Q (.bl true) H'
theorem c__law_right_of (T : Txt K mg a) : Cl P w K mg base 4 "_law_right_of" P__law_right_of (sp__law_right_of K a) [] :=
  T.d__law_right_of.cl sc__law_right_of (fun vs H Q E h => by obtain ⟨u, v, d, rfl, _⟩ := h; rfl) fun f cdv A outer s H vs Q E hr h => by
    obtain ⟨u, v, d, rfl, ht, hd, hg, k⟩ := h
    refine ⟨_, ((pss_cons (ps_if (pt_cmpR op_ne (pe_ix ix_tup (pv 0) pe_int (fun _ _ => rfl)) (pe_ix ix_tup (pv 1) pe_int (fun _ _ => rfl)) (nomark _))
 (pss_one (ps_ret pe_bl))
 pss_nil)
 (pss_cons (ps_if (PW.pt (pw_and (pt_cmpR op_eq (pe_ix ix_tup (pv 1) pe_int (fun _ _ => rfl)) pe_str (nomark _)) (pw_and1 (pt_cmpR op_eq (pe_callB call_len_seq (by rfl) T.n_len (by decide +kernel) (pa_cons (pv 1) pa_nil)) pe_int (nomark _)))))
 (pss_one (ps_ret (pe_f (c__law_is_amount T) (takes_of rfl rfl rfl rfl) hr (by decide) rfl (pa_cons (pe_ix ix_tup (pv 0) pe_int (fun _ _ => rfl)) (pa_cons (pe_ix ix_tup (pv 1) pe_int (fun _ _ => rfl)) (pa_cons (pe_ix ix_tup (pv 1) pe_int (fun _ _ => rfl)) pa_nil))))))
 pss_nil)
 (pss_cons (ps_if (pt_cmpR op_eq (pe_ix ix_tup (pv 1) pe_int (fun _ _ => rfl)) pe_str (nomark _))
 (pss_one (ps_ret (pe_and (pe_f (c__law_integer T) (takes_of rfl rfl rfl rfl) hr (by decide) rfl (pa_cons (pe_ix ix_tup (pv 0) pe_int (fun _ _ => rfl)) pa_nil)) (pe_one (pe_cmpR (op_eqD hr.units) (pv 0) (pv 1) (nomark _))))))
 pss_nil)
 (pss_cons (ps_for (passes_of rfl) rfl (pi_tup (pe_slice sl_tup (pv 0) (po_some pe_int) po_none)) (pg_name (i := 2) sc__law_right_of.nd rfl (Or.inl rfl))
 (pss_one (ps_if (pt_not (pt_val (pe_f (c__law_plain T) (takes_of rfl rfl rfl rfl) hr (by decide) rfl (pa_cons (pv 2) pa_nil))))
 (pss_one (ps_ret pe_bl))
 pss_nil)))
 (pss_one (ps_ret (pe_cmpR (op_eqD hr.units) (pv 0) (pv 1) (nomark _))))))))), ?_⟩
    cases d
    · -- mixed
      obtain ⟨p1, u1, w1, rfl, h1, hu1, hw1⟩ := ht
      obtain ⟨p2, u1', w1', rfl, h2, hu1', hw1'⟩ := hd
      refine ⟨_, rfl, p1, _, _, _, rfl, rfl, h1, rfl, _, rfl, p2, _, _, _, rfl, rfl, h2, rfl, rfl, _, rfl, iteN (by simp) ?_⟩
      refine ⟨_, rfl, p2, _, _, _, rfl, rfl, h2, rfl, rfl, _, rfl, iteN (by decide +kernel) (iteF ?_)⟩
      refine ⟨_, rfl, p2, _, _, _, rfl, rfl, h2, rfl, rfl, _, rfl, iteN (by decide +kernel) ?_⟩
      refine ⟨_, rfl, _, rfl, p1, _, rfl, h1, (by show ¬ (1 = 0 ∧ _); omega), fun q hq => ?_⟩
      have e1 := same_new (o := .tup [u1, w1]) hq
      have hq1 : SqT K (upd H q (.tup [u1, w1])) q [u1, w1] := sq_new
      refine ⟨q, rfl, ⟨_, hq1⟩, ?_⟩
      refine for_tup (xs := [u1, w1]) (fun i σ' H' => upd H q (.tup [u1, w1]) = H' ∧ ∃ c : Option V, σ' = [some (.ref p1), some (.ref p2), c]) ⟨rfl, none, rfl⟩ (fun i σ' H' _ z => by rw [← z.1]; exact hq1) ?_ ?_
      · rintro i x _ _ hx ⟨rfl, c, rfl⟩
        have hx : ∃ es : List Int, Dm K H x es := by
          match i, hx with
          | 0, e => cases e; exact ⟨_, hu1⟩
          | 1, e => cases e; exact ⟨_, hw1⟩
        obtain ⟨es, hx⟩ := hx
        exact ⟨_, rfl, _, es, rfl, hx.up e1, true, rfl, iteF ⟨rfl, _, rfl⟩⟩
      · rintro _ _ ⟨rfl, c, rfl⟩
        refine ⟨_, rfl, _, rfl, .tuple (.str "mixed" :: [_, _].map intT), .tuple (.str "mixed" :: [_, _].map intT), .tup (upT e1 h1) (.cons (.str _) (.cons (Dm.up hu1 e1).dp (.cons (Dm.up hw1 e1).dp .nil))), .tup (upT e1 h2) (.cons (.str _) (.cons (Dm.up hu1' e1).dp (.cons (Dm.up hw1' e1).dp .nil))), fl_tag (by decide +kernel), fl_tag (by decide +kernel), ?_⟩
        rw [eqv_tag]
        exact k _ e1
    · -- cmp
      obtain ⟨p1, rfl, h1⟩ := ht
      obtain ⟨p2, rfl, h2⟩ := hd
      refine ⟨_, rfl, p1, _, _, _, rfl, rfl, h1, rfl, _, rfl, p2, _, _, _, rfl, rfl, h2, rfl, rfl, _, rfl, iteN (by simp) ?_⟩
      refine ⟨_, rfl, p2, _, _, _, rfl, rfl, h2, rfl, rfl, _, rfl, iteY (by decide +kernel) ⟨_, rfl, p2, _, rfl, .inr h2, rfl, _, rfl, iteF ?_⟩⟩
      refine ⟨_, rfl, p2, _, _, _, rfl, rfl, h2, rfl, rfl, _, rfl, iteY (by decide +kernel) ?_⟩
      refine ⟨_, rfl, p1, _, _, _, rfl, rfl, h1, rfl, _, rfl, true, rfl, iteT ?_⟩
      refine ⟨_, rfl, _, rfl, .tuple [.str "is", .int _], .tuple [.str "is", .int _], .tup h1 (.cons (.str _) (.cons (.int _) .nil)), .tup h2 (.cons (.str _) (.cons (.int _) .nil)), (Fl.tup (.cons (.str (by decide +kernel)) (.cons .int .nil)) : Fl 1 _).sh (by decide), (Fl.tup (.cons (.str (by decide +kernel)) (.cons .int .nil)) : Fl 1 _).sh (by decide), ?_⟩
      rw [PyData.eqv, PyData.eqvAll, PyData.eqv, PyData.eqvAll, PyData.eqv, PyData.eqvAll, beq_self_eq_true, beq_self_eq_true]
      exact k H (Same.refl H)
    · -- amt
      obtain ⟨p1, u1, rfl, h1, hu1⟩ := ht
      obtain ⟨p2, u2, w2, rfl, h2, hu2, hw2⟩ := hd
      refine ⟨_, rfl, p1, _, _, _, rfl, rfl, h1, rfl, _, rfl, p2, _, _, _, rfl, rfl, h2, rfl, rfl, _, rfl, iteN (by simp) ?_⟩
      refine ⟨_, rfl, p2, _, _, _, rfl, rfl, h2, rfl, rfl, _, rfl, iteY (by decide +kernel) ⟨_, rfl, p2, _, rfl, .inr h2, rfl, _, rfl, iteT ?_⟩⟩
      exact ⟨_, rfl, p1, _, _, _, rfl, rfl, h1, rfl, _, rfl, p2, _, _, _, rfl, rfl, h2, rfl, _, rfl, p2, _, _, _, rfl, rfl, h2, rfl, _, _, _, _, _, rfl, hu1, hu2, hw2, hg.1, hg.2, k H (Same.refl H)⟩
    · -- nought
      obtain ⟨p1, u1, rfl, h1, hu1⟩ := ht
      obtain ⟨p2, u1', rfl, h2, hu1'⟩ := hd
      refine ⟨_, rfl, p1, _, _, _, rfl, rfl, h1, rfl, _, rfl, p2, _, _, _, rfl, rfl, h2, rfl, rfl, _, rfl, iteN (by simp) ?_⟩
      refine ⟨_, rfl, p2, _, _, _, rfl, rfl, h2, rfl, rfl, _, rfl, iteN (by decide +kernel) (iteF ?_)⟩
      refine ⟨_, rfl, p2, _, _, _, rfl, rfl, h2, rfl, rfl, _, rfl, iteN (by decide +kernel) ?_⟩
      refine ⟨_, rfl, _, rfl, p1, _, rfl, h1, (by show ¬ (1 = 0 ∧ _); omega), fun q hq => ?_⟩
      have e1 := same_new (o := .tup [u1]) hq
      have hq1 : SqT K (upd H q (.tup [u1])) q [u1] := sq_new
      refine ⟨q, rfl, ⟨_, hq1⟩, ?_⟩
      refine for_tup (xs := [u1]) (fun i σ' H' => upd H q (.tup [u1]) = H' ∧ ∃ c : Option V, σ' = [some (.ref p1), some (.ref p2), c]) ⟨rfl, none, rfl⟩ (fun i σ' H' _ z => by rw [← z.1]; exact hq1) ?_ ?_
      · rintro i x _ _ hx ⟨rfl, c, rfl⟩
        have hx : ∃ es : List Int, Dm K H x es := by
          match i, hx with
          | 0, e => cases e; exact ⟨_, (Rt.dm hu1)⟩
        obtain ⟨es, hx⟩ := hx
        exact ⟨_, rfl, _, es, rfl, hx.up e1, true, rfl, iteF ⟨rfl, _, rfl⟩⟩
      · rintro _ _ ⟨rfl, c, rfl⟩
        refine ⟨_, rfl, _, rfl, .tuple (.str "nought" :: [[_, _]].map intT), .tuple (.str "nought" :: [[_, _]].map intT), .tup (upT e1 h1) (.cons (.str _) (.cons (Dm.up (Rt.dm hu1) e1).dp .nil)), .tup (upT e1 h2) (.cons (.str _) (.cons (Dm.up (Rt.dm hu1') e1).dp .nil)), fl_tag (by decide +kernel), fl_tag (by decide +kernel), ?_⟩
        rw [eqv_tag]
        exact k _ e1
    · -- high
      obtain ⟨p1, u1, rfl, h1, hu1⟩ := ht
      obtain ⟨p2, u1', rfl, h2, hu1'⟩ := hd
      refine ⟨_, rfl, p1, _, _, _, rfl, rfl, h1, rfl, _, rfl, p2, _, _, _, rfl, rfl, h2, rfl, rfl, _, rfl, iteN (by simp) ?_⟩
      refine ⟨_, rfl, p2, _, _, _, rfl, rfl, h2, rfl, rfl, _, rfl, iteN (by decide +kernel) (iteF ?_)⟩
      refine ⟨_, rfl, p2, _, _, _, rfl, rfl, h2, rfl, rfl, _, rfl, iteN (by decide +kernel) ?_⟩
      refine ⟨_, rfl, _, rfl, p1, _, rfl, h1, (by show ¬ (1 = 0 ∧ _); omega), fun q hq => ?_⟩
      have e1 := same_new (o := .tup [u1]) hq
      have hq1 : SqT K (upd H q (.tup [u1])) q [u1] := sq_new
      refine ⟨q, rfl, ⟨_, hq1⟩, ?_⟩
      refine for_tup (xs := [u1]) (fun i σ' H' => upd H q (.tup [u1]) = H' ∧ ∃ c : Option V, σ' = [some (.ref p1), some (.ref p2), c]) ⟨rfl, none, rfl⟩ (fun i σ' H' _ z => by rw [← z.1]; exact hq1) ?_ ?_
      · rintro i x _ _ hx ⟨rfl, c, rfl⟩
        have hx : ∃ es : List Int, Dm K H x es := by
          match i, hx with
          | 0, e => cases e; exact ⟨_, hu1⟩
        obtain ⟨es, hx⟩ := hx
        exact ⟨_, rfl, _, es, rfl, hx.up e1, true, rfl, iteF ⟨rfl, _, rfl⟩⟩
      · rintro _ _ ⟨rfl, c, rfl⟩
        refine ⟨_, rfl, _, rfl, .tuple (.str "high" :: [_].map intT), .tuple (.str "high" :: [_].map intT), .tup (upT e1 h1) (.cons (.str _) (.cons (Dm.up hu1 e1).dp .nil)), .tup (upT e1 h2) (.cons (.str _) (.cons (Dm.up hu1' e1).dp .nil)), fl_tag (by decide +kernel), fl_tag (by decide +kernel), ?_⟩
        rw [eqv_tag]
        exact k _ e1
end
end K04

set_option Elab.async false
set_option linter.all false
set_option maxRecDepth 100000
set_option maxHeartbeats 4000000
namespace K04
open PySem PySem.Spec PyProof.Rows L2 Ew
theorem stp_same {F H H' : Hp} (hf : Same F H) (e : Same H H') : Stp F H F H' := ⟨Same.refl F, hf.trans e, fun x o _ q => e x o q, fun _ n _ => n⟩
section
variable {P : Program} {w : World} {K : PySem.W.Frag} {mg : Str → Option Value} {base : Heap} {a : Ad}
def DoneAt (K : PySem.W.Frag) (C : Addr) (F : Hp) (v : V) : Due → Prop
  | .amt r ds => Amt K C F v r ds
  | .cmp i => v = .int i
  | _ => False
def RaD (K : PySem.W.Frag) (a : Ad) (F H : Hp) (E : XK) : Due → Prop
  | .mixed ds es => Ra F H E a.Mixed fun F' d => ∃ u w, F' d = some (.xd [("right", w), ("left", u)]) ∧ Dm K F' u ds ∧ Dm K F' w es
  | .nought r => Ra F H E a.Nought fun F' d => ∃ x, F' d = some (.xd [("number", x)]) ∧ Rt K F' x r
  | .high ds => Ra F H E a.TooHigh fun F' d => ∃ x, F' d = some (.xd [("dimension", x)]) ∧ Dm K F' x ds
  | _ => True
def sp__law_done (K : PySem.W.Frag) (a : Ad) : Sp := fun vs H Q E => ∃ (F : Hp) (u v : V) (s t : RowS) (sg : Sg), vs = [u, v, .str sg.str] ∧ Amt K a.Amount F u s.1 s.2 ∧ Amt K a.Amount F v t.1 t.2 ∧ Ok2 s.1 t.1 ∧ s.2.length = t.2.length ∧ s.2.length ≤ 100 ∧ Same F H ∧
  (∀ F' H' z, Stp F H F' H' → DoneAt K a.Amount F' z (dueOf s t sg) → Q z H') ∧ RaD K a F H E (dueOf s t sg)
theorem c__law_done (T : Txt K mg a) : Cl P w K mg base 8 "_law_done" P__law_done (sp__law_done K a) [] :=
  T.d__law_done.cl sc__law_done (fun vs H Q E h => by obtain ⟨F, u, v, s, t, sg, rfl, _⟩ := h; rfl) fun f cdv A outer s0 H vs Q E hr h => by
    obtain ⟨F, u, v, s, t, sg, rfl, h1, h2, o, hl, hl1, hf, k1, k2⟩ := h
    obtain ⟨q1, dx1, u1, w1, rfl, e1, f1, hr1, hd1⟩ := h1.f hf
    obtain ⟨q2, dx2, u2, w2, rfl, e2, f2, hr2, hd2⟩ := h2.f hf
    refine ⟨_, ((pss_cons (ps_if (pt_cmpR op_eq (pv 2) pe_str (nomark _))
 (pss_one (ps_ret (pe_bop (b_add T) (takes_of rfl rfl rfl rfl) hr (by decide) (pv 0) (pv 1))))
 pss_nil)
 (pss_cons (ps_if (pt_cmpR op_eq (pv 2) pe_str (nomark _))
 (pss_one (ps_ret (pe_bop (b_sub T) (takes_of rfl rfl rfl rfl) hr (by decide) (pv 0) (pv 1))))
 pss_nil)
 (pss_cons (ps_if (pt_cmpR op_eq (pv 2) pe_str (nomark _))
 (pss_one (ps_ret (pe_bop (b_mul T) (takes_of rfl rfl rfl rfl) hr (by decide) (pv 0) (pv 1))))
 pss_nil)
 (pss_cons (ps_if (pt_cmpR op_eq (pv 2) pe_str (nomark _))
 (pss_one (ps_ret (pe_bop (b_div T) (takes_of rfl rfl rfl rfl) hr (by decide) (pv 0) (pv 1))))
 pss_nil)
 (pss_one (ps_ret (pe_mf (m_Amount_compared T) (takes_of rfl rfl rfl rfl) hr (by decide) (pv 0) (pa_cons (pv 1) pa_nil))))))))), ?_⟩
    have no : ∀ {A B : Prop}, B → (if false = true then A else B) := iteF
    cases sg
    · refine ⟨_, rfl, rfl, _, rfl, iteY (by decide +kernel) ⟨_, rfl, _, rfl, q1, q2, dx1, dx2, _, _, rfl, rfl, e1, e2, F, _, _, s.1, t.1, s.2, t.2, rfl, h1, h2, o, hf, fun e F' H' z s1 hz => ?_, fun e => ?_⟩⟩
      · have hd : dueOf s t .add = _ := if_pos e
        rw [hd] at k1
        exact k1 F' H' z s1 hz
      · have hd : dueOf s t .add = _ := if_neg e
        rw [hd] at k2
        exact k2
    · refine ⟨_, rfl, rfl, _, rfl, iteN (by decide +kernel) ?_⟩
      refine ⟨_, rfl, rfl, _, rfl, iteY (by decide +kernel) ⟨_, rfl, _, rfl, q1, q2, dx1, dx2, _, _, rfl, rfl, e1, e2, F, _, _, s.1, t.1, s.2, t.2, rfl, h1, h2, o, hf, fun e F' H' z s1 hz => ?_, fun e => ?_⟩⟩
      · have hd : dueOf s t .sub = _ := if_pos e
        rw [hd] at k1
        exact k1 F' H' z s1 hz
      · have hd : dueOf s t .sub = _ := if_neg e
        rw [hd] at k2
        exact k2
    · refine ⟨_, rfl, rfl, _, rfl, iteN (by decide +kernel) ?_⟩
      refine ⟨_, rfl, rfl, _, rfl, iteN (by decide +kernel) ?_⟩
      refine ⟨_, rfl, rfl, _, rfl, iteY (by decide +kernel) ⟨_, rfl, _, rfl, q1, q2, dx1, dx2, _, _, rfl, rfl, e1, e2, F, _, _, s.1, t.1, s.2, t.2, rfl, h1, h2, o, hl, hl1, hf, fun e F' H' z s1 hz => ?_, fun e => ?_⟩⟩
      · have hd : dueOf s t .mul = _ := if_pos e
        rw [hd] at k1
        exact k1 F' H' z s1 hz
      · have hd : dueOf s t .mul = _ := if_neg (by rw [e]; exact fun z => nomatch z)
        rw [hd] at k2
        exact k2
    · refine ⟨_, rfl, rfl, _, rfl, iteN (by decide +kernel) ?_⟩
      refine ⟨_, rfl, rfl, _, rfl, iteN (by decide +kernel) ?_⟩
      refine ⟨_, rfl, rfl, _, rfl, iteN (by decide +kernel) ?_⟩
      refine ⟨_, rfl, rfl, _, rfl, iteY (by decide +kernel) ⟨_, rfl, _, rfl, q1, q2, dx1, dx2, _, _, rfl, rfl, e1, e2, F, _, _, s.1, t.1, s.2, t.2, rfl, h1, h2, o, hl, hl1, hf, fun e => ?_, fun e0 e F' H' z s1 hz => ?_, fun e0 e => ?_⟩⟩
      · have hd : dueOf s t .div = _ := if_pos e
        rw [hd] at k2
        exact k2
      · have hd : dueOf s t .div = .amt (rOver s.1 t.1) (zSub s.2 t.2) := by unfold dueOf; rw [if_neg e0]; exact if_pos e
        rw [hd] at k1
        exact k1 F' H' z s1 hz
      · have hd : dueOf s t .div = .high (zSub s.2 t.2) := by unfold dueOf; rw [if_neg e0]; exact if_neg (by rw [e]; exact fun z => nomatch z)
        rw [hd] at k2
        exact k2
    · refine ⟨_, rfl, rfl, _, rfl, iteN (by decide +kernel) ?_⟩
      refine ⟨_, rfl, rfl, _, rfl, iteN (by decide +kernel) ?_⟩
      refine ⟨_, rfl, rfl, _, rfl, iteN (by decide +kernel) ?_⟩
      refine ⟨_, rfl, rfl, _, rfl, iteN (by decide +kernel) ?_⟩
      refine ⟨_, rfl, q1, dx1, _, rfl, e1, af_o (by decide) (by decide), _, rfl, F, _, _, s.1, t.1, s.2, t.2, rfl, h1, h2, o, hf, fun e => ?_, fun e => ?_⟩
      · have hd : dueOf s t .cmp = _ := if_pos e
        rw [hd] at k1
        exact k1 F H _ (.refl hf) rfl
      · have hd : dueOf s t .cmp = _ := if_neg e
        rw [hd] at k2
        exact k2
def sp__law_told_of (K : PySem.W.Frag) (a : Ad) : Sp := fun vs H Q _ => ∃ (F : Hp) (u v : V) (s t : RowS) (sg : Sg), vs = [u, v, .str sg.str] ∧ Amt K a.Amount F u s.1 s.2 ∧ Amt K a.Amount F v t.1 t.2 ∧ Ok2 s.1 t.1 ∧ s.2.length = t.2.length ∧ s.2.length ≤ 100 ∧ Same F H ∧
  ∀ F' H' z, Stp F H F' H' → ToldAt K a.Amount F' z (dueOf s t sg) → Q z H'
theorem c__law_told_of (T : Txt K mg a) : Cl P w K mg base 9 "_law_told_of" P__law_told_of (sp__law_told_of K a) [] :=
  T.d__law_told_of.cl sc__law_told_of (fun vs H Q E h => by obtain ⟨F, u, v, s, t, sg, rfl, _⟩ := h; rfl) fun f cdv A outer s0 H vs Q E hr h => by
    obtain ⟨F, u, v, s, t, sg, rfl, h1, h2, o, hl, hl1, hf, k⟩ := h
    refine ⟨_, ((pss_one (ps_tryN rfl rfl sc__law_told_of.nd (takes_of rfl rfl rfl rfl)
 (fun W pn xe tk tkp => (pss_one (ps_ret (pe_tup (pa_cons pe_str (pa_cons (pe_f (c__law_done T) tk hr (by decide) rfl (pa_cons (pv 0) (pa_cons (pv 1) (pa_cons (pv 2) pa_nil)))) pa_nil))))))
 (.nm (i := 3) rfl rfl ⟨rfl, by decide, .inl T.g_Mixed⟩ (fun xa oe cls d pn hz hf => (pss_cons (ps_if (PW.pt (pw_and (pt_val (pe_callB (call_isErrC T.e_Mixed hz hf) (by rfl) T.n_isinstance (by decide +kernel) (pa_cons (pv 3) (pa_cons (pe_bltn (v := .ty "ValueError") (by rfl) T.n_ValueError (by decide +kernel) rfl) pa_nil)))) (pw_and (pt_val (pe_callB (call_isErrC T.e_Mixed hz hf) (by rfl) T.n_isinstance (by decide +kernel) (pa_cons (pv 3) (pa_cons (pe_glob (v := .ref a.EllError) rfl T.g_EllError rfl) pa_nil)))) (pw_and1 (pt_not (pt_val (pe_callB (call_isErrC T.e_Mixed hz hf) (by rfl) T.n_isinstance (by decide +kernel) (pa_cons (pv 3) (pa_cons (pe_tup (pa_cons (pe_glob (v := .ref a.TooHigh) rfl T.g_TooHigh rfl) (pa_cons (pe_glob (v := .ref a.Nought) rfl T.g_Nought rfl) pa_nil))) pa_nil)))))))))
 (pss_one (ps_ret (pe_tup (pa_cons pe_str (pa_cons (pe_xf T.xf_Mixed T.no_Mixed_left hz hf (pv 3)) (pa_cons (pe_xf T.xf_Mixed T.no_Mixed_right hz hf (pv 3)) pa_nil))))))
 pss_nil)
 (pss_one (ps_ret (pe_tup (pa_cons pe_str (pa_cons pe_non pa_nil))))))) (.nm (i := 3) rfl rfl ⟨rfl, by decide, .inl T.g_TooHigh⟩ (fun xa oe cls d pn hz hf => (pss_cons (ps_if (PW.pt (pw_and (pt_val (pe_callB (call_isErrC T.e_TooHigh hz hf) (by rfl) T.n_isinstance (by decide +kernel) (pa_cons (pv 3) (pa_cons (pe_bltn (v := .ty "ValueError") (by rfl) T.n_ValueError (by decide +kernel) rfl) pa_nil)))) (pw_and (pt_val (pe_callB (call_isErrC T.e_TooHigh hz hf) (by rfl) T.n_isinstance (by decide +kernel) (pa_cons (pv 3) (pa_cons (pe_glob (v := .ref a.EllError) rfl T.g_EllError rfl) pa_nil)))) (pw_and1 (pt_not (pt_val (pe_callB (call_isErrC T.e_TooHigh hz hf) (by rfl) T.n_isinstance (by decide +kernel) (pa_cons (pv 3) (pa_cons (pe_tup (pa_cons (pe_glob (v := .ref a.Mixed) rfl T.g_Mixed rfl) (pa_cons (pe_glob (v := .ref a.Nought) rfl T.g_Nought rfl) pa_nil))) pa_nil)))))))))
 (pss_one (ps_ret (pe_tup (pa_cons pe_str (pa_cons (pe_xf T.xf_TooHigh T.no_TooHigh_dimension hz hf (pv 3)) pa_nil)))))
 pss_nil)
 (pss_one (ps_ret (pe_tup (pa_cons pe_str (pa_cons pe_non pa_nil))))))) (.nm (i := 3) rfl rfl ⟨rfl, by decide, .inl T.g_Nought⟩ (fun xa oe cls d pn hz hf => (pss_cons (ps_if (PW.pt (pw_and (pt_val (pe_callB (call_isErrC T.e_Nought hz hf) (by rfl) T.n_isinstance (by decide +kernel) (pa_cons (pv 3) (pa_cons (pe_bltn (v := .ty "ValueError") (by rfl) T.n_ValueError (by decide +kernel) rfl) pa_nil)))) (pw_and (pt_val (pe_callB (call_isErrC T.e_Nought hz hf) (by rfl) T.n_isinstance (by decide +kernel) (pa_cons (pv 3) (pa_cons (pe_glob (v := .ref a.EllError) rfl T.g_EllError rfl) pa_nil)))) (pw_and1 (pt_not (pt_val (pe_callB (call_isErrC T.e_Nought hz hf) (by rfl) T.n_isinstance (by decide +kernel) (pa_cons (pv 3) (pa_cons (pe_tup (pa_cons (pe_glob (v := .ref a.Mixed) rfl T.g_Mixed rfl) (pa_cons (pe_glob (v := .ref a.TooHigh) rfl T.g_TooHigh rfl) pa_nil))) pa_nil)))))))))
 (pss_one (ps_ret (pe_tup (pa_cons pe_str (pa_cons (pe_xf T.xf_Nought T.no_Nought_number hz hf (pv 3)) pa_nil)))))
 pss_nil)
 (pss_one (ps_ret (pe_tup (pa_cons pe_str (pa_cons pe_non pa_nil))))))) (.pl ⟨rfl, by decide, .inl T.g_EllError⟩ (fun xa oe cls d pn hz hf => (pss_one (ps_ret (pe_tup (pa_cons pe_str (pa_cons pe_non pa_nil)))))) .nil))))))), ?_⟩
    refine ⟨_, rfl, _, rfl, _, rfl, F, _, _, s, t, sg, rfl, h1, h2, o, hl, hl1, hf, fun F' H' z s1 hz => ?_, ?_⟩
    · refine ⟨by show 2 ≤ sizeLine; decide, fun p hp => ?_⟩
      have s2 := s1.newP (o := .tup [.str "is", z]) hp
      have e2 := same_new (o := .tup [.str "is", z]) (s1.fh.free hp)
      refine k _ _ _ s2 ?_
      revert hz
      generalize dueOf s t sg = d
      intro hz
      cases d with
      | amt r ds => exact ⟨p, z, rfl, sq_new, Amt.up hz e2⟩
      | cmp i => cases hz; exact ⟨p, rfl, sq_new⟩
      | mixed ds es => exact hz.elim
      | nought r => exact hz.elim
      | high ds => exact hz.elim
    · revert k
      generalize dueOf s t sg = d
      intro k
      cases d
      · -- mixed
        rintro F1 H1 dd s1 ⟨x1, x2, hdd, hx1, hx2⟩
        have g1 := s1.fh _ _ hdd
        refine ⟨true, T.em_Mixed_Mixed, fun _ xa hxa => ?_, fun z => nomatch z⟩
        refine ⟨_, rfl, rfl, (fun y z => by cases z; exact ⟨_, g1⟩), .inl ⟨_, _, true, rfl, .ty _, T.kv_Mixed, true, rfl, iteT ?_⟩⟩
        refine ⟨_, rfl, rfl, (fun y z => by cases z; exact ⟨_, g1⟩), .inl ⟨_, _, true, rfl, .own _, T.ke_Mixed, true, rfl, iteT ?_⟩⟩
        refine ⟨_, rfl, by show 2 ≤ sizeLine; decide, fun tp htp => ?_⟩
        have s2 := s1.newP (o := .tup [.ref a.TooHigh, .ref a.Nought]) htp
        have e2 := same_new (o := .tup [.ref a.TooHigh, .ref a.Nought]) (s1.fh.free htp)
        have g2 := same_new (o := .tup [.ref a.TooHigh, .ref a.Nought]) htp _ _ g1
        refine ⟨rfl, (fun y z => by cases z; exact ⟨_, g2⟩), .inr ⟨tp, _, _, false, rfl, upd_same, .cons (.own _) (.cons (.own _) .nil), T.kn_Mixed, false, rfl, iteT ?_⟩⟩
        refine ⟨_, rfl, rfl, rfl, dd, _, x1, rfl, g2, rfl, _, rfl, rfl, rfl, dd, _, x2, rfl, g2, rfl, by show 3 ≤ sizeLine; decide, fun p hp => ?_⟩
        have s3 := s2.newP (o := .tup [.str "mixed", x1, x2]) hp
        have e3 := same_new (o := .tup [.str "mixed", x1, x2]) (s2.fh.free hp)
        exact k _ _ _ s3 ⟨p, x1, x2, rfl, sq_new, (Dm.up hx1 e2).up e3, (Dm.up hx2 e2).up e3⟩
      · trivial
      · trivial
      · -- nought
        rintro F1 H1 dd s1 ⟨x1, hdd, hx1⟩
        have g1 := s1.fh _ _ hdd
        refine ⟨false, T.em_Nought_Mixed, fun z => (nomatch z), fun _ => ?_⟩
        refine ⟨false, T.em_Nought_TooHigh, fun z => (nomatch z), fun _ => ?_⟩
        refine ⟨true, T.em_Nought_Nought, fun _ xa hxa => ?_, fun z => nomatch z⟩
        refine ⟨_, rfl, rfl, (fun y z => by cases z; exact ⟨_, g1⟩), .inl ⟨_, _, true, rfl, .ty _, T.kv_Nought, true, rfl, iteT ?_⟩⟩
        refine ⟨_, rfl, rfl, (fun y z => by cases z; exact ⟨_, g1⟩), .inl ⟨_, _, true, rfl, .own _, T.ke_Nought, true, rfl, iteT ?_⟩⟩
        refine ⟨_, rfl, by show 2 ≤ sizeLine; decide, fun tp htp => ?_⟩
        have s2 := s1.newP (o := .tup [.ref a.Mixed, .ref a.TooHigh]) htp
        have e2 := same_new (o := .tup [.ref a.Mixed, .ref a.TooHigh]) (s1.fh.free htp)
        have g2 := same_new (o := .tup [.ref a.Mixed, .ref a.TooHigh]) htp _ _ g1
        refine ⟨rfl, (fun y z => by cases z; exact ⟨_, g2⟩), .inr ⟨tp, _, _, false, rfl, upd_same, .cons (.own _) (.cons (.own _) .nil), T.kn_Nought, false, rfl, iteT ?_⟩⟩
        refine ⟨_, rfl, rfl, rfl, dd, _, x1, rfl, g2, rfl, by show 2 ≤ sizeLine; decide, fun p hp => ?_⟩
        have s3 := s2.newP (o := .tup [.str "nought", x1]) hp
        have e3 := same_new (o := .tup [.str "nought", x1]) (s2.fh.free hp)
        exact k _ _ _ s3 ⟨p, x1, rfl, sq_new, (Rt.up hx1 e2).up e3⟩
      · -- high
        rintro F1 H1 dd s1 ⟨x1, hdd, hx1⟩
        have g1 := s1.fh _ _ hdd
        refine ⟨false, T.em_TooHigh_Mixed, fun z => (nomatch z), fun _ => ?_⟩
        refine ⟨true, T.em_TooHigh_TooHigh, fun _ xa hxa => ?_, fun z => nomatch z⟩
        refine ⟨_, rfl, rfl, (fun y z => by cases z; exact ⟨_, g1⟩), .inl ⟨_, _, true, rfl, .ty _, T.kv_TooHigh, true, rfl, iteT ?_⟩⟩
        refine ⟨_, rfl, rfl, (fun y z => by cases z; exact ⟨_, g1⟩), .inl ⟨_, _, true, rfl, .own _, T.ke_TooHigh, true, rfl, iteT ?_⟩⟩
        refine ⟨_, rfl, by show 2 ≤ sizeLine; decide, fun tp htp => ?_⟩
        have s2 := s1.newP (o := .tup [.ref a.Mixed, .ref a.Nought]) htp
        have e2 := same_new (o := .tup [.ref a.Mixed, .ref a.Nought]) (s1.fh.free htp)
        have g2 := same_new (o := .tup [.ref a.Mixed, .ref a.Nought]) htp _ _ g1
        refine ⟨rfl, (fun y z => by cases z; exact ⟨_, g2⟩), .inr ⟨tp, _, _, false, rfl, upd_same, .cons (.own _) (.cons (.own _) .nil), T.kn_TooHigh, false, rfl, iteT ?_⟩⟩
        refine ⟨_, rfl, rfl, rfl, dd, _, x1, rfl, g2, rfl, by show 2 ≤ sizeLine; decide, fun p hp => ?_⟩
        have s3 := s2.newP (o := .tup [.str "high", x1]) hp
        have e3 := same_new (o := .tup [.str "high", x1]) (s2.fh.free hp)
        exact k _ _ _ s3 ⟨p, x1, rfl, sq_new, (Dm.up hx1 e2).up e3⟩
end
end K04

set_option Elab.async false
set_option linter.all false
set_option maxRecDepth 100000
set_option maxHeartbeats 4000000
namespace K04
open PySem PySem.Spec PyProof.Rows L2 Ew
theorem Gd.ok {b b' : Nat} {r q : Int × Int} (h : Gd b r) (k : Gd b' q) (e : b ≤ 1000) (e' : b' ≤ 1000) : Ok2 r q :=
  ⟨h.a.mono e, h.b.mono e, k.a.mono e', k.b.mono e', fun z => absurd h.p (by rw [z]; decide), fun z => absurd k.p (by rw [z]; decide)⟩
theorem Gd.ne {b : Nat} {r : Int × Int} (h : Gd b r) : r.2 ≠ 0 := fun z => absurd h.p (by rw [z]; decide)
/-- what an operation gives is in order again -/
structure DueOk (n b : Nat) (d : Due) : Prop where
  g : GdD d
  s : ∀ r ds, d = .amt r ds → Gd b r ∧ ds.length = n ∧ okD ds = true
theorem due_ok {b b' n : Nat} {s t : RowS} (h : Gd b s.1) (k : Gd b' t.1) (l : s.2.length = n) (l' : t.2.length = n) (o : okD s.2 = true) (sg : Sg) : DueOk n (b + b' + 1) (dueOf s t sg) := by
  have n1 := h.ne
  have n2 := k.ne
  have nn : s.1.2 * t.1.2 ≠ 0 := Int.mul_ne_zero n1 n2
  have zd : Sz (b + b' + 1) (s.1.2 * t.1.2) := (h.b.mul k.b).mono (by omega)
  have x1 : Sz (b + b') (s.1.1 * t.1.2) := h.a.mul k.b
  have x2 : Sz (b + b') (t.1.1 * s.1.2) := (k.a.mul h.b).mono (by omega)
  have fin : ∀ (r : Int × Int) (ds : List Int), Gd (b + b' + 1) r → ds.length = n → okD ds = true → DueOk n (b + b' + 1) (.amt r ds) := fun r ds g1 g2 g3 => ⟨⟨g1.p, g1.c⟩, fun r' ds' e => by cases e; exact ⟨g1, g2, g3⟩⟩
  have triv : ∀ d : Due, (∀ r ds, d ≠ .amt r ds) → DueOk n (b + b' + 1) d := fun d hd => ⟨by cases d <;> first | trivial | exact absurd rfl (hd _ _), fun r ds e => absurd e (hd r ds)⟩
  cases sg
  · show DueOk _ _ (if s.2 = t.2 then _ else _)
    split
    · exact fin _ _ (Gd.rat (x1.add x2) zd nn) l o
    · exact triv _ fun r ds z => nomatch z
  · show DueOk _ _ (if s.2 = t.2 then _ else _)
    split
    · exact fin _ _ (Gd.rat (x1.sub x2) zd nn) l o
    · exact triv _ fun r ds z => nomatch z
  · show DueOk _ _ (if okD (zAdd s.2 t.2) = true then _ else _)
    split
    · rename_i e
      exact fin _ _ (Gd.rat ((h.a.mul k.a).mono (by omega)) zd nn) (by rw [List.length_zipWith]; omega) e
    · exact triv _ fun r ds z => nomatch z
  · show DueOk _ _ (if t.1.1 = 0 then _ else if okD (zSub s.2 t.2) = true then _ else _)
    split
    · exact triv _ fun r ds z => nomatch z
    · rename_i e0
      split
      · rename_i e
        exact fin _ _ (Gd.rat (x1.mono (by omega)) ((h.b.mul k.a).mono (by omega)) (Int.mul_ne_zero n1 e0)) (by rw [List.length_zipWith]; omega) e
      · exact triv _ fun r ds z => nomatch z
  · show DueOk _ _ (if s.2 = t.2 then _ else _)
    split
    · exact triv _ fun r ds z => nomatch z
    · exact triv _ fun r ds z => nomatch z
theorem signs {i : Nat} {c : Nat} (h : (("+-*/?" : Str).cps)[i]? = some c) : ∃ sg : Sg, (⟨#[c]⟩ : Str) = sg.str := by
  have e : ("+-*/?" : Str).cps = #[43, 45, 42, 47, 63] := by decide +kernel
  rw [e] at h
  match i, h with
  | 0, h => cases h; exact ⟨.add, rfl⟩
  | 1, h => cases h; exact ⟨.sub, rfl⟩
  | 2, h => cases h; exact ⟨.mul, rfl⟩
  | 3, h => cases h; exact ⟨.div, rfl⟩
  | 4, h => cases h; exact ⟨.cmp, rfl⟩
theorem signs4 {i : Nat} {x : V} (h : (("+-*/" : Str).cps.toList.map fun c => V.str ⟨#[c]⟩)[i]? = some x) : ∃ sg : Sg, x = .str sg.str ∧ sg ≠ .cmp := by
  have e : ("+-*/" : Str).cps = #[43, 45, 42, 47] := by decide +kernel
  rw [e] at h
  match i, h with
  | 0, h => cases h; exact ⟨.add, rfl, fun z => nomatch z⟩
  | 1, h => cases h; exact ⟨.sub, rfl, fun z => nomatch z⟩
  | 2, h => cases h; exact ⟨.mul, rfl, fun z => nomatch z⟩
  | 3, h => cases h; exact ⟨.div, rfl, fun z => nomatch z⟩
section
variable {P : Program} {w : World} {K : PySem.W.Frag} {mg : Str → Option Value} {base : Heap} {a : Ad}
def sp__law_right_pair (K : PySem.W.Frag) (a : Ad) : Sp := fun vs H Q _ => ∃ (F : Hp) (u v x y : V) (s t : RowS) (n : Nat), vs = [u, v, x, y] ∧ Amt K a.Amount F u s.1 s.2 ∧ Amt K a.Amount F v t.1 t.2 ∧ Row K F x s ∧ Row K F y t ∧ Gd 80 s.1 ∧ Gd 80 t.1 ∧
  s.2.length = n ∧ t.2.length = n ∧ n ≤ 100 ∧ okD s.2 = true ∧ Same F H ∧ ∀ F' H', Stp F H F' H' → Q (.bl true) H'
theorem c__law_right_pair (T : Txt K mg a) : Cl P w K mg base 10 "_law_right_pair" P__law_right_pair (sp__law_right_pair K a) [] :=
  T.d__law_right_pair.cl sc__law_right_pair (fun vs H Q E h => by obtain ⟨F, u, v, x, y, s, t, n, rfl, _⟩ := h; rfl) fun f cdv A outer s0 H vs Q E hr h => by
    obtain ⟨F, u, v, x, y, s, t, n, rfl, h1, h2, r1, r2, g1, g2, l1, l2, ln, ok, hf, k⟩ := h
    refine ⟨_, ((pss_cons (ps_for (passes_of rfl) rfl (pi_str pe_str) (pg_name (i := 4) sc__law_right_pair.nd rfl (Or.inl rfl))
 (pss_one (ps_if (pt_not (pt_val (pe_f (c__law_right_of T) (takes_of rfl rfl rfl rfl) hr (by decide) rfl (pa_cons (pe_f (c__law_told_of T) (takes_of rfl rfl rfl rfl) hr (by decide) rfl (pa_cons (pv 0) (pa_cons (pv 1) (pa_cons (pv 4) pa_nil)))) (pa_cons (pe_f (c__law_due_of T) (takes_of rfl rfl rfl rfl) hr (by decide) rfl (pa_cons (pv 2) (pa_cons (pv 3) (pa_cons (pv 4) pa_nil)))) pa_nil)))))
 (pss_one (ps_ret pe_bl))
 pss_nil)))
 (pss_cons (ps_set (i := 5) sc__law_right_pair.nd rfl (Or.inl rfl) (pe_cmp (pc_eop (b_eq T) (takes_of rfl rfl rfl rfl) hr (by decide) T.nft (pv 0) (pv 1)) rfl))
 (pss_one (ps_ret (pe_and (pe_callB call_isi (by rfl) T.n_isinstance (by decide +kernel) (pa_cons (pv 5) (pa_cons (pe_bltn (v := .ty "bool") (by rfl) T.n_bool (by decide +kernel) rfl) pa_nil))) (pe_one (pe_cmpR op_eq (pv 5) (pe_cmpR (op_eqD hr.units) (pv 2) (pv 3) (nomark _)) (nomark _))))))))), ?_⟩
    have o := g1.ok g2 (by decide) (by decide)
    refine ⟨_, rfl, ?_⟩
    refine for_it walk_str (fun i σ' H' => ∃ F' c, σ' = [some u, some v, some x, some y, c, none] ∧ Stp F H F' H') ⟨F, none, rfl, .refl hf⟩ (fun _ _ _ _ _ => trivial) ?_ ?_
    · rintro i _ _ H' _ hi ⟨F', c, rfl, s1⟩ ⟨rfl, ch, hc, rfl⟩
      obtain ⟨sg, e⟩ := signs hc
      rw [e]
      refine ⟨_, rfl, _, rfl, _, rfl, F', _, _, s, t, sg, rfl, h1.up s1.ff, h2.up s1.ff, o, by omega, by omega, s1.fh, fun F2 H2 z2 s2 hz2 => ?_⟩
      have f2 := s1.ff.trans s2.ff
      refine ⟨_, rfl, _, rfl, _, rfl, F2, _, _, s, t, sg, rfl, r1.up f2, r2.up f2, o, by omega, by omega, s2.fh, fun F3 H3 z3 s3 hz3 => ?_⟩
      refine ⟨_, _, _, rfl, (hz2.up s3.ff).up s3.fh, hz3.up s3.fh, (due_ok g1 g2 l1 l2 ok sg).g, fun H4 e4 => ⟨true, rfl, iteF ?_⟩⟩
      exact ⟨F3, _, rfl, s1.transP (s2.transP (s3.transP (stp_same s3.fh e4)))⟩
    · rintro _ H' ⟨F', c, rfl, s1⟩
      have f1 := s1.ff.trans s1.fh
      obtain ⟨q1, dx1, u1, w1, rfl, e1, hr1, hd1⟩ := h1.up f1
      obtain ⟨q2, dx2, u2, w2, rfl, e2, hr2, hd2⟩ := h2.up f1
      refine ⟨_, rfl, _, rfl, q1, dx1, _, rfl, e1, ⟨q2, rfl, .inl ⟨_, _, e2⟩⟩, _, _, s.1, s.2, rfl, h1.up f1, .inl ⟨t.1, t.2, h2.up f1, ?_⟩⟩
      refine ⟨_, rfl, _, _, _, _, true, rfl, .ty _, .base (.bl _), kit_ty (by decide +kernel), true, rfl, iteT ?_⟩
      refine ⟨_, rfl, _, rfl, _, rfl, rowD s, rowD t, (r1.up f1).dp, (r2.up f1).dp, (fl_row s : Fl 2 _).sh (by decide), (fl_row t : Fl 2 _).sh (by decide), rfl, ?_⟩
      have ee : decide (V.bl (decide (s.1 = t.1) && decide (s.2 = t.2)) = V.bl (PyData.eqv (rowD s) (rowD t))) = true := by
        rw [eqv_row]
        obtain ⟨a1, a2⟩ := s
        obtain ⟨b1, b2⟩ := t
        by_cases c1 : a1 = b1 <;> by_cases c2 : a2 = b2 <;> simp [c1, c2]
      rw [ee]
      exact k F' H' s1
end
end K04

set_option Elab.async false
set_option linter.all false
set_option maxRecDepth 100000
set_option maxHeartbeats 4000000
namespace K04
open PySem PySem.Spec PyProof.Rows L2 Ew
section
variable {P : Program} {w : World} {K : PySem.W.Frag} {mg : Str → Option Value} {base : Heap} {a : Ad}
/-- amounts, each with its own word -/
def Ams (K : PySem.W.Frag) (C : Addr) (F : Hp) (ys : List V) (ss : List RowS) : Prop := ys.length = ss.length ∧ ∀ (i : Nat) y, ys[i]? = some y → ∃ s, ss[i]? = some s ∧ Amt K C F y s.1 s.2
theorem Ams.up {C : Addr} {F F' : Hp} {ys : List V} {ss : List RowS} (h : Ams K C F ys ss) (e : Same F F') : Ams K C F' ys ss := ⟨h.1, fun i x hx => by
  obtain ⟨s, h1, h2⟩ := h.2 i x hx
  exact ⟨s, h1, h2.up e⟩⟩
theorem due_nc {s t : RowS} {sg : Sg} {i : Int} (h : sg ≠ .cmp) : dueOf s t sg ≠ .cmp i := by
  cases sg
  · unfold dueOf; dsimp only; split <;> exact fun z => nomatch z
  · unfold dueOf; dsimp only; split <;> exact fun z => nomatch z
  · unfold dueOf; dsimp only; split <;> exact fun z => nomatch z
  · unfold dueOf
    dsimp only
    split
    · exact fun z => nomatch z
    · split <;> exact fun z => nomatch z
  · exact absurd rfl h
/-- a pair of an amount and its row -/
def Pr (K : PySem.W.Frag) (C : Addr) (F : Hp) (v : V) (s : RowS) : Prop := ∃ p u x, v = .ref p ∧ SqT K F p [u, x] ∧ Amt K C F u s.1 s.2 ∧ Row K F x s
def sp__law_right_row (K : PySem.W.Frag) (a : Ad) : Sp := fun vs H Q _ => ∃ (F : Hp) (b la lr : Addr) (ys xs : List V) (ss : List RowS) (many : Int), vs = [.ref b, .ref la, .ref lr] ∧ Bag K b F H ∧ Same F H ∧ SqL K F la ys ∧ SqL K F lr xs ∧ Ams K a.Amount F ys ss ∧ Rws K F xs ss ∧
  1 ≤ ss.length ∧ ss.length ≤ 10 ∧ many ≤ 100 ∧ (∀ s ∈ ss, Good many s) ∧ ∀ F' H', Sb b F H F' H' → Bag K b F' H' → Q (.bl true) H'
theorem c__law_right_row (T : Txt K mg a) : Cl P w K mg base 10 "_law_right_row" P__law_right_row (sp__law_right_row K a) [] :=
  T.d__law_right_row.cl sc__law_right_row (fun vs H Q E h => by obtain ⟨F, b, la, lr, ys, xs, ss, many, rfl, _⟩ := h; rfl) fun f cdv A outer s0 H vs Q E hr h => by
    obtain ⟨F, b, la, lr, ys, xs, ss, many, rfl, hB, hf, hla, hlr, ham, hrw, n1, n2, m2, hg, k⟩ := h
    refine ⟨_, ((pss_cons (ps_set (i := 3) sc__law_right_row.nd rfl (Or.inl rfl) (pe_ix ix_list (pv 1) pe_int (fun _ _ => rfl)))
 (pss_cons (ps_set (i := 4) sc__law_right_row.nd rfl (Or.inl rfl) (pe_ix ix_list (pv 2) pe_int (fun _ _ => rfl)))
 (pss_cons (ps_for (passes_of rfl) rfl (pi_range1 (by rfl) T.n_range (pa_cons (pe_op op_add pe_int (pe_f (c__law_pick T) (takes_of rfl rfl rfl rfl) hr (by decide) rfl (pa_cons (pv 0) (pa_cons pe_int pa_nil)))) pa_nil)) (pg_name (i := 5) sc__law_right_row.nd rfl (Or.inl rfl))
 (pss_cons (ps_set (i := 6) sc__law_right_row.nd rfl (Or.inl rfl) (pe_f (c__law_pick T) (takes_of rfl rfl rfl rfl) hr (by decide) rfl (pa_cons (pv 0) (pa_cons (pe_callB call_len_seq (by rfl) T.n_len (by decide +kernel) (pa_cons (pv 2) pa_nil)) pa_nil))))
 (pss_cons (ps_set (i := 7) sc__law_right_row.nd rfl (Or.inl rfl) (pe_f (c__law_choice T) (takes_of rfl rfl rfl rfl) hr (by decide) rfl (pa_cons (pv 0) (pa_cons pe_str pa_nil))))
 (pss_cons (ps_set (i := 8) sc__law_right_row.nd rfl (Or.inl rfl) (pe_f (c__law_one_in T) (takes_of rfl rfl rfl rfl) hr (by decide) rfl (pa_cons (pv 0) (pa_cons pe_int pa_nil))))
 (pss_cons (ps_set (i := 9) sc__law_right_row.nd rfl (Or.inl rfl) (pe_ifExp (pt_val (pv 8)) (pe_tup (pa_cons (pe_ix ix_list (pv 1) (pv 6) (fun _ _ => rfl)) (pa_cons (pe_ix ix_list (pv 2) (pv 6) (fun _ _ => rfl)) pa_nil))) (pe_tup (pa_cons (pv 3) (pa_cons (pv 4) pa_nil)))))
 (pss_cons (ps_set (i := 10) sc__law_right_row.nd rfl (Or.inl rfl) (pe_ifExp (pt_val (pv 8)) (pe_tup (pa_cons (pv 3) (pa_cons (pv 4) pa_nil))) (pe_tup (pa_cons (pe_ix ix_list (pv 1) (pv 6) (fun _ _ => rfl)) (pa_cons (pe_ix ix_list (pv 2) (pv 6) (fun _ _ => rfl)) pa_nil)))))
 (pss_cons (ps_set (i := 11) sc__law_right_row.nd rfl (Or.inl rfl) (pe_f (c__law_told_of T) (takes_of rfl rfl rfl rfl) hr (by decide) rfl (pa_cons (pe_ix ix_tup (pv 9) pe_int (fun _ _ => rfl)) (pa_cons (pe_ix ix_tup (pv 10) pe_int (fun _ _ => rfl)) (pa_cons (pv 7) pa_nil)))))
 (pss_cons (ps_set (i := 12) sc__law_right_row.nd rfl (Or.inl rfl) (pe_f (c__law_due_of T) (takes_of rfl rfl rfl rfl) hr (by decide) rfl (pa_cons (pe_ix ix_tup (pv 9) pe_int (fun _ _ => rfl)) (pa_cons (pe_ix ix_tup (pv 10) pe_int (fun _ _ => rfl)) (pa_cons (pv 7) pa_nil)))))
 (pss_cons (ps_if (pt_not (pt_val (pe_f (c__law_right_of T) (takes_of rfl rfl rfl rfl) hr (by decide) rfl (pa_cons (pv 11) (pa_cons (pv 12) pa_nil)))))
 (pss_one (ps_ret pe_bl))
 pss_nil)
 (pss_one (ps_if (pt_cmpR op_eq (pe_ix ix_tup (pv 12) pe_int (fun _ _ => rfl)) pe_str (nomark _))
 (pss_cons (ps_set (i := 3) sc__law_right_row.nd rfl (Or.inl rfl) (pe_ix ix_tup (pv 11) pe_int (fun _ _ => rfl)))
 (pss_one (ps_set (i := 4) sc__law_right_row.nd rfl (Or.inl rfl) (pe_tup (pa_cons (pe_ix ix_tup (pv 12) pe_int (fun _ _ => rfl)) (pa_cons (pe_ix ix_tup (pv 12) pe_int (fun _ _ => rfl)) pa_nil))))))
 pss_nil)))))))))))
 (pss_one (ps_ret (pe_f (c__law_is_amount T) (takes_of rfl rfl rfl rfl) hr (by decide) rfl (pa_cons (pv 3) (pa_cons (pe_ix ix_tup (pv 4) pe_int (fun _ _ => rfl)) (pa_cons (pe_ix ix_tup (pv 4) pe_int (fun _ _ => rfl)) pa_nil)))))))))), ?_⟩
    have item : ∀ (i : Nat), i < ss.length → ∃ y x s, ys[i]? = some y ∧ xs[i]? = some x ∧ Amt K a.Amount F y s.1 s.2 ∧ Row K F x s ∧ Good many s := by
      intro i hi
      have y1 : ys[i]? = some _ := List.getElem?_eq_getElem (by rw [ham.1]; exact hi)
      have x1 : xs[i]? = some _ := List.getElem?_eq_getElem (by rw [hrw.1]; exact hi)
      obtain ⟨s, h1, h2⟩ := ham.2 i _ y1
      obtain ⟨t, h3, h4⟩ := hrw.2 i _ x1
      rw [h1] at h3
      cases h3
      exact ⟨_, _, s, y1, x1, h2, h4, hg s (List.mem_of_getElem? h1)⟩
    obtain ⟨y0, x0, s00, iy, ix, ia, ir, ig⟩ := item 0 (by omega)
    refine ⟨_, rfl, la, _, _, _, rfl, rfl, upL hf hla, atI_int (by decide) (by rw [ham.1]; omega) iy, ?_⟩
    refine ⟨_, rfl, lr, _, _, _, rfl, rfl, upL hf hlr, atI_int (by decide) (by rw [hrw.1]; omega) ix, ?_⟩
    refine ⟨_, rfl, F, b, _, rfl, hB, hf, by decide, sz_of 4 (by decide) (by decide), fun H1 n s1 B1 m0 m1 => ⟨_, _, rfl, rfl, _, rfl, by omega, by omega, ?_⟩⟩
    refine for_it walk_range (fun i σ' H' => ∃ F' tot due s c5 c6 c7 c8 c9 c10 c11 c12, σ' = [some (.ref b), some (.ref la), some (.ref lr), some tot, some due, c5, c6, c7, c8, c9, c10, c11, c12] ∧ Sb b F H F' H' ∧ Bag K b F' H' ∧
      Amt K a.Amount F' tot s.1 s.2 ∧ Row K F' due s ∧ Gd (80 + 81 * i) s.1 ∧ s.2.length = many.toNat ∧ okD s.2 = true) ⟨F, y0, x0, s00, none, none, none, none, none, none, none, none, rfl, s1, B1, ia, ir, ig.g, ig.l, ig.o⟩ (fun _ _ _ _ _ => trivial) ?_ ?_
    · rintro i _ _ H' _ hi ⟨F', tot, due, s, c5, c6, c7, c8, c9, c10, c11, c12, rfl, s2, B2, ht, hd, gd, ln, ok⟩ ⟨rfl, rfl⟩
      have hi8 : i < 8 := by omega
      have e2 := s2.ff
      refine ⟨_, rfl, _, rfl, lr, xs, rfl, .inl (upL s2.fh (upL e2 hlr)), F', b, _, rfl, B2, s2.fh, by rw [hrw.1]; omega, sz_len (by rw [hrw.1]; omega), fun H3 j s3 B3 j0 j1 => ?_⟩
      have s3 := seqB s2 B2 s3
      rw [hrw.1] at j1
      obtain ⟨yj, xj, sj, jy, jx, ja, jr, jg⟩ := item j.toNat (by omega)
      have aj : atI ys j = some yj := atI_int j0 (by rw [ham.1]; exact j1) jy
      have bj : atI xs j = some xj := atI_int j0 (by rw [hrw.1]; exact j1) jx
      refine ⟨_, rfl, F', b, _, _, rfl, .inr (.inr ⟨"+-*/", rfl, by rw [sizeLine_eq]; decide +kernel, rfl⟩), by decide +kernel, by decide +kernel, B3, s3.fh, fun H4 x q s4 B4 hx => ?_⟩
      have s4 := seqB s3 B3 s4
      obtain ⟨sg, rfl, nc⟩ := signs4 hx
      refine ⟨_, rfl, F', b, _, rfl, B4, s4.fh, by decide, sz_of 3 (by decide) (by decide), fun H5 c s5 B5 => ?_⟩
      have s5 := seqB s4 B4 s5
      refine seq_with (fun σ3 H3 => [some (.ref b), some (.ref la), some (.ref lr), some tot, some due, some (.int (0 + (i : Int))), some (.int j), some (.str sg.str), some (.bl c), c9, c10, c11, c12] = σ3 ∧ H5 = H3) (fun u hu => hu _ _ ⟨rfl, rfl⟩) ?_
      rintro _ _ ⟨rfl, rfl⟩
      refine seq_with (fun σ3 H3 => ∃ F3 l, [some (.ref b), some (.ref la), some (.ref lr), some tot, some due, some (.int (0 + (i : Int))), some (.int j), some (.str sg.str), some (.bl c), some l, c10, c11, c12] = σ3 ∧ Sb b F H F3 H3 ∧ Bag K b F3 H3 ∧ Same F' F3 ∧ Pr K a.Amount F3 l (if c = true then sj else s)) (fun u hu => ?_) ?_
      · refine ⟨_, rfl, c, rfl, ?_⟩
        cases c with
        | true =>
          refine iteT ⟨_, rfl, _, rfl, la, _, _, _, rfl, rfl, upL s5.fh (upL e2 hla), aj, _, rfl, _, rfl, lr, _, _, _, rfl, rfl, upL s5.fh (upL e2 hlr), bj, by show 2 ≤ sizeLine; decide, fun p hp => ?_⟩
          obtain ⟨s6, B6⟩ := newB (o := .tup [yj, xj]) s5 B5 hp
          have e6 := same_new (o := .tup [yj, xj]) (s5.fh.free hp)
          exact hu _ _ ⟨_, _, rfl, s6, B6, e6, p, yj, xj, rfl, sq_new, (ja.up e2).up e6, (jr.up e2).up e6⟩
        | false =>
          refine iteF ⟨_, rfl, _, rfl, by show 2 ≤ sizeLine; decide, fun p hp => ?_⟩
          obtain ⟨s6, B6⟩ := newB (o := .tup [tot, due]) s5 B5 hp
          have e6 := same_new (o := .tup [tot, due]) (s5.fh.free hp)
          exact hu _ _ ⟨_, _, rfl, s6, B6, e6, p, tot, due, rfl, sq_new, ht.up e6, hd.up e6⟩
      rintro _ H6 ⟨F6, l, rfl, s6, B6, e6, hl⟩
      refine seq_with (fun σ3 H3 => ∃ F3 r, [some (.ref b), some (.ref la), some (.ref lr), some tot, some due, some (.int (0 + (i : Int))), some (.int j), some (.str sg.str), some (.bl c), some l, some r, c11, c12] = σ3 ∧ Sb b F H F3 H3 ∧ Bag K b F3 H3 ∧ Same F6 F3 ∧ Pr K a.Amount F3 r (if c = true then s else sj)) (fun u hu => ?_) ?_
      · refine ⟨_, rfl, c, rfl, ?_⟩
        have e26 := e2.trans e6
        cases c with
        | true =>
          refine iteT ⟨_, rfl, _, rfl, by show 2 ≤ sizeLine; decide, fun p hp => ?_⟩
          obtain ⟨s7, B7⟩ := newB (o := .tup [tot, due]) s6 B6 hp
          have e7 := same_new (o := .tup [tot, due]) (s6.fh.free hp)
          exact hu _ _ ⟨_, _, rfl, s7, B7, e7, p, tot, due, rfl, sq_new, (ht.up e6).up e7, (hd.up e6).up e7⟩
        | false =>
          refine iteF ⟨_, rfl, _, rfl, la, _, _, _, rfl, rfl, upL s6.fh (upL e26 hla), aj, _, rfl, _, rfl, lr, _, _, _, rfl, rfl, upL s6.fh (upL e26 hlr), bj, by show 2 ≤ sizeLine; decide, fun p hp => ?_⟩
          obtain ⟨s7, B7⟩ := newB (o := .tup [yj, xj]) s6 B6 hp
          have e7 := same_new (o := .tup [yj, xj]) (s6.fh.free hp)
          exact hu _ _ ⟨_, _, rfl, s7, B7, e7, p, yj, xj, rfl, sq_new, (ja.up e26).up e7, (jr.up e26).up e7⟩
      rintro _ H7 ⟨F7, r, rfl, s7, B7, e7, p2, u2, x2, rfl, hp2, ha2, hx2⟩
      obtain ⟨p1, u1, x1, rfl, hp1, ha1, hx1⟩ := hl
      obtain ⟨sl, sr, hsl, hsr, ba, bb, hab, hba, hbb, gl, gr, ll, lr', ol⟩ : ∃ sl sr : RowS, (if c = true then sj else s) = sl ∧ (if c = true then s else sj) = sr ∧ ∃ ba bb, ba + bb + 1 = 80 + 81 * (i + 1) ∧ ba ≤ 1000 ∧ bb ≤ 1000 ∧ Gd ba sl.1 ∧ Gd bb sr.1 ∧ sl.2.length = many.toNat ∧ sr.2.length = many.toNat ∧ okD sl.2 = true := by
        cases c with
        | true => exact ⟨_, _, rfl, rfl, 80, 80 + 81 * i, by omega, by omega, by omega, jg.g, gd, jg.l, ln, jg.o⟩
        | false => exact ⟨_, _, rfl, rfl, 80 + 81 * i, 80, by omega, by omega, by omega, gd, jg.g, ln, jg.l, ok⟩
      rw [hsl] at ha1 hx1
      rw [hsr] at ha2 hx2
      have dk := due_ok gl gr ll lr' ol sg
      rw [hab] at dk
      have oo := gl.ok gr hba hbb
      have hp1 := upT e7 hp1
      have ha1 := ha1.up e7
      have hx1 := hx1.up e7
      refine ⟨_, rfl, p1, _, _, _, rfl, rfl, upT s7.fh hp1, rfl, _, rfl, p2, _, _, _, rfl, rfl, upT s7.fh hp2, rfl, _, rfl, F7, _, _, sl, sr, sg, rfl, ha1, ha2, oo, by omega, by omega, s7.fh, fun F8 H8 v8 s8 h8 => ?_⟩
      have e8 := s8.ff
      have f8 := e8.trans s8.fh
      refine ⟨_, rfl, p1, _, _, _, rfl, rfl, upT f8 hp1, rfl, _, rfl, p2, _, _, _, rfl, rfl, upT f8 hp2, rfl, _, rfl, F8, _, _, sl, sr, sg, rfl, hx1.up e8, hx2.up e8, oo, by omega, by omega, s8.fh, fun F9 H9 v9 s9 h9 => ?_⟩
      have h8 := h8.up s9.ff
      have s89 := s8.transP s9
      refine ⟨_, rfl, _, rfl, _, _, _, rfl, h8.up s9.fh, h9.up s9.fh, dk.g, fun H10 e10 => ⟨true, rfl, iteF ?_⟩⟩
      have s10 := s89.transP (stp_same s9.fh e10)
      have f10 := s10.fh
      have e69 := e6.trans (e7.trans s89.ff)
      obtain ⟨s11, B11⟩ := pureB s7 B7 s10
      have un : ∀ σ' H', (∃ c11 c12, σ' = [some (.ref b), some (.ref la), some (.ref lr), some tot, some due, some (.int (0 + (i : Int))), some (.int j), some (.str sg.str), some (.bl c), some (.ref p1), some (.ref p2), c11, c12]) → H' = H10 →
          ∃ F' tot due s c5 c6 c7 c8 c9 c10 c11 c12, σ' = [some (.ref b), some (.ref la), some (.ref lr), some tot, some due, c5, c6, c7, c8, c9, c10, c11, c12] ∧ Sb b F H F' H' ∧ Bag K b F' H' ∧ Amt K a.Amount F' tot s.1 s.2 ∧ Row K F' due s ∧ Gd (80 + 81 * (i + 1)) s.1 ∧ s.2.length = many.toNat ∧ okD s.2 = true := by
        rintro σ' H' ⟨c11, c12, rfl⟩ rfl
        exact ⟨_, tot, due, s, _, _, _, _, _, _, _, _, rfl, s11, B11, ht.up e69, hd.up e69, gd.mono (by omega), ln, ok⟩
      revert h8 h9 dk
      generalize hdd : dueOf sl sr sg = d
      intro dk h9 h8
      cases d with
      | mixed ds es =>
        obtain ⟨p3, u3, w3, rfl, h3, _⟩ := h9
        refine ⟨_, rfl, p3, _, _, _, rfl, rfl, upT f10 h3, rfl, rfl, _, rfl, iteN (by decide +kernel) ?_⟩
        exact un _ _ ⟨_, _, rfl⟩ rfl
      | cmp ii =>
        exact absurd hdd (due_nc nc)
      | nought r =>
        obtain ⟨p3, u3, rfl, h3, _⟩ := h9
        refine ⟨_, rfl, p3, _, _, _, rfl, rfl, upT f10 h3, rfl, rfl, _, rfl, iteN (by decide +kernel) ?_⟩
        exact un _ _ ⟨_, _, rfl⟩ rfl
      | high ds =>
        obtain ⟨p3, u3, rfl, h3, _⟩ := h9
        refine ⟨_, rfl, p3, _, _, _, rfl, rfl, upT f10 h3, rfl, rfl, _, rfl, iteN (by decide +kernel) ?_⟩
        exact un _ _ ⟨_, _, rfl⟩ rfl
      | amt r ds =>
        obtain ⟨p3, u3, w3, rfl, h3, h4, h5⟩ := h9
        obtain ⟨p4, u4, rfl, h6, h7⟩ := h8
        obtain ⟨g1, g2, g3⟩ := dk.s r ds rfl
        refine ⟨_, rfl, p3, _, _, _, rfl, rfl, upT f10 h3, rfl, rfl, _, rfl, iteY (by decide +kernel) ?_⟩
        refine ⟨_, rfl, p4, _, _, _, rfl, rfl, upT f10 h6, rfl, ?_⟩
        refine ⟨_, rfl, p3, _, _, _, rfl, rfl, upT f10 h3, rfl, _, rfl, p3, _, _, _, rfl, rfl, upT f10 h3, rfl, by show 2 ≤ sizeLine; decide, fun p hp => ?_⟩
        obtain ⟨s12, B12⟩ := newB (o := .tup [u3, w3]) s11 B11 hp
        have e12 := same_new (o := .tup [u3, w3]) (s11.fh.free hp)
        exact ⟨_, _, _, (r, ds), _, _, _, _, _, _, _, _, rfl, s12, B12, h7.up e12, ⟨p, u3, w3, rfl, sq_new, h4.up e12, h5.up e12⟩, g1, g2, g3⟩
    · rintro _ H' ⟨F', tot, due, s, c5, c6, c7, c8, c9, c10, c11, c12, rfl, s2, B2, ht, ⟨p, u, x, rfl, hp, hu, hx⟩, gd, ln, ok⟩
      exact ⟨_, rfl, _, rfl, p, _, _, _, rfl, rfl, upT s2.fh hp, rfl, _, rfl, p, _, _, _, rfl, rfl, upT s2.fh hp, rfl, _, _, _, _, _, rfl, ht.up s2.fh, hu.up s2.fh, hx.up s2.fh, gd.p, gd.c, k F' H' s2 B2⟩
end
end K04

set_option Elab.async false
set_option linter.all false
set_option maxRecDepth 100000
set_option maxHeartbeats 4000000
namespace K04
open PySem PySem.Spec PyProof.Rows L2 Ew
theorem neg_is {b : Nat} {r : Int × Int} (h : Gd b r) : rMinus (0, 1) r = (0 - r.1, r.2) := by
  have e1 : (0 : Int) * r.2 - r.1 * 1 = 0 - r.1 := by omega
  have e2 : (1 : Int) * r.2 = r.2 := by omega
  have c : com (0 - r.1) r.2 = 1 := by
    rw [com_pos h.p]
    have : (0 - r.1).natAbs = r.1.natAbs := by omega
    rw [this, h.c]
    rfl
  unfold rMinus rat
  dsimp only
  rw [e1, e2, c, Int.fdiv_one, Int.fdiv_one]
theorem mk_step {K : PySem.W.Frag} {C : Addr} {F H : Hp} {u v : V} {r : Int × Int} {ds : List Int} {x dx : Addr} (hf : Same F H) (hu : Rt K F u r) (hv : Dm K F v ds) (hx : H x = none) (hd : H dx = none) (ne : dx ≠ x) :
    ∃ F', Stp F H F' (upd (upd H dx (.own x)) x (.ins C dx (af u v))) ∧ Amt K C F' (.ref x) r ds := by
  have s := (stp_new (o := .own x) hf hd).newP (p := x) (o := .ins C dx (af u v)) (by rw [upd_ne (Ne.symm ne)]; exact hx)
  exact ⟨_, s, x, dx, u, v, rfl, upd_same, hu.up s.ff, hv.up s.ff⟩
section
variable {P : Program} {w : World} {K : PySem.W.Frag} {mg : Str → Option Value} {base : Heap} {a : Ad}
def sp_law (K : PySem.W.Frag) : Sp := fun vs H Q _ => ∃ (p : Addr) (ns : List Int), vs = [.ref p] ∧ SqL K H p (ns.map V.int) ∧ ns.length ≤ 1000 ∧ ∀ H', Q (.bl true) H'
theorem b_law (T : Txt K mg a) : BodyOk P w K mg base N_law "law" s_law 10 (sp_law K) := fun f cdv A outer s0 H vs Q E hr h => by
    obtain ⟨p, ns, rfl, hp, hn, k⟩ := h
    refine ⟨_, ((pss_cons (ps_set (i := 1) sc_law.nd rfl (Or.inl rfl) (pe_f (c__law_bag_of T) (takes_of rfl rfl rfl rfl) hr (by decide) rfl (pa_cons (pv 0) pa_nil)))
 (pss_cons (ps_set (i := 2) sc_law.nd rfl (Or.inl rfl) (pe_op op_add pe_int (pe_f (c__law_pick T) (takes_of rfl rfl rfl rfl) hr (by decide) rfl (pa_cons (pv 1) (pa_cons pe_int pa_nil)))))
 (pss_cons (ps_set (i := 3) sc_law.nd rfl (Or.inl rfl) (pe_f (c__law_pairs_drawn T) (takes_of rfl rfl rfl rfl) hr (by decide) rfl (pa_cons (pv 1) (pa_cons (pv 2) pa_nil))))
 (pss_cons (ps_setLc (i := 4) (own := [("_law_row", 8)]) (g := (gName 8)) (by rfl) sc_law.nd rfl rfl (sw_true rfl rfl rfl (by decide +kernel)) (pi_list (pv 3)) (blkOk_by (own := [("_law_row", 8)]) (N := N_law) (sc := defScope s_law) (by decide +kernel)) (fun _ _ _ _ _ => (pg_name (i := 8) sc_law.nd rfl (Or.inl rfl) (hf := .inr rfl))) (fun _ _ _ _ _ => pts_nil) (fun _ _ _ _ _ => (pe_mkf (mk_Amount T) hr (by decide) rfl (pa_cons (pe_ix (r := rIxT K) ix_tup (pv 8) pe_int (fun _ _ => rfl)) (pa_cons (pe_ix (r := rIxT K) ix_tup (pv 8) pe_int (fun _ _ => rfl)) pa_nil)))))
 (pss_cons (ps_for (passes_of rfl) rfl (pi_range1 (by rfl) T.n_range (pa_cons (pe_callB call_len_seq (by rfl) T.n_len (by decide +kernel) (pa_cons (pv 3) pa_nil)) pa_nil)) (pg_name (i := 5) sc_law.nd rfl (Or.inl rfl))
 (pss_cons (ps_for (passes_of rfl) rfl (pi_range1 (by rfl) T.n_range (pa_cons (pe_callB call_len_seq (by rfl) T.n_len (by decide +kernel) (pa_cons (pv 3) pa_nil)) pa_nil)) (pg_name (i := 6) sc_law.nd rfl (Or.inl rfl))
 (pss_one (ps_if (pt_not (pt_val (pe_f (c__law_right_pair T) (takes_of rfl rfl rfl rfl) hr (by decide) rfl (pa_cons (pe_ix ix_list (pv 4) (pv 5) (fun _ _ => rfl)) (pa_cons (pe_ix ix_list (pv 4) (pv 6) (fun _ _ => rfl)) (pa_cons (pe_ix ix_list (pv 3) (pv 5) (fun _ _ => rfl)) (pa_cons (pe_ix ix_list (pv 3) (pv 6) (fun _ _ => rfl)) pa_nil)))))))
 (pss_one (ps_ret pe_bl))
 pss_nil)))
 (pss_cons (ps_set (i := 7) sc_law.nd rfl (Or.inl rfl) (pe_ix ix_tup (pe_ix ix_list (pv 3) (pv 5) (fun _ _ => rfl)) pe_int (fun _ _ => rfl)))
 (pss_cons (ps_if (pt_not (pt_val (pe_f (c__law_is_amount T) (takes_of rfl rfl rfl rfl) hr (by decide) rfl (pa_cons (pe_nop (b_neg T) (takes_of rfl rfl rfl rfl) hr (by decide) (pe_ix ix_list (pv 4) (pv 5) (fun _ _ => rfl))) (pa_cons (pe_tup (pa_cons (pe_op op_sub pe_int (pe_ix ix_tup (pv 7) pe_int (fun _ _ => rfl))) (pa_cons (pe_ix ix_tup (pv 7) pe_int (fun _ _ => rfl)) pa_nil))) (pa_cons (pe_ix ix_tup (pe_ix ix_list (pv 3) (pv 5) (fun _ _ => rfl)) pe_int (fun _ _ => rfl)) pa_nil))))))
 (pss_one (ps_ret pe_bl))
 pss_nil)
 (pss_cons (ps_if (PW.pt (pw_or (pt_cmpR op_notBl (pe_cmp (pc_eop (b_eq T) (takes_of rfl rfl rfl rfl) hr (by decide) T.nft (pe_ix ix_list (pv 4) (pv 5) (fun _ _ => rfl)) (pe_mkf (mk_Amount T) hr (by decide) rfl (pa_cons (pv 7) (pa_cons (pe_ix ix_tup (pe_ix ix_list (pv 3) (pv 5) (fun _ _ => rfl)) pe_int (fun _ _ => rfl)) pa_nil)))) rfl) pe_bl (nomark _)) (pw_or1 (pt_cmpR op_notBl (pe_cmp (pc_eop (b_eq T) (takes_of rfl rfl rfl rfl) hr (by decide) T.nft (pe_ix ix_list (pv 4) (pv 5) (fun _ _ => rfl)) (pe_ix ix_list (pv 3) (pv 5) (fun _ _ => rfl))) rfl) pe_bl (nomark _)))))
 (pss_one (ps_ret pe_bl))
 pss_nil)
 (pss_cons (ps_if (PW.pt (pw_or (pt_cmpR op_notBl (pe_cmp (pc_eop (b_eq T) (takes_of rfl rfl rfl rfl) hr (by decide) T.nft (pe_ix ix_list (pv 4) (pv 5) (fun _ _ => rfl)) (pv 7)) rfl) pe_bl (nomark _)) (pw_or1 (pt_not (pt_val (pe_f (c__law_is_amount T) (takes_of rfl rfl rfl rfl) hr (by decide) rfl (pa_cons (pe_sm (m_Amount_bare T) (takes_of rfl rfl rfl rfl) hr (by decide) (pe_glob (v := .ref a.Amount) rfl T.g_Amount rfl) (pa_cons (pv 7) (pa_cons (pv 2) pa_nil))) (pa_cons (pv 7) (pa_cons (pe_op op_repA (pe_tup (pa_cons pe_int pa_nil)) (pv 2)) pa_nil)))))))))
 (pss_one (ps_ret pe_bl))
 pss_nil)
 (pss_one (ps_if (pt_not (pt_val (pe_f (c__law_is_amount T) (takes_of rfl rfl rfl rfl) hr (by decide) rfl (pa_cons (pe_sm (m_Amount_bare T) (takes_of rfl rfl rfl rfl) hr (by decide) (pe_ix ix_list (pv 4) (pv 5) (fun _ _ => rfl)) (pa_cons (pv 7) (pa_cons (pe_op op_sub pe_int (pv 2)) pa_nil))) (pa_cons (pv 7) (pa_cons (pe_op op_repA (pe_tup (pa_cons pe_int pa_nil)) (pe_op op_sub pe_int (pv 2))) pa_nil))))))
 (pss_one (ps_ret pe_bl))
 pss_nil))))))))
 (pss_cons (ps_if (pt_not (pt_val (pe_f (c__law_right_row T) (takes_of rfl rfl rfl rfl) hr (by decide) rfl (pa_cons (pv 1) (pa_cons (pv 4) (pa_cons (pv 3) pa_nil))))))
 (pss_one (ps_ret pe_bl))
 pss_nil)
 (pss_cons (ps_for (passes_of rfl) rfl (pi_range1 (by rfl) T.n_range (pa_cons (pe_callB call_len_seq (by rfl) T.n_len (by decide +kernel) (pa_cons (pv 3) pa_nil)) pa_nil)) (pg_name (i := 5) sc_law.nd rfl (Or.inl rfl))
 (pss_one (ps_if (pt_not (pt_val (pe_f (c__law_is_amount T) (takes_of rfl rfl rfl rfl) hr (by decide) rfl (pa_cons (pe_ix ix_list (pv 4) (pv 5) (fun _ _ => rfl)) (pa_cons (pe_ix ix_tup (pe_ix ix_list (pv 3) (pv 5) (fun _ _ => rfl)) pe_int (fun _ _ => rfl)) (pa_cons (pe_ix ix_tup (pe_ix ix_list (pv 3) (pv 5) (fun _ _ => rfl)) pe_int (fun _ _ => rfl)) pa_nil))))))
 (pss_one (ps_ret pe_bl))
 pss_nil)))
 (pss_one (ps_ret pe_bl)))))))))), ?_⟩
    refine ⟨_, rfl, H, p, ns, rfl, hp, hn, Same.refl H, fun F1 H1 b s1 B1 => ?_⟩
    refine ⟨_, rfl, F1, b, _, rfl, B1, s1.fh, by decide, sz_of 3 (by decide) (by decide), fun H2 m s2 B2 m0 m1 => ⟨_, _, rfl, rfl, ?_⟩⟩
    refine ⟨_, rfl, _, rfl, F1, b, _, rfl, B2, s2.fh, by omega, by omega, fun F3 H3 l xs ss s3 B3 hl hr3 n1 n2 hg => ?_⟩
    have hsl : xs.length = ss.length := hr3.1
    refine ⟨_, rfl, l, rfl, ⟨_, upL s3.fh hl⟩, fun D hD => ?_⟩
    refine lcM (memB K b) walk_list s3.fh B3 hD (fun i F y => ∃ s, ss[i]? = some s ∧ Amt K a.Amount F y s.1 s.2) (fun i F F' y e z => by obtain ⟨s, z1, z2⟩ := z; exact ⟨s, z1, z2.up e⟩) (by omega) (fun F' H' e1 e2 => upL e2 (upL e1 hl)) ?_ ?_
    · rintro i x F4 H4 H'' Kt Kn hi s4 B4 ⟨rfl, hx⟩ kk
      obtain ⟨s, hs, q, u, v, rfl, hq, hu, hv⟩ := hr3.2 i x hx
      have f4 := s4.ff.trans s4.fh
      refine ⟨rfl, lc_yes ⟨_, rfl, q, _, _, _, rfl, rfl, upT f4 hq, at0, _, rfl, q, _, _, _, rfl, rfl, upT f4 hq, at1, mk_amt s4.fh (hu.up s4.ff) (hv.up s4.ff) fun F5 H5 z s5 hz => ?_⟩⟩
      obtain ⟨s6, B6⟩ := pureB (Stm.refl s4.fh) B4 s5
      exact kk z F5 H5 s6 B6 ⟨s, hs, hz⟩
    intro F4 H4 ys s4 B4 hD' hy ha
    have ham : Ams K a.Amount F4 ys ss := ⟨by omega, ha⟩
    have hlD : SqL K F4 D ys := SqL.of hD'
    have hl4 : SqL K F4 l xs := upL s4.ff hl
    have hr4 : Rws K F4 xs ss := hr3.up s4.ff
    have hf4 : Same F4 H4 := s4.fh
    clear s4 s3 s2 s1 B3 B2 B1 hD hD' ha hl hr3
    have item : ∀ (i : Nat), i < ss.length → ∃ y x s, atI ys (0 + (i : Int)) = some y ∧ atI xs (0 + (i : Int)) = some x ∧ Amt K a.Amount F4 y s.1 s.2 ∧ Row K F4 x s ∧ Good (1 + m) s := by
      intro i hi
      have y1 : ys[i]? = some _ := List.getElem?_eq_getElem (by rw [ham.1]; exact hi)
      have x1 : xs[i]? = some _ := List.getElem?_eq_getElem (by omega)
      obtain ⟨s, h1, h2⟩ := ham.2 i _ y1
      obtain ⟨t, h3, h4⟩ := hr4.2 i _ x1
      rw [h1] at h3
      cases h3
      refine ⟨_, _, s, ?_, ?_, h2, h4, hg s (List.mem_of_getElem? h1)⟩
      · rw [Int.zero_add]; exact atI_nat y1
      · rw [Int.zero_add]; exact atI_nat x1
    refine ⟨_, rfl, l, _, rfl, .inl (upL hf4 hl4), _, rfl, by omega, by omega, ?_⟩
    refine for_it walk_range (fun i σ' H' => ∃ F' c5 c6 c7, σ' = [some (.ref p), some (.ref b), some (.int (1 + m)), some (.ref l), some (.ref D), c5, c6, c7, none] ∧ Sb b F4 H4 F' H' ∧ Bag K b F' H') ⟨F4, none, none, none, rfl, .refl hf4, B4⟩ (fun _ _ _ _ _ => trivial) ?_ ?_
    · rintro i _ _ H5 _ hi ⟨F5, c5, c6, c7, rfl, s5, B5⟩ ⟨rfl, rfl⟩
      have hi : i < ss.length := by omega
      obtain ⟨yi, xi, si, iy, ix, ia, ir, ig⟩ := item i hi
      have f5 := s5.ff.trans s5.fh
      refine ⟨_, rfl, l, _, rfl, .inl (upL f5 hl4), _, rfl, by omega, by omega, ?_⟩
      refine for_it walk_range (fun j σ' H' => ∃ F' c6, σ' = [some (.ref p), some (.ref b), some (.int (1 + m)), some (.ref l), some (.ref D), some (.int (0 + (i : Int))), c6, c7, none] ∧ Sb b F4 H4 F' H' ∧ Bag K b F' H') ⟨F5, c6, rfl, s5, B5⟩ (fun _ _ _ _ _ => trivial) ?_ ?_
      · rintro j _ _ H6 _ hj ⟨F6, c6, rfl, s6, B6⟩ ⟨rfl, rfl⟩
        obtain ⟨yj, xj, sj, jy, jx, ja, jr, jg⟩ := item j (by omega)
        have f6 := s6.ff.trans s6.fh
        refine ⟨_, rfl, _, rfl, D, _, _, _, rfl, rfl, upL f6 hlD, iy, _, rfl, _, rfl, D, _, _, _, rfl, rfl, upL f6 hlD, jy, _, rfl, _, rfl, l, _, _, _, rfl, rfl, upL f6 hl4, ix, _, rfl, _, rfl, l, _, _, _, rfl, rfl, upL f6 hl4, jx, ?_⟩
        refine ⟨F6, _, _, _, _, si, sj, (1 + m).toNat, rfl, ia.up s6.ff, ja.up s6.ff, ir.up s6.ff, jr.up s6.ff, ig.g, jg.g, ig.l, jg.l, by omega, ig.o, s6.fh, fun F7 H7 s7 => ⟨true, rfl, iteF ?_⟩⟩
        obtain ⟨s7, B7⟩ := pureB s6 B6 s7
        exact ⟨F7, _, rfl, s7, B7⟩
      · rintro _ H6 ⟨F6, c6, rfl, s6, B6⟩
        have f6 := s6.ff.trans s6.fh
        obtain ⟨q, u, v, rfl, hq, hu, hv⟩ := ir
        refine ⟨_, rfl, _, rfl, l, _, _, _, rfl, rfl, upL f6 hl4, ix, q, _, _, _, rfl, rfl, upT f6 hq, at0, ?_⟩
        -- the negative
        obtain ⟨qa, dxa, ua, wa, rfl, ea, hra, hda⟩ := ia
        have ia : Amt K a.Amount F4 (.ref qa) si.1 si.2 := ⟨qa, dxa, ua, wa, rfl, ea, hra, hda⟩
        refine ⟨_, rfl, _, rfl, D, _, _, _, rfl, rfl, upL f6 hlD, iy, qa, dxa, _, rfl, f6 _ _ ea, F6, _, si.1, si.2, rfl, ia.up s6.ff, ig.g.a.mono (by decide), ig.g.b.mono (by decide), ig.g.ne, s6.fh, fun F7 H7 z7 s7 h7 => ?_⟩
        rw [neg_is ig.g] at h7
        obtain ⟨s7, B7⟩ := pureB s6 B6 s7
        have f7 := s7.ff.trans s7.fh
        have hu' := hu
        obtain ⟨pu, rfl, hpu⟩ := hu'
        refine ⟨_, rfl, pu, _, _, _, rfl, rfl, upT f7 hpu, at0, _, _, rfl, rfl, _, rfl, pu, _, _, _, rfl, rfl, upT f7 hpu, at1, by show 2 ≤ sizeLine; decide, fun p8 hp8 => ?_⟩
        have e8 := same_new (o := .tup [.int (0 - si.1.1), .int si.1.2]) (s7.fh.free hp8)
        obtain ⟨s8, B8⟩ := newB (o := .tup [.int (0 - si.1.1), .int si.1.2]) s7 B7 hp8
        have f8 := s8.ff.trans s8.fh
        have gn := gd_neg ig.g
        refine ⟨_, rfl, _, rfl, l, _, _, _, rfl, rfl, upL f8 hl4, ix, q, _, _, _, rfl, rfl, upT f8 hq, at1, ?_⟩
        refine ⟨_, _, _, (0 - si.1.1, si.1.2), si.2, rfl, (h7.up e8).up s8.fh, ⟨p8, rfl, sq_new⟩, hv.up f8, gn.p, gn.c, true, rfl, iteF ?_⟩
        -- alike
        refine ⟨_, rfl, _, rfl, D, _, _, _, rfl, rfl, upL f8 hlD, iy, _, rfl, _, rfl, _, rfl, l, _, _, _, rfl, rfl, upL f8 hl4, ix, q, _, _, _, rfl, rfl, upT f8 hq, at1, ?_⟩
        intro x dx hx hdx ne
        refine ⟨x, dx, _, _, rfl, upd_same, rfl, ?_⟩
        rw [upd_upd]
        obtain ⟨F9, s9, h9⟩ := mk_step (C := a.Amount) s8.fh (hu.up s8.ff) (hv.up s8.ff) hx hdx ne
        generalize hH9 : upd (upd _ dx (HO.own x)) x (HO.ins a.Amount dx (af (.ref pu) v)) = H9 at s9 ⊢
        obtain ⟨s9, B9⟩ := pureB s8 B8 s9
        have f9 := s9.ff.trans s9.fh
        obtain ⟨q9, dx9, u9, w9, e0, e9, _⟩ := id h9
        cases e0
        refine ⟨qa, dxa, _, rfl, f9 _ _ ea, ⟨_, rfl, .inl ⟨_, _, s9.fh _ _ e9⟩⟩, _, _, si.1, si.2, rfl, ia.up f9, .inl ⟨si.1, si.2, h9.up s9.fh, ?_⟩⟩
        refine ⟨_, _, rfl, rfl, _, rfl, iteN (by simp) ?_⟩
        refine ⟨_, rfl, _, rfl, D, _, _, _, rfl, rfl, upL f9 hlD, iy, _, rfl, _, rfl, l, _, _, _, rfl, rfl, upL f9 hl4, ix, ?_⟩
        refine ⟨qa, dxa, _, rfl, f9 _ _ ea, ⟨q, rfl, .inr ⟨_, upT f9 hq⟩⟩, _, _, si.1, si.2, rfl, ia.up f9, .inr ⟨q, _, rfl, upT f9 hq, ?_⟩⟩
        refine ⟨_, _, rfl, rfl, _, rfl, iteN (by simp) ?_⟩
        -- an amount against its number
        refine ⟨_, rfl, _, rfl, D, _, _, _, rfl, rfl, upL f9 hlD, iy, _, rfl, ?_⟩
        refine ⟨qa, dxa, _, rfl, f9 _ _ ea, ⟨pu, rfl, .inr ⟨_, upT f9 hpu⟩⟩, _, _, si.1, si.2, rfl, ia.up f9, .inr ⟨pu, _, rfl, upT f9 hpu, ?_⟩⟩
        refine ⟨_, _, rfl, rfl, _, rfl, iteN (by simp) ?_⟩
        -- bare
        refine ⟨.inl rfl, _, rfl, _, rfl, F9, _, si.1, _, rfl, hu.up s9.ff, by omega, by omega, s9.fh, fun F10 H10 z10 s10 h10 => ?_⟩
        obtain ⟨s10, B10⟩ := pureB s9 B9 s10
        refine ⟨_, rfl, by show 1 ≤ sizeLine; decide, fun p11 hp11 => ?_⟩
        have e11 := same_new (o := .tup [.int 0]) (s10.fh.free hp11)
        obtain ⟨s11, B11⟩ := newB (o := .tup [.int 0]) s10 B10 hp11
        refine ⟨_, rfl, rep_of s11.fh sq_new (by omega) (by omega) fun F12 H12 z12 s12 h12 => ?_⟩
        have e12 := s12.ff
        obtain ⟨s12, B12⟩ := pureB s11 B11 s12
        have f12 := s12.ff.trans s12.fh
        refine ⟨_, _, _, si.1, _, rfl, ((h10.up e11).up e12).up s12.fh, hu.up f12, h12.up s12.fh, ig.g.p, ig.g.c, true, rfl, iteF ?_⟩
        refine ⟨_, rfl, _, rfl, D, _, _, _, rfl, rfl, upL f12 hlD, iy, .inr ⟨qa, dxa, _, rfl, f12 _ _ ea, af_o (by decide) (by decide)⟩, _, rfl, _, rfl, _, _, rfl, rfl, F12, _, si.1, _, rfl, hu.up s12.ff, by omega, by omega, s12.fh, fun F13 H13 z13 s13 h13 => ?_⟩
        obtain ⟨s13, B13⟩ := pureB s12 B12 s13
        refine ⟨_, rfl, by show 1 ≤ sizeLine; decide, fun p14 hp14 => ?_⟩
        have e14 := same_new (o := .tup [.int 0]) (s13.fh.free hp14)
        obtain ⟨s14, B14⟩ := newB (o := .tup [.int 0]) s13 B13 hp14
        refine ⟨_, rfl, _, _, rfl, rfl, rep_of s14.fh sq_new (by omega) (by omega) fun F15 H15 z15 s15 h15 => ?_⟩
        have e15 := s15.ff
        obtain ⟨s15, B15⟩ := pureB s14 B14 s15
        have f15 := s15.ff.trans s15.fh
        refine ⟨_, _, _, si.1, _, rfl, ((h13.up e14).up e15).up s15.fh, hu.up f15, h15.up s15.fh, ig.g.p, ig.g.c, true, rfl, iteF ?_⟩
        exact ⟨F15, _, _, _, rfl, s15, B15⟩
    · rintro _ H5 ⟨F5, c5, c6, c7, rfl, s5, B5⟩
      refine ⟨_, rfl, _, rfl, _, rfl, F5, b, D, l, ys, xs, ss, _, rfl, B5, s5.fh, upL s5.ff hlD, upL s5.ff hl4, ham.up s5.ff, hr4.up s5.ff, by omega, by omega, (by omega : 1 + m ≤ 100), hg, fun F6 H6 s6 B6 => ⟨true, rfl, iteF ?_⟩⟩
      have s6 := seqB s5 B5 s6
      have f6 := s6.ff.trans s6.fh
      refine ⟨_, rfl, l, _, rfl, .inl (upL f6 hl4), _, rfl, by omega, by omega, ?_⟩
      refine for_it walk_range (fun i σ' H' => H6 = H' ∧ ∃ c5, σ' = [some (.ref p), some (.ref b), some (.int (1 + m)), some (.ref l), some (.ref D), c5, c6, c7, none]) ⟨rfl, c5, rfl⟩ (fun _ _ _ _ _ => trivial) ?_ ?_
      · rintro i _ _ H7 _ hi ⟨rfl, c5, rfl⟩ ⟨rfl, rfl⟩
        obtain ⟨yi, xi, si, iy, ix, ia, ⟨q, u, v, rfl, hq, hu, hv⟩, ig⟩ := item i (by omega)
        refine ⟨_, rfl, _, rfl, D, _, _, _, rfl, rfl, upL f6 hlD, iy, _, rfl, _, rfl, l, _, _, _, rfl, rfl, upL f6 hl4, ix, q, _, _, _, rfl, rfl, upT f6 hq, at0, _, rfl, _, rfl, l, _, _, _, rfl, rfl, upL f6 hl4, ix, q, _, _, _, rfl, rfl, upT f6 hq, at1, ?_⟩
        exact ⟨_, _, _, si.1, si.2, rfl, ia.up f6, hu.up f6, hv.up f6, ig.g.p, ig.g.c, true, rfl, iteF ⟨rfl, _, rfl⟩⟩
      · rintro _ H7 ⟨rfl, c5, rfl⟩
        exact k H6
end
end K04

set_option Elab.async false
set_option linter.all false
set_option maxRecDepth 100000
set_option maxHeartbeats 4000000
namespace K04
open PySem PySem.Spec PyProof.Rows L2 Ew
theorem kit_cls0 {K : PySem.W.Frag} {t : Value} {C : Addr} {b : Bool} (h2 : PySem.W.isClsIn K C = true) (h3 : PySem.W.typeIn K (.ref C) = some (.type "type")) (h4 : PySem.W.subIn K t (.ref C) = some b) : PySem.W.kitCls K t (.ref C) = some b := by
  have e2 : ((PySem.W.clsIn K C).isSome && PySem.W.typeIn K (.ref C) == some (.type "type")) = true := by
    have h2' : (PySem.W.clsIn K C).isSome = true := h2
    rw [h2', h3] <;> rfl
  show (if ((PySem.W.clsIn K C).isSome && PySem.W.typeIn K (.ref C) == some (.type "type")) = true then PySem.W.subIn K t (.ref C) else none) = some b
  rw [if_pos e2]
  exact h4
theorem kit_yes {K : PySem.W.Frag} {t : Value} {C : Addr} (h2 : PySem.W.isClsIn K C = true) (h3 : PySem.W.typeIn K (.ref C) = some (.type "type")) (h4 : PySem.W.subIn K t (.ref C) = some true) : PySem.W.kitOne K t (.ref C) = some true := by
  unfold PySem.W.kitOne
  split
  · rfl
  · exact kit_cls0 h2 h3 h4
theorem kit_no1 {K : PySem.W.Frag} {C : Addr} (h2 : PySem.W.isClsIn K C = true) (h3 : PySem.W.typeIn K (.ref C) = some (.type "type")) (h4 : PySem.W.subIn K (.type "tuple") (.ref C) = some false) : PySem.W.kitOne K (.type "tuple") (.ref C) = some false := by
  unfold PySem.W.kitOne
  rw [if_neg (by simp)]
  exact kit_cls0 h2 h3 h4
theorem kit_ty2 {K : PySem.W.Frag} {C : Addr} (h4 : PySem.W.subIn K (.ref C) (.type "ValueError") = some true) : PySem.W.kitOne K (.ref C) (.type "ValueError") = some true := by
  unfold PySem.W.kitOne
  rw [if_neg (by simp)]
  show (if PySem.W.kitMeta "ValueError" = true then PySem.W.subIn K (.ref C) (.type "ValueError") else none) = some true
  rw [if_pos (by decide +kernel)]
  exact h4
theorem kit_no2 {K : PySem.W.Frag} {D C1 C2 : Addr} (n1 : D ≠ C1) (n2 : D ≠ C2) (h2 : PySem.W.isClsIn K C1 = true) (h3 : PySem.W.typeIn K (.ref C1) = some (.type "type")) (h4 : PySem.W.subIn K (.ref D) (.ref C1) = some false)
    (g2 : PySem.W.isClsIn K C2 = true) (g3 : PySem.W.typeIn K (.ref C2) = some (.type "type")) (g4 : PySem.W.subIn K (.ref D) (.ref C2) = some false) : PySem.W.kitAny K (.ref D) [.ref C1, .ref C2] = some false := by
  have e1 : PySem.W.kitOne K (.ref D) (.ref C1) = some false := by
    unfold PySem.W.kitOne
    rw [if_neg (by simpa using n1)]
    exact kit_cls0 h2 h3 h4
  have e2 : PySem.W.kitOne K (.ref D) (.ref C2) = some false := by
    unfold PySem.W.kitOne
    rw [if_neg (by simpa using n2)]
    exact kit_cls0 g2 g3 g4
  simp only [PySem.W.kitAny, e1, e2]
theorem exm_of {K : PySem.W.Frag} {D C : Addr} {b : Bool} (e : PySem.W.subIn K (.ref C) (.type "BaseException") = some true) (h2 : PySem.W.isClsIn K C = true) (h3 : PySem.W.typeIn K (.ref C) = some (.type "type")) (h4 : PySem.W.subIn K (.ref D) (.ref C) = some b) : PySem.W.exmOne K (.ref D) (.ref C) = some b := by
  unfold PySem.W.exmOne
  have e1 : (PySem.W.subIn K (.ref C) (.type "BaseException") == some true) = true := by rw [e] <;> rfl
  rw [if_pos e1]
  exact kit_cls0 h2 h3 h4
theorem ratio_at {K : PySem.W.Frag} {mg : Str → Option Value} {f TT : Addr} {od an : Option Addr} {sl : Array (Option Value)} {oc kV dc pm cd ct : Value} {tD : Tok} {nD0 : Nat} {odT : Option Addr} {ocT : Value} {slT : Array (Option Value)}
    (l : K.lookup f = some ⟨oc, od, .func (PySem.W.fnOf "ratio" "ratio" (defArgs s_ratio) (defBody s_ratio) (defScope s_ratio) (.ref TT) kV dc pm an cd ct), sl⟩) (lT : K.lookup TT = some ⟨ocT, odT, .seq #[.int 1 tD] nD0, slT⟩) (c : PySem.W.codeIn K cd "ratio" = true) (k : PySem.W.keepIn K (.ref f) = true) (g : mg "ratio" = some (.ref f)) :
    DefAtD K mg "ratio" s_ratio P_ratio [.int 1] := by
  have F : FunD K "ratio" "ratio" (defArgs s_ratio) (defBody s_ratio) (defScope s_ratio) [.int 1] [] f (PySem.W.fnOf "ratio" "ratio" (defArgs s_ratio) (defBody s_ratio) (defScope s_ratio) (.ref TT) kV dc pm an cd ct) :=
    ⟨⟨oc, od, .ref TT, kV, dc, pm, an, cd, ct, sl, rfl, l, c, .inr ⟨(fun z => nomatch z), TT, _, [.int 1 tD], nD0, rfl, lT, rfl, .cons ⟨tD, rfl⟩ .nil⟩, .inl rfl⟩, k⟩
  refine ⟨f, _, F, g, fun j hj => ?_⟩
  have hj : j = 0 ∨ j = 1 := by
    have : j ≤ 1 := hj
    omega
  rcases hj with rfl | rfl
  · exact F.binds1 1 0 (fun z => nomatch z) rfl fun T kV doc pm an cdv ct us its h1 h2 => match us, its, h1, h2 with | [_], [_], _, _ => ⟨_, rfl, rfl⟩
  · exact F.binds1 2 1 (fun z => nomatch z) rfl fun T kV doc pm an cdv ct us its h1 h2 => match us, its, h1, h2 with | [_, _], [_], _, _ => ⟨_, rfl, rfl⟩
theorem all_mk {P : Program} {w : World} {K : PySem.W.Frag} {h : Heap} {mg : Str → Option Value} {fa : Addr} (X : K.In h) (G : h.Ns mainGlobals mg) (hfa : mg "law" = some (.ref fa))
    {tH : Tok}
    {C_EllError : Addr}
    {C_Nought : Addr} {nm_Nought q_Nought : Str} {N_Nought : Addr} {bs_Nought : List Value} {sn_Nought : List Str} {sub_Nought : List Value} {ab_Nought : Bool} {col_Nought : Option Bool} {dd_Nought : Option Addr} {m0_Nought m1_Nought m2_Nought m3_Nought m5_Nought : Option Value}
    {f1 : Addr} {od1 an1 : Option Addr} {sl1 : Array (Option Value)} {oc1 kV1 dc1 pm1 cd1 ct1 : Value}
    {C_TooHigh : Addr} {nm_TooHigh q_TooHigh : Str} {N_TooHigh : Addr} {bs_TooHigh : List Value} {sn_TooHigh : List Str} {sub_TooHigh : List Value} {ab_TooHigh : Bool} {col_TooHigh : Option Bool} {dd_TooHigh : Option Addr} {m0_TooHigh m1_TooHigh m2_TooHigh m3_TooHigh m5_TooHigh : Option Value}
    {f2 : Addr} {od2 an2 : Option Addr} {sl2 : Array (Option Value)} {oc2 kV2 dc2 pm2 cd2 ct2 : Value}
    {C_Mixed : Addr} {nm_Mixed q_Mixed : Str} {N_Mixed : Addr} {bs_Mixed : List Value} {sn_Mixed : List Str} {sub_Mixed : List Value} {ab_Mixed : Bool} {col_Mixed : Option Bool} {dd_Mixed : Option Addr} {m0_Mixed m1_Mixed m2_Mixed m3_Mixed m5_Mixed : Option Value}
    {f3 : Addr} {od3 an3 : Option Addr} {sl3 : Array (Option Value)} {oc3 kV3 dc3 pm3 cd3 ct3 : Value}
    {C_Amount : Addr}
    {f4 : Addr} {od4 an4 : Option Addr} {sl4 : Array (Option Value)} {oc4 kV4 dc4 pm4 cd4 ct4 : Value}
    {f5 : Addr} {od5 an5 : Option Addr} {sl5 : Array (Option Value)} {oc5 kV5 dc5 pm5 cd5 ct5 : Value}
    {f6 : Addr} {od6 an6 : Option Addr} {sl6 : Array (Option Value)} {oc6 kV6 dc6 pm6 cd6 ct6 : Value}
    {f7 : Addr} {od7 an7 : Option Addr} {sl7 : Array (Option Value)} {oc7 kV7 dc7 pm7 cd7 ct7 : Value}
    {f8 : Addr} {od8 an8 : Option Addr} {sl8 : Array (Option Value)} {oc8 kV8 dc8 pm8 cd8 ct8 : Value}
    {f9 : Addr} {od9 an9 : Option Addr} {sl9 : Array (Option Value)} {oc9 kV9 dc9 pm9 cd9 ct9 : Value}
    {f10 : Addr} {od10 an10 : Option Addr} {sl10 : Array (Option Value)} {oc10 kV10 dc10 pm10 cd10 ct10 : Value}
    {f11 : Addr} {od11 an11 : Option Addr} {sl11 : Array (Option Value)} {oc11 kV11 dc11 pm11 cd11 ct11 : Value}
    {p_bare : Addr} {rest : List Value}
    {f12 : Addr} {od12 an12 : Option Addr} {sl12 : Array (Option Value)} {oc12 kV12 dc12 pm12 cd12 ct12 : Value}
    {f13 : Addr} {od13 an13 : Option Addr} {sl13 : Array (Option Value)} {oc13 kV13 dc13 pm13 cd13 ct13 : Value}
    {f14 : Addr} {od14 an14 : Option Addr} {sl14 : Array (Option Value)} {oc14 kV14 dc14 pm14 cd14 ct14 : Value}
    {f15 : Addr} {od15 an15 : Option Addr} {sl15 : Array (Option Value)} {oc15 kV15 dc15 pm15 cd15 ct15 : Value}
    {f16 : Addr} {od16 an16 : Option Addr} {sl16 : Array (Option Value)} {oc16 kV16 dc16 pm16 cd16 ct16 : Value}
    {f17 : Addr} {od17 an17 : Option Addr} {sl17 : Array (Option Value)} {oc17 kV17 dc17 pm17 cd17 ct17 : Value}
    {f18 : Addr} {od18 an18 : Option Addr} {sl18 : Array (Option Value)} {oc18 kV18 dc18 pm18 cd18 ct18 : Value}
    {f19 : Addr} {od19 an19 : Option Addr} {sl19 : Array (Option Value)} {oc19 kV19 dc19 pm19 cd19 ct19 : Value}
    {f20 : Addr} {od20 an20 : Option Addr} {sl20 : Array (Option Value)} {oc20 kV20 dc20 pm20 cd20 ct20 : Value}
    {f21 : Addr} {od21 an21 : Option Addr} {sl21 : Array (Option Value)} {oc21 kV21 dc21 pm21 cd21 ct21 : Value}
    {f22 : Addr} {od22 an22 : Option Addr} {sl22 : Array (Option Value)} {oc22 kV22 dc22 pm22 cd22 ct22 : Value}
    {f23 : Addr} {od23 an23 : Option Addr} {sl23 : Array (Option Value)} {oc23 kV23 dc23 pm23 cd23 ct23 : Value}
    {f24 : Addr} {od24 an24 : Option Addr} {sl24 : Array (Option Value)} {oc24 kV24 dc24 pm24 cd24 ct24 : Value}
    {f25 : Addr} {od25 an25 : Option Addr} {sl25 : Array (Option Value)} {oc25 kV25 dc25 pm25 cd25 ct25 : Value}
    {f26 : Addr} {od26 an26 : Option Addr} {sl26 : Array (Option Value)} {oc26 kV26 dc26 pm26 cd26 ct26 : Value}
    {f27 : Addr} {od27 an27 : Option Addr} {sl27 : Array (Option Value)} {oc27 kV27 dc27 pm27 cd27 ct27 : Value}
    {f28 : Addr} {od28 an28 : Option Addr} {sl28 : Array (Option Value)} {oc28 kV28 dc28 pm28 cd28 ct28 : Value}
    {f29 : Addr} {od29 an29 : Option Addr} {sl29 : Array (Option Value)} {oc29 kV29 dc29 pm29 cd29 ct29 : Value}
    {f30 : Addr} {od30 an30 : Option Addr} {sl30 : Array (Option Value)} {oc30 kV30 dc30 pm30 cd30 ct30 : Value}
    {f31 : Addr} {od31 an31 : Option Addr} {sl31 : Array (Option Value)} {oc31 kV31 dc31 pm31 cd31 ct31 : Value}
    {f32 : Addr} {od32 an32 : Option Addr} {sl32 : Array (Option Value)} {oc32 kV32 dc32 pm32 cd32 ct32 : Value}
    {f33 : Addr} {od33 an33 : Option Addr} {sl33 : Array (Option Value)} {oc33 kV33 dc33 pm33 cd33 ct33 : Value}
    {f34 : Addr} {od34 an34 : Option Addr} {sl34 : Array (Option Value)} {oc34 kV34 dc34 pm34 cd34 ct34 : Value}
    {f35 : Addr} {od35 an35 : Option Addr} {sl35 : Array (Option Value)} {oc35 kV35 dc35 pm35 cd35 ct35 : Value}
    {f36 : Addr} {od36 an36 : Option Addr} {sl36 : Array (Option Value)} {oc36 kV36 dc36 pm36 cd36 ct36 : Value}
    {f37 : Addr} {od37 an37 : Option Addr} {sl37 : Array (Option Value)} {oc37 kV37 dc37 pm37 cd37 ct37 : Value}
    {f38 : Addr} {od38 an38 : Option Addr} {sl38 : Array (Option Value)} {oc38 kV38 dc38 pm38 cd38 ct38 : Value}
    {f39 : Addr} {od39 an39 : Option Addr} {sl39 : Array (Option Value)} {oc39 kV39 dc39 pm39 cd39 ct39 : Value}
    {f40 : Addr} {od40 an40 : Option Addr} {sl40 : Array (Option Value)} {oc40 kV40 dc40 pm40 cd40 ct40 : Value}
    {f41 : Addr} {od41 an41 : Option Addr} {sl41 : Array (Option Value)} {oc41 kV41 dc41 pm41 cd41 ct41 : Value}
    {f42 : Addr} {od42 an42 : Option Addr} {sl42 : Array (Option Value)} {oc42 kV42 dc42 pm42 cd42 ct42 : Value}
    {f43 : Addr} {od43 an43 : Option Addr} {sl43 : Array (Option Value)} {oc43 kV43 dc43 pm43 cd43 ct43 : Value}
    {f44 : Addr} {od44 an44 : Option Addr} {sl44 : Array (Option Value)} {oc44 kV44 dc44 pm44 cd44 ct44 : Value}
    {f45 : Addr} {od45 an45 : Option Addr} {sl45 : Array (Option Value)} {oc45 kV45 dc45 pm45 cd45 ct45 : Value}
    {f46 : Addr} {od46 an46 : Option Addr} {sl46 : Array (Option Value)} {oc46 kV46 dc46 pm46 cd46 ct46 : Value}
    {f47 : Addr} {od47 an47 : Option Addr} {sl47 : Array (Option Value)} {oc47 kV47 dc47 pm47 cd47 ct47 : Value}
    {f48 : Addr} {od48 an48 : Option Addr} {sl48 : Array (Option Value)} {oc48 kV48 dc48 pm48 cd48 ct48 : Value}
    {f49 : Addr} {od49 an49 : Option Addr} {sl49 : Array (Option Value)} {oc49 kV49 dc49 pm49 cd49 ct49 : Value}
    {f50 : Addr} {od50 an50 : Option Addr} {sl50 : Array (Option Value)} {oc50 kV50 dc50 pm50 cd50 ct50 : Value}
    {f51 : Addr} {od51 an51 : Option Addr} {sl51 : Array (Option Value)} {oc51 kV51 dc51 pm51 cd51 ct51 : Value}
    {f52 TT : Addr} {od52 an52 : Option Addr} {sl52 : Array (Option Value)} {oc52 kV52 dc52 pm52 cd52 ct52 : Value} {tD : Tok} {nD0 : Nat} {odT : Option Addr} {ocT : Value} {slT : Array (Option Value)}
    {f53 : Addr} {od53 an53 : Option Addr} {sl53 : Array (Option Value)} {oc53 kV53 dc53 pm53 cd53 ct53 : Value}
    (z_isinstance : PySem.W.nsIn K mainGlobals "isinstance" = some none)
    (z_int : PySem.W.nsIn K mainGlobals "int" = some none)
    (z_bool : PySem.W.nsIn K mainGlobals "bool" = some none)
    (z_tuple : PySem.W.nsIn K mainGlobals "tuple" = some none)
    (z_len : PySem.W.nsIn K mainGlobals "len" = some none)
    (z_all : PySem.W.nsIn K mainGlobals "all" = some none)
    (z_abs : PySem.W.nsIn K mainGlobals "abs" = some none)
    (z_range : PySem.W.nsIn K mainGlobals "range" = some none)
    (z_zip : PySem.W.nsIn K mainGlobals "zip" = some none)
    (z_ValueError : PySem.W.nsIn K mainGlobals "ValueError" = some none)
    (zgcd : PySem.W.nsIn K mainGlobals "gcd" = some (some (.builtin "math.gcd")))
    (zH : PySem.W.nsIn K mainGlobals "HIGHEST" = some (some (.int 9 tH)))
    (gg0 : PySem.W.specialIn K (.builtin "object.__class__") "__get__" = some (some (.builtin "getset_descriptor.__get__")))
    (tk0 : PySem.W.takesIn K (.builtin "object.__class__") = some true)
    (a_EllError : PySem.W.nsIn K mainGlobals "EllError" = some (some (.ref C_EllError)))
    (ic_EllError : PySem.W.isClsIn K C_EllError = true)
    (tC_EllError : PySem.W.typeIn K (.ref C_EllError) = some (.type "type"))
    (a_Nought : PySem.W.nsIn K mainGlobals "Nought" = some (some (.ref C_Nought)))
    (x_Nought : K.lookup C_Nought = some (excClassObj nm_Nought q_Nought C_Nought N_Nought bs_Nought [.ref C_EllError, .type "ValueError", .type "Exception", .type "BaseException", .type "object"] true sn_Nought sub_Nought ab_Nought col_Nought dd_Nought m0_Nought m1_Nought m2_Nought m3_Nought m5_Nought "ValueError.__new__"))
    (sa_Nought : PySem.W.findIn K (.ref C_Nought) "__setattr__" = some (some (.builtin "object.__setattr__")))
    (ga_Nought : PySem.W.findIn K (.ref C_Nought) "__getattribute__" = some (some (.builtin "BaseException.__getattribute__")))
    (gt_Nought : PySem.W.findIn K (.ref C_Nought) "__getattr__" = some none)
    (ca_Nought : PySem.W.findIn K (.ref C_Nought) "__class__" = some (some (.builtin "object.__class__")))
    (kC_Nought : PySem.W.keepIn K (.ref C_Nought) = true)
    (eC_Nought : PySem.W.subIn K (.ref C_Nought) (.type "BaseException") = some true)
    (vC_Nought : PySem.W.subIn K (.ref C_Nought) (.type "ValueError") = some true)
    (lC_Nought : PySem.W.subIn K (.ref C_Nought) (.ref C_EllError) = some true)
    (tC_Nought : PySem.W.typeIn K (.ref C_Nought) = some (.type "type"))
    (hC_Nought : PySem.W.hasDictIn K C_Nought = true)
    (ic_Nought : PySem.W.isClsIn K C_Nought = true)
    (mo_Nought : PySem.W.mroIn K C_Nought (.type "object") = some true)
    (no_Nought_number : PySem.W.findIn K (.ref C_Nought) "number" = some none)
    (a1 : PySem.W.findIn K (.ref C_Nought) "__init__" = some (some (.ref f1)))
    (t1 : PySem.W.typeIn K (.ref f1) = some (.type "function"))
    (l1 : K.lookup f1 = some ⟨oc1, od1, .func (PySem.W.fnOf "__init__" "Nought.__init__" (defArgs s_NoughtD_initD) (defBody s_NoughtD_initD) (defScope s_NoughtD_initD) .none kV1 dc1 pm1 an1 cd1 ct1), sl1⟩)
    (c1 : PySem.W.codeIn K cd1 "Nought.__init__" = true)
    (k1 : PySem.W.keepIn K (.ref f1) = true)
    (a_TooHigh : PySem.W.nsIn K mainGlobals "TooHigh" = some (some (.ref C_TooHigh)))
    (x_TooHigh : K.lookup C_TooHigh = some (excClassObj nm_TooHigh q_TooHigh C_TooHigh N_TooHigh bs_TooHigh [.ref C_EllError, .type "ValueError", .type "Exception", .type "BaseException", .type "object"] true sn_TooHigh sub_TooHigh ab_TooHigh col_TooHigh dd_TooHigh m0_TooHigh m1_TooHigh m2_TooHigh m3_TooHigh m5_TooHigh "ValueError.__new__"))
    (sa_TooHigh : PySem.W.findIn K (.ref C_TooHigh) "__setattr__" = some (some (.builtin "object.__setattr__")))
    (ga_TooHigh : PySem.W.findIn K (.ref C_TooHigh) "__getattribute__" = some (some (.builtin "BaseException.__getattribute__")))
    (gt_TooHigh : PySem.W.findIn K (.ref C_TooHigh) "__getattr__" = some none)
    (ca_TooHigh : PySem.W.findIn K (.ref C_TooHigh) "__class__" = some (some (.builtin "object.__class__")))
    (kC_TooHigh : PySem.W.keepIn K (.ref C_TooHigh) = true)
    (eC_TooHigh : PySem.W.subIn K (.ref C_TooHigh) (.type "BaseException") = some true)
    (vC_TooHigh : PySem.W.subIn K (.ref C_TooHigh) (.type "ValueError") = some true)
    (lC_TooHigh : PySem.W.subIn K (.ref C_TooHigh) (.ref C_EllError) = some true)
    (tC_TooHigh : PySem.W.typeIn K (.ref C_TooHigh) = some (.type "type"))
    (hC_TooHigh : PySem.W.hasDictIn K C_TooHigh = true)
    (ic_TooHigh : PySem.W.isClsIn K C_TooHigh = true)
    (mo_TooHigh : PySem.W.mroIn K C_TooHigh (.type "object") = some true)
    (no_TooHigh_dimension : PySem.W.findIn K (.ref C_TooHigh) "dimension" = some none)
    (a2 : PySem.W.findIn K (.ref C_TooHigh) "__init__" = some (some (.ref f2)))
    (t2 : PySem.W.typeIn K (.ref f2) = some (.type "function"))
    (l2 : K.lookup f2 = some ⟨oc2, od2, .func (PySem.W.fnOf "__init__" "TooHigh.__init__" (defArgs s_TooHighD_initD) (defBody s_TooHighD_initD) (defScope s_TooHighD_initD) .none kV2 dc2 pm2 an2 cd2 ct2), sl2⟩)
    (c2 : PySem.W.codeIn K cd2 "TooHigh.__init__" = true)
    (k2 : PySem.W.keepIn K (.ref f2) = true)
    (a_Mixed : PySem.W.nsIn K mainGlobals "Mixed" = some (some (.ref C_Mixed)))
    (x_Mixed : K.lookup C_Mixed = some (excClassObj nm_Mixed q_Mixed C_Mixed N_Mixed bs_Mixed [.ref C_EllError, .type "ValueError", .type "Exception", .type "BaseException", .type "object"] true sn_Mixed sub_Mixed ab_Mixed col_Mixed dd_Mixed m0_Mixed m1_Mixed m2_Mixed m3_Mixed m5_Mixed "ValueError.__new__"))
    (sa_Mixed : PySem.W.findIn K (.ref C_Mixed) "__setattr__" = some (some (.builtin "object.__setattr__")))
    (ga_Mixed : PySem.W.findIn K (.ref C_Mixed) "__getattribute__" = some (some (.builtin "BaseException.__getattribute__")))
    (gt_Mixed : PySem.W.findIn K (.ref C_Mixed) "__getattr__" = some none)
    (ca_Mixed : PySem.W.findIn K (.ref C_Mixed) "__class__" = some (some (.builtin "object.__class__")))
    (kC_Mixed : PySem.W.keepIn K (.ref C_Mixed) = true)
    (eC_Mixed : PySem.W.subIn K (.ref C_Mixed) (.type "BaseException") = some true)
    (vC_Mixed : PySem.W.subIn K (.ref C_Mixed) (.type "ValueError") = some true)
    (lC_Mixed : PySem.W.subIn K (.ref C_Mixed) (.ref C_EllError) = some true)
    (tC_Mixed : PySem.W.typeIn K (.ref C_Mixed) = some (.type "type"))
    (hC_Mixed : PySem.W.hasDictIn K C_Mixed = true)
    (ic_Mixed : PySem.W.isClsIn K C_Mixed = true)
    (mo_Mixed : PySem.W.mroIn K C_Mixed (.type "object") = some true)
    (no_Mixed_left : PySem.W.findIn K (.ref C_Mixed) "left" = some none)
    (no_Mixed_right : PySem.W.findIn K (.ref C_Mixed) "right" = some none)
    (a3 : PySem.W.findIn K (.ref C_Mixed) "__init__" = some (some (.ref f3)))
    (t3 : PySem.W.typeIn K (.ref f3) = some (.type "function"))
    (l3 : K.lookup f3 = some ⟨oc3, od3, .func (PySem.W.fnOf "__init__" "Mixed.__init__" (defArgs s_MixedD_initD) (defBody s_MixedD_initD) (defScope s_MixedD_initD) .none kV3 dc3 pm3 an3 cd3 ct3), sl3⟩)
    (c3 : PySem.W.codeIn K cd3 "Mixed.__init__" = true)
    (k3 : PySem.W.keepIn K (.ref f3) = true)
    (s_Nought_Mixed : PySem.W.subIn K (.ref C_Nought) (.ref C_Mixed) = some false)
    (ne_Nought_Mixed : C_Nought ≠ C_Mixed)
    (s_Nought_TooHigh : PySem.W.subIn K (.ref C_Nought) (.ref C_TooHigh) = some false)
    (ne_Nought_TooHigh : C_Nought ≠ C_TooHigh)
    (s_Nought_Nought : PySem.W.subIn K (.ref C_Nought) (.ref C_Nought) = some true)
    (s_TooHigh_Mixed : PySem.W.subIn K (.ref C_TooHigh) (.ref C_Mixed) = some false)
    (ne_TooHigh_Mixed : C_TooHigh ≠ C_Mixed)
    (s_TooHigh_Nought : PySem.W.subIn K (.ref C_TooHigh) (.ref C_Nought) = some false)
    (ne_TooHigh_Nought : C_TooHigh ≠ C_Nought)
    (s_TooHigh_TooHigh : PySem.W.subIn K (.ref C_TooHigh) (.ref C_TooHigh) = some true)
    (s_Mixed_TooHigh : PySem.W.subIn K (.ref C_Mixed) (.ref C_TooHigh) = some false)
    (ne_Mixed_TooHigh : C_Mixed ≠ C_TooHigh)
    (s_Mixed_Nought : PySem.W.subIn K (.ref C_Mixed) (.ref C_Nought) = some false)
    (ne_Mixed_Nought : C_Mixed ≠ C_Nought)
    (s_Mixed_Mixed : PySem.W.subIn K (.ref C_Mixed) (.ref C_Mixed) = some true)
    (a_Amount : PySem.W.nsIn K mainGlobals "Amount" = some (some (.ref C_Amount)))
    (pg : PySem.W.plainGet K C_Amount Str.empty = true)
    (hd : PySem.W.hasDictIn K C_Amount = true)
    (po : PySem.W.plainOver K C_Amount = true)
    (sa : PySem.W.findIn K (.ref C_Amount) "__setattr__" = some (some (.builtin "object.__setattr__")))
    (ca : PySem.W.findIn K (.ref C_Amount) "__class__" = some (some (.builtin "object.__class__")))
    (mo : PySem.W.mroIn K C_Amount (.type "object") = some true)
    (nN : PySem.W.findIn K (.ref C_Amount) "number" = some none)
    (nD : PySem.W.findIn K (.ref C_Amount) "dimension" = some none)
    (sf : PySem.W.selfFirst K C_Amount = true)
    (nft : PySem.W.notFirst K C_Amount (.type "tuple") = true)
    (ic : PySem.W.isClsIn K C_Amount = true)
    (tC : PySem.W.typeIn K (.ref C_Amount) = some (.type "type"))
    (tA : PySem.W.subIn K (.type "tuple") (.ref C_Amount) = some false)
    (mk : PySem.W.makesIn K C_Amount = true)
    (kc : PySem.W.keepIn K (.ref C_Amount) = true)
    (a4 : PySem.W.findIn K (.ref C_Amount) "__init__" = some (some (.ref f4)))
    (i4 : PySem.W.isFn K (.ref f4) = true)
    (l4 : K.lookup f4 = some ⟨oc4, od4, .func (PySem.W.fnOf "__init__" "Amount.__init__" (defArgs s_AmountD_initD) (defBody s_AmountD_initD) (defScope s_AmountD_initD) .none kV4 dc4 pm4 an4 cd4 ct4), sl4⟩)
    (c4 : PySem.W.codeIn K cd4 "Amount.__init__" = true)
    (k4 : PySem.W.keepIn K (.ref f4) = true)
    (a5 : PySem.W.findIn K (.ref C_Amount) (PySem.dunder Operator.Add.info.2) = some (some (.ref f5)))
    (i5 : PySem.W.isFn K (.ref f5) = true)
    (l5 : K.lookup f5 = some ⟨oc5, od5, .func (PySem.W.fnOf "__add__" "Amount.__add__" (defArgs s_AmountD_addD) (defBody s_AmountD_addD) (defScope s_AmountD_addD) .none kV5 dc5 pm5 an5 cd5 ct5), sl5⟩)
    (c5 : PySem.W.codeIn K cd5 "Amount.__add__" = true)
    (k5 : PySem.W.keepIn K (.ref f5) = true)
    (a6 : PySem.W.findIn K (.ref C_Amount) (PySem.dunder Operator.Sub.info.2) = some (some (.ref f6)))
    (i6 : PySem.W.isFn K (.ref f6) = true)
    (l6 : K.lookup f6 = some ⟨oc6, od6, .func (PySem.W.fnOf "__sub__" "Amount.__sub__" (defArgs s_AmountD_subD) (defBody s_AmountD_subD) (defScope s_AmountD_subD) .none kV6 dc6 pm6 an6 cd6 ct6), sl6⟩)
    (c6 : PySem.W.codeIn K cd6 "Amount.__sub__" = true)
    (k6 : PySem.W.keepIn K (.ref f6) = true)
    (a7 : PySem.W.findIn K (.ref C_Amount) (PySem.dunder Operator.Mult.info.2) = some (some (.ref f7)))
    (i7 : PySem.W.isFn K (.ref f7) = true)
    (l7 : K.lookup f7 = some ⟨oc7, od7, .func (PySem.W.fnOf "__mul__" "Amount.__mul__" (defArgs s_AmountD_mulD) (defBody s_AmountD_mulD) (defScope s_AmountD_mulD) .none kV7 dc7 pm7 an7 cd7 ct7), sl7⟩)
    (c7 : PySem.W.codeIn K cd7 "Amount.__mul__" = true)
    (k7 : PySem.W.keepIn K (.ref f7) = true)
    (a8 : PySem.W.findIn K (.ref C_Amount) (PySem.dunder Operator.FloorDiv.info.2) = some (some (.ref f8)))
    (i8 : PySem.W.isFn K (.ref f8) = true)
    (l8 : K.lookup f8 = some ⟨oc8, od8, .func (PySem.W.fnOf "__floordiv__" "Amount.__floordiv__" (defArgs s_AmountD_floordivD) (defBody s_AmountD_floordivD) (defScope s_AmountD_floordivD) .none kV8 dc8 pm8 an8 cd8 ct8), sl8⟩)
    (c8 : PySem.W.codeIn K cd8 "Amount.__floordiv__" = true)
    (k8 : PySem.W.keepIn K (.ref f8) = true)
    (a9 : PySem.W.findIn K (.ref C_Amount) "__neg__" = some (some (.ref f9)))
    (i9 : PySem.W.isFn K (.ref f9) = true)
    (l9 : K.lookup f9 = some ⟨oc9, od9, .func (PySem.W.fnOf "__neg__" "Amount.__neg__" (defArgs s_AmountD_negD) (defBody s_AmountD_negD) (defScope s_AmountD_negD) .none kV9 dc9 pm9 an9 cd9 ct9), sl9⟩)
    (c9 : PySem.W.codeIn K cd9 "Amount.__neg__" = true)
    (k9 : PySem.W.keepIn K (.ref f9) = true)
    (a10 : PySem.W.findIn K (.ref C_Amount) "__eq__" = some (some (.ref f10)))
    (i10 : PySem.W.isFn K (.ref f10) = true)
    (l10 : K.lookup f10 = some ⟨oc10, od10, .func (PySem.W.fnOf "__eq__" "Amount.__eq__" (defArgs s_AmountD_eqD) (defBody s_AmountD_eqD) (defScope s_AmountD_eqD) .none kV10 dc10 pm10 an10 cd10 ct10), sl10⟩)
    (c10 : PySem.W.codeIn K cd10 "Amount.__eq__" = true)
    (k10 : PySem.W.keepIn K (.ref f10) = true)
    (a11 : PySem.W.findIn K (.ref C_Amount) "compared" = some (some (.ref f11)))
    (i11 : PySem.W.isFn K (.ref f11) = true)
    (l11 : K.lookup f11 = some ⟨oc11, od11, .func (PySem.W.fnOf "compared" "Amount.compared" (defArgs s_Amount_compared) (defBody s_Amount_compared) (defScope s_Amount_compared) .none kV11 dc11 pm11 an11 cd11 ct11), sl11⟩)
    (c11 : PySem.W.codeIn K cd11 "Amount.compared" = true)
    (k11 : PySem.W.keepIn K (.ref f11) = true)
    (sm_at : PySem.W.findIn K (.ref C_Amount) "bare" = some (some (.ref p_bare)))
    (sm_ty : PySem.W.typeIn K (.ref p_bare) = some (.type "staticmethod"))
    (sm_gt : PySem.W.specialIn K (.ref p_bare) "__get__" = some (some (.builtin "staticmethod.__get__")))
    (sm_tk : PySem.W.takesIn K (.ref p_bare) = some false)
    (sm_rc : PySem.W.recIn K p_bare "staticmethod" = some (.ref f12 :: rest))
    (l12 : K.lookup f12 = some ⟨oc12, od12, .func (PySem.W.fnOf "bare" "Amount.bare" (defArgs s_Amount_bare) (defBody s_Amount_bare) (defScope s_Amount_bare) .none kV12 dc12 pm12 an12 cd12 ct12), sl12⟩)
    (c12 : PySem.W.codeIn K cd12 "Amount.bare" = true)
    (k12 : PySem.W.keepIn K (.ref f12) = true)
    (sm_rd : PySem.W.readsIn K C_Amount (.type "type") = true)
    (sm_ga : PySem.W.specialIn K (.ref C_Amount) "__getattribute__" = some (some (.builtin "type.__getattribute__")))
    (sm_off : PySem.W.findCls K (.ref C_Amount) (.type "type") "bare" = some (.get (.builtin "staticmethod.__get__") (.ref p_bare) .none (.ref C_Amount)))
    (a13 : PySem.W.nsIn K mainGlobals "is_integer" = some (some (.ref f13)))
    (l13 : K.lookup f13 = some ⟨oc13, od13, .func (PySem.W.fnOf "is_integer" "is_integer" (defArgs s_is_integer) (defBody s_is_integer) (defScope s_is_integer) .none kV13 dc13 pm13 an13 cd13 ct13), sl13⟩)
    (c13 : PySem.W.codeIn K cd13 "is_integer" = true)
    (k13 : PySem.W.keepIn K (.ref f13) = true)
    (a14 : PySem.W.nsIn K mainGlobals "is_within" = some (some (.ref f14)))
    (l14 : K.lookup f14 = some ⟨oc14, od14, .func (PySem.W.fnOf "is_within" "is_within" (defArgs s_is_within) (defBody s_is_within) (defScope s_is_within) .none kV14 dc14 pm14 an14 cd14 ct14), sl14⟩)
    (c14 : PySem.W.codeIn K cd14 "is_within" = true)
    (k14 : PySem.W.keepIn K (.ref f14) = true)
    (a15 : PySem.W.nsIn K mainGlobals "is_tuple_of" = some (some (.ref f15)))
    (l15 : K.lookup f15 = some ⟨oc15, od15, .func (PySem.W.fnOf "is_tuple_of" "is_tuple_of" (defArgs s_is_tuple_of) (defBody s_is_tuple_of) (defScope s_is_tuple_of) .none kV15 dc15 pm15 an15 cd15 ct15), sl15⟩)
    (c15 : PySem.W.codeIn K cd15 "is_tuple_of" = true)
    (k15 : PySem.W.keepIn K (.ref f15) = true)
    (a16 : PySem.W.nsIn K mainGlobals "is_dimension" = some (some (.ref f16)))
    (l16 : K.lookup f16 = some ⟨oc16, od16, .func (PySem.W.fnOf "is_dimension" "is_dimension" (defArgs s_is_dimension) (defBody s_is_dimension) (defScope s_is_dimension) .none kV16 dc16 pm16 an16 cd16 ct16), sl16⟩)
    (c16 : PySem.W.codeIn K cd16 "is_dimension" = true)
    (k16 : PySem.W.keepIn K (.ref f16) = true)
    (a17 : PySem.W.nsIn K mainGlobals "_is_exponent" = some (some (.ref f17)))
    (l17 : K.lookup f17 = some ⟨oc17, od17, .func (PySem.W.fnOf "_is_exponent" "_is_exponent" (defArgs s__is_exponent) (defBody s__is_exponent) (defScope s__is_exponent) .none kV17 dc17 pm17 an17 cd17 ct17), sl17⟩)
    (c17 : PySem.W.codeIn K cd17 "_is_exponent" = true)
    (k17 : PySem.W.keepIn K (.ref f17) = true)
    (a18 : PySem.W.nsIn K mainGlobals "multiplied" = some (some (.ref f18)))
    (l18 : K.lookup f18 = some ⟨oc18, od18, .func (PySem.W.fnOf "multiplied" "multiplied" (defArgs s_multiplied) (defBody s_multiplied) (defScope s_multiplied) .none kV18 dc18 pm18 an18 cd18 ct18), sl18⟩)
    (c18 : PySem.W.codeIn K cd18 "multiplied" = true)
    (k18 : PySem.W.keepIn K (.ref f18) = true)
    (a19 : PySem.W.nsIn K mainGlobals "divided" = some (some (.ref f19)))
    (l19 : K.lookup f19 = some ⟨oc19, od19, .func (PySem.W.fnOf "divided" "divided" (defArgs s_divided) (defBody s_divided) (defScope s_divided) .none kV19 dc19 pm19 an19 cd19 ct19), sl19⟩)
    (c19 : PySem.W.codeIn K cd19 "divided" = true)
    (k19 : PySem.W.keepIn K (.ref f19) = true)
    (a20 : PySem.W.nsIn K mainGlobals "_checked" = some (some (.ref f20)))
    (l20 : K.lookup f20 = some ⟨oc20, od20, .func (PySem.W.fnOf "_checked" "_checked" (defArgs s__checked) (defBody s__checked) (defScope s__checked) .none kV20 dc20 pm20 an20 cd20 ct20), sl20⟩)
    (c20 : PySem.W.codeIn K cd20 "_checked" = true)
    (k20 : PySem.W.keepIn K (.ref f20) = true)
    (a21 : PySem.W.nsIn K mainGlobals "plus" = some (some (.ref f21)))
    (l21 : K.lookup f21 = some ⟨oc21, od21, .func (PySem.W.fnOf "plus" "plus" (defArgs s_plus) (defBody s_plus) (defScope s_plus) .none kV21 dc21 pm21 an21 cd21 ct21), sl21⟩)
    (c21 : PySem.W.codeIn K cd21 "plus" = true)
    (k21 : PySem.W.keepIn K (.ref f21) = true)
    (a22 : PySem.W.nsIn K mainGlobals "minus" = some (some (.ref f22)))
    (l22 : K.lookup f22 = some ⟨oc22, od22, .func (PySem.W.fnOf "minus" "minus" (defArgs s_minus) (defBody s_minus) (defScope s_minus) .none kV22 dc22 pm22 an22 cd22 ct22), sl22⟩)
    (c22 : PySem.W.codeIn K cd22 "minus" = true)
    (k22 : PySem.W.keepIn K (.ref f22) = true)
    (a23 : PySem.W.nsIn K mainGlobals "times" = some (some (.ref f23)))
    (l23 : K.lookup f23 = some ⟨oc23, od23, .func (PySem.W.fnOf "times" "times" (defArgs s_times) (defBody s_times) (defScope s_times) .none kV23 dc23 pm23 an23 cd23 ct23), sl23⟩)
    (c23 : PySem.W.codeIn K cd23 "times" = true)
    (k23 : PySem.W.keepIn K (.ref f23) = true)
    (a24 : PySem.W.nsIn K mainGlobals "over" = some (some (.ref f24)))
    (l24 : K.lookup f24 = some ⟨oc24, od24, .func (PySem.W.fnOf "over" "over" (defArgs s_over) (defBody s_over) (defScope s_over) .none kV24 dc24 pm24 an24 cd24 ct24), sl24⟩)
    (c24 : PySem.W.codeIn K cd24 "over" = true)
    (k24 : PySem.W.keepIn K (.ref f24) = true)
    (a25 : PySem.W.nsIn K mainGlobals "compare" = some (some (.ref f25)))
    (l25 : K.lookup f25 = some ⟨oc25, od25, .func (PySem.W.fnOf "compare" "compare" (defArgs s_compare) (defBody s_compare) (defScope s_compare) .none kV25 dc25 pm25 an25 cd25 ct25), sl25⟩)
    (c25 : PySem.W.codeIn K cd25 "compare" = true)
    (k25 : PySem.W.keepIn K (.ref f25) = true)
    (a26 : PySem.W.nsIn K mainGlobals "_ask_for_one" = some (some (.ref f26)))
    (l26 : K.lookup f26 = some ⟨oc26, od26, .func (PySem.W.fnOf "_ask_for_one" "_ask_for_one" (defArgs s__ask_for_one) (defBody s__ask_for_one) (defScope s__ask_for_one) .none kV26 dc26 pm26 an26 cd26 ct26), sl26⟩)
    (c26 : PySem.W.codeIn K cd26 "_ask_for_one" = true)
    (k26 : PySem.W.keepIn K (.ref f26) = true)
    (a27 : PySem.W.nsIn K mainGlobals "_law_bag_of" = some (some (.ref f27)))
    (l27 : K.lookup f27 = some ⟨oc27, od27, .func (PySem.W.fnOf "_law_bag_of" "_law_bag_of" (defArgs s__law_bag_of) (defBody s__law_bag_of) (defScope s__law_bag_of) .none kV27 dc27 pm27 an27 cd27 ct27), sl27⟩)
    (c27 : PySem.W.codeIn K cd27 "_law_bag_of" = true)
    (k27 : PySem.W.keepIn K (.ref f27) = true)
    (a28 : PySem.W.nsIn K mainGlobals "_law_pick" = some (some (.ref f28)))
    (l28 : K.lookup f28 = some ⟨oc28, od28, .func (PySem.W.fnOf "_law_pick" "_law_pick" (defArgs s__law_pick) (defBody s__law_pick) (defScope s__law_pick) .none kV28 dc28 pm28 an28 cd28 ct28), sl28⟩)
    (c28 : PySem.W.codeIn K cd28 "_law_pick" = true)
    (k28 : PySem.W.keepIn K (.ref f28) = true)
    (a29 : PySem.W.nsIn K mainGlobals "_law_choice" = some (some (.ref f29)))
    (l29 : K.lookup f29 = some ⟨oc29, od29, .func (PySem.W.fnOf "_law_choice" "_law_choice" (defArgs s__law_choice) (defBody s__law_choice) (defScope s__law_choice) .none kV29 dc29 pm29 an29 cd29 ct29), sl29⟩)
    (c29 : PySem.W.codeIn K cd29 "_law_choice" = true)
    (k29 : PySem.W.keepIn K (.ref f29) = true)
    (a30 : PySem.W.nsIn K mainGlobals "_law_one_in" = some (some (.ref f30)))
    (l30 : K.lookup f30 = some ⟨oc30, od30, .func (PySem.W.fnOf "_law_one_in" "_law_one_in" (defArgs s__law_one_in) (defBody s__law_one_in) (defScope s__law_one_in) .none kV30 dc30 pm30 an30 cd30 ct30), sl30⟩)
    (c30 : PySem.W.codeIn K cd30 "_law_one_in" = true)
    (k30 : PySem.W.keepIn K (.ref f30) = true)
    (a31 : PySem.W.nsIn K mainGlobals "_law_integer" = some (some (.ref f31)))
    (l31 : K.lookup f31 = some ⟨oc31, od31, .func (PySem.W.fnOf "_law_integer" "_law_integer" (defArgs s__law_integer) (defBody s__law_integer) (defScope s__law_integer) .none kV31 dc31 pm31 an31 cd31 ct31), sl31⟩)
    (c31 : PySem.W.codeIn K cd31 "_law_integer" = true)
    (k31 : PySem.W.keepIn K (.ref f31) = true)
    (a32 : PySem.W.nsIn K mainGlobals "_law_gcd" = some (some (.ref f32)))
    (l32 : K.lookup f32 = some ⟨oc32, od32, .func (PySem.W.fnOf "_law_gcd" "_law_gcd" (defArgs s__law_gcd) (defBody s__law_gcd) (defScope s__law_gcd) .none kV32 dc32 pm32 an32 cd32 ct32), sl32⟩)
    (c32 : PySem.W.codeIn K cd32 "_law_gcd" = true)
    (k32 : PySem.W.keepIn K (.ref f32) = true)
    (a33 : PySem.W.nsIn K mainGlobals "_law_ratio" = some (some (.ref f33)))
    (l33 : K.lookup f33 = some ⟨oc33, od33, .func (PySem.W.fnOf "_law_ratio" "_law_ratio" (defArgs s__law_ratio) (defBody s__law_ratio) (defScope s__law_ratio) .none kV33 dc33 pm33 an33 cd33 ct33), sl33⟩)
    (c33 : PySem.W.codeIn K cd33 "_law_ratio" = true)
    (k33 : PySem.W.keepIn K (.ref f33) = true)
    (a34 : PySem.W.nsIn K mainGlobals "_law_is_ratio" = some (some (.ref f34)))
    (l34 : K.lookup f34 = some ⟨oc34, od34, .func (PySem.W.fnOf "_law_is_ratio" "_law_is_ratio" (defArgs s__law_is_ratio) (defBody s__law_is_ratio) (defScope s__law_is_ratio) .none kV34 dc34 pm34 an34 cd34 ct34), sl34⟩)
    (c34 : PySem.W.codeIn K cd34 "_law_is_ratio" = true)
    (k34 : PySem.W.keepIn K (.ref f34) = true)
    (a35 : PySem.W.nsIn K mainGlobals "_law_plus" = some (some (.ref f35)))
    (l35 : K.lookup f35 = some ⟨oc35, od35, .func (PySem.W.fnOf "_law_plus" "_law_plus" (defArgs s__law_plus) (defBody s__law_plus) (defScope s__law_plus) .none kV35 dc35 pm35 an35 cd35 ct35), sl35⟩)
    (c35 : PySem.W.codeIn K cd35 "_law_plus" = true)
    (k35 : PySem.W.keepIn K (.ref f35) = true)
    (a36 : PySem.W.nsIn K mainGlobals "_law_minus" = some (some (.ref f36)))
    (l36 : K.lookup f36 = some ⟨oc36, od36, .func (PySem.W.fnOf "_law_minus" "_law_minus" (defArgs s__law_minus) (defBody s__law_minus) (defScope s__law_minus) .none kV36 dc36 pm36 an36 cd36 ct36), sl36⟩)
    (c36 : PySem.W.codeIn K cd36 "_law_minus" = true)
    (k36 : PySem.W.keepIn K (.ref f36) = true)
    (a37 : PySem.W.nsIn K mainGlobals "_law_times" = some (some (.ref f37)))
    (l37 : K.lookup f37 = some ⟨oc37, od37, .func (PySem.W.fnOf "_law_times" "_law_times" (defArgs s__law_times) (defBody s__law_times) (defScope s__law_times) .none kV37 dc37 pm37 an37 cd37 ct37), sl37⟩)
    (c37 : PySem.W.codeIn K cd37 "_law_times" = true)
    (k37 : PySem.W.keepIn K (.ref f37) = true)
    (a38 : PySem.W.nsIn K mainGlobals "_law_over" = some (some (.ref f38)))
    (l38 : K.lookup f38 = some ⟨oc38, od38, .func (PySem.W.fnOf "_law_over" "_law_over" (defArgs s__law_over) (defBody s__law_over) (defScope s__law_over) .none kV38 dc38 pm38 an38 cd38 ct38), sl38⟩)
    (c38 : PySem.W.codeIn K cd38 "_law_over" = true)
    (k38 : PySem.W.keepIn K (.ref f38) = true)
    (a39 : PySem.W.nsIn K mainGlobals "_law_less" = some (some (.ref f39)))
    (l39 : K.lookup f39 = some ⟨oc39, od39, .func (PySem.W.fnOf "_law_less" "_law_less" (defArgs s__law_less) (defBody s__law_less) (defScope s__law_less) .none kV39 dc39 pm39 an39 cd39 ct39), sl39⟩)
    (c39 : PySem.W.codeIn K cd39 "_law_less" = true)
    (k39 : PySem.W.keepIn K (.ref f39) = true)
    (a40 : PySem.W.nsIn K mainGlobals "_law_number_of" = some (some (.ref f40)))
    (l40 : K.lookup f40 = some ⟨oc40, od40, .func (PySem.W.fnOf "_law_number_of" "_law_number_of" (defArgs s__law_number_of) (defBody s__law_number_of) (defScope s__law_number_of) .none kV40 dc40 pm40 an40 cd40 ct40), sl40⟩)
    (c40 : PySem.W.codeIn K cd40 "_law_number_of" = true)
    (k40 : PySem.W.keepIn K (.ref f40) = true)
    (a41 : PySem.W.nsIn K mainGlobals "_law_dimension_of" = some (some (.ref f41)))
    (l41 : K.lookup f41 = some ⟨oc41, od41, .func (PySem.W.fnOf "_law_dimension_of" "_law_dimension_of" (defArgs s__law_dimension_of) (defBody s__law_dimension_of) (defScope s__law_dimension_of) .none kV41 dc41 pm41 an41 cd41 ct41), sl41⟩)
    (c41 : PySem.W.codeIn K cd41 "_law_dimension_of" = true)
    (k41 : PySem.W.keepIn K (.ref f41) = true)
    (a42 : PySem.W.nsIn K mainGlobals "_law_pairs_drawn" = some (some (.ref f42)))
    (l42 : K.lookup f42 = some ⟨oc42, od42, .func (PySem.W.fnOf "_law_pairs_drawn" "_law_pairs_drawn" (defArgs s__law_pairs_drawn) (defBody s__law_pairs_drawn) (defScope s__law_pairs_drawn) .none kV42 dc42 pm42 an42 cd42 ct42), sl42⟩)
    (c42 : PySem.W.codeIn K cd42 "_law_pairs_drawn" = true)
    (k42 : PySem.W.keepIn K (.ref f42) = true)
    (a43 : PySem.W.nsIn K mainGlobals "_law_high" = some (some (.ref f43)))
    (l43 : K.lookup f43 = some ⟨oc43, od43, .func (PySem.W.fnOf "_law_high" "_law_high" (defArgs s__law_high) (defBody s__law_high) (defScope s__law_high) .none kV43 dc43 pm43 an43 cd43 ct43), sl43⟩)
    (c43 : PySem.W.codeIn K cd43 "_law_high" = true)
    (k43 : PySem.W.keepIn K (.ref f43) = true)
    (a44 : PySem.W.nsIn K mainGlobals "_law_due_of" = some (some (.ref f44)))
    (l44 : K.lookup f44 = some ⟨oc44, od44, .func (PySem.W.fnOf "_law_due_of" "_law_due_of" (defArgs s__law_due_of) (defBody s__law_due_of) (defScope s__law_due_of) .none kV44 dc44 pm44 an44 cd44 ct44), sl44⟩)
    (c44 : PySem.W.codeIn K cd44 "_law_due_of" = true)
    (k44 : PySem.W.keepIn K (.ref f44) = true)
    (a45 : PySem.W.nsIn K mainGlobals "_law_done" = some (some (.ref f45)))
    (l45 : K.lookup f45 = some ⟨oc45, od45, .func (PySem.W.fnOf "_law_done" "_law_done" (defArgs s__law_done) (defBody s__law_done) (defScope s__law_done) .none kV45 dc45 pm45 an45 cd45 ct45), sl45⟩)
    (c45 : PySem.W.codeIn K cd45 "_law_done" = true)
    (k45 : PySem.W.keepIn K (.ref f45) = true)
    (a46 : PySem.W.nsIn K mainGlobals "_law_told_of" = some (some (.ref f46)))
    (l46 : K.lookup f46 = some ⟨oc46, od46, .func (PySem.W.fnOf "_law_told_of" "_law_told_of" (defArgs s__law_told_of) (defBody s__law_told_of) (defScope s__law_told_of) .none kV46 dc46 pm46 an46 cd46 ct46), sl46⟩)
    (c46 : PySem.W.codeIn K cd46 "_law_told_of" = true)
    (k46 : PySem.W.keepIn K (.ref f46) = true)
    (a47 : PySem.W.nsIn K mainGlobals "_law_plain" = some (some (.ref f47)))
    (l47 : K.lookup f47 = some ⟨oc47, od47, .func (PySem.W.fnOf "_law_plain" "_law_plain" (defArgs s__law_plain) (defBody s__law_plain) (defScope s__law_plain) .none kV47 dc47 pm47 an47 cd47 ct47), sl47⟩)
    (c47 : PySem.W.codeIn K cd47 "_law_plain" = true)
    (k47 : PySem.W.keepIn K (.ref f47) = true)
    (a48 : PySem.W.nsIn K mainGlobals "_law_is_amount" = some (some (.ref f48)))
    (l48 : K.lookup f48 = some ⟨oc48, od48, .func (PySem.W.fnOf "_law_is_amount" "_law_is_amount" (defArgs s__law_is_amount) (defBody s__law_is_amount) (defScope s__law_is_amount) .none kV48 dc48 pm48 an48 cd48 ct48), sl48⟩)
    (c48 : PySem.W.codeIn K cd48 "_law_is_amount" = true)
    (k48 : PySem.W.keepIn K (.ref f48) = true)
    (a49 : PySem.W.nsIn K mainGlobals "_law_right_of" = some (some (.ref f49)))
    (l49 : K.lookup f49 = some ⟨oc49, od49, .func (PySem.W.fnOf "_law_right_of" "_law_right_of" (defArgs s__law_right_of) (defBody s__law_right_of) (defScope s__law_right_of) .none kV49 dc49 pm49 an49 cd49 ct49), sl49⟩)
    (c49 : PySem.W.codeIn K cd49 "_law_right_of" = true)
    (k49 : PySem.W.keepIn K (.ref f49) = true)
    (a50 : PySem.W.nsIn K mainGlobals "_law_right_pair" = some (some (.ref f50)))
    (l50 : K.lookup f50 = some ⟨oc50, od50, .func (PySem.W.fnOf "_law_right_pair" "_law_right_pair" (defArgs s__law_right_pair) (defBody s__law_right_pair) (defScope s__law_right_pair) .none kV50 dc50 pm50 an50 cd50 ct50), sl50⟩)
    (c50 : PySem.W.codeIn K cd50 "_law_right_pair" = true)
    (k50 : PySem.W.keepIn K (.ref f50) = true)
    (a51 : PySem.W.nsIn K mainGlobals "_law_right_row" = some (some (.ref f51)))
    (l51 : K.lookup f51 = some ⟨oc51, od51, .func (PySem.W.fnOf "_law_right_row" "_law_right_row" (defArgs s__law_right_row) (defBody s__law_right_row) (defScope s__law_right_row) .none kV51 dc51 pm51 an51 cd51 ct51), sl51⟩)
    (c51 : PySem.W.codeIn K cd51 "_law_right_row" = true)
    (k51 : PySem.W.keepIn K (.ref f51) = true)
    (a52 : PySem.W.nsIn K mainGlobals "ratio" = some (some (.ref f52)))
    (l52 : K.lookup f52 = some ⟨oc52, od52, .func (PySem.W.fnOf "ratio" "ratio" (defArgs s_ratio) (defBody s_ratio) (defScope s_ratio) (.ref TT) kV52 dc52 pm52 an52 cd52 ct52), sl52⟩)
    (lT : K.lookup TT = some ⟨ocT, odT, .seq #[.int 1 tD] nD0, slT⟩)
    (c52 : PySem.W.codeIn K cd52 "ratio" = true)
    (k52 : PySem.W.keepIn K (.ref f52) = true)
    (a53 : PySem.W.nsIn K mainGlobals "law" = some (some (.ref f53)))
    (l53 : K.lookup f53 = some ⟨oc53, od53, .func (PySem.W.fnOf "law" "law" (defArgs s_law) (defBody s_law) (defScope s_law) .none kV53 dc53 pm53 an53 cd53 ct53), sl53⟩)
    (c53 : PySem.W.codeIn K cd53 "law" = true)
    (k53 : PySem.W.keepIn K (.ref f53) = true) :
    ∃ fd : FuncData, (∀ (s : Shared) (v : Value), BindsTo s fd ⟨[v], []⟩ [("_law_script", v)]) ∧ ∀ base : Heap, K.In base → base.Ns mainGlobals mg → FnOk P w K mg base (L2.CX P w) 11 fa fd ["_law_script"] (sp_law K) := by
  have e := hfa.symm.trans (PySem.W.mg_of X G a53)
  cases e
  have T : Txt K mg ⟨C_Amount, C_Nought, C_TooHigh, C_Mixed, C_EllError, tH⟩ :=
    { n_isinstance := PySem.W.mg_none_of X G z_isinstance,
      n_int := PySem.W.mg_none_of X G z_int,
      n_bool := PySem.W.mg_none_of X G z_bool,
      n_tuple := PySem.W.mg_none_of X G z_tuple,
      n_len := PySem.W.mg_none_of X G z_len,
      n_all := PySem.W.mg_none_of X G z_all,
      n_abs := PySem.W.mg_none_of X G z_abs,
      n_range := PySem.W.mg_none_of X G z_range,
      n_zip := PySem.W.mg_none_of X G z_zip,
      n_ValueError := PySem.W.mg_none_of X G z_ValueError,
      gcd := PySem.W.mg_of X G zgcd,
      k_HIGHEST := PySem.W.mg_of X G zH,
      g_EllError := PySem.W.mg_of X G a_EllError,
      g_Nought := PySem.W.mg_of X G a_Nought,
      no_Nought_number := no_Nought_number,
      i_Nought := ⟨_, _, a1, t1, (fun_mk (st := s_NoughtD_initD) l1 c1 k1), ((fun_mk (st := s_NoughtD_initD) l1 c1 k1).binds (ps := P_NoughtD_initD) fun _ _ _ _ _ _ us hl => match us, hl with | [_, _], _ => rfl)⟩,
      ox_Nought := ⟨⟨nm_Nought, q_Nought, N_Nought, bs_Nought, _, sn_Nought, sub_Nought, ab_Nought, col_Nought, dd_Nought, m0_Nought, m1_Nought, m2_Nought, m3_Nought, m5_Nought, x_Nought, rfl⟩, sa_Nought, eC_Nought, tC_Nought, kC_Nought⟩,
      e_Nought := ⟨ic_Nought, ga_Nought, gt_Nought, eC_Nought, ca_Nought, gg0, tk0, mo_Nought⟩,
      xf_Nought := ⟨ga_Nought, gt_Nought, eC_Nought, hC_Nought⟩,
      kv_Nought := kit_ty2 vC_Nought,
      ke_Nought := kit_yes ic_EllError tC_EllError lC_Nought,
      g_TooHigh := PySem.W.mg_of X G a_TooHigh,
      no_TooHigh_dimension := no_TooHigh_dimension,
      i_TooHigh := ⟨_, _, a2, t2, (fun_mk (st := s_TooHighD_initD) l2 c2 k2), ((fun_mk (st := s_TooHighD_initD) l2 c2 k2).binds (ps := P_TooHighD_initD) fun _ _ _ _ _ _ us hl => match us, hl with | [_, _], _ => rfl)⟩,
      ox_TooHigh := ⟨⟨nm_TooHigh, q_TooHigh, N_TooHigh, bs_TooHigh, _, sn_TooHigh, sub_TooHigh, ab_TooHigh, col_TooHigh, dd_TooHigh, m0_TooHigh, m1_TooHigh, m2_TooHigh, m3_TooHigh, m5_TooHigh, x_TooHigh, rfl⟩, sa_TooHigh, eC_TooHigh, tC_TooHigh, kC_TooHigh⟩,
      e_TooHigh := ⟨ic_TooHigh, ga_TooHigh, gt_TooHigh, eC_TooHigh, ca_TooHigh, gg0, tk0, mo_TooHigh⟩,
      xf_TooHigh := ⟨ga_TooHigh, gt_TooHigh, eC_TooHigh, hC_TooHigh⟩,
      kv_TooHigh := kit_ty2 vC_TooHigh,
      ke_TooHigh := kit_yes ic_EllError tC_EllError lC_TooHigh,
      g_Mixed := PySem.W.mg_of X G a_Mixed,
      no_Mixed_left := no_Mixed_left,
      no_Mixed_right := no_Mixed_right,
      i_Mixed := ⟨_, _, a3, t3, (fun_mk (st := s_MixedD_initD) l3 c3 k3), ((fun_mk (st := s_MixedD_initD) l3 c3 k3).binds (ps := P_MixedD_initD) fun _ _ _ _ _ _ us hl => match us, hl with | [_, _, _], _ => rfl)⟩,
      ox_Mixed := ⟨⟨nm_Mixed, q_Mixed, N_Mixed, bs_Mixed, _, sn_Mixed, sub_Mixed, ab_Mixed, col_Mixed, dd_Mixed, m0_Mixed, m1_Mixed, m2_Mixed, m3_Mixed, m5_Mixed, x_Mixed, rfl⟩, sa_Mixed, eC_Mixed, tC_Mixed, kC_Mixed⟩,
      e_Mixed := ⟨ic_Mixed, ga_Mixed, gt_Mixed, eC_Mixed, ca_Mixed, gg0, tk0, mo_Mixed⟩,
      xf_Mixed := ⟨ga_Mixed, gt_Mixed, eC_Mixed, hC_Mixed⟩,
      kv_Mixed := kit_ty2 vC_Mixed,
      ke_Mixed := kit_yes ic_EllError tC_EllError lC_Mixed,
      kn_Nought := kit_no2 ne_Nought_Mixed ne_Nought_TooHigh ic_Mixed tC_Mixed s_Nought_Mixed ic_TooHigh tC_TooHigh s_Nought_TooHigh,
      kn_TooHigh := kit_no2 ne_TooHigh_Mixed ne_TooHigh_Nought ic_Mixed tC_Mixed s_TooHigh_Mixed ic_Nought tC_Nought s_TooHigh_Nought,
      kn_Mixed := kit_no2 ne_Mixed_TooHigh ne_Mixed_Nought ic_TooHigh tC_TooHigh s_Mixed_TooHigh ic_Nought tC_Nought s_Mixed_Nought,
      em_Mixed_Mixed := exm_of eC_Mixed ic_Mixed tC_Mixed s_Mixed_Mixed,
      em_TooHigh_Mixed := exm_of eC_Mixed ic_Mixed tC_Mixed s_TooHigh_Mixed,
      em_TooHigh_TooHigh := exm_of eC_TooHigh ic_TooHigh tC_TooHigh s_TooHigh_TooHigh,
      em_Nought_Mixed := exm_of eC_Mixed ic_Mixed tC_Mixed s_Nought_Mixed,
      em_Nought_TooHigh := exm_of eC_TooHigh ic_TooHigh tC_TooHigh s_Nought_TooHigh,
      em_Nought_Nought := exm_of eC_Nought ic_Nought tC_Nought s_Nought_Nought,
      g_Amount := PySem.W.mg_of X G a_Amount,
      ki := ⟨⟨pg, hd, po, sa⟩, ca, gg0, tk0, mo⟩,
      nN := nN,
      nD := nD,
      sf := sf,
      nft := nft,
      kit_tA := kit_no1 ic tC tA,
      i_Amount := ⟨_, _, ⟨mk, a4, i4, kc⟩, (fun_mk (st := s_AmountD_initD) l4 c4 k4), ((fun_mk (st := s_AmountD_initD) l4 c4 k4).binds (ps := P_AmountD_initD) fun _ _ _ _ _ _ us hl => match us, hl with | [_, _, _], _ => rfl)⟩,
      o_add := ⟨_, _, ⟨a5, i5⟩, (fun_mk (st := s_AmountD_addD) l5 c5 k5), ((fun_mk (st := s_AmountD_addD) l5 c5 k5).binds (ps := P_AmountD_addD) fun _ _ _ _ _ _ us hl => match us, hl with | [_, _], _ => rfl)⟩,
      o_sub := ⟨_, _, ⟨a6, i6⟩, (fun_mk (st := s_AmountD_subD) l6 c6 k6), ((fun_mk (st := s_AmountD_subD) l6 c6 k6).binds (ps := P_AmountD_subD) fun _ _ _ _ _ _ us hl => match us, hl with | [_, _], _ => rfl)⟩,
      o_mul := ⟨_, _, ⟨a7, i7⟩, (fun_mk (st := s_AmountD_mulD) l7 c7 k7), ((fun_mk (st := s_AmountD_mulD) l7 c7 k7).binds (ps := P_AmountD_mulD) fun _ _ _ _ _ _ us hl => match us, hl with | [_, _], _ => rfl)⟩,
      o_div := ⟨_, _, ⟨a8, i8⟩, (fun_mk (st := s_AmountD_floordivD) l8 c8 k8), ((fun_mk (st := s_AmountD_floordivD) l8 c8 k8).binds (ps := P_AmountD_floordivD) fun _ _ _ _ _ _ us hl => match us, hl with | [_, _], _ => rfl)⟩,
      o_neg := ⟨_, _, ⟨a9, i9⟩, (fun_mk (st := s_AmountD_negD) l9 c9 k9), ((fun_mk (st := s_AmountD_negD) l9 c9 k9).binds (ps := P_AmountD_negD) fun _ _ _ _ _ _ us hl => match us, hl with | [_], _ => rfl)⟩,
      o_eq := ⟨_, _, ⟨a10, i10⟩, (fun_mk (st := s_AmountD_eqD) l10 c10 k10), ((fun_mk (st := s_AmountD_eqD) l10 c10 k10).binds (ps := P_AmountD_eqD) fun _ _ _ _ _ _ us hl => match us, hl with | [_, _], _ => rfl)⟩,
      m_compared := ⟨_, _, ⟨a11, i11, k11⟩, (fun_mk (st := s_Amount_compared) l11 c11 k11), ((fun_mk (st := s_Amount_compared) l11 c11 k11).binds (ps := P_Amount_compared) fun _ _ _ _ _ _ us hl => match us, hl with | [_, _], _ => rfl)⟩,
      m_bare := ⟨.type "type", p_bare, _, _, ⟨⟨sm_rd, sm_ga⟩, sm_off, ⟨_, sm_rc⟩, k12, pg, ic, sm_at, sm_ty, sm_gt, sm_tk, by decide +kernel⟩, (fun_mk (st := s_Amount_bare) l12 c12 k12), ((fun_mk (st := s_Amount_bare) l12 c12 k12).binds (ps := P_Amount_bare) fun _ _ _ _ _ _ us hl => match us, hl with | [_, _], _ => rfl)⟩,
      d_is_integer := ⟨_, _, (fun_mk (st := s_is_integer) l13 c13 k13), PySem.W.mg_of X G a13, ((fun_mk (st := s_is_integer) l13 c13 k13).binds (ps := P_is_integer) fun _ _ _ _ _ _ us hl => match us, hl with | [_], _ => rfl)⟩,
      d_is_within := ⟨_, _, (fun_mk (st := s_is_within) l14 c14 k14), PySem.W.mg_of X G a14, ((fun_mk (st := s_is_within) l14 c14 k14).binds (ps := P_is_within) fun _ _ _ _ _ _ us hl => match us, hl with | [_, _, _], _ => rfl)⟩,
      d_is_tuple_of := ⟨_, _, (fun_mk (st := s_is_tuple_of) l15 c15 k15), PySem.W.mg_of X G a15, ((fun_mk (st := s_is_tuple_of) l15 c15 k15).binds (ps := P_is_tuple_of) fun _ _ _ _ _ _ us hl => match us, hl with | [_, _], _ => rfl)⟩,
      d_is_dimension := ⟨_, _, (fun_mk (st := s_is_dimension) l16 c16 k16), PySem.W.mg_of X G a16, ((fun_mk (st := s_is_dimension) l16 c16 k16).binds (ps := P_is_dimension) fun _ _ _ _ _ _ us hl => match us, hl with | [_, _], _ => rfl)⟩,
      d__is_exponent := ⟨_, _, (fun_mk (st := s__is_exponent) l17 c17 k17), PySem.W.mg_of X G a17, ((fun_mk (st := s__is_exponent) l17 c17 k17).binds (ps := P__is_exponent) fun _ _ _ _ _ _ us hl => match us, hl with | [_], _ => rfl)⟩,
      d_multiplied := ⟨_, _, (fun_mk (st := s_multiplied) l18 c18 k18), PySem.W.mg_of X G a18, ((fun_mk (st := s_multiplied) l18 c18 k18).binds (ps := P_multiplied) fun _ _ _ _ _ _ us hl => match us, hl with | [_, _], _ => rfl)⟩,
      d_divided := ⟨_, _, (fun_mk (st := s_divided) l19 c19 k19), PySem.W.mg_of X G a19, ((fun_mk (st := s_divided) l19 c19 k19).binds (ps := P_divided) fun _ _ _ _ _ _ us hl => match us, hl with | [_, _], _ => rfl)⟩,
      d__checked := ⟨_, _, (fun_mk (st := s__checked) l20 c20 k20), PySem.W.mg_of X G a20, ((fun_mk (st := s__checked) l20 c20 k20).binds (ps := P__checked) fun _ _ _ _ _ _ us hl => match us, hl with | [_], _ => rfl)⟩,
      d_plus := ⟨_, _, (fun_mk (st := s_plus) l21 c21 k21), PySem.W.mg_of X G a21, ((fun_mk (st := s_plus) l21 c21 k21).binds (ps := P_plus) fun _ _ _ _ _ _ us hl => match us, hl with | [_, _], _ => rfl)⟩,
      d_minus := ⟨_, _, (fun_mk (st := s_minus) l22 c22 k22), PySem.W.mg_of X G a22, ((fun_mk (st := s_minus) l22 c22 k22).binds (ps := P_minus) fun _ _ _ _ _ _ us hl => match us, hl with | [_, _], _ => rfl)⟩,
      d_times := ⟨_, _, (fun_mk (st := s_times) l23 c23 k23), PySem.W.mg_of X G a23, ((fun_mk (st := s_times) l23 c23 k23).binds (ps := P_times) fun _ _ _ _ _ _ us hl => match us, hl with | [_, _], _ => rfl)⟩,
      d_over := ⟨_, _, (fun_mk (st := s_over) l24 c24 k24), PySem.W.mg_of X G a24, ((fun_mk (st := s_over) l24 c24 k24).binds (ps := P_over) fun _ _ _ _ _ _ us hl => match us, hl with | [_, _], _ => rfl)⟩,
      d_compare := ⟨_, _, (fun_mk (st := s_compare) l25 c25 k25), PySem.W.mg_of X G a25, ((fun_mk (st := s_compare) l25 c25 k25).binds (ps := P_compare) fun _ _ _ _ _ _ us hl => match us, hl with | [_, _], _ => rfl)⟩,
      d__ask_for_one := ⟨_, _, (fun_mk (st := s__ask_for_one) l26 c26 k26), PySem.W.mg_of X G a26, ((fun_mk (st := s__ask_for_one) l26 c26 k26).binds (ps := P__ask_for_one) fun _ _ _ _ _ _ us hl => match us, hl with | [_, _], _ => rfl)⟩,
      d__law_bag_of := ⟨_, _, (fun_mk (st := s__law_bag_of) l27 c27 k27), PySem.W.mg_of X G a27, ((fun_mk (st := s__law_bag_of) l27 c27 k27).binds (ps := P__law_bag_of) fun _ _ _ _ _ _ us hl => match us, hl with | [_], _ => rfl)⟩,
      d__law_pick := ⟨_, _, (fun_mk (st := s__law_pick) l28 c28 k28), PySem.W.mg_of X G a28, ((fun_mk (st := s__law_pick) l28 c28 k28).binds (ps := P__law_pick) fun _ _ _ _ _ _ us hl => match us, hl with | [_, _], _ => rfl)⟩,
      d__law_choice := ⟨_, _, (fun_mk (st := s__law_choice) l29 c29 k29), PySem.W.mg_of X G a29, ((fun_mk (st := s__law_choice) l29 c29 k29).binds (ps := P__law_choice) fun _ _ _ _ _ _ us hl => match us, hl with | [_, _], _ => rfl)⟩,
      d__law_one_in := ⟨_, _, (fun_mk (st := s__law_one_in) l30 c30 k30), PySem.W.mg_of X G a30, ((fun_mk (st := s__law_one_in) l30 c30 k30).binds (ps := P__law_one_in) fun _ _ _ _ _ _ us hl => match us, hl with | [_, _], _ => rfl)⟩,
      d__law_integer := ⟨_, _, (fun_mk (st := s__law_integer) l31 c31 k31), PySem.W.mg_of X G a31, ((fun_mk (st := s__law_integer) l31 c31 k31).binds (ps := P__law_integer) fun _ _ _ _ _ _ us hl => match us, hl with | [_], _ => rfl)⟩,
      d__law_gcd := ⟨_, _, (fun_mk (st := s__law_gcd) l32 c32 k32), PySem.W.mg_of X G a32, ((fun_mk (st := s__law_gcd) l32 c32 k32).binds (ps := P__law_gcd) fun _ _ _ _ _ _ us hl => match us, hl with | [_, _], _ => rfl)⟩,
      d__law_ratio := ⟨_, _, (fun_mk (st := s__law_ratio) l33 c33 k33), PySem.W.mg_of X G a33, ((fun_mk (st := s__law_ratio) l33 c33 k33).binds (ps := P__law_ratio) fun _ _ _ _ _ _ us hl => match us, hl with | [_, _], _ => rfl)⟩,
      d__law_is_ratio := ⟨_, _, (fun_mk (st := s__law_is_ratio) l34 c34 k34), PySem.W.mg_of X G a34, ((fun_mk (st := s__law_is_ratio) l34 c34 k34).binds (ps := P__law_is_ratio) fun _ _ _ _ _ _ us hl => match us, hl with | [_], _ => rfl)⟩,
      d__law_plus := ⟨_, _, (fun_mk (st := s__law_plus) l35 c35 k35), PySem.W.mg_of X G a35, ((fun_mk (st := s__law_plus) l35 c35 k35).binds (ps := P__law_plus) fun _ _ _ _ _ _ us hl => match us, hl with | [_, _], _ => rfl)⟩,
      d__law_minus := ⟨_, _, (fun_mk (st := s__law_minus) l36 c36 k36), PySem.W.mg_of X G a36, ((fun_mk (st := s__law_minus) l36 c36 k36).binds (ps := P__law_minus) fun _ _ _ _ _ _ us hl => match us, hl with | [_, _], _ => rfl)⟩,
      d__law_times := ⟨_, _, (fun_mk (st := s__law_times) l37 c37 k37), PySem.W.mg_of X G a37, ((fun_mk (st := s__law_times) l37 c37 k37).binds (ps := P__law_times) fun _ _ _ _ _ _ us hl => match us, hl with | [_, _], _ => rfl)⟩,
      d__law_over := ⟨_, _, (fun_mk (st := s__law_over) l38 c38 k38), PySem.W.mg_of X G a38, ((fun_mk (st := s__law_over) l38 c38 k38).binds (ps := P__law_over) fun _ _ _ _ _ _ us hl => match us, hl with | [_, _], _ => rfl)⟩,
      d__law_less := ⟨_, _, (fun_mk (st := s__law_less) l39 c39 k39), PySem.W.mg_of X G a39, ((fun_mk (st := s__law_less) l39 c39 k39).binds (ps := P__law_less) fun _ _ _ _ _ _ us hl => match us, hl with | [_, _], _ => rfl)⟩,
      d__law_number_of := ⟨_, _, (fun_mk (st := s__law_number_of) l40 c40 k40), PySem.W.mg_of X G a40, ((fun_mk (st := s__law_number_of) l40 c40 k40).binds (ps := P__law_number_of) fun _ _ _ _ _ _ us hl => match us, hl with | [_], _ => rfl)⟩,
      d__law_dimension_of := ⟨_, _, (fun_mk (st := s__law_dimension_of) l41 c41 k41), PySem.W.mg_of X G a41, ((fun_mk (st := s__law_dimension_of) l41 c41 k41).binds (ps := P__law_dimension_of) fun _ _ _ _ _ _ us hl => match us, hl with | [_, _], _ => rfl)⟩,
      d__law_pairs_drawn := ⟨_, _, (fun_mk (st := s__law_pairs_drawn) l42 c42 k42), PySem.W.mg_of X G a42, ((fun_mk (st := s__law_pairs_drawn) l42 c42 k42).binds (ps := P__law_pairs_drawn) fun _ _ _ _ _ _ us hl => match us, hl with | [_, _], _ => rfl)⟩,
      d__law_high := ⟨_, _, (fun_mk (st := s__law_high) l43 c43 k43), PySem.W.mg_of X G a43, ((fun_mk (st := s__law_high) l43 c43 k43).binds (ps := P__law_high) fun _ _ _ _ _ _ us hl => match us, hl with | [_], _ => rfl)⟩,
      d__law_due_of := ⟨_, _, (fun_mk (st := s__law_due_of) l44 c44 k44), PySem.W.mg_of X G a44, ((fun_mk (st := s__law_due_of) l44 c44 k44).binds (ps := P__law_due_of) fun _ _ _ _ _ _ us hl => match us, hl with | [_, _, _], _ => rfl)⟩,
      d__law_done := ⟨_, _, (fun_mk (st := s__law_done) l45 c45 k45), PySem.W.mg_of X G a45, ((fun_mk (st := s__law_done) l45 c45 k45).binds (ps := P__law_done) fun _ _ _ _ _ _ us hl => match us, hl with | [_, _, _], _ => rfl)⟩,
      d__law_told_of := ⟨_, _, (fun_mk (st := s__law_told_of) l46 c46 k46), PySem.W.mg_of X G a46, ((fun_mk (st := s__law_told_of) l46 c46 k46).binds (ps := P__law_told_of) fun _ _ _ _ _ _ us hl => match us, hl with | [_, _, _], _ => rfl)⟩,
      d__law_plain := ⟨_, _, (fun_mk (st := s__law_plain) l47 c47 k47), PySem.W.mg_of X G a47, ((fun_mk (st := s__law_plain) l47 c47 k47).binds (ps := P__law_plain) fun _ _ _ _ _ _ us hl => match us, hl with | [_], _ => rfl)⟩,
      d__law_is_amount := ⟨_, _, (fun_mk (st := s__law_is_amount) l48 c48 k48), PySem.W.mg_of X G a48, ((fun_mk (st := s__law_is_amount) l48 c48 k48).binds (ps := P__law_is_amount) fun _ _ _ _ _ _ us hl => match us, hl with | [_, _, _], _ => rfl)⟩,
      d__law_right_of := ⟨_, _, (fun_mk (st := s__law_right_of) l49 c49 k49), PySem.W.mg_of X G a49, ((fun_mk (st := s__law_right_of) l49 c49 k49).binds (ps := P__law_right_of) fun _ _ _ _ _ _ us hl => match us, hl with | [_, _], _ => rfl)⟩,
      d__law_right_pair := ⟨_, _, (fun_mk (st := s__law_right_pair) l50 c50 k50), PySem.W.mg_of X G a50, ((fun_mk (st := s__law_right_pair) l50 c50 k50).binds (ps := P__law_right_pair) fun _ _ _ _ _ _ us hl => match us, hl with | [_, _, _, _], _ => rfl)⟩,
      d__law_right_row := ⟨_, _, (fun_mk (st := s__law_right_row) l51 c51 k51), PySem.W.mg_of X G a51, ((fun_mk (st := s__law_right_row) l51 c51 k51).binds (ps := P__law_right_row) fun _ _ _ _ _ _ us hl => match us, hl with | [_, _, _], _ => rfl)⟩,
      d_ratio := ratio_at l52 lT c52 k52 (PySem.W.mg_of X G a52),
      d_law := ⟨_, _, (fun_mk (st := s_law) l53 c53 k53), PySem.W.mg_of X G a53, ((fun_mk (st := s_law) l53 c53 k53).binds (ps := P_law) fun _ _ _ _ _ _ us hl => match us, hl with | [_], _ => rfl)⟩ }
  have FL := (fun_mk (st := s_law) l53 c53 k53)
  exact ⟨PySem.W.fnOf "law" "law" (defArgs s_law) (defBody s_law) (defScope s_law) .none kV53 dc53 pm53 an53 cd53 ct53, fun s v => .of_eq rfl, fun base _ _ => fun_ok FL sc_law (fun vs H Q E h => by obtain ⟨p, ns, rfl, _⟩ := h; rfl) (b_law T)⟩
theorem walk {l : PySem.W.OpenLaw} {q : Program} {loose : List Str} {XP : (Str → Option Value) → Heap → Prop} {YP : World → Heap → Prop} {d : DefRec} {K : Params → PySem.W.Frag} (hn : l.most = some 63) (hdf : d.params.defaults = [])
    (hY : ∀ (w : World) (h : Heap), YP w h → (K w.params).In h)
    (F : ∀ (w : World) (mg : Str → Option Value) (fa : Addr) (h : Heap), (K w.params).In h → h.Ns mainGlobals mg → mg d.name = some (.ref fa) →
      ∃ fd : FuncData, (∀ (s : Shared) (u : Value), BindsTo s fd ⟨[u], []⟩ [("_law_script", u)]) ∧ ∀ base : Heap, (K w.params).In base → base.Ns mainGlobals mg → FnOk l.prog w (K w.params) mg base (L2.CX l.prog w) 11 fa fd ["_law_script"] (sp_law (K w.params))) :
    PySem.W.WalkO q loose XP YP l.row.toRowW d [] (fun f vs => PySem.call f vs) :=
  L2.walk_of (n := 63) (k := 11) (x := "_law_script") (CX := fun w => L2.CX l.prog w) (sp := fun w => sp_law (K w.params)) hn (by decide) hdf ⟨rfl, by decide, by decide⟩ hY F (fun _ _ a ns hl _ hS => ⟨a, ns, rfl, hS, by omega, fun _ => rfl⟩) fun w H s e s' z => by
    obtain ⟨_, _, _, _, _, _, _, _, _, _, _, _, z⟩ := z
    exact z
end K04

set_option Elab.async false
set_option linter.all false
open PySem PySem.W PyProof.Rows
set_option maxRecDepth 100000 in
set_option maxHeartbeats 0 in
theorem PySem.Challenge.cw_ellwarden_k04_amounts_holds : PySem.Challenge.rw_ellwarden_k04_amounts.Holds := by
  w_on; o_law; k_head; (case hw => w_witness2)
  k_fill
  refine K04.walk (l := PySem.Challenge.rw_ellwarden_k04_amounts) rfl rfl (fun w h Y => PySem.W.kIn_of Y) ?F
  case F =>
    intro w mg fa h KX G hmg
    refine' K04.all_mk KX G hmg ?z_isinstance ?z_int ?z_bool ?z_tuple ?z_len ?z_all ?z_abs ?z_range ?z_zip ?z_ValueError ?zgcd ?zH ?gg0 ?tk0 ?a_EllError ?ic_EllError ?tC_EllError ?a_Nought ?x_Nought ?sa_Nought ?ga_Nought ?gt_Nought ?ca_Nought ?kC_Nought ?eC_Nought ?vC_Nought ?lC_Nought ?tC_Nought ?hC_Nought ?ic_Nought ?mo_Nought ?no_Nought_number ?a1 ?t1 ?l1 ?c1 ?k1 ?a_TooHigh ?x_TooHigh ?sa_TooHigh ?ga_TooHigh ?gt_TooHigh ?ca_TooHigh ?kC_TooHigh ?eC_TooHigh ?vC_TooHigh ?lC_TooHigh ?tC_TooHigh ?hC_TooHigh ?ic_TooHigh ?mo_TooHigh ?no_TooHigh_dimension ?a2 ?t2 ?l2 ?c2 ?k2 ?a_Mixed ?x_Mixed ?sa_Mixed ?ga_Mixed ?gt_Mixed ?ca_Mixed ?kC_Mixed ?eC_Mixed ?vC_Mixed ?lC_Mixed ?tC_Mixed ?hC_Mixed ?ic_Mixed ?mo_Mixed ?no_Mixed_left ?no_Mixed_right ?a3 ?t3 ?l3 ?c3 ?k3 ?s_Nought_Mixed ?ne_Nought_Mixed ?s_Nought_TooHigh ?ne_Nought_TooHigh ?s_Nought_Nought ?s_TooHigh_Mixed ?ne_TooHigh_Mixed ?s_TooHigh_Nought ?ne_TooHigh_Nought ?s_TooHigh_TooHigh ?s_Mixed_TooHigh ?ne_Mixed_TooHigh ?s_Mixed_Nought ?ne_Mixed_Nought ?s_Mixed_Mixed ?a_Amount ?pg ?hd ?po ?sa ?ca ?mo ?nN ?nD ?sf ?nft ?ic ?tC ?tA ?mk ?kc ?a4 ?i4 ?l4 ?c4 ?k4 ?a5 ?i5 ?l5 ?c5 ?k5 ?a6 ?i6 ?l6 ?c6 ?k6 ?a7 ?i7 ?l7 ?c7 ?k7 ?a8 ?i8 ?l8 ?c8 ?k8 ?a9 ?i9 ?l9 ?c9 ?k9 ?a10 ?i10 ?l10 ?c10 ?k10 ?a11 ?i11 ?l11 ?c11 ?k11 ?sm_at ?sm_ty ?sm_gt ?sm_tk ?sm_rc ?l12 ?c12 ?k12 ?sm_rd ?sm_ga ?sm_off ?a13 ?l13 ?c13 ?k13 ?a14 ?l14 ?c14 ?k14 ?a15 ?l15 ?c15 ?k15 ?a16 ?l16 ?c16 ?k16 ?a17 ?l17 ?c17 ?k17 ?a18 ?l18 ?c18 ?k18 ?a19 ?l19 ?c19 ?k19 ?a20 ?l20 ?c20 ?k20 ?a21 ?l21 ?c21 ?k21 ?a22 ?l22 ?c22 ?k22 ?a23 ?l23 ?c23 ?k23 ?a24 ?l24 ?c24 ?k24 ?a25 ?l25 ?c25 ?k25 ?a26 ?l26 ?c26 ?k26 ?a27 ?l27 ?c27 ?k27 ?a28 ?l28 ?c28 ?k28 ?a29 ?l29 ?c29 ?k29 ?a30 ?l30 ?c30 ?k30 ?a31 ?l31 ?c31 ?k31 ?a32 ?l32 ?c32 ?k32 ?a33 ?l33 ?c33 ?k33 ?a34 ?l34 ?c34 ?k34 ?a35 ?l35 ?c35 ?k35 ?a36 ?l36 ?c36 ?k36 ?a37 ?l37 ?c37 ?k37 ?a38 ?l38 ?c38 ?k38 ?a39 ?l39 ?c39 ?k39 ?a40 ?l40 ?c40 ?k40 ?a41 ?l41 ?c41 ?k41 ?a42 ?l42 ?c42 ?k42 ?a43 ?l43 ?c43 ?k43 ?a44 ?l44 ?c44 ?k44 ?a45 ?l45 ?c45 ?k45 ?a46 ?l46 ?c46 ?k46 ?a47 ?l47 ?c47 ?k47 ?a48 ?l48 ?c48 ?k48 ?a49 ?l49 ?c49 ?k49 ?a50 ?l50 ?c50 ?k50 ?a51 ?l51 ?c51 ?k51 ?a52 ?l52 ?lT ?c52 ?k52 ?a53 ?l53 ?c53 ?k53
    (case z_isinstance => k_is)
    (case z_int => k_is)
    (case z_bool => k_is)
    (case z_tuple => k_is)
    (case z_len => k_is)
    (case z_all => k_is)
    (case z_abs => k_is)
    (case z_range => k_is)
    (case z_zip => k_is)
    (case z_ValueError => k_is)
    (case zgcd => k_is)
    (case zH => k_is)
    (case gg0 => k_is)
    (case tk0 => k_is)
    (case a_EllError => k_is)
    (case ic_EllError => k_is)
    (case tC_EllError => k_is)
    (case a_Nought => k_is)
    (case x_Nought => k_is)
    (case sa_Nought => k_is)
    (case ga_Nought => k_is)
    (case gt_Nought => k_is)
    (case ca_Nought => k_is)
    (case kC_Nought => k_is)
    (case eC_Nought => k_is)
    (case vC_Nought => k_is)
    (case lC_Nought => k_is)
    (case tC_Nought => k_is)
    (case hC_Nought => k_is)
    (case ic_Nought => k_is)
    (case mo_Nought => k_is)
    (case no_Nought_number => k_is)
    (case a1 => k_is)
    (case t1 => k_is)
    (case l1 => k_is)
    (case c1 => k_is)
    (case k1 => k_is)
    (case a_TooHigh => k_is)
    (case x_TooHigh => k_is)
    (case sa_TooHigh => k_is)
    (case ga_TooHigh => k_is)
    (case gt_TooHigh => k_is)
    (case ca_TooHigh => k_is)
    (case kC_TooHigh => k_is)
    (case eC_TooHigh => k_is)
    (case vC_TooHigh => k_is)
    (case lC_TooHigh => k_is)
    (case tC_TooHigh => k_is)
    (case hC_TooHigh => k_is)
    (case ic_TooHigh => k_is)
    (case mo_TooHigh => k_is)
    (case no_TooHigh_dimension => k_is)
    (case a2 => k_is)
    (case t2 => k_is)
    (case l2 => k_is)
    (case c2 => k_is)
    (case k2 => k_is)
    (case a_Mixed => k_is)
    (case x_Mixed => k_is)
    (case sa_Mixed => k_is)
    (case ga_Mixed => k_is)
    (case gt_Mixed => k_is)
    (case ca_Mixed => k_is)
    (case kC_Mixed => k_is)
    (case eC_Mixed => k_is)
    (case vC_Mixed => k_is)
    (case lC_Mixed => k_is)
    (case tC_Mixed => k_is)
    (case hC_Mixed => k_is)
    (case ic_Mixed => k_is)
    (case mo_Mixed => k_is)
    (case no_Mixed_left => k_is)
    (case no_Mixed_right => k_is)
    (case a3 => k_is)
    (case t3 => k_is)
    (case l3 => k_is)
    (case c3 => k_is)
    (case k3 => k_is)
    (case s_Nought_Mixed => k_is)
    (case ne_Nought_Mixed => decide)
    (case s_Nought_TooHigh => k_is)
    (case ne_Nought_TooHigh => decide)
    (case s_Nought_Nought => first | rfl | k_is)
    (case s_TooHigh_Mixed => k_is)
    (case ne_TooHigh_Mixed => decide)
    (case s_TooHigh_Nought => k_is)
    (case ne_TooHigh_Nought => decide)
    (case s_TooHigh_TooHigh => first | rfl | k_is)
    (case s_Mixed_TooHigh => k_is)
    (case ne_Mixed_TooHigh => decide)
    (case s_Mixed_Nought => k_is)
    (case ne_Mixed_Nought => decide)
    (case s_Mixed_Mixed => first | rfl | k_is)
    (case a_Amount => k_is)
    (case pg => k_is)
    (case hd => k_is)
    (case po => k_is)
    (case sa => k_is)
    (case ca => k_is)
    (case mo => k_is)
    (case nN => k_is)
    (case nD => k_is)
    (case sf => k_is)
    (case nft => k_is)
    (case ic => k_is)
    (case tC => k_is)
    (case tA => k_is)
    (case mk => k_is)
    (case kc => k_is)
    (case a4 => k_is)
    (case i4 => k_is)
    (case l4 => k_is)
    (case c4 => k_is)
    (case k4 => k_is)
    (case a5 => k_is)
    (case i5 => k_is)
    (case l5 => k_is)
    (case c5 => k_is)
    (case k5 => k_is)
    (case a6 => k_is)
    (case i6 => k_is)
    (case l6 => k_is)
    (case c6 => k_is)
    (case k6 => k_is)
    (case a7 => k_is)
    (case i7 => k_is)
    (case l7 => k_is)
    (case c7 => k_is)
    (case k7 => k_is)
    (case a8 => k_is)
    (case i8 => k_is)
    (case l8 => k_is)
    (case c8 => k_is)
    (case k8 => k_is)
    (case a9 => k_is)
    (case i9 => k_is)
    (case l9 => k_is)
    (case c9 => k_is)
    (case k9 => k_is)
    (case a10 => k_is)
    (case i10 => k_is)
    (case l10 => k_is)
    (case c10 => k_is)
    (case k10 => k_is)
    (case a11 => k_is)
    (case i11 => k_is)
    (case l11 => k_is)
    (case c11 => k_is)
    (case k11 => k_is)
    (case sm_at => k_is)
    (case sm_ty => k_is)
    (case sm_gt => k_is)
    (case sm_tk => k_is)
    (case sm_rc => k_is)
    (case l12 => k_is)
    (case c12 => k_is)
    (case k12 => k_is)
    (case sm_rd => k_is)
    (case sm_ga => k_is)
    (case sm_off => k_is)
    (case a13 => k_is)
    (case l13 => k_is)
    (case c13 => k_is)
    (case k13 => k_is)
    (case a14 => k_is)
    (case l14 => k_is)
    (case c14 => k_is)
    (case k14 => k_is)
    (case a15 => k_is)
    (case l15 => k_is)
    (case c15 => k_is)
    (case k15 => k_is)
    (case a16 => k_is)
    (case l16 => k_is)
    (case c16 => k_is)
    (case k16 => k_is)
    (case a17 => k_is)
    (case l17 => k_is)
    (case c17 => k_is)
    (case k17 => k_is)
    (case a18 => k_is)
    (case l18 => k_is)
    (case c18 => k_is)
    (case k18 => k_is)
    (case a19 => k_is)
    (case l19 => k_is)
    (case c19 => k_is)
    (case k19 => k_is)
    (case a20 => k_is)
    (case l20 => k_is)
    (case c20 => k_is)
    (case k20 => k_is)
    (case a21 => k_is)
    (case l21 => k_is)
    (case c21 => k_is)
    (case k21 => k_is)
    (case a22 => k_is)
    (case l22 => k_is)
    (case c22 => k_is)
    (case k22 => k_is)
    (case a23 => k_is)
    (case l23 => k_is)
    (case c23 => k_is)
    (case k23 => k_is)
    (case a24 => k_is)
    (case l24 => k_is)
    (case c24 => k_is)
    (case k24 => k_is)
    (case a25 => k_is)
    (case l25 => k_is)
    (case c25 => k_is)
    (case k25 => k_is)
    (case a26 => k_is)
    (case l26 => k_is)
    (case c26 => k_is)
    (case k26 => k_is)
    (case a27 => k_is)
    (case l27 => k_is)
    (case c27 => k_is)
    (case k27 => k_is)
    (case a28 => k_is)
    (case l28 => k_is)
    (case c28 => k_is)
    (case k28 => k_is)
    (case a29 => k_is)
    (case l29 => k_is)
    (case c29 => k_is)
    (case k29 => k_is)
    (case a30 => k_is)
    (case l30 => k_is)
    (case c30 => k_is)
    (case k30 => k_is)
    (case a31 => k_is)
    (case l31 => k_is)
    (case c31 => k_is)
    (case k31 => k_is)
    (case a32 => k_is)
    (case l32 => k_is)
    (case c32 => k_is)
    (case k32 => k_is)
    (case a33 => k_is)
    (case l33 => k_is)
    (case c33 => k_is)
    (case k33 => k_is)
    (case a34 => k_is)
    (case l34 => k_is)
    (case c34 => k_is)
    (case k34 => k_is)
    (case a35 => k_is)
    (case l35 => k_is)
    (case c35 => k_is)
    (case k35 => k_is)
    (case a36 => k_is)
    (case l36 => k_is)
    (case c36 => k_is)
    (case k36 => k_is)
    (case a37 => k_is)
    (case l37 => k_is)
    (case c37 => k_is)
    (case k37 => k_is)
    (case a38 => k_is)
    (case l38 => k_is)
    (case c38 => k_is)
    (case k38 => k_is)
    (case a39 => k_is)
    (case l39 => k_is)
    (case c39 => k_is)
    (case k39 => k_is)
    (case a40 => k_is)
    (case l40 => k_is)
    (case c40 => k_is)
    (case k40 => k_is)
    (case a41 => k_is)
    (case l41 => k_is)
    (case c41 => k_is)
    (case k41 => k_is)
    (case a42 => k_is)
    (case l42 => k_is)
    (case c42 => k_is)
    (case k42 => k_is)
    (case a43 => k_is)
    (case l43 => k_is)
    (case c43 => k_is)
    (case k43 => k_is)
    (case a44 => k_is)
    (case l44 => k_is)
    (case c44 => k_is)
    (case k44 => k_is)
    (case a45 => k_is)
    (case l45 => k_is)
    (case c45 => k_is)
    (case k45 => k_is)
    (case a46 => k_is)
    (case l46 => k_is)
    (case c46 => k_is)
    (case k46 => k_is)
    (case a47 => k_is)
    (case l47 => k_is)
    (case c47 => k_is)
    (case k47 => k_is)
    (case a48 => k_is)
    (case l48 => k_is)
    (case c48 => k_is)
    (case k48 => k_is)
    (case a49 => k_is)
    (case l49 => k_is)
    (case c49 => k_is)
    (case k49 => k_is)
    (case a50 => k_is)
    (case l50 => k_is)
    (case c50 => k_is)
    (case k50 => k_is)
    (case a51 => k_is)
    (case l51 => k_is)
    (case c51 => k_is)
    (case k51 => k_is)
    (case a52 => k_is)
    (case l52 => k_is)
    (case lT => k_is)
    (case c52 => k_is)
    (case k52 => k_is)
    (case a53 => k_is)
    (case l53 => k_is)
    (case c53 => k_is)
    (case k53 => k_is)
