import PyProof.Rows.All
import Wide.All
import OpenK.AllK
import Wide.FinOn
import HandS.ForMost
import HandS.ForExc
import HandS.TryMany
import HandS.ExcInit
import HandS.ExcField
import HandS.ExcIs
import HandS.IsInst
import KE.KExcIs
import KE.KOpsOwn
import HandS.OwnEq
import HandS.Wide
import HandS.Gcd
import HandS.TupMul
import HandS.Zip
import HandS.Defaults
import HandS.Walk
import HandS.ClsMeth
import HandS.Codes
import PyProof.StrOps2
import PyProof.ReprRoads
import HandS.Ends
import PySem.Challenge.RW_ellwarden_k01_ratios
import HandS.StrMore
import HandS.FStr
import PyProof.StrLawsAffix
import KE.IntTextLaws
import HandS.Style
set_option Elab.async false
set_option linter.all false
set_option maxRecDepth 100000
set_option maxHeartbeats 4000000
/-! a try with several clauses, each with a name or without -/
namespace Ew
open PySem PySem.Spec PyProof.Rows L2
/-- one clause: what it names, the slot of its name, what its suite asks -/
abbrev Cl1 := Value × Option Nat × (Addr → Value → Option Addr → TS)
/-- behind a suite the slot of its name is empty -/
def Emp : Option Nat → Ends → Ends
  | none, D => D
  | some i, D => ⟨fun t G => D.nx (t.set i none) G, D.rt, fun t G => D.bk (t.set i none) G, fun t G => D.ct (t.set i none) G⟩
def bindAt : Option Nat → Addr → L2.St → L2.St
  | none, _, σ => σ
  | some i, a, σ => σ.set i (some (.ref a))
def wN (K : PySem.W.Frag) (Wo : WX) (D : Ends) : List Cl1 → WX
  | [] => Wo
  | (c, i, ts) :: r => fun cls d σ H => ∃ b, PySem.W.exmOne K cls c = some b ∧ (b = true → ∀ a, H a = none → ts a cls d (Emp i D) (bindAt i a σ) H) ∧ (b = false → wN K Wo D r cls d σ H)
/-- a suite keeps its reading whatever exception it holds -/
def SuiteOk (X : Cx) (sts : List Stmt) (ts : Addr → Value → Option Addr → TS) : Prop := ∀ a oe cls d pn, Zc cls d oe → (∃ vs, oe.data = .fields vs) → PSs (X.suite a ((a, oe) :: pn)) sts (ts a cls d)
inductive HdsN (X : Cx) : List ExceptHandler → List Cl1 → Prop
  | nil : HdsN X [] []
  | pl {x : Str} {c : Value} {ts b sts p q hs l} : Names X x c → SuiteOk X (b :: sts) ts → HdsN X hs l → HdsN X (.ExceptHandler (some (.Name x p)) none (b :: sts) q :: hs) ((c, none, ts) :: l)
  | nm {x n : Str} {i : Nat} {c : Value} {ts b sts p q hs l} : X.N[i]? = some n → X.env.kindOf n = some .local → Names X x c → SuiteOk X (b :: sts) ts → HdsN X hs l → HdsN X (.ExceptHandler (some (.Name x p)) (some n) (b :: sts) q :: hs) ((c, some i, ts) :: l)
section
variable {X : Cx} {pins : List (Addr × Obj)} {σ : L2.St} {H : Hp} {a : Addr} {cls : Value} {d : Option Addr} {D : Ends} {s : Shared} {Wo : WX}
/-- an exception lies at a, looked at by the frame's own handlers -/
structure Caught (X : Cx) (pins : List (Addr × Obj)) (σ : L2.St) (H : Hp) (a : Addr) (cls : Value) (d : Option Addr) (s : Shared) : Prop where
  ok : X.Ok
  st : X.stack = X.env :: X.outer
  fr : X.env.frame = some X.env.locals
  free : H a = none
  rest : ∃ B sI, Inv X pins σ H sI ∧ (∀ b o, sI.heap.get? b = some o → b ∉ frs X.stack → B.get? b = some o) ∧ sI.heap.UpToSlots s.heap ∧ s.os = sI.os ∧ AllBare s.gens ∧ HandSPX.FlyingZ B (X.env :: X.outer) a (Zc cls d) s.heap
theorem Caught.inv (c : Caught X pins σ H a cls d s) : Inv X pins σ H s := by
  obtain ⟨B, sI, J, nb, up, os, ag, fl⟩ := c.rest
  obtain ⟨hp, g, dr, t, o⟩ := s
  exact J.landed nb fl.1 up os ag
theorem Caught.off (c : Caught X pins σ H a cls d s) : a ∉ frs (X.env :: X.outer) := fun hm => by
  obtain ⟨B, sI, J, nb, up, os, ag, fl⟩ := c.rest
  obtain ⟨o, vs, e, z, q⟩ := fl.there
  obtain ⟨_, o', e', w⟩ := fl.2.2.1.mem hm
  obtain rfl := Option.some.inj (e.symm.trans e')
  exact w _ q
theorem Caught.held (c : Caught X pins σ H a cls d s) : ∃ oe, s.heap.get? a = some oe ∧ Zc cls d oe ∧ (∃ vs, oe.data = .fields vs) ∧ Inv (X.suite a ((a, oe) :: (X.pn ++ pins))) [] σ H s := by
  obtain ⟨B, sI, J, nb, up, os, ag, fl⟩ := id c.rest
  obtain ⟨oe, vs, e, z, q⟩ := fl.there
  refine ⟨oe, e, z, ⟨vs, q⟩, c.inv.suite e q c.free (fun h => c.off ?_) fun h => c.off ?_⟩
  · exact List.mem_filterMap.mpr ⟨_, List.mem_cons_self, c.fr.trans (congrArg some h.symm)⟩
  · obtain ⟨y, hy, w⟩ := List.mem_filterMap.mp h
    exact List.mem_filterMap.mpr ⟨y, List.mem_cons_of_mem _ hy, w⟩
/-- the clause's class is looked at -/
theorem Caught.asks (c : Caught X pins σ H a cls d s) {x : Str} {p : Pos} {v : Value} (n : Names X x v) {Q E : Value → Shared → Prop} (q : Q v s) :
    wpAny (model X.prog X.w) (X.A.mark (some (.ref a))) (eval (.Name x p) X.env) Q E s := by
  obtain ⟨oe, _, _, _, S⟩ := c.held
  obtain ⟨g, db, m | ⟨m, v', nn⟩⟩ := n
  · exact ld_glob (X := X.suite a ((a, oe) :: (X.pn ++ pins))) S g m q db
  · exact ld_blt (X := X.suite a ((a, oe) :: (X.pn ++ pins))) S g m v' q nn db
theorem Caught.judged (c : Caught X pins σ H a cls d s) {v : Value} {b : Bool} (h : PySem.W.exmOne X.K cls v = some b) : PySem.W.Looks (model X.prog X.w) s.heap (excMatches (.ref a) v) b := by
  obtain ⟨oe, e, z, _, _⟩ := c.held
  exact PySem.W.exm_one c.inv.kIn (fun _ _ _ _ k q => wpAny_typeOf_ref (k _ _ e) (z.1.symm ▸ q)) h
/-- what behind the suite is left of an end -/
theorem Caught.done (c : Caught X pins σ H a cls d s) {oe : Obj} {i : Option Nat} {f : Flow} {s' : Shared} (hN : X.N.Nodup) {n : Str} (hn : ∀ j, i = some j → X.N[j]? = some n ∧ X.env.kindOf n = some .local)
    (h : SP (X.suite a ((a, oe) :: (X.pn ++ pins))) [] (Emp i D) f s') {p : Pos} :
    (i = none → SP X pins D f s') ∧ (i ≠ none → wpAny (model X.prog X.w) X.A (do bindName X.env n .none; unbindBehindTheSuite X.env n p) (fun _ s7 => SP X pins D f s7) X.xe s') := by
  cases i with
  | none =>
    refine ⟨fun _ => ?_, fun z => absurd rfl z⟩
    cases f <;> first
      | (obtain ⟨σ6, H6, S, q⟩ := h; exact ⟨σ6, H6, S.unsuite c.ok, q⟩)
      | (obtain ⟨v, σ6, H6, S, r, q⟩ := h; exact ⟨v, σ6, H6, S.unsuite c.ok, r, q⟩)
  | some j =>
    obtain ⟨hj, hk⟩ := hn j rfl
    refine ⟨fun z => (nomatch z), fun _ => ?_⟩
    cases f <;> first
      | (obtain ⟨σ6, H6, S, q⟩ := h; exact gone_ok (S.unsuite c.ok) hN hj hk fun s7 J => ⟨_, _, J, q⟩)
      | (obtain ⟨v, σ6, H6, S, r, q⟩ := h; exact gone_ok (S.unsuite c.ok) hN hj hk fun s7 J => ⟨_, _, _, J, r, q⟩)
/-- the clauses, one after the other -/
theorem Caught.handled {pos : Pos} (hN : X.N.Nodup) (tk : Takes X Wo) : ∀ {hs : List ExceptHandler} {l : List Cl1}, HdsN X hs l → ∀ {s : Shared}, Caught X pins σ H a cls d s → wN X.K Wo D l cls d σ H →
    wpAny (model X.prog X.w) X.A (handleBy (.ref a) X.env hs) (SP X pins D) X.xe s
  | _, _, .nil, s, c, w => by
    obtain ⟨B, sI, J, nb, up, os, ag, fl⟩ := id c.rest
    obtain ⟨_, _, _, oe, vs, T, oT, ts', he, hz, hd, h1, hr⟩ := id fl
    refine wpAny_handleBy_nil ?_
    have up2 : wpAny (model X.prog X.w) X.A (setFlight (.ref a) X.env.frame) (fun _ s4 => wpAny (model X.prog X.w) X.A (throw (.ref a) : Sem Flow) (SP X pins D) X.xe s4) X.xe s := by
      obtain ⟨hp, g, dr, t, o⟩ := s
      rw [c.fr]
      refine HandSPX.setFlight_upZ fl fun h4 hh4 u4 => wpAny_throw (tk _ _ ⟨a, B, sI, pins, σ, H, cls, d, rfl, J, nb, up.trans u4, .inr (.inr ?_), c.free, os, ag, w⟩)
      rw [c.st]
      exact hh4
    unfold PySem.passOn
    refine wpAny_bind (wpAny_field he hd h1 ?_)
    rw [if_neg (fun z => by simp at z)]
    first
      | exact wpAny_bind (wpAny_pure (wpAny_bind up2))
      | exact wpAny_bind up2
  | _, _, .pl hc hsu r, s, c, w => by
    obtain ⟨b, e, yes, no⟩ := w
    refine wpAny_handleBy_cons (codeAny_handlers_test (c.asks hc ((c.judged e).here ?_))) (fun q => nomatch q)
    cases b with
    | false => exact Caught.handled (pos := pos) hN tk r c (no rfl)
    | true =>
      refine codeAny_handlers_suite ?_
      obtain ⟨B, sI, J, nb, up, os, ag, fl⟩ := id c.rest
      obtain ⟨hp, g, dr, t, o⟩ := s
      refine HandSPX.lands_againZ fl fun h4 fl4 u4 => ?_
      have c4 : Caught X pins σ H a cls d ⟨h4, g, dr, t, o⟩ := ⟨c.ok, c.st, c.fr, c.free, B, sI, J, nb, up.trans u4, os, ag, fl4⟩
      obtain ⟨oe, _, z, q, S⟩ := c4.held
      exact wpAny_mono ((hsu a oe cls d _ z q).run [] _ _ H _ S (yes rfl a c.free)) (fun f s6 h => (c4.done (i := none) (n := "") (p := pos) hN (fun _ z => (nomatch z)) h).1 rfl) fun _ _ z => z.elim
  | _, _, .nm hi hl hc hsu r, s, c, w => by
    obtain ⟨b, e, yes, no⟩ := w
    refine wpAny_handleBy_cons (codeAny_handlers_test (c.asks hc ((c.judged e).here ?_))) (fun q => nomatch q)
    cases b with
    | false => exact Caught.handled (pos := pos) hN tk r c (no rfl)
    | true =>
      refine codeAny_handlers_suite_as ?_
      obtain ⟨B, sI, J, nb, up, os, ag, fl⟩ := id c.rest
      obtain ⟨hp, g, dr, t, o⟩ := s
      refine HandSPX.lands_againZ fl fun h4 fl4 u4 => ?_
      have c4 : Caught X pins σ H a cls d ⟨h4, g, dr, t, o⟩ := ⟨c.ok, c.st, c.fr, c.free, B, sI, J, nb, up.trans u4, os, ag, fl4⟩
      obtain ⟨oe, _, z, q, S⟩ := c4.held
      refine store_ok (X := X.suite a ((a, oe) :: (X.pn ++ pins))) (v := .ref a) S hN hi (.inl hl) rfl (fun s5 S5 => ?_) (.inr hl)
      exact wpAny_mono ((hsu a oe cls d _ z q).run [] s5 _ H _ S5 (yes rfl a c.free)) (fun f s6 h => (c4.done (i := some _) hN (fun j e => by cases e; exact ⟨hi, hl⟩) h).2 (fun z => (nomatch z))) fun _ _ z => z.elim
/-- try: body / several clauses -/
theorem ps_tryN {body : List Stmt} {h0 : ExceptHandler} {hs : List ExceptHandler} {l : List Cl1} {pos : Pos} {tb : WX → TS} (hst : X.stack = X.env :: X.outer) (hfr : X.env.frame = some X.env.locals) (hN : X.N.Nodup) (tk : Takes X Wo)
    (hb : ∀ (W : WX) (pn : List (Addr × Obj)) (xe : Value → Shared → Prop), Takes (X.tr pn xe) W → PassesOwn (model X.prog X.w) X.A X.env xe → PSs (X.tr pn xe) body (tb W)) (hh : HdsN X (h0 :: hs) l) :
    PS X (.Try body (h0 :: hs) [] [] pos) (fun D σ H => tb (wN X.K Wo D l) D σ H) := ⟨fun pins s σ H D I h => by
  have ok := I.ok
  let xe : Value → Shared → Prop := fun e s₁ => wpAny (model X.prog X.w) X.A (noteFrame e X.env) (fun _ s₂ => wpAny (model X.prog X.w) X.A (setFlight e none) (fun _ s₃ => wpAny (model X.prog X.w) X.A (handleBy e X.env (h0 :: hs)) (SP X pins D) X.xe s₃) X.xe s₂) X.xe s₁
  have tk2 : Takes (X.tr (X.pn ++ pins) xe) (wN X.K Wo D l) := fun u s' ⟨a, B, sI, pins', σ', H', cls, d, e, J', nb, up, sky, na, os, ag, w⟩ => by
    subst e
    have sky2 : Sky B (X.env :: X.outer) a (Zc cls d) X.env.locals s'.heap := by rw [← hst]; exact sky
    obtain ⟨hp, g, dr, t, o⟩ := s'
    refine Sky.land Zc.steady (ok.frames.trans (congrArg some hst)) hfr sky2 fun h3 fl u3 => ?_
    exact Caught.handled (pos := pos) hN tk hh ⟨ok, hst, hfr, na, B, sI, J'.ofTry ok, nb, up.trans u3, os, ag, fl⟩ w
  refine wpAny_Try_except (wpAny_mono ((hb _ _ xe tk2 PassesOwn.looking).run [] s σ H D (I.toTry _) h) (fun f s1 q => ?_) fun _ _ z => z)
  cases f <;> first
    | (obtain ⟨σ', H', J, q⟩ := q; exact wpAny_execs_nil ⟨σ', H', J.ofTry ok, q⟩)
    | (obtain ⟨σ', H', J, q⟩ := q; exact ⟨σ', H', J.ofTry ok, q⟩)
    | (obtain ⟨v, σ', H', J, r, q⟩ := q; exact ⟨v, σ', H', J.ofTry ok, r, q⟩)⟩
end
end Ew

set_option Elab.async false
set_option linter.all false
set_option maxRecDepth 100000
set_option maxHeartbeats 4000000
namespace Ew
open PySem PySem.Spec PyProof.Rows L2
/-- what the text's class D of an error says -/
structure ErrC (K : PySem.W.Frag) (D : Addr) : Prop where
  cl : (PySem.W.clsIn K D).isSome = true
  ga : PySem.W.findIn K (.ref D) "__getattribute__" = some (some (.builtin "BaseException.__getattribute__"))
  gt : PySem.W.findIn K (.ref D) "__getattr__" = some none
  sb : PySem.W.subIn K (.ref D) (.type "BaseException") = some true
  ca : PySem.W.findIn K (.ref D) "__class__" = some (some (.builtin "object.__class__"))
  gg : PySem.W.specialIn K (.builtin "object.__class__") "__get__" = some (some (.builtin "getset_descriptor.__get__"))
  tk : PySem.W.takesIn K (.builtin "object.__class__") = some true
  mo : PySem.W.mroIn K D (.type "object") = some true
section
variable {X : Cx} {a D : Addr} {oe : Obj} {pn : List (Addr × Obj)} {d : Option Addr}
theorem err_kit (C : ErrC X.K D) (hz : Zc (.ref D) d oe) (hf : ∃ vs, oe.data = .fields vs) {pins : List (Addr × Obj)} {σ : L2.St} {H : Hp} {s : Shared} (I : Inv (X.suite a ((a, oe) :: pn)) pins σ H s) (hd : ∀ dd, d = some dd → ∃ o, H dd = some o) :
    ∃ P : Heap → Prop, PySem.W.KitX X.K (.ref a) (.ref D) P ∧ P s.heap := by
  obtain ⟨at_, _⟩ := I.pin (a, oe) (List.mem_append.mpr (.inl List.mem_cons_self))
  obtain ⟨vs, hv⟩ := hf
  obtain ⟨oc, od, oda, osl⟩ := oe
  obtain ⟨h1, h2⟩ := hz
  dsimp only at h1 h2 hv
  subst h1 h2 hv
  cases od with
  | none => exact ⟨_, PySem.W.kitx_exc (od := none) C.cl C.ga C.gt C.sb C.ca C.gg C.tk C.mo, at_, rfl, rfl, trivial⟩
  | some dd =>
    obtain ⟨o, ho⟩ := hd dd rfl
    obtain ⟨u, hu⟩ := objOk_get (I.hok dd o ho)
    exact ⟨_, PySem.W.kitx_exc (od := some u) C.cl C.ga C.gt C.sb C.ca C.gg C.tk C.mo, at_, rfl, rfl, hu⟩
/-- isinstance(e, c) | isinstance(e, (c1, c2, ..)), e the error that the suite holds -/
def rIsErr (K : PySem.W.Frag) (D a : Addr) (d : Option Addr) : List V → Hp → VK → Prop := fun xs H Q => (∀ dd, d = some dd → ∃ o, H dd = some o) ∧
  ((∃ c u b, xs = [.ref a, c] ∧ ClsV c u ∧ PySem.W.kitOne K (.ref D) u = some b ∧ Q (.bl b) H) ∨ (∃ tp cs us b, xs = [.ref a, .ref tp] ∧ H tp = some (.tup cs) ∧ Paired ClsV cs us ∧ PySem.W.kitAny K (.ref D) us = some b ∧ Q (.bl b) H))
theorem call_isErr (C : ErrC X.K D) (hz : Zc (.ref D) d oe) (hf : ∃ vs, oe.data = .fields vs) : CallR (X.suite a ((a, oe) :: pn)) (.builtin "isinstance") (rIsErr X.K D a d) := by
  intro pins s σ H xs us Q I r h
  obtain ⟨hd, h⟩ := h
  obtain ⟨P, Z, p⟩ := err_kit C hz hf I hd
  rcases h with ⟨c, u, b, rfl, k, e, q⟩ | ⟨tp, cs, ws, b, rfl, ht, k, e, q⟩
  · obtain ⟨u1, u2, rfl, r1, r2⟩ := vals2 r
    cases r1
    obtain rfl := k.eq r2
    exact PySem.W.kia_one Z I.kIn p e (fun z => nomatch z) fun t => ⟨.bl b, H, I.tok t, rfl, q⟩
  · obtain ⟨u1, u2, rfl, r1, r2⟩ := vals2 r
    cases r1
    cases r2
    obtain ⟨_, its, rv, ⟨oc, od, dt, sl⟩, g1, g2, n, g3⟩ := (show ObjOk X.prog X.w H s.heap tp (.tup cs) from I.hok tp _ ht)
    dsimp only at g2 g3
    subst g2 g3
    obtain rfl := ClsV.all k rv
    exact PySem.W.kia_tup Z I.kIn p g1 e (fun z => nomatch z) fun t => ⟨.bl b, H, I.tok t, rfl, q⟩
/-- the same, the class told by the reading -/
theorem call_isErrC {cls : Value} (C : ErrC X.K D) (hz : Zc cls d oe) (hf : ∃ vs, oe.data = .fields vs) : CallR (X.suite a ((a, oe) :: pn)) (.builtin "isinstance") (fun xs H Q => cls = .ref D ∧ rIsErr X.K D a d xs H Q) := by
  intro pins s σ H xs us Q I r h
  obtain ⟨e, h⟩ := h
  subst e
  exact call_isErr C hz hf pins s σ H xs us Q I r h
end

/-! ### own operators -/
/-- a method of the class by a name of its own -/
structure OpM (K : PySem.W.Frag) (C : Addr) (name : Str) (f : Addr) : Prop where
  at_ : PySem.W.findIn K (.ref C) name = some (some (.ref f))
  fn : PySem.W.isFn K (.ref f) = true
section
variable {X : Cx} {CX : CXT} {k : Nat} {f C : Addr} {fd : FuncData} {ps : List Str} {sp : Sp} {E : L2.St → XK} {a b : Expr} {ta tb : TE} {pos : Pos}
theorem back_of {pins : List (Addr × Obj)} {σ : L2.St} {Q : VK} {u : Value} {s : Shared} (h : EP X pins σ Q u s) : PySem.W.CmpBack (EP X pins σ Q) u s := by
  obtain ⟨v, H, I, r, q⟩ := id h
  cases v <;> first
    | (cases r; exact h)
    | (obtain ⟨t, rfl⟩ := r; exact h)
theorem ins_at {pins : List (Addr × Obj)} {σ : L2.St} {H : Hp} {s : Shared} {x dx : Addr} {fs : List (Str × V)} (I : Inv X pins σ H s) (e : H x = some (.ins C dx fs)) : ∃ od, PySem.W.InstAt s.heap x (PySem.W.instObj C dx) C (some od) := by
  obtain ⟨mA, J, _⟩ := ins_get I.hok e
  obtain ⟨od, J, _⟩ := J.look
  exact ⟨od, J⟩
def tBinO (C : Addr) (sp : Sp) (E : L2.St → XK) (ta tb : TE) : TE := fun σ H Q => ta σ H fun x H1 => tb σ H1 fun y H2 => ∃ p q dx dy fs gs, x = .ref p ∧ y = .ref q ∧ H2 p = some (.ins C dx fs) ∧ H2 q = some (.ins C dy gs) ∧ sp [x, y] H2 Q (E σ)
/-- a + b and its like, both of one own class -/
theorem pe_binO {op : Operator} (F : FnOk X.prog X.w X.K X.mg X.base CX k f fd ps sp) (hr : Room k X.A) (M : OpM X.K C (PySem.dunder op.info.2) f) (sf : PySem.W.selfFirst X.K C = true) (hb : Binds X.K fd ps []) (hx : ∀ σ, PassesAt CX X σ (E σ))
    (h1 : PE X a ta) (h2 : PE X b tb) : PE X (.BinOp a op b pos) (tBinO C sp E ta tb) := by
  refine ⟨fun pins s σ H Q I h => wpAny_BinOp (bin h1 h2 I h fun v u s2 x y H2 I2 rx ry q => ?_)⟩
  obtain ⟨p, q', dx, dy, fs, gs, rfl, rfl, e1, e2, q⟩ := q
  cases rx
  cases ry
  obtain ⟨o1, J1⟩ := ins_at I2 e1
  obtain ⟨o2, J2⟩ := ins_at I2 e2
  obtain ⟨m, fr⟩ := I2.fr
  exact PySem.W.binop_K fr I2.ok.mod.kin J1 J2.type sf M.at_ M.fn (thn (run_fnS (vs := [.ref p, .ref q']) F hr hb (hx σ) I2 (.cons rfl (.cons rfl .nil)) q) fun _ _ z => back_of z)
def tNegO (C : Addr) (sp : Sp) (E : L2.St → XK) (ta : TE) : TE := fun σ H Q => ta σ H fun x H1 => ∃ p dx fs, x = .ref p ∧ H1 p = some (.ins C dx fs) ∧ sp [x] H1 Q (E σ)
/-- -a of an own class -/
theorem pe_negO (F : FnOk X.prog X.w X.K X.mg X.base CX k f fd ps sp) (hr : Room k X.A) (M : OpM X.K C "__neg__" f) (hb : Binds X.K fd ps []) (hx : ∀ σ, PassesAt CX X σ (E σ))
    (h1 : PE X a ta) : PE X (.UnaryOp .USub a pos) (tNegO C sp E ta) := by
  refine ⟨fun pins s σ H Q I h => UnaryOp_ (thn (h1.run pins s σ H _ I h) fun v s1 ⟨x, H1, I1, r1, q1⟩ => ?_)⟩
  obtain ⟨p, dx, fs, rfl, e1, q⟩ := q1
  cases r1
  obtain ⟨o1, J1⟩ := ins_at I1 e1
  obtain ⟨m, fr⟩ := I1.fr
  exact PySem.W.ksp_neg fr I1.ok.mod.kin J1 M.at_ M.fn (run_fnS (vs := [.ref p]) F hr hb (hx σ) I1 (.cons rfl .nil) q)
/-- what stands to the right of an own ==: another of the class, or a tuple -/
def RhsEq (K : PySem.W.Frag) (C : Addr) (H : Hp) (y : V) : Prop := ∃ q, y = .ref q ∧ ((∃ dy gs, H q = some (.ins C dy gs)) ∨ ∃ ys, SqT K H q ys)
def tEqO (K : PySem.W.Frag) (C : Addr) (sp : Sp) (E : L2.St → XK) (ta tb : TE) : TE := fun σ H Q => ta σ H fun x H1 => tb σ H1 fun y H2 => ∃ p dx fs, x = .ref p ∧ H2 p = some (.ins C dx fs) ∧ RhsEq K C H2 y ∧ sp [x, y] H2 Q (E σ)
theorem pc_eqO (F : FnOk X.prog X.w X.K X.mg X.base CX k f fd ps sp) (hr : Room k X.A) (M : OpM X.K C "__eq__" f) (ht : PySem.W.notFirst X.K C (.type "tuple") = true) (hb : Binds X.K fd ps []) (hx : ∀ σ, PassesAt CX X σ (E σ))
    (h1 : PE X a ta) (h2 : PE X b tb) : PC X .Eq a b (tEqO X.K C sp E ta tb) := by
  refine ⟨fun pins s σ H Q I h => bin h1 h2 I h fun v u s2 x y H2 I2 rx ry q => ?_⟩
  obtain ⟨p, dx, fs, rfl, e1, ⟨q', rfl, r⟩, q⟩ := q
  cases rx
  cases ry
  obtain ⟨o1, J1⟩ := ins_at I2 e1
  obtain ⟨m, fr⟩ := I2.fr
  have run := thn (run_fnS (vs := [.ref p, .ref q']) F hr hb (hx σ) I2 (.cons rfl (.cons rfl .nil)) q) fun _ _ z => back_of z
  show wpAny _ _ (richCompare .Eq (.ref p) (.ref q')) _ _ _
  rcases r with ⟨dy, gs, e2⟩ | ⟨ys, e2⟩
  · obtain ⟨o2, J2⟩ := ins_at I2 e2
    exact PySem.W.cmp_K (op := .Eq) hr.units0 fr I2.ok.mod.kin J1 J2.type (by simp [PySem.W.notFirst]) M.at_ M.fn run
  · obtain ⟨its, rv, ⟨o, ho, hc, _⟩, _⟩ := I2.tuple e2
    exact PySem.W.cmp_K (op := .Eq) hr.units0 fr I2.ok.mod.kin J1 (fun A' Q' E' s' kp z => wpAny_typeOf_ref (kp _ _ ho) (by rw [hc]; exact z)) ht M.at_ M.fn run
end
end Ew

set_option Elab.async false
set_option linter.all false
set_option maxRecDepth 100000
set_option maxHeartbeats 4000000
namespace Ew
open PySem PySem.Spec PyProof.Rows L2
/-! ### a def of the top as it stands behind the top, and its promise -/
section
variable {P : Program} {w : World} {K : PySem.W.Frag} {mg : Str → Option Value} {base : Heap}
structure DefAt (K : PySem.W.Frag) (mg : Str → Option Value) (x : Str) (st : Stmt) (ps : List Str) : Prop where
  ex : ∃ f fd, Fun K x x st f fd ∧ mg x = some (.ref f) ∧ Binds K fd ps []
structure Cl (P : Program) (w : World) (K : PySem.W.Frag) (mg : Str → Option Value) (base : Heap) (k : Nat) (x : Str) (ps : List Str) (sp : Sp) (dvs : List V) : Prop where
  ex : ∃ f fd ds, FnOk P w K mg base (L2.CX P w) k f fd ps sp ∧ mg x = some (.ref f) ∧ PySem.W.keepIn K (.ref f) = true ∧ Binds K fd ps ds ∧ Vals dvs ds
/-- where a body runs -/
abbrev cxB (P : Program) (w : World) (K : PySem.W.Frag) (mg : Str → Option Value) (base : Heap) (N : List Str) (qual : Str) (st : Stmt) (f : Addr) (cdv : Value) (A : Around) (outer : List Env) (s : Shared) (H : Hp) (E : XK) : Cx := cxOf (L2.CX P w) P w K mg base N qual (defScope st) f cdv A outer s H E
def BodyOk (P : Program) (w : World) (K : PySem.W.Frag) (mg : Str → Option Value) (base : Heap) (N : List Str) (qual : Str) (st : Stmt) (k : Nat) (sp : Sp) : Prop :=
  ∀ (f : Addr) (cdv : Value) (A : Around) (outer : List Env) (s : Shared) (H : Hp) (vs : List V) (Q : VK) (E : XK), Room k (cxB P w K mg base N qual st f cdv A outer s H E).A → sp vs H Q E →
    ∃ t, PSs (cxB P w K mg base N qual st f cdv A outer s H E) (defBody st) t ∧ t { nx := fun _ H' => Q .non H', rt := Q } (start N vs) H
theorem DefAt.cl {x : Str} {st : Stmt} {ps N : List Str} {k : Nat} {sp : Sp} (D : DefAt K mg x st ps) (S : FnScope N ps (defScope st)) (len : ∀ vs H Q E, sp vs H Q E → vs.length = ps.length) (h : BodyOk P w K mg base N x st k sp) : Cl P w K mg base (k + 1) x ps sp [] := by
  obtain ⟨f, fd, F, g, b⟩ := D.ex
  exact ⟨f, fd, [], F.okX S len fun cdv A outer s H vs Q E hr hs => h f cdv A outer s H vs Q E hr hs, g, F.kp, b, .nil⟩
/-- a def with defaults -/
structure DefAtD (K : PySem.W.Frag) (mg : Str → Option Value) (x : Str) (st : Stmt) (ps : List Str) (dvs : List V) : Prop where
  ex : ∃ f fd, FunD K x x (defArgs st) (defBody st) (defScope st) dvs [] f fd ∧ mg x = some (.ref f) ∧ ∀ j, j ≤ dvs.length → ∃ ds, Vals (dvs.drop j) ds ∧ Binds K fd ps ds
theorem DefAtD.cl {x : Str} {st : Stmt} {ps N : List Str} {k : Nat} {sp : Sp} {dvs : List V} (D : DefAtD K mg x st ps dvs) (j : Nat) (hj : j ≤ dvs.length) (S : FnScope N ps (defScope st)) (len : ∀ vs H Q E, sp vs H Q E → vs.length = ps.length)
    (h : BodyOk P w K mg base N x st k sp) : Cl P w K mg base (k + 1) x ps sp (dvs.drop j) := by
  obtain ⟨f, fd, F, g, b⟩ := D.ex
  obtain ⟨ds, hd, hb⟩ := b j hj
  exact ⟨f, fd, ds, F.ok S len fun cdv A outer s H vs Q E hr hs => h f cdv A outer s H vs Q E hr hs, g, F.kp, hb, hd⟩
theorem fun_ok {x qual : Str} {st : Stmt} {f : Addr} {fd : FuncData} {ps N : List Str} {k : Nat} {sp : Sp} (F : Fun K x qual st f fd) (S : FnScope N ps (defScope st)) (len : ∀ vs H Q E, sp vs H Q E → vs.length = ps.length) (h : BodyOk P w K mg base N qual st k sp) :
    FnOk P w K mg base (L2.CX P w) (k + 1) f fd ps sp := F.okX S len fun cdv A outer s H vs Q E hr hs => h f cdv A outer s H vs Q E hr hs
end
/-! ### calls -/
section
variable {X : Cx} {k j : Nat} {x m : Str} {ps : List Str} {sp : Sp} {dvs : List V} {e o : Expr} {es : List Expr} {t : TA} {ta : TE} {p pos apos : Pos} {W : WX} {C : Addr}
theorem run_dv {f : Addr} {fd : FuncData} {ds : List Value} {pins : List (Addr × Obj)} {σ : L2.St} {H : Hp} {s : Shared} {Q : VK} {us : List Value} {vs : List V} (F : FnOk X.prog X.w X.K X.mg X.base (L2.CX X.prog X.w) k f fd ps sp) (hr : Room k X.A) (hb : Binds X.K fd ps ds) (hd : Vals dvs ds)
    (tk : Takes X W) (I : Inv X pins σ H s) (r : Vals vs us) (h : sp (vs ++ dvs) H Q (WE W σ)) : wpAny (model X.prog X.w) X.A (call (.ref f) us) (EP X pins σ Q) X.xe s := by
  have r2 := r.append hd
  have hl : (us ++ ds).length = ps.length := by rw [← r2.length]; exact F.len _ _ _ _ h
  refine wpAny_call (codeAny_mono (F.run X.A X.stack s H ⟨us, []⟩ (us ++ ds) (vs ++ dvs) Q (WE W σ) hr I.env0 (hb s us I.kIn hl) r2 h) fun y s' hq => ?_)
  match y, hq with
  | .error e, hq => exact passAt tk σ pins H s e s' I hq
  | .ok (.ret u), hq => exact I.after hq
def tF (sp : Sp) (dvs : List V) (W : WX) (t : TA) : TE := fun σ H Q => t σ H fun vs H1 => sp (vs ++ dvs) H1 Q (WE W σ)
theorem pe_f (c : Cl X.prog X.w X.K X.mg X.base k x ps sp dvs) (tk : Takes X W) (hr : Room j X.A) (hk : k ≤ j) (hg : Gl X x) (ha : PA X (e :: es) t) (hdb : (x == ("__debug__" : Str)) = false := by decide)
    (he : starEach (e :: es) X.env = (false, eval e X.env) :: starEach es X.env := by rfl) (hpl : (backTo pos (starEach es X.env)).any (·.1) = false := by rfl) : PE X (.Call (.Name x p) (e :: es) [] pos) (tF sp dvs W t) := by
  obtain ⟨f, fd, ds, F, hm, hkp, hb, hd⟩ := c.ex
  exact ⟨fun pins s σ H Q I h => wpAny_Call_Name_kw (ld_glob I hg hm (PySem.W.callWith_K (h₀ := X.base) I.ok.mod.kin hkp (thn (ha.run pos pins s σ H _ I h) fun us s1 ⟨vs, H1, I1, r, q⟩ => ⟨I1.kIn, run_dv F (hr.mono hk) hb hd tk I1 r q⟩) he hpl) hdb)⟩
/-- a method of the class at C -/
structure Mt (P : Program) (w : World) (K : PySem.W.Frag) (mg : Str → Option Value) (base : Heap) (k : Nat) (C : Addr) (m : Str) (ps : List Str) (sp : Sp) (dvs : List V) : Prop where
  cl : Cls K C
  ex : ∃ f fd ds, Meth K C m f ∧ FnOk P w K mg base (L2.CX P w) k f fd ps sp ∧ Binds K fd ps ds ∧ Vals dvs ds
def tM (C : Addr) (m : Str) (sp : Sp) (dvs : List V) (W : WX) (ta : TE) (t : TA) : TE := fun σ H Q => ta σ H fun x H1 => ∃ a dx fs, x = .ref a ∧ H1 a = some (.ins C dx fs) ∧ fs.lookup m = none ∧ t σ H1 fun vs H2 => sp (x :: (vs ++ dvs)) H2 Q (WE W σ)
theorem pe_mf {pl : Sem Bool} (c : Mt X.prog X.w X.K X.mg X.base k C m ps sp dvs) (tk : Takes X W) (hr : Room j X.A) (hk : k ≤ j) (he : PE X o ta) (ha : PA X (e :: es) t)
    (hst : starEach (e :: es) X.env = (false, eval e X.env) :: starEach es X.env := by rfl) (hpl : (backTo pos (starEach es X.env)).any (·.1) = false := by rfl)
    (ht : eval (.Call (.Attribute o m apos) (e :: es) [] pos) X.env = (do
      let v ← eval o X.env
      standAt apos.atName
      let (g, first) ← holding [v] (getMethod v m pl)
      callWith pos g first (backTo pos (starEach (e :: es) X.env)) (backToKw pos (keywordEach [] X.env))) := by rfl) :
    PE X (.Call (.Attribute o m apos) (e :: es) [] pos) (tM C m sp dvs W ta t) := by
  obtain ⟨f, fd, ds, hm, F, hb, hd⟩ := c.ex
  refine ⟨fun pins s σ H Q I h => PySem.W.methodCall_KW (pl := pl) (thn (he.run pins s σ H _ I h) fun u s1 ⟨x, H1, I1, rx, a, dx, fs, ex, ea, l, q⟩ => ?_) ht⟩
  subst ex
  obtain rfl : u = Value.ref a := rx
  refine getmeth_ok I1 ea c.cl hm l ?_
  refine PySem.W.callWith_K (h₀ := X.base) I1.ok.mod.kin hm.kp (thn (ha.run pos pins s1 σ H1 _ I1 q) fun us s2 ⟨vs, H2, I2, r, q2⟩ => ⟨I2.kIn, ?_⟩) hst hpl
  exact run_dv (vs := .ref a :: vs) F (hr.mono hk) hb hd tk I2 (.cons rfl r) q2
/-- a new instance of the class x at C -/
structure Mkr (P : Program) (w : World) (K : PySem.W.Frag) (mg : Str → Option Value) (base : Heap) (k : Nat) (x : Str) (C : Addr) (ps : List Str) (sp : Sp) : Prop where
  gC : mg x = some (.ref C)
  ex : ∃ f fd, Mk K C f ∧ FnOk P w K mg base (L2.CX P w) k f fd ps sp ∧ Binds K fd ps []
theorem pe_mkf (c : Mkr X.prog X.w X.K X.mg X.base k x C ps sp) (hr : Room j X.A) (hk : k + 1 ≤ j) (hg : Gl X x) (ha : PA X (e :: es) t) (hdb : (x == ("__debug__" : Str)) = false := by decide)
    (he : starEach (e :: es) X.env = (false, eval e X.env) :: starEach es X.env := by rfl) (hpl : (backTo pos (starEach es X.env)).any (·.1) = false := by rfl) : PE X (.Call (.Name x p) (e :: es) [] pos) (tMake C sp [] E0 t) := by
  obtain ⟨f, fd, M, F, hb⟩ := c.ex
  exact pe_make M F (hr.mono hk) hg c.gC hb .nil passL ha hdb he hpl
/-- an own error made by C(e, ..) -/
structure Mke (P : Program) (w : World) (K : PySem.W.Frag) (mg : Str → Option Value) (base : Heap) (k : Nat) (x : Str) (C : Addr) (ps : List Str) (sp : Sp) : Prop where
  gC : mg x = some (.ref C)
  ox : OexC K C
  ex : ∃ f fd, PySem.W.findIn K (.ref C) "__init__" = some (some (.ref f)) ∧ PySem.W.typeIn K (.ref f) = some (.type "function") ∧ FnOk P w K mg base (L2.CX P w) k f fd ps sp ∧ Binds K fd ps []
theorem pmk_err (c : Mke X.prog X.w X.K X.mg X.base k x C ps sp) (hr : Room j X.A) (hk : k + 1 ≤ j) (hg : Gl X x) (ha : PA X (e :: es) t) (hdb : (x == ("__debug__" : Str)) = false := by decide)
    (he : starEach (e :: es) X.env = (false, eval e X.env) :: starEach es X.env := by rfl) (hpl : (backTo pos (starEach es X.env)).any (·.1) = false := by rfl) : PMk X (.Call (.Name x p) (e :: es) [] pos) (tMkO C sp [] t) := by
  obtain ⟨f, fd, hi, ht, F, hb⟩ := c.ex
  exact pmk_oex c.ox hi ht F (hr.mono hk) hb .nil passL hg c.gC ha hdb he hpl
end
/-! ### what is frozen: F, a part of the heap that stays; m: what may be changed -/
structure Stm (m : Addr → Prop) (F H F' H' : Hp) : Prop where
  ff : Same F F'
  fh : Same F' H'
  hh : ∀ a o, ¬ m a → H a = some o → H' a = some o
  nw : ∀ a, F a = none → H a ≠ none → F' a = none
abbrev Stp := Stm (fun _ => False)
section
variable {m m' : Addr → Prop} {F H F' H' F2 H2 : Hp} {p : Addr} {o : HO}
theorem Stm.refl (h : Same F H) : Stm m F H F H := ⟨Same.refl F, h, fun _ _ _ e => e, fun _ n _ => n⟩
theorem Stm.mono (a : Stm m F H F' H') (h : ∀ x, m x → m' x) : Stm m' F H F' H' := ⟨a.ff, a.fh, fun x o n e => a.hh x o (fun z => n (h x z)) e, a.nw⟩
theorem Stm.any (a : Stp F H F' H') : Stm m F H F' H' := a.mono fun _ z => z.elim
theorem Stm.same (a : Stp F H F' H') : Same H H' := fun x o e => a.hh x o (fun z => z) e
theorem Stm.there (a : Stm m F H F' H') (hm : ∀ x, m x → H x ≠ none → H' x ≠ none) {x : Addr} (h : H x ≠ none) : H' x ≠ none := by
  by_cases q : m x
  · exact hm x q h
  · cases e : H x with
    | none => exact absurd e h
    | some o => rw [a.hh x o q e]; exact fun z => nomatch z
theorem Stm.trans (a : Stm m F H F' H') (b : Stm m F' H' F2 H2) (hm : ∀ x, m x → H x ≠ none → H' x ≠ none) : Stm m F H F2 H2 :=
  ⟨a.ff.trans b.ff, b.fh, fun x o n e => b.hh x o n (a.hh x o n e), fun q n z => b.nw q (a.nw q n z) (a.there hm z)⟩
theorem Stm.transP (a : Stp F H F' H') (b : Stp F' H' F2 H2) : Stp F H F2 H2 := a.trans b fun _ z => z.elim
theorem same_new (h : H p = none) : Same H (upd H p o) := fun b u e => by rw [upd_ne (ne_of_none e h)]; exact e
/-- a new thing is laid, and frozen at once -/
theorem Stm.new (a : Stm m F H F' H') (hp : H' p = none) (h0 : H p = none) : Stm m F H (upd F' p o) (upd H' p o) where
  ff := a.ff.trans (same_new (a.fh.free hp))
  fh := fun b u e => by
    by_cases hb : b = p
    · subst hb; rw [upd_same] at e ⊢; exact e
    · rw [upd_ne hb] at e ⊢; exact a.fh b u e
  hh := fun x u n e => by rw [upd_ne (ne_of_none e h0)]; exact a.hh x u n e
  nw := fun x n z => by rw [upd_ne (fun q => z (by rw [q]; exact h0))]; exact a.nw x n z
/-- a new thing is laid that is to be changed further -/
theorem Stm.raw (a : Stm m F H F' H') (hp : H' p = none) (h0 : H p = none) : Stm m F H F' (upd H' p o) := ⟨a.ff, a.fh.trans (same_new hp), fun x u n e => by rw [upd_ne (ne_of_none e h0)]; exact a.hh x u n e, a.nw⟩
/-- a thing of the def's own is changed -/
theorem Stm.mut (a : Stm m F H F' H') (hf : F' p = none) (h0 : H p = none) : Stm m F H F' (upd H' p o) := ⟨a.ff, fun b u e => by rw [upd_ne (ne_of_none e hf)]; exact a.fh b u e, fun x u n e => by rw [upd_ne (ne_of_none e h0)]; exact a.hh x u n e, a.nw⟩
/-- a thing of the def's own stays from now on -/
theorem Stm.freeze (a : Stm m F H F' H') (hf : F' p = none) (h0 : H p = none) (e : H' p = some o) : Stm m F H (upd F' p o) H' where
  ff := a.ff.trans (same_new hf)
  fh := fun b u q => by
    by_cases hb : b = p
    · subst hb; rw [upd_same] at q; rw [e]; exact q
    · rw [upd_ne hb] at q; exact a.fh b u q
  hh := a.hh
  nw := fun x n z => by rw [upd_ne (fun q => z (by rw [q]; exact h0))]; exact a.nw x n z
/-- fresh now is fresh at the start, where what may change is there -/
theorem Stm.fresh (a : Stm m F H F' H') (hm : ∀ x, m x → H' x ≠ none) {x : Addr} (h : H' x = none) : H x = none := by
  by_cases q : m x
  · exact absurd h (hm x q)
  · cases e : H x with
    | none => rfl
    | some o => rw [a.hh x o q e] at h; cases h
theorem Stm.freshP (a : Stp F H F' H') {x : Addr} (h : H' x = none) : H x = none := a.fresh (fun _ z => z.elim) h
theorem Stm.newP (a : Stp F H F' H') (hp : H' p = none) : Stp F H (upd F' p o) (upd H' p o) := a.new hp (a.freshP hp)
theorem stp_new (h : Same F H) (hp : H p = none) : Stp F H (upd F p o) (upd H p o) := (Stm.refl h).newP hp
end
theorem upT {K : PySem.W.Frag} {H H' : Hp} {a : Addr} {xs : List V} (e : Same H H') (h : SqT K H a xs) : SqT K H' a xs := h.ext e
theorem upL {K : PySem.W.Frag} {H H' : Hp} {a : Addr} {xs : List V} (e : Same H H') (h : SqL K H a xs) : SqL K H' a xs := h.ext e
theorem sq_new {K : PySem.W.Frag} {H : Hp} {p : Addr} {xs : List V} : SqT K (upd H p (.tup xs)) p xs := SqT.of upd_same
/-- what a def promises that changes nothing: a part of the heap stays, the answer stands in it -/
def Pu (F H : Hp) (Q : VK) (post : Hp → V → Prop) : Prop := Same F H ∧ ∀ F' H' v, Stp F H F' H' → post F' v → Q v H'
theorem iteY {c A B : Prop} [Decidable c] (h : c) (x : A) : if c then A else B := by rw [if_pos h]; exact x
theorem iteN {c A B : Prop} [Decidable c] (h : ¬ c) (x : B) : if c then A else B := by rw [if_neg h]; exact x
theorem vint_ne {a b : Int} (h : a ≠ b) : ¬ decide (V.int a = V.int b) = true := fun z => h (V.int.inj (of_decide_eq_true z))
theorem vint_eq {a b : Int} (h : a = b) : decide (V.int a = V.int b) = true := decide_eq_true (congrArg V.int h)
/-! ### // by any divisor but 0 -/
def CDivX (_ j : Int) : Prop := j ≠ 0 ∧ j.natAbs.log2 < 9000
theorem op_fdivX {X : Cx} : OpR X (binaryOp .FloorDiv) (rI CDivX fun i j => .int (i.fdiv j)) := opI fun _ _ _ _ _ _ _ hc q => floordiv_int hc.1 q (.inl (PyProof.noPylong_of_log2 hc.2))
end Ew

set_option Elab.async false
set_option linter.all false
set_option maxRecDepth 100000
set_option maxHeartbeats 4000000
namespace Ew
open PySem PySem.Spec PyProof.Rows L2
/-- an error's __init__ that keeps its one argument (its two) -/
def spI1 (C : Addr) (f : Str) : Sp := fun vs H Q _ => ∃ x v, vs = [.ref x, v] ∧ H x = some (exo x C none) ∧ ∀ dx, H dx = none → dx ≠ x → Q .non (upd (upd H dx (exd dx [(f, v)])) x (exo x C (some dx)))
def spI2 (C : Addr) (f g : Str) : Sp := fun vs H Q _ => ∃ x u v, vs = [.ref x, u, v] ∧ H x = some (exo x C none) ∧
  ∀ dx, H dx = none → dx ≠ x → Q .non (upd (upd (upd H dx (exd dx [(f, u)])) x (exo x C (some dx))) dx (exd dx [(g, v), (f, u)]))
theorem back1 {H : Hp} {a d : Addr} {o1 o2 o3 o4 : HO} (ha : H a = none) (h : d ≠ a) : upd (del (upd (upd (upd H a o1) d o2) a o3) a) d o4 = upd H d o4 := by
  funext b
  by_cases e : b = d
  · subst e; rw [upd_same, upd_same]
  · rw [upd_ne e, upd_ne e]
    by_cases e2 : b = a
    · subst e2; rw [del_same, ha]
    · rw [del_ne e2, upd_ne e2, upd_ne e, upd_ne e2]
theorem back2 {H : Hp} {a d : Addr} {o1 o2 o3 o4 o5 : HO} (ha : H a = none) (h : d ≠ a) : upd (del (upd (upd (upd (upd H a o1) d o2) a o3) d o5) a) d o4 = upd H d o4 := by
  funext b
  by_cases e : b = d
  · subst e; rw [upd_same, upd_same]
  · rw [upd_ne e, upd_ne e]
    by_cases e2 : b = a
    · subst e2; rw [del_same, ha]
    · rw [del_ne e2, upd_ne e, upd_ne e2, upd_ne e, upd_ne e2]
section
variable {X : Cx} {k j : Nat} {x f g : Str} {ps : List Str} {e e2 : Expr} {te te2 : TE} {p pos pos2 : Pos} {W : WX} {C : Addr}
def tR1 (C : Addr) (f : Str) (W : WX) (te : TE) : TS := fun _ σ H => te σ H fun v H1 => ∀ d, H1 d = none → W (.ref C) (some d) σ (upd H1 d (.xd [(f, v)]))
def tR2 (C : Addr) (f g : Str) (W : WX) (te te2 : TE) : TS := fun _ σ H => te σ H fun u H1 => te2 σ H1 fun v H2 => ∀ d, H2 d = none → W (.ref C) (some d) σ (upd H2 d (.xd [(g, v), (f, u)]))
theorem ps_weak {st : Stmt} {t t' : TS} (h : PS X st t) (q : ∀ D σ H, t' D σ H → t D σ H) : PS X st t' := ⟨fun pins s σ H D I z => h.run pins s σ H D I (q D σ H z)⟩
end
/-- te says what it says of more, too -/
def TeMono (te : TE) : Prop := ∀ σ H (Q Q' : VK), (∀ v H', Q v H' → Q' v H') → te σ H Q → te σ H Q'
theorem pe_up {X : Cx} {e : Expr} {te : TE} (h : PE X e te) : PE X e fun σ H Q => ∃ Q', (∀ v H', Q' v H' → Q v H') ∧ te σ H Q' := ⟨fun pins s σ H Q I ⟨Q', q, z⟩ => thn (h.run pins s σ H Q' I z) fun _ _ ⟨v, H', I', r, y⟩ => ⟨v, H', I', r, q v H' y⟩⟩
section
variable {X : Cx} {k j : Nat} {x f g : Str} {ps : List Str} {e e2 : Expr} {te te2 : TE} {p pos pos2 : Pos} {W : WX} {C : Addr}
theorem ps_raise1 (hc : X.calm = true) (tk : Takes X W) (c : Mke X.prog X.w X.K X.mg X.base k x C ps (spI1 C f)) (hr : Room j X.A) (hk : k + 1 ≤ j) (hg : Gl X x) (he : PE X e te) (hdb : (x == ("__debug__" : Str)) = false := by decide)
    (hs : starEach [e] X.env = [(false, eval e X.env)] := by rfl) (hpl : (backTo pos (starEach ([] : List Expr) X.env)).any (·.1) = false := by rfl) : PS X (.Raise (some (.Call (.Name x p) [e] [] pos)) none pos2) (tR1 C f W te) := by
  refine ps_weak (ps_raise hc tk (pmk_err c hr hk hg (pa_cons (pe_up he) pa_nil hs) hdb hs hpl)) fun D σ H h => ⟨_, fun v H1 z => ?_, h⟩
  refine ⟨Nat.le_of_ble_eq_true rfl, fun a ha => ⟨a, v, rfl, upd_same, fun dx n ne => ⟨rfl, dx, [(f, v)], upd_same, ?_, ?_, ?_⟩⟩⟩
  · rw [upd_ne ne, upd_same]
  · rw [upd_ne ne] at n; exact n
  · rw [back1 ha ne]
    rw [upd_ne ne] at n
    exact z dx n
theorem ps_raise2 (hc : X.calm = true) (tk : Takes X W) (c : Mke X.prog X.w X.K X.mg X.base k x C ps (spI2 C f g)) (hr : Room j X.A) (hk : k + 1 ≤ j) (hg : Gl X x) (he : PE X e te) (he2 : PE X e2 te2) (hdb : (x == ("__debug__" : Str)) = false := by decide)
    (hs : starEach [e, e2] X.env = [(false, eval e X.env), (false, eval e2 X.env)] := by rfl) (hs2 : starEach [e2] X.env = [(false, eval e2 X.env)] := by rfl) (hpl : (backTo pos (starEach [e2] X.env)).any (·.1) = false := by rfl) :
    PS X (.Raise (some (.Call (.Name x p) [e, e2] [] pos)) none pos2) (tR2 C f g W te te2) := by
  have hs' : starEach [e, e2] X.env = (false, eval e X.env) :: starEach [e2] X.env := by rw [hs, hs2]
  refine ps_weak (ps_raise hc tk (pmk_err c hr hk hg (pa_cons (pe_up he) (pa_cons (pe_up he2) pa_nil hs2) hs') hdb hs' hpl)) fun D σ H h => ⟨_, fun u H1 y => ⟨_, fun v H2 z => ?_, y⟩, h⟩
  refine ⟨Nat.le_of_ble_eq_true rfl, fun a ha => ⟨a, u, v, rfl, upd_same, fun dx n ne => ⟨rfl, dx, [(g, v), (f, u)], ?_, upd_same, ?_, ?_⟩⟩⟩
  · rw [upd_ne (Ne.symm ne), upd_same]
  · rw [upd_ne ne] at n; exact n
  · rw [back2 ha ne]
    rw [upd_ne ne] at n
    exact z dx n
end
/-- what a def promises of an error that leaves it -/
def Ra (F H : Hp) (E : XK) (C : Addr) (post : Hp → Addr → Prop) : Prop := ∀ F' H' d, Stp F H F' H' → post F' d → E (.ref C) (some d) H'
theorem ty_sqT {K : PySem.W.Frag} {H : Hp} {p : Addr} {xs : List V} (h : SqT K H p xs) : TyX K H (.ref p) (.type "tuple") := by
  rcases h with (h | ⟨o, h⟩) | h
  · exact .base (.tup h)
  · exact .fTuple h
  · obtain ⟨o, its, n, e, c, _⟩ := h
    exact .kTuple e c
theorem ty_sqL {K : PySem.W.Frag} {H : Hp} {p : Addr} {xs : List V} (h : SqL K H p xs) : TyX K H (.ref p) (.type "list") := by
  rcases h with (h | ⟨o, h⟩) | h
  · exact .base (.lst h)
  · exact .base (.frz h)
  · obtain ⟨o, its, n, e, c, _⟩ := h
    exact .kList e c
end Ew

set_option Elab.async false
set_option linter.all false
set_option maxRecDepth 100000
set_option maxHeartbeats 4000000
namespace Ew
open PySem PySem.Spec PyProof.Rows L2
/-- what may be changed (m), and what stays true of it (I) -/
structure Mem (m : Addr → Prop) (I : Hp → Hp → Prop) : Prop where
  there : ∀ {F H x}, I F H → m x → H x ≠ none
  off : ∀ {F H x}, I F H → m x → F x = none
  put : ∀ {F H p o}, I F H → ¬ m p → I F (upd H p o)
  grow : ∀ {F F' H}, I F H → Same F F' → (∀ x, m x → F' x = none) → I F' H
theorem memP : Mem (fun _ => False) (fun _ _ => True) := ⟨fun _ z => z.elim, fun _ z => z.elim, fun _ _ => trivial, fun _ _ _ => trivial⟩
section
variable {m : Addr → Prop} {I : Hp → Hp → Prop} {F H F' H' F2 H2 : Hp} {J : It} {n : Nat} {G : Hp → Prop} {Y : Nat → Hp → V → Hp → Prop}
theorem Stm.then (M : Mem m I) (i : I F' H') (a : Stm m F H F' H') (b : Stm m F' H' F2 H2) : Stm m F H F2 H2 := a.trans b fun _ z _ => M.there i z
/-- a comprehension: each turn gives one item, of which R says what is wanted; the new list is frozen at the end -/
theorem lcM (M : Mem m I) (w : Walk J n G Y) {g : TG} {tt : TT} {te : TE} {vs : List Nat} {σ : L2.St} {D : Addr} {Qd : Hp → Prop} (hf : Same F H) (i0 : I F H) (hD : H D = none) (R : Nat → Hp → V → Prop) (hR : ∀ i F F' y, Same F F' → R i F y → R i F' y)
    (hn : n ≤ 1000000) (hG : ∀ F' H', Same F F' → Same F' H' → G H')
    (hs : ∀ i x F' H' H'' (Kt : VK) (Kn : Hp → Prop), i < n → Stm m F H F' H' → I F' H' → Y i H' x H'' → (∀ y F4 H4, Stm m F' H' F4 H4 → I F4 H4 → R i F4 y → Kt y H4) →
      g x (wipe σ vs) H'' fun σ2 H2 => wipe σ2 vs = wipe σ vs ∧ tt σ2 H2 fun b H3 => if b = true then te σ2 H3 Kt else Kn H3)
    (hd : ∀ F' H' ys, Stm m F H F' H' → I F' H' → F' D = some (.lst ys) → ys.length = n → (∀ j y, ys[j]? = some y → R j F' y) → Qd H') :
    ∃ W : Nat → Nat → Hp → Prop, (∃ k, W 0 k (upd H D (.lst []))) ∧ ∀ i k H, W i k H →
      (J.stop i H ∧ Qd H) ∨ (J.go i H ∧ ∃ Nx : Hp → Prop, (∀ H', Nx H' → ∃ k', k' < k ∧ W (i + 1) k' H') ∧ ∀ x H', J.yld i H x H' → g x (wipe σ vs) H' fun σ2 H2 => wipe σ2 vs = wipe σ vs ∧ tt σ2 H2 fun b H3 =>
        if b = true then te σ2 H3 fun y H4 => ∃ acc, H4 D = some (.lst acc) ∧ acc.length < sizeLine ∧ Nx (upd H4 D (.lst (acc ++ [y]))) else Nx H3) := by
  have nm : ¬ m D := fun z => M.there i0 z hD
  have fD : F D = none := hf.free hD
  refine lc_it w (fun i H' => ∃ F' acc, Stm m F H F' H' ∧ I F' H' ∧ F' D = none ∧ H' D = some (.lst acc) ∧ acc.length = i ∧ ∀ j y, acc[j]? = some y → R j F' y) ?_ ?_ ?_ ?_
  · exact ⟨F, [], (Stm.refl hf).raw hD hD, M.put i0 nm, fD, upd_same, rfl, fun j y z => by simp at z⟩
  · rintro i H' _ ⟨F', acc, s, _⟩
    exact hG F' H' s.ff s.fh
  · rintro i x H' H'' hi ⟨F', acc, s, iv, f', h', hl, hr⟩ y
    refine hs i x F' H' H'' _ _ hi s iv y fun y F4 H4 s4 i4 r4 => ?_
    have f4 : F4 D = none := s4.nw D f' (by rw [h']; exact fun z => nomatch z)
    have h4 : H4 D = some (.lst acc) := s4.hh D _ nm h'
    refine ⟨acc, h4, by rw [sizeLine_eq]; omega, F4, acc ++ [y], (s.then M iv s4).mut f4 hD, M.put i4 nm, f4, upd_same, by rw [List.length_append, hl]; rfl, fun j z hz => ?_⟩
    rcases Nat.lt_or_ge j acc.length with hj | hj
    · rw [List.getElem?_append_left hj] at hz
      exact hR j F' F4 z s4.ff (hr j z hz)
    · rw [List.getElem?_append_right hj] at hz
      have e0 : j - acc.length = 0 := by
        rcases Nat.eq_zero_or_pos (j - acc.length) with h0 | h0
        · exact h0
        · rw [List.getElem?_eq_none (by simp; omega)] at hz; cases hz
      rw [e0] at hz
      cases hz
      have ej : j = i := by omega
      rw [ej]
      exact r4
  · rintro H' ⟨F', acc, s, iv, f', h', hl, hr⟩
    refine hd (upd F' D (.lst acc)) H' acc (s.freeze f' hD h') (M.grow iv (same_new f') fun x hx => ?_) upd_same hl fun j y hy => hR j F' _ y (same_new f') (hr j y hy)
    rw [upd_ne (fun z => nm (by rw [← z]; exact hx))]
    exact M.off iv hx
theorem lc_yes {te : TE} {σ : L2.St} {H : Hp} {Kt : VK} {Kn : Hp → Prop} (h : te σ H Kt) : tYes σ H fun b H3 => if b = true then te σ H3 Kt else Kn H3 := by
  show if true = true then te σ H Kt else Kn H
  rw [if_pos rfl]
  exact h
end
end Ew

set_option Elab.async false
set_option linter.all false
set_option maxRecDepth 100000
set_option maxHeartbeats 4000000
namespace Ew
open PySem PySem.Spec PyProof.Rows L2
/-- a tuple of ints as data -/
def intT (ds : List Int) : PyData := .tuple (ds.map .int)
theorem dpAll_ints {K : PySem.W.Frag} {H : Hp} : ∀ ds : List Int, DpAll K H (ds.map V.int) (ds.map PyData.int)
  | [] => .nil
  | d :: ds => .cons (.int d) (dpAll_ints ds)
theorem dp_ints {K : PySem.W.Frag} {H : Hp} {p : Addr} {ds : List Int} (h : SqT K H p (ds.map V.int)) : Dp K H (.ref p) (intT ds) := .tup h (dpAll_ints ds)
theorem eqvAll_ints : ∀ a b : List Int, PyData.eqvAll (a.map .int) (b.map .int) = decide (a = b)
  | [], [] => rfl
  | [], y :: b => rfl
  | x :: a, [] => rfl
  | x :: a, y :: b => by
    rw [List.map_cons, List.map_cons, PyData.eqvAll, PyData.eqv, eqvAll_ints a b]
    by_cases h : x = y
    · subst h; by_cases h2 : a = b <;> simp [h2]
    · simp [h]
theorem eqv_ints (a b : List Int) : PyData.eqv (intT a) (intT b) = decide (a = b) := by
  unfold intT
  rw [PyData.eqv, eqvAll_ints]
theorem lay_ints : ∀ ds : List Int, PyData.canLayAll0 (ds.map PyData.int) = true
  | [] => by rw [List.map_nil, PyData.canLayAll0]
  | d :: ds => by rw [List.map_cons, PyData.canLayAll0, lay_ints ds, PyData.canLay0, Bool.and_self]
theorem dep_ints : ∀ ds : List Int, PyData.depthAll (ds.map PyData.int) = 0
  | [] => by rw [List.map_nil, PyData.depthAll]
  | d :: ds => by rw [List.map_cons, PyData.depthAll, dep_ints ds, PyData.depth, Nat.max_self]
theorem shaped_ints (ds : List Int) : SeqAt.shaped (intT ds) = true := by
  unfold SeqAt.shaped intT
  rw [PyData.canLay0, lay_ints, PyData.depth, dep_ints]
  rfl
/-! ### ratios -/
/-- at v a pair of ints; a tuple of ints -/
def Rt (K : PySem.W.Frag) (F : Hp) (v : V) (r : Int × Int) : Prop := ∃ p, v = .ref p ∧ SqT K F p [.int r.1, .int r.2]
def Dm (K : PySem.W.Frag) (F : Hp) (v : V) (ds : List Int) : Prop := ∃ p, v = .ref p ∧ SqT K F p (ds.map V.int)
section
variable {K : PySem.W.Frag} {F F' : Hp} {v : V} {r : Int × Int} {ds : List Int}
theorem Rt.up (h : Rt K F v r) (e : Same F F') : Rt K F' v r := by obtain ⟨p, h1, h2⟩ := h; exact ⟨p, h1, upT e h2⟩
theorem Dm.up (h : Dm K F v ds) (e : Same F F') : Dm K F' v ds := by obtain ⟨p, h1, h2⟩ := h; exact ⟨p, h1, upT e h2⟩
theorem Rt.dp (h : Rt K F v r) : Dp K F v (intT [r.1, r.2]) := by obtain ⟨p, rfl, h2⟩ := h; exact dp_ints h2
theorem Dm.dp (h : Dm K F v ds) : Dp K F v (intT ds) := by obtain ⟨p, rfl, h2⟩ := h; exact dp_ints h2
end
/-- the common divisor, with the sign of d -/
def com (n d : Int) : Int := if d < 0 then -((Nat.gcd n.natAbs d.natAbs : Nat) : Int) else ((Nat.gcd n.natAbs d.natAbs : Nat) : Int)
/-- n / d in lowest terms -/
def rat (n d : Int) : Int × Int := (n.fdiv (com n d), d.fdiv (com n d))
/-- size: below 2 ^ b -/
def Sz (b : Nat) (n : Int) : Prop := n.natAbs < 2 ^ b
theorem Sz.mono {a b : Nat} {n : Int} (h : Sz a n) (k : a ≤ b) : Sz b n := Nat.lt_of_lt_of_le h (Nat.pow_le_pow_right (by decide) k)
theorem Sz.log {b : Nat} {n : Int} (h : Sz b n) (h0 : 0 < b) (k : b ≤ 9000) : n.natAbs.log2 < 9000 := Nat.lt_of_lt_of_le (PySem.Flt.log2_lt_of h0 h) k
theorem Sz.mul {a b : Nat} {m n : Int} (h : Sz a m) (k : Sz b n) : Sz (a + b) (m * n) := wide_lt h k
theorem Sz.add {a : Nat} {m n : Int} (h : Sz a m) (k : Sz a n) : Sz (a + 1) (m + n) := by
  unfold Sz at *
  have := Int.natAbs_add_le m n
  rw [Nat.pow_succ]
  omega
theorem Sz.sub {a : Nat} {m n : Int} (h : Sz a m) (k : Sz a n) : Sz (a + 1) (m - n) := by
  unfold Sz at *
  rw [Nat.pow_succ]
  omega
theorem Sz.neg {a : Nat} {m : Int} (h : Sz a m) : Sz a (-m) := by
  unfold Sz at *
  rwa [Int.natAbs_neg]
theorem com_ne {n d : Int} (h : d ≠ 0) : com n d ≠ 0 := by
  have g : 0 < Nat.gcd n.natAbs d.natAbs := Nat.gcd_pos_of_pos_right _ (by omega)
  unfold com
  split <;> omega
theorem com_abs (n d : Int) : (com n d).natAbs = Nat.gcd n.natAbs d.natAbs := by
  unfold com
  split <;> simp
theorem com_sz {n d : Int} {b : Nat} (h0 : d ≠ 0) (h : Sz b d) : Sz b (com n d) := by
  unfold Sz
  rw [com_abs]
  exact Nat.lt_of_le_of_lt (Nat.gcd_le_right _ (by omega)) h
theorem com_dn (n d : Int) : com n d ∣ n := by
  rw [← Int.natAbs_dvd_natAbs, com_abs]
  exact Nat.gcd_dvd_left _ _
theorem com_dd (n d : Int) : com n d ∣ d := by
  rw [← Int.natAbs_dvd_natAbs, com_abs]
  exact Nat.gcd_dvd_right _ _
theorem fdiv_abs {n c : Int} (h : c ∣ n) : (n.fdiv c).natAbs = n.natAbs / c.natAbs := by
  obtain ⟨k, rfl⟩ := h
  by_cases h0 : c = 0
  · subst h0; simp
  · rw [Int.mul_fdiv_cancel_left _ h0, Int.natAbs_mul, Nat.mul_div_cancel_left _ (by omega)]
theorem Sz.fdiv {n c : Int} {b : Nat} (h : Sz b n) (hd : c ∣ n) : Sz b (n.fdiv c) := by
  unfold Sz
  rw [fdiv_abs hd]
  exact Nat.lt_of_le_of_lt (Nat.div_le_self _ _) h
theorem rat_sz {n d : Int} {b : Nat} (h1 : Sz b n) (h2 : Sz b d) : Sz b (rat n d).1 ∧ Sz b (rat n d).2 := ⟨h1.fdiv (com_dn n d), h2.fdiv (com_dd n d)⟩
theorem rat_pos {n d : Int} (h : d ≠ 0) : 0 < (rat n d).2 := by
  show 0 < d.fdiv (com n d)
  have g : 0 < Nat.gcd n.natAbs d.natAbs := Nat.gcd_pos_of_pos_right _ (by omega)
  obtain ⟨k, hk⟩ := com_dd n d
  have hc := com_ne (n := n) h
  have e : d.fdiv (com n d) = k := by
    conv => lhs; lhs; rw [hk]
    rw [Int.mul_fdiv_cancel_left _ hc]
  rw [e]
  unfold com at hk
  split at hk
  · rename_i hd
    rcases Int.lt_trichotomy k 0 with q | q | q
    · have : 0 < -((Nat.gcd n.natAbs d.natAbs : Nat) : Int) * k := Int.mul_pos_of_neg_of_neg (by omega) q
      omega
    · subst q; simp at hk; omega
    · exact q
  · rename_i hd
    rcases Int.lt_trichotomy k 0 with q | q | q
    · have : ((Nat.gcd n.natAbs d.natAbs : Nat) : Int) * k < 0 := Int.mul_neg_of_pos_of_neg (by omega) q
      omega
    · subst q; simp at hk; omega
    · exact q
theorem rat_cop {n d : Int} (h : d ≠ 0) : Nat.gcd (rat n d).1.natAbs (rat n d).2.natAbs = 1 := by
  show Nat.gcd (n.fdiv (com n d)).natAbs (d.fdiv (com n d)).natAbs = 1
  rw [fdiv_abs (com_dn n d), fdiv_abs (com_dd n d), com_abs]
  exact Nat.gcd_div_gcd_div_gcd_of_pos_right (by omega)
end Ew

set_option Elab.async false
set_option linter.all false
set_option maxRecDepth 100000
set_option maxHeartbeats 4000000
namespace Ew
open PySem PySem.Spec PyProof.Rows L2
/-- a static method m of the class at C: what stands at p holds the def at g -/
structure StM (K : PySem.W.Frag) (C : Addr) (mc : Value) (m : Str) (p g : Addr) : Prop where
  rd : ClX.CRead K C mc
  off : PySem.W.findCls K (.ref C) mc m = some (.get (.builtin "staticmethod.__get__") (.ref p) .none (.ref C))
  rc : ∃ rest, PySem.W.recIn K p "staticmethod" = some (.ref g :: rest)
  kp : PySem.W.keepIn K (.ref g) = true
  pg : PySem.W.plainGet K C Str.empty = true
  ic : PySem.W.isClsIn K C = true
  at_ : PySem.W.findIn K (.ref C) m = some (some (.ref p))
  ty : PySem.W.typeIn K (.ref p) = some (.type "staticmethod")
  gt : PySem.W.specialIn K (.ref p) "__get__" = some (some (.builtin "staticmethod.__get__"))
  tk : PySem.W.takesIn K (.ref p) = some false
  cp : PySem.W.copiedNames.contains m = false
section
variable {X : Cx} {pins : List (Addr × Obj)} {σ : L2.St} {H : Hp} {s : Shared} {b C p g : Addr} {mc : Value} {m : Str} {A : Around} {E : Value → Shared → Prop}
theorem sm_off {pl : Sem Bool} {Q : Value × List Value → Shared → Prop} (I : Inv X pins σ H s) (k : StM X.K C mc m p g) (h : ∀ s', Inv X pins σ H s' → Q (.ref g, []) s') : wpAny (model X.prog X.w) A (getMethod (.ref C) m pl) Q E s := by
  obtain ⟨rest, hp⟩ := k.rc
  exact PySem.W.method_cls I.kIn k.rd.ga (PySem.W.cls_bind I.kIn k.rd.rd k.off (wpAny_call (PySem.W.sm_get (s := { s with toks := s.toks + 1 }) I.kIn hp (PySem.W.handed_on rfl (h _ (I.tok _))))))
theorem sm_on {pl : Sem Bool} {ox od : Obj} {Q : Value × List Value → Shared → Prop} (I : Inv X pins σ H s) (J : PySem.W.InstAt s.heap b ox C (some od)) (hl : PySem.W.lookIn m od = some none) (k : StM X.K C mc m p g)
    (h : ∀ s', Inv X pins σ H s' → Q (.ref g, []) s') : wpAny (model X.prog X.w) A (getMethod (.ref b) m pl) Q E s := by
  obtain ⟨rest, hp⟩ := k.rc
  have pg : PySem.W.plainGet X.K C m = true := k.pg
  refine PySem.W.method_usual (r := some (.ref p)) I.kIn J (PySem.W.plainGet_of pg).1 (PySem.W.plainGet_of pg).2 k.at_ ?_ (PySem.W.get_bind I.kIn J (PySem.W.plainGet_of pg).1 (ClX.find_cm k.ic k.at_ k.gt k.tk k.cp hl) (PySem.W.plainGet_of pg).2
    (wpAny_call (PySem.W.sm_get (s := { s with toks := s.toks + 1 }) I.kIn hp (PySem.W.handed_on rfl (h _ (I.tok _))))))
  rw [Option.all_some, k.ty]
  decide +kernel
variable {k j : Nat} {fd : FuncData} {ps : List Str} {sp : Sp} {e o : Expr} {es : List Expr} {t : TA} {ta : TE} {pos apos : Pos} {W : WX}
/-- C.m(e, ..), o.m(e, ..), m a static method -/
structure Sm (P : Program) (w : World) (K : PySem.W.Frag) (mg : Str → Option Value) (base : Heap) (k : Nat) (C : Addr) (m : Str) (ps : List Str) (sp : Sp) : Prop where
  ex : ∃ mc p g fd, StM K C mc m p g ∧ FnOk P w K mg base (L2.CX P w) k g fd ps sp ∧ Binds K fd ps []
def tSm (K : PySem.W.Frag) (C : Addr) (m : Str) (sp : Sp) (W : WX) (ta : TE) (t : TA) : TE := fun σ H Q => ta σ H fun x H1 => (x = .ref C ∨ ∃ b dx fs, x = .ref b ∧ H1 b = some (.ins C dx fs) ∧ fs.lookup m = none) ∧ t σ H1 fun vs H2 => sp vs H2 Q (WE W σ)
theorem pe_sm {pl : Sem Bool} (c : Sm X.prog X.w X.K X.mg X.base k C m ps sp) (tk : Takes X W) (hr : Room j X.A) (hk : k ≤ j) (he : PE X o ta) (ha : PA X (e :: es) t)
    (hst : starEach (e :: es) X.env = (false, eval e X.env) :: starEach es X.env := by rfl) (hpl : (backTo pos (starEach es X.env)).any (·.1) = false := by rfl)
    (ht : eval (.Call (.Attribute o m apos) (e :: es) [] pos) X.env = (do
      let v ← eval o X.env
      standAt apos.atName
      let (g, first) ← holding [v] (getMethod v m pl)
      callWith pos g first (backTo pos (starEach (e :: es) X.env)) (backToKw pos (keywordEach [] X.env))) := by rfl) :
    PE X (.Call (.Attribute o m apos) (e :: es) [] pos) (tSm X.K C m sp W ta t) := by
  obtain ⟨mc, p, g, fd, S, F, hb⟩ := c.ex
  refine ⟨fun pins s σ H Q I h => PySem.W.methodCall_KW (pl := pl) (thn (he.run pins s σ H _ I h) fun u s1 ⟨x, H1, I1, rx, ex, q⟩ => ?_) ht⟩
  have go : ∀ s', Inv X pins σ H1 s' → wpAny (model X.prog X.w) X.A (callWith pos (.ref g) [] (backTo pos (starEach (e :: es) X.env)) (backToKw pos (keywordEach [] X.env))) (EP X pins σ Q) X.xe s' := fun s' I' =>
    PySem.W.callWith_K (h₀ := X.base) I'.ok.mod.kin S.kp (thn (ha.run pos pins s' σ H1 _ I' q) fun us s2 ⟨vs, H2, I2, r, q2⟩ => ⟨I2.kIn, run_dv F (hr.mono hk) hb .nil tk I2 r (by rw [List.append_nil]; exact q2)⟩) hst hpl
  rcases ex with rfl | ⟨b, dx, fs, rfl, eb, l⟩
  · obtain rfl : u = Value.ref C := rx
    exact sm_off I1 S fun s' I' => go s' I'
  · obtain rfl : u = Value.ref b := rx
    obtain ⟨mA, O, rr, _, _, _⟩ := ins_get I1.hok eb
    obtain ⟨od, J, hl⟩ := O.look
    have hn : mA m = none := RelO.none_of (by rw [← l]; exact rr m)
    exact sm_on I1 J (by rw [hl m, hn]) S fun s' I' => go s' I'
end
/-! ### methods as they stand behind the top -/
structure MthAt (K : PySem.W.Frag) (C : Addr) (m q : Str) (st : Stmt) (ps : List Str) : Prop where
  ex : ∃ f fd, Meth K C m f ∧ Fun K m q st f fd ∧ Binds K fd ps []
structure OpAt (K : PySem.W.Frag) (C : Addr) (m x q : Str) (st : Stmt) (ps : List Str) : Prop where
  ex : ∃ f fd, OpM K C m f ∧ Fun K x q st f fd ∧ Binds K fd ps []
structure MkAt (K : PySem.W.Frag) (C : Addr) (q : Str) (st : Stmt) (ps : List Str) : Prop where
  ex : ∃ f fd, Mk K C f ∧ Fun K "__init__" q st f fd ∧ Binds K fd ps []
structure SmAt (K : PySem.W.Frag) (C : Addr) (m q : Str) (st : Stmt) (ps : List Str) : Prop where
  ex : ∃ mc p g fd, StM K C mc m p g ∧ Fun K m q st g fd ∧ Binds K fd ps []
/-- an own operator's method, its promise -/
structure OpC (P : Program) (w : World) (K : PySem.W.Frag) (mg : Str → Option Value) (base : Heap) (k : Nat) (C : Addr) (m : Str) (ps : List Str) (sp : Sp) : Prop where
  sf : PySem.W.selfFirst K C = true
  ex : ∃ f fd, OpM K C m f ∧ FnOk P w K mg base (L2.CX P w) k f fd ps sp ∧ Binds K fd ps []
section
variable {X : Cx} {k j : Nat} {C : Addr} {ps : List Str} {sp : Sp} {e1 e2 : Expr} {ta tb : TE} {pos : Pos} {W : WX}
theorem pe_bop {op : Operator} (c : OpC X.prog X.w X.K X.mg X.base k C (PySem.dunder op.info.2) ps sp) (tk : Takes X W) (hr : Room j X.A) (hk : k ≤ j) (h1 : PE X e1 ta) (h2 : PE X e2 tb) : PE X (.BinOp e1 op e2 pos) (tBinO C sp (WE W) ta tb) := by
  obtain ⟨f, fd, M, F, hb⟩ := c.ex
  exact pe_binO F (hr.mono hk) M c.sf hb (fun σ => passAt tk σ) h1 h2
theorem pe_nop (c : OpC X.prog X.w X.K X.mg X.base k C "__neg__" ps sp) (tk : Takes X W) (hr : Room j X.A) (hk : k ≤ j) (h1 : PE X e1 ta) : PE X (.UnaryOp .USub e1 pos) (tNegO C sp (WE W) ta) := by
  obtain ⟨f, fd, M, F, hb⟩ := c.ex
  exact pe_negO F (hr.mono hk) M hb (fun σ => passAt tk σ) h1
theorem pc_eop (c : OpC X.prog X.w X.K X.mg X.base k C "__eq__" ps sp) (tk : Takes X W) (hr : Room j X.A) (hk : k ≤ j) (ht : PySem.W.notFirst X.K C (.type "tuple") = true) (h1 : PE X e1 ta) (h2 : PE X e2 tb) : PC X .Eq e1 e2 (tEqO X.K C sp (WE W) ta tb) := by
  obtain ⟨f, fd, M, F, hb⟩ := c.ex
  exact pc_eqO F (hr.mono hk) M ht hb (fun σ => passAt tk σ) h1 h2
end
/-- what isinstance asks of an own class -/
structure KiC (K : PySem.W.Frag) (C : Addr) : Prop where
  cl : Cls K C
  ca : PySem.W.findIn K (.ref C) "__class__" = some (some (.builtin "object.__class__"))
  gg : PySem.W.specialIn K (.builtin "object.__class__") "__get__" = some (some (.builtin "getset_descriptor.__get__"))
  tk : PySem.W.takesIn K (.builtin "object.__class__") = some true
  mo : PySem.W.mroIn K C (.type "object") = some true
theorem KiC.ty {K : PySem.W.Frag} {C : Addr} (k : KiC K C) {H : Hp} {x dx : Addr} {fs : List (Str × V)} (h : H x = some (.ins C dx fs)) : TyX K H (.ref x) (.ref C) := .base (.ins h k.cl k.ca k.gg k.tk k.mo)
theorem kit_same {K : PySem.W.Frag} {t : Value} : PySem.W.kitOne K t t = some true := by
  unfold PySem.W.kitOne
  rw [if_pos (beq_self_eq_true t)]
end Ew

set_option Elab.async false
set_option linter.all false
set_option maxRecDepth 100000
set_option maxHeartbeats 4000000
namespace Ew
open PySem PySem.Spec PyProof.Rows L2
open AutoSeq1 (wpAny_loadPart')
open MeetsSeq MeetsSeq2 MeetsSeq3 SeqRoads2
theorem tup_once (l : Addr) (items : Array Value) (n : Nat) (dd : Option Addr) (sl : Array (Option Value)) (u : Tok) :
    Meets (Builtin.«tuple.__mul__» ⟨[.ref l, .int 1 u], []⟩) (fun _ R s => s.heap.get? l = some { cls := .type "tuple", dict := dd, data := .seq items n, slots := sl } ∧ R (.ok (.ret (.ref l))) s) :=
  .of_wp fun prog w A R s h => by
    obtain ⟨hp, g, d, tk, os⟩ := s
    obtain ⟨hl, h⟩ := h
    have f1 := AutoSeq1.idx_int
    wp_walk using wpAny_loadPart' hl
    exact ⟨_, rfl, h⟩
def rRep1 (K : PySem.W.Frag) : R2 := fun x y H Q => ∃ l xs, x = .ref l ∧ y = .int 1 ∧ SqT K H l xs ∧ Q (.ref l) H
theorem op_rep1 {X : Cx} : OpR X (binaryOp .Mult) (rRep1 X.K) := by
  intro pins s σ H x y v u Q I rx ry h
  obtain ⟨l, xs, rfl, rfl, hT, q⟩ := h
  cases rx
  obtain ⟨t, rfl⟩ := ry
  obtain ⟨its, r, ⟨⟨cls, dd, data, sl⟩, ho, hc, n, hd⟩, hs⟩ := I.tuple hT
  dsimp only at hc hd
  subst hc hd
  exact wpAny_binaryOp_repeat_ref (T := "tuple") (U := "int") (by decide) ⟨_, ho, rfl⟩ (fun s' => typeIs_int s' 1 t) noFill_tuple_mul F.fills_int_mul F.slot_int_rmul repeat_tuple F.slot_int_index.lookup
    (call_meets F.slot_int_rmul (typeIs_int s 1 t) F.entry_int_rmul (F.args_int_rmul_2 _ _) (int_rmul_tuple 1 t l its.toArray n dd sl)
      ⟨ho, rfl, ⟨_, ho, rfl⟩, call_meets F.slot_tuple_mul ⟨_, ho, rfl⟩ F.entry_tuple_mul (F.args_tuple_mul_2 _ _) (tup_once l its.toArray n dd sl t) ⟨ho, .ref l, H, I, rfl, q⟩⟩)
theorem op_repA {X : Cx} : OpR X (binaryOp .Mult) (fun x y H Q => rRepT X.K x y H Q ∨ rRep1 X.K x y H Q) := op_repT.or op_rep1
end Ew

set_option Elab.async false
set_option linter.all false
set_option maxRecDepth 100000
set_option maxHeartbeats 4000000
namespace Ew
open PySem PySem.Spec PyProof.Rows L2
/-- data that may be compared: n deep at most -/
structure Fl (n : Nat) (d : PyData) : Prop where
  c : d.canLay0 = true
  d : d.depth ≤ n
structure FlA (n : Nat) (ds : List PyData) : Prop where
  c : PyData.canLayAll0 ds = true
  d : PyData.depthAll ds ≤ n
theorem FlA.nil {n : Nat} : FlA n [] := ⟨by rw [PyData.canLayAll0], by rw [PyData.depthAll]; omega⟩
theorem FlA.cons {n : Nat} {d : PyData} {ds : List PyData} (h : Fl n d) (t : FlA n ds) : FlA n (d :: ds) := ⟨by rw [PyData.canLayAll0, h.c, t.c]; rfl, by rw [PyData.depthAll]; have := h.d; have := t.d; omega⟩
theorem FlA.all {n : Nat} : ∀ {ds : List PyData}, (∀ d ∈ ds, Fl n d) → FlA n ds
  | [], _ => .nil
  | d :: ds, h => .cons (h d List.mem_cons_self) (FlA.all fun x hx => h x (List.mem_cons_of_mem _ hx))
theorem Fl.tup {n : Nat} {ds : List PyData} (h : FlA n ds) : Fl (n + 1) (.tuple ds) := ⟨by rw [PyData.canLay0]; exact h.c, by rw [PyData.depth]; have := h.d; omega⟩
theorem Fl.lst {n : Nat} {ds : List PyData} (h : FlA n ds) : Fl (n + 1) (.list ds) := ⟨by rw [PyData.canLay0]; exact h.c, by rw [PyData.depth]; have := h.d; omega⟩
theorem Fl.int {n : Nat} {i : Int} : Fl n (.int i) := ⟨by rw [PyData.canLay0], by rw [PyData.depth]; omega⟩
theorem Fl.str {n : Nat} {x : Str} (h : PyData.strOk x = true) : Fl n (.str x) := ⟨by rw [PyData.canLay0]; exact h, by rw [PyData.depth]; omega⟩
theorem Fl.sh {n : Nat} {d : PyData} (h : Fl n d) (k : n ≤ 64) : SeqAt.shaped d = true := by
  unfold SeqAt.shaped
  have := h.d
  rw [h.c, decide_eq_true (by omega : d.depth ≤ 64)]
  rfl
theorem fl_ints {n : Nat} (ds : List Int) : Fl (n + 1) (intT ds) := Fl.tup ⟨lay_ints ds, by rw [dep_ints]; omega⟩
/-- a pair of a ratio and a tuple of ints -/
def rowD (s : (Int × Int) × List Int) : PyData := .tuple [intT [s.1.1, s.1.2], intT s.2]
theorem fl_row {n : Nat} (s : (Int × Int) × List Int) : Fl (n + 2) (rowD s) := Fl.tup (.cons (fl_ints _) (.cons (fl_ints _) .nil))
theorem eqv_row (s t : (Int × Int) × List Int) : PyData.eqv (rowD s) (rowD t) = decide (s = t) := by
  unfold rowD
  rw [PyData.eqv, PyData.eqvAll, PyData.eqvAll, PyData.eqvAll, eqv_ints, eqv_ints]
  obtain ⟨⟨a, b⟩, c⟩ := s
  obtain ⟨⟨a', b'⟩, c'⟩ := t
  by_cases h1 : a = a' <;> by_cases h2 : b = b' <;> by_cases h3 : c = c' <;> simp [h1, h2, h3]
def Row (K : PySem.W.Frag) (F : Hp) (v : V) (s : (Int × Int) × List Int) : Prop := ∃ p u w, v = .ref p ∧ SqT K F p [u, w] ∧ Rt K F u s.1 ∧ Dm K F w s.2
theorem Row.up {K : PySem.W.Frag} {F F' : Hp} {v : V} {s : (Int × Int) × List Int} (h : Row K F v s) (e : Same F F') : Row K F' v s := by
  obtain ⟨p, u, w, h1, h2, h3, h4⟩ := h
  exact ⟨p, u, w, h1, upT e h2, h3.up e, h4.up e⟩
theorem Row.dp {K : PySem.W.Frag} {F : Hp} {v : V} {s : (Int × Int) × List Int} (h : Row K F v s) : Dp K F v (rowD s) := by
  obtain ⟨p, u, w, rfl, h2, h3, h4⟩ := h
  exact .tup h2 (.cons h3.dp (.cons h4.dp .nil))
/-- items, each with its own word -/
def Rws (K : PySem.W.Frag) (F : Hp) (xs : List V) (ss : List ((Int × Int) × List Int)) : Prop := xs.length = ss.length ∧ ∀ (i : Nat) x, xs[i]? = some x → ∃ s, ss[i]? = some s ∧ Row K F x s
theorem Rws.up {K : PySem.W.Frag} {F F' : Hp} {xs : List V} {ss : List ((Int × Int) × List Int)} (h : Rws K F xs ss) (e : Same F F') : Rws K F' xs ss := ⟨h.1, fun i x hx => by
  obtain ⟨s, h1, h2⟩ := h.2 i x hx
  exact ⟨s, h1, h2.up e⟩⟩
theorem Rws.nil {K : PySem.W.Frag} {F : Hp} : Rws K F [] [] := ⟨rfl, fun i x h => by simp at h⟩
theorem Rws.snoc {K : PySem.W.Frag} {F : Hp} {xs : List V} {ss : List ((Int × Int) × List Int)} {x : V} {s : (Int × Int) × List Int} (h : Rws K F xs ss) (k : Row K F x s) : Rws K F (xs ++ [x]) (ss ++ [s]) := by
  refine ⟨by simp [h.1], fun i y hy => ?_⟩
  rcases Nat.lt_or_ge i xs.length with hi | hi
  · rw [List.getElem?_append_left hi] at hy
    obtain ⟨t, h1, h2⟩ := h.2 i y hy
    exact ⟨t, by rw [List.getElem?_append_left (by rw [← h.1]; exact hi)]; exact h1, h2⟩
  · rw [List.getElem?_append_right hi] at hy
    have e0 : i - xs.length = 0 := by
      rcases Nat.eq_zero_or_pos (i - xs.length) with h0 | h0
      · exact h0
      · rw [List.getElem?_eq_none (by simp; omega)] at hy; cases hy
    rw [e0] at hy
    cases hy
    refine ⟨s, ?_, k⟩
    rw [List.getElem?_append_right (by rw [← h.1]; exact hi), ← h.1, e0]
    rfl
theorem Rws.dps {K : PySem.W.Frag} {F : Hp} : ∀ {xs : List V} {ss : List ((Int × Int) × List Int)}, Rws K F xs ss → DpAll K F xs (ss.map rowD)
  | [], [], _ => .nil
  | [], s :: ss, h => absurd h.1 (by simp)
  | x :: xs, [], h => absurd h.1 (by simp)
  | x :: xs, s :: ss, h => by
    obtain ⟨t, h1, h2⟩ := h.2 0 x rfl
    cases h1
    exact .cons h2.dp (Rws.dps ⟨by simpa using h.1, fun i y hy => h.2 (i + 1) y hy⟩)
end Ew

set_option Elab.async false
set_option linter.all false
set_option maxRecDepth 100000
set_option maxHeartbeats 4000000
namespace Ew
open PySem PySem.Spec PyProof.Rows L2
open SX (S)
/-- a sign, k times -/
theorem fold_one (c : Nat) : ∀ (m : Nat) (acc : Array Nat), (List.replicate m #[c]).foldl (· ++ ·) acc = acc ++ (List.replicate m c).toArray
  | 0, acc => by simp
  | m + 1, acc => by
    rw [List.replicate_succ, List.foldl_cons, fold_one c m, List.replicate_succ]
    apply Array.ext'
    simp
def rRepC : R2 := fun x y H Q => ∃ (c : Nat) (k : Int), x = .str ⟨#[c]⟩ ∧ y = .int k ∧ 2 ≤ k ∧ k ≤ 100000 ∧ Q (.str (S (List.replicate k.toNat c))) H
theorem op_repC {X : Cx} : OpR X (binaryOp .Mult) rRepC := by
  intro pins s σ H x y v u Q I rx ry h
  obtain ⟨c, k, rfl, rfl, h1, h2, q⟩ := h
  obtain ⟨t, rfl⟩ := rx
  obtain ⟨t', rfl⟩ := ry
  have hl : (⟨#[c]⟩ : Str).length = 1 := rfl
  have e1 : (k == 1) = false := by rw [beq_eq_false_iff_ne]; omega
  refine PySem.P.mul_str ?_ (fun _ _ => ?_) (fun _ _ => ?_) ?_
  · rw [decide_eq_false (by omega), decide_eq_false (by omega)]
    rfl
  · rw [hl]
    have : (1 : Int) ≤ (2 ^ 63 - 1) / k := (Int.le_ediv_iff_mul_le (by omega)).mpr (by omega)
    show ¬ ((1 : Int) > _)
    omega
  · rw [hl]
    unfold PySem.Builtin.Str.tooLong
    rw [decide_eq_false_iff_not, sizeLine_eq]
    omega
  · rw [if_neg (by omega), e1, hl]
    have e2 : ((⟨#[c]⟩ : Str).cps) = #[c] := rfl
    rw [if_neg (by decide), e2, fold_one]
    have e3 : (#[] ++ (List.replicate k.toNat c).toArray : Array Nat) = (List.replicate k.toNat c).toArray := by simp
    rw [e3]
    refine ⟨?_, ⟨.str (S (List.replicate k.toNat c)), H, I.tok _, ⟨_, rfl⟩, q⟩⟩
    show (S (List.replicate k.toNat c)).length ≤ sizeLine
    rw [SX.S_len, List.length_replicate, sizeLine_eq]
    omega
end Ew

set_option Elab.async false
set_option linter.all false
set_option maxRecDepth 100000
set_option maxHeartbeats 4000000
namespace Ew
open PySem PySem.Spec PyProof.Rows L2
/-! ### defs that are asked only where no repr is under way -/
section
variable {P : Program} {w : World} {K : PySem.W.Frag} {mg : Str → Option Value} {base : Heap}
structure FnG (P : Program) (w : World) (K : PySem.W.Frag) (mg : Str → Option Value) (base : Heap) (k : Nat) (f : Addr) (fd : FuncData) (ps : List Str) (sp : Sp) : Prop where
  len : ∀ vs H Q E, sp vs H Q E → vs.length = ps.length
  go : ∀ (A : Around) (outer : List Env) (s : Shared) (H : Hp) (args : Args) (us : List Value) (vs : List V) (Q : VK) (E : XK), A.guards = some [] → Room k A → Env0 P w K mg base A outer s H → BindsTo s fd args (ps.zip us) → Vals vs us → sp vs H Q E →
    codeAny (model P w) A (.call (.ref f) args) (CR (L2.CX P w) outer P w H s Q E) s
def BodyG (P : Program) (w : World) (K : PySem.W.Frag) (mg : Str → Option Value) (base : Heap) (N : List Str) (qual : Str) (st : Stmt) (k : Nat) (sp : Sp) : Prop :=
  ∀ (f : Addr) (cdv : Value) (A : Around) (outer : List Env) (s : Shared) (H : Hp) (vs : List V) (Q : VK) (E : XK), (cxB P w K mg base N qual st f cdv A outer s H E).A.guards = some [] → Room k (cxB P w K mg base N qual st f cdv A outer s H E).A → sp vs H Q E →
    ∃ t, PSs (cxB P w K mg base N qual st f cdv A outer s H E) (defBody st) t ∧ t { nx := fun _ H' => Q .non H', rt := Q } (start N vs) H
theorem fun_gd {x qual : Str} {st : Stmt} {f : Addr} {fd : FuncData} {ps N : List Str} {k : Nat} {sp : Sp} (F : Fun K x qual st f fd) (S : FnScope N ps (defScope st)) (len : ∀ vs H Q E, sp vs H Q E → vs.length = ps.length) (h : BodyG P w K mg base N qual st k sp) :
    FnG P w K mg base (k + 1) f fd ps sp := by
  obtain ⟨oc, od, kV, doc, pm, an, cdv, ct, osl, rfl, lk, hcd⟩ := F.ex
  refine ⟨len, ?_⟩
  intro A outer s H args us vs Q E hg room e0 bind rel ask
  have many := len _ _ _ _ ask
  have kept : ∀ b o, base.get? b = some o → s.heap.get? b = some o := fun b o e => (e0.bs b o e).1
  have KX : K.In s.heap := e0.mod.kin.keeps kept
  have locals_ : ∀ y ∈ ps.zip us, (defScope st).names.lookup y.1 = some .local ∨ ((defScope st).names.lookup y.1 = some .cell ∧ ((cellsFrom (s.heap.objs.size + 1) (defScope st).names []).lookup y.1).isSome = true) := by
    rintro ⟨nm, v⟩ hy
    refine (S.par nm (List.of_mem_zip hy).1).imp id fun q => ⟨q, ?_⟩
    exact PySem.W.cellsFrom_some _ _ _ (.inl q)
  refine codeAny_call_function room.depth (KX _ _ lk) rfl S.co S.gen rfl (PySem.W.codeRec_of KX hcd) (bind _ _ _ _ ?_)
  refine wpAny_newFunctionEnv_cells S.kind locals_ ?_
  rintro env rfl s1 x
  refine ⟨(e0.mod.nolimit.keeps kept).keeps x.toInCall.keep, codeAny_func ?_⟩
  obtain ⟨t, ht, goal⟩ := h f cdv A outer s H vs Q E hg (room.deeper _) ask
  refine wpAny_mono (ht.run [] s1 (start N vs) H _ (inv_start S room.hd e0 many rel x) goal) ?_ (fun e s' z => z)
  intro fl s' end_
  match fl, end_ with
  | .ret u, ⟨v, σ', H', J, rv, q⟩ => exact ⟨v, H', J.os, J.bare, J.base, J.hok, rv, q⟩
  | .next, ⟨σ', H', J, q⟩ => exact ⟨.non, H', J.os, J.bare, J.base, J.hok, rfl, q⟩
  | .brk, ⟨_, _, _, q⟩ => exact q.elim
  | .cont, ⟨_, _, _, q⟩ => exact q.elim
structure ClG (P : Program) (w : World) (K : PySem.W.Frag) (mg : Str → Option Value) (base : Heap) (k : Nat) (x : Str) (ps : List Str) (sp : Sp) : Prop where
  ex : ∃ f fd, FnG P w K mg base k f fd ps sp ∧ mg x = some (.ref f) ∧ PySem.W.keepIn K (.ref f) = true ∧ Binds K fd ps []
theorem DefAt.clG {x : Str} {st : Stmt} {ps N : List Str} {k : Nat} {sp : Sp} (D : DefAt K mg x st ps) (S : FnScope N ps (defScope st)) (len : ∀ vs H Q E, sp vs H Q E → vs.length = ps.length) (h : BodyG P w K mg base N x st k sp) : ClG P w K mg base (k + 1) x ps sp := by
  obtain ⟨f, fd, F, g, b⟩ := D.ex
  exact ⟨f, fd, fun_gd F S len h, g, F.kp, b⟩
end
section
variable {X : Cx} {k j : Nat} {x : Str} {ps : List Str} {sp : Sp} {e : Expr} {es : List Expr} {t : TA} {p pos : Pos} {W : WX}
theorem pe_fG (hg0 : X.A.guards = some []) (c : ClG X.prog X.w X.K X.mg X.base k x ps sp) (tk : Takes X W) (hr : Room j X.A) (hk : k ≤ j) (hg : Gl X x) (ha : PA X (e :: es) t) (hdb : (x == ("__debug__" : Str)) = false := by decide)
    (he : starEach (e :: es) X.env = (false, eval e X.env) :: starEach es X.env := by rfl) (hpl : (backTo pos (starEach es X.env)).any (·.1) = false := by rfl) : PE X (.Call (.Name x p) (e :: es) [] pos) (tF sp [] W t) := by
  obtain ⟨f, fd, F, hm, hkp, hb⟩ := c.ex
  refine ⟨fun pins s σ H Q I h => wpAny_Call_Name_kw (ld_glob I hg hm (PySem.W.callWith_K (h₀ := X.base) I.ok.mod.kin hkp (thn (ha.run pos pins s σ H _ I h) fun us s1 ⟨vs, H1, I1, r, q⟩ => ⟨I1.kIn, ?_⟩) he hpl) hdb)⟩
  have r2 := r.append (.nil : Vals [] [])
  have hl : (us ++ []).length = ps.length := by rw [← r2.length]; exact F.len _ _ _ _ q
  refine wpAny_call (codeAny_mono (F.go X.A X.stack s1 H1 ⟨us, []⟩ (us ++ []) (vs ++ []) Q (WE W σ) hg0 (hr.mono hk) I1.env0 (hb s1 us I1.kIn hl) r2 q) fun y s' hq => ?_)
  match y, hq with
  | .error e, hq => exact passAt tk σ pins H1 s1 e s' I1 hq
  | .ok (.ret u), hq => exact I1.after hq
end
/-- a call without arguments of a def that lets nothing out -/
theorem pe_f0 {X : Cx} {k j : Nat} {x : Str} {ps : List Str} {sp : Sp} {p pos : Pos} (c : Cl X.prog X.w X.K X.mg X.base k x ps sp []) (hr : Room j X.A) (hk : k ≤ j) (hg : Gl X x) (hdb : (x == ("__debug__" : Str)) = false := by decide) : PE X (.Call (.Name x p) [] [] pos) (tCall sp [] E0 tNil) := by
  obtain ⟨f, fd, ds, F, hm, hkp, hb, hd⟩ := c.ex
  cases hd
  exact pe_call0 F (hr.mono hk) hg hm hkp hb .nil passL hdb
/-! ### repr, where none is under way -/
section
variable {X : Cx}
def rReprD (K : PySem.W.Frag) : List V → Hp → VK → Prop := fun xs H Q => (∃ (a : Addr) (d : PyData), xs = [.ref a] ∧ Dp K H (.ref a) d ∧ d.showable = true ∧ d.hasDict = false ∧ d.depth ≤ 60 ∧ d.shown.length ≤ sizeLine ∧ Q (.str d.shown) H) ∨
  (∃ i : Int, xs = [.int i] ∧ i.natAbs.log2 < 1920 ∧ Q (.str (toString i)) H) ∨ (∃ b : Bool, xs = [.bl b] ∧ Q (.str (if b then "True" else "False")) H) ∨ (xs = [.non] ∧ Q (.str "None") H) ∨
  ∃ a : Addr, xs = [.ref a] ∧ H a = some (.dK []) ∧ Q (.str (PyData.dict []).shown) H
/-- the same, closed -/
structure rRepr (K : PySem.W.Frag) (xs : List V) (H : Hp) (Q : VK) : Prop where
  is : rReprD K xs H Q
theorem call_repr (hg : X.A.guards = some []) (hu : X.A.units + 64 < cLine) : CallR X (.builtin "repr") (rRepr X.K) := by
  intro pins s σ H xs us Q I r h
  rcases h.is with ⟨a, d, rfl, hd, h1, h2, h3, h4, q⟩ | ⟨i, rfl, hz, q⟩ | ⟨b, rfl, q⟩ | ⟨rfl, q⟩ | ⟨a, rfl, hd, q⟩
  · obtain ⟨u, rfl, rx⟩ := vals1 r
    obtain ⟨as, rd⟩ := Dp.reads I d _ _ hd rx
    obtain rfl : u = Value.ref a := rx
    exact repr_of_reads' rd h1 (PyData.noDict_hsm h2) hg (by omega) (fun _ _ e => e) (fun h' u' tk hk => ⟨.str d.shown, H, I.kept hk, ⟨_, rfl⟩, q⟩) h4
  · obtain ⟨u, rfl, t, rfl⟩ := vals1 r
    exact PySem.P.repr_of_int hz ⟨.str _, H, I.tok _, ⟨_, rfl⟩, q⟩
  · obtain ⟨u, rfl, rx⟩ := vals1 r
    obtain rfl : u = Value.bool b := rx
    exact PySem.P.repr_of_bool ⟨.str _, H, I.tok _, ⟨_, rfl⟩, q⟩
  · obtain ⟨u, rfl, rx⟩ := vals1 r
    obtain rfl : u = Value.none := rx
    exact PySem.P.repr_of_none ⟨.str _, H, I.tok _, ⟨_, rfl⟩, q⟩
  · obtain ⟨u, rfl, rx⟩ := vals1 r
    obtain rfl : u = Value.ref a := rx
    obtain ⟨_, ns, vs, kv, dd⟩ := dk_of I.hok hd
    cases kv
    obtain ⟨o, n, es, ho, hc, hdat, hes⟩ : ∃ (o : Obj) (n : Nat) (es : Array DictEntry), s.heap.get? a = some o ∧ o.cls = .type "dict" ∧ o.data = .dict es n ∧ es = #[] := by
      obtain ⟨o, es, ep, ho, ex, hdat, _, pr, _⟩ := dd
      refine ⟨o, ep, es, ho, ex.1, hdat, ?_⟩
      have : es.toList = [] := by
        cases e : es.toList with
        | nil => rfl
        | cons y ys => rw [e] at pr; cases pr
      exact Array.toList_eq_nil_iff.mp this
    subst hes
    have rd : Reads s.heap (.ref a) (.dict []) (a :: [] ++ []) := .dict ho hc hdat .nil .nil
    exact repr_of_reads' rd (by decide) (fun _ hm => by simp at hm; rw [hm] at ns; simp at ns) hg (by have : (PyData.dict []).depth = 1 := rfl; omega) (fun _ _ e => e) (fun h' u' tk hk => ⟨.str _, H, I.kept hk, ⟨_, rfl⟩, q⟩) (by decide +kernel)
end
end Ew

set_option Elab.async false
set_option linter.all false
set_option maxRecDepth 100000
set_option maxHeartbeats 4000000
namespace Ew
open PySem PySem.Spec PyProof.Rows L2
section
variable {P : Program} {w : World} {K : PySem.W.Frag} {mg mb : Str → Option Value} {k : Nat} {fa a : Addr} {fd : FuncData} {x : Str} {sp : Sp} {st : Shared} {vs : List Value} {ns : List Int}
/-- what is needed of the heap in which the law is asked -/
structure Seed (P : Program) (w : World) (K : PySem.W.Frag) (h : Heap) (a : Addr) (ns : List Int) (H : Hp) : Prop where
  only : Only H
  sq : SqL K H a (ns.map V.int)
  ok : HOk P w H h
  lone : ∀ b, H b ≠ none → b = a
  apart : H a ≠ none → K.lookup a = none
theorem seed_of (KX : K.In st.heap) (ha : st.heap.get? a = some { cls := .type "list", data := .seq vs.toArray }) (hi : IntsAre vs ns) (hl : ns.length ≤ sizeLine) : ∃ H, Seed P w K st.heap a ns H := by
  have rv := vals_ints hi
  rcases hk : K.lookup a with _ | o
  · have off : ∀ b, ¬ b = a → (fun b => if b = a then some (HO.frz { cls := .type "list", data := .seq vs.toArray } (.lst (ns.map V.int))) else none) b = none := fun b n => if_neg n
    refine ⟨fun b => if b = a then some (.frz { cls := .type "list", data := .seq vs.toArray } (.lst (ns.map V.int))) else none, ⟨fun b => ?_, .inl (.inr ⟨_, if_pos rfl⟩), fun b u z => ?_, fun b z => ?_, fun _ => hk⟩⟩
    · rcases Classical.em (b = a) with e | e
      · exact .inr ⟨_, _, if_pos e⟩
      · exact .inl (off b e)
    · rcases Classical.em (b = a) with e | e
      · cases (if_pos e).symm.trans z
        rw [e]
        exact ⟨ha, by rw [List.length_map]; exact hl, vs, _, rv, ha⟩
      · cases (off b e).symm.trans z
    · exact Classical.byContradiction fun e => z (off b e)
  · have e := KX a o hk
    rw [ha] at e
    cases e
    refine ⟨fun _ => none, ⟨fun _ => .inl rfl, .inr ⟨_, vs.toArray, _, hk, rfl, rfl, rfl, ?_, by simpa using rv⟩, (fun b u z => nomatch z), (fun b z => absurd rfl z), fun z => absurd rfl z⟩⟩
    rw [List.size_toArray, hi.length]
    exact hl
theorem seed_env {H : Hp} (S : Seed P w K st.heap a ns H) (KX : K.In st.heap) (hns : st.heap.Ns mainGlobals mg) (hb : st.heap.Ns builtinsNs mb) (hbb : ∀ x : Str, x ≠ "__name__" → mb x = bootBuiltins x) (hlim : st.heap.NoLimit) (hg : st.gens = #[])
    (ha : st.heap.get? a = some { cls := .type "list", data := .seq vs.toArray }) : Mod K mg (hidT st.heap H) ∧ Env0 P w K mg (hidT st.heap H) callerA [] st H := by
  have free : ∀ {b : Addr}, ¬ b = a → H b = none := fun {b} n => Classical.byContradiction fun z => n (S.lone b z)
  have seen : ∀ {b : Addr} {m : Str → Option Value}, st.heap.Ns b m → (hidT st.heap H).Ns b m := by
    rintro b m ⟨o, es, ep, e, d, r⟩
    refine ⟨o, es, ep, hidT_get e (free fun q => ?_), d, r⟩
    rw [q, ha] at e
    cases e
    cases (show Data.seq vs.toArray _ = Data.dict es ep from d)
  have kin : K.In (hidT st.heap H) := fun b o e => by
    refine hidT_get (KX b o e) (Classical.byContradiction fun z => ?_)
    have q := S.lone b z
    rw [q] at z e
    rw [S.apart z] at e
    cases e
  obtain ⟨mc, l1, l2⟩ := hlim
  have md : Mod K mg (hidT st.heap H) := ⟨kin, seen hns, ⟨mb, seen hb, hbb⟩, mc, seen l1, l2⟩
  exact ⟨md, ⟨rfl, md, fun b o e => of_hidT e, Nat.le_of_eq (hidT_size _ _), trivial, fun b z => (nomatch z), S.ok, .of_eq hg⟩⟩
theorem law_callG (KX : K.In st.heap) (hns : st.heap.Ns mainGlobals mg) (hb : st.heap.Ns builtinsNs mb) (hbb : ∀ x : Str, x ≠ "__name__" → mb x = bootBuiltins x) (hlim : st.heap.NoLimit) (hg : st.gens = #[])
    (ha : st.heap.get? a = some { cls := .type "list", data := .seq vs.toArray }) (hi : IntsAre vs ns) (hl : ns.length ≤ sizeLine) (hr : Room k callerA)
    (F : ∀ base : Heap, K.In base → base.Ns mainGlobals mg → FnG P w K mg base k fa fd [x] sp) (hbind : ∀ (s : Shared) (u : Value), BindsTo s fd ⟨[u], []⟩ [(x, u)])
    (hsp : ∀ H : Hp, Only H → SqL K H a (ns.map V.int) → sp [.ref a] H (fun v _ => v = .bl true) fun _ _ _ => False) :
    codeAny (model P w) callerA (.call (.ref fa) ⟨[.ref a], []⟩) (fun r s' => r = .ok (.ret (.bool true)) ∧ OldK st.heap s'.heap ∧ s'.os = st.os ∧ AllBare s'.gens) st := by
  obtain ⟨H, S⟩ := seed_of (P := P) (w := w) KX ha hi hl
  obtain ⟨md, env⟩ := seed_env S KX hns hb hbb hlim hg ha
  refine codeAny_mono ((F _ md.kin md.glob).go callerA [] st H ⟨[.ref a], []⟩ [.ref a] [.ref a] _ _ rfl hr env (hbind st (.ref a)) (.cons rfl .nil) (hsp H S.only S.sq)) ?_
  intro r s' got
  match r, got with
  | .error e, got =>
    obtain ⟨_, _, _, _, _, _, _, _, _, _, _, _, z⟩ := got
    exact z.elim
  | .ok (.ret u), ⟨v, H', os, bare, un, hok', r', q⟩ =>
    have q : v = .bl true := q
    subst q
    have r' : u = Value.bool true := r'
    subst r'
    refine ⟨rfl, OldK.of_keep fun b o e => ?_, os, bare⟩
    rcases z : H b with _ | u
    · exact un.keep b o e z (fun y => nomatch y) (by simp)
    · rcases S.only b with y | ⟨ob, xs, y⟩
      · rw [z] at y
        cases y
      · obtain ⟨e1, _⟩ := S.ok b _ y
        obtain ⟨e2, _⟩ := hok' b _ (un.frzs b ob _ y)
        rw [e] at e1
        cases e1
        exact e2
end
theorem walk_G {l : PySem.W.OpenLaw} {n k : Nat} {q : Program} {loose : List Str} {XP : (Str → Option Value) → Heap → Prop} {YP : World → Heap → Prop} {d : DefRec} {K : Params → PySem.W.Frag} {sp : World → Sp} {x : Str}
    (hn : l.most = some n) (hn2 : n ≤ sizeLine) (hdf : d.params.defaults = []) (hr : Room k callerA) (hY : ∀ (w : World) (h : Heap), YP w h → (K w.params).In h)
    (F : ∀ (w : World) (mg : Str → Option Value) (fa : Addr) (h : Heap), (K w.params).In h → h.Ns mainGlobals mg → mg d.name = some (.ref fa) →
      ∃ fd : FuncData, (∀ (s : Shared) (u : Value), BindsTo s fd ⟨[u], []⟩ [(x, u)]) ∧ ∀ base : Heap, (K w.params).In base → base.Ns mainGlobals mg → FnG l.prog w (K w.params) mg base k fa fd [x] (sp w))
    (hsp : ∀ (w : World) (H : Hp) (a : Addr) (ns : List Int), ns.length ≤ n → Only H → SqL (K w.params) H a (ns.map V.int) → sp w [.ref a] H (fun v _ => v = .bl true) fun _ _ _ => False) :
    PySem.W.WalkO q loose XP YP l.row.toRowW d [] (fun f vs => PySem.call f vs) := by
  refine Att.attach_call hn hdf ?_
  intro w s₀ s₁ mg mb fa o pm cd doc a vs ns G Y ho hd hcd hmg hobj hints hlen hg
  obtain ⟨fd, bind, go⟩ := F w mg fa _ (hY w _ Y) G.T.g hmg
  exact law_callG (hY w _ Y) G.T.g G.T.b G.T.builtins G.T.nolimit hg hobj hints (Nat.le_trans hlen hn2) hr go bind fun H o s => hsp w H a ns hlen o s
end Ew

set_option Elab.async false
set_option linter.all false
set_option maxRecDepth 100000
set_option maxHeartbeats 4000000
namespace K01
open PySem PySem.Spec PyProof.Rows L2 Ew
def top (i : Nat) : Stmt := PySem.Challenge.pw_ellwarden_k01_ratios.main.body.getD i (.Pass ⟨0, 0, 0, 0⟩)
abbrev s_is_integer : Stmt := (top 2)
abbrev N_is_integer : List Str := ["thing"]
abbrev P_is_integer : List Str := ["thing"]
theorem sc_is_integer : FnScope N_is_integer P_is_integer (defScope s_is_integer) := ⟨rfl, rfl, rfl, by decide +kernel, rfl, by decide +kernel, by decide +kernel⟩
abbrev s_is_tuple_of : Stmt := (top 3)
abbrev N_is_tuple_of : List Str := ["thing", "many"]
abbrev P_is_tuple_of : List Str := ["thing", "many"]
theorem sc_is_tuple_of : FnScope N_is_tuple_of P_is_tuple_of (defScope s_is_tuple_of) := ⟨rfl, rfl, rfl, by decide +kernel, rfl, by decide +kernel, by decide +kernel⟩
abbrev s_BadRatioD_initD : Stmt := inClass (top 6) 0
abbrev N_BadRatioD_initD : List Str := ["self", "text"]
abbrev P_BadRatioD_initD : List Str := ["self", "text"]
theorem sc_BadRatioD_initD : FnScope N_BadRatioD_initD P_BadRatioD_initD (defScope s_BadRatioD_initD) := ⟨rfl, rfl, rfl, by decide +kernel, rfl, by decide +kernel, by decide +kernel⟩
abbrev s_NoughtD_initD : Stmt := inClass (top 7) 0
abbrev N_NoughtD_initD : List Str := ["self", "number"]
abbrev P_NoughtD_initD : List Str := ["self", "number"]
theorem sc_NoughtD_initD : FnScope N_NoughtD_initD P_NoughtD_initD (defScope s_NoughtD_initD) := ⟨rfl, rfl, rfl, by decide +kernel, rfl, by decide +kernel, by decide +kernel⟩
abbrev s_ratio : Stmt := (top 11)
abbrev N_ratio : List Str := ["n", "d", "common"]
abbrev P_ratio : List Str := ["n", "d"]
theorem sc_ratio : FnScope N_ratio P_ratio (defScope s_ratio) := ⟨rfl, rfl, rfl, by decide +kernel, rfl, by decide +kernel, by decide +kernel⟩
abbrev s_is_ratio : Stmt := (top 12)
abbrev N_is_ratio : List Str := ["thing", "n", "d"]
abbrev P_is_ratio : List Str := ["thing"]
theorem sc_is_ratio : FnScope N_is_ratio P_is_ratio (defScope s_is_ratio) := ⟨rfl, rfl, rfl, by decide +kernel, rfl, by decide +kernel, by decide +kernel⟩
abbrev s_plus : Stmt := (top 13)
abbrev N_plus : List Str := ["a", "b"]
abbrev P_plus : List Str := ["a", "b"]
theorem sc_plus : FnScope N_plus P_plus (defScope s_plus) := ⟨rfl, rfl, rfl, by decide +kernel, rfl, by decide +kernel, by decide +kernel⟩
abbrev s_minus : Stmt := (top 14)
abbrev N_minus : List Str := ["a", "b"]
abbrev P_minus : List Str := ["a", "b"]
theorem sc_minus : FnScope N_minus P_minus (defScope s_minus) := ⟨rfl, rfl, rfl, by decide +kernel, rfl, by decide +kernel, by decide +kernel⟩
abbrev s_times : Stmt := (top 15)
abbrev N_times : List Str := ["a", "b"]
abbrev P_times : List Str := ["a", "b"]
theorem sc_times : FnScope N_times P_times (defScope s_times) := ⟨rfl, rfl, rfl, by decide +kernel, rfl, by decide +kernel, by decide +kernel⟩
abbrev s_over : Stmt := (top 16)
abbrev N_over : List Str := ["a", "b"]
abbrev P_over : List Str := ["a", "b"]
theorem sc_over : FnScope N_over P_over (defScope s_over) := ⟨rfl, rfl, rfl, by decide +kernel, rfl, by decide +kernel, by decide +kernel⟩
abbrev s_compare : Stmt := (top 17)
abbrev N_compare : List Str := ["a", "b", "left", "right"]
abbrev P_compare : List Str := ["a", "b"]
theorem sc_compare : FnScope N_compare P_compare (defScope s_compare) := ⟨rfl, rfl, rfl, by decide +kernel, rfl, by decide +kernel, by decide +kernel⟩
abbrev s_write_ratio : Stmt := (top 18)
abbrev N_write_ratio : List Str := ["a", "n", "d"]
abbrev P_write_ratio : List Str := ["a"]
theorem sc_write_ratio : FnScope N_write_ratio P_write_ratio (defScope s_write_ratio) := ⟨rfl, rfl, rfl, by decide +kernel, rfl, by decide +kernel, by decide +kernel⟩
abbrev s_read_ratio : Stmt := (top 19)
abbrev N_read_ratio : List Str := ["text", "above", "slash", "below", "told"]
abbrev P_read_ratio : List Str := ["text"]
theorem sc_read_ratio : FnScope N_read_ratio P_read_ratio (defScope s_read_ratio) := ⟨rfl, rfl, rfl, by decide +kernel, rfl, by decide +kernel, by decide +kernel⟩
abbrev s_is_whole : Stmt := (top 20)
abbrev N_is_whole : List Str := ["text", "longest"]
abbrev P_is_whole : List Str := ["text", "longest"]
theorem sc_is_whole : FnScope N_is_whole P_is_whole (defScope s_is_whole) := ⟨rfl, rfl, rfl, by decide +kernel, rfl, by decide +kernel, by decide +kernel⟩
abbrev s__is_divisor : Stmt := (top 21)
abbrev N__is_divisor : List Str := ["text"]
abbrev P__is_divisor : List Str := ["text"]
theorem sc__is_divisor : FnScope N__is_divisor P__is_divisor (defScope s__is_divisor) := ⟨rfl, rfl, rfl, by decide +kernel, rfl, by decide +kernel, by decide +kernel⟩
abbrev s__is_digits : Stmt := (top 22)
abbrev N__is_digits : List Str := ["text", "longest", "sign"]
abbrev P__is_digits : List Str := ["text", "longest"]
theorem sc__is_digits : FnScope N__is_digits P__is_digits (defScope s__is_digits) := ⟨rfl, rfl, rfl, by decide +kernel, rfl, by decide +kernel, by decide +kernel⟩
abbrev s__law_bag_of : Stmt := (top 24)
abbrev N__law_bag_of : List Str := ["_law_script", "_law_mixed", "_law_cell"]
abbrev P__law_bag_of : List Str := ["_law_script"]
theorem sc__law_bag_of : FnScope N__law_bag_of P__law_bag_of (defScope s__law_bag_of) := ⟨rfl, rfl, rfl, by decide +kernel, rfl, by decide +kernel, by decide +kernel⟩
abbrev s__law_pick : Stmt := (top 25)
abbrev N__law_pick : List Str := ["_law_bag", "_law_many", "_law_number", "_law_cell"]
abbrev P__law_pick : List Str := ["_law_bag", "_law_many"]
theorem sc__law_pick : FnScope N__law_pick P__law_pick (defScope s__law_pick) := ⟨rfl, rfl, rfl, by decide +kernel, rfl, by decide +kernel, by decide +kernel⟩
abbrev s__law_choice : Stmt := (top 26)
abbrev N__law_choice : List Str := ["_law_bag", "_law_things"]
abbrev P__law_choice : List Str := ["_law_bag", "_law_things"]
theorem sc__law_choice : FnScope N__law_choice P__law_choice (defScope s__law_choice) := ⟨rfl, rfl, rfl, by decide +kernel, rfl, by decide +kernel, by decide +kernel⟩
abbrev s__law_one_in : Stmt := (top 27)
abbrev N__law_one_in : List Str := ["_law_bag", "_law_many"]
abbrev P__law_one_in : List Str := ["_law_bag", "_law_many"]
theorem sc__law_one_in : FnScope N__law_one_in P__law_one_in (defScope s__law_one_in) := ⟨rfl, rfl, rfl, by decide +kernel, rfl, by decide +kernel, by decide +kernel⟩
abbrev s__law_integer : Stmt := (top 28)
abbrev N__law_integer : List Str := ["_law_thing"]
abbrev P__law_integer : List Str := ["_law_thing"]
theorem sc__law_integer : FnScope N__law_integer P__law_integer (defScope s__law_integer) := ⟨rfl, rfl, rfl, by decide +kernel, rfl, by decide +kernel, by decide +kernel⟩
abbrev s__law_gcd : Stmt := (top 29)
abbrev N__law_gcd : List Str := ["_law_a", "_law_b", "_law_first", "_law_second", "_law_rest"]
abbrev P__law_gcd : List Str := ["_law_a", "_law_b"]
theorem sc__law_gcd : FnScope N__law_gcd P__law_gcd (defScope s__law_gcd) := ⟨rfl, rfl, rfl, by decide +kernel, rfl, by decide +kernel, by decide +kernel⟩
abbrev s__law_ratio : Stmt := (top 30)
abbrev N__law_ratio : List Str := ["_law_n", "_law_d", "_law_common"]
abbrev P__law_ratio : List Str := ["_law_n", "_law_d"]
theorem sc__law_ratio : FnScope N__law_ratio P__law_ratio (defScope s__law_ratio) := ⟨rfl, rfl, rfl, by decide +kernel, rfl, by decide +kernel, by decide +kernel⟩
abbrev s__law_plus : Stmt := (top 31)
abbrev N__law_plus : List Str := ["_law_a", "_law_b"]
abbrev P__law_plus : List Str := ["_law_a", "_law_b"]
theorem sc__law_plus : FnScope N__law_plus P__law_plus (defScope s__law_plus) := ⟨rfl, rfl, rfl, by decide +kernel, rfl, by decide +kernel, by decide +kernel⟩
abbrev s__law_minus : Stmt := (top 32)
abbrev N__law_minus : List Str := ["_law_a", "_law_b"]
abbrev P__law_minus : List Str := ["_law_a", "_law_b"]
theorem sc__law_minus : FnScope N__law_minus P__law_minus (defScope s__law_minus) := ⟨rfl, rfl, rfl, by decide +kernel, rfl, by decide +kernel, by decide +kernel⟩
abbrev s__law_times : Stmt := (top 33)
abbrev N__law_times : List Str := ["_law_a", "_law_b"]
abbrev P__law_times : List Str := ["_law_a", "_law_b"]
theorem sc__law_times : FnScope N__law_times P__law_times (defScope s__law_times) := ⟨rfl, rfl, rfl, by decide +kernel, rfl, by decide +kernel, by decide +kernel⟩
abbrev s__law_over : Stmt := (top 34)
abbrev N__law_over : List Str := ["_law_a", "_law_b"]
abbrev P__law_over : List Str := ["_law_a", "_law_b"]
theorem sc__law_over : FnScope N__law_over P__law_over (defScope s__law_over) := ⟨rfl, rfl, rfl, by decide +kernel, rfl, by decide +kernel, by decide +kernel⟩
abbrev s__law_number_of : Stmt := (top 35)
abbrev N__law_number_of : List Str := ["_law_bag", "_law_way", "_law_number"]
abbrev P__law_number_of : List Str := ["_law_bag"]
theorem sc__law_number_of : FnScope N__law_number_of P__law_number_of (defScope s__law_number_of) := ⟨rfl, rfl, rfl, by decide +kernel, rfl, by decide +kernel, by decide +kernel⟩
abbrev s__law_second_of : Stmt := (top 36)
abbrev N__law_second_of : List Str := ["_law_bag", "_law_first", "_law_way", "_law_beside"]
abbrev P__law_second_of : List Str := ["_law_bag", "_law_first"]
theorem sc__law_second_of : FnScope N__law_second_of P__law_second_of (defScope s__law_second_of) := ⟨rfl, rfl, rfl, by decide +kernel, rfl, by decide +kernel, by decide +kernel⟩
abbrev s__law_same : Stmt := (top 37)
abbrev N__law_same : List Str := ["_law_told", "_law_due"]
abbrev P__law_same : List Str := ["_law_told", "_law_due"]
theorem sc__law_same : FnScope N__law_same P__law_same (defScope s__law_same) := ⟨rfl, rfl, rfl, by decide +kernel, rfl, by decide +kernel, by decide +kernel⟩
abbrev s__law_ratio_told : Stmt := (top 38)
abbrev N__law_ratio_told : List Str := ["_law_n", "_law_d", "e"]
abbrev P__law_ratio_told : List Str := ["_law_n", "_law_d"]
theorem sc__law_ratio_told : FnScope N__law_ratio_told P__law_ratio_told (defScope s__law_ratio_told) := ⟨rfl, rfl, rfl, by decide +kernel, rfl, by decide +kernel, by decide +kernel⟩
abbrev s__law_over_told : Stmt := (top 39)
abbrev N__law_over_told : List Str := ["_law_a", "_law_b", "e"]
abbrev P__law_over_told : List Str := ["_law_a", "_law_b"]
theorem sc__law_over_told : FnScope N__law_over_told P__law_over_told (defScope s__law_over_told) := ⟨rfl, rfl, rfl, by decide +kernel, rfl, by decide +kernel, by decide +kernel⟩
abbrev s__law_read_told : Stmt := (top 40)
abbrev N__law_read_told : List Str := ["_law_thing", "e"]
abbrev P__law_read_told : List Str := ["_law_thing"]
theorem sc__law_read_told : FnScope N__law_read_told P__law_read_told (defScope s__law_read_told) := ⟨rfl, rfl, rfl, by decide +kernel, rfl, by decide +kernel, by decide +kernel⟩
abbrev s__law_right_making : Stmt := (top 41)
abbrev N__law_right_making : List Str := ["_law_n", "_law_d", "_law_told"]
abbrev P__law_right_making : List Str := ["_law_n", "_law_d"]
theorem sc__law_right_making : FnScope N__law_right_making P__law_right_making (defScope s__law_right_making) := ⟨rfl, rfl, rfl, by decide +kernel, rfl, by decide +kernel, by decide +kernel⟩
abbrev s__law_right_reckoning : Stmt := (top 42)
abbrev N__law_right_reckoning : List Str := ["_law_a", "_law_b", "_law_cross", "_law_sign", "_law_told"]
abbrev P__law_right_reckoning : List Str := ["_law_a", "_law_b"]
theorem sc__law_right_reckoning : FnScope N__law_right_reckoning P__law_right_reckoning (defScope s__law_right_reckoning) := ⟨rfl, rfl, rfl, by decide +kernel, rfl, by decide +kernel, by decide +kernel⟩
abbrev s__law_text_of : Stmt := (top 43)
abbrev N__law_text_of : List Str := ["_law_a"]
abbrev P__law_text_of : List Str := ["_law_a"]
theorem sc__law_text_of : FnScope N__law_text_of P__law_text_of (defScope s__law_text_of) := ⟨rfl, rfl, rfl, by decide +kernel, rfl, by decide +kernel, by decide +kernel⟩
abbrev s__law_figures : Stmt := (top 44)
abbrev N__law_figures : List Str := ["_law_text", "_law_sign"]
abbrev P__law_figures : List Str := ["_law_text"]
theorem sc__law_figures : FnScope N__law_figures P__law_figures (defScope s__law_figures) := ⟨rfl, rfl, rfl, by decide +kernel, rfl, by decide +kernel, by decide +kernel⟩
abbrev s__law_value_of : Stmt := (top 45)
abbrev N__law_value_of : List Str := ["_law_text", "_law_below", "_law_parts", "_law_n", "_law_d"]
abbrev P__law_value_of : List Str := ["_law_text"]
theorem sc__law_value_of : FnScope N__law_value_of P__law_value_of (defScope s__law_value_of) := ⟨rfl, rfl, rfl, by decide +kernel, rfl, by decide +kernel, by decide +kernel⟩
abbrev s__law_right_reading : Stmt := (top 46)
abbrev N__law_right_reading : List Str := ["_law_text", "_law_due", "_law_told"]
abbrev P__law_right_reading : List Str := ["_law_text"]
theorem sc__law_right_reading : FnScope N__law_right_reading P__law_right_reading (defScope s__law_right_reading) := ⟨rfl, rfl, rfl, by decide +kernel, rfl, by decide +kernel, by decide +kernel⟩
abbrev s__law_spoilt : Stmt := (top 47)
abbrev N__law_spoilt : List Str := ["_law_bag", "_law_text", "_law_turn", "_law_at", "_law_sign", "_law_way"]
abbrev P__law_spoilt : List Str := ["_law_bag", "_law_text"]
theorem sc__law_spoilt : FnScope N__law_spoilt P__law_spoilt (defScope s__law_spoilt) := ⟨rfl, rfl, rfl, by decide +kernel, rfl, by decide +kernel, by decide +kernel⟩
abbrev s__law_odd_texts : Stmt := (top 48)
abbrev N__law_odd_texts : List Str := ["_law_bag", "_law_texts", "_law_long", "_law_other"]
abbrev P__law_odd_texts : List Str := ["_law_bag"]
theorem sc__law_odd_texts : FnScope N__law_odd_texts P__law_odd_texts (defScope s__law_odd_texts) := ⟨rfl, rfl, rfl, by decide +kernel, rfl, by decide +kernel, by decide +kernel⟩
abbrev s__law_odd_things : Stmt := (top 49)
abbrev N__law_odd_things : List Str := []
abbrev P__law_odd_things : List Str := []
theorem sc__law_odd_things : FnScope N__law_odd_things P__law_odd_things (defScope s__law_odd_things) := ⟨rfl, rfl, rfl, by decide +kernel, rfl, by decide +kernel, by decide +kernel⟩
abbrev s__law_right_texts : Stmt := (top 50)
abbrev N__law_right_texts : List Str := ["_law_bag", "_law_a", "_law_text", "_law_told", "_law_one", "_law_thing"]
abbrev P__law_right_texts : List Str := ["_law_bag", "_law_a"]
theorem sc__law_right_texts : FnScope N__law_right_texts P__law_right_texts (defScope s__law_right_texts) := ⟨rfl, rfl, rfl, by decide +kernel, rfl, by decide +kernel, by decide +kernel⟩
abbrev s__law_right_kinds : Stmt := (top 51)
abbrev N__law_right_kinds : List Str := ["_law_n", "_law_d", "_law_first", "_law_second", "_law_told", "_law_thing", "_law_odd"]
abbrev P__law_right_kinds : List Str := ["_law_n", "_law_d", "_law_first", "_law_second"]
theorem sc__law_right_kinds : FnScope N__law_right_kinds P__law_right_kinds (defScope s__law_right_kinds) := ⟨rfl, rfl, rfl, by decide +kernel, rfl, by decide +kernel, by decide +kernel⟩
abbrev s_law : Stmt := (top 52)
abbrev N_law : List Str := ["_law_script", "_law_bag", "_law_n", "_law_d", "_law_factor", "_law_first", "_law_second"]
abbrev P_law : List Str := ["_law_script"]
theorem sc_law : FnScope N_law P_law (defScope s_law) := ⟨rfl, rfl, rfl, by decide +kernel, rfl, by decide +kernel, by decide +kernel⟩
structure Ad where
  Nought : Addr
  BadRatio : Addr
  EllError : Addr
  tD : Tok
  tL : Tok
/-- an error's own __init__ -/
structure IniAt (K : PySem.W.Frag) (C : Addr) (q : Str) (st : Stmt) (ps : List Str) : Prop where
  ex : ∃ f fd, PySem.W.findIn K (.ref C) "__init__" = some (some (.ref f)) ∧ PySem.W.typeIn K (.ref f) = some (.type "function") ∧ Fun K "__init__" q st f fd ∧ Binds K fd ps []
/-- what the top has written -/
structure Txt (K : PySem.W.Frag) (mg : Str → Option Value) (a : Ad) : Prop where
  n_isinstance : mg "isinstance" = none
  n_int : mg "int" = none
  n_bool : mg "bool" = none
  n_tuple : mg "tuple" = none
  n_str : mg "str" = none
  n_list : mg "list" = none
  n_len : mg "len" = none
  n_all : mg "all" = none
  n_abs : mg "abs" = none
  n_range : mg "range" = none
  n_max : mg "max" = none
  n_repr : mg "repr" = none
  n_ValueError : mg "ValueError" = none
  gcd : mg "gcd" = some (.builtin "math.gcd")
  k_DIGITS : mg "DIGITS" = some (.str "0123456789" a.tD)
  k_LONGEST : mg "LONGEST" = some (.int 400 a.tL)
  ox_Nought : OexC K a.Nought
  g_Nought : mg "Nought" = some (.ref a.Nought)
  no_Nought_number : PySem.W.findIn K (.ref a.Nought) "number" = some none
  i_Nought : IniAt K a.Nought "Nought.__init__" s_NoughtD_initD P_NoughtD_initD
  e_Nought : ErrC K a.Nought
  xf_Nought : XfC K a.Nought
  kv_Nought : PySem.W.kitOne K (.ref a.Nought) (.type "ValueError") = some true
  ke_Nought : PySem.W.kitOne K (.ref a.Nought) (.ref a.EllError) = some true
  kn_Nought : PySem.W.kitOne K (.ref a.Nought) (.ref a.BadRatio) = some false
  em_Nought : PySem.W.exmOne K (.ref a.Nought) (.ref a.Nought) = some true
  ox_BadRatio : OexC K a.BadRatio
  g_BadRatio : mg "BadRatio" = some (.ref a.BadRatio)
  no_BadRatio_text : PySem.W.findIn K (.ref a.BadRatio) "text" = some none
  i_BadRatio : IniAt K a.BadRatio "BadRatio.__init__" s_BadRatioD_initD P_BadRatioD_initD
  e_BadRatio : ErrC K a.BadRatio
  xf_BadRatio : XfC K a.BadRatio
  kv_BadRatio : PySem.W.kitOne K (.ref a.BadRatio) (.type "ValueError") = some true
  ke_BadRatio : PySem.W.kitOne K (.ref a.BadRatio) (.ref a.EllError) = some true
  kn_BadRatio : PySem.W.kitOne K (.ref a.BadRatio) (.ref a.Nought) = some false
  em_BadRatio : PySem.W.exmOne K (.ref a.BadRatio) (.ref a.BadRatio) = some true
  g_EllError : mg "EllError" = some (.ref a.EllError)
  d_is_integer : DefAt K mg "is_integer" s_is_integer P_is_integer
  d_is_tuple_of : DefAt K mg "is_tuple_of" s_is_tuple_of P_is_tuple_of
  d_is_ratio : DefAt K mg "is_ratio" s_is_ratio P_is_ratio
  d_plus : DefAt K mg "plus" s_plus P_plus
  d_minus : DefAt K mg "minus" s_minus P_minus
  d_times : DefAt K mg "times" s_times P_times
  d_over : DefAt K mg "over" s_over P_over
  d_compare : DefAt K mg "compare" s_compare P_compare
  d_write_ratio : DefAt K mg "write_ratio" s_write_ratio P_write_ratio
  d_read_ratio : DefAt K mg "read_ratio" s_read_ratio P_read_ratio
  d_is_whole : DefAt K mg "is_whole" s_is_whole P_is_whole
  d__is_divisor : DefAt K mg "_is_divisor" s__is_divisor P__is_divisor
  d__is_digits : DefAt K mg "_is_digits" s__is_digits P__is_digits
  d__law_bag_of : DefAt K mg "_law_bag_of" s__law_bag_of P__law_bag_of
  d__law_pick : DefAt K mg "_law_pick" s__law_pick P__law_pick
  d__law_choice : DefAt K mg "_law_choice" s__law_choice P__law_choice
  d__law_one_in : DefAt K mg "_law_one_in" s__law_one_in P__law_one_in
  d__law_integer : DefAt K mg "_law_integer" s__law_integer P__law_integer
  d__law_gcd : DefAt K mg "_law_gcd" s__law_gcd P__law_gcd
  d__law_ratio : DefAt K mg "_law_ratio" s__law_ratio P__law_ratio
  d__law_plus : DefAt K mg "_law_plus" s__law_plus P__law_plus
  d__law_minus : DefAt K mg "_law_minus" s__law_minus P__law_minus
  d__law_times : DefAt K mg "_law_times" s__law_times P__law_times
  d__law_over : DefAt K mg "_law_over" s__law_over P__law_over
  d__law_number_of : DefAt K mg "_law_number_of" s__law_number_of P__law_number_of
  d__law_second_of : DefAt K mg "_law_second_of" s__law_second_of P__law_second_of
  d__law_same : DefAt K mg "_law_same" s__law_same P__law_same
  d__law_ratio_told : DefAt K mg "_law_ratio_told" s__law_ratio_told P__law_ratio_told
  d__law_over_told : DefAt K mg "_law_over_told" s__law_over_told P__law_over_told
  d__law_read_told : DefAt K mg "_law_read_told" s__law_read_told P__law_read_told
  d__law_right_making : DefAt K mg "_law_right_making" s__law_right_making P__law_right_making
  d__law_right_reckoning : DefAt K mg "_law_right_reckoning" s__law_right_reckoning P__law_right_reckoning
  d__law_text_of : DefAt K mg "_law_text_of" s__law_text_of P__law_text_of
  d__law_figures : DefAt K mg "_law_figures" s__law_figures P__law_figures
  d__law_value_of : DefAt K mg "_law_value_of" s__law_value_of P__law_value_of
  d__law_right_reading : DefAt K mg "_law_right_reading" s__law_right_reading P__law_right_reading
  d__law_spoilt : DefAt K mg "_law_spoilt" s__law_spoilt P__law_spoilt
  d__law_odd_texts : DefAt K mg "_law_odd_texts" s__law_odd_texts P__law_odd_texts
  d__law_odd_things : DefAt K mg "_law_odd_things" s__law_odd_things P__law_odd_things
  d__law_right_texts : DefAt K mg "_law_right_texts" s__law_right_texts P__law_right_texts
  d__law_right_kinds : DefAt K mg "_law_right_kinds" s__law_right_kinds P__law_right_kinds
  d_law : DefAt K mg "law" s_law P_law
  d_ratio : DefAtD K mg "ratio" s_ratio P_ratio [.int 1]
section
variable {P : Program} {w : World} {K : PySem.W.Frag} {mg : Str → Option Value} {base : Heap} {a : Ad}
/-! ### checks -/
/-- not an integer: a bool, or a thing of a type that is none of int's -/
def NoI (K : PySem.W.Frag) (H : Hp) (v : V) : Prop := (∃ b, v = .bl b) ∨ ∃ t, TyX K H v t ∧ PySem.W.kitOne K t (.type "int") = some false
def sp_is_integer (K : PySem.W.Frag) : Sp := fun vs H Q _ => ∃ v, vs = [v] ∧ ((∃ i, v = .int i ∧ Q (.bl true) H) ∨ (NoI K H v ∧ Q (.bl false) H))
theorem c_is_integer (T : Txt K mg a) : Cl P w K mg base 1 "is_integer" P_is_integer (sp_is_integer K) [] :=
  T.d_is_integer.cl sc_is_integer (fun vs H Q E h => by obtain ⟨i, rfl, _⟩ := h; rfl) fun f cdv A outer s H vs Q E hr h => by
    obtain ⟨v, rfl, h⟩ := h
    refine ⟨_, ((pss_one (ps_ret (pe_and (pe_callB call_isi (by rfl) T.n_isinstance (by decide +kernel) (pa_cons (pv 0) (pa_cons (pe_bltn (v := .ty "int") (by rfl) T.n_int (by decide +kernel) rfl) pa_nil))) (pe_one (pe_not (pe_callB call_isi (by rfl) T.n_isinstance (by decide +kernel) (pa_cons (pv 0) (pa_cons (pe_bltn (v := .ty "bool") (by rfl) T.n_bool (by decide +kernel) rfl) pa_nil))))))))), ?_⟩
    rcases h with ⟨i, rfl, k⟩ | ⟨⟨b, rfl⟩ | ⟨t, ht, hk⟩, k⟩
    · refine ⟨_, rfl, _, _, _, _, true, rfl, .ty _, .base (.int _), kit_ty (by decide +kernel), true, rfl, iteT ?_⟩
      exact ⟨_, rfl, _, _, _, _, false, rfl, .ty _, .base (.int _), kit_ty (by decide +kernel), false, rfl, k⟩
    · refine ⟨_, rfl, _, _, _, _, true, rfl, .ty _, .base (.bl _), kit_ty (by decide +kernel), true, rfl, iteT ?_⟩
      exact ⟨_, rfl, _, _, _, _, true, rfl, .ty _, .base (.bl _), kit_ty (by decide +kernel), true, rfl, k⟩
    · exact ⟨_, rfl, _, _, _, _, false, rfl, .ty _, ht, hk, false, rfl, iteF k⟩
def sp_is_tuple_of (K : PySem.W.Frag) : Sp := fun vs H Q _ => ∃ (v : V) (m : Int), vs = [v, .int m] ∧
  ((∃ p xs, v = .ref p ∧ SqT K H p xs ∧ Q (.bl (decide (V.int xs.length = V.int m))) H) ∨ ∃ t, TyX K H v t ∧ PySem.W.kitOne K t (.type "tuple") = some false ∧ Q (.bl false) H)
theorem c_is_tuple_of (T : Txt K mg a) : Cl P w K mg base 1 "is_tuple_of" P_is_tuple_of (sp_is_tuple_of K) [] :=
  T.d_is_tuple_of.cl sc_is_tuple_of (fun vs H Q E h => by obtain ⟨i, lo, rfl, _⟩ := h; rfl) fun f cdv A outer s H vs Q E hr h => by
    obtain ⟨v, m, rfl, h⟩ := h
    refine ⟨_, ((pss_one (ps_ret (pe_and (pe_callB call_isi (by rfl) T.n_isinstance (by decide +kernel) (pa_cons (pv 0) (pa_cons (pe_bltn (v := .ty "tuple") (by rfl) T.n_tuple (by decide +kernel) rfl) pa_nil))) (pe_one (pe_cmpR op_eq (pe_callB call_len_seq (by rfl) T.n_len (by decide +kernel) (pa_cons (pv 0) pa_nil)) (pv 1) (nomark _))))))), ?_⟩
    rcases h with ⟨p, xs, rfl, hx, k⟩ | ⟨t, ht, hk, k⟩
    · refine ⟨_, rfl, _, _, _, _, true, rfl, .ty _, ty_sqT hx, kit_ty (by decide +kernel), true, rfl, iteT ?_⟩
      exact ⟨_, rfl, _, _, rfl, .inr hx, _, rfl, rfl, k⟩
    · exact ⟨_, rfl, _, _, _, _, false, rfl, .ty _, ht, hk, false, rfl, iteF k⟩
theorem map_of {α : Type} {xs : List α} {f : α → V} : ∀ {ys : List V}, ys.length = xs.length → (∀ (j : Nat) y, ys[j]? = some y → ∃ x, xs[j]? = some x ∧ y = f x) → ys = xs.map f := by
  induction xs with
  | nil => intro ys h _; simpa using h
  | cons x xs ih =>
    intro ys h q
    cases ys with
    | nil => simp at h
    | cons y ys =>
      obtain ⟨x', hx, hy⟩ := q 0 y rfl
      cases hx
      rw [hy, List.map_cons, ih (by simpa using h) fun j z hz => q (j + 1) z hz]
theorem x_Nought (T : Txt K mg a) : Mke P w K mg base 1 "Nought" a.Nought P_NoughtD_initD (spI1 a.Nought "number") := by
  obtain ⟨f, fd, hi, ht, F, b⟩ := T.i_Nought.ex
  refine ⟨T.g_Nought, T.ox_Nought, f, fd, hi, ht, fun_ok F sc_NoughtD_initD (fun vs H Q E h => by obtain ⟨x, v, rfl, _⟩ := h; rfl) fun f cdv A outer s H vs Q E hr h => ?_, b⟩
  obtain ⟨x, v, rfl, hx, k⟩ := h
  exact ⟨_, ((pss_one (ps_ost (pv 0) (pv 1)))), _, rfl, _, rfl, x, a.Nought, rfl, T.ox_Nought, T.no_Nought_number, .inl ⟨hx, fun dx n ne => k dx n ne⟩⟩
theorem x_BadRatio (T : Txt K mg a) : Mke P w K mg base 1 "BadRatio" a.BadRatio P_BadRatioD_initD (spI1 a.BadRatio "text") := by
  obtain ⟨f, fd, hi, ht, F, b⟩ := T.i_BadRatio.ex
  refine ⟨T.g_BadRatio, T.ox_BadRatio, f, fd, hi, ht, fun_ok F sc_BadRatioD_initD (fun vs H Q E h => by obtain ⟨x, v, rfl, _⟩ := h; rfl) fun f cdv A outer s H vs Q E hr h => ?_, b⟩
  obtain ⟨x, v, rfl, hx, k⟩ := h
  exact ⟨_, ((pss_one (ps_ost (pv 0) (pv 1)))), _, rfl, _, rfl, x, a.BadRatio, rfl, T.ox_BadRatio, T.no_BadRatio_text, .inl ⟨hx, fun dx n ne => k dx n ne⟩⟩
end
end K01

set_option Elab.async false
set_option linter.all false
set_option maxRecDepth 100000
set_option maxHeartbeats 4000000
namespace K01
open PySem PySem.Spec PyProof.Rows L2 Ew
section
variable {P : Program} {w : World} {K : PySem.W.Frag} {mg : Str → Option Value} {base : Heap} {a : Ad}
/-! ### ratios -/
theorem at0 {x y : V} : atI [x, y] 0 = some x := rfl
theorem at1 {x y : V} : atI [x, y] 1 = some y := rfl
/-- n over d -/
def sp_ratioN (K : PySem.W.Frag) (a : Ad) : Sp := fun vs H Q E => ∃ (F : Hp) (n d : Int), vs = [.int n, .int d] ∧ Sz 8000 d ∧ Same F H ∧ (d = 0 → Ra F H E a.Nought fun F' x => F' x = some (.xd [("number", .int n)])) ∧
  (d ≠ 0 → ∀ F' H' v, Stp F H F' H' → Rt K F' v (rat n d) → Q v H')
theorem b_ratio (T : Txt K mg a) : BodyOk P w K mg base N_ratio "ratio" s_ratio 2 (sp_ratioN K a) := fun f cdv A outer s H vs Q E hr h => by
    obtain ⟨F, n, d, rfl, hz, hf, k0, k⟩ := h
    refine ⟨_, ((pss_cons (ps_if (pt_cmpR op_eq (pv 1) pe_int (nomark _))
 (pss_one (ps_raise1 rfl (takes_of rfl rfl rfl rfl) (x_Nought T) hr (by decide) rfl (pv 0)))
 pss_nil)
 (pss_cons (ps_set (i := 2) sc_ratio.nd rfl (Or.inl rfl) (pe_callBfun cr_gcd (by rfl) T.gcd (pa_cons (pv 0) (pa_cons (pv 1) pa_nil))))
 (pss_cons (ps_if (pt_cmpR op_lt (pv 1) pe_int (nomark _))
 (pss_one (ps_set (i := 2) sc_ratio.nd rfl (Or.inl rfl) (pe_un un_neg (pv 2))))
 pss_nil)
 (pss_one (ps_ret (pe_tup (pa_cons (pe_op op_fdivX (pv 0) (pv 2)) (pa_cons (pe_op op_fdivX (pv 1) (pv 2)) pa_nil))))))))), ?_⟩
    refine ⟨_, rfl, rfl, _, rfl, ?_⟩
    by_cases h0 : d = 0
    · exact iteY (vint_eq h0) ⟨_, rfl, fun x hx => k0 h0 _ _ x (stp_new hf hx) upd_same⟩
    have k := k h0
    have cd : ∀ i : Int, CDivX i (com n d) := fun i => ⟨com_ne h0, (com_sz h0 hz).log (by decide) (by decide)⟩
    refine iteN (vint_ne h0) ⟨_, rfl, _, rfl, n, d, rfl, ?_⟩
    have fin : ∀ c : Int, c = com n d → (tRet (tTup (tCons (tOp (rI CDivX fun i j => .int (i.fdiv j)) (tVar 0) (tVar 2)) (tCons (tOp (rI CDivX fun i j => .int (i.fdiv j)) (tVar 1) (tVar 2)) tNil)))) { nx := fun _ H' => Q .non H', rt := Q } [some (.int n), some (.int d), some (.int c)] H := by
      rintro c rfl
      refine ⟨_, rfl, _, rfl, _, _, rfl, rfl, cd _, _, rfl, _, rfl, _, _, rfl, rfl, cd _, by show 2 ≤ sizeLine; decide, fun p hp => ?_⟩
      exact k _ _ _ (stp_new hf hp) ⟨p, rfl, sq_new⟩
    refine ⟨_, rfl, _, _, rfl, rfl, _, rfl, ?_⟩
    refine ite2 (fun e => ?_) (fun e => ?_)
    · refine ⟨_, rfl, _, rfl, fin _ ?_⟩
      unfold com; rw [if_pos (of_decide_eq_true e)]
    · refine fin _ ?_
      unfold com; rw [if_neg fun z => e (decide_eq_true z)]
theorem c_ratioN (T : Txt K mg a) : Cl P w K mg base 3 "ratio" P_ratio (sp_ratioN K a) [] :=
  T.d_ratio.cl 1 (by decide) sc_ratio (fun vs H Q E h => by obtain ⟨F, n, d, rfl, _⟩ := h; rfl) (b_ratio T)
theorem c_ratio1 (T : Txt K mg a) : Cl P w K mg base 3 "ratio" P_ratio (sp_ratioN K a) [.int 1] :=
  T.d_ratio.cl 0 (by decide) sc_ratio (fun vs H Q E h => by obtain ⟨F, n, d, rfl, _⟩ := h; rfl) (b_ratio T)
/-- the same where d is not 0 -/
def sp_ratio (K : PySem.W.Frag) : Sp := fun vs H Q _ => ∃ (F : Hp) (n d : Int), vs = [.int n, .int d] ∧ d ≠ 0 ∧ Sz 8000 d ∧ Pu F H Q fun F' v => Rt K F' v (rat n d)
theorem c_ratio (T : Txt K mg a) : Cl P w K mg base 3 "ratio" P_ratio (sp_ratio K) [] :=
  T.d_ratio.cl 1 (by decide) sc_ratio (fun vs H Q E h => by obtain ⟨F, n, d, rfl, _⟩ := h; rfl) fun f cdv A outer s H vs Q E hr h => by
    obtain ⟨F, n, d, rfl, h0, hz, hf, k⟩ := h
    exact b_ratio T f cdv A outer s H _ Q E hr ⟨F, n, d, rfl, hz, hf, fun z => absurd z h0, fun _ => k⟩
/-- a def of two ratios that hands back a ratio -/
def sp_two (K : PySem.W.Frag) (g : Int × Int → Int × Int → Int × Int) : Sp := fun vs H Q _ => ∃ (F : Hp) (u v : V) (r q : Int × Int), vs = [u, v] ∧ Rt K F u r ∧ Rt K F v q ∧ Sz 2000 r.1 ∧ Sz 2000 r.2 ∧ Sz 2000 q.1 ∧ Sz 2000 q.2 ∧ r.2 ≠ 0 ∧ q.2 ≠ 0 ∧ Pu F H Q fun F' z => Rt K F' z (g r q)
def rPlus (r q : Int × Int) : Int × Int := rat (r.1 * q.2 + q.1 * r.2) (r.2 * q.2)
def rMinus (r q : Int × Int) : Int × Int := rat (r.1 * q.2 - q.1 * r.2) (r.2 * q.2)
def rTimes (r q : Int × Int) : Int × Int := rat (r.1 * q.1) (r.2 * q.2)
def rOver (r q : Int × Int) : Int × Int := rat (r.1 * q.2) (r.2 * q.1)
theorem sz1 : Sz 2000 1 := by unfold Sz; exact Nat.one_lt_two_pow (by decide)
theorem mulw {x y : Int} (h : Sz 2000 x) (k : Sz 2000 y) : CMulW x y := wide_mul h k (by decide) (by decide) (by decide)
theorem c_plus (T : Txt K mg a) : Cl P w K mg base 4 "plus" P_plus (sp_two K rPlus) [] :=
  T.d_plus.cl sc_plus (fun vs H Q E h => by obtain ⟨F, u, v, r, q, rfl, _⟩ := h; rfl) fun f cdv A outer s H vs Q E hr h => by
    obtain ⟨F, u, v, r, q, rfl, ⟨p1, rfl, h1⟩, ⟨p2, rfl, h2⟩, z1, z2, z3, z4, n1, n2, hf, k⟩ := h
    refine ⟨_, ((pss_one (ps_ret (pe_f (c_ratio T) (takes_of rfl rfl rfl rfl) hr (by decide) rfl (pa_cons (pe_op op_add (pe_op op_mulW (pe_ix ix_tup (pv 0) pe_int (fun _ _ => rfl)) (pe_ix ix_tup (pv 1) pe_int (fun _ _ => rfl))) (pe_op op_mulW (pe_ix ix_tup (pv 1) pe_int (fun _ _ => rfl)) (pe_ix ix_tup (pv 0) pe_int (fun _ _ => rfl)))) (pa_cons (pe_op op_mulW (pe_ix ix_tup (pv 0) pe_int (fun _ _ => rfl)) (pe_ix ix_tup (pv 1) pe_int (fun _ _ => rfl))) pa_nil)))))), ?_⟩
    refine ⟨_, rfl, p1, _, _, _, rfl, rfl, upT hf h1, at0, _, rfl, p2, _, _, _, rfl, rfl, upT hf h2, at1, _, _, rfl, rfl, mulw z1 z4, ?_⟩
    refine ⟨_, rfl, p2, _, _, _, rfl, rfl, upT hf h2, at0, _, rfl, p1, _, _, _, rfl, rfl, upT hf h1, at1, _, _, rfl, rfl, mulw z3 z2, _, _, rfl, rfl, ?_⟩
    refine ⟨_, rfl, p1, _, _, _, rfl, rfl, upT hf h1, at1, _, rfl, p2, _, _, _, rfl, rfl, upT hf h2, at1, _, _, rfl, rfl, mulw z2 z4, ?_⟩
    exact ⟨F, _, _, rfl, Int.mul_ne_zero n1 n2, (z2.mul z4).mono (by decide), hf, k⟩
theorem c_minus (T : Txt K mg a) : Cl P w K mg base 4 "minus" P_minus (sp_two K rMinus) [] :=
  T.d_minus.cl sc_minus (fun vs H Q E h => by obtain ⟨F, u, v, r, q, rfl, _⟩ := h; rfl) fun f cdv A outer s H vs Q E hr h => by
    obtain ⟨F, u, v, r, q, rfl, ⟨p1, rfl, h1⟩, ⟨p2, rfl, h2⟩, z1, z2, z3, z4, n1, n2, hf, k⟩ := h
    refine ⟨_, ((pss_one (ps_ret (pe_f (c_ratio T) (takes_of rfl rfl rfl rfl) hr (by decide) rfl (pa_cons (pe_op op_sub (pe_op op_mulW (pe_ix ix_tup (pv 0) pe_int (fun _ _ => rfl)) (pe_ix ix_tup (pv 1) pe_int (fun _ _ => rfl))) (pe_op op_mulW (pe_ix ix_tup (pv 1) pe_int (fun _ _ => rfl)) (pe_ix ix_tup (pv 0) pe_int (fun _ _ => rfl)))) (pa_cons (pe_op op_mulW (pe_ix ix_tup (pv 0) pe_int (fun _ _ => rfl)) (pe_ix ix_tup (pv 1) pe_int (fun _ _ => rfl))) pa_nil)))))), ?_⟩
    refine ⟨_, rfl, p1, _, _, _, rfl, rfl, upT hf h1, at0, _, rfl, p2, _, _, _, rfl, rfl, upT hf h2, at1, _, _, rfl, rfl, mulw z1 z4, ?_⟩
    refine ⟨_, rfl, p2, _, _, _, rfl, rfl, upT hf h2, at0, _, rfl, p1, _, _, _, rfl, rfl, upT hf h1, at1, _, _, rfl, rfl, mulw z3 z2, _, _, rfl, rfl, ?_⟩
    refine ⟨_, rfl, p1, _, _, _, rfl, rfl, upT hf h1, at1, _, rfl, p2, _, _, _, rfl, rfl, upT hf h2, at1, _, _, rfl, rfl, mulw z2 z4, ?_⟩
    exact ⟨F, _, _, rfl, Int.mul_ne_zero n1 n2, (z2.mul z4).mono (by decide), hf, k⟩
theorem c_times (T : Txt K mg a) : Cl P w K mg base 4 "times" P_times (sp_two K rTimes) [] :=
  T.d_times.cl sc_times (fun vs H Q E h => by obtain ⟨F, u, v, r, q, rfl, _⟩ := h; rfl) fun f cdv A outer s H vs Q E hr h => by
    obtain ⟨F, u, v, r, q, rfl, ⟨p1, rfl, h1⟩, ⟨p2, rfl, h2⟩, z1, z2, z3, z4, n1, n2, hf, k⟩ := h
    refine ⟨_, ((pss_one (ps_ret (pe_f (c_ratio T) (takes_of rfl rfl rfl rfl) hr (by decide) rfl (pa_cons (pe_op op_mulW (pe_ix ix_tup (pv 0) pe_int (fun _ _ => rfl)) (pe_ix ix_tup (pv 1) pe_int (fun _ _ => rfl))) (pa_cons (pe_op op_mulW (pe_ix ix_tup (pv 0) pe_int (fun _ _ => rfl)) (pe_ix ix_tup (pv 1) pe_int (fun _ _ => rfl))) pa_nil)))))), ?_⟩
    refine ⟨_, rfl, p1, _, _, _, rfl, rfl, upT hf h1, at0, _, rfl, p2, _, _, _, rfl, rfl, upT hf h2, at0, _, _, rfl, rfl, mulw z1 z3, ?_⟩
    refine ⟨_, rfl, p1, _, _, _, rfl, rfl, upT hf h1, at1, _, rfl, p2, _, _, _, rfl, rfl, upT hf h2, at1, _, _, rfl, rfl, mulw z2 z4, ?_⟩
    exact ⟨F, _, _, rfl, Int.mul_ne_zero n1 n2, (z2.mul z4).mono (by decide), hf, k⟩
def sp_over (K : PySem.W.Frag) (a : Ad) : Sp := fun vs H Q E => ∃ (F : Hp) (u v : V) (r q : Int × Int), vs = [u, v] ∧ Rt K F u r ∧ Rt K F v q ∧ Sz 2000 r.1 ∧ Sz 2000 r.2 ∧ Sz 2000 q.1 ∧ Sz 2000 q.2 ∧ r.2 ≠ 0 ∧ q.2 ≠ 0 ∧ Same F H ∧
  (q.1 ≠ 0 → ∀ F' H' z, Stp F H F' H' → Rt K F' z (rOver r q) → Q z H') ∧ (q.1 = 0 → Ra F H E a.Nought fun F' d => F' d = some (.xd [("number", u)]))
theorem c_over (T : Txt K mg a) : Cl P w K mg base 4 "over" P_over (sp_over K a) [] :=
  T.d_over.cl sc_over (fun vs H Q E h => by obtain ⟨F, u, v, r, q, rfl, _⟩ := h; rfl) fun f cdv A outer s H vs Q E hr h => by
    obtain ⟨F, u, v, r, q, rfl, ⟨p1, rfl, h1⟩, ⟨p2, rfl, h2⟩, z1, z2, z3, z4, n1, n2, hf, k1, k2⟩ := h
    refine ⟨_, ((pss_cons (ps_if (pt_cmpR op_eq (pe_ix ix_tup (pv 1) pe_int (fun _ _ => rfl)) pe_int (nomark _))
 (pss_one (ps_raise1 rfl (takes_of rfl rfl rfl rfl) (x_Nought T) hr (by decide) rfl (pv 0)))
 pss_nil)
 (pss_one (ps_ret (pe_f (c_ratio T) (takes_of rfl rfl rfl rfl) hr (by decide) rfl (pa_cons (pe_op op_mulW (pe_ix ix_tup (pv 0) pe_int (fun _ _ => rfl)) (pe_ix ix_tup (pv 1) pe_int (fun _ _ => rfl))) (pa_cons (pe_op op_mulW (pe_ix ix_tup (pv 0) pe_int (fun _ _ => rfl)) (pe_ix ix_tup (pv 1) pe_int (fun _ _ => rfl))) pa_nil))))))), ?_⟩
    refine ⟨_, rfl, p2, _, _, _, rfl, rfl, upT hf h2, at0, rfl, _, rfl, ?_⟩
    refine ite2 (fun e => ?_) (fun e => ?_)
    · have e : q.1 = 0 := by have := of_decide_eq_true e; injection this
      exact ⟨_, rfl, fun d hd => k2 e _ _ d (stp_new hf hd) upd_same⟩
    · have e : q.1 ≠ 0 := fun z => e (decide_eq_true (by rw [z]))
      refine ⟨_, rfl, p1, _, _, _, rfl, rfl, upT hf h1, at0, _, rfl, p2, _, _, _, rfl, rfl, upT hf h2, at1, _, _, rfl, rfl, mulw z1 z4, ?_⟩
      refine ⟨_, rfl, p1, _, _, _, rfl, rfl, upT hf h1, at1, _, rfl, p2, _, _, _, rfl, rfl, upT hf h2, at0, _, _, rfl, rfl, mulw z2 z3, ?_⟩
      exact ⟨F, _, _, rfl, Int.mul_ne_zero n1 e, (z2.mul z3).mono (by decide), hf, k1 e⟩
def rCmp (r q : Int × Int) : Int := if r.1 * q.2 = q.1 * r.2 then 0 else if r.1 * q.2 < q.1 * r.2 then -1 else 1
def sp_compare (K : PySem.W.Frag) : Sp := fun vs H Q _ => ∃ (u v : V) (r q : Int × Int), vs = [u, v] ∧ Rt K H u r ∧ Rt K H v q ∧ Sz 2000 r.1 ∧ Sz 2000 r.2 ∧ Sz 2000 q.1 ∧ Sz 2000 q.2 ∧ Q (.int (rCmp r q)) H
theorem c_compare (T : Txt K mg a) : Cl P w K mg base 1 "compare" P_compare (sp_compare K) [] :=
  T.d_compare.cl sc_compare (fun vs H Q E h => by obtain ⟨u, v, r, q, rfl, _⟩ := h; rfl) fun f cdv A outer s H vs Q E hr h => by
    obtain ⟨u, v, r, q, rfl, ⟨p1, rfl, h1⟩, ⟨p2, rfl, h2⟩, z1, z2, z3, z4, k⟩ := h
    refine ⟨_, ((pss_cons (ps_set (i := 2) sc_compare.nd rfl (Or.inl rfl) (pe_op op_mulW (pe_ix ix_tup (pv 0) pe_int (fun _ _ => rfl)) (pe_ix ix_tup (pv 1) pe_int (fun _ _ => rfl))))
 (pss_cons (ps_set (i := 3) sc_compare.nd rfl (Or.inl rfl) (pe_op op_mulW (pe_ix ix_tup (pv 1) pe_int (fun _ _ => rfl)) (pe_ix ix_tup (pv 0) pe_int (fun _ _ => rfl))))
 (pss_cons (ps_if (pt_cmpR op_eq (pv 2) (pv 3) (nomark _))
 (pss_one (ps_ret pe_int))
 pss_nil)
 (pss_one (ps_ret (pe_ifExp (pt_cmpR op_lt (pv 2) (pv 3) (nomark _)) (pe_un un_neg pe_int) pe_int))))))), ?_⟩
    refine ⟨_, rfl, p1, _, _, _, rfl, rfl, h1, at0, _, rfl, p2, _, _, _, rfl, rfl, h2, at1, _, _, rfl, rfl, mulw z1 z4, ?_⟩
    refine ⟨_, rfl, p2, _, _, _, rfl, rfl, h2, at0, _, rfl, p1, _, _, _, rfl, rfl, h1, at1, _, _, rfl, rfl, mulw z3 z2, ?_⟩
    refine ⟨_, rfl, _, rfl, rfl, _, rfl, ?_⟩
    unfold rCmp at k
    refine ite2 (fun e => ?_) (fun e => ?_)
    · have e : r.1 * q.2 = q.1 * r.2 := by have := of_decide_eq_true e; injection this
      rw [if_pos e] at k
      exact k
    · have e : ¬ r.1 * q.2 = q.1 * r.2 := fun z => e (decide_eq_true (congrArg V.int z))
      rw [if_neg e] at k
      refine ⟨_, rfl, _, rfl, _, _, rfl, rfl, _, rfl, ?_⟩
      refine ite2 (fun e => ?_) (fun e => ?_)
      · rw [if_pos (of_decide_eq_true e)] at k
        exact ⟨_, rfl, k⟩
      · rw [if_neg fun z => e (decide_eq_true z)] at k
        exact k
/-- a pair that may be none of a ratio -/
def sp_is_ratio (K : PySem.W.Frag) : Sp := fun vs H Q _ => ∃ v : V, vs = [v] ∧ ((∃ t, TyX K H v t ∧ PySem.W.kitOne K t (.type "tuple") = some false ∧ Q (.bl false) H) ∨ (∃ p xs, v = .ref p ∧ SqT K H p xs ∧ xs.length ≠ 2 ∧ Q (.bl false) H) ∨
  (∃ p x y, v = .ref p ∧ SqT K H p [x, y] ∧ NoI K H x ∧ Q (.bl false) H) ∨ (∃ (p : Addr) (n : Int) (y : V), v = .ref p ∧ SqT K H p [.int n, y] ∧ NoI K H y ∧ Q (.bl false) H) ∨
  ∃ (n d : Int), Rt K H v (n, d) ∧ Q (.bl (decide (1 ≤ d) && decide (Nat.gcd n.natAbs d.natAbs = 1))) H)
theorem c_is_ratio (T : Txt K mg a) : Cl P w K mg base 2 "is_ratio" P_is_ratio (sp_is_ratio K) [] :=
  T.d_is_ratio.cl sc_is_ratio (fun vs H Q E h => by obtain ⟨v, rfl, _⟩ := h; rfl) fun f cdv A outer s H vs Q E hr h => by
    obtain ⟨v, rfl, h⟩ := h
    refine ⟨_, ((pss_cons (ps_if (pt_not (pt_val (pe_f (c_is_tuple_of T) (takes_of rfl rfl rfl rfl) hr (by decide) rfl (pa_cons (pv 0) (pa_cons pe_int pa_nil)))))
 (pss_one (ps_ret pe_bl))
 pss_nil)
 (pss_cons (ps_asg (pv 0) (pg_tup rfl (pgs_cons (pg_name (i := 1) sc_is_ratio.nd rfl (Or.inl rfl)) (pgs_cons (pg_name (i := 2) sc_is_ratio.nd rfl (Or.inl rfl)) pgs_nil))))
 (pss_one (ps_ret (pe_and (pe_f (c_is_integer T) (takes_of rfl rfl rfl rfl) hr (by decide) rfl (pa_cons (pv 1) pa_nil)) (pe_and (pe_f (c_is_integer T) (takes_of rfl rfl rfl rfl) hr (by decide) rfl (pa_cons (pv 2) pa_nil)) (pe_and (pe_cmpR op_ge (pv 2) pe_int (nomark _)) (pe_one (pe_cmpR op_eq (pe_callBfun cr_gcd (by rfl) T.gcd (pa_cons (pv 1) (pa_cons (pv 2) pa_nil))) pe_int (nomark _))))))))))), ?_⟩
    rcases h with ⟨t, ht, hk, k⟩ | ⟨p, xs, rfl, hp, hl, k⟩ | ⟨p, x, y, rfl, hp, hx, k⟩ | ⟨p, n, y, rfl, hp, hy, k⟩ | ⟨n, d, ⟨p, rfl, hp⟩, k⟩
    · exact ⟨_, rfl, _, _, rfl, .inr ⟨t, ht, hk, _, rfl, iteT k⟩⟩
    · refine ⟨_, rfl, _, _, rfl, .inl ⟨p, xs, rfl, hp, _, rfl, ?_⟩⟩
      rw [decide_eq_false (fun z => hl (by have := V.int.inj z; omega))]
      exact iteT k
    · refine ⟨_, rfl, _, _, rfl, .inl ⟨p, _, rfl, hp, true, rfl, iteF ?_⟩⟩
      refine ⟨_, rfl, p, _, rfl, hp, rfl, _, _, rfl, _, _, rfl, rfl, ?_⟩
      exact ⟨_, rfl, _, rfl, .inr ⟨hx, _, rfl, iteF k⟩⟩
    · refine ⟨_, rfl, _, _, rfl, .inl ⟨p, _, rfl, hp, true, rfl, iteF ?_⟩⟩
      refine ⟨_, rfl, p, _, rfl, hp, rfl, _, _, rfl, _, _, rfl, rfl, ?_⟩
      exact ⟨_, rfl, _, rfl, .inl ⟨_, rfl, _, rfl, iteT ⟨_, rfl, _, rfl, .inr ⟨hy, _, rfl, iteF k⟩⟩⟩⟩
    · refine ⟨_, rfl, _, _, rfl, .inl ⟨p, _, rfl, hp, true, rfl, iteF ?_⟩⟩
      refine ⟨_, rfl, p, _, rfl, hp, rfl, _, _, rfl, _, _, rfl, rfl, ?_⟩
      refine ⟨_, rfl, _, rfl, .inl ⟨_, rfl, _, rfl, iteT ⟨_, rfl, _, rfl, .inl ⟨_, rfl, _, rfl, iteT ?_⟩⟩⟩⟩
      refine ⟨_, rfl, _, _, rfl, rfl, _, rfl, ?_⟩
      cases e : decide (1 ≤ d) with
      | false => exact iteF (by rw [e] at k; exact k)
      | true =>
        refine iteT ⟨_, rfl, _, rfl, _, _, rfl, rfl, ?_⟩
        rw [e] at k
        have : decide (V.int (Nat.gcd n.natAbs d.natAbs : Nat) = V.int 1) = decide (Nat.gcd n.natAbs d.natAbs = 1) := by
          by_cases h : Nat.gcd n.natAbs d.natAbs = 1
          · simp [h]
          · rw [decide_eq_false h, decide_eq_false]
            intro z
            have := V.int.inj z
            omega
        rw [this]
        exact k
end
end K01

set_option Elab.async false
set_option linter.all false
set_option maxRecDepth 100000
set_option maxHeartbeats 4000000
namespace K01
open PySem PySem.Spec PyProof.Rows L2 Ew
/-! ### the law's bag -/
theorem _root_.Ew.Stm.touch {m : Addr → Prop} {F H F' H' : Hp} {p : Addr} {o : HO} (a : Stm m F H F' H') (hm : m p) (hf : F' p = none) : Stm m F H F' (upd H' p o) :=
  ⟨a.ff, fun b u e => by rw [upd_ne (ne_of_none e hf)]; exact a.fh b u e, fun x u n e => by rw [upd_ne (fun z => n (by rw [z]; exact hm))]; exact a.hh x u n e, a.nw⟩
def bk (la : Addr) (at_ rest mixed count : Int) : List (Key × V) := [(.inr "cells", .ref la), (.inr "at", .int at_), (.inr "rest", .int rest), (.inr "mixed", .int mixed), (.inr "count", .int count)]
def Bag (K : PySem.W.Frag) (b : Addr) (F H : Hp) : Prop := F b = none ∧ ∃ (la : Addr) (ns : List Int) (at_ rest mixed count : Int), 0 ≤ at_ ∧ ns.length ≤ 1000 ∧ SqL K F la (ns.map V.int) ∧ H b = some (.dK (bk la at_ rest mixed count))
theorem memB (K : PySem.W.Frag) (b : Addr) : Mem (fun x => x = b) (Bag K b) where
  there := fun ⟨_, _, _, _, _, _, _, _, _, _, h⟩ z => by rw [z, h]; exact fun q => nomatch q
  off := fun ⟨h, _⟩ z => by rw [z]; exact h
  put := fun ⟨h, la, ns, at_, rest, mixed, count, h1, h2, h3, h4⟩ n => ⟨h, la, ns, at_, rest, mixed, count, h1, h2, h3, by rw [upd_ne (fun z => n z.symm)]; exact h4⟩
  grow := fun ⟨h, la, ns, at_, rest, mixed, count, h1, h2, h3, h4⟩ e k => ⟨k _ rfl, la, ns, at_, rest, mixed, count, h1, h2, upL e h3, h4⟩
section
variable {H : Hp} {b la : Addr} {at_ rest mixed count n : Int}
theorem dg_c (h : H b = some (.dK (bk la at_ rest mixed count))) : DGet H b (.str "cells") (some (.ref la)) := .inl ⟨_, .inr "cells", .inl h, rfl, rfl⟩
theorem dg_a (h : H b = some (.dK (bk la at_ rest mixed count))) : DGet H b (.str "at") (some (.int at_)) := .inl ⟨_, .inr "at", .inl h, rfl, rfl⟩
theorem dg_r (h : H b = some (.dK (bk la at_ rest mixed count))) : DGet H b (.str "rest") (some (.int rest)) := .inl ⟨_, .inr "rest", .inl h, rfl, rfl⟩
theorem dg_m (h : H b = some (.dK (bk la at_ rest mixed count))) : DGet H b (.str "mixed") (some (.int mixed)) := .inl ⟨_, .inr "mixed", .inl h, rfl, rfl⟩
theorem dg_n (h : H b = some (.dK (bk la at_ rest mixed count))) : DGet H b (.str "count") (some (.int count)) := .inl ⟨_, .inr "count", .inl h, rfl, rfl⟩
theorem dp_a (h : H b = some (.dK (bk la at_ rest mixed count))) : DPut H b (.str "at") (.int n) (upd H b (.dK (bk la n rest mixed count))) := .inl ⟨_, .inr "at", h, rfl, Nat.lt_of_le_of_lt (by decide : 5 ≤ 1000) (by decide), rfl⟩
theorem dp_r (h : H b = some (.dK (bk la at_ rest mixed count))) : DPut H b (.str "rest") (.int n) (upd H b (.dK (bk la at_ n mixed count))) := .inl ⟨_, .inr "rest", h, rfl, Nat.lt_of_le_of_lt (by decide : 5 ≤ 1000) (by decide), rfl⟩
theorem dp_m (h : H b = some (.dK (bk la at_ rest mixed count))) : DPut H b (.str "mixed") (.int n) (upd H b (.dK (bk la at_ rest n count))) := .inl ⟨_, .inr "mixed", h, rfl, Nat.lt_of_le_of_lt (by decide : 5 ≤ 1000) (by decide), rfl⟩
theorem dp_n (h : H b = some (.dK (bk la at_ rest mixed count))) : DPut H b (.str "count") (.int n) (upd H b (.dK (bk la at_ rest mixed n))) := .inl ⟨_, .inr "count", h, rfl, Nat.lt_of_le_of_lt (by decide : 5 ≤ 1000) (by decide), rfl⟩
end
section
variable {P : Program} {w : World} {K : PySem.W.Frag} {mg : Str → Option Value} {base : Heap} {a : Ad}
theorem log_sz {j : Int} (h : Sz 8000 j) : j.natAbs.log2 < 9000 := h.log (by decide) (by decide)
theorem atI_int {α : Type} {xs : List α} {i : Int} {x : α} (h0 : 0 ≤ i) (h1 : i < xs.length) (h : xs[i.toNat]? = some x) : atI xs i = some x := by
  unfold atI
  unfold ixN
  rw [if_pos h0, if_pos h1]
  exact h
theorem seq_with {t u : TS} {D : Ends} {σ : L2.St} {H : Hp} (Pv : L2.St → Hp → Prop) (h1 : ∀ u', (∀ σ H, Pv σ H → u' D σ H) → tSeq t u' D σ H) (h2 : ∀ σ H, Pv σ H → u D σ H) : tSeq t u D σ H := h1 u h2
def sp__law_pick (K : PySem.W.Frag) : Sp := fun vs H Q _ => ∃ (F : Hp) (b : Addr) (many : Int), vs = [.ref b, .int many] ∧ Bag K b F H ∧ Same F H ∧ 0 < many ∧ Sz 8000 many ∧
  ∀ H' (i : Int), Stm (fun x => x = b) F H F H' → Bag K b F H' → 0 ≤ i → i < many → Q (.int i) H'
theorem c__law_pick (T : Txt K mg a) : Cl P w K mg base 1 "_law_pick" P__law_pick (sp__law_pick K) [] :=
  T.d__law_pick.cl sc__law_pick (fun vs H Q E h => by obtain ⟨F, b, many, rfl, _⟩ := h; rfl) fun f cdv A outer s H vs Q E hr h => by
    obtain ⟨F, b, many, rfl, ⟨fb, la, ns, at_, rest, mixed, count, h0, hn, hl, hb⟩, hf, hm, hz, k⟩ := h
    have hz := log_sz hz
    have ok : ∀ (x : Int), 0 ≤ x % many ∧ x % many < many := fun x => ⟨Int.emod_nonneg _ (by omega), Int.emod_lt_of_pos _ hm⟩
    refine ⟨_, ((pss_cons (ps_dput (hu_of hr) (pv 0) pe_str (pe_op op_add (pe_dget (hu_of hr) (pv 0) pe_str (fun _ _ => rfl)) pe_int) rfl)
 (pss_cons (ps_if (pt_cmpR op_gt (pe_dget (hu_of hr) (pv 0) pe_str (fun _ _ => rfl)) pe_int (nomark _))
 (pss_cons (ps_set (i := 2) sc__law_pick.nd rfl (Or.inl rfl) (pe_dget (hu_of hr) (pv 0) pe_str (fun _ _ => rfl)))
 (pss_cons (ps_dput (hu_of hr) (pv 0) pe_str (pe_op op_fdivW (pv 2) (pv 1)) rfl)
 (pss_one (ps_ret (pe_op op_mod (pe_callTy call_int1 (by rfl) T.n_int (by decide +kernel) (pa_cons (pv 2) pa_nil)) (pv 1))))))
 pss_nil)
 (pss_cons (ps_set (i := 3) sc__law_pick.nd rfl (Or.inl rfl) pe_int)
 (pss_cons (ps_if (pt_cmpR op_lt (pe_dget (hu_of hr) (pv 0) pe_str (fun _ _ => rfl)) (pe_callB call_len_seq (by rfl) T.n_len (by decide +kernel) (pa_cons (pe_dget (hu_of hr) (pv 0) pe_str (fun _ _ => rfl)) pa_nil)) (nomark _))
 (pss_cons (ps_set (i := 3) sc__law_pick.nd rfl (Or.inl rfl) (pe_ix ix_list (pe_dget (hu_of hr) (pv 0) pe_str (fun _ _ => rfl)) (pe_dget (hu_of hr) (pv 0) pe_str (fun _ _ => rfl)) (fun _ _ => rfl)))
 (pss_cons (ps_dput (hu_of hr) (pv 0) pe_str (pe_op op_add (pe_dget (hu_of hr) (pv 0) pe_str (fun _ _ => rfl)) pe_int) rfl)
 (pss_one (ps_if (pt_cmpR op_ge (pv 3) (pe_op op_pow pe_int pe_int) (nomark _))
 (pss_cons (ps_dput (hu_of hr) (pv 0) pe_str (pe_op op_fdivW (pv 3) (pv 1)) rfl)
 (pss_one (ps_ret (pe_op op_mod (pe_callTy call_int1 (by rfl) T.n_int (by decide +kernel) (pa_cons (pv 3) pa_nil)) (pv 1)))))
 pss_nil))))
 pss_nil)
 (pss_cons (ps_set (i := 2) sc__law_pick.nd rfl (Or.inl rfl) (pe_op op_mod (pe_callTy call_int1 (by rfl) T.n_int (by decide +kernel) (pa_cons (pe_op op_add (pe_op op_add (pe_op op_mul (pv 3) pe_int) (pe_op op_mul (pe_dget (hu_of hr) (pv 0) pe_str (fun _ _ => rfl)) pe_int)) (pe_op op_mul (pe_dget (hu_of hr) (pv 0) pe_str (fun _ _ => rfl)) pe_int)) pa_nil)) pe_int))
 (pss_cons (ps_set (i := 2) sc__law_pick.nd rfl (Or.inl rfl) (pe_op op_mod (pe_callTy call_int1 (by rfl) T.n_int (by decide +kernel) (pa_cons (pe_op op_add (pe_op op_mul (pv 2) pe_int) pe_int) pa_nil)) pe_int))
 (pss_cons (ps_dput (hu_of hr) (pv 0) pe_str (pe_op op_mod (pe_callTy call_int1 (by rfl) T.n_int (by decide +kernel) (pa_cons (pv 2) pa_nil)) pe_int) rfl)
 (pss_one (ps_ret (pe_op op_mod (pe_callTy call_int1 (by rfl) T.n_int (by decide +kernel) (pa_cons (pe_op op_fdiv (pv 2) pe_int) pa_nil)) (pv 1)))))))))))), ?_⟩
    refine ⟨_, rfl, b, _, rfl, dg_n hb, _, _, rfl, rfl, _, rfl, b, _, rfl, dp_n hb, ?_⟩
    have s1 : Stm (fun x => x = b) F H F (upd H b (.dK (bk la at_ rest mixed (count + 1)))) := Stm.touch (Stm.refl hf) rfl fb
    generalize hH1 : upd H b (.dK (bk la at_ rest mixed (count + 1))) = H1 at s1
    have hb1 : H1 b = some (.dK (bk la at_ rest mixed (count + 1))) := by rw [← hH1]; exact upd_same
    refine ⟨_, rfl, b, _, rfl, dg_r hb1, _, _, rfl, rfl, _, rfl, ?_⟩
    refine ite2 (fun e => ?_) (fun e => ?_)
    · refine ⟨_, rfl, b, _, rfl, dg_r hb1, ?_⟩
      refine ⟨_, rfl, _, rfl, _, _, rfl, rfl, ⟨hm, hz⟩, _, rfl, b, _, rfl, dp_r hb1, ?_⟩
      refine ⟨_, rfl, .inl ⟨_, rfl, _, rfl, _, _, rfl, rfl, hm, ?_⟩⟩
      exact k _ _ (s1.touch rfl fb) ⟨fb, la, ns, at_, _, mixed, _, h0, hn, hl, upd_same⟩ (ok _).1 (ok _).2
    · refine seq_with (fun σ2 H2 => σ2 = L2.start N__law_pick [.ref b, .int many] ∧ H1 = H2) (fun u hu => hu _ _ ⟨rfl, rfl⟩) ?_
      rintro _ _ ⟨rfl, rfl⟩
      refine seq_with (fun σ2 H2 => σ2 = [some (.ref b), some (.int many), none, some (.int 0)] ∧ H1 = H2) (fun u hu => hu _ _ ⟨rfl, rfl⟩) ?_
      rintro _ _ ⟨rfl, rfl⟩
      refine seq_with (fun σ2 H2 => ∃ cell at2, σ2 = [some (.ref b), some (.int many), none, some (.int cell)] ∧ Stm (fun x => x = b) F H F H2 ∧ 0 ≤ at2 ∧ H2 b = some (.dK (bk la at2 rest mixed (count + 1)))) (fun u hu => ?_) ?_
      · refine ⟨_, rfl, b, _, rfl, dg_a hb1, _, rfl, b, _, rfl, dg_c hb1, la, _, rfl, .inl (upL s1.fh hl), _, _, rfl, rfl, _, rfl, ?_⟩
        refine ite2 (fun e2 => ?_) (fun e2 => ?_)
        · have lt : at_.toNat < ns.length := by
            have := of_decide_eq_true e2
            rw [List.length_map] at this
            omega
          refine ⟨_, rfl, b, _, rfl, dg_c hb1, _, rfl, b, _, rfl, dg_a hb1, la, _, _, .int ns[at_.toNat], rfl, rfl, upL s1.fh hl, ?_, ?_⟩
          · exact atI_int h0 (by rw [List.length_map]; omega) (by rw [List.getElem?_map, List.getElem?_eq_getElem lt]; rfl)
          refine ⟨_, rfl, b, _, rfl, dg_a hb1, _, _, rfl, rfl, _, rfl, b, _, rfl, dp_a hb1, ?_⟩
          have s2 := s1.touch (p := b) (o := .dK (bk la (at_ + 1) rest mixed (count + 1))) rfl fb
          generalize hH2 : upd _ b (.dK (bk la (at_ + 1) rest mixed (count + 1))) = H2 at s2
          have hb2 : H2 b = some (.dK (bk la (at_ + 1) rest mixed (count + 1))) := by rw [← hH2]; exact upd_same
          refine ⟨_, rfl, _, _, rfl, rfl, ⟨by decide, by decide, by decide⟩, _, _, rfl, rfl, _, rfl, ?_⟩
          refine ite2 (fun e => ?_) (fun e => ?_)
          · refine ⟨_, rfl, _, rfl, _, _, rfl, rfl, ⟨hm, hz⟩, _, rfl, b, _, rfl, dp_r hb2, ?_⟩
            refine ⟨_, rfl, .inl ⟨_, rfl, _, rfl, _, _, rfl, rfl, hm, ?_⟩⟩
            exact k _ _ (s2.touch rfl fb) ⟨fb, la, ns, _, _, mixed, _, by omega, hn, hl, upd_same⟩ (ok _).1 (ok _).2
          · exact hu _ _ ⟨_, _, rfl, s2, by omega, hb2⟩
        · exact hu _ _ ⟨_, _, rfl, s1, h0, hb1⟩
      · rintro _ H2 ⟨cell, at2, rfl, s2, h2, hb2⟩
        have cm : ∀ i j : Int, -(2 ^ 64) < j → j < 2 ^ 64 → CMul i j := fun i j h1 h2 => .inr ⟨h1, h2⟩
        refine ⟨_, rfl, _, _, rfl, rfl, cm _ _ (by decide) (by decide), _, rfl, b, _, rfl, dg_m hb2, _, _, rfl, rfl, cm _ _ (by decide) (by decide), _, _, rfl, rfl, _, rfl, b, _, rfl, dg_n hb2, _, _, rfl, rfl, cm _ _ (by decide) (by decide), _, _, rfl, rfl, .inl ⟨_, rfl, _, _, rfl, rfl, (by decide : (0 : Int) < 2147483647), ?_⟩⟩
        refine ⟨_, rfl, _, _, rfl, rfl, cm _ _ (by decide) (by decide), _, _, rfl, rfl, .inl ⟨_, rfl, _, _, rfl, rfl, (by decide : (0 : Int) < 2147483647), ?_⟩⟩
        refine ⟨_, rfl, .inl ⟨_, rfl, _, _, rfl, rfl, (by decide : (0 : Int) < 1000003), _, rfl, b, _, rfl, dp_m hb2, ?_⟩⟩
        refine ⟨_, rfl, _, _, rfl, rfl, ⟨by decide, by decide⟩, .inl ⟨_, rfl, _, rfl, _, _, rfl, rfl, hm, ?_⟩⟩
        exact k _ _ (s2.touch rfl fb) ⟨fb, la, ns, _, _, _, _, h2, hn, hl, upd_same⟩ (ok _).1 (ok _).2
end
end K01

set_option Elab.async false
set_option linter.all false
set_option maxRecDepth 100000
set_option maxHeartbeats 4000000
namespace K01
open PySem PySem.Spec PyProof.Rows L2 Ew
abbrev Sb (b : Addr) := Stm (fun x => x = b)
section
variable {P : Program} {w : World} {K : PySem.W.Frag} {mg : Str → Option Value} {base : Heap} {a : Ad}
/-- what a choice is made of -/
def Things (K : PySem.W.Frag) (F H : Hp) (b : Addr) (u : V) (xs : List V) : Prop := (∃ p, u = .ref p ∧ SqL K F p xs) ∨ (∃ p, u = .ref p ∧ p ≠ b ∧ H p = some (.lst xs)) ∨ ∃ z : Str, u = .str z ∧ z.length ≤ sizeLine ∧ xs = z.cps.toList.map fun c => V.str ⟨#[c]⟩
theorem sz_len {n : Nat} (h : n ≤ 1000) : Sz 8000 (n : Int) := by
  unfold Sz
  have : (2 : Nat) ^ 10 ≤ 2 ^ 8000 := Nat.pow_le_pow_right (by decide) (by decide)
  have e : (2 : Nat) ^ 10 = 1024 := by decide
  omega
def sp__law_choice (K : PySem.W.Frag) : Sp := fun vs H Q _ => ∃ (F : Hp) (b : Addr) (u : V) (xs : List V), vs = [.ref b, u] ∧ Things K F H b u xs ∧ xs ≠ [] ∧ xs.length ≤ 1000 ∧ Bag K b F H ∧ Same F H ∧
  ∀ H' x (i : Nat), Sb b F H F H' → Bag K b F H' → xs[i]? = some x → Q x H'
theorem c__law_choice (T : Txt K mg a) : Cl P w K mg base 2 "_law_choice" P__law_choice (sp__law_choice K) [] :=
  T.d__law_choice.cl sc__law_choice (fun vs H Q E h => by obtain ⟨F, b, u, xs, rfl, _⟩ := h; rfl) fun f cdv A outer s H vs Q E hr h => by
    obtain ⟨F, b, u, xs, rfl, ht, h0, hl, hB, hf, k⟩ := h
    refine ⟨_, ((pss_one (ps_ret (pe_ix ix_seq (pv 1) (pe_f (c__law_pick T) (takes_of rfl rfl rfl rfl) hr (by decide) rfl (pa_cons (pv 0) (pa_cons (pe_callB (call_len_seq.or call_len_str) (by rfl) T.n_len (by decide +kernel) (pa_cons (pv 1) pa_nil)) pa_nil))) (fun _ _ => rfl))))), ?_⟩
    have l0 : 0 < xs.length := List.length_pos_iff.mpr h0
    have get : ∀ (i : Int) (h1 : 0 ≤ i) (h2 : i < (xs.length : Int)), atI xs i = some (xs[i.toNat]'((Int.toNat_lt h1).mpr h2)) := fun i h1 h2 => atI_int h1 h2 (List.getElem?_eq_getElem _)
    have fin : ∀ H' (i : Int) (h1 : 0 ≤ i) (h2 : i < (xs.length : Int)), Sb b F H F H' → Bag K b F H' → Q (xs[i.toNat]'((Int.toNat_lt h1).mpr h2)) H' := fun H' i h1 h2 s1 B1 => k H' _ i.toNat s1 B1 (List.getElem?_eq_getElem _)
    rcases ht with ⟨p, rfl, hp⟩ | ⟨p, rfl, nb, hp⟩ | ⟨z, rfl, hz, rfl⟩
    · refine ⟨_, rfl, _, rfl, _, rfl, .inl ⟨p, xs, rfl, .inl (upL hf hp), F, b, _, rfl, hB, hf, by omega, sz_len hl, fun H' i s1 B1 h1 h2 => ?_⟩⟩
      exact .inl ⟨p, xs, i, _, rfl, rfl, upL s1.fh hp, get i h1 h2, fin H' i h1 h2 s1 B1⟩
    · refine ⟨_, rfl, _, rfl, _, rfl, .inl ⟨p, xs, rfl, .inl (SqL.of hp), F, b, _, rfl, hB, hf, by omega, sz_len hl, fun H' i s1 B1 h1 h2 => ?_⟩⟩
      exact .inl ⟨p, xs, i, _, rfl, rfl, SqL.of (s1.hh p _ nb hp), get i h1 h2, fin H' i h1 h2 s1 B1⟩
    · have zl : z.length = z.cps.size := rfl
      have xl : (z.cps.toList.map fun c => V.str ⟨#[c]⟩).length = z.cps.size := by rw [List.length_map, Array.length_toList]
      rw [xl] at l0 hl
      refine ⟨_, rfl, _, rfl, _, rfl, .inr ⟨z, rfl, hz, F, b, _, rfl, hB, hf, by rw [zl]; omega, sz_len (by rw [zl]; exact hl), fun H' i s1 B1 h1 h2 => ?_⟩⟩
      rw [zl] at h2
      have lt : i.toNat < z.cps.toList.length := by rw [Array.length_toList]; omega
      refine .inr (.inr ⟨z, i, z.cps.toList[i.toNat]'lt, rfl, rfl, hz, atI_int h1 (by rw [Array.length_toList]; exact h2) (List.getElem?_eq_getElem _), ?_⟩)
      have := fin H' i h1 (by rw [xl]; exact h2) s1 B1
      rw [List.getElem_map] at this
      exact this
def sp__law_one_in (K : PySem.W.Frag) : Sp := fun vs H Q _ => ∃ (F : Hp) (b : Addr) (many : Int), vs = [.ref b, .int many] ∧ Bag K b F H ∧ Same F H ∧ 0 < many ∧ Sz 8000 many ∧
  ∀ H' (c : Bool), Sb b F H F H' → Bag K b F H' → Q (.bl c) H'
theorem c__law_one_in (T : Txt K mg a) : Cl P w K mg base 2 "_law_one_in" P__law_one_in (sp__law_one_in K) [] :=
  T.d__law_one_in.cl sc__law_one_in (fun vs H Q E h => by obtain ⟨F, b, u, rfl, _⟩ := h; rfl) fun f cdv A outer s H vs Q E hr h => by
    obtain ⟨F, b, many, rfl, hB, hf, h0, hz, k⟩ := h
    refine ⟨_, ((pss_one (ps_ret (pe_cmpR op_eq (pe_f (c__law_pick T) (takes_of rfl rfl rfl rfl) hr (by decide) rfl (pa_cons (pv 0) (pa_cons (pv 1) pa_nil))) pe_int (nomark _))))), ?_⟩
    exact ⟨_, rfl, _, rfl, F, b, _, rfl, hB, hf, h0, hz, fun H' i s1 B1 h1 h2 => ⟨rfl, k H' _ s1 B1⟩⟩
def sp_int : Sp := fun vs H Q _ => ∃ i : Int, vs = [.int i] ∧ Q (.bl true) H
theorem c__law_integer (T : Txt K mg a) : Cl P w K mg base 1 "_law_integer" P__law_integer sp_int [] :=
  T.d__law_integer.cl sc__law_integer (fun vs H Q E h => by obtain ⟨i, rfl, _⟩ := h; rfl) fun f cdv A outer s H vs Q E hr h => by
    obtain ⟨i, rfl, k⟩ := h
    refine ⟨_, ((pss_one (ps_ret (pe_and (pe_callB call_isi (by rfl) T.n_isinstance (by decide +kernel) (pa_cons (pv 0) (pa_cons (pe_bltn (v := .ty "int") (by rfl) T.n_int (by decide +kernel) rfl) pa_nil))) (pe_one (pe_not (pe_callB call_isi (by rfl) T.n_isinstance (by decide +kernel) (pa_cons (pv 0) (pa_cons (pe_bltn (v := .ty "bool") (by rfl) T.n_bool (by decide +kernel) rfl) pa_nil))))))))), ?_⟩
    refine ⟨_, rfl, _, _, _, _, true, rfl, .ty _, .base (.int _), kit_ty (by decide +kernel), true, rfl, iteT ?_⟩
    exact ⟨_, rfl, _, _, _, _, false, rfl, .ty _, .base (.int _), kit_ty (by decide +kernel), false, rfl, k⟩
def mu3 (σ : L2.St) : Nat := match σ[3]? with | some (some (V.int y)) => y.toNat | _ => 0
def sp__law_gcd : Sp := fun vs H Q _ => ∃ n d : Int, vs = [.int n, .int d] ∧ Q (.int (Nat.gcd n.natAbs d.natAbs : Nat)) H
theorem c__law_gcd (T : Txt K mg a) : Cl P w K mg base 1 "_law_gcd" P__law_gcd sp__law_gcd [] :=
  T.d__law_gcd.cl sc__law_gcd (fun vs H Q E h => by obtain ⟨n, d, rfl, _⟩ := h; rfl) fun f cdv A outer s H vs Q E hr h => by
    obtain ⟨n, d, rfl, k⟩ := h
    refine ⟨_, ((pss_cons (ps_set (i := 2) sc__law_gcd.nd rfl (Or.inl rfl) (pe_callB call_abs (by rfl) T.n_abs (by decide +kernel) (pa_cons (pv 0) pa_nil)))
 (pss_cons (ps_set (i := 3) sc__law_gcd.nd rfl (Or.inl rfl) (pe_callB call_abs (by rfl) T.n_abs (by decide +kernel) (pa_cons (pv 1) pa_nil)))
 (pss_cons (ps_while (passes_of rfl) (pt_cmpR op_gt (pv 3) pe_int (nomark _))
 (pss_cons (ps_set (i := 4) sc__law_gcd.nd rfl (Or.inl rfl) (pe_op op_mod (pe_callTy call_int1 (by rfl) T.n_int (by decide +kernel) (pa_cons (pv 2) pa_nil)) (pv 3)))
 (pss_cons (ps_set (i := 2) sc__law_gcd.nd rfl (Or.inl rfl) (pv 3))
 (pss_one (ps_set (i := 3) sc__law_gcd.nd rfl (Or.inl rfl) (pv 4))))))
 (pss_one (ps_ret (pv 2))))))), ?_⟩
    have ab : ∀ i : Int, (if i < 0 then -i else i) = (i.natAbs : Int) := fun i => by split <;> omega
    refine ⟨_, rfl, _, rfl, ?_⟩
    rw [ab]
    refine ⟨_, rfl, _, rfl, ?_⟩
    rw [ab]
    refine while_by (fun σ' H' => H' = H ∧ ∃ (x y : Nat) (r : Option V), σ' = [some (.int n), some (.int d), some (.int x), some (.int y), r] ∧ Nat.gcd x y = Nat.gcd n.natAbs d.natAbs)
      (fun σ' _ => mu3 σ') ⟨rfl, _, _, none, rfl, rfl⟩ ?_ ?_
    · rintro _ _ ⟨rfl, x, y, r, rfl, hg⟩
      refine ⟨_, rfl, _, _, rfl, rfl, _, rfl, ?_⟩
      refine ite2 (fun e => ?_) (fun e => ?_)
      · have hy : 0 < y := by have := of_decide_eq_true e; omega
        refine ⟨_, rfl, .inl ⟨_, rfl, _, rfl, _, _, rfl, rfl, (by omega : (0 : Int) < y), ?_⟩⟩
        refine ⟨_, rfl, ?_⟩
        refine ⟨_, rfl, ⟨rfl, y, x % y, some (.int ((x % y : Nat) : Int)), by rw [Int.natCast_emod]; rfl, ?_⟩, ?_⟩
        · rw [← hg, Nat.gcd_comm y, Nat.gcd_comm x y]
          exact (Nat.gcd_rec y x).symm
        · show ((x : Int) % (y : Int)).toNat < ((y : Int)).toNat
          have := Nat.mod_lt x hy
          rw [← Int.natCast_emod]
          omega
      · have hy : y = 0 := by
          rcases Nat.eq_zero_or_pos y with h | h
          · exact h
          · exact absurd (decide_eq_true (by omega)) e
        subst hy
        rw [Nat.gcd_zero_right] at hg
        exact ⟨_, rfl, by rw [hg]; exact k⟩
    · rintro σ' H' Q1 Q2 q h
      obtain ⟨v, e1, i, j, e2, e3, c, e4, q'⟩ := h
      exact ⟨v, e1, i, j, e2, e3, c, e4, q _ _ q'⟩
def sp_rat (K : PySem.W.Frag) : Sp := sp_ratio K
theorem com_pos {n d : Int} (h : 0 < d) : com n d = ((Nat.gcd n.natAbs d.natAbs : Nat) : Int) := by unfold com; rw [if_neg (by omega)]
theorem com_neg {n d : Int} (h0 : d ≠ 0) (h : ¬ 0 < d) : com n d = 0 - ((Nat.gcd n.natAbs d.natAbs : Nat) : Int) := by unfold com; rw [if_pos (by omega)]; omega
theorem c__law_ratio (T : Txt K mg a) : Cl P w K mg base 2 "_law_ratio" P__law_ratio (sp_ratio K) [] :=
  T.d__law_ratio.cl sc__law_ratio (fun vs H Q E h => by obtain ⟨F, n, d, rfl, _⟩ := h; rfl) fun f cdv A outer s H vs Q E hr h => by
    obtain ⟨F, n, d, rfl, h0, hz, hf, k⟩ := h
    refine ⟨_, ((pss_cons (ps_set (i := 2) sc__law_ratio.nd rfl (Or.inl rfl) (pe_ifExp (pt_cmpR op_gt (pv 1) pe_int (nomark _)) (pe_f (c__law_gcd T) (takes_of rfl rfl rfl rfl) hr (by decide) rfl (pa_cons (pv 0) (pa_cons (pv 1) pa_nil))) (pe_op op_sub pe_int (pe_f (c__law_gcd T) (takes_of rfl rfl rfl rfl) hr (by decide) rfl (pa_cons (pv 0) (pa_cons (pv 1) pa_nil))))))
 (pss_one (ps_ret (pe_tup (pa_cons (pe_op op_fdivX (pv 0) (pv 2)) (pa_cons (pe_op op_fdivX (pv 1) (pv 2)) pa_nil))))))), ?_⟩
    have cd : ∀ i : Int, CDivX i (com n d) := fun i => ⟨com_ne h0, (com_sz h0 hz).log (by decide) (by decide)⟩
    have fin : ∀ c : Int, c = com n d → (tRet (tTup (tCons (tOp (rI CDivX fun i j => .int (i.fdiv j)) (tVar 0) (tVar 2)) (tCons (tOp (rI CDivX fun i j => .int (i.fdiv j)) (tVar 1) (tVar 2)) tNil)))) { nx := fun _ H' => Q .non H', rt := Q } [some (.int n), some (.int d), some (.int c)] H := by
      rintro c rfl
      refine ⟨_, rfl, _, rfl, _, _, rfl, rfl, cd _, _, rfl, _, rfl, _, _, rfl, rfl, cd _, by show 2 ≤ sizeLine; decide, fun p hp => ?_⟩
      exact k _ _ _ (stp_new hf hp) ⟨p, rfl, sq_new⟩
    refine ⟨_, rfl, _, _, rfl, rfl, _, rfl, ?_⟩
    refine ite2 (fun e => ?_) (fun e => ?_)
    · exact ⟨_, rfl, _, rfl, _, _, rfl, fin _ (com_pos (of_decide_eq_true e)).symm⟩
    · exact ⟨_, rfl, _, rfl, _, _, rfl, _, _, rfl, rfl, fin _ (com_neg h0 fun z => e (decide_eq_true z)).symm⟩
theorem c__law_plus (T : Txt K mg a) : Cl P w K mg base 3 "_law_plus" P__law_plus (sp_two K rPlus) [] :=
  T.d__law_plus.cl sc__law_plus (fun vs H Q E h => by obtain ⟨F, u, v, r, q, rfl, _⟩ := h; rfl) fun f cdv A outer s H vs Q E hr h => by
    obtain ⟨F, u, v, r, q, rfl, ⟨p1, rfl, h1⟩, ⟨p2, rfl, h2⟩, z1, z2, z3, z4, n1, n2, hf, k⟩ := h
    refine ⟨_, ((pss_one (ps_ret (pe_f (c__law_ratio T) (takes_of rfl rfl rfl rfl) hr (by decide) rfl (pa_cons (pe_op op_add (pe_op op_mulW (pe_ix ix_tup (pv 0) pe_int (fun _ _ => rfl)) (pe_ix ix_tup (pv 1) pe_int (fun _ _ => rfl))) (pe_op op_mulW (pe_ix ix_tup (pv 1) pe_int (fun _ _ => rfl)) (pe_ix ix_tup (pv 0) pe_int (fun _ _ => rfl)))) (pa_cons (pe_op op_mulW (pe_ix ix_tup (pv 0) pe_int (fun _ _ => rfl)) (pe_ix ix_tup (pv 1) pe_int (fun _ _ => rfl))) pa_nil)))))), ?_⟩
    refine ⟨_, rfl, p1, _, _, _, rfl, rfl, upT hf h1, at0, _, rfl, p2, _, _, _, rfl, rfl, upT hf h2, at1, _, _, rfl, rfl, mulw z1 z4, ?_⟩
    refine ⟨_, rfl, p2, _, _, _, rfl, rfl, upT hf h2, at0, _, rfl, p1, _, _, _, rfl, rfl, upT hf h1, at1, _, _, rfl, rfl, mulw z3 z2, _, _, rfl, rfl, ?_⟩
    refine ⟨_, rfl, p1, _, _, _, rfl, rfl, upT hf h1, at1, _, rfl, p2, _, _, _, rfl, rfl, upT hf h2, at1, _, _, rfl, rfl, mulw z2 z4, ?_⟩
    exact ⟨F, _, _, rfl, Int.mul_ne_zero n1 n2, (z2.mul z4).mono (by decide), hf, k⟩
theorem c__law_minus (T : Txt K mg a) : Cl P w K mg base 3 "_law_minus" P__law_minus (sp_two K rMinus) [] :=
  T.d__law_minus.cl sc__law_minus (fun vs H Q E h => by obtain ⟨F, u, v, r, q, rfl, _⟩ := h; rfl) fun f cdv A outer s H vs Q E hr h => by
    obtain ⟨F, u, v, r, q, rfl, ⟨p1, rfl, h1⟩, ⟨p2, rfl, h2⟩, z1, z2, z3, z4, n1, n2, hf, k⟩ := h
    refine ⟨_, ((pss_one (ps_ret (pe_f (c__law_ratio T) (takes_of rfl rfl rfl rfl) hr (by decide) rfl (pa_cons (pe_op op_sub (pe_op op_mulW (pe_ix ix_tup (pv 0) pe_int (fun _ _ => rfl)) (pe_ix ix_tup (pv 1) pe_int (fun _ _ => rfl))) (pe_op op_mulW (pe_ix ix_tup (pv 1) pe_int (fun _ _ => rfl)) (pe_ix ix_tup (pv 0) pe_int (fun _ _ => rfl)))) (pa_cons (pe_op op_mulW (pe_ix ix_tup (pv 0) pe_int (fun _ _ => rfl)) (pe_ix ix_tup (pv 1) pe_int (fun _ _ => rfl))) pa_nil)))))), ?_⟩
    refine ⟨_, rfl, p1, _, _, _, rfl, rfl, upT hf h1, at0, _, rfl, p2, _, _, _, rfl, rfl, upT hf h2, at1, _, _, rfl, rfl, mulw z1 z4, ?_⟩
    refine ⟨_, rfl, p2, _, _, _, rfl, rfl, upT hf h2, at0, _, rfl, p1, _, _, _, rfl, rfl, upT hf h1, at1, _, _, rfl, rfl, mulw z3 z2, _, _, rfl, rfl, ?_⟩
    refine ⟨_, rfl, p1, _, _, _, rfl, rfl, upT hf h1, at1, _, rfl, p2, _, _, _, rfl, rfl, upT hf h2, at1, _, _, rfl, rfl, mulw z2 z4, ?_⟩
    exact ⟨F, _, _, rfl, Int.mul_ne_zero n1 n2, (z2.mul z4).mono (by decide), hf, k⟩
theorem c__law_times (T : Txt K mg a) : Cl P w K mg base 3 "_law_times" P__law_times (sp_two K rTimes) [] :=
  T.d__law_times.cl sc__law_times (fun vs H Q E h => by obtain ⟨F, u, v, r, q, rfl, _⟩ := h; rfl) fun f cdv A outer s H vs Q E hr h => by
    obtain ⟨F, u, v, r, q, rfl, ⟨p1, rfl, h1⟩, ⟨p2, rfl, h2⟩, z1, z2, z3, z4, n1, n2, hf, k⟩ := h
    refine ⟨_, ((pss_one (ps_ret (pe_f (c__law_ratio T) (takes_of rfl rfl rfl rfl) hr (by decide) rfl (pa_cons (pe_op op_mulW (pe_ix ix_tup (pv 0) pe_int (fun _ _ => rfl)) (pe_ix ix_tup (pv 1) pe_int (fun _ _ => rfl))) (pa_cons (pe_op op_mulW (pe_ix ix_tup (pv 0) pe_int (fun _ _ => rfl)) (pe_ix ix_tup (pv 1) pe_int (fun _ _ => rfl))) pa_nil)))))), ?_⟩
    refine ⟨_, rfl, p1, _, _, _, rfl, rfl, upT hf h1, at0, _, rfl, p2, _, _, _, rfl, rfl, upT hf h2, at0, _, _, rfl, rfl, mulw z1 z3, ?_⟩
    refine ⟨_, rfl, p1, _, _, _, rfl, rfl, upT hf h1, at1, _, rfl, p2, _, _, _, rfl, rfl, upT hf h2, at1, _, _, rfl, rfl, mulw z2 z4, ?_⟩
    exact ⟨F, _, _, rfl, Int.mul_ne_zero n1 n2, (z2.mul z4).mono (by decide), hf, k⟩
def sp_ov (K : PySem.W.Frag) : Sp := fun vs H Q _ => ∃ (F : Hp) (u v : V) (r q : Int × Int), vs = [u, v] ∧ Rt K F u r ∧ Rt K F v q ∧ Sz 2000 r.1 ∧ Sz 2000 r.2 ∧ Sz 2000 q.1 ∧ Sz 2000 q.2 ∧ r.2 ≠ 0 ∧ q.2 ≠ 0 ∧ q.1 ≠ 0 ∧ Pu F H Q fun F' z => Rt K F' z (rOver r q)
theorem c__law_over (T : Txt K mg a) : Cl P w K mg base 3 "_law_over" P__law_over (sp_ov K) [] :=
  T.d__law_over.cl sc__law_over (fun vs H Q E h => by obtain ⟨F, u, v, r, q, rfl, _⟩ := h; rfl) fun f cdv A outer s H vs Q E hr h => by
    obtain ⟨F, u, v, r, q, rfl, ⟨p1, rfl, h1⟩, ⟨p2, rfl, h2⟩, z1, z2, z3, z4, n1, n2, n3, hf, k⟩ := h
    refine ⟨_, ((pss_one (ps_ret (pe_f (c__law_ratio T) (takes_of rfl rfl rfl rfl) hr (by decide) rfl (pa_cons (pe_op op_mulW (pe_ix ix_tup (pv 0) pe_int (fun _ _ => rfl)) (pe_ix ix_tup (pv 1) pe_int (fun _ _ => rfl))) (pa_cons (pe_op op_mulW (pe_ix ix_tup (pv 0) pe_int (fun _ _ => rfl)) (pe_ix ix_tup (pv 1) pe_int (fun _ _ => rfl))) pa_nil)))))), ?_⟩
    refine ⟨_, rfl, p1, _, _, _, rfl, rfl, upT hf h1, at0, _, rfl, p2, _, _, _, rfl, rfl, upT hf h2, at1, _, _, rfl, rfl, mulw z1 z4, ?_⟩
    refine ⟨_, rfl, p1, _, _, _, rfl, rfl, upT hf h1, at1, _, rfl, p2, _, _, _, rfl, rfl, upT hf h2, at0, _, _, rfl, rfl, mulw z2 z3, ?_⟩
    exact ⟨F, _, _, rfl, Int.mul_ne_zero n1 n3, (z2.mul z3).mono (by decide), hf, k⟩
end
end K01

set_option Elab.async false
set_option linter.all false
set_option maxRecDepth 100000
set_option maxHeartbeats 4000000
namespace K01
open PySem PySem.Spec PyProof.Rows L2 Ew
open SX (S)
/-! ### figures -/
def isFig (c : Nat) : Bool := decide (48 ≤ c) && decide (c ≤ 57)
theorem fig_mem (c : Nat) : decide (c ∈ [48, 49, 50, 51, 52, 53, 54, 55, 56, 57]) = isFig c := by
  unfold isFig
  by_cases h : c ∈ [48, 49, 50, 51, 52, 53, 54, 55, 56, 57]
  · rw [decide_eq_true h]
    simp at h
    rw [decide_eq_true (by omega : 48 ≤ c), decide_eq_true (by omega : c ≤ 57)]
    rfl
  · rw [decide_eq_false h]
    simp at h
    by_cases h1 : 48 ≤ c
    · rw [decide_eq_true h1, decide_eq_false (by omega : ¬ c ≤ 57)]
      rfl
    · rw [decide_eq_false h1]
      rfl
theorem fig_in (c : Nat) : (!(Builtin.Str.occurrences ("0123456789" : Str) ⟨#[c]⟩ 0 ("0123456789" : Str).length 1).isEmpty) = isFig c := by
  have e : ("0123456789" : Str) = S [48, 49, 50, 51, 52, 53, 54, 55, 56, 57] := by decide +kernel
  rw [e]
  exact (SX.in_one _ c).trans (fig_mem c)
def isDig (L : List Nat) : Bool := decide (1 ≤ L.length) && (decide (L.length ≤ 400) && (!decide (L.head? = some 48) && L.all isFig))
theorem S_at {L : List Nat} {i : Nat} {c : Nat} (h : L[i]? = some c) : atI (S L).cps.toList (i : Int) = some c := atI_nat h
section
variable {P : Program} {w : World} {K : PySem.W.Frag} {mg : Str → Option Value} {base : Heap} {a : Ad}
def sp__is_digits : Sp := fun vs H Q _ => ∃ (F : Hp) (L : List Nat), vs = [.str (S L), .int 400] ∧ L.length ≤ 100000 ∧ Pu F H Q fun _ v => v = .bl (isDig L)
theorem c__is_digits (T : Txt K mg a) : Cl P w K mg base 1 "_is_digits" P__is_digits sp__is_digits [] :=
  T.d__is_digits.cl sc__is_digits (fun vs H Q E h => by obtain ⟨F, L, rfl, _⟩ := h; rfl) fun f cdv A outer s H vs Q E hr h => by
    obtain ⟨F, L, rfl, hl, hf, k⟩ := h
    have sl : (S L).length = L.length := SX.S_len L
    refine ⟨_, ((pss_cons (ps_if (PW.pt (pw_or (pt_not (pt_chain op_le op_le pe_int (pe_callB call_len_str (by rfl) T.n_len (by decide +kernel) (pa_cons (pv 0) pa_nil)) (pv 1))) (pw_or1 (pt_cmpR op_eq (pe_ix ix_str (pv 0) pe_int (fun _ _ => rfl)) pe_str (nomark _)))))
 (pss_one (ps_ret pe_bl))
 pss_nil)
 (pss_one (ps_ret (pe_callB (cr_all rfl) (by rfl) T.n_all (by decide +kernel) (pa_cons (pe_lc (own := [("sign", 2)]) (g := (gName 2)) (by rfl) sc__is_digits.nd (pi_str (pv 0)) (blkOk_by (own := [("sign", 2)]) (N := N__is_digits) (sc := defScope s__is_digits) (by decide +kernel)) (fun _ _ _ _ _ => (pg_name (i := 2) sc__is_digits.nd rfl (Or.inl rfl) (hf := .inr rfl))) (fun _ _ _ _ _ => pts_nil) (fun _ _ _ _ _ => (pe_cmpR op_in_str (pv 2) (pe_glob (by rfl) T.k_DIGITS ⟨_, rfl⟩ (v := .str "0123456789")) (by rfl)))) pa_nil)))))), ?_⟩
    refine ⟨_, rfl, S L, rfl, by rw [sl, sizeLine_eq]; omega, _, _, rfl, rfl, _, rfl, ?_⟩
    rw [sl]
    by_cases h1 : 1 ≤ L.length
    · refine iteY (decide_eq_true (by omega)) ⟨_, rfl, _, _, rfl, rfl, _, rfl, ?_⟩
      by_cases h2 : L.length ≤ 400
      · rw [decide_eq_true (by omega : (L.length : Int) ≤ 400)]
        refine iteF ?_
        obtain ⟨c, r, rfl⟩ : ∃ c r, L = c :: r := by
          cases L with
          | nil => simp at h1
          | cons c r => exact ⟨c, r, rfl⟩
        refine ⟨_, rfl, S (c :: r), _, c, rfl, rfl, by rw [sl, sizeLine_eq]; omega, S_at (i := 0) rfl, rfl, _, rfl, ?_⟩
        have e0 : decide (V.str ⟨#[c]⟩ = V.str ("0" : Str)) = decide ((c :: r).head? = some 48) := by
          have e : ("0" : Str) = ⟨#[48]⟩ := by decide +kernel
          rw [e]
          by_cases h : c = 48
          · subst h; simp
          · simp [h]
        rw [e0]
        cases e : decide ((c :: r).head? = some 48) with
        | true =>
          refine iteT (k F H _ (.refl hf) ?_)
          unfold isDig
          rw [e]
          simp
        | false =>
          refine iteF ⟨_, rfl, S (c :: r), rfl, fun D hD => ?_⟩
          refine lcM memP walk_str hf trivial hD (fun i _ y => ∃ d, (c :: r)[i]? = some d ∧ y = V.bl (isFig d)) (fun _ _ _ _ _ z => z) (by show (c :: r).length ≤ _; omega) (fun F' H' e1 e2 => trivial) ?_ ?_
          · rintro i x F' H' H'' Kt Kn hi s1 _ ⟨rfl, d, hd, rfl⟩ kk
            refine ⟨rfl, lc_yes ⟨_, rfl, _, _, rfl, rfl, ?_⟩⟩
            rw [fig_in]
            exact kk _ _ _ (.refl s1.fh) trivial ⟨d, by simpa using hd, rfl⟩
          · intro F' H' ys s1 _ hD' hy hr'
            have hy : ys.length = (c :: r).length := hy
            obtain rfl := map_of hy hr'
            refine ⟨D, (c :: r).map isFig, rfl, SqL.of (by rw [List.map_map]; exact s1.fh D _ hD'), ?_⟩
            refine k _ _ _ s1 ?_
            unfold isDig
            rw [e, List.all_map, decide_eq_true h1, decide_eq_true h2]
            rfl
      · rw [decide_eq_false (by omega : ¬ (L.length : Int) ≤ 400)]
        refine iteT (k F H _ (.refl hf) ?_)
        unfold isDig
        rw [decide_eq_false h2]
        simp
    · refine iteN (by rw [decide_eq_false (by omega)]; exact fun z => nomatch z) ⟨_, rfl, ?_⟩
      refine iteT (k F H _ (.refl hf) ?_)
      unfold isDig
      rw [decide_eq_false h1]
      rfl
end
end K01

set_option Elab.async false
set_option linter.all false
set_option maxRecDepth 100000
set_option maxHeartbeats 4000000
namespace K01
open PySem PySem.Spec PyProof.Rows L2 Ew
open SX (S)
theorem S_dec (L M : List Nat) : decide (V.str (S L) = V.str (S M)) = decide (L = M) := by
  by_cases h : L = M
  · subst h; simp
  · rw [decide_eq_false h, decide_eq_false]
    intro z
    exact h (SX.S_inj (V.str.inj z))
def dropNeg : List Nat → List Nat
  | 45 :: r => r
  | l => l
theorem rmp (L : List Nat) : Txt.removeprefix (S L) "-" = S (dropNeg L) := by
  have e : ("-" : Str) = S [45] := by decide +kernel
  rw [e, StrLaws.removeprefix_eq, StrLaws.subAt_eq, SX.S_len, SX.S_len]
  cases L with
  | nil => rfl
  | cons c r =>
    have t : ((S (c :: r)).cps.toList.drop 0).take [45].length = [c] := rfl
    have u : (S [45]).cps.toList = [45] := rfl
    rw [t, u]
    by_cases h : c = 45
    · subst h
      rw [if_pos (by simp)]
      show S (((45 :: r).drop 1).take ((45 :: r).length - 1)) = S r
      simp
    · rw [if_neg (by simp [h])]
      have : dropNeg (c :: r) = c :: r := by
        unfold dropNeg
        split
        · rename_i h2; injection h2 with h3 _; exact absurd h3 h
        · rfl
      rw [this]
def isDv (L : List Nat) : Bool := isDig L && !decide (L = [49])
def isWh (L : List Nat) : Bool := decide (L = [48]) || isDig (dropNeg L)
section
variable {P : Program} {w : World} {K : PySem.W.Frag} {mg : Str → Option Value} {base : Heap} {a : Ad}
theorem c__is_divisor (T : Txt K mg a) : Cl P w K mg base 2 "_is_divisor" P__is_divisor (fun vs H Q _ => ∃ (F : Hp) (L : List Nat), vs = [.str (S L)] ∧ L.length ≤ 100000 ∧ Pu F H Q fun _ v => v = .bl (isDv L)) [] :=
  T.d__is_divisor.cl sc__is_divisor (fun vs H Q E h => by obtain ⟨F, L, rfl, _⟩ := h; rfl) fun f cdv A outer s H vs Q E hr h => by
    obtain ⟨F, L, rfl, hl, hf, k⟩ := h
    refine ⟨_, ((pss_one (ps_ret (pe_and (pe_f (c__is_digits T) (takes_of rfl rfl rfl rfl) hr (by decide) rfl (pa_cons (pv 0) (pa_cons (pe_glob (by rfl) T.k_LONGEST ⟨_, rfl⟩ (v := .int 400)) pa_nil))) (pe_one (pe_cmpR op_ne (pv 0) pe_str (nomark _))))))), ?_⟩
    refine ⟨_, rfl, F, L, rfl, hl, hf, fun F1 H1 v s1 e => ⟨_, e, ?_⟩⟩
    unfold isDv at k
    cases d : isDig L with
    | false => exact iteF (k F1 H1 _ s1 (by rw [d]; rfl))
    | true =>
      refine iteT ⟨_, rfl, rfl, ?_⟩
      have e1 : ("1" : Str) = S [49] := by decide +kernel
      rw [e1, S_dec]
      exact k F1 H1 _ s1 (by rw [d]; rfl)
theorem c_is_whole (T : Txt K mg a) : Cl P w K mg base 2 "is_whole" P_is_whole (fun vs H Q _ => ∃ (F : Hp) (L : List Nat), vs = [.str (S L), .int 400] ∧ L.length ≤ 100000 ∧ Pu F H Q fun _ v => v = .bl (isWh L)) [] :=
  T.d_is_whole.cl sc_is_whole (fun vs H Q E h => by obtain ⟨F, L, rfl, _⟩ := h; rfl) fun f cdv A outer s H vs Q E hr h => by
    obtain ⟨F, L, rfl, hl, hf, k⟩ := h
    refine ⟨_, ((pss_cons (ps_if (pt_cmpR op_eq (pv 0) pe_str (nomark _))
 (pss_one (ps_ret pe_bl))
 pss_nil)
 (pss_one (ps_ret (pe_f (c__is_digits T) (takes_of rfl rfl rfl rfl) hr (by decide) rfl (pa_cons (pe_m1 PySem.F.slot_str_removeprefix PySem.F.type_str_removeprefix mt_removeprefix (pv 0) pe_str) (pa_cons (pv 1) pa_nil))))))), ?_⟩
    refine ⟨_, rfl, rfl, _, rfl, ?_⟩
    have e0 : ("0" : Str) = S [48] := by decide +kernel
    rw [e0, S_dec]
    unfold isWh at k
    cases d : decide (L = [48]) with
    | true => exact iteT (k F H _ (.refl hf) (by rw [d]; rfl))
    | false =>
      refine iteF ⟨_, rfl, ⟨_, rfl⟩, _, _, rfl, rfl, by rw [SX.S_len, sizeLine_eq]; omega, ?_⟩
      rw [rmp]
      have dl : (dropNeg L).length ≤ L.length := by
        unfold dropNeg
        split
        · simp
        · exact Nat.le_refl _
      exact ⟨_, rfl, F, dropNeg L, rfl, by omega, hf, fun F1 H1 v s1 e => k F1 H1 v s1 (by rw [e, d]; rfl)⟩
theorem txt_len {i : Int} (h : i.natAbs.log2 < 1920) : (Str.ofString (toString i)).length ≤ 1921 := by
  rw [PySem.ofString_length]
  exact int_text_length_le (k := 1920) (by decide) h
/-! ### a ratio as a text -/
def sp_write_ratio (K : PySem.W.Frag) : Sp := fun vs H Q _ => ∃ (u : V) (r : Int × Int), vs = [u] ∧ Rt K H u r ∧ r.1.natAbs.log2 < 1920 ∧ r.2.natAbs.log2 < 1920 ∧ Q (.str (if r.2 = 1 then Str.ofString (toString r.1) else Str.empty ++ Str.ofString (toString r.1) ++ "/" ++ Str.ofString (toString r.2))) H
theorem c_write_ratio (T : Txt K mg a) : Cl P w K mg base 1 "write_ratio" P_write_ratio (sp_write_ratio K) [] :=
  T.d_write_ratio.cl sc_write_ratio (fun vs H Q E h => by obtain ⟨F, L, rfl, _⟩ := h; rfl) fun f cdv A outer s H vs Q E hr h => by
    obtain ⟨u, r, rfl, ⟨p, rfl, hp⟩, z1, z2, k⟩ := h
    refine ⟨_, ((pss_cons (ps_asg (pv 0) (pg_tup rfl (pgs_cons (pg_name (i := 1) sc_write_ratio.nd rfl (Or.inl rfl)) (pgs_cons (pg_name (i := 2) sc_write_ratio.nd rfl (Or.inl rfl)) pgs_nil))))
 (pss_one (ps_ret (pe_ifExp (pt_cmpR op_eq (pv 2) pe_int (nomark _)) (pe_callTy call_str_int (by rfl) T.n_str (by decide +kernel) (pa_cons (pv 1) pa_nil)) (pe_joined (.cons (pe_fmt (pv 1)) (.cons pe_str (.cons (pe_fmt (pv 2)) .nil))))))))), ?_⟩
    refine ⟨_, rfl, p, _, rfl, hp, rfl, _, _, rfl, _, _, rfl, rfl, ?_⟩
    refine ⟨_, rfl, rfl, _, rfl, ?_⟩
    by_cases h : r.2 = 1
    · rw [if_pos h] at k
      exact iteY (vint_eq h) ⟨_, rfl, _, rfl, z1, k⟩
    · rw [if_neg h] at k
      refine iteN (vint_ne h) ⟨_, rfl, .inr ⟨_, rfl, z1, _, rfl, ?_, _, rfl, ?_, _, rfl, .inr ⟨_, rfl, z2, _, rfl, ?_, k⟩⟩⟩
      · rw [PySem.Str.length_append, sizeLine_eq]; have := txt_len z1; show 0 + _ ≤ _; omega
      · rw [PySem.Str.length_append, PySem.Str.length_append, sizeLine_eq]; have := txt_len z1; show 0 + _ + 1 ≤ _; omega
      · rw [PySem.Str.length_append, PySem.Str.length_append, PySem.Str.length_append, sizeLine_eq]; have := txt_len z1; have := txt_len z2; show 0 + _ + 1 + _ ≤ _; omega
end
end K01

set_option Elab.async false
set_option linter.all false
set_option maxRecDepth 100000
set_option maxHeartbeats 4000000
namespace K01
open PySem PySem.Spec PyProof.Rows L2 Ew
open SX (S)
open NumText (digitsVal AllDigits)
def cut (L : List Nat) : List Nat × Option (List Nat) := match TL.par [47] [] L with | some (p, q) => (p, some q) | none => (L, none)
def wholeVal : List Nat → Int
  | 45 :: r => -((digitsVal r : Nat) : Int)
  | l => ((digitsVal l : Nat) : Int)
/-- what a text of a ratio is worth -/
def rdVal (L : List Nat) : Option (Int × Int) :=
  if isWh (cut L).1 = true then
    match (cut L).2 with
    | none => some (wholeVal (cut L).1, 1)
    | some v => if (isDv v && (decide (1 ≤ ((digitsVal v : Nat) : Int)) && decide (Nat.gcd (wholeVal (cut L).1).natAbs ((digitsVal v : Nat) : Int).natAbs = 1))) = true then some (wholeVal (cut L).1, ((digitsVal v : Nat) : Int)) else none
  else none
theorem dig_parts {L : List Nat} (h : isDig L = true) : 1 ≤ L.length ∧ L.length ≤ 400 ∧ L.head? ≠ some 48 ∧ AllDigits L := by
  unfold isDig at h
  rw [Bool.and_eq_true, Bool.and_eq_true, Bool.and_eq_true] at h
  obtain ⟨h1, h2, h3, h4⟩ := h
  refine ⟨of_decide_eq_true h1, of_decide_eq_true h2, ?_, fun c hc => ?_⟩
  · intro z
    rw [decide_eq_true z] at h3
    cases h3
  · have := List.all_eq_true.mp h4 c hc
    unfold isFig at this
    rw [Bool.and_eq_true] at this
    exact ⟨of_decide_eq_true this.1, of_decide_eq_true this.2⟩
theorem dig_all {L : List Nat} (h : AllDigits L) : L.all (fun c => decide (48 ≤ c) && decide (c ≤ 57)) = true := by
  rw [List.all_eq_true]
  intro c hc
  have := h c hc
  rw [decide_eq_true this.1, decide_eq_true this.2]
  rfl
theorem int_dig {L : List Nat} (h : isDig L = true) : intText? (S L) = some ((digitsVal L : Nat) : Int) := by
  obtain ⟨h1, h2, h3, h4⟩ := dig_parts h
  exact SX.int_S (dig_all h4) (fun z => by rw [z] at h1; simp at h1) (by omega)
theorem wh_len {L : List Nat} (h : isWh L = true) : L.length ≤ 401 := by
  unfold isWh at h
  rw [Bool.or_eq_true] at h
  rcases h with h | h
  · rw [of_decide_eq_true h]; decide
  · obtain ⟨h1, h2, _⟩ := dig_parts h
    unfold dropNeg at h2
    split at h2
    · rw [List.length_cons]; omega
    · omega
theorem int_wh {L : List Nat} (h : isWh L = true) : intText? (S L) = some (wholeVal L) := by
  have hl := wh_len h
  unfold isWh at h
  rw [Bool.or_eq_true] at h
  rcases h with h | h
  · rw [of_decide_eq_true h]
    exact SX.int_S (by decide) (by decide) (by decide)
  · unfold dropNeg at h
    split at h
    · rename_i r
      obtain ⟨h1, h2, h3, h4⟩ := dig_parts h
      exact PySem.intText_neg (x := S (45 :: r)) rfl h4 (fun z => by rw [z] at h1; simp at h1) (by rw [SX.S_len]; omega)
    · rename_i hne
      rw [int_dig h]
      unfold wholeVal
      split
      · rename_i r
        exact absurd rfl (hne r)
      · rfl
theorem slash_cases : ∀ L : List Nat, 47 ∉ L ∨ ∃ u q, L = u ++ ([47] ++ q) ∧ 47 ∉ u
  | [] => .inl (by simp)
  | c :: L => by
    by_cases h : c = 47
    · subst h
      exact .inr ⟨[], L, rfl, by simp⟩
    · rcases slash_cases L with k | ⟨u, q, k, n⟩
      · exact .inl (by simp; exact ⟨fun z => h z.symm, k⟩)
      · exact .inr ⟨c :: u, q, by rw [k]; rfl, by simp; exact ⟨fun z => h z.symm, n⟩⟩
theorem cut_no {L : List Nat} (h : 47 ∉ L) : cut L = (L, none) := by
  unfold cut
  rw [SX.par_head_none h]
theorem cut_yes {u q : List Nat} (h : 47 ∉ u) : cut (u ++ ([47] ++ q)) = (u, some q) := by
  unfold cut
  rw [SX.par_head q h]
theorem par_len {L u q : List Nat} (h : TL.par [47] [] L = some (u, q)) : L.length = u.length + (1 + q.length) := by
  rcases slash_cases L with k | ⟨u', q', rfl, n⟩
  · rw [SX.par_head_none k] at h
    cases h
  · rw [SX.par_head q' n] at h
    cases h
    simp
    omega
section
variable {P : Program} {w : World} {K : PySem.W.Frag} {mg : Str → Option Value} {base : Heap} {a : Ad}
def sp_read_ratio (K : PySem.W.Frag) (a : Ad) : Sp := fun vs H Q E => ∃ (F : Hp) (v : V), vs = [v] ∧ Same F H ∧
  ((∃ L, v = .str (S L) ∧ L.length ≤ 100000 ∧ (∀ r, rdVal L = some r → ∀ F' H' z, Stp F H F' H' → Rt K F' z r → Q z H') ∧ (rdVal L = none → Ra F H E a.BadRatio fun F' d => F' d = some (.xd [("text", v)]))) ∨
   ∃ t, TyX K H v t ∧ PySem.W.kitOne K t (.type "str") = some false ∧ Ra F H E a.BadRatio fun F' d => F' d = some (.xd [("text", v)]))
theorem c_read_ratio (T : Txt K mg a) : Cl P w K mg base 3 "read_ratio" P_read_ratio (sp_read_ratio K a) [] :=
  T.d_read_ratio.cl sc_read_ratio (fun vs H Q E h => by obtain ⟨F, v, rfl, _⟩ := h; rfl) fun f cdv A outer s H vs Q E hr h => by
    obtain ⟨F, v, rfl, hf, h⟩ := h
    refine ⟨_, ((pss_cons (ps_if (pt_not (pt_val (pe_callB call_isi (by rfl) T.n_isinstance (by decide +kernel) (pa_cons (pv 0) (pa_cons (pe_bltn (v := .ty "str") (by rfl) T.n_str (by decide +kernel) rfl) pa_nil)))))
 (pss_one (ps_raise1 rfl (takes_of rfl rfl rfl rfl) (x_BadRatio T) hr (by decide) rfl (pv 0)))
 pss_nil)
 (pss_cons (ps_asg (pe_m1 PySem.F.slot_str_partition PySem.F.type_str_partition mt_partition (pv 0) pe_str) (pg_tup rfl (pgs_cons (pg_name (i := 1) sc_read_ratio.nd rfl (Or.inl rfl)) (pgs_cons (pg_name (i := 2) sc_read_ratio.nd rfl (Or.inl rfl)) (pgs_cons (pg_name (i := 3) sc_read_ratio.nd rfl (Or.inl rfl)) pgs_nil)))))
 (pss_cons (ps_if (PW.pt (pw_or (pt_not (pt_val (pe_f (c_is_whole T) (takes_of rfl rfl rfl rfl) hr (by decide) rfl (pa_cons (pv 1) (pa_cons (pe_glob (by rfl) T.k_LONGEST ⟨_, rfl⟩ (v := .int 400)) pa_nil))))) (pw_or1 (PW.pt (pw_and (pt_cmpR op_ne (pv 2) pe_str (nomark _)) (pw_and1 (pt_not (pt_val (pe_f (c__is_divisor T) (takes_of rfl rfl rfl rfl) hr (by decide) rfl (pa_cons (pv 3) pa_nil))))))))))
 (pss_one (ps_raise1 rfl (takes_of rfl rfl rfl rfl) (x_BadRatio T) hr (by decide) rfl (pv 0)))
 pss_nil)
 (pss_cons (ps_set (i := 4) sc_read_ratio.nd rfl (Or.inl rfl) (pe_tup (pa_cons (pe_callTy call_int_str (by rfl) T.n_int (by decide +kernel) (pa_cons (pv 1) pa_nil)) (pa_cons (pe_ifExp (pt_cmpR op_ne (pv 2) pe_str (nomark _)) (pe_callTy call_int_str (by rfl) T.n_int (by decide +kernel) (pa_cons (pv 3) pa_nil)) pe_int) pa_nil))))
 (pss_cons (ps_if (pt_not (pt_val (pe_f (c_is_ratio T) (takes_of rfl rfl rfl rfl) hr (by decide) rfl (pa_cons (pv 4) pa_nil))))
 (pss_one (ps_raise1 rfl (takes_of rfl rfl rfl rfl) (x_BadRatio T) hr (by decide) rfl (pv 0)))
 pss_nil)
 (pss_one (ps_ret (pv 4))))))))), ?_⟩
    rcases h with ⟨L, rfl, hl, k, kn⟩ | ⟨t, ht, hk, kn⟩
    · refine ⟨_, rfl, _, _, _, _, true, rfl, .ty _, .base (.str _), kit_ty (by decide +kernel), true, rfl, iteF ?_⟩
      refine ⟨_, rfl, ⟨_, rfl⟩, _, _, rfl, rfl, by decide +kernel, by rw [SX.S_len, sizeLine_eq]; omega, fun p hp => ?_⟩
      have e47 : ("/" : Str) = S [47] := by decide +kernel
      rcases hpar : TL.par [47] [] L with _ | ⟨u, q⟩
      · have hcut : cut L = (L, none) := by unfold cut; rw [hpar]
        have hpt : Txt.partition (S L) "/" = (S L, S [], S []) := by rw [e47]; exact SX.partition_none (by decide) hpar
        rw [hpt]
        have s1 := stp_new (o := .tup [.str (S L), .str (S []), .str (S [])]) hf hp
        refine ⟨p, _, rfl, sq_new, rfl, _, _, rfl, _, _, rfl, _, _, rfl, rfl, ?_⟩
        refine ⟨_, rfl, _, L, rfl, hl, s1.fh, fun F2 H2 v2 s2 e2 => ⟨_, e2, ?_⟩⟩
        have s2 := s1.transP s2
        unfold rdVal at k kn
        rw [hcut] at k kn
        cases hw : isWh L with
        | false =>
          refine iteT ⟨_, rfl, fun d hd => ?_⟩
          exact kn (by rw [hw]; rfl) _ _ d (s2.newP hd) upd_same
        | true =>
          have hll := wh_len hw
          refine iteF ⟨_, rfl, rfl, _, rfl, iteN (by show ¬ (!decide (V.str (S ([] : List Nat)) = V.str ("" : Str))) = true; decide +kernel) (iteF ?_)⟩
          refine ⟨_, rfl, _, _, rfl, int_wh hw, by rw [SX.S_len]; omega, _, rfl, rfl, _, rfl, iteN (by show ¬ (!decide (V.str (S ([] : List Nat)) = V.str ("" : Str))) = true; decide +kernel) ?_⟩
          refine ⟨by show 2 ≤ sizeLine; decide, fun q hq => ?_⟩
          have s3 := s2.newP (o := .tup [.int (wholeVal L), .int 1]) hq
          refine ⟨_, rfl, _, rfl, .inr (.inr (.inr (.inr ⟨wholeVal L, 1, ⟨q, rfl, sq_new⟩, true, ?_, iteF ?_⟩)))⟩
          · simp
          · exact ⟨_, rfl, k (wholeVal L, 1) (by rw [hw]; rfl) _ _ _ s3 ⟨q, rfl, sq_new⟩⟩
      · have hcut : cut L = (u, some q) := by unfold cut; rw [hpar]
        have hpt : Txt.partition (S L) "/" = (S u, S [47], S q) := by rw [e47]; exact SX.partition_some (by decide) hpar
        rw [hpt]
        have hlen : u.length ≤ 100000 ∧ q.length ≤ 100000 := by have := par_len hpar; omega
        have s1 := stp_new (o := .tup [.str (S u), .str (S [47]), .str (S q)]) hf hp
        refine ⟨p, _, rfl, sq_new, rfl, _, _, rfl, _, _, rfl, _, _, rfl, rfl, ?_⟩
        refine ⟨_, rfl, _, u, rfl, hlen.1, s1.fh, fun F2 H2 v2 s2 e2 => ⟨_, e2, ?_⟩⟩
        have s2 := s1.transP s2
        unfold rdVal at k kn
        rw [hcut] at k kn
        dsimp only at k kn
        cases hw : isWh u with
        | false =>
          refine iteT ⟨_, rfl, fun d hd => ?_⟩
          exact kn (by rw [hw]; rfl) _ _ d (s2.newP hd) upd_same
        | true =>
          have hll := wh_len hw
          rw [hw, if_pos rfl] at k kn
          refine iteF ⟨_, rfl, rfl, _, rfl, iteY (by show (!decide (V.str (S [47]) = V.str ("" : Str))) = true; decide +kernel) ?_⟩
          refine ⟨_, rfl, F2, q, rfl, hlen.2, s2.fh, fun F3 H3 v3 s3 e3 => ⟨_, e3, ?_⟩⟩
          have s3 := s2.transP s3
          cases hv : isDv q with
          | false =>
            refine iteT ⟨_, rfl, fun d hd => ?_⟩
            exact kn (by rw [hv]; rfl) _ _ d (s3.newP hd) upd_same
          | true =>
            have hd : isDig q = true := by unfold isDv at hv; rw [Bool.and_eq_true] at hv; exact hv.1
            obtain ⟨_, d2, _⟩ := dig_parts hd
            rw [hv, Bool.true_and] at k kn
            refine iteF ?_
            refine ⟨_, rfl, _, _, rfl, int_wh hw, by rw [SX.S_len]; omega, _, rfl, rfl, _, rfl, iteY (by show (!decide (V.str (S [47]) = V.str ("" : Str))) = true; decide +kernel) ?_⟩
            refine ⟨_, rfl, _, _, rfl, int_dig hd, by rw [SX.S_len]; omega, by show 2 ≤ sizeLine; decide, fun x hx => ?_⟩
            have s4 := s3.newP (o := .tup [.int (wholeVal u), .int (digitsVal q : Nat)]) hx
            refine ⟨_, rfl, _, rfl, .inr (.inr (.inr (.inr ⟨wholeVal u, ((digitsVal q : Nat) : Int), ⟨x, rfl, sq_new⟩, _, rfl, ?_⟩)))⟩
            cases hc : (decide (1 ≤ ((digitsVal q : Nat) : Int)) && decide (Nat.gcd (wholeVal u).natAbs ((digitsVal q : Nat) : Int).natAbs = 1)) with
            | true =>
              refine iteF ⟨_, rfl, k (wholeVal u, ((digitsVal q : Nat) : Int)) (by rw [hc]; rfl) _ _ _ s4 ⟨x, rfl, sq_new⟩⟩
            | false =>
              refine iteT ⟨_, rfl, fun d hd => ?_⟩
              exact kn (by rw [hc]; rfl) _ _ d (s4.newP hd) upd_same
    · exact ⟨_, rfl, _, _, _, _, false, rfl, .ty _, ht, hk, false, rfl, iteT ⟨_, rfl, fun d hd => kn _ _ d (stp_new hf hd) upd_same⟩⟩
end
end K01

set_option Elab.async false
set_option linter.all false
set_option maxRecDepth 100000
set_option maxHeartbeats 4000000
namespace K01
open PySem PySem.Spec PyProof.Rows L2 Ew
open SX (S)
open NumText (digitsVal AllDigits)
def isFg (L : List Nat) : Bool := decide (L = [48]) || isDig L
theorem fold_ge : ∀ (l : List Nat) (acc : Nat), acc ≤ l.foldl (fun acc c => acc * 10 + (c - 48)) acc
  | [], acc => Nat.le_refl _
  | c :: l, acc => Nat.le_trans (by omega) (fold_ge l (acc * 10 + (c - 48)))
theorem dig_pos {L : List Nat} (h : isDig L = true) : 1 ≤ digitsVal L := by
  obtain ⟨h1, h2, h3, h4⟩ := dig_parts h
  cases L with
  | nil => simp at h1
  | cons c r =>
    have hc := h4 c List.mem_cons_self
    have : c ≠ 48 := fun z => h3 (by rw [z]; rfl)
    unfold digitsVal
    rw [List.foldl_cons]
    exact Nat.le_trans (by omega) (fold_ge r _)
theorem dig_one {L : List Nat} (h : isDig L = true) : digitsVal L = 1 ↔ L = [49] := by
  obtain ⟨h1, h2, h3, h4⟩ := dig_parts h
  cases L with
  | nil => simp at h1
  | cons c r =>
    have hc := h4 c List.mem_cons_self
    have hc2 : c ≠ 48 := fun z => h3 (by rw [z]; rfl)
    cases r with
    | nil =>
      show 0 * 10 + (c - 48) = 1 ↔ _
      constructor
      · intro e; have : c = 49 := by omega
        rw [this]
      · intro e; cases e; rfl
    | cons d r =>
      have : 10 ≤ digitsVal (c :: d :: r) := by
        unfold digitsVal
        rw [List.foldl_cons, List.foldl_cons]
        exact Nat.le_trans (by omega) (fold_ge r _)
      constructor
      · intro e; omega
      · intro e; cases e
theorem fig_notin (c : Nat) : (!(!(Builtin.Str.occurrences ("0123456789" : Str) ⟨#[c]⟩ 0 ("0123456789" : Str).length 1).isEmpty)) = !isFig c := by rw [fig_in]
section
variable {P : Program} {w : World} {K : PySem.W.Frag} {mg : Str → Option Value} {base : Heap} {a : Ad}
theorem c__law_figures (T : Txt K mg a) : Cl P w K mg base 1 "_law_figures" P__law_figures (fun vs H Q _ => ∃ L : List Nat, vs = [.str (S L)] ∧ L.length ≤ 100000 ∧ Q (.bl (isFg L)) H) [] :=
  T.d__law_figures.cl sc__law_figures (fun vs H Q E h => by obtain ⟨L, rfl, _⟩ := h; rfl) fun f cdv A outer s H vs Q E hr h => by
    obtain ⟨L, rfl, hl, k⟩ := h
    refine ⟨_, ((pss_cons (ps_if (PW.pt (pw_or (pt_cmpR op_eq (pv 0) pe_str (nomark _)) (pw_or1 (pt_cmpR op_gt (pe_callB call_len_str (by rfl) T.n_len (by decide +kernel) (pa_cons (pv 0) pa_nil)) pe_int (nomark _)))))
 (pss_one (ps_ret pe_bl))
 pss_nil)
 (pss_cons (ps_for (passes_of rfl) rfl (pi_str (pv 0)) (pg_name (i := 1) sc__law_figures.nd rfl (Or.inl rfl))
 (pss_one (ps_if (pt_cmpR op_notin_str (pv 1) pe_str (by rfl))
 (pss_one (ps_ret pe_bl))
 pss_nil)))
 (pss_one (ps_ret (pe_or (pe_cmpR op_eq (pv 0) pe_str (nomark _)) (pe_one (pe_cmpR op_ne (pe_ix ix_str (pv 0) pe_int (fun _ _ => rfl)) pe_str (nomark _))))))))), ?_⟩
    have ee : ("" : Str) = S [] := by decide +kernel
    have e0 : ("0" : Str) = S [48] := by decide +kernel
    refine ⟨_, rfl, rfl, _, rfl, ?_⟩
    rw [ee, S_dec]
    by_cases h0 : L = []
    · refine iteY (decide_eq_true h0) (iteT ?_)
      subst h0
      exact k
    refine iteN (by simp [h0]) ⟨_, rfl, S L, rfl, by rw [SX.S_len, sizeLine_eq]; omega, _, _, rfl, rfl, _, rfl, ?_⟩
    rw [SX.S_len]
    have nz : decide (L = [48]) = true → L.length = 1 := fun z => by rw [of_decide_eq_true z]; rfl
    by_cases h4 : L.length ≤ 400
    · rw [decide_eq_false (by omega : ¬ (400 : Int) < (L.length : Int))]
      refine iteF ⟨_, rfl, _, rfl, ?_⟩
      refine for_it walk_str (fun i σ' H' => H = H' ∧ (∃ c : Option V, σ' = [some (.str (S L)), c]) ∧ ∀ (j : Nat) d, j < i → L[j]? = some d → isFig d = true) ⟨rfl, ⟨none, rfl⟩, fun j d z => absurd z (Nat.not_lt_zero _)⟩ (fun _ _ _ _ _ => trivial) ?_ ?_
      · rintro i _ _ H' _ hi ⟨rfl, ⟨c, rfl⟩, hj⟩ ⟨rfl, ch, hc, rfl⟩
        have hc : L[i]? = some ch := by simpa using hc
        refine ⟨_, rfl, _, _, rfl, rfl, _, rfl, ?_⟩
        rw [fig_notin]
        cases e : isFig ch with
        | true =>
          refine iteF ⟨rfl, ⟨_, rfl⟩, fun j d h1 h2 => ?_⟩
          rcases Nat.lt_or_ge j i with h | h
          · exact hj j d h h2
          · have : j = i := by omega
            subst this
            rw [hc] at h2
            cases h2
            exact e
        | false =>
          refine iteT ?_
          have mem := List.mem_of_getElem? hc
          have f1 : L.all isFig = false := by
            rw [List.all_eq_false]
            exact ⟨ch, mem, by rw [e]; exact fun z => nomatch z⟩
          have f2 : isFg L = false := by
            unfold isFg isDig
            rw [f1, Bool.and_false, Bool.and_false, Bool.and_false, Bool.or_false]
            apply decide_eq_false
            intro z
            rw [z] at mem
            rw [List.mem_singleton.mp mem] at e
            cases e
          rw [f2] at k
          exact k
      · rintro _ _ ⟨rfl, ⟨c, rfl⟩, hj⟩
        have f1 : L.all isFig = true := by
          rw [List.all_eq_true]
          intro d hd
          obtain ⟨j, lt, e⟩ := List.getElem_of_mem hd
          exact hj j d (by show j < (S L).cps.size; simpa using lt) (by rw [← e]; exact List.getElem?_eq_getElem lt)
        obtain ⟨c0, r, rfl⟩ : ∃ c r, L = c :: r := by
          cases L with
          | nil => exact absurd rfl h0
          | cons c r => exact ⟨c, r, rfl⟩
        refine ⟨_, rfl, rfl, _, rfl, ?_⟩
        rw [e0, S_dec]
        unfold isFg at k
        cases e : decide (c0 :: r = [48]) with
        | true => rw [e] at k; exact iteT k
        | false =>
          rw [e, Bool.false_or] at k
          refine iteF ⟨_, rfl, S (c0 :: r), _, c0, rfl, rfl, by rw [SX.S_len, sizeLine_eq]; omega, S_at (i := 0) rfl, rfl, ?_⟩
          have e9 : decide (V.str ⟨#[c0]⟩ = V.str (S [48])) = decide ((c0 :: r).head? = some 48) := by
            by_cases h : c0 = 48
            · subst h; simp
            · simp [h]
          rw [e9]
          unfold isDig at k
          rw [f1, decide_eq_true h4, decide_eq_true (by simp : 1 ≤ (c0 :: r).length), Bool.and_true, Bool.true_and, Bool.true_and] at k
          exact k
    · rw [decide_eq_true (by omega : (400 : Int) < (L.length : Int))]
      refine iteT ?_
      have f2 : isFg L = false := by
        unfold isFg isDig
        rw [decide_eq_false h4, Bool.false_and, Bool.and_false, Bool.or_false]
        apply decide_eq_false
        intro z
        rw [z] at h4
        exact h4 (by decide)
      rw [f2] at k
      exact k
end
end K01

set_option Elab.async false
set_option linter.all false
set_option maxRecDepth 100000
set_option maxHeartbeats 4000000
namespace K01
open PySem PySem.Spec PyProof.Rows L2 Ew
open SX (S)
open NumText (digitsVal AllDigits)
/-- with or without the sign ahead -/
def full (b : Bool) (u : List Nat) : List Nat := if b = true then 45 :: u else u
theorem full_wh {b : Bool} {u : List Nat} (h : b = false → u.head? ≠ some 45) : isWh (full b u) = (if b = true then isDig u else isFg u) ∧ wholeVal (full b u) = (if b = true then -((digitsVal u : Nat) : Int) else ((digitsVal u : Nat) : Int)) := by
  cases b with
  | true =>
    refine ⟨?_, rfl⟩
    show (decide (45 :: u = [48]) || isDig u) = isDig u
    rw [decide_eq_false (by simp), Bool.false_or]
  | false =>
    have h := h rfl
    have e1 : dropNeg u = u := by
      unfold dropNeg
      split
      · exact absurd rfl h
      · rfl
    refine ⟨?_, ?_⟩
    · show (decide (u = [48]) || isDig (dropNeg u)) = isFg u
      rw [e1]
      rfl
    · show wholeVal u = _
      unfold wholeVal
      split
      · exact absurd rfl h
      · rfl
theorem full_no {b : Bool} {u : List Nat} (h : 47 ∉ u) : 47 ∉ full b u := by
  cases b with
  | true => show 47 ∉ 45 :: u; simp; exact h
  | false => exact h
theorem rd_no {b : Bool} {u : List Nat} (h : 47 ∉ u) : rdVal (full b u) = if isWh (full b u) = true then some (wholeVal (full b u), 1) else none := by
  unfold rdVal
  rw [cut_no (full_no h)]
theorem rd_yes {b : Bool} {u q : List Nat} (h : 47 ∉ u) : rdVal (full b u ++ ([47] ++ q)) = if isWh (full b u) = true then (if (isDv q && (decide (1 ≤ ((digitsVal q : Nat) : Int)) && decide (Nat.gcd (wholeVal (full b u)).natAbs ((digitsVal q : Nat) : Int).natAbs = 1))) = true then some (wholeVal (full b u), ((digitsVal q : Nat) : Int)) else none) else none := by
  unfold rdVal
  rw [cut_yes (full_no h)]
theorem int_fg {L : List Nat} (h : isFg L = true) : intText? (S L) = some ((digitsVal L : Nat) : Int) := by
  unfold isFg at h
  rw [Bool.or_eq_true] at h
  rcases h with h | h
  · rw [of_decide_eq_true h]
    exact SX.int_S (by decide) (by decide) (by decide)
  · exact int_dig h
theorem fg_len {L : List Nat} (h : isFg L = true) : L.length ≤ 400 := by
  unfold isFg at h
  rw [Bool.or_eq_true] at h
  rcases h with h | h
  · rw [of_decide_eq_true h]; decide
  · exact (dig_parts h).2.1
theorem fg_dig {L : List Nat} (h : isFg L = true) : isDig L = true ↔ digitsVal L ≠ 0 := by
  constructor
  · intro d
    have := dig_pos d
    omega
  · intro n
    unfold isFg at h
    rw [Bool.or_eq_true] at h
    rcases h with h | h
    · rw [of_decide_eq_true h] at n
      exact absurd rfl n
    · exact h
theorem fg_of_dig {L : List Nat} (h : isDig L = true) : isFg L = true := by unfold isFg; rw [h, Bool.or_true]
theorem dv_fg {q : List Nat} (h : isFg q = true) : isDv q = decide (2 ≤ digitsVal q) := by
  unfold isDv
  by_cases d : isDig q = true
  · have p := dig_pos d
    have o := dig_one d
    rw [d, Bool.true_and]
    by_cases e : q = [49]
    · rw [decide_eq_true e, decide_eq_false (by have := o.mpr e; omega)]
      rfl
    · rw [decide_eq_false e, decide_eq_true (by have : digitsVal q ≠ 1 := fun z => e (o.mp z); omega)]
      rfl
  · have z : digitsVal q = 0 := by
      rcases Nat.eq_zero_or_pos (digitsVal q) with h0 | h0
      · exact h0
      · exact absurd ((fg_dig h).mpr (by omega)) d
    rw [Bool.eq_false_iff.mpr d, z]
    rfl
theorem dv_of {q : List Nat} (h : isFg q = false) : isDv q = false := by
  unfold isDv
  cases d : isDig q with
  | false => rfl
  | true => rw [fg_of_dig d] at h; cases h
theorem slash_fig {q : List Nat} (h : 47 ∈ q) : isFg q = false := by
  unfold isFg
  cases d : isDig q with
  | true =>
    have := (dig_parts d).2.2.2 47 h
    omega
  | false =>
    rw [Bool.or_false]
    apply decide_eq_false
    intro z
    rw [z] at h
    simp at h
theorem spl_no {u : List Nat} (h : 47 ∉ u) : TL.spl [47] 0 [] u = [u] := TL.spl_last1 h
theorem spl_yes {u q : List Nat} (h : 47 ∉ u) : TL.spl [47] 0 [] (u ++ ([47] ++ q)) = u :: TL.spl [47] 0 [] q := TL.spl_part1 h
theorem spl_ne (q : List Nat) : 1 ≤ (TL.spl [47] 0 [] q).length := by
  rcases slash_cases q with h | ⟨u, r, rfl, h⟩
  · rw [spl_no h]; exact Nat.le_refl _
  · rw [spl_yes h]; simp
/-- a text is its sign and the rest -/
theorem neg_cases (L : List Nat) : ∃ b M, L = full b M ∧ decide (L.take 1 = [45]) = b ∧ (b = false → M.head? ≠ some 45) ∧ M.length ≤ L.length := by
  cases L with
  | nil => exact ⟨false, [], rfl, rfl, (fun _ z => nomatch z), Nat.le_refl _⟩
  | cons c r =>
    by_cases h : c = 45
    · subst h
      exact ⟨true, r, rfl, by simp, fun z => (nomatch z), by simp⟩
    · exact ⟨false, c :: r, rfl, by simp [h], fun _ z => h (by simpa using z), Nat.le_refl _⟩
theorem full_app {b : Bool} {u r : List Nat} : full b (u ++ r) = full b u ++ r := by cases b <;> rfl
section
variable {P : Program} {w : World} {K : PySem.W.Frag} {mg : Str → Option Value} {base : Heap} {a : Ad}
abbrev partsV (M : List Nat) : List V := ((TL.spl [47] 0 [] M).map S).map V.str
def sp__law_value_of (K : PySem.W.Frag) : Sp := fun vs H Q _ => ∃ (F : Hp) (L : List Nat), vs = [.str (S L)] ∧ L.length ≤ 100000 ∧ Same F H ∧
  (∀ r, rdVal L = some r → ∀ F' H' z, Stp F H F' H' → Rt K F' z r → Q z H') ∧ (rdVal L = none → ∀ F' H', Stp F H F' H' → Q .non H')
theorem c__law_value_of (T : Txt K mg a) : Cl P w K mg base 2 "_law_value_of" P__law_value_of (sp__law_value_of K) [] :=
  T.d__law_value_of.cl sc__law_value_of (fun vs H Q E h => by obtain ⟨F, L, rfl, _⟩ := h; rfl) fun f cdv A outer s H vs Q E hr h => by
    obtain ⟨F, L, rfl, hl, hf, k, kn⟩ := h
    obtain ⟨b, M, eL, hb, hM, lM⟩ := neg_cases L
    refine ⟨_, ((pss_cons (ps_set (i := 1) sc__law_value_of.nd rfl (Or.inl rfl) (pe_cmpR op_eq (pe_slice C8.sl_txt (pv 0) po_none (po_some pe_int)) pe_str (nomark _)))
 (pss_cons (ps_set (i := 2) sc__law_value_of.nd rfl (Or.inl rfl) (pe_m1 PySem.F.slot_str_split PySem.F.type_str_split mt_split (pe_ifExp (pt_val (pv 1)) (pe_slice C8.sl_txt (pv 0) (po_some pe_int) po_none) (pv 0)) pe_str))
 (pss_cons (ps_if (PW.pt (pw_or (pt_cmpR op_gt (pe_callB call_len_seq (by rfl) T.n_len (by decide +kernel) (pa_cons (pv 2) pa_nil)) pe_int (nomark _)) (pw_or (pt_not (pt_val (pe_f (c__law_figures T) (takes_of rfl rfl rfl rfl) hr (by decide) rfl (pa_cons (pe_ix ix_list (pv 2) pe_int (fun _ _ => rfl)) pa_nil)))) (pw_or1 (pt_not (pt_val (pe_f (c__law_figures T) (takes_of rfl rfl rfl rfl) hr (by decide) rfl (pa_cons (pe_ix ix_list (pv 2) (pe_op op_sub (pe_callB call_len_seq (by rfl) T.n_len (by decide +kernel) (pa_cons (pv 2) pa_nil)) pe_int) (fun _ _ => rfl)) pa_nil))))))))
 (pss_one (ps_ret pe_non))
 pss_nil)
 (pss_cons (ps_set (i := 3) sc__law_value_of.nd rfl (Or.inl rfl) (pe_callTy call_int_str (by rfl) T.n_int (by decide +kernel) (pa_cons (pe_ix ix_list (pv 2) pe_int (fun _ _ => rfl)) pa_nil)))
 (pss_cons (ps_if (PW.pt (pw_and (pt_val (pv 1)) (pw_and1 (pt_cmpR op_eq (pv 3) pe_int (nomark _)))))
 (pss_one (ps_ret pe_non))
 pss_nil)
 (pss_cons (ps_if (pt_val (pv 1))
 (pss_one (ps_set (i := 3) sc__law_value_of.nd rfl (Or.inl rfl) (pe_op op_sub pe_int (pv 3))))
 pss_nil)
 (pss_cons (ps_if (pt_cmpR op_eq (pe_callB call_len_seq (by rfl) T.n_len (by decide +kernel) (pa_cons (pv 2) pa_nil)) pe_int (nomark _))
 (pss_one (ps_ret (pe_tup (pa_cons (pv 3) (pa_cons pe_int pa_nil)))))
 pss_nil)
 (pss_cons (ps_set (i := 4) sc__law_value_of.nd rfl (Or.inl rfl) (pe_callTy call_int_str (by rfl) T.n_int (by decide +kernel) (pa_cons (pe_ix ix_list (pv 2) pe_int (fun _ _ => rfl)) pa_nil)))
 (pss_cons (ps_if (PW.pt (pw_or (pt_cmpR op_lt (pv 4) pe_int (nomark _)) (pw_or1 (pt_cmpR op_ne (pe_f (c__law_gcd T) (takes_of rfl rfl rfl rfl) hr (by decide) rfl (pa_cons (pv 3) (pa_cons (pv 4) pa_nil))) pe_int (nomark _)))))
 (pss_one (ps_ret pe_non))
 pss_nil)
 (pss_one (ps_ret (pe_tup (pa_cons (pv 3) (pa_cons (pv 4) pa_nil))))))))))))))), ?_⟩
    have e45 : ("-" : Str) = S [45] := by decide +kernel
    have e47 : ("/" : Str) = S [47] := by decide +kernel
    refine seq_with (fun σ2 H2 => [some (.str (S L)), some (.bl b), none, none, none] = σ2 ∧ H = H2) (fun u hu => ?_) ?_
    · refine ⟨_, rfl, _, rfl, _, rfl, by rw [SX.S_len, sizeLine_eq]; omega, rfl, ?_⟩
      rw [SX.slice_to (by decide), e45, S_dec]
      show u _ [some (.str (S L)), some (.bl (decide (L.take 1 = [45]))), none, none, none] H
      rw [hb]
      exact hu _ _ ⟨rfl, rfl⟩
    rintro _ _ ⟨rfl, rfl⟩
    refine seq_with (fun σ2 H2 => ∃ F2 p, [some (.str (S L)), some (.bl b), some (.ref p), none, none] = σ2 ∧ Stp F H F2 H2 ∧ SqL K F2 p (partsV M)) (fun u hu => ?_) ?_
    · refine ⟨_, rfl, b, rfl, ?_⟩
      have fin : ∀ p, H p = none → u { nx := fun _ H' => Q .non H', rt := Q } [some (.str (S L)), some (.bl b), some (.ref p), none, none] (upd H p (.lst ((Txt.split (S M) (S [47])).map V.str))) := fun p hp => by
        rw [SX.split_S (by decide) (by decide)]
        exact hu _ _ ⟨_, p, rfl, stp_new hf hp, SqL.of upd_same⟩
      cases b with
      | true =>
        refine iteT ⟨_, rfl, _, rfl, _, rfl, by rw [SX.S_len, sizeLine_eq]; omega, ⟨_, rfl⟩, _, _, rfl, rfl, by decide +kernel, ?_, ?_⟩
        · rw [SX.slice_from (by decide), SX.S_len, eL, sizeLine_eq]
          show M.length + 2 ≤ _
          omega
        · rw [SX.slice_from (by decide), e47, eL]
          rw [eL] at fin
          exact fin
      | false =>
        refine iteF ⟨_, rfl, ⟨_, rfl⟩, _, _, rfl, rfl, by decide +kernel, by rw [SX.S_len, sizeLine_eq]; omega, ?_⟩
        rw [e47]
        have : L = M := eL
        rw [this] at fin ⊢
        exact fin
    rintro _ H2 ⟨F2, p, rfl, s2, hp⟩
    rcases slash_cases M with n | ⟨u, q, eM, n⟩
    · -- no slash
      have ep : partsV M = [V.str (S M)] := by unfold partsV; rw [spl_no n]; rfl
      rw [ep] at hp
      have sq := upL s2.fh hp
      have hu := hM
      have erd := (congrArg rdVal eL).trans (rd_no n)
      refine ⟨_, rfl, p, _, rfl, .inl sq, _, _, rfl, rfl, _, rfl, iteN (by show ¬ decide ((2 : Int) < 1) = true; decide) ?_⟩
      refine ⟨_, rfl, p, _, _, _, rfl, rfl, sq, rfl, M, rfl, by omega, _, rfl, ?_⟩
      cases fg : isFg M with
      | false =>
        refine iteT (iteT (kn ?_ _ _ s2))
        have nw : isWh (full b M) = false := by
          rw [(full_wh hu).1]
          cases b with
          | false => exact fg
          | true =>
            cases d : isDig M with
            | false => rfl
            | true => rw [fg_of_dig d] at fg; cases fg
        rw [erd, nw]
        rfl
      | true =>
        refine iteF ⟨_, rfl, _, rfl, p, _, rfl, .inl sq, _, _, rfl, rfl, p, _, _, _, rfl, rfl, sq, rfl, M, rfl, by omega, _, rfl, ?_⟩
        rw [fg]
        refine iteF ?_
        refine seq_with (fun σ3 H3 => [some (.str (S L)), some (.bl b), some (.ref p), none, none] = σ3 ∧ H2 = H3) (fun x hx => hx _ _ ⟨rfl, rfl⟩) ?_
        rintro _ _ ⟨rfl, rfl⟩
        refine seq_with (fun σ3 H3 => [some (.str (S L)), some (.bl b), some (.ref p), some (.int ((digitsVal M : Nat) : Int)), none] = σ3 ∧ H2 = H3) (fun x hx => ?_) ?_
        · refine ⟨_, rfl, p, _, _, _, rfl, rfl, sq, rfl, _, _, rfl, int_fg fg, by rw [SX.S_len]; have := fg_len fg; omega, ?_⟩
          exact hx _ _ ⟨rfl, rfl⟩
        rintro _ _ ⟨rfl, rfl⟩
        have key : (b = true ∧ digitsVal M = 0 ∧ isWh (full b M) = false) ∨ (isWh (full b M) = true ∧ (b = true → digitsVal M ≠ 0)) := by
          rw [(full_wh hu).1]
          cases b with
          | false => exact .inr ⟨fg, fun z => nomatch z⟩
          | true =>
            by_cases z : digitsVal M = 0
            · refine .inl ⟨rfl, z, ?_⟩
              cases d : isDig M with
              | false => rfl
              | true => have := dig_pos d; omega
            · exact .inr ⟨(fg_dig fg).mpr z, fun _ => z⟩
        rcases key with ⟨rfl, z, nw⟩ | ⟨hw, nz⟩
        · refine ⟨_, rfl, true, rfl, iteT ⟨_, rfl, rfl, _, rfl, ?_⟩⟩
          rw [z]
          refine iteY (by decide) (kn ?_ _ _ s2)
          rw [erd, nw]
          rfl
        have hN := (full_wh hu).2
        refine seq_with (fun σ3 H3 => [some (.str (S L)), some (.bl b), some (.ref p), some (.int ((digitsVal M : Nat) : Int)), none] = σ3 ∧ H2 = H3) (fun x hx => ?_) ?_
        · refine ⟨_, rfl, b, rfl, ?_⟩
          cases b with
          | false => exact iteF (iteF (hx _ _ ⟨rfl, rfl⟩))
          | true =>
            have := nz rfl
            refine iteT ⟨_, rfl, rfl, _, rfl, iteN (vint_ne (by omega)) (hx _ _ ⟨rfl, rfl⟩)⟩
        rintro _ _ ⟨rfl, rfl⟩
        refine seq_with (fun σ3 H3 => [some (.str (S L)), some (.bl b), some (.ref p), some (.int (wholeVal (full b M))), none] = σ3 ∧ H2 = H3) (fun x hx => ?_) ?_
        · refine ⟨_, rfl, b, rfl, ?_⟩
          rw [hN] at hx
          cases b with
          | false => exact iteF (hx _ _ ⟨rfl, rfl⟩)
          | true => exact iteT ⟨_, rfl, _, _, rfl, rfl, hx _ _ ⟨by rw [if_pos rfl, ← Int.zero_sub]; rfl, rfl⟩⟩
        rintro _ _ ⟨rfl, rfl⟩
        refine ⟨_, rfl, p, _, rfl, .inl sq, rfl, _, rfl, iteY (by show decide (V.int 1 = V.int 1) = true; decide) ?_⟩
        refine ⟨_, rfl, by show 2 ≤ sizeLine; decide, fun x hx => ?_⟩
        exact k _ (by rw [erd, hw]; rfl) _ _ _ (s2.newP hx) ⟨x, rfl, sq_new⟩
    · have hu : b = false → u.head? ≠ some 45 := by
        intro z y
        refine hM z ?_
        rw [eM]
        cases u with
        | nil => simp at y
        | cons c r => simpa using y
      have lu : u.length ≤ M.length ∧ q.length ≤ M.length := by rw [eM]; simp; omega
      have eLL : L = full b u ++ ([47] ++ q) := by rw [eL, eM, full_app]
      have erd := (congrArg rdVal eLL).trans (rd_yes n)
      have nofg : isFg u = false → isWh (full b u) = false := by
        intro fg
        rw [(full_wh hu).1]
        cases b with
        | false => exact fg
        | true =>
          cases d : isDig u with
          | false => rfl
          | true => rw [fg_of_dig d] at fg; cases fg
      have noq : isFg q = false → rdVal L = none := by
        intro fq
        rw [erd, dv_of fq, Bool.false_and]
        cases isWh (full b u) <;> rfl
      by_cases hq : 47 ∈ q
      · have ep : partsV M = V.str (S u) :: partsV q := by unfold partsV; rw [eM, spl_yes n]; rfl
        have l2 : 2 ≤ (partsV q).length := by
          unfold partsV
          rw [List.length_map, List.length_map]
          rcases slash_cases q with h | ⟨u2, q2, e2, n2⟩
          · exact absurd hq h
          · rw [e2, spl_yes n2, List.length_cons]; have := spl_ne q2; omega
        rw [ep] at hp
        refine ⟨_, rfl, p, _, rfl, .inl (upL s2.fh hp), _, _, rfl, rfl, _, rfl, iteY (decide_eq_true (by rw [List.length_cons]; omega)) (iteT ?_)⟩
        exact kn (noq (slash_fig hq)) _ _ s2
      · have ep : partsV M = [V.str (S u), V.str (S q)] := by unfold partsV; rw [eM, spl_yes n, spl_no hq]; rfl
        rw [ep] at hp
        have sq := upL s2.fh hp
        refine ⟨_, rfl, p, _, rfl, .inl sq, _, _, rfl, rfl, _, rfl, iteN (by show ¬ decide ((2 : Int) < 2) = true; decide) ?_⟩
        refine ⟨_, rfl, p, _, _, _, rfl, rfl, sq, rfl, u, rfl, by omega, _, rfl, ?_⟩
        cases fg : isFg u with
        | false => exact iteT (iteT (kn (by rw [erd, nofg fg]; rfl) _ _ s2))
        | true =>
          refine iteF ⟨_, rfl, _, rfl, p, _, rfl, .inl sq, _, _, rfl, rfl, p, _, _, _, rfl, rfl, sq, rfl, q, rfl, by omega, _, rfl, ?_⟩
          cases fq : isFg q with
          | false => exact iteT (kn (noq fq) _ _ s2)
          | true =>
            refine iteF ?_
            refine seq_with (fun σ3 H3 => [some (.str (S L)), some (.bl b), some (.ref p), none, none] = σ3 ∧ H2 = H3) (fun x hx => hx _ _ ⟨rfl, rfl⟩) ?_
            rintro _ _ ⟨rfl, rfl⟩
            refine seq_with (fun σ3 H3 => [some (.str (S L)), some (.bl b), some (.ref p), some (.int ((digitsVal u : Nat) : Int)), none] = σ3 ∧ H2 = H3) (fun x hx => ?_) ?_
            · refine ⟨_, rfl, p, _, _, _, rfl, rfl, sq, rfl, _, _, rfl, int_fg fg, by rw [SX.S_len]; have := fg_len fg; omega, ?_⟩
              exact hx _ _ ⟨rfl, rfl⟩
            rintro _ _ ⟨rfl, rfl⟩
            have key : (b = true ∧ digitsVal u = 0 ∧ isWh (full b u) = false) ∨ (isWh (full b u) = true ∧ (b = true → digitsVal u ≠ 0)) := by
              rw [(full_wh hu).1]
              cases b with
              | false => exact .inr ⟨fg, fun z => nomatch z⟩
              | true =>
                by_cases z : digitsVal u = 0
                · refine .inl ⟨rfl, z, ?_⟩
                  cases d : isDig u with
                  | false => rfl
                  | true => have := dig_pos d; omega
                · exact .inr ⟨(fg_dig fg).mpr z, fun _ => z⟩
            rcases key with ⟨rfl, z, nw⟩ | ⟨hw, nz⟩
            · refine ⟨_, rfl, true, rfl, iteT ⟨_, rfl, rfl, _, rfl, ?_⟩⟩
              rw [z]
              refine iteY (by decide) (kn ?_ _ _ s2)
              rw [erd, nw]
              rfl
            have hN := (full_wh hu).2
            refine seq_with (fun σ3 H3 => [some (.str (S L)), some (.bl b), some (.ref p), some (.int ((digitsVal u : Nat) : Int)), none] = σ3 ∧ H2 = H3) (fun x hx => ?_) ?_
            · refine ⟨_, rfl, b, rfl, ?_⟩
              cases b with
              | false => exact iteF (iteF (hx _ _ ⟨rfl, rfl⟩))
              | true =>
                have := nz rfl
                refine iteT ⟨_, rfl, rfl, _, rfl, iteN (vint_ne (by omega)) (hx _ _ ⟨rfl, rfl⟩)⟩
            rintro _ _ ⟨rfl, rfl⟩
            refine seq_with (fun σ3 H3 => [some (.str (S L)), some (.bl b), some (.ref p), some (.int (wholeVal (full b u))), none] = σ3 ∧ H2 = H3) (fun x hx => ?_) ?_
            · refine ⟨_, rfl, b, rfl, ?_⟩
              rw [hN] at hx
              cases b with
              | false => exact iteF (hx _ _ ⟨rfl, rfl⟩)
              | true => exact iteT ⟨_, rfl, _, _, rfl, rfl, hx _ _ ⟨by rw [if_pos rfl, ← Int.zero_sub]; rfl, rfl⟩⟩
            rintro _ _ ⟨rfl, rfl⟩
            refine ⟨_, rfl, p, _, rfl, .inl sq, rfl, _, rfl, iteN (by show ¬ decide (V.int 2 = V.int 1) = true; decide) ?_⟩
            refine ⟨_, rfl, p, _, _, _, rfl, rfl, sq, rfl, _, _, rfl, int_fg fq, by rw [SX.S_len]; have := fg_len fq; omega, ?_⟩
            rw [hw, if_pos rfl, dv_fg fq] at erd
            refine ⟨_, rfl, _, _, rfl, rfl, _, rfl, ?_⟩
            by_cases d2 : 2 ≤ digitsVal q
            · rw [decide_eq_true d2, Bool.true_and, decide_eq_true (by omega : 1 ≤ ((digitsVal q : Nat) : Int)), Bool.true_and] at erd
              refine iteN (by rw [decide_eq_false (by omega)]; exact fun z => nomatch z) ?_
              refine ⟨_, rfl, _, rfl, _, _, rfl, rfl, _, rfl, ?_⟩
              by_cases hg : Nat.gcd (wholeVal (full b u)).natAbs ((digitsVal q : Nat) : Int).natAbs = 1
              · rw [decide_eq_true hg, if_pos rfl] at erd
                rw [hg]
                refine iteN (by show ¬ (!decide (V.int 1 = V.int 1)) = true; decide) ?_
                refine ⟨_, rfl, _, rfl, by show 2 ≤ sizeLine; decide, fun x hx => ?_⟩
                exact k _ erd _ _ _ (s2.newP hx) ⟨x, rfl, sq_new⟩
              · rw [decide_eq_false hg, if_neg (fun z => nomatch z)] at erd
                refine iteY ?_ (kn erd _ _ s2)
                have : ¬ decide (V.int ((Nat.gcd (wholeVal (full b u)).natAbs ((digitsVal q : Nat) : Int).natAbs : Nat) : Int) = V.int 1) = true := vint_ne (by omega)
                rw [Bool.not_eq_true] at this
                rw [this]
                rfl
            · rw [decide_eq_false d2, Bool.false_and, if_neg (fun z => nomatch z)] at erd
              refine iteY (decide_eq_true (by omega)) (iteT ?_)
              exact kn erd _ _ s2
end
end K01

set_option Elab.async false
set_option linter.all false
set_option maxRecDepth 100000
set_option maxHeartbeats 4000000
namespace K01
open PySem PySem.Spec PyProof.Rows L2 Ew
open SX (S)
section
variable {P : Program} {w : World} {K : PySem.W.Frag} {mg : Str → Option Value} {base : Heap} {a : Ad}
/-- ('is', u), u told by R -/
def IsT (K : PySem.W.Frag) (F : Hp) (z : V) (r : Int × Int) : Prop := ∃ p u, z = .ref p ∧ SqT K F p [.str "is", u] ∧ Rt K F u r
def Wd (K : PySem.W.Frag) (F : Hp) (z : V) (word : Str) (v : V) : Prop := ∃ p, z = .ref p ∧ SqT K F p [.str word, v]
def sp__law_ratio_told (K : PySem.W.Frag) : Sp := fun vs H Q _ => ∃ (F : Hp) (n d : Int), vs = [.int n, .int d] ∧ Sz 8000 d ∧ Same F H ∧
  ∀ F' H' z, Stp F H F' H' → ((d ≠ 0 ∧ IsT K F' z (rat n d)) ∨ (d = 0 ∧ Wd K F' z "nought" (.int n))) → Q z H'
theorem c__law_ratio_told (T : Txt K mg a) : Cl P w K mg base 4 "_law_ratio_told" P__law_ratio_told (sp__law_ratio_told K) [] :=
  T.d__law_ratio_told.cl sc__law_ratio_told (fun vs H Q E h => by obtain ⟨F, n, d, rfl, _⟩ := h; rfl) fun f cdv A outer s0 H vs Q E hr h => by
    obtain ⟨F, n, d, rfl, hz, hf, k⟩ := h
    refine ⟨_, ((pss_one (ps_tryN rfl rfl sc__law_ratio_told.nd (takes_of rfl rfl rfl rfl)
 (fun W pn xe tk tkp => (pss_one (ps_ret (pe_tup (pa_cons pe_str (pa_cons (pe_f (c_ratioN T) tk hr (by decide) rfl (pa_cons (pv 0) (pa_cons (pv 1) pa_nil))) pa_nil))))))
 (.nm (i := 2) rfl rfl ⟨rfl, by decide, .inl T.g_Nought⟩ (fun xa oe cls d pn hz hf => (pss_cons (ps_if (PW.pt (pw_and (pt_val (pe_callB (call_isErrC T.e_Nought hz hf) (by rfl) T.n_isinstance (by decide +kernel) (pa_cons (pv 2) (pa_cons (pe_bltn (v := .ty "ValueError") (by rfl) T.n_ValueError (by decide +kernel) rfl) pa_nil)))) (pw_and (pt_val (pe_callB (call_isErrC T.e_Nought hz hf) (by rfl) T.n_isinstance (by decide +kernel) (pa_cons (pv 2) (pa_cons (pe_glob (v := .ref a.EllError) rfl T.g_EllError rfl) pa_nil)))) (pw_and1 (pt_not (pt_val (pe_callB (call_isErrC T.e_Nought hz hf) (by rfl) T.n_isinstance (by decide +kernel) (pa_cons (pv 2) (pa_cons (pe_glob (v := .ref a.BadRatio) rfl T.g_BadRatio rfl) pa_nil)))))))))
 (pss_one (ps_ret (pe_tup (pa_cons pe_str (pa_cons (pe_xf T.xf_Nought T.no_Nought_number hz hf (pv 2)) pa_nil)))))
 pss_nil)
 (pss_one (ps_ret (pe_tup (pa_cons pe_str (pa_cons pe_non pa_nil))))))) (.pl ⟨rfl, by decide, .inl T.g_EllError⟩ (fun xa oe cls d pn hz hf => (pss_one (ps_ret (pe_tup (pa_cons pe_str (pa_cons pe_non pa_nil)))))) .nil))))), ?_⟩
    refine ⟨_, rfl, _, rfl, F, n, d, rfl, hz, hf, fun e => ?_, fun e F' H' v s1 hv => ?_⟩
    · rintro F1 H1 dd s1 hdd
      have g1 := s1.fh _ _ hdd
      refine ⟨true, T.em_Nought, fun _ xa hxa => ?_, fun z => nomatch z⟩
      refine ⟨_, rfl, rfl, (fun y z => by cases z; exact ⟨_, g1⟩), .inl ⟨_, _, true, rfl, .ty _, T.kv_Nought, true, rfl, iteT ?_⟩⟩
      refine ⟨_, rfl, rfl, (fun y z => by cases z; exact ⟨_, g1⟩), .inl ⟨_, _, true, rfl, .own _, T.ke_Nought, true, rfl, iteT ?_⟩⟩
      refine ⟨_, rfl, rfl, (fun y z => by cases z; exact ⟨_, g1⟩), .inl ⟨_, _, false, rfl, .own _, T.kn_Nought, false, rfl, iteT ?_⟩⟩
      refine ⟨_, rfl, rfl, rfl, dd, _, (.int n), rfl, g1, rfl, by show 2 ≤ sizeLine; decide, fun p hp => ?_⟩
      have s3 := s1.newP (o := .tup [.str "nought", (.int n)]) hp
      exact k _ _ _ s3 (.inr ⟨e, p, rfl, sq_new⟩)
    · refine ⟨by show 2 ≤ sizeLine; decide, fun p hp => ?_⟩
      have s2 := s1.newP (o := .tup [.str "is", v]) hp
      exact k _ _ _ s2 (.inl ⟨e, p, v, rfl, sq_new, hv.up (same_new (s1.fh.free hp))⟩)
def sp__law_over_told (K : PySem.W.Frag) : Sp := fun vs H Q _ => ∃ (F : Hp) (u v : V) (r q : Int × Int), vs = [u, v] ∧ Rt K F u r ∧ Rt K F v q ∧ Sz 2000 r.1 ∧ Sz 2000 r.2 ∧ Sz 2000 q.1 ∧ Sz 2000 q.2 ∧ r.2 ≠ 0 ∧ q.2 ≠ 0 ∧ Same F H ∧
  ∀ F' H' z, Stp F H F' H' → ((q.1 ≠ 0 ∧ IsT K F' z (rOver r q)) ∨ (q.1 = 0 ∧ Wd K F' z "nought" u)) → Q z H'
theorem c__law_over_told (T : Txt K mg a) : Cl P w K mg base 5 "_law_over_told" P__law_over_told (sp__law_over_told K) [] :=
  T.d__law_over_told.cl sc__law_over_told (fun vs H Q E h => by obtain ⟨F, u, v, r, q, rfl, _⟩ := h; rfl) fun f cdv A outer s0 H vs Q E hr h => by
    obtain ⟨F, u, v, r, q, rfl, h1, h2, z1, z2, z3, z4, n1, n2, hf, k⟩ := h
    refine ⟨_, ((pss_one (ps_tryN rfl rfl sc__law_over_told.nd (takes_of rfl rfl rfl rfl)
 (fun W pn xe tk tkp => (pss_one (ps_ret (pe_tup (pa_cons pe_str (pa_cons (pe_f (c_over T) tk hr (by decide) rfl (pa_cons (pv 0) (pa_cons (pv 1) pa_nil))) pa_nil))))))
 (.nm (i := 2) rfl rfl ⟨rfl, by decide, .inl T.g_Nought⟩ (fun xa oe cls d pn hz hf => (pss_cons (ps_if (PW.pt (pw_and (pt_val (pe_callB (call_isErrC T.e_Nought hz hf) (by rfl) T.n_isinstance (by decide +kernel) (pa_cons (pv 2) (pa_cons (pe_bltn (v := .ty "ValueError") (by rfl) T.n_ValueError (by decide +kernel) rfl) pa_nil)))) (pw_and (pt_val (pe_callB (call_isErrC T.e_Nought hz hf) (by rfl) T.n_isinstance (by decide +kernel) (pa_cons (pv 2) (pa_cons (pe_glob (v := .ref a.EllError) rfl T.g_EllError rfl) pa_nil)))) (pw_and1 (pt_not (pt_val (pe_callB (call_isErrC T.e_Nought hz hf) (by rfl) T.n_isinstance (by decide +kernel) (pa_cons (pv 2) (pa_cons (pe_glob (v := .ref a.BadRatio) rfl T.g_BadRatio rfl) pa_nil)))))))))
 (pss_one (ps_ret (pe_tup (pa_cons pe_str (pa_cons (pe_xf T.xf_Nought T.no_Nought_number hz hf (pv 2)) pa_nil)))))
 pss_nil)
 (pss_one (ps_ret (pe_tup (pa_cons pe_str (pa_cons pe_non pa_nil))))))) (.pl ⟨rfl, by decide, .inl T.g_EllError⟩ (fun xa oe cls d pn hz hf => (pss_one (ps_ret (pe_tup (pa_cons pe_str (pa_cons pe_non pa_nil)))))) .nil))))), ?_⟩
    refine ⟨_, rfl, _, rfl, F, u, v, r, q, rfl, h1, h2, z1, z2, z3, z4, n1, n2, hf, fun e F' H' z s1 hz => ?_, fun e => ?_⟩
    · refine ⟨by show 2 ≤ sizeLine; decide, fun p hp => ?_⟩
      have s2 := s1.newP (o := .tup [.str "is", z]) hp
      exact k _ _ _ s2 (.inl ⟨e, p, z, rfl, sq_new, hz.up (same_new (s1.fh.free hp))⟩)
    · rintro F1 H1 dd s1 hdd
      have g1 := s1.fh _ _ hdd
      refine ⟨true, T.em_Nought, fun _ xa hxa => ?_, fun z => nomatch z⟩
      refine ⟨_, rfl, rfl, (fun y z => by cases z; exact ⟨_, g1⟩), .inl ⟨_, _, true, rfl, .ty _, T.kv_Nought, true, rfl, iteT ?_⟩⟩
      refine ⟨_, rfl, rfl, (fun y z => by cases z; exact ⟨_, g1⟩), .inl ⟨_, _, true, rfl, .own _, T.ke_Nought, true, rfl, iteT ?_⟩⟩
      refine ⟨_, rfl, rfl, (fun y z => by cases z; exact ⟨_, g1⟩), .inl ⟨_, _, false, rfl, .own _, T.kn_Nought, false, rfl, iteT ?_⟩⟩
      refine ⟨_, rfl, rfl, rfl, dd, _, u, rfl, g1, rfl, by show 2 ≤ sizeLine; decide, fun p hp => ?_⟩
      have s3 := s1.newP (o := .tup [.str "nought", u]) hp
      exact k _ _ _ s3 (.inr ⟨e, p, rfl, sq_new⟩)
def sp__law_read_told (K : PySem.W.Frag) : Sp := fun vs H Q _ => ∃ (F : Hp) (v : V), vs = [v] ∧ Same F H ∧
  ((∃ L, v = .str (S L) ∧ L.length ≤ 100000 ∧ ∀ F' H' z, Stp F H F' H' → ((∃ r, rdVal L = some r ∧ IsT K F' z r) ∨ (rdVal L = none ∧ Wd K F' z "bad" v)) → Q z H') ∨
   ∃ t, TyX K H v t ∧ PySem.W.kitOne K t (.type "str") = some false ∧ ∀ F' H' z, Stp F H F' H' → Wd K F' z "bad" v → Q z H')
theorem c__law_read_told (T : Txt K mg a) : Cl P w K mg base 4 "_law_read_told" P__law_read_told (sp__law_read_told K) [] :=
  T.d__law_read_told.cl sc__law_read_told (fun vs H Q E h => by obtain ⟨F, v, rfl, _⟩ := h; rfl) fun f cdv A outer s0 H vs Q E hr h => by
    obtain ⟨F, v, rfl, hf, h⟩ := h
    refine ⟨_, ((pss_one (ps_tryN rfl rfl sc__law_read_told.nd (takes_of rfl rfl rfl rfl)
 (fun W pn xe tk tkp => (pss_one (ps_ret (pe_tup (pa_cons pe_str (pa_cons (pe_f (c_read_ratio T) tk hr (by decide) rfl (pa_cons (pv 0) pa_nil)) pa_nil))))))
 (.nm (i := 1) rfl rfl ⟨rfl, by decide, .inl T.g_BadRatio⟩ (fun xa oe cls d pn hz hf => (pss_cons (ps_if (PW.pt (pw_and (pt_val (pe_callB (call_isErrC T.e_BadRatio hz hf) (by rfl) T.n_isinstance (by decide +kernel) (pa_cons (pv 1) (pa_cons (pe_bltn (v := .ty "ValueError") (by rfl) T.n_ValueError (by decide +kernel) rfl) pa_nil)))) (pw_and (pt_val (pe_callB (call_isErrC T.e_BadRatio hz hf) (by rfl) T.n_isinstance (by decide +kernel) (pa_cons (pv 1) (pa_cons (pe_glob (v := .ref a.EllError) rfl T.g_EllError rfl) pa_nil)))) (pw_and1 (pt_not (pt_val (pe_callB (call_isErrC T.e_BadRatio hz hf) (by rfl) T.n_isinstance (by decide +kernel) (pa_cons (pv 1) (pa_cons (pe_glob (v := .ref a.Nought) rfl T.g_Nought rfl) pa_nil)))))))))
 (pss_one (ps_ret (pe_tup (pa_cons pe_str (pa_cons (pe_xf T.xf_BadRatio T.no_BadRatio_text hz hf (pv 1)) pa_nil)))))
 pss_nil)
 (pss_one (ps_ret (pe_tup (pa_cons pe_str (pa_cons pe_non pa_nil))))))) (.pl ⟨rfl, by decide, .inl T.g_EllError⟩ (fun xa oe cls d pn hz hf => (pss_one (ps_ret (pe_tup (pa_cons pe_str (pa_cons pe_non pa_nil)))))) .nil))))), ?_⟩
    rcases h with ⟨L, rfl, hl, k⟩ | ⟨t, ht, hk, k⟩
    · refine ⟨_, rfl, F, _, rfl, hf, .inl ⟨L, rfl, hl, fun r e F' H' z s1 hz => ?_, fun e => ?_⟩⟩
      · refine ⟨by show 2 ≤ sizeLine; decide, fun p hp => ?_⟩
        have s2 := s1.newP (o := .tup [.str "is", z]) hp
        exact k _ _ _ s2 (.inl ⟨r, e, p, z, rfl, sq_new, hz.up (same_new (s1.fh.free hp))⟩)
      · rintro F1 H1 dd s1 hdd
        have g1 := s1.fh _ _ hdd
        refine ⟨true, T.em_BadRatio, fun _ xa hxa => ?_, fun z => nomatch z⟩
        refine ⟨_, rfl, rfl, (fun y z => by cases z; exact ⟨_, g1⟩), .inl ⟨_, _, true, rfl, .ty _, T.kv_BadRatio, true, rfl, iteT ?_⟩⟩
        refine ⟨_, rfl, rfl, (fun y z => by cases z; exact ⟨_, g1⟩), .inl ⟨_, _, true, rfl, .own _, T.ke_BadRatio, true, rfl, iteT ?_⟩⟩
        refine ⟨_, rfl, rfl, (fun y z => by cases z; exact ⟨_, g1⟩), .inl ⟨_, _, false, rfl, .own _, T.kn_BadRatio, false, rfl, iteT ?_⟩⟩
        refine ⟨_, rfl, rfl, rfl, dd, _, (.str (S L)), rfl, g1, rfl, by show 2 ≤ sizeLine; decide, fun p hp => ?_⟩
        have s3 := s1.newP (o := .tup [.str "bad", (.str (S L))]) hp
        exact k _ _ _ s3 (.inr ⟨e, p, rfl, sq_new⟩)
    · refine ⟨_, rfl, F, _, rfl, hf, .inr ⟨t, ht, hk, ?_⟩⟩
      rintro F1 H1 dd s1 hdd
      have g1 := s1.fh _ _ hdd
      refine ⟨true, T.em_BadRatio, fun _ xa hxa => ?_, fun z => nomatch z⟩
      refine ⟨_, rfl, rfl, (fun y z => by cases z; exact ⟨_, g1⟩), .inl ⟨_, _, true, rfl, .ty _, T.kv_BadRatio, true, rfl, iteT ?_⟩⟩
      refine ⟨_, rfl, rfl, (fun y z => by cases z; exact ⟨_, g1⟩), .inl ⟨_, _, true, rfl, .own _, T.ke_BadRatio, true, rfl, iteT ?_⟩⟩
      refine ⟨_, rfl, rfl, (fun y z => by cases z; exact ⟨_, g1⟩), .inl ⟨_, _, false, rfl, .own _, T.kn_BadRatio, false, rfl, iteT ?_⟩⟩
      refine ⟨_, rfl, rfl, rfl, dd, _, v, rfl, g1, rfl, by show 2 ≤ sizeLine; decide, fun p hp => ?_⟩
      have s3 := s1.newP (o := .tup [.str "bad", v]) hp
      exact k _ _ _ s3 ⟨p, rfl, sq_new⟩
/-- a pair of ints against its due -/
def sp__law_same (K : PySem.W.Frag) : Sp := fun vs H Q _ => ∃ (u v : V) (r : Int × Int), vs = [u, v] ∧ Rt K H u r ∧ Rt K H v r ∧ Q (.bl true) H
theorem c__law_same (T : Txt K mg a) : Cl P w K mg base 2 "_law_same" P__law_same (sp__law_same K) [] :=
  T.d__law_same.cl sc__law_same (fun vs H Q E h => by obtain ⟨u, v, r, rfl, _⟩ := h; rfl) fun f cdv A outer s0 H vs Q E hr h => by
    obtain ⟨u, v, r, rfl, hu, hv, k⟩ := h
    obtain ⟨p, rfl, hp⟩ := id hu
    refine ⟨_, ((pss_cons (ps_if (PW.pt (pw_or (pt_not (pt_val (pe_callB call_isi (by rfl) T.n_isinstance (by decide +kernel) (pa_cons (pv 0) (pa_cons (pe_bltn (v := .ty "tuple") (by rfl) T.n_tuple (by decide +kernel) rfl) pa_nil))))) (pw_or (pt_cmpR op_ne (pe_callB call_len_seq (by rfl) T.n_len (by decide +kernel) (pa_cons (pv 0) pa_nil)) pe_int (nomark _)) (pw_or (pt_not (pt_val (pe_f (c__law_integer T) (takes_of rfl rfl rfl rfl) hr (by decide) rfl (pa_cons (pe_ix ix_tup (pv 0) pe_int (fun _ _ => rfl)) pa_nil)))) (pw_or1 (pt_not (pt_val (pe_f (c__law_integer T) (takes_of rfl rfl rfl rfl) hr (by decide) rfl (pa_cons (pe_ix ix_tup (pv 0) pe_int (fun _ _ => rfl)) pa_nil)))))))))
 (pss_one (ps_ret pe_bl))
 pss_nil)
 (pss_one (ps_ret (pe_cmpR (op_eqD hr.units) (pv 0) (pv 1) (nomark _)))))), ?_⟩
    refine ⟨_, rfl, _, _, _, _, true, rfl, .ty _, ty_sqT hp, kit_ty (by decide +kernel), true, rfl, iteF ?_⟩
    refine ⟨_, rfl, p, _, rfl, .inr hp, rfl, _, rfl, iteN (by show ¬ (!decide (V.int 2 = V.int 2)) = true; decide) ?_⟩
    refine ⟨_, rfl, p, _, _, _, rfl, rfl, hp, at0, _, rfl, true, rfl, iteF ?_⟩
    refine ⟨_, rfl, p, _, _, _, rfl, rfl, hp, at1, _, rfl, true, rfl, iteF ?_⟩
    refine ⟨_, rfl, _, rfl, _, _, hu.dp, hv.dp, shaped_ints _, shaped_ints _, ?_⟩
    rw [eqv_ints, decide_eq_true rfl]
    exact k
end
end K01

set_option Elab.async false
set_option linter.all false
set_option maxRecDepth 100000
set_option maxHeartbeats 4000000
namespace K01
open PySem PySem.Spec PyProof.Rows L2 Ew
open SX (S)
section
variable {P : Program} {w : World} {K : PySem.W.Frag} {mg : Str → Option Value} {base : Heap} {a : Ad}
def sp__law_right_reading : Sp := fun vs H Q _ => ∃ (F : Hp) (L : List Nat), vs = [.str (S L)] ∧ L.length ≤ 100000 ∧ Same F H ∧ ∀ F' H', Stp F H F' H' → Q (.bl true) H'
theorem c__law_right_reading (T : Txt K mg a) : Cl P w K mg base 5 "_law_right_reading" P__law_right_reading sp__law_right_reading [] :=
  T.d__law_right_reading.cl sc__law_right_reading (fun vs H Q E h => by obtain ⟨F, L, rfl, _⟩ := h; rfl) fun f cdv A outer s0 H vs Q E hr h => by
    obtain ⟨F, L, rfl, hl, hf, k⟩ := h
    refine ⟨_, ((pss_cons (ps_set (i := 1) sc__law_right_reading.nd rfl (Or.inl rfl) (pe_f (c__law_value_of T) (takes_of rfl rfl rfl rfl) hr (by decide) rfl (pa_cons (pv 0) pa_nil)))
 (pss_cons (ps_set (i := 2) sc__law_right_reading.nd rfl (Or.inl rfl) (pe_f (c__law_read_told T) (takes_of rfl rfl rfl rfl) hr (by decide) rfl (pa_cons (pv 0) pa_nil)))
 (pss_cons (ps_if (pt_cmpR op_isN (pv 1) pe_non (nomark _))
 (pss_one (ps_ret (pe_and (pe_cmpR op_eq (pe_ix ix_tup (pv 2) pe_int (fun _ _ => rfl)) pe_str (nomark _)) (pe_and (pe_callB call_isi (by rfl) T.n_isinstance (by decide +kernel) (pa_cons (pe_ix ix_tup (pv 2) pe_int (fun _ _ => rfl)) (pa_cons (pe_bltn (v := .ty "str") (by rfl) T.n_str (by decide +kernel) rfl) pa_nil))) (pe_one (pe_cmpR op_eq (pe_ix ix_tup (pv 2) pe_int (fun _ _ => rfl)) (pv 0) (nomark _)))))))
 pss_nil)
 (pss_one (ps_ret (pe_and (pe_cmpR op_eq (pe_ix ix_tup (pv 2) pe_int (fun _ _ => rfl)) pe_str (nomark _)) (pe_one (pe_f (c__law_same T) (takes_of rfl rfl rfl rfl) hr (by decide) rfl (pa_cons (pe_ix ix_tup (pv 2) pe_int (fun _ _ => rfl)) (pa_cons (pv 1) pa_nil))))))))))), ?_⟩
    refine ⟨_, rfl, F, L, rfl, hl, hf, fun r e F1 H1 z s1 hz => ?_, fun e F1 H1 s1 => ?_⟩
    · refine ⟨_, rfl, F1, _, rfl, s1.fh, .inl ⟨L, rfl, hl, fun F2 H2 y s2 h => ?_⟩⟩
      rcases h with ⟨r', e', p, u, rfl, hp, hu⟩ | ⟨e', _⟩
      · rw [e] at e'
        cases e'
        obtain ⟨q, rfl, hq⟩ := id hz
        have hp := upT s2.fh hp
        refine ⟨_, rfl, rfl, _, rfl, iteN (by simp) ?_⟩
        refine ⟨_, rfl, p, _, _, _, rfl, rfl, hp, at0, rfl, _, rfl, iteY (by decide +kernel) ?_⟩
        exact ⟨_, rfl, p, _, _, _, rfl, rfl, hp, at1, _, rfl, _, _, r, rfl, hu.up s2.fh, (hz.up s2.ff).up s2.fh, k F2 H2 (s1.transP s2)⟩
      · rw [e] at e'
        cases e'
    · refine ⟨_, rfl, F1, _, rfl, s1.fh, .inl ⟨L, rfl, hl, fun F2 H2 y s2 h => ?_⟩⟩
      rcases h with ⟨r', e', _⟩ | ⟨_, p, rfl, hp⟩
      · rw [e] at e'
        cases e'
      · have hp := upT s2.fh hp
        refine ⟨_, rfl, rfl, _, rfl, iteY (by decide) ?_⟩
        refine ⟨_, rfl, p, _, _, _, rfl, rfl, hp, at0, rfl, _, rfl, iteY (by decide +kernel) ?_⟩
        refine ⟨_, rfl, p, _, _, _, rfl, rfl, hp, at1, _, _, _, _, true, rfl, .ty _, .base (.str _), kit_ty (by decide +kernel), true, rfl, iteT ?_⟩
        refine ⟨_, rfl, p, _, _, _, rfl, rfl, hp, at1, _, rfl, rfl, ?_⟩
        rw [decide_eq_true rfl]
        exact k F2 H2 (s1.transP s2)
def sp__law_right_making : Sp := fun vs H Q _ => ∃ (F : Hp) (n d : Int), vs = [.int n, .int d] ∧ Sz 8000 d ∧ Same F H ∧ ∀ F' H', Stp F H F' H' → Q (.bl true) H'
theorem rat_1 (n : Int) : rat n 1 = (n, 1) := by
  have c : com n 1 = 1 := by
    unfold com
    rw [if_neg (by decide)]
    have : Nat.gcd n.natAbs (1 : Int).natAbs = 1 := Nat.gcd_one_right _
    rw [this]
    rfl
  unfold rat
  rw [c, Int.fdiv_one, Int.fdiv_one]
theorem c__law_right_making (T : Txt K mg a) : Cl P w K mg base 5 "_law_right_making" P__law_right_making sp__law_right_making [] :=
  T.d__law_right_making.cl sc__law_right_making (fun vs H Q E h => by obtain ⟨F, n, d, rfl, _⟩ := h; rfl) fun f cdv A outer s0 H vs Q E hr h => by
    obtain ⟨F, n, d, rfl, hz, hf, k⟩ := h
    refine ⟨_, ((pss_cons (ps_if (PW.pt (pw_or (pt_not (pt_val (pe_f (c__law_same T) (takes_of rfl rfl rfl rfl) hr (by decide) rfl (pa_cons (pe_f (c_ratio1 T) (takes_of rfl rfl rfl rfl) hr (by decide) rfl (pa_cons (pv 0) pa_nil)) (pa_cons (pe_tup (pa_cons (pv 0) (pa_cons pe_int pa_nil))) pa_nil))))) (pw_or1 (pt_not (pt_val (pe_f (c__law_same T) (takes_of rfl rfl rfl rfl) hr (by decide) rfl (pa_cons (pe_f (c_ratio T) (takes_of rfl rfl rfl rfl) hr (by decide) rfl (pa_cons (pv 0) (pa_cons pe_int pa_nil))) (pa_cons (pe_tup (pa_cons (pv 0) (pa_cons pe_int pa_nil))) pa_nil))))))))
 (pss_one (ps_ret pe_bl))
 pss_nil)
 (pss_cons (ps_set (i := 2) sc__law_right_making.nd rfl (Or.inl rfl) (pe_f (c__law_ratio_told T) (takes_of rfl rfl rfl rfl) hr (by decide) rfl (pa_cons (pv 0) (pa_cons (pv 1) pa_nil))))
 (pss_cons (ps_if (pt_cmpR op_eq (pv 1) pe_int (nomark _))
 (pss_one (ps_ret (pe_and (pe_cmpR op_eq (pe_ix ix_tup (pv 2) pe_int (fun _ _ => rfl)) pe_str (nomark _)) (pe_and (pe_f (c__law_integer T) (takes_of rfl rfl rfl rfl) hr (by decide) rfl (pa_cons (pe_ix ix_tup (pv 2) pe_int (fun _ _ => rfl)) pa_nil)) (pe_one (pe_cmpR op_eq (pe_ix ix_tup (pv 2) pe_int (fun _ _ => rfl)) (pv 0) (nomark _)))))))
 pss_nil)
 (pss_one (ps_ret (pe_and (pe_cmpR op_eq (pe_ix ix_tup (pv 2) pe_int (fun _ _ => rfl)) pe_str (nomark _)) (pe_one (pe_f (c__law_same T) (takes_of rfl rfl rfl rfl) hr (by decide) rfl (pa_cons (pe_ix ix_tup (pv 2) pe_int (fun _ _ => rfl)) (pa_cons (pe_f (c__law_ratio T) (takes_of rfl rfl rfl rfl) hr (by decide) rfl (pa_cons (pv 0) (pa_cons (pv 1) pa_nil))) pa_nil))))))))))), ?_⟩
    refine ⟨_, rfl, F, n, 1, rfl, sz1.mono (by decide), hf, fun z => absurd z (by decide), fun _ F1 H1 v1 s1 h1 => ?_⟩
    rw [rat_1] at h1
    refine ⟨_, rfl, by show 2 ≤ sizeLine; decide, fun p2 hp2 => ?_⟩
    have e2 := same_new (o := .tup [.int n, .int 1]) (s1.fh.free hp2)
    have s2 := s1.newP (o := .tup [.int n, .int 1]) hp2
    refine ⟨_, _, (n, 1), rfl, (h1.up e2).up s2.fh, ⟨p2, rfl, sq_new⟩, true, rfl, iteF ?_⟩
    refine ⟨_, rfl, _, n, 1, rfl, by decide, sz1.mono (by decide), s2.fh, fun F3 H3 v3 s3 h3 => ?_⟩
    rw [rat_1] at h3
    refine ⟨_, rfl, by show 2 ≤ sizeLine; decide, fun p4 hp4 => ?_⟩
    have e4 := same_new (o := .tup [.int n, .int 1]) (s3.fh.free hp4)
    have s4 := s3.newP (o := .tup [.int n, .int 1]) hp4
    refine ⟨_, _, (n, 1), rfl, (h3.up e4).up s4.fh, ⟨p4, rfl, sq_new⟩, true, rfl, iteF ?_⟩
    refine ⟨_, rfl, _, rfl, _, n, d, rfl, hz, s4.fh, fun F5 H5 z s5 h => ?_⟩
    have s25 := s2.transP (s4.transP s5)
    rcases h with ⟨h0, p, u, rfl, hp, hu⟩ | ⟨h0, p, rfl, hp⟩
    · have hp5 := upT s5.fh hp
      refine ⟨_, rfl, rfl, _, rfl, iteN (vint_ne h0) ?_⟩
      refine ⟨_, rfl, p, _, _, _, rfl, rfl, hp5, at0, rfl, _, rfl, iteY (by decide +kernel) ?_⟩
      refine ⟨_, rfl, p, _, _, _, rfl, rfl, hp5, at1, _, rfl, _, rfl, F5, n, d, rfl, h0, hz, s5.fh, fun F6 H6 v6 s6 h6 => ?_⟩
      exact ⟨_, _, _, rfl, (hu.up s6.ff).up s6.fh, h6.up s6.fh, k F6 H6 (s25.transP s6)⟩
    · have hp5 := upT s5.fh hp
      refine ⟨_, rfl, rfl, _, rfl, iteY (vint_eq h0) ?_⟩
      refine ⟨_, rfl, p, _, _, _, rfl, rfl, hp5, at0, rfl, _, rfl, iteY (by decide +kernel) ?_⟩
      refine ⟨_, rfl, p, _, _, _, rfl, rfl, hp5, at1, _, rfl, true, rfl, iteT ?_⟩
      refine ⟨_, rfl, p, _, _, _, rfl, rfl, hp5, at1, _, rfl, rfl, ?_⟩
      rw [decide_eq_true rfl]
      exact k F5 H5 s25
end
end K01

set_option Elab.async false
set_option linter.all false
set_option maxRecDepth 100000
set_option maxHeartbeats 4000000
namespace K01
open PySem PySem.Spec PyProof.Rows L2 Ew
open SX (S)
section
variable {P : Program} {w : World} {K : PySem.W.Frag} {mg : Str → Option Value} {base : Heap} {a : Ad}
def sp__law_right_reckoning (K : PySem.W.Frag) : Sp := fun vs H Q _ => ∃ (F : Hp) (u v : V) (r q : Int × Int), vs = [u, v] ∧ Rt K F u r ∧ Rt K F v q ∧ Sz 2000 r.1 ∧ Sz 2000 r.2 ∧ Sz 2000 q.1 ∧ Sz 2000 q.2 ∧ r.2 ≠ 0 ∧ q.2 ≠ 0 ∧ Same F H ∧
  ∀ F' H', Stp F H F' H' → Q (.bl true) H'
theorem c__law_right_reckoning (T : Txt K mg a) : Cl P w K mg base 6 "_law_right_reckoning" P__law_right_reckoning (sp__law_right_reckoning K) [] :=
  T.d__law_right_reckoning.cl sc__law_right_reckoning (fun vs H Q E h => by obtain ⟨F, u, v, r, q, rfl, _⟩ := h; rfl) fun f cdv A outer s0 H vs Q E hr h => by
    obtain ⟨F, u, v, r, q, rfl, hu, hv, z1, z2, z3, z4, n1, n2, hf, k⟩ := h
    obtain ⟨p1, rfl, h1⟩ := id hu
    obtain ⟨p2, rfl, h2⟩ := id hv
    refine ⟨_, ((pss_cons (ps_set (i := 2) sc__law_right_reckoning.nd rfl (Or.inl rfl) (pe_op op_sub (pe_op op_mulW (pe_ix ix_tup (pv 0) pe_int (fun _ _ => rfl)) (pe_ix ix_tup (pv 1) pe_int (fun _ _ => rfl))) (pe_op op_mulW (pe_ix ix_tup (pv 1) pe_int (fun _ _ => rfl)) (pe_ix ix_tup (pv 0) pe_int (fun _ _ => rfl)))))
 (pss_cons (ps_set (i := 3) sc__law_right_reckoning.nd rfl (Or.inl rfl) pe_int)
 (pss_cons (ps_if (pt_cmpR op_gt (pv 2) pe_int (nomark _))
 (pss_one (ps_set (i := 3) sc__law_right_reckoning.nd rfl (Or.inl rfl) pe_int))
 pss_nil)
 (pss_cons (ps_if (pt_cmpR op_lt (pv 2) pe_int (nomark _))
 (pss_one (ps_set (i := 3) sc__law_right_reckoning.nd rfl (Or.inl rfl) (pe_un un_neg pe_int)))
 pss_nil)
 (pss_cons (ps_set (i := 4) sc__law_right_reckoning.nd rfl (Or.inl rfl) (pe_f (c_compare T) (takes_of rfl rfl rfl rfl) hr (by decide) rfl (pa_cons (pv 0) (pa_cons (pv 1) pa_nil))))
 (pss_cons (ps_if (PW.pt (pw_or (pt_not (pt_val (pe_f (c__law_integer T) (takes_of rfl rfl rfl rfl) hr (by decide) rfl (pa_cons (pv 4) pa_nil)))) (pw_or1 (pt_cmpR op_ne (pv 4) (pv 3) (nomark _)))))
 (pss_one (ps_ret pe_bl))
 pss_nil)
 (pss_cons (ps_if (PW.pt (pw_or (pt_not (pt_val (pe_f (c__law_same T) (takes_of rfl rfl rfl rfl) hr (by decide) rfl (pa_cons (pe_f (c_plus T) (takes_of rfl rfl rfl rfl) hr (by decide) rfl (pa_cons (pv 0) (pa_cons (pv 1) pa_nil))) (pa_cons (pe_f (c__law_plus T) (takes_of rfl rfl rfl rfl) hr (by decide) rfl (pa_cons (pv 0) (pa_cons (pv 1) pa_nil))) pa_nil))))) (pw_or1 (pt_not (pt_val (pe_f (c__law_same T) (takes_of rfl rfl rfl rfl) hr (by decide) rfl (pa_cons (pe_f (c_minus T) (takes_of rfl rfl rfl rfl) hr (by decide) rfl (pa_cons (pv 0) (pa_cons (pv 1) pa_nil))) (pa_cons (pe_f (c__law_minus T) (takes_of rfl rfl rfl rfl) hr (by decide) rfl (pa_cons (pv 0) (pa_cons (pv 1) pa_nil))) pa_nil))))))))
 (pss_one (ps_ret pe_bl))
 pss_nil)
 (pss_cons (ps_if (pt_not (pt_val (pe_f (c__law_same T) (takes_of rfl rfl rfl rfl) hr (by decide) rfl (pa_cons (pe_f (c_times T) (takes_of rfl rfl rfl rfl) hr (by decide) rfl (pa_cons (pv 0) (pa_cons (pv 1) pa_nil))) (pa_cons (pe_f (c__law_times T) (takes_of rfl rfl rfl rfl) hr (by decide) rfl (pa_cons (pv 0) (pa_cons (pv 1) pa_nil))) pa_nil)))))
 (pss_one (ps_ret pe_bl))
 pss_nil)
 (pss_cons (ps_set (i := 4) sc__law_right_reckoning.nd rfl (Or.inl rfl) (pe_f (c__law_over_told T) (takes_of rfl rfl rfl rfl) hr (by decide) rfl (pa_cons (pv 0) (pa_cons (pv 1) pa_nil))))
 (pss_cons (ps_if (pt_cmpR op_eq (pe_ix ix_tup (pv 1) pe_int (fun _ _ => rfl)) pe_int (nomark _))
 (pss_one (ps_ret (pe_and (pe_cmpR op_eq (pe_ix ix_tup (pv 4) pe_int (fun _ _ => rfl)) pe_str (nomark _)) (pe_one (pe_f (c__law_same T) (takes_of rfl rfl rfl rfl) hr (by decide) rfl (pa_cons (pe_ix ix_tup (pv 4) pe_int (fun _ _ => rfl)) (pa_cons (pv 0) pa_nil)))))))
 pss_nil)
 (pss_one (ps_ret (pe_and (pe_cmpR op_eq (pe_ix ix_tup (pv 4) pe_int (fun _ _ => rfl)) pe_str (nomark _)) (pe_one (pe_f (c__law_same T) (takes_of rfl rfl rfl rfl) hr (by decide) rfl (pa_cons (pe_ix ix_tup (pv 4) pe_int (fun _ _ => rfl)) (pa_cons (pe_f (c__law_over T) (takes_of rfl rfl rfl rfl) hr (by decide) rfl (pa_cons (pv 0) (pa_cons (pv 1) pa_nil))) pa_nil)))))))))))))))))), ?_⟩
    refine ⟨_, rfl, p1, _, _, _, rfl, rfl, upT hf h1, at0, _, rfl, p2, _, _, _, rfl, rfl, upT hf h2, at1, _, _, rfl, rfl, mulw z1 z4, ?_⟩
    refine ⟨_, rfl, p2, _, _, _, rfl, rfl, upT hf h2, at0, _, rfl, p1, _, _, _, rfl, rfl, upT hf h1, at1, _, _, rfl, rfl, mulw z3 z2, _, _, rfl, rfl, ?_⟩
    refine seq_with (fun σ2 H2 => [some (.ref p1), some (.ref p2), some (.int (r.1 * q.2 - q.1 * r.2)), none, none] = σ2 ∧ H = H2) (fun x hx => hx _ _ ⟨rfl, rfl⟩) ?_
    rintro _ _ ⟨rfl, rfl⟩
    refine seq_with (fun σ2 H2 => [some (.ref p1), some (.ref p2), some (.int (r.1 * q.2 - q.1 * r.2)), some (.int 0), none] = σ2 ∧ H = H2) (fun x hx => hx _ _ ⟨rfl, rfl⟩) ?_
    rintro _ _ ⟨rfl, rfl⟩
    refine seq_with (fun σ2 H2 => [some (.ref p1), some (.ref p2), some (.int (r.1 * q.2 - q.1 * r.2)), some (.int (if 0 < r.1 * q.2 - q.1 * r.2 then 1 else 0)), none] = σ2 ∧ H = H2) (fun x hx => ?_) ?_
    · refine ⟨_, rfl, _, _, rfl, rfl, _, rfl, ?_⟩
      by_cases c : 0 < r.1 * q.2 - q.1 * r.2
      · rw [if_pos c] at hx
        exact iteY (decide_eq_true c) (hx _ _ ⟨rfl, rfl⟩)
      · rw [if_neg c] at hx
        exact iteN (by rw [decide_eq_false c]; exact fun z => nomatch z) (hx _ _ ⟨rfl, rfl⟩)
    rintro _ _ ⟨rfl, rfl⟩
    refine seq_with (fun σ2 H2 => [some (.ref p1), some (.ref p2), some (.int (r.1 * q.2 - q.1 * r.2)), some (.int (rCmp r q)), none] = σ2 ∧ H = H2) (fun x hx => ?_) ?_
    · refine ⟨_, rfl, _, _, rfl, rfl, _, rfl, ?_⟩
      by_cases c : r.1 * q.2 - q.1 * r.2 < 0
      · have e : rCmp r q = -1 := by unfold rCmp; rw [if_neg (by omega), if_pos (by omega)]
        rw [e] at hx
        exact iteY (decide_eq_true c) ⟨_, rfl, hx _ _ ⟨rfl, rfl⟩⟩
      · have e : rCmp r q = if 0 < r.1 * q.2 - q.1 * r.2 then 1 else 0 := by
          unfold rCmp
          by_cases d : r.1 * q.2 = q.1 * r.2
          · rw [if_pos d, if_neg (by omega)]
          · rw [if_neg d, if_neg (by omega), if_pos (by omega)]
        rw [e] at hx
        exact iteN (by rw [decide_eq_false c]; exact fun z => nomatch z) (hx _ _ ⟨rfl, rfl⟩)
    rintro _ _ ⟨rfl, rfl⟩
    refine ⟨_, rfl, _, rfl, _, _, r, q, rfl, hu.up hf, hv.up hf, z1, z2, z3, z4, ?_⟩
    refine ⟨_, rfl, _, rfl, true, rfl, iteF ⟨_, rfl, _, rfl, rfl, _, rfl, iteN (by simp) ?_⟩⟩
    refine ⟨_, rfl, _, rfl, F, _, _, r, q, rfl, hu, hv, z1, z2, z3, z4, n1, n2, hf, fun F1 H1 x1 s1 g1 => ?_⟩
    refine ⟨_, rfl, _, rfl, F1, _, _, r, q, rfl, hu.up s1.ff, hv.up s1.ff, z1, z2, z3, z4, n1, n2, s1.fh, fun F2 H2 x2 s2 g2 => ?_⟩
    refine ⟨_, _, _, rfl, (g1.up s2.ff).up s2.fh, g2.up s2.fh, true, rfl, iteF ?_⟩
    have s2 := s1.transP s2
    refine ⟨_, rfl, _, rfl, F2, _, _, r, q, rfl, hu.up s2.ff, hv.up s2.ff, z1, z2, z3, z4, n1, n2, s2.fh, fun F3 H3 x3 s3 g3 => ?_⟩
    have t3 := s2.transP s3
    refine ⟨_, rfl, _, rfl, F3, _, _, r, q, rfl, hu.up t3.ff, hv.up t3.ff, z1, z2, z3, z4, n1, n2, t3.fh, fun F4 H4 x4 s4 g4 => ?_⟩
    refine ⟨_, _, _, rfl, (g3.up s4.ff).up s4.fh, g4.up s4.fh, true, rfl, iteF ?_⟩
    have t4 := t3.transP s4
    refine ⟨_, rfl, _, rfl, F4, _, _, r, q, rfl, hu.up t4.ff, hv.up t4.ff, z1, z2, z3, z4, n1, n2, t4.fh, fun F5 H5 x5 s5 g5 => ?_⟩
    have t5 := t4.transP s5
    refine ⟨_, rfl, _, rfl, F5, _, _, r, q, rfl, hu.up t5.ff, hv.up t5.ff, z1, z2, z3, z4, n1, n2, t5.fh, fun F6 H6 x6 s6 g6 => ?_⟩
    refine ⟨_, _, _, rfl, (g5.up s6.ff).up s6.fh, g6.up s6.fh, true, rfl, iteF ?_⟩
    have t6 := t5.transP s6
    refine ⟨_, rfl, _, rfl, F6, _, _, r, q, rfl, hu.up t6.ff, hv.up t6.ff, z1, z2, z3, z4, n1, n2, t6.fh, fun F7 H7 x7 s7 g7 => ?_⟩
    have t7 := t6.transP s7
    have f7 := t7.ff.trans t7.fh
    rcases g7 with ⟨h0, p, x, rfl, hp, hx⟩ | ⟨h0, p, rfl, hp⟩
    · have hp7 := upT s7.fh hp
      refine ⟨_, rfl, p2, _, _, _, rfl, rfl, upT f7 h2, at0, rfl, _, rfl, iteN (vint_ne h0) ?_⟩
      refine ⟨_, rfl, p, _, _, _, rfl, rfl, hp7, at0, rfl, _, rfl, iteY (by decide +kernel) ?_⟩
      refine ⟨_, rfl, p, _, _, _, rfl, rfl, hp7, at1, _, rfl, _, rfl, F7, _, _, r, q, rfl, hu.up t7.ff, hv.up t7.ff, z1, z2, z3, z4, n1, n2, h0, t7.fh, fun F8 H8 x8 s8 g8 => ?_⟩
      exact ⟨_, _, _, rfl, (hx.up s8.ff).up s8.fh, g8.up s8.fh, k F8 H8 (t7.transP s8)⟩
    · have hp7 := upT s7.fh hp
      refine ⟨_, rfl, p2, _, _, _, rfl, rfl, upT f7 h2, at0, rfl, _, rfl, iteY (vint_eq h0) ?_⟩
      refine ⟨_, rfl, p, _, _, _, rfl, rfl, hp7, at0, rfl, _, rfl, iteY (by decide +kernel) ?_⟩
      exact ⟨_, rfl, p, _, _, _, rfl, rfl, hp7, at1, _, rfl, _, _, r, rfl, hu.up f7, hu.up f7, k F7 H7 t7⟩
end
end K01

set_option Elab.async false
set_option linter.all false
set_option maxRecDepth 100000
set_option maxHeartbeats 4000000
set_option exponentiation.threshold 10000
namespace K01
open PySem PySem.Spec PyProof.Rows L2 Ew
open SX (S)
open NumText (digitsVal)
section
variable {K : PySem.W.Frag} {b p : Addr} {F H F' H' F2 H2 : Hp} {o : HO}
theorem newB (s : Sb b F H F' H') (B : Bag K b F' H') (hp : H' p = none) : Sb b F H (upd F' p o) (upd H' p o) ∧ Bag K b (upd F' p o) (upd H' p o) := by
  have nb : ¬ p = b := fun z => (memB K b).there B z hp
  have h0 : H p = none := s.fresh (fun x z => (memB K b).there B z) hp
  refine ⟨s.new hp h0, (memB K b).grow ((memB K b).put B nb) (same_new (s.fh.free hp)) fun x z => ?_⟩
  rw [upd_ne (fun q => nb (by rw [← q]; exact z))]
  exact (memB K b).off B z
theorem seqB (s : Sb b F H F' H') (B : Bag K b F' H') (s2 : Sb b F' H' F2 H2) : Sb b F H F2 H2 := s.then (memB K b) B s2
theorem pureB (s : Sb b F H F' H') (B : Bag K b F' H') (s2 : Stp F' H' F2 H2) : Sb b F H F2 H2 ∧ Bag K b F2 H2 := by
  refine ⟨seqB s B s2.any, ?_⟩
  obtain ⟨h, la, ns, at_, rest, mixed, count, h1, h2, h3, h4⟩ := B
  exact ⟨s2.nw b h (by rw [h4]; exact fun q => nomatch q), la, ns, at_, rest, mixed, count, h1, h2, upL s2.ff h3, s2.same b _ h4⟩
end
theorem sz_of {b : Nat} {n : Int} (k : Nat) (h : n.natAbs < 2 ^ k) (hk : k ≤ b) : Sz b n := Nat.lt_of_lt_of_le h (Nat.pow_le_pow_right (by decide) hk)
section
variable {P : Program} {w : World} {K : PySem.W.Frag} {mg : Str → Option Value} {base : Heap} {a : Ad}
def sp__law_number_of (K : PySem.W.Frag) : Sp := fun vs H Q _ => ∃ (F : Hp) (b : Addr), vs = [.ref b] ∧ Bag K b F H ∧ Same F H ∧ ∀ F' H' (n : Int), Sb b F H F' H' → Bag K b F' H' → n.natAbs < 10 ^ 401 → Q (.int n) H'
theorem nines : ∃ n : Int, intText? (S (List.replicate 400 57)) = some n ∧ 0 ≤ n ∧ n.natAbs < 10 ^ 400 := ⟨_, SX.int_S (by decide +kernel) (by decide) (by decide), by omega, by show digitsVal (List.replicate 400 57) < 10 ^ 400; decide +kernel⟩
theorem tens : ∃ n : Int, intText? (("1" : Str) ++ S (List.replicate 399 48)) = some n ∧ 0 ≤ n ∧ n.natAbs < 10 ^ 400 := by
  have e : ("1" : Str) = S [49] := by decide +kernel
  rw [e, SX.S_cat]
  exact ⟨_, SX.int_S (by decide +kernel) (by decide) (by decide), by omega, by show digitsVal ([49] ++ List.replicate 399 48) < 10 ^ 400; decide +kernel⟩
theorem wides : ∀ i : Int, 0 ≤ i → i < 10 → ∃ x : Int, atI [V.int 2, .int 4, .int 10, .int 10, .int 100, .int 1000, .int ((10 : Int) ^ (9 : Int).toNat), .int ((10 : Int) ^ (9 : Int).toNat), .int ((10 : Int) ^ (9 : Int).toNat), .int ((10 : Int) ^ (9 : Int).toNat)] i = some (.int x) ∧ 0 < x ∧ x ≤ 1000000000 := by
  intro i h0 h1
  have : i = 0 ∨ i = 1 ∨ i = 2 ∨ i = 3 ∨ i = 4 ∨ i = 5 ∨ i = 6 ∨ i = 7 ∨ i = 8 ∨ i = 9 := by omega
  rcases this with rfl | rfl | rfl | rfl | rfl | rfl | rfl | rfl | rfl | rfl <;> exact ⟨_, rfl, by decide, by decide⟩
theorem big : (1000000000 : Nat) * 10 ^ 40 + 10 ^ 12 < 10 ^ 400 := by decide +kernel
theorem sz7 {y z : Int} (h : y.natAbs < 1000000000) (y0 : 0 ≤ y) (z0 : 0 ≤ z) (z1 : z < (10 : Int) ^ (12 : Int).toNat) : (y * (10 : Int) ^ (40 : Int).toNat + z).natAbs < 10 ^ 400 := by
  have e1 : (10 : Int) ^ (40 : Int).toNat = 10000000000000000000000000000000000000000 := by decide +kernel
  have e2 : (10 : Int) ^ (12 : Int).toNat = 1000000000000 := by decide +kernel
  rw [e2] at z1
  rw [e1]
  have : (10 : Nat) ^ 60 < 10 ^ 400 := Nat.pow_lt_pow_right (by decide) (by decide)
  have e3 : (10 : Nat) ^ 60 = 1000000000000000000000000000000000000000000000000000000000000 := by decide +kernel
  rw [e3] at this
  generalize (10 : Nat) ^ 400 = N at this ⊢
  omega
theorem c__law_number_of (T : Txt K mg a) : Cl P w K mg base 3 "_law_number_of" P__law_number_of (sp__law_number_of K) [] :=
  T.d__law_number_of.cl sc__law_number_of (fun vs H Q E h => by obtain ⟨F, b, rfl, _⟩ := h; rfl) fun f cdv A outer s0 H vs Q E hr h => by
    obtain ⟨F, b, rfl, hB, hf, k⟩ := h
    refine ⟨_, ((pss_cons (ps_set (i := 1) sc__law_number_of.nd rfl (Or.inl rfl) (pe_f (c__law_pick T) (takes_of rfl rfl rfl rfl) hr (by decide) rfl (pa_cons (pv 0) (pa_cons pe_int pa_nil))))
 (pss_cons (ps_set (i := 2) sc__law_number_of.nd rfl (Or.inl rfl) (pe_f (c__law_pick T) (takes_of rfl rfl rfl rfl) hr (by decide) rfl (pa_cons (pv 0) (pa_cons (pe_ix ix_list (pe_lst (pa_cons pe_int (pa_cons pe_int (pa_cons pe_int (pa_cons pe_int (pa_cons pe_int (pa_cons pe_int (pa_cons (pe_op op_pow pe_int pe_int) (pa_cons (pe_op op_pow pe_int pe_int) (pa_cons (pe_op op_pow pe_int pe_int) (pa_cons (pe_op op_pow pe_int pe_int) pa_nil))))))))))) (pv 1) (fun _ _ => rfl)) pa_nil))))
 (pss_cons (ps_if (pt_cmpR op_eq (pv 1) pe_int (nomark _))
 (pss_one (ps_set (i := 2) sc__law_number_of.nd rfl (Or.inl rfl) (pe_op op_add (pe_op op_mul (pv 2) (pe_op op_pow pe_int pe_int)) (pe_f (c__law_pick T) (takes_of rfl rfl rfl rfl) hr (by decide) rfl (pa_cons (pv 0) (pa_cons (pe_op op_pow pe_int pe_int) pa_nil))))))
 pss_nil)
 (pss_cons (ps_if (pt_cmpR op_eq (pv 1) pe_int (nomark _))
 (pss_one (ps_set (i := 2) sc__law_number_of.nd rfl (Or.inl rfl) (pe_op op_sub (pe_callTy call_int_str (by rfl) T.n_int (by decide +kernel) (pa_cons (pe_op op_repC pe_str pe_int) pa_nil)) (pv 2))))
 pss_nil)
 (pss_cons (ps_if (pt_cmpR op_eq (pv 1) pe_int (nomark _))
 (pss_one (ps_set (i := 2) sc__law_number_of.nd rfl (Or.inl rfl) (pe_op op_add (pe_callTy call_int_str (by rfl) T.n_int (by decide +kernel) (pa_cons (pe_op op_add_str pe_str (pe_op op_repC pe_str pe_int)) pa_nil)) (pv 2))))
 pss_nil)
 (pss_cons (ps_if (pt_val (pe_f (c__law_one_in T) (takes_of rfl rfl rfl rfl) hr (by decide) rfl (pa_cons (pv 0) (pa_cons pe_int pa_nil))))
 (pss_one (ps_set (i := 2) sc__law_number_of.nd rfl (Or.inl rfl) (pe_op op_sub pe_int (pv 2))))
 pss_nil)
 (pss_one (ps_ret (pv 2)))))))))), ?_⟩
    refine ⟨_, rfl, F, b, _, rfl, hB, hf, by decide, sz_of 4 (by decide) (by decide), fun H1 i s1 B1 i0 i1 => ?_⟩
    refine ⟨_, rfl, _, _, rfl, rfl, ⟨by decide, by decide, by decide⟩, _, _, rfl, rfl, ⟨by decide, by decide, by decide⟩, _, _, rfl, rfl, ⟨by decide, by decide, by decide⟩, _, _, rfl, rfl, ⟨by decide, by decide, by decide⟩, by show 10 ≤ sizeLine; decide, fun p hp => ?_⟩
    obtain ⟨s2, B2⟩ := newB (o := .lst [V.int 2, .int 4, .int 10, .int 10, .int 100, .int 1000, .int ((10 : Int) ^ (9 : Int).toNat), .int ((10 : Int) ^ (9 : Int).toNat), .int ((10 : Int) ^ (9 : Int).toNat), .int ((10 : Int) ^ (9 : Int).toNat)]) s1 B1 hp
    obtain ⟨x, hx, x0, x1⟩ := wides i i0 i1
    refine ⟨_, rfl, p, _, _, _, rfl, rfl, SqL.of upd_same, hx, _, b, _, rfl, B2, s2.fh, x0, sz_of 31 (by omega) (by decide), fun H3 y s3 B3 y0 y1 => ?_⟩
    have s3 := seqB s2 B2 s3
    generalize hF : upd F p _ = F3 at s3 B3
    clear hF s2 B2
    have yb : y.natAbs < 1000000000 := by omega
    refine seq_with (fun σ2 H2 => [some (.ref b), some (.int i), some (.int y)] = σ2 ∧ H3 = H2) (fun u hu => hu _ _ ⟨rfl, rfl⟩) ?_
    rintro _ _ ⟨rfl, rfl⟩
    have bg := big
    refine seq_with (fun σ2 H2 => ∃ m : Int, [some (.ref b), some (.int i), some (.int m)] = σ2 ∧ Sb b F H F3 H2 ∧ Bag K b F3 H2 ∧ m.natAbs < 10 ^ 400 ∧ (i ≠ 7 → m = y)) (fun u hu => ?_) ?_
    · refine ⟨_, rfl, rfl, _, rfl, ?_⟩
      by_cases e : i = 7
      · refine iteY (vint_eq e) ⟨_, rfl, _, _, rfl, rfl, ⟨by decide, by decide, by decide⟩, _, _, rfl, rfl, .inl ⟨by omega, by omega⟩, _, rfl, _, _, rfl, rfl, ⟨by decide, by decide, by decide⟩, F3, b, _, rfl, B3, s3.fh, by decide, sz_of 50 (by decide) (by decide), fun H4 z s4 B4 z0 z1 => ⟨_, _, rfl, rfl, ?_⟩⟩
        exact hu _ _ ⟨_, rfl, seqB s3 B3 s4, B4, sz7 yb y0 z0 z1, fun n => absurd e n⟩
      · exact iteN (vint_ne e) (hu _ _ ⟨y, rfl, s3, B3, by omega, fun _ => rfl⟩)
    rintro _ H4 ⟨m, rfl, s4, B4, mb, mi⟩
    refine seq_with (fun σ2 H2 => ∃ m : Int, [some (.ref b), some (.int i), some (.int m)] = σ2 ∧ H4 = H2 ∧ (m.natAbs < 10 ^ 400 ∨ (i = 8 ∧ m.natAbs < 10 ^ 400 + 1000000000)) ∧ (i = 9 → m = y)) (fun u hu => ?_) ?_
    · refine ⟨_, rfl, rfl, _, rfl, ?_⟩
      by_cases e : i = 8
      · refine iteY (vint_eq e) ?_
        obtain ⟨n, hn, n0, n1⟩ := nines
        refine ⟨57, 400, by show V.str ("9" : Str) = _; exact congrArg V.str (by decide +kernel), rfl, by decide, by decide, _, _, rfl, hn, by decide +kernel, _, rfl, _, _, rfl, rfl, ?_⟩
        refine hu _ _ ⟨_, rfl, rfl, .inr ⟨e, ?_⟩, fun z => by omega⟩
        rw [mi (by omega)]
        generalize (10 : Nat) ^ 400 = N at n1 ⊢
        omega
      · exact iteN (vint_ne e) (hu _ _ ⟨m, rfl, rfl, .inl mb, fun z => mi (by omega)⟩)
    rintro _ _ ⟨m2, rfl, rfl, mb2, mi2⟩
    refine seq_with (fun σ2 H2 => ∃ m : Int, [some (.ref b), some (.int i), some (.int m)] = σ2 ∧ H4 = H2 ∧ m.natAbs < 10 ^ 401) (fun u hu => ?_) ?_
    · have pw : (10 : Nat) ^ 401 = 10 * 10 ^ 400 := by rw [Nat.pow_succ, Nat.mul_comm]
      have lo : (10 : Nat) ^ 20 < 10 ^ 400 := Nat.pow_lt_pow_right (by decide) (by decide)
      have e20 : (10 : Nat) ^ 20 = 100000000000000000000 := by decide +kernel
      rw [e20] at lo
      refine ⟨_, rfl, rfl, _, rfl, ?_⟩
      by_cases e : i = 9
      · refine iteY (vint_eq e) ?_
        obtain ⟨n, hn, n0, n1⟩ := tens
        refine ⟨48, 399, by show V.str ("0" : Str) = _; exact congrArg V.str (by decide +kernel), rfl, by decide, by decide, _, _, rfl, rfl, by decide +kernel, _, _, rfl, hn, by decide +kernel, _, rfl, _, _, rfl, rfl, ?_⟩
        refine hu _ _ ⟨_, rfl, rfl, ?_⟩
        rw [mi2 e, pw]
        generalize (10 : Nat) ^ 400 = N at n1 lo ⊢
        omega
      · refine iteN (vint_ne e) (hu _ _ ⟨m2, rfl, rfl, ?_⟩)
        rw [pw]
        generalize (10 : Nat) ^ 400 = N at mb2 lo ⊢
        omega
    rintro _ _ ⟨m3, rfl, rfl, mb3⟩
    refine seq_with (fun σ2 H2 => ∃ m : Int, [some (.ref b), some (.int i), some (.int m)] = σ2 ∧ Sb b F H F3 H2 ∧ Bag K b F3 H2 ∧ m.natAbs < 10 ^ 401) (fun u hu => ?_) ?_
    · refine ⟨_, rfl, F3, b, _, rfl, B4, s4.fh, by decide, sz_of 3 (by decide) (by decide), fun H5 c s5 B5 => ⟨c, rfl, ?_⟩⟩
      have s5 := seqB s4 B4 s5
      refine ite2 (fun e => ?_) (fun e => ?_)
      · refine ⟨_, rfl, _, _, rfl, rfl, hu _ _ ⟨_, rfl, s5, B5, ?_⟩⟩
        rw [Int.zero_sub, Int.natAbs_neg]
        exact mb3
      · exact hu _ _ ⟨m3, rfl, s5, B5, mb3⟩
    rintro _ H5 ⟨m4, rfl, s5, B5, mb4⟩
    exact ⟨_, rfl, k F3 H5 m4 s5 B5 mb4⟩
end
end K01

set_option Elab.async false
set_option linter.all false
set_option maxRecDepth 100000
set_option maxHeartbeats 4000000
set_option exponentiation.threshold 10000
namespace K01
open PySem PySem.Spec PyProof.Rows L2 Ew
open SX (S)
/-- small, in lowest terms, the lower part above 0 -/
structure Gd (b : Nat) (r : Int × Int) : Prop where
  a : Sz b r.1
  b : Sz b r.2
  p : 0 < r.2
  c : Nat.gcd r.1.natAbs r.2.natAbs = 1
theorem Gd.rat {b : Nat} {n d : Int} (h1 : Sz b n) (h2 : Sz b d) (h0 : d ≠ 0) : Gd b (rat n d) := ⟨(rat_sz h1 h2).1, (rat_sz h1 h2).2, rat_pos h0, rat_cop h0⟩
theorem Gd.ne {b : Nat} {r : Int × Int} (h : Gd b r) : r.2 ≠ 0 := fun z => absurd h.p (by rw [z]; decide)
theorem gd_neg {b : Nat} {r : Int × Int} (h : Gd b r) : Gd b (0 - r.1, r.2) := ⟨by have := h.a.neg; rwa [← Int.zero_sub] at this, h.b, h.p, by show Nat.gcd (0 - r.1).natAbs r.2.natAbs = 1; rw [Int.zero_sub, Int.natAbs_neg]; exact h.c⟩
theorem n401 {n : Int} (h : n.natAbs < 10 ^ 401) : Sz 1340 n := Nat.lt_trans h (by decide +kernel)
theorem sz1b : Sz 1340 1 := by unfold Sz; exact Nat.one_lt_two_pow (by decide)
theorem sz0b : Sz 1340 0 := by unfold Sz; exact Nat.two_pow_pos _
section
variable {P : Program} {w : World} {K : PySem.W.Frag} {mg : Str → Option Value} {base : Heap} {a : Ad}
def sp__law_second_of (K : PySem.W.Frag) : Sp := fun vs H Q _ => ∃ (F : Hp) (b : Addr) (u : V) (r : Int × Int), vs = [.ref b, u] ∧ Bag K b F H ∧ Same F H ∧ Rt K F u r ∧ Gd 1340 r ∧ ∀ F' H' v q, Sb b F H F' H' → Bag K b F' H' → Rt K F' v q → Gd 1340 q → Q v H'
theorem c__law_second_of (T : Txt K mg a) : Cl P w K mg base 4 "_law_second_of" P__law_second_of (sp__law_second_of K) [] :=
  T.d__law_second_of.cl sc__law_second_of (fun vs H Q E h => by obtain ⟨F, b, u, r, rfl, _⟩ := h; rfl) fun f cdv A outer s0 H vs Q E hr h => by
    obtain ⟨F, b, u, r, rfl, hB, hf, hu, g, k⟩ := h
    obtain ⟨p, rfl, hp⟩ := id hu
    refine ⟨_, ((pss_cons (ps_set (i := 2) sc__law_second_of.nd rfl (Or.inl rfl) (pe_f (c__law_pick T) (takes_of rfl rfl rfl rfl) hr (by decide) rfl (pa_cons (pv 0) (pa_cons pe_int pa_nil))))
 (pss_cons (ps_if (pt_cmpR op_eq (pv 2) pe_int (nomark _))
 (pss_one (ps_ret (pv 1)))
 pss_nil)
 (pss_cons (ps_if (pt_cmpR op_eq (pv 2) pe_int (nomark _))
 (pss_one (ps_ret (pe_tup (pa_cons (pe_op op_sub pe_int (pe_ix ix_tup (pv 1) pe_int (fun _ _ => rfl))) (pa_cons (pe_ix ix_tup (pv 1) pe_int (fun _ _ => rfl)) pa_nil)))))
 pss_nil)
 (pss_cons (ps_if (PW.pt (pw_and (pt_cmpR op_eq (pv 2) pe_int (nomark _)) (pw_and1 (pt_cmpR op_ne (pe_ix ix_tup (pv 1) pe_int (fun _ _ => rfl)) pe_int (nomark _)))))
 (pss_one (ps_ret (pe_f (c__law_ratio T) (takes_of rfl rfl rfl rfl) hr (by decide) rfl (pa_cons (pe_ix ix_tup (pv 1) pe_int (fun _ _ => rfl)) (pa_cons (pe_ix ix_tup (pv 1) pe_int (fun _ _ => rfl)) pa_nil)))))
 pss_nil)
 (pss_cons (ps_if (pt_cmpR op_eq (pv 2) pe_int (nomark _))
 (pss_one (ps_ret (pe_f (c__law_ratio T) (takes_of rfl rfl rfl rfl) hr (by decide) rfl (pa_cons (pe_f (c__law_number_of T) (takes_of rfl rfl rfl rfl) hr (by decide) rfl (pa_cons (pv 0) pa_nil)) (pa_cons (pe_ix ix_tup (pv 1) pe_int (fun _ _ => rfl)) pa_nil)))))
 pss_nil)
 (pss_cons (ps_if (pt_cmpR op_eq (pv 2) pe_int (nomark _))
 (pss_one (ps_ret (pe_tup (pa_cons pe_int (pa_cons pe_int pa_nil)))))
 pss_nil)
 (pss_cons (ps_if (pt_cmpR op_eq (pv 2) pe_int (nomark _))
 (pss_cons (ps_set (i := 3) sc__law_second_of.nd rfl (Or.inl rfl) (pe_ifExp (pt_cmpR op_gt (pe_ix ix_tup (pv 1) pe_int (fun _ _ => rfl)) pe_int (nomark _)) (pe_op op_sub (pe_ix ix_tup (pv 1) pe_int (fun _ _ => rfl)) pe_int) (pe_op op_add (pe_ix ix_tup (pv 1) pe_int (fun _ _ => rfl)) pe_int)))
 (pss_one (ps_ret (pe_f (c__law_ratio T) (takes_of rfl rfl rfl rfl) hr (by decide) rfl (pa_cons (pv 3) (pa_cons (pe_ix ix_tup (pv 1) pe_int (fun _ _ => rfl)) pa_nil))))))
 pss_nil)
 (pss_one (ps_ret (pe_f (c__law_ratio T) (takes_of rfl rfl rfl rfl) hr (by decide) rfl (pa_cons (pe_f (c__law_number_of T) (takes_of rfl rfl rfl rfl) hr (by decide) rfl (pa_cons (pv 0) pa_nil)) (pa_cons (pe_callB (call_max2 rfl) (by rfl) T.n_max (by decide +kernel) (pa_cons pe_int (pa_cons (pe_callB call_abs (by rfl) T.n_abs (by decide +kernel) (pa_cons (pe_f (c__law_number_of T) (takes_of rfl rfl rfl rfl) hr (by decide) rfl (pa_cons (pv 0) pa_nil)) pa_nil)) pa_nil))) pa_nil))))))))))))), ?_⟩
    refine ⟨_, rfl, F, b, _, rfl, hB, hf, by decide, sz_of 4 (by decide) (by decide), fun H1 i s1 B1 i0 i1 => ?_⟩
    have hp1 := upT s1.fh hp
    refine ⟨_, rfl, rfl, _, rfl, ?_⟩
    by_cases w0 : i = 0
    · exact iteY (vint_eq w0) ⟨_, rfl, k F H1 _ r s1 B1 hu g⟩
    refine iteN (vint_ne w0) ⟨_, rfl, rfl, _, rfl, ?_⟩
    by_cases w1 : i = 1
    · refine iteY (vint_eq w1) ⟨_, rfl, p, _, _, _, rfl, rfl, hp1, at0, _, _, rfl, rfl, _, rfl, p, _, _, _, rfl, rfl, hp1, at1, by show 2 ≤ sizeLine; decide, fun q hq => ?_⟩
      obtain ⟨s2, B2⟩ := newB (o := .tup [.int (0 - r.1), .int r.2]) s1 B1 hq
      exact k _ _ _ (0 - r.1, r.2) s2 B2 ⟨q, rfl, sq_new⟩ (gd_neg g)
    have rt : ∀ (H2 : Hp) (n d : Int), Sb b F H F H2 → Bag K b F H2 → Sz 1340 n → Sz 1340 d → d ≠ 0 → sp_ratio K [.int n, .int d] H2 Q (fun _ _ _ => False) := fun H2 n d s2 B2 h1 h2 h0 => ⟨F, n, d, rfl, h0, h2.mono (by decide), s2.fh, fun F3 H3 v s3 hv => by
      obtain ⟨s3, B3⟩ := pureB s2 B2 s3
      exact k F3 H3 v _ s3 B3 hv (Gd.rat h1 h2 h0)⟩
    have hab : ∀ i : Int, (if i < 0 then -i else i) = (i.natAbs : Int) := fun i => by split <;> omega
    refine iteN (vint_ne w1) ?_
    refine seq_with (fun σ2 H2 => [some (.ref b), some (.ref p), some (.int i), none] = σ2 ∧ H1 = H2) (fun x hx => hx _ _ ⟨rfl, rfl⟩) ?_
    rintro _ _ ⟨rfl, rfl⟩
    refine seq_with (fun σ2 H2 => [some (.ref b), some (.ref p), some (.int i), none] = σ2 ∧ H1 = H2) (fun x hx => ?_) ?_
    · refine ⟨_, rfl, rfl, _, rfl, ?_⟩
      by_cases w2 : i = 2
      · refine iteY (vint_eq w2) ⟨_, rfl, p, _, _, _, rfl, rfl, hp1, at0, rfl, _, rfl, ?_⟩
        by_cases z : r.1 = 0
        · have := vint_eq z
          rw [this]
          exact iteF (hx _ _ ⟨rfl, rfl⟩)
        · have := vint_ne z
          rw [Bool.not_eq_true] at this
          rw [this]
          exact iteT ⟨_, rfl, p, _, _, _, rfl, rfl, hp1, at1, _, rfl, p, _, _, _, rfl, rfl, hp1, at0, rt H1 _ _ s1 B1 g.b g.a z⟩
      · exact iteN (vint_ne w2) (iteF (hx _ _ ⟨rfl, rfl⟩))
    rintro _ _ ⟨rfl, rfl⟩
    refine ⟨_, rfl, rfl, _, rfl, ?_⟩
    by_cases w3 : i = 3
    · refine iteY (vint_eq w3) ⟨_, rfl, F, b, rfl, B1, s1.fh, fun F2 H2 n s2 B2 hn => ?_⟩
      have s2 := seqB s1 B1 s2
      have hp2 := upT (s2.ff.trans s2.fh) hp
      refine ⟨_, rfl, p, _, _, _, rfl, rfl, hp2, at1, F2, n, _, rfl, g.ne, g.b.mono (by decide), s2.fh, fun F3 H3 v s3 hv => ?_⟩
      obtain ⟨s3, B3⟩ := pureB s2 B2 s3
      exact k F3 H3 v _ s3 B3 hv (Gd.rat (n401 hn) g.b g.ne)
    refine iteN (vint_ne w3) ⟨_, rfl, rfl, _, rfl, ?_⟩
    by_cases w4 : i = 4
    · refine iteY (vint_eq w4) ⟨by show 2 ≤ sizeLine; decide, fun q hq => ?_⟩
      obtain ⟨s2, B2⟩ := newB (o := .tup [.int 0, .int 1]) s1 B1 hq
      exact k _ _ _ (0, 1) s2 B2 ⟨q, rfl, sq_new⟩ ⟨sz0b, sz1b, by decide, by decide⟩
    refine iteN (vint_ne w4) ⟨_, rfl, rfl, _, rfl, ?_⟩
    have one : (1 : Nat) < 2 ^ 1340 := Nat.one_lt_two_pow (by decide)
    have ga : r.1.natAbs < 2 ^ 1340 := g.a
    by_cases w5 : i = 5
    · refine iteY (vint_eq w5) ⟨_, rfl, p, _, _, _, rfl, rfl, hp1, at0, _, _, rfl, rfl, _, rfl, ?_⟩
      by_cases c : 0 < r.1
      · refine iteY (decide_eq_true c) ⟨_, rfl, p, _, _, _, rfl, rfl, hp1, at0, _, _, rfl, rfl, ?_⟩
        refine ⟨_, rfl, _, rfl, p, _, _, _, rfl, rfl, hp1, at1, rt H1 _ _ s1 B1 ?_ g.b g.ne⟩
        unfold Sz
        generalize (2 : Nat) ^ 1340 = N at one ga ⊢
        omega
      · refine iteN (by rw [decide_eq_false c]; exact fun z => nomatch z) ⟨_, rfl, p, _, _, _, rfl, rfl, hp1, at0, _, _, rfl, rfl, ?_⟩
        refine ⟨_, rfl, _, rfl, p, _, _, _, rfl, rfl, hp1, at1, rt H1 _ _ s1 B1 ?_ g.b g.ne⟩
        unfold Sz
        generalize (2 : Nat) ^ 1340 = N at one ga ⊢
        omega
    refine iteN (vint_ne w5) ⟨_, rfl, F, b, rfl, B1, s1.fh, fun F2 H2 n s2 B2 hn => ?_⟩
    have s2 := seqB s1 B1 s2
    refine ⟨_, rfl, F2, b, rfl, B2, s2.fh, fun F3 H3 d s3 B3 hd => ⟨_, rfl, ?_⟩⟩
    have s3 := seqB s2 B2 s3
    rw [hab]
    have hm : (if ((d.natAbs : Nat) : Int) > 1 then ((d.natAbs : Nat) : Int) else 1) ≠ 0 ∧ Sz 1340 (if ((d.natAbs : Nat) : Int) > 1 then ((d.natAbs : Nat) : Int) else 1) := by
      have hd := n401 hd
      unfold Sz at hd
      by_cases c : ((d.natAbs : Nat) : Int) > 1
      · rw [if_pos c]
        exact ⟨by omega, by unfold Sz; rw [Int.natAbs_natCast]; exact hd⟩
      · rw [if_neg c]
        exact ⟨by decide, sz1b⟩
    refine ⟨_, _, rfl, F3, n, _, rfl, hm.1, hm.2.mono (by decide), s3.fh, fun F4 H4 v s4 hv => ?_⟩
    obtain ⟨s4, B4⟩ := pureB s3 B3 s4
    exact k F4 H4 v _ s4 B4 hv (Gd.rat (n401 hn) hm.2 hm.1)
end
end K01

set_option Elab.async false
set_option linter.all false
set_option maxRecDepth 100000
set_option maxHeartbeats 4000000
set_option exponentiation.threshold 10000
namespace K01
open PySem PySem.Spec PyProof.Rows L2 Ew
open SX (S)
theorem S_self (x : Str) : x = S x.cps.toList := (SX.S_tl x).symm
theorem find_ge (x y : Str) : -1 ≤ Txt.find x y := by
  unfold Txt.find
  split <;> omega
def textOf (r : Int × Int) : Str := if r.2 = 1 then Str.ofString (toString r.1) else Str.ofString (toString r.1) ++ "/" ++ Str.ofString (toString r.2)
theorem empty_cat (x : Str) : Str.empty ++ x = x := by
  have e : Str.empty = S [] := rfl
  rw [S_self x, e, SX.S_cat, List.nil_append]
theorem log_of {n : Int} (h : Sz 1340 n) : n.natAbs.log2 < 1920 := Nat.lt_of_lt_of_le (PySem.Flt.log2_lt_of (by decide) h) (by decide)
theorem textOf_len {r : Int × Int} (h1 : Sz 1340 r.1) (h2 : Sz 1340 r.2) : (textOf r).length ≤ 3843 := by
  have l1 := txt_len (log_of h1)
  have l2 := txt_len (log_of h2)
  unfold textOf
  split
  · omega
  · rw [PySem.Str.length_append, PySem.Str.length_append]
    show _ + 1 + _ ≤ _
    omega
section
variable {P : Program} {w : World} {K : PySem.W.Frag} {mg : Str → Option Value} {base : Heap} {a : Ad}
theorem c__law_text_of (T : Txt K mg a) : Cl P w K mg base 1 "_law_text_of" P__law_text_of (fun vs H Q _ => ∃ (u : V) (r : Int × Int), vs = [u] ∧ Rt K H u r ∧ Sz 1340 r.1 ∧ Sz 1340 r.2 ∧ Q (.str (textOf r)) H) [] :=
  T.d__law_text_of.cl sc__law_text_of (fun vs H Q E h => by obtain ⟨u, r, rfl, _⟩ := h; rfl) fun f cdv A outer s0 H vs Q E hr h => by
    obtain ⟨u, r, rfl, ⟨p, rfl, hp⟩, z1, z2, k⟩ := h
    have l1 := txt_len (log_of z1)
    have l2 := txt_len (log_of z2)
    refine ⟨_, ((pss_cons (ps_if (pt_cmpR op_eq (pe_ix ix_tup (pv 0) pe_int (fun _ _ => rfl)) pe_int (nomark _))
 (pss_one (ps_ret (pe_callTy call_str_int (by rfl) T.n_str (by decide +kernel) (pa_cons (pe_ix ix_tup (pv 0) pe_int (fun _ _ => rfl)) pa_nil))))
 pss_nil)
 (pss_one (ps_ret (pe_op op_add_str (pe_op op_add_str (pe_callTy call_str_int (by rfl) T.n_str (by decide +kernel) (pa_cons (pe_ix ix_tup (pv 0) pe_int (fun _ _ => rfl)) pa_nil)) pe_str) (pe_callTy call_str_int (by rfl) T.n_str (by decide +kernel) (pa_cons (pe_ix ix_tup (pv 0) pe_int (fun _ _ => rfl)) pa_nil))))))), ?_⟩
    refine ⟨_, rfl, p, _, _, _, rfl, rfl, hp, at1, rfl, _, rfl, ?_⟩
    unfold textOf at k
    by_cases e : r.2 = 1
    · rw [if_pos e] at k
      exact iteY (vint_eq e) ⟨_, rfl, p, _, _, _, rfl, rfl, hp, at0, _, rfl, log_of z1, k⟩
    · rw [if_neg e] at k
      refine iteN (vint_ne e) ⟨_, rfl, p, _, _, _, rfl, rfl, hp, at0, _, rfl, log_of z1, _, _, rfl, rfl, ?_, _, rfl, p, _, _, _, rfl, rfl, hp, at1, _, rfl, log_of z2, _, _, rfl, rfl, ?_, k⟩
      · rw [sizeLine_eq]; show _ + 1 ≤ _; omega
      · rw [PySem.Str.length_append, sizeLine_eq]; show _ + 1 + _ ≤ _; omega
def sp__law_spoilt (K : PySem.W.Frag) : Sp := fun vs H Q _ => ∃ (F : Hp) (b : Addr) (L : List Nat), vs = [.ref b, .str (S L)] ∧ L.length ≤ 10000 ∧ Bag K b F H ∧ Same F H ∧ ∀ F' H' M, Sb b F H F' H' → Bag K b F' H' → M.length ≤ L.length + 2 → Q (.str (S M)) H'
theorem c__law_spoilt (T : Txt K mg a) : Cl P w K mg base 3 "_law_spoilt" P__law_spoilt (sp__law_spoilt K) [] :=
  T.d__law_spoilt.cl sc__law_spoilt (fun vs H Q E h => by obtain ⟨F, b, L, rfl, _⟩ := h; rfl) fun f cdv A outer s0 H vs Q E hr h => by
    obtain ⟨F, b, L, rfl, hl, hB, hf, k⟩ := h
    refine ⟨_, ((pss_cons (ps_for (passes_of rfl) rfl (pi_range1 (by rfl) T.n_range (pa_cons (pe_op op_add pe_int (pe_f (c__law_pick T) (takes_of rfl rfl rfl rfl) hr (by decide) rfl (pa_cons (pv 0) (pa_cons pe_int pa_nil)))) pa_nil)) (pg_name (i := 2) sc__law_spoilt.nd rfl (Or.inl rfl))
 (pss_cons (ps_set (i := 3) sc__law_spoilt.nd rfl (Or.inl rfl) (pe_f (c__law_choice T) (takes_of rfl rfl rfl rfl) hr (by decide) rfl (pa_cons (pv 0) (pa_cons (pe_lst (pa_cons pe_int (pa_cons pe_int (pa_cons (pe_callB call_len_str (by rfl) T.n_len (by decide +kernel) (pa_cons (pv 1) pa_nil)) (pa_cons (pe_callB (call_max2 rfl) (by rfl) T.n_max (by decide +kernel) (pa_cons pe_int (pa_cons (pe_op op_sub (pe_callB call_len_str (by rfl) T.n_len (by decide +kernel) (pa_cons (pv 1) pa_nil)) pe_int) pa_nil))) (pa_cons (pe_op op_add (pe_m1 PySem.F.slot_str_find PySem.F.type_str_find mt_find (pv 1) pe_str) pe_int) (pa_cons (pe_f (c__law_pick T) (takes_of rfl rfl rfl rfl) hr (by decide) rfl (pa_cons (pv 0) (pa_cons (pe_op op_add (pe_callB call_len_str (by rfl) T.n_len (by decide +kernel) (pa_cons (pv 1) pa_nil)) pe_int) pa_nil))) pa_nil))))))) pa_nil))))
 (pss_cons (ps_set (i := 4) sc__law_spoilt.nd rfl (Or.inl rfl) (pe_f (c__law_choice T) (takes_of rfl rfl rfl rfl) hr (by decide) rfl (pa_cons (pv 0) (pa_cons pe_str pa_nil))))
 (pss_cons (ps_set (i := 5) sc__law_spoilt.nd rfl (Or.inl rfl) (pe_f (c__law_pick T) (takes_of rfl rfl rfl rfl) hr (by decide) rfl (pa_cons (pv 0) (pa_cons pe_int pa_nil))))
 (pss_one (ps_if (pt_cmpR op_eq (pv 5) pe_int (nomark _))
 (pss_one (ps_set (i := 1) sc__law_spoilt.nd rfl (Or.inl rfl) (pe_op op_add_str (pe_op op_add_str (pe_slice C8.sl_txt (pv 1) po_none (po_some (pv 3))) (pv 4)) (pe_slice C8.sl_txt (pv 1) (po_some (pv 3)) po_none))))
 (pss_one (ps_if (pt_cmpR op_eq (pv 5) pe_int (nomark _))
 (pss_one (ps_set (i := 1) sc__law_spoilt.nd rfl (Or.inl rfl) (pe_op op_add_str (pe_slice C8.sl_txt (pv 1) po_none (po_some (pv 3))) (pe_slice C8.sl_txt (pv 1) (po_some (pe_op op_add (pv 3) pe_int)) po_none))))
 (pss_one (ps_set (i := 1) sc__law_spoilt.nd rfl (Or.inl rfl) (pe_op op_add_str (pe_op op_add_str (pe_slice C8.sl_txt (pv 1) po_none (po_some (pv 3))) (pv 4)) (pe_slice C8.sl_txt (pv 1) (po_some (pe_op op_add (pv 3) pe_int)) po_none))))))))))))
 (pss_one (ps_ret (pv 1))))), ?_⟩
    refine ⟨_, rfl, F, b, _, rfl, hB, hf, by decide, sz_of 2 (by decide) (by decide), fun H1 n s1 B1 n0 n1 => ⟨_, _, rfl, rfl, _, rfl, by omega, by omega, ?_⟩⟩
    refine for_it walk_range (fun i σ' H' => ∃ F' M c2 c3 c4 c5, σ' = [some (.ref b), some (.str (S M)), c2, c3, c4, c5] ∧ Sb b F H F' H' ∧ Bag K b F' H' ∧ M.length ≤ L.length + i) ⟨F, L, none, none, none, none, rfl, s1, B1, Nat.le_refl _⟩ (fun _ _ _ _ _ => trivial) ?_ ?_
    · rintro i _ _ H' _ hi ⟨F2, M, c2, c3, c4, c5, rfl, s2, B2, lM⟩ ⟨rfl, rfl⟩
      have hi : i < 2 := by omega
      have len : (S M).length = M.length := SX.S_len M
      have szl : (S M).length ≤ sizeLine := by rw [len, sizeLine_eq]; omega
      refine ⟨_, rfl, _, rfl, S M, rfl, szl, _, rfl, S M, rfl, szl, _, _, rfl, rfl, _, _, rfl, ?_⟩
      refine ⟨_, rfl, ⟨_, rfl⟩, _, _, rfl, rfl, _, _, rfl, rfl, ?_⟩
      refine ⟨_, rfl, _, rfl, S M, rfl, szl, _, _, rfl, rfl, F2, b, _, rfl, B2, s2.fh, by rw [len]; omega, by rw [len]; exact sz_of 20 (by omega) (by decide), fun H3 j s3 B3 j0 j1 => ?_⟩
      have s3 := seqB s2 B2 s3
      refine ⟨by show 6 ≤ sizeLine; decide, fun p hp => ?_⟩
      obtain ⟨s4, B4⟩ := newB (o := .lst [.int 0, .int 1, .int ((S M).length : Int), .int (if ((S M).length : Int) - 1 > 0 then ((S M).length : Int) - 1 else 0), .int (Txt.find (S M) "/" + 1), .int j]) s3 B3 hp
      refine ⟨_, b, _, [.int 0, .int 1, .int ((S M).length : Int), .int (if ((S M).length : Int) - 1 > 0 then ((S M).length : Int) - 1 else 0), .int (Txt.find (S M) "/" + 1), .int j], rfl, .inl ⟨p, rfl, SqL.of upd_same⟩, (fun z => nomatch z), (by show 6 ≤ 1000; decide), B4, s4.fh, fun H5 x q s5 B5 hx => ?_⟩
      obtain ⟨at_, rfl, a0⟩ : ∃ at_ : Int, x = .int at_ ∧ 0 ≤ at_ := by
        have fg := find_ge (S M) "/"
        match q, hx with
        | 0, e => cases e; exact ⟨_, rfl, by omega⟩
        | 1, e => cases e; exact ⟨_, rfl, by omega⟩
        | 2, e => cases e; exact ⟨_, rfl, by omega⟩
        | 3, e => cases e; exact ⟨_, rfl, by split <;> omega⟩
        | 4, e => cases e; exact ⟨_, rfl, by omega⟩
        | 5, e => cases e; exact ⟨_, rfl, j0⟩
      have s5 := seqB s4 B4 s5
      generalize hF : upd F2 p _ = F5 at s5 B5
      clear hF s4 B4
      refine ⟨_, rfl, F5, b, _, _, rfl, .inr (.inr ⟨_, rfl, by rw [sizeLine_eq]; decide +kernel, rfl⟩), by decide +kernel, by decide +kernel, B5, s5.fh, fun H6 y q6 s6 B6 hy => ?_⟩
      have s6 := seqB s5 B5 s6
      obtain ⟨c, rfl⟩ : ∃ c, y = V.str ⟨#[c]⟩ := by
        rw [List.getElem?_map] at hy
        obtain ⟨c, _, e⟩ := Option.map_eq_some_iff.mp hy
        exact ⟨c, e.symm⟩
      refine ⟨_, rfl, F5, b, _, rfl, B6, s6.fh, by decide, sz_of 2 (by decide) (by decide), fun H7 way s7 B7 w0 w1 => ?_⟩
      have s7 := seqB s6 B6 s7
      have ec : (⟨#[c]⟩ : Str) = S [c] := rfl
      have tk : (M.take at_.toNat).length ≤ M.length := by rw [List.length_take]; omega
      have dr : ∀ m, (M.drop m).length ≤ M.length - m := fun m => by rw [List.length_drop]; exact Nat.le_refl _
      have tl : (M.take at_.toNat).length = min at_.toNat M.length := List.length_take
      have sz : ∀ X : List Nat, X.length ≤ 20000 → (S X).length ≤ sizeLine := fun X h => by rw [SX.S_len, sizeLine_eq]; omega
      refine ⟨_, rfl, rfl, _, rfl, ?_⟩
      by_cases v0 : way = 0
      · refine iteY (vint_eq v0) ⟨_, rfl, _, rfl, _, rfl, _, rfl, szl, _, rfl, _, _, rfl, rfl, ?_, _, rfl, _, rfl, _, rfl, _, rfl, szl, _, _, rfl, rfl, ?_, ?_⟩
        · rw [SX.slice_to a0, SX.S_len, sizeLine_eq]; show _ + 1 ≤ _; omega
        · rw [SX.slice_to a0, SX.slice_from a0, ec, SX.S_cat, SX.S_len, SX.S_len, List.length_append, List.length_drop, sizeLine_eq]; show _ + 1 + _ ≤ _; omega
        · rw [SX.slice_to a0, SX.slice_from a0, ec, SX.S_cat, SX.S_cat]
          refine ⟨F5, _, _, _, _, _, rfl, s7, B7, ?_⟩
          rw [List.length_append, List.length_append, List.length_drop]
          show _ + 1 + _ ≤ _
          omega
      · have a1 : 0 ≤ at_ + 1 := by omega
        refine iteN (vint_ne v0) ⟨_, rfl, rfl, _, rfl, ?_⟩
        by_cases v1 : way = 1
        · refine iteY (vint_eq v1) ⟨_, rfl, _, rfl, _, rfl, _, rfl, szl, _, rfl, _, rfl, _, _, rfl, rfl, _, rfl, _, rfl, szl, _, _, rfl, rfl, ?_, ?_⟩
          · rw [SX.slice_to a0, SX.slice_from a1, SX.S_len, SX.S_len, List.length_drop, sizeLine_eq]; omega
          · rw [SX.slice_to a0, SX.slice_from a1, SX.S_cat]
            refine ⟨F5, _, _, _, _, _, rfl, s7, B7, ?_⟩
            rw [List.length_append, List.length_drop]
            omega
        · refine iteN (vint_ne v1) ⟨_, rfl, _, rfl, _, rfl, _, rfl, szl, _, rfl, _, _, rfl, rfl, ?_, _, rfl, _, rfl, _, _, rfl, rfl, _, rfl, _, rfl, szl, _, _, rfl, rfl, ?_, ?_⟩
          · rw [SX.slice_to a0, SX.S_len, sizeLine_eq]; show _ + 1 ≤ _; omega
          · rw [SX.slice_to a0, SX.slice_from a1, ec, SX.S_cat, SX.S_len, SX.S_len, List.length_append, List.length_drop, sizeLine_eq]; show _ + 1 + _ ≤ _; omega
          · rw [SX.slice_to a0, SX.slice_from a1, ec, SX.S_cat, SX.S_cat]
            refine ⟨F5, _, _, _, _, _, rfl, s7, B7, ?_⟩
            rw [List.length_append, List.length_append, List.length_drop]
            show _ + 1 + _ ≤ _
            omega
    · rintro _ H' ⟨F2, M, c2, c3, c4, c5, rfl, s2, B2, lM⟩
      exact ⟨_, rfl, k F2 H' M s2 B2 (by omega)⟩
end
end K01

set_option Elab.async false
set_option linter.all false
set_option maxRecDepth 100000
set_option maxHeartbeats 4000000
namespace K01
open PySem PySem.Spec PyProof.Rows L2 Ew
open SX (S)
def Tx (v : V) : Prop := ∃ L : List Nat, v = .str (S L) ∧ L.length ≤ 9000
theorem tx_str {z : Str} (h : z.length ≤ 9000) : Tx (.str z) := ⟨z.cps.toList, congrArg V.str (S_self z), by rw [Array.length_toList]; exact h⟩
theorem tx_lit {zs : List Str} (h : ∀ z ∈ zs, z.length ≤ 9000) : ∀ x ∈ zs.map V.str, Tx x := fun x hx => by
  obtain ⟨z, hz, rfl⟩ := List.mem_map.mp hx
  exact tx_str (h z hz)
theorem sign_at {z : Str} {i : Int} (h0 : 0 ≤ i) (h1 : i < (z.cps.toList.length : Int)) : ∃ c, atI z.cps.toList i = some c := ⟨_, atI_int h0 h1 (List.getElem?_eq_getElem (by omega))⟩
section
variable {P : Program} {w : World} {K : PySem.W.Frag} {mg : Str → Option Value} {base : Heap} {a : Ad}
theorem cat_step {b : Addr} {F H F1 H1 : Hp} {p1 p2 : Addr} {xs ys : List V} (s1 : Sb b F H F1 H1) (B1 : Bag K b F1 H1) (q1 : H1 p1 = some (.lst xs)) (hp2 : H1 p2 = none) (hl : xs.length + ys.length ≤ 1000) {Q : VK}
    (k : ∀ F' H' p, Sb b F H F' H' → Bag K b F' H' → H' p = some (.lst (xs ++ ys)) → F' p = some (.lst (xs ++ ys)) → Q (.ref p) H') : rCat (.ref p1) (.ref p2) (upd H1 p2 (.lst ys)) Q := by
  obtain ⟨s2, B2⟩ := newB (o := .lst ys) s1 B1 hp2
  refine ⟨p1, p2, xs, ys, rfl, rfl, same_new hp2 _ _ q1, upd_same, by rw [sizeLine_eq]; omega, fun p3 hp3 => ?_⟩
  obtain ⟨s3, B3⟩ := newB (o := .lst (xs ++ ys)) s2 B2 hp3
  exact k _ _ p3 s3 B3 upd_same upd_same
def sp__law_odd_texts (K : PySem.W.Frag) : Sp := fun vs H Q _ => ∃ (F : Hp) (b : Addr), vs = [.ref b] ∧ Bag K b F H ∧ Same F H ∧ ∀ F' H' l xs, Sb b F H F' H' → Bag K b F' H' → F' l = some (.lst xs) → xs.length ≤ 100 → (∀ x ∈ xs, Tx x) → Q (.ref l) H'
theorem c__law_odd_texts (T : Txt K mg a) : Cl P w K mg base 2 "_law_odd_texts" P__law_odd_texts (sp__law_odd_texts K) [] :=
  T.d__law_odd_texts.cl sc__law_odd_texts (fun vs H Q E h => by obtain ⟨F, b, rfl, _⟩ := h; rfl) fun f cdv A outer s0 H vs Q E hr h => by
    obtain ⟨F, b, rfl, hB, hf, k⟩ := h
    refine ⟨_, ((pss_cons (ps_set (i := 1) sc__law_odd_texts.nd rfl (Or.inl rfl) (pe_lst (pa_cons pe_str (pa_cons pe_str (pa_cons pe_str (pa_cons pe_str (pa_cons pe_str (pa_cons pe_str (pa_cons pe_str (pa_cons pe_str (pa_cons pe_str (pa_cons pe_str (pa_cons pe_str (pa_cons pe_str (pa_cons pe_str (pa_cons pe_str (pa_cons pe_str (pa_cons pe_str (pa_cons pe_str (pa_cons pe_str pa_nil))))))))))))))))))))
 (pss_cons (ps_set (i := 1) sc__law_odd_texts.nd rfl (Or.inl rfl) (pe_op op_cat (pv 1) (pe_lst (pa_cons pe_str (pa_cons pe_str (pa_cons pe_str (pa_cons pe_str (pa_cons pe_str (pa_cons pe_str (pa_cons pe_str (pa_cons pe_str (pa_cons pe_str (pa_cons pe_str (pa_cons pe_str (pa_cons pe_str (pa_cons pe_str (pa_cons pe_str pa_nil)))))))))))))))))
 (pss_cons (ps_set (i := 1) sc__law_odd_texts.nd rfl (Or.inl rfl) (pe_op op_cat (pv 1) (pe_lst (pa_cons pe_str (pa_cons pe_str (pa_cons pe_str (pa_cons pe_str (pa_cons pe_str (pa_cons pe_str (pa_cons pe_str (pa_cons pe_str (pa_cons pe_str (pa_cons pe_str (pa_cons pe_str (pa_cons pe_str (pa_cons pe_str pa_nil))))))))))))))))
 (pss_cons (ps_set (i := 2) sc__law_odd_texts.nd rfl (Or.inl rfl) (pe_op op_add_str (pe_ix ix_str pe_str (pe_f (c__law_pick T) (takes_of rfl rfl rfl rfl) hr (by decide) rfl (pa_cons (pv 0) (pa_cons pe_int pa_nil))) (fun _ _ => rfl)) (pe_op op_repC (pe_ix ix_str pe_str (pe_f (c__law_pick T) (takes_of rfl rfl rfl rfl) hr (by decide) rfl (pa_cons (pv 0) (pa_cons pe_int pa_nil))) (fun _ _ => rfl)) (pe_op op_add pe_int (pe_f (c__law_pick T) (takes_of rfl rfl rfl rfl) hr (by decide) rfl (pa_cons (pv 0) (pa_cons pe_int pa_nil)))))))
 (pss_cons (ps_set (i := 3) sc__law_odd_texts.nd rfl (Or.inl rfl) (pe_op op_add_str (pe_op op_repC (pe_ix ix_str pe_str (pe_f (c__law_pick T) (takes_of rfl rfl rfl rfl) hr (by decide) rfl (pa_cons (pv 0) (pa_cons pe_int pa_nil))) (fun _ _ => rfl)) pe_int) (pe_ix ix_str pe_str (pe_f (c__law_pick T) (takes_of rfl rfl rfl rfl) hr (by decide) rfl (pa_cons (pv 0) (pa_cons pe_int pa_nil))) (fun _ _ => rfl))))
 (pss_one (ps_ret (pe_op op_cat (pv 1) (pe_lst (pa_cons (pv 2) (pa_cons (pe_op op_add_str pe_str (pv 2)) (pa_cons (pe_op op_add_str pe_str (pv 2)) (pa_cons (pe_op op_add_str pe_str (pv 2)) (pa_cons (pe_op op_add_str (pv 2) pe_str) (pa_cons (pe_op op_add_str (pe_op op_add_str (pv 2) pe_str) (pv 3)) (pa_cons (pe_op op_add_str (pe_op op_add_str (pe_op op_add_str pe_str (pv 3)) pe_str) (pv 2)) pa_nil))))))))))))))))), ?_⟩
    refine ⟨by show 18 ≤ sizeLine; decide, fun p1 hp1 => ?_⟩
    have g1 : ∀ x ∈ (["", "-", "/", "0", "7", "-7", "00", "01", "-01", "-0", "0/1", "0/2", "-0/2", "2/4", "4/2", "3/1", "-3/1", "1/0"] : List Str).map V.str, Tx x := tx_lit (by decide +kernel)
    have g2 : ∀ x ∈ (["1/-2", "-1/2", "-1/-2", "+1", "--1", "1-", " 1", "1 ", "1 /2", "1/ 2", "1_0", "1/2/3", "1//2", "/2"] : List Str).map V.str, Tx x := tx_lit (by decide +kernel)
    have g3 : ∀ x ∈ (["1/", "-/2", "1.5", "1e3", "0x1", "a", "1/02", "01/2", "12/35", "-12/35", "35/12", "10/15", "1/2\n"] : List Str).map V.str, Tx x := tx_lit (by decide +kernel)
    obtain ⟨s1, B1⟩ := newB (o := .lst ((["", "-", "/", "0", "7", "-7", "00", "01", "-01", "-0", "0/1", "0/2", "-0/2", "2/4", "4/2", "3/1", "-3/1", "1/0"] : List Str).map V.str)) (Stm.refl hf) hB hp1
    have q1 : upd H p1 (.lst ((["", "-", "/", "0", "7", "-7", "00", "01", "-01", "-0", "0/1", "0/2", "-0/2", "2/4", "4/2", "3/1", "-3/1", "1/0"] : List Str).map V.str)) p1 = some _ := upd_same
    have l1 : ((["", "-", "/", "0", "7", "-7", "00", "01", "-01", "-0", "0/1", "0/2", "-0/2", "2/4", "4/2", "3/1", "-3/1", "1/0"] : List Str).map V.str).length = 18 := rfl
    refine ⟨_, rfl, by show 14 ≤ sizeLine; decide, fun p2 hp2 => ?_⟩
    refine cat_step (ys := ((["1/-2", "-1/2", "-1/-2", "+1", "--1", "1-", " 1", "1 ", "1 /2", "1/ 2", "1_0", "1/2/3", "1//2", "/2"] : List Str).map V.str)) s1 B1 q1 hp2 (by rw [l1]; decide) fun F3 H3 p3 s3 B3 q3 _ => ?_
    refine ⟨_, rfl, by show 13 ≤ sizeLine; decide, fun p4 hp4 => ?_⟩
    refine cat_step (ys := ((["1/", "-/2", "1.5", "1e3", "0x1", "a", "1/02", "01/2", "12/35", "-12/35", "35/12", "10/15", "1/2\n"] : List Str).map V.str)) s3 B3 q3 hp4 (by rw [List.length_append, l1]; decide) fun F5 H5 p5 s5 B5 q5 _ => ?_
    have l5 : ((((["", "-", "/", "0", "7", "-7", "00", "01", "-01", "-0", "0/1", "0/2", "-0/2", "2/4", "4/2", "3/1", "-3/1", "1/0"] : List Str).map V.str) ++ ((["1/-2", "-1/2", "-1/-2", "+1", "--1", "1-", " 1", "1 ", "1 /2", "1/ 2", "1_0", "1/2/3", "1//2", "/2"] : List Str).map V.str)) ++ ((["1/", "-/2", "1.5", "1e3", "0x1", "a", "1/02", "01/2", "12/35", "-12/35", "35/12", "10/15", "1/2\n"] : List Str).map V.str)).length = 45 := by rw [List.length_append, List.length_append, l1]; rfl
    have g5 : ∀ x ∈ (((["", "-", "/", "0", "7", "-7", "00", "01", "-01", "-0", "0/1", "0/2", "-0/2", "2/4", "4/2", "3/1", "-3/1", "1/0"] : List Str).map V.str) ++ ((["1/-2", "-1/2", "-1/-2", "+1", "--1", "1-", " 1", "1 ", "1 /2", "1/ 2", "1_0", "1/2/3", "1//2", "/2"] : List Str).map V.str)) ++ ((["1/", "-/2", "1.5", "1e3", "0x1", "a", "1/02", "01/2", "12/35", "-12/35", "35/12", "10/15", "1/2\n"] : List Str).map V.str), Tx x := fun x hx => by
      rcases List.mem_append.mp hx with h | h
      · rcases List.mem_append.mp h with h | h
        · exact g1 x h
        · exact g2 x h
      · exact g3 x h
    generalize (((["", "-", "/", "0", "7", "-7", "00", "01", "-01", "-0", "0/1", "0/2", "-0/2", "2/4", "4/2", "3/1", "-3/1", "1/0"] : List Str).map V.str) ++ ((["1/-2", "-1/2", "-1/-2", "+1", "--1", "1-", " 1", "1 ", "1 /2", "1/ 2", "1_0", "1/2/3", "1//2", "/2"] : List Str).map V.str)) ++ ((["1/", "-/2", "1.5", "1e3", "0x1", "a", "1/02", "01/2", "12/35", "-12/35", "35/12", "10/15", "1/2\n"] : List Str).map V.str) = X5 at q5 l5 g5
    have ks : ∀ {H' : Hp} {l : Addr}, Sb b F5 H5 F5 H' → ¬ l = b → H5 l = some (.lst X5) → H' l = some (.lst X5) := fun s n e => s.hh _ _ n e
    have nb5 : ¬ p5 = b := fun z => by
      obtain ⟨_, _, _, _, _, _, _, _, _, _, e⟩ := B5
      rw [z, e] at q5
      cases q5
    refine ⟨_, rfl, F5, b, _, rfl, B5, s5.fh, by decide, sz_of 4 (by decide) (by decide), fun H6 i6 s6 B6 i0 i1 => ?_⟩
    obtain ⟨c6, h6⟩ := sign_at (z := "123456789") i0 (by have : ("123456789" : Str).cps.toList.length = 9 := (by decide +kernel); omega)
    have q6 := s6.hh _ _ nb5 q5
    have s6 := seqB s5 B5 s6
    refine ⟨_, i6, c6, rfl, rfl, by rw [sizeLine_eq]; decide +kernel, h6, ?_⟩
    refine ⟨_, rfl, F5, b, _, rfl, B6, s6.fh, by decide, sz_of 4 (by decide) (by decide), fun H7 i7 s7 B7 j0 j1 => ?_⟩
    obtain ⟨c7, h7⟩ := sign_at (z := "0123456789") j0 (by have : ("0123456789" : Str).cps.toList.length = 10 := (by decide +kernel); omega)
    have q7 := s7.hh _ _ nb5 q6
    have s7 := seqB s6 B6 s7
    refine ⟨_, i7, c7, rfl, rfl, by rw [sizeLine_eq]; decide +kernel, h7, ?_⟩
    refine ⟨_, rfl, F5, b, _, rfl, B7, s7.fh, by decide, sz_of 3 (by decide) (by decide), fun H8 i8 s8 B8 k0 k1 => ⟨_, _, rfl, rfl, ?_⟩⟩
    have q8 := s8.hh _ _ nb5 q7
    have s8 := seqB s7 B7 s8
    refine ⟨c7, _, rfl, rfl, by omega, by omega, _, _, rfl, rfl, ?_, ?_⟩
    · show 1 + (S (List.replicate (398 + i8).toNat c7)).length ≤ _; rw [SX.S_len, List.length_replicate, sizeLine_eq]; omega
    have eL : (⟨#[c6]⟩ : Str) ++ S (List.replicate (398 + i8).toNat c7) = S (c6 :: List.replicate (398 + i8).toNat c7) := SX.S_cat [c6] _
    rw [eL]
    have lL : (c6 :: List.replicate (398 + i8).toNat c7).length ≤ 402 := by rw [List.length_cons, List.length_replicate]; omega
    generalize c6 :: List.replicate (398 + i8).toNat c7 = LL at lL
    refine ⟨_, rfl, F5, b, _, rfl, B8, s8.fh, by decide, sz_of 4 (by decide) (by decide), fun H9 i9 s9 B9 m0 m1 => ?_⟩
    obtain ⟨c9, h9⟩ := sign_at (z := "0123456789") m0 (by have : ("0123456789" : Str).cps.toList.length = 10 := (by decide +kernel); omega)
    have q9 := s9.hh _ _ nb5 q8
    have s9 := seqB s8 B8 s9
    refine ⟨_, i9, c9, rfl, rfl, by rw [sizeLine_eq]; decide +kernel, h9, c9, 398, rfl, rfl, by decide, by decide, ?_⟩
    refine ⟨_, rfl, F5, b, _, rfl, B9, s9.fh, by decide, sz_of 3 (by decide) (by decide), fun H10 i10 s10 B10 n0 n1 => ?_⟩
    obtain ⟨c10, h10⟩ := sign_at (z := "13579") n0 (by have : ("13579" : Str).cps.toList.length = 5 := (by decide +kernel); omega)
    have q10 := s10.hh _ _ nb5 q9
    have s10 := seqB s9 B9 s10
    refine ⟨_, i10, c10, rfl, rfl, by rw [sizeLine_eq]; decide +kernel, h10, _, _, rfl, rfl, ?_, ?_⟩
    · show (S (List.replicate (398 : Int).toNat c9)).length + 1 ≤ _; rw [SX.S_len, List.length_replicate, sizeLine_eq]; decide
    have eO : S (List.replicate (398 : Int).toNat c9) ++ (⟨#[c10]⟩ : Str) = S (List.replicate (398 : Int).toNat c9 ++ [c10]) := SX.S_cat _ [c10]
    rw [eO]
    have lO : (List.replicate (398 : Int).toNat c9 ++ [c10]).length ≤ 399 := by rw [List.length_append, List.length_replicate]; show 398 + 1 ≤ 399; decide
    generalize List.replicate (398 : Int).toNat c9 ++ [c10] = LO at lO
    have a1 : (S LL).length ≤ 402 := by rw [SX.S_len]; exact lL
    have a2 : (S LO).length ≤ 399 := by rw [SX.S_len]; exact lO
    have b1 : ("-" : Str).length = 1 := by decide +kernel
    have b2 : ("1/" : Str).length = 2 := by decide +kernel
    have b3 : ("-3/" : Str).length = 3 := by decide +kernel
    have b4 : ("/7" : Str).length = 2 := by decide +kernel
    have b5 : ("/8" : Str).length = 2 := by decide +kernel
    have b6 : ("-9" : Str).length = 2 := by decide +kernel
    have b7 : ("/" : Str).length = 1 := by decide +kernel
    refine ⟨_, rfl, _, rfl, _, rfl, _, _, rfl, rfl, ?_, _, rfl, _, _, rfl, rfl, ?_, _, rfl, _, _, rfl, rfl, ?_, _, rfl, _, _, rfl, rfl, ?_, _, rfl, _, _, rfl, rfl, ?_, _, rfl, _, _, rfl, rfl, ?_, _, rfl, _, _, rfl, rfl, ?_, _, _, rfl, rfl, ?_, _, rfl, _, _, rfl, rfl, ?_, by show 7 ≤ sizeLine; decide, fun p hp => ?_⟩
    rotate_right
    · refine cat_step (xs := X5) s10 B10 q10 hp (by rw [l5]; show 45 + 7 ≤ 1000; decide) fun F' H' l s B q qf => k F' H' l _ s B qf (by rw [List.length_append, l5]; show 45 + 7 ≤ 100; decide) fun x hx => ?_
      rcases List.mem_append.mp hx with h | h
      · exact g5 x h
      · simp only [List.mem_cons, List.not_mem_nil, or_false] at h
        rcases h with rfl | rfl | rfl | rfl | rfl | rfl | rfl <;> exact tx_str (by (try simp only [PySem.Str.length_append]); omega)
    all_goals (simp only [PySem.Str.length_append, sizeLine_eq]; omega)
end
end K01

set_option Elab.async false
set_option linter.all false
set_option maxRecDepth 100000
set_option maxHeartbeats 4000000
namespace K01
open PySem PySem.Spec PyProof.Rows L2 Ew
/-- what is no integer -/
inductive NoJ (K : PySem.W.Frag) (H : Hp) : V → Prop
  | bl (b : Bool) : NoJ K H (.bl b)
  | non : NoJ K H .non
  | str (z : Str) : NoJ K H (.str z)
  | lst {p : Addr} {xs : List V} : H p = some (.lst xs) → NoJ K H (.ref p)
  | tup {p : Addr} {xs : List V} : SqT K H p xs → NoJ K H (.ref p)
theorem NoJ.up {K : PySem.W.Frag} {H H' : Hp} {v : V} (h : NoJ K H v) (e : Same H H') : NoJ K H' v := by
  cases h with
  | bl b => exact .bl b
  | non => exact .non
  | str z => exact .str z
  | lst q => exact .lst (e _ _ q)
  | tup q => exact .tup (upT e q)
theorem NoJ.no {K : PySem.W.Frag} {H : Hp} {v : V} (h : NoJ K H v) : NoI K H v := by
  cases h with
  | bl b => exact .inl ⟨b, rfl⟩
  | non => exact .inr ⟨_, .base .non, kit_ty (by decide +kernel)⟩
  | str z => exact .inr ⟨_, .base (.str z), kit_ty (by decide +kernel)⟩
  | lst q => exact .inr ⟨_, .base (.lst q), kit_ty (by decide +kernel)⟩
  | tup q => exact .inr ⟨_, ty_sqT q, kit_ty (by decide +kernel)⟩
/-- what is no ratio -/
inductive OddF (K : PySem.W.Frag) (H : Hp) : V → Prop
  | bl (b : Bool) : OddF K H (.bl b)
  | non : OddF K H .non
  | int (i : Int) : OddF K H (.int i)
  | str (z : Str) : OddF K H (.str z)
  | lst {p : Addr} {xs : List V} : H p = some (.lst xs) → OddF K H (.ref p)
  | len {p : Addr} {xs : List V} : SqT K H p xs → xs.length ≠ 2 → OddF K H (.ref p)
  | tx {p : Addr} {x y : V} : SqT K H p [x, y] → NoJ K H x → OddF K H (.ref p)
  | ty {p : Addr} {n : Int} {y : V} : SqT K H p [.int n, y] → NoJ K H y → OddF K H (.ref p)
  | no {v : V} {n d : Int} : Rt K H v (n, d) → (decide (1 ≤ d) && decide (Nat.gcd n.natAbs d.natAbs = 1)) = false → OddF K H v
theorem OddF.up {K : PySem.W.Frag} {H H' : Hp} {v : V} (h : OddF K H v) (e : Same H H') : OddF K H' v := by
  cases h with
  | bl b => exact .bl b
  | non => exact .non
  | int i => exact .int i
  | str z => exact .str z
  | lst q => exact .lst (e _ _ q)
  | len q l => exact .len (upT e q) l
  | tx q n => exact .tx (upT e q) (n.up e)
  | ty q n => exact .ty (upT e q) (n.up e)
  | no q n => exact .no (q.up e) n
theorem OddF.asks {K : PySem.W.Frag} {H : Hp} {v : V} {Q : VK} {E : XK} (h : OddF K H v) (k : Q (.bl false) H) : sp_is_ratio K [v] H Q E := by
  refine ⟨v, rfl, ?_⟩
  cases h with
  | bl b => exact .inl ⟨_, .base (.bl b), kit_ty (by decide +kernel), k⟩
  | non => exact .inl ⟨_, .base .non, kit_ty (by decide +kernel), k⟩
  | int i => exact .inl ⟨_, .base (.int i), kit_ty (by decide +kernel), k⟩
  | str z => exact .inl ⟨_, .base (.str z), kit_ty (by decide +kernel), k⟩
  | lst q => exact .inl ⟨_, .base (.lst q), kit_ty (by decide +kernel), k⟩
  | len q l => exact .inr (.inl ⟨_, _, rfl, q, l, k⟩)
  | tx q n => exact .inr (.inr (.inl ⟨_, _, _, rfl, q, n.no, k⟩))
  | ty q n => exact .inr (.inr (.inr (.inl ⟨_, _, _, rfl, q, n.no, k⟩)))
  | no q n => exact .inr (.inr (.inr (.inr ⟨_, _, q, by rw [n]; exact k⟩)))
section
variable {P : Program} {w : World} {K : PySem.W.Frag} {mg : Str → Option Value} {base : Heap} {a : Ad}
theorem good_asks {H : Hp} {v : V} {r : Int × Int} {Q : VK} {E : XK} (h : Rt K H v r) (h0 : 0 < r.2) (hg : Nat.gcd r.1.natAbs r.2.natAbs = 1) (k : Q (.bl true) H) : sp_is_ratio K [v] H Q E :=
  ⟨v, rfl, .inr (.inr (.inr (.inr ⟨r.1, r.2, h, by rw [decide_eq_true (by omega : 1 ≤ r.2), decide_eq_true hg]; exact k⟩)))⟩
def sp__law_right_kinds (K : PySem.W.Frag) : Sp := fun vs H Q _ => ∃ (F : Hp) (n d : Int) (u v : V) (r q : Int × Int), vs = [.int n, .int d, u, v] ∧ Rt K F u r ∧ Rt K F v q ∧ Gd 1340 r ∧ Gd 1340 q ∧ Same F H ∧ ∀ H', Same H H' → Q (.bl true) H'
theorem c__law_right_kinds (T : Txt K mg a) : Cl P w K mg base 3 "_law_right_kinds" P__law_right_kinds (sp__law_right_kinds K) [] :=
  T.d__law_right_kinds.cl sc__law_right_kinds (fun vs H Q E h => by obtain ⟨F, n, d, u, v, r, q, rfl, _⟩ := h; rfl) fun f cdv A outer s0 H vs Q E hr h => by
    obtain ⟨F, n, d, u, v, r, q, rfl, hu, hv, gr, gq, hf, k⟩ := h
    obtain ⟨pf, rfl, hq0⟩ := id hu
    refine ⟨_, ((pss_cons (ps_set (i := 4) sc__law_right_kinds.nd rfl (Or.inl rfl) (pe_f (c_is_ratio T) (takes_of rfl rfl rfl rfl) hr (by decide) rfl (pa_cons (pe_tup (pa_cons (pv 0) (pa_cons (pv 1) pa_nil))) pa_nil)))
 (pss_cons (ps_if (PW.pt (pw_or (pt_not (pt_val (pe_callB call_isi (by rfl) T.n_isinstance (by decide +kernel) (pa_cons (pv 4) (pa_cons (pe_bltn (v := .ty "bool") (by rfl) T.n_bool (by decide +kernel) rfl) pa_nil))))) (pw_or1 (pt_cmpR op_ne (pv 4) (pe_and (pe_cmpR op_ge (pv 1) pe_int (nomark _)) (pe_one (pe_cmpR op_eq (pe_f (c__law_gcd T) (takes_of rfl rfl rfl rfl) hr (by decide) rfl (pa_cons (pv 0) (pa_cons (pv 1) pa_nil))) pe_int (nomark _)))) (nomark _)))))
 (pss_one (ps_ret pe_bl))
 pss_nil)
 (pss_cons (ps_if (PW.pt (pw_or (pt_cmpR op_notBl (pe_f (c_is_ratio T) (takes_of rfl rfl rfl rfl) hr (by decide) rfl (pa_cons (pv 2) pa_nil)) pe_bl (nomark _)) (pw_or1 (pt_cmpR op_notBl (pe_f (c_is_ratio T) (takes_of rfl rfl rfl rfl) hr (by decide) rfl (pa_cons (pv 3) pa_nil)) pe_bl (nomark _)))))
 (pss_one (ps_ret pe_bl))
 pss_nil)
 (pss_cons (ps_for (passes_of rfl) rfl (pi_list (pe_lst (pa_cons (pe_tup (pa_cons pe_int (pa_cons pe_int pa_nil))) (pa_cons (pe_tup (pa_cons pe_int (pa_cons pe_int pa_nil))) (pa_cons (pe_tup (pa_cons (pe_un un_neg pe_int) (pa_cons pe_int pa_nil))) (pa_cons (pe_tup (pa_cons pe_int (pa_cons pe_int pa_nil))) (pa_cons (pe_tup (pa_cons pe_int (pa_cons pe_int pa_nil))) pa_nil))))))) (pg_name (i := 5) sc__law_right_kinds.nd rfl (Or.inl rfl))
 (pss_one (ps_if (pt_cmpR op_notBl (pe_f (c_is_ratio T) (takes_of rfl rfl rfl rfl) hr (by decide) rfl (pa_cons (pv 5) pa_nil)) pe_bl (nomark _))
 (pss_one (ps_ret pe_bl))
 pss_nil)))
 (pss_cons (ps_set (i := 6) sc__law_right_kinds.nd rfl (Or.inl rfl) (pe_lst (pa_cons (pe_tup (pa_cons pe_int (pa_cons pe_int pa_nil))) (pa_cons (pe_tup (pa_cons pe_int (pa_cons pe_int pa_nil))) (pa_cons (pe_tup (pa_cons pe_int (pa_cons pe_int pa_nil))) (pa_cons (pe_tup (pa_cons pe_int (pa_cons pe_int pa_nil))) (pa_cons (pe_tup (pa_cons pe_int (pa_cons (pe_un un_neg pe_int) pa_nil))) (pa_cons (pe_tup (pa_cons pe_int (pa_cons (pe_un un_neg pe_int) pa_nil))) (pa_cons (pe_tup (pa_cons pe_bl (pa_cons pe_int pa_nil))) (pa_cons (pe_tup (pa_cons pe_int (pa_cons pe_bl pa_nil))) (pa_cons (pe_tup (pa_cons pe_bl (pa_cons pe_bl pa_nil))) (pa_cons (pe_lst (pa_cons pe_int (pa_cons pe_int pa_nil))) (pa_cons (pe_callTy call_list_of (by rfl) T.n_list (by decide +kernel) (pa_cons (pv 2) pa_nil)) (pa_cons (pe_tup (pa_cons pe_int pa_nil)) (pa_cons (pe_tup pa_nil) pa_nil)))))))))))))))
 (pss_cons (ps_set (i := 6) sc__law_right_kinds.nd rfl (Or.inl rfl) (pe_op op_cat (pv 6) (pe_lst (pa_cons (pe_tup (pa_cons pe_int (pa_cons pe_int (pa_cons pe_int pa_nil)))) (pa_cons pe_str (pa_cons pe_str (pa_cons pe_int (pa_cons pe_int (pa_cons pe_non (pa_cons pe_bl (pa_cons (pe_tup (pa_cons pe_str (pa_cons pe_str pa_nil))) (pa_cons (pe_tup (pa_cons pe_int (pa_cons pe_str pa_nil))) (pa_cons (pe_tup (pa_cons (pe_tup (pa_cons pe_int (pa_cons pe_int pa_nil))) (pa_cons pe_int pa_nil))) (pa_cons (pe_tup (pa_cons pe_int (pa_cons pe_non pa_nil))) (pa_cons (pe_tup (pa_cons pe_non (pa_cons pe_int pa_nil))) (pa_cons (pe_tup (pa_cons (pe_lst (pa_cons pe_int pa_nil)) (pa_cons (pe_lst (pa_cons pe_int pa_nil)) pa_nil))) pa_nil))))))))))))))))
 (pss_cons (ps_for (passes_of rfl) rfl (pi_list (pv 6)) (pg_name (i := 5) sc__law_right_kinds.nd rfl (Or.inl rfl))
 (pss_one (ps_if (pt_cmpR op_notBl (pe_f (c_is_ratio T) (takes_of rfl rfl rfl rfl) hr (by decide) rfl (pa_cons (pv 5) pa_nil)) pe_bl (nomark _))
 (pss_one (ps_ret pe_bl))
 pss_nil)))
 (pss_one (ps_ret pe_bl)))))))))), ?_⟩
    refine ⟨_, rfl, _, rfl, by show 2 ≤ sizeLine; decide, fun p0 hp0 => ?_⟩
    have e0 := same_new (o := .tup [.int n, .int d]) hp0
    have f0 := hf.trans e0
    refine ⟨_, rfl, .inr (.inr (.inr (.inr ⟨n, d, ⟨p0, rfl, sq_new⟩, ?_⟩)))⟩
    refine seq_with (fun σ2 H2 => [some (.int n), some (.int d), some (.ref pf), some v, some (.bl (decide (1 ≤ d) && decide (Nat.gcd n.natAbs d.natAbs = 1))), none, none] = σ2 ∧ upd H p0 (.tup [.int n, .int d]) = H2) (fun x hx => hx _ _ ⟨rfl, rfl⟩) ?_
    rintro _ _ ⟨rfl, rfl⟩
    refine seq_with (fun σ2 H2 => [some (.int n), some (.int d), some (.ref pf), some v, some (.bl (decide (1 ≤ d) && decide (Nat.gcd n.natAbs d.natAbs = 1))), none, none] = σ2 ∧ upd H p0 (.tup [.int n, .int d]) = H2) (fun x hx => ?_) ?_
    · refine ⟨_, rfl, _, _, _, _, true, rfl, .ty _, .base (.bl _), kit_ty (by decide +kernel), true, rfl, iteF ?_⟩
      refine ⟨_, rfl, _, rfl, _, _, rfl, rfl, _, rfl, ?_⟩
      by_cases h1 : 1 ≤ d
      · refine iteY (decide_eq_true h1) ⟨_, rfl, _, rfl, n, d, rfl, rfl, rfl, _, rfl, ?_⟩
        have e9 : (!decide (V.bl (decide (1 ≤ d) && decide (Nat.gcd n.natAbs d.natAbs = 1)) = V.bl (decide (V.int (Nat.gcd n.natAbs d.natAbs : Nat) = V.int 1)))) = false := by
          rw [decide_eq_true h1, Bool.true_and]
          by_cases h2 : Nat.gcd n.natAbs d.natAbs = 1
          · rw [decide_eq_true h2, vint_eq (by omega)]; decide
          · have := vint_ne (a := ((Nat.gcd n.natAbs d.natAbs : Nat) : Int)) (b := 1) (by omega)
            rw [Bool.not_eq_true] at this
            rw [this, decide_eq_false h2]
            decide
        rw [e9]
        exact iteF (hx _ _ ⟨rfl, rfl⟩)
      · refine iteN (by rw [decide_eq_false h1]; exact fun z => nomatch z) ⟨rfl, _, rfl, ?_⟩
        rw [decide_eq_false h1, Bool.false_and]
        rw [decide_eq_false h1, Bool.false_and] at hx
        exact iteN (by decide) (hx _ _ ⟨rfl, rfl⟩)
    rintro _ _ ⟨rfl, rfl⟩
    have grp := gr.p
    have gqp := gq.p
    refine ⟨_, rfl, _, rfl, .inr (.inr (.inr (.inr ⟨r.1, r.2, hu.up f0, ?_⟩)))⟩
    rw [decide_eq_true (by omega : 1 ≤ r.2), decide_eq_true gr.c]
    refine ⟨true, true, rfl, rfl, _, rfl, iteN (by decide) ?_⟩
    refine ⟨_, rfl, _, rfl, .inr (.inr (.inr (.inr ⟨q.1, q.2, hv.up f0, ?_⟩)))⟩
    rw [decide_eq_true (by omega : 1 ≤ q.2), decide_eq_true gq.c]
    refine ⟨true, true, rfl, rfl, _, rfl, iteN (by decide) ?_⟩
    refine ⟨by show 2 ≤ sizeLine; decide, fun w0 hw0 => ?_⟩
    have d0 := same_new (o := .tup [V.int (0), V.int (1)]) hw0
    have r0 : Rt K (upd (upd H p0 (.tup [.int n, .int d])) w0 (.tup [V.int (0), V.int (1)])) (.ref w0) (0, 1) := ⟨_, rfl, sq_new⟩
    generalize upd (upd H p0 (.tup [.int n, .int d])) w0 _ = J0 at d0 r0 ⊢
    refine ⟨by show 2 ≤ sizeLine; decide, fun w1 hw1 => ?_⟩
    have d1 := same_new (o := .tup [V.int (1), V.int (1)]) hw1
    have r1 : Rt K (upd J0 w1 (.tup [V.int (1), V.int (1)])) (.ref w1) (1, 1) := ⟨_, rfl, sq_new⟩
    generalize upd J0 w1 _ = J1 at d1 r1 ⊢
    refine ⟨_, rfl, by show 2 ≤ sizeLine; decide, fun w2 hw2 => ?_⟩
    have d2 := same_new (o := .tup [V.int (-1), V.int (2)]) hw2
    have r2 : Rt K (upd J1 w2 (.tup [V.int (-1), V.int (2)])) (.ref w2) (-1, 2) := ⟨_, rfl, sq_new⟩
    generalize upd J1 w2 _ = J2 at d2 r2 ⊢
    refine ⟨by show 2 ≤ sizeLine; decide, fun w3 hw3 => ?_⟩
    have d3 := same_new (o := .tup [V.int (35), V.int (12)]) hw3
    have r3 : Rt K (upd J2 w3 (.tup [V.int (35), V.int (12)])) (.ref w3) (35, 12) := ⟨_, rfl, sq_new⟩
    generalize upd J2 w3 _ = J3 at d3 r3 ⊢
    refine ⟨by show 2 ≤ sizeLine; decide, fun w4 hw4 => ?_⟩
    have d4 := same_new (o := .tup [V.int (7), V.int (1)]) hw4
    have r4 : Rt K (upd J3 w4 (.tup [V.int (7), V.int (1)])) (.ref w4) (7, 1) := ⟨_, rfl, sq_new⟩
    generalize upd J3 w4 _ = J4 at d4 r4 ⊢
    refine ⟨by show 5 ≤ sizeLine; decide, fun wl hwl => ?_⟩
    have d5 := same_new (o := .lst [V.ref w0, V.ref w1, V.ref w2, V.ref w3, V.ref w4]) hwl
    have ll : SqL K (upd J4 wl (.lst [V.ref w0, V.ref w1, V.ref w2, V.ref w3, V.ref w4])) wl [V.ref w0, V.ref w1, V.ref w2, V.ref w3, V.ref w4] := SqL.of upd_same
    generalize upd J4 wl _ = H1 at d5 ll ⊢
    have c4 := d5
    have c3 := d4.trans c4
    have c2 := d3.trans c3
    have c1 := d2.trans c2
    have c0 := d1.trans c1
    have fH1 := f0.trans (d0.trans c0)
    have eH1 := e0.trans (d0.trans c0)
    have goods : ∀ (i : Nat) x, [V.ref w0, V.ref w1, V.ref w2, V.ref w3, V.ref w4][i]? = some x → ∃ z : Int × Int, Rt K H1 x z ∧ 0 < z.2 ∧ Nat.gcd z.1.natAbs z.2.natAbs = 1 := by
      intro i x hx
      match i, hx with
      | 0, hx => cases hx; exact ⟨_, r0.up c0, by decide, by decide +kernel⟩
      | 1, hx => cases hx; exact ⟨_, r1.up c1, by decide, by decide +kernel⟩
      | 2, hx => cases hx; exact ⟨_, r2.up c2, by decide, by decide +kernel⟩
      | 3, hx => cases hx; exact ⟨_, r3.up c3, by decide, by decide +kernel⟩
      | 4, hx => cases hx; exact ⟨_, r4.up c4, by decide, by decide +kernel⟩
    refine ⟨wl, rfl, ⟨_, ll⟩, ?_⟩
    refine for_list (xs := [V.ref w0, V.ref w1, V.ref w2, V.ref w3, V.ref w4]) (fun i σ' H' => H1 = H' ∧ ∃ c5, σ' = [some (.int n), some (.int d), some (.ref pf), some v, some (.bl (decide (1 ≤ d) && decide (n.natAbs.gcd d.natAbs = 1))), c5, none]) ⟨rfl, none, rfl⟩ (fun i σ' H' _ z => by rw [← z.1]; exact ll) ?_ ?_
    · rintro i x _ _ hx ⟨rfl, c5, rfl⟩
      obtain ⟨z, hz, z0, zg⟩ := goods i x hx
      refine ⟨_, rfl, _, rfl, .inr (.inr (.inr (.inr ⟨z.1, z.2, hz, ?_⟩)))⟩
      rw [decide_eq_true (by omega : 1 ≤ z.2), decide_eq_true zg]
      exact ⟨true, true, rfl, rfl, _, rfl, iteN (by decide) ⟨rfl, _, rfl⟩⟩
    rintro _ _ ⟨rfl, c5, rfl⟩
    have hq1 := upT fH1 hq0
    refine ⟨by show 2 ≤ sizeLine; decide, fun p1 hp1 => ?_⟩
    have e1 := same_new (o := .tup [V.int (2), V.int (4)]) hp1
    have o1 : OddF K (upd H1 p1 (.tup [V.int (2), V.int (4)])) (.ref p1) := .no (n := 2) (d :=  4) ⟨_, rfl, sq_new⟩ (by decide +kernel)
    generalize upd H1 p1 (.tup [V.int (2), V.int (4)]) = G1 at e1 o1 ⊢
    refine ⟨by show 2 ≤ sizeLine; decide, fun p2 hp2 => ?_⟩
    have e2 := same_new (o := .tup [V.int (1), V.int (0)]) hp2
    have o2 : OddF K (upd G1 p2 (.tup [V.int (1), V.int (0)])) (.ref p2) := .no (n := 1) (d :=  0) ⟨_, rfl, sq_new⟩ (by decide +kernel)
    generalize upd G1 p2 (.tup [V.int (1), V.int (0)]) = G2 at e2 o2 ⊢
    refine ⟨by show 2 ≤ sizeLine; decide, fun p3 hp3 => ?_⟩
    have e3 := same_new (o := .tup [V.int (0), V.int (0)]) hp3
    have o3 : OddF K (upd G2 p3 (.tup [V.int (0), V.int (0)])) (.ref p3) := .no (n := 0) (d :=  0) ⟨_, rfl, sq_new⟩ (by decide +kernel)
    generalize upd G2 p3 (.tup [V.int (0), V.int (0)]) = G3 at e3 o3 ⊢
    refine ⟨by show 2 ≤ sizeLine; decide, fun p4 hp4 => ?_⟩
    have e4 := same_new (o := .tup [V.int (0), V.int (2)]) hp4
    have o4 : OddF K (upd G3 p4 (.tup [V.int (0), V.int (2)])) (.ref p4) := .no (n := 0) (d :=  2) ⟨_, rfl, sq_new⟩ (by decide +kernel)
    generalize upd G3 p4 (.tup [V.int (0), V.int (2)]) = G4 at e4 o4 ⊢
    refine ⟨_, rfl, by show 2 ≤ sizeLine; decide, fun p5 hp5 => ?_⟩
    have e5 := same_new (o := .tup [V.int (1), V.int (-2)]) hp5
    have o5 : OddF K (upd G4 p5 (.tup [V.int (1), V.int (-2)])) (.ref p5) := .no (n := 1) (d :=  -2) ⟨_, rfl, sq_new⟩ (by decide +kernel)
    generalize upd G4 p5 (.tup [V.int (1), V.int (-2)]) = G5 at e5 o5 ⊢
    refine ⟨_, rfl, by show 2 ≤ sizeLine; decide, fun p6 hp6 => ?_⟩
    have e6 := same_new (o := .tup [V.int (0), V.int (-1)]) hp6
    have o6 : OddF K (upd G5 p6 (.tup [V.int (0), V.int (-1)])) (.ref p6) := .no (n := 0) (d :=  -1) ⟨_, rfl, sq_new⟩ (by decide +kernel)
    generalize upd G5 p6 (.tup [V.int (0), V.int (-1)]) = G6 at e6 o6 ⊢
    refine ⟨by show 2 ≤ sizeLine; decide, fun p7 hp7 => ?_⟩
    have e7 := same_new (o := .tup [V.bl true, V.int (1)]) hp7
    have o7 : OddF K (upd G6 p7 (.tup [V.bl true, V.int (1)])) (.ref p7) := .tx sq_new (.bl _)
    generalize upd G6 p7 (.tup [V.bl true, V.int (1)]) = G7 at e7 o7 ⊢
    refine ⟨by show 2 ≤ sizeLine; decide, fun p8 hp8 => ?_⟩
    have e8 := same_new (o := .tup [V.int (1), V.bl true]) hp8
    have o8 : OddF K (upd G7 p8 (.tup [V.int (1), V.bl true])) (.ref p8) := .ty sq_new (.bl _)
    generalize upd G7 p8 (.tup [V.int (1), V.bl true]) = G8 at e8 o8 ⊢
    refine ⟨by show 2 ≤ sizeLine; decide, fun p9 hp9 => ?_⟩
    have e9 := same_new (o := .tup [V.bl false, V.bl true]) hp9
    have o9 : OddF K (upd G8 p9 (.tup [V.bl false, V.bl true])) (.ref p9) := .tx sq_new (.bl _)
    generalize upd G8 p9 (.tup [V.bl false, V.bl true]) = G9 at e9 o9 ⊢
    refine ⟨by show 2 ≤ sizeLine; decide, fun p10 hp10 => ?_⟩
    have e10 := same_new (o := .lst [V.int 1, V.int 2]) hp10
    have o10 : OddF K (upd G9 p10 (.lst [V.int 1, V.int 2])) (.ref p10) := .lst upd_same
    generalize upd G9 p10 (.lst [V.int 1, V.int 2]) = G10 at e10 o10 ⊢
    refine ⟨_, rfl, pf, _, rfl, .inr (upT (e1.trans (e2.trans (e3.trans (e4.trans (e5.trans (e6.trans (e7.trans (e8.trans (e9.trans (e10)))))))))) hq1), fun p11 hp11 => ?_⟩
    have e11 := same_new (o := .lst [V.int r.1, V.int r.2]) hp11
    have o11 : OddF K (upd G10 p11 (.lst [V.int r.1, V.int r.2])) (.ref p11) := .lst upd_same
    generalize upd G10 p11 (.lst [V.int r.1, V.int r.2]) = G11 at e11 o11 ⊢
    refine ⟨by show 1 ≤ sizeLine; decide, fun p12 hp12 => ?_⟩
    have e12 := same_new (o := .tup [V.int (1)]) hp12
    have o12 : OddF K (upd G11 p12 (.tup [V.int (1)])) (.ref p12) := .len (xs := [V.int (1)]) sq_new (by decide)
    generalize upd G11 p12 (.tup [V.int (1)]) = G12 at e12 o12 ⊢
    refine ⟨by show 0 ≤ sizeLine; decide, fun p13 hp13 => ?_⟩
    have e13 := same_new (o := .tup []) hp13
    have o13 : OddF K (upd G12 p13 (.tup [])) (.ref p13) := .len (xs := []) sq_new (by decide)
    generalize upd G12 p13 (.tup []) = G13 at e13 o13 ⊢
    refine ⟨by show 13 ≤ sizeLine; decide, fun p14 hp14 => ?_⟩
    have e14 := same_new (o := .lst [V.ref p1, V.ref p2, V.ref p3, V.ref p4, V.ref p5, V.ref p6, V.ref p7, V.ref p8, V.ref p9, V.ref p10, V.ref p11, V.ref p12, V.ref p13]) hp14
    have la : (upd G13 p14 (.lst [V.ref p1, V.ref p2, V.ref p3, V.ref p4, V.ref p5, V.ref p6, V.ref p7, V.ref p8, V.ref p9, V.ref p10, V.ref p11, V.ref p12, V.ref p13])) p14 = some (.lst [V.ref p1, V.ref p2, V.ref p3, V.ref p4, V.ref p5, V.ref p6, V.ref p7, V.ref p8, V.ref p9, V.ref p10, V.ref p11, V.ref p12, V.ref p13]) := upd_same
    generalize upd G13 p14 (.lst [V.ref p1, V.ref p2, V.ref p3, V.ref p4, V.ref p5, V.ref p6, V.ref p7, V.ref p8, V.ref p9, V.ref p10, V.ref p11, V.ref p12, V.ref p13]) = G14 at e14 la ⊢
    refine ⟨_, rfl, ?_⟩
    refine ⟨by show 3 ≤ sizeLine; decide, fun p15 hp15 => ?_⟩
    have e15 := same_new (o := .tup [V.int (1), V.int (2), V.int (3)]) hp15
    have o15 : OddF K (upd G14 p15 (.tup [V.int (1), V.int (2), V.int (3)])) (.ref p15) := .len (xs := [V.int (1), V.int (2), V.int (3)]) sq_new (by decide)
    generalize upd G14 p15 (.tup [V.int (1), V.int (2), V.int (3)]) = G15 at e15 o15 ⊢
    refine ⟨by show 2 ≤ sizeLine; decide, fun p16 hp16 => ?_⟩
    have e16 := same_new (o := .tup [V.str "1", V.str "2"]) hp16
    have o16 : OddF K (upd G15 p16 (.tup [V.str "1", V.str "2"])) (.ref p16) := .tx sq_new (.str _)
    generalize upd G15 p16 (.tup [V.str "1", V.str "2"]) = G16 at e16 o16 ⊢
    refine ⟨by show 2 ≤ sizeLine; decide, fun p17 hp17 => ?_⟩
    have e17 := same_new (o := .tup [V.int (1), V.str "2"]) hp17
    have o17 : OddF K (upd G16 p17 (.tup [V.int (1), V.str "2"])) (.ref p17) := .ty sq_new (.str _)
    generalize upd G16 p17 (.tup [V.int (1), V.str "2"]) = G17 at e17 o17 ⊢
    refine ⟨by show 2 ≤ sizeLine; decide, fun p18 hp18 => ?_⟩
    have e18 := same_new (o := .tup [V.int 1, V.int 2]) hp18
    have q18 : SqT K (upd G17 p18 (.tup [V.int 1, V.int 2])) p18 [V.int 1, V.int 2] := sq_new
    generalize upd G17 p18 (.tup [V.int 1, V.int 2]) = G18 at e18 q18 ⊢
    refine ⟨by show 2 ≤ sizeLine; decide, fun p19 hp19 => ?_⟩
    have e19 := same_new (o := .tup [V.ref p18, V.int 1]) hp19
    have o19 : OddF K (upd G18 p19 (.tup [V.ref p18, V.int 1])) (.ref p19) := .tx sq_new (.tup (upT e19 q18))
    generalize upd G18 p19 (.tup [V.ref p18, V.int 1]) = G19 at e19 o19 ⊢
    refine ⟨by show 2 ≤ sizeLine; decide, fun p20 hp20 => ?_⟩
    have e20 := same_new (o := .tup [V.int (1), V.non]) hp20
    have o20 : OddF K (upd G19 p20 (.tup [V.int (1), V.non])) (.ref p20) := .ty sq_new (.non)
    generalize upd G19 p20 (.tup [V.int (1), V.non]) = G20 at e20 o20 ⊢
    refine ⟨by show 2 ≤ sizeLine; decide, fun p21 hp21 => ?_⟩
    have e21 := same_new (o := .tup [V.non, V.int (1)]) hp21
    have o21 : OddF K (upd G20 p21 (.tup [V.non, V.int (1)])) (.ref p21) := .tx sq_new (.non)
    generalize upd G20 p21 (.tup [V.non, V.int (1)]) = G21 at e21 o21 ⊢
    refine ⟨by show 1 ≤ sizeLine; decide, fun p22 hp22 => ?_⟩
    have e22 := same_new (o := .lst [V.int 1]) hp22
    have q22 : (upd G21 p22 (.lst [V.int 1])) p22 = some (.lst [V.int 1]) := upd_same
    generalize upd G21 p22 (.lst [V.int 1]) = G22 at e22 q22 ⊢
    refine ⟨by show 1 ≤ sizeLine; decide, fun p23 hp23 => ?_⟩
    have e23 := same_new (o := .lst [V.int 2]) hp23
    have q23 : (upd G22 p23 (.lst [V.int 2])) p22 = some (.lst [V.int 1]) := e23 _ _ q22
    generalize upd G22 p23 (.lst [V.int 2]) = G23 at e23 q23 ⊢
    refine ⟨by show 2 ≤ sizeLine; decide, fun p24 hp24 => ?_⟩
    have e24 := same_new (o := .tup [V.ref p22, V.ref p23]) hp24
    have o24 : OddF K (upd G23 p24 (.tup [V.ref p22, V.ref p23])) (.ref p24) := .tx sq_new (.lst (e24 _ _ q23))
    generalize upd G23 p24 (.tup [V.ref p22, V.ref p23]) = G24 at e24 o24 ⊢
    refine ⟨by show 13 ≤ sizeLine; decide, fun p25 hp25 => ?_⟩
    have e25 := same_new (o := .lst [V.ref p15, V.str "1/2", V.str "12", V.int 5, V.int 0, V.non, V.bl true, V.ref p16, V.ref p17, V.ref p19, V.ref p20, V.ref p21, V.ref p24]) hp25
    have lb : (upd G24 p25 (.lst [V.ref p15, V.str "1/2", V.str "12", V.int 5, V.int 0, V.non, V.bl true, V.ref p16, V.ref p17, V.ref p19, V.ref p20, V.ref p21, V.ref p24])) p25 = some (.lst [V.ref p15, V.str "1/2", V.str "12", V.int 5, V.int 0, V.non, V.bl true, V.ref p16, V.ref p17, V.ref p19, V.ref p20, V.ref p21, V.ref p24]) := upd_same
    generalize upd G24 p25 (.lst [V.ref p15, V.str "1/2", V.str "12", V.int 5, V.int 0, V.non, V.bl true, V.ref p16, V.ref p17, V.ref p19, V.ref p20, V.ref p21, V.ref p24]) = G25 at e25 lb ⊢
    have t25 := Same.refl G25
    have t24 := e25.trans t25
    have t23 := e24.trans t24
    have t22 := e23.trans t23
    have t21 := e22.trans t22
    have t20 := e21.trans t21
    have t19 := e20.trans t20
    have t18 := e19.trans t19
    have t17 := e18.trans t18
    have t16 := e17.trans t17
    have t15 := e16.trans t16
    have t14 := e15.trans t15
    have t13 := e14.trans t14
    have t12 := e13.trans t13
    have t11 := e12.trans t12
    have t10 := e11.trans t11
    have t9 := e10.trans t10
    have t8 := e9.trans t9
    have t7 := e8.trans t8
    have t6 := e7.trans t7
    have t5 := e6.trans t6
    have t4 := e5.trans t5
    have t3 := e4.trans t4
    have t2 := e3.trans t3
    have t1 := e2.trans t2
    have all_ : ∀ v ∈ ([V.ref p1, V.ref p2, V.ref p3, V.ref p4, V.ref p5, V.ref p6, V.ref p7, V.ref p8, V.ref p9, V.ref p10, V.ref p11, V.ref p12, V.ref p13] ++ [V.ref p15, V.str "1/2", V.str "12", V.int 5, V.int 0, V.non, V.bl true, V.ref p16, V.ref p17, V.ref p19, V.ref p20, V.ref p21, V.ref p24] : List V), OddF K G25 v := by
      intro v hv
      simp only [List.cons_append, List.nil_append, List.mem_cons, List.not_mem_nil, or_false] at hv
      rcases hv with rfl | rfl | rfl | rfl | rfl | rfl | rfl | rfl | rfl | rfl | rfl | rfl | rfl | rfl | rfl | rfl | rfl | rfl | rfl | rfl | rfl | rfl | rfl | rfl | rfl | rfl
      · exact o1.up t1
      · exact o2.up t2
      · exact o3.up t3
      · exact o4.up t4
      · exact o5.up t5
      · exact o6.up t6
      · exact o7.up t7
      · exact o8.up t8
      · exact o9.up t9
      · exact o10.up t10
      · exact o11.up t11
      · exact o12.up t12
      · exact o13.up t13
      · exact o15.up t15
      · exact .str _
      · exact .str _
      · exact .int _
      · exact .int _
      · exact .non
      · exact .bl _
      · exact o16.up t16
      · exact o17.up t17
      · exact o19.up t19
      · exact o20.up t20
      · exact o21.up t21
      · exact o24.up t24
    refine ⟨p14, p25, _, _, rfl, rfl, t14 _ _ la, lb, by show 13 + 13 ≤ sizeLine; decide, fun pz hpz => ?_⟩
    have gl : SqL K (upd G25 pz (.lst ([V.ref p1, V.ref p2, V.ref p3, V.ref p4, V.ref p5, V.ref p6, V.ref p7, V.ref p8, V.ref p9, V.ref p10, V.ref p11, V.ref p12, V.ref p13] ++ [V.ref p15, V.str "1/2", V.str "12", V.int 5, V.int 0, V.non, V.bl true, V.ref p16, V.ref p17, V.ref p19, V.ref p20, V.ref p21, V.ref p24]))) pz ([V.ref p1, V.ref p2, V.ref p3, V.ref p4, V.ref p5, V.ref p6, V.ref p7, V.ref p8, V.ref p9, V.ref p10, V.ref p11, V.ref p12, V.ref p13] ++ [V.ref p15, V.str "1/2", V.str "12", V.int 5, V.int 0, V.non, V.bl true, V.ref p16, V.ref p17, V.ref p19, V.ref p20, V.ref p21, V.ref p24]) := SqL.of upd_same
    have ez := same_new (o := .lst ([V.ref p1, V.ref p2, V.ref p3, V.ref p4, V.ref p5, V.ref p6, V.ref p7, V.ref p8, V.ref p9, V.ref p10, V.ref p11, V.ref p12, V.ref p13] ++ [V.ref p15, V.str "1/2", V.str "12", V.int 5, V.int 0, V.non, V.bl true, V.ref p16, V.ref p17, V.ref p19, V.ref p20, V.ref p21, V.ref p24])) hpz
    refine ⟨_, rfl, pz, rfl, ⟨_, gl⟩, ?_⟩
    refine for_list (fun i σ' H' => upd G25 pz (.lst ([V.ref p1, V.ref p2, V.ref p3, V.ref p4, V.ref p5, V.ref p6, V.ref p7, V.ref p8, V.ref p9, V.ref p10, V.ref p11, V.ref p12, V.ref p13] ++ [V.ref p15, V.str "1/2", V.str "12", V.int 5, V.int 0, V.non, V.bl true, V.ref p16, V.ref p17, V.ref p19, V.ref p20, V.ref p21, V.ref p24])) = H' ∧ ∃ c5 c6, σ' = [some (.int n), some (.int d), some (.ref pf), some v, some (.bl (decide (1 ≤ d) && decide (n.natAbs.gcd d.natAbs = 1))), c5, c6]) ⟨rfl, _, _, rfl⟩ (fun i σ' H' _ z => by rw [← z.1]; exact gl) ?_ ?_
    · rintro i x _ _ hx ⟨rfl, c5, c6, rfl⟩
      have key := (all_ x (List.mem_of_getElem? hx)).up ez
      cases key with
      | bl b => exact ⟨_, rfl, _, rfl, .inl ⟨_, .base (.bl b), kit_ty (by decide +kernel), ⟨false, false, rfl, rfl, _, rfl, iteN (by decide) ⟨rfl, _, _, rfl⟩⟩⟩⟩
      | non => exact ⟨_, rfl, _, rfl, .inl ⟨_, .base .non, kit_ty (by decide +kernel), ⟨false, false, rfl, rfl, _, rfl, iteN (by decide) ⟨rfl, _, _, rfl⟩⟩⟩⟩
      | int i => exact ⟨_, rfl, _, rfl, .inl ⟨_, .base (.int i), kit_ty (by decide +kernel), ⟨false, false, rfl, rfl, _, rfl, iteN (by decide) ⟨rfl, _, _, rfl⟩⟩⟩⟩
      | str z => exact ⟨_, rfl, _, rfl, .inl ⟨_, .base (.str z), kit_ty (by decide +kernel), ⟨false, false, rfl, rfl, _, rfl, iteN (by decide) ⟨rfl, _, _, rfl⟩⟩⟩⟩
      | lst q => exact ⟨_, rfl, _, rfl, .inl ⟨_, .base (.lst q), kit_ty (by decide +kernel), ⟨false, false, rfl, rfl, _, rfl, iteN (by decide) ⟨rfl, _, _, rfl⟩⟩⟩⟩
      | len q l => exact ⟨_, rfl, _, rfl, .inr (.inl ⟨_, _, rfl, q, l, ⟨false, false, rfl, rfl, _, rfl, iteN (by decide) ⟨rfl, _, _, rfl⟩⟩⟩)⟩
      | tx q n => exact ⟨_, rfl, _, rfl, .inr (.inr (.inl ⟨_, _, _, rfl, q, n.no, ⟨false, false, rfl, rfl, _, rfl, iteN (by decide) ⟨rfl, _, _, rfl⟩⟩⟩))⟩
      | ty q n => exact ⟨_, rfl, _, rfl, .inr (.inr (.inr (.inl ⟨_, _, _, rfl, q, n.no, ⟨false, false, rfl, rfl, _, rfl, iteN (by decide) ⟨rfl, _, _, rfl⟩⟩⟩)))⟩
      | no q n =>
        refine ⟨_, rfl, _, rfl, .inr (.inr (.inr (.inr ⟨_, _, q, ?_⟩)))⟩
        rw [n]
        exact ⟨false, false, rfl, rfl, _, rfl, iteN (by decide) ⟨rfl, _, _, rfl⟩⟩
    · rintro _ _ ⟨rfl, c5, c6, rfl⟩
      exact k _ (eH1.trans (e1.trans (t1.trans ez)))
end
end K01

set_option Elab.async false
set_option linter.all false
set_option maxRecDepth 100000
set_option maxHeartbeats 4000000
namespace K01
open PySem PySem.Spec PyProof.Rows L2 Ew
open SX (S)
/-- a thing that is no text, with the text that repr makes of it -/
structure Th (K : PySem.W.Frag) (F : Hp) (v : V) : Prop where
  r : ∃ t : Str, ∀ H, Same F H → ∀ Q : VK, Q (.str t) H → rRepr K [v] H Q
  y : ∀ H, Same F H → ∃ ty, TyX K H v ty ∧ PySem.W.kitOne K ty (.type "str") = some false
theorem Th.up {K : PySem.W.Frag} {F F' : Hp} {v : V} (h : Th K F v) (e : Same F F') : Th K F' v := ⟨by
  obtain ⟨t, k⟩ := h.r
  exact ⟨t, fun H e2 => k H (e.trans e2)⟩, fun H e2 => h.y H (e.trans e2)⟩
theorem th_non {K : PySem.W.Frag} {F : Hp} : Th K F .non := ⟨⟨_, fun H e Q q => ⟨.inr (.inr (.inr (.inl ⟨rfl, q⟩)))⟩⟩, fun H e => ⟨_, .base .non, kit_ty (by decide +kernel)⟩⟩
theorem th_int {K : PySem.W.Frag} {F : Hp} {i : Int} (h : i.natAbs.log2 < 1920) : Th K F (.int i) := ⟨⟨_, fun H e Q q => ⟨.inr (.inl ⟨i, rfl, h, q⟩)⟩⟩, fun H e => ⟨_, .base (.int i), kit_ty (by decide +kernel)⟩⟩
theorem th_bl {K : PySem.W.Frag} {F : Hp} {b : Bool} : Th K F (.bl b) := ⟨⟨_, fun H e Q q => ⟨.inr (.inr (.inl ⟨b, rfl, q⟩))⟩⟩, fun H e => ⟨_, .base (.bl b), kit_ty (by decide +kernel)⟩⟩
theorem th_dict {K : PySem.W.Frag} {F : Hp} {p : Addr} (h : F p = some (.dK [])) : Th K F (.ref p) := ⟨⟨_, fun H e Q q => ⟨.inr (.inr (.inr (.inr ⟨p, rfl, e _ _ h, q⟩)))⟩⟩, fun H e => ⟨_, .base (.dK (e _ _ h)), kit_ty (by decide +kernel)⟩⟩
theorem th_tup {K : PySem.W.Frag} {F : Hp} {p : Addr} {xs : List V} {ds : List PyData} (h : SqT K F p xs) (hd : ∀ H, DpAll K H xs ds) (h1 : (PyData.tuple ds).showable = true) (h2 : (PyData.tuple ds).hasDict = false) (h3 : (PyData.tuple ds).depth ≤ 60) (h4 : (PyData.tuple ds).shown.length ≤ sizeLine) : Th K F (.ref p) :=
  ⟨⟨_, fun H e Q q => ⟨.inl ⟨p, .tuple ds, rfl, .tup (upT e h) (hd H), h1, h2, h3, h4, q⟩⟩⟩, fun H e => ⟨_, ty_sqT (upT e h), kit_ty (by decide +kernel)⟩⟩
theorem th_lst {K : PySem.W.Frag} {F : Hp} {p : Addr} {xs : List V} {ds : List PyData} (h : F p = some (.lst xs)) (hd : ∀ H, DpAll K H xs ds) (h1 : (PyData.list ds).showable = true) (h2 : (PyData.list ds).hasDict = false) (h3 : (PyData.list ds).depth ≤ 60) (h4 : (PyData.list ds).shown.length ≤ sizeLine) : Th K F (.ref p) :=
  ⟨⟨_, fun H e Q q => ⟨.inl ⟨p, .list ds, rfl, .lst (SqL.of (e _ _ h)) (hd H), h1, h2, h3, h4, q⟩⟩⟩, fun H e => ⟨_, .base (.lst (e _ _ h)), kit_ty (by decide +kernel)⟩⟩
section
variable {P : Program} {w : World} {K : PySem.W.Frag} {mg : Str → Option Value} {base : Heap} {a : Ad}
def sp__law_odd_things (K : PySem.W.Frag) : Sp := fun vs H Q _ => ∃ F : Hp, vs = [] ∧ Same F H ∧ ∀ F' H' l xs, Stp F H F' H' → SqL K F' l xs → xs.length ≤ 1000 → (∀ x ∈ xs, Th K F' x) → Q (.ref l) H'
theorem c__law_odd_things (T : Txt K mg a) : Cl P w K mg base 1 "_law_odd_things" P__law_odd_things (sp__law_odd_things K) [] :=
  T.d__law_odd_things.cl sc__law_odd_things (fun vs H Q E h => by obtain ⟨F, rfl, _⟩ := h; rfl) fun f cdv A outer s0 H vs Q E hr h => by
    obtain ⟨F, rfl, hf, k⟩ := h
    refine ⟨_, ((pss_one (ps_ret (pe_lst (pa_cons pe_non (pa_cons pe_int (pa_cons pe_int (pa_cons pe_bl (pa_cons (pe_tup (pa_cons pe_int (pa_cons pe_int pa_nil))) (pa_cons (pe_lst (pa_cons pe_str pa_nil)) (pa_cons (pe_lst pa_nil) (pa_cons pe_dnewK (pa_cons (pe_tup (pa_cons pe_str (pa_cons pe_str pa_nil))) pa_nil))))))))))))), ?_⟩
    refine ⟨by show 2 ≤ sizeLine; decide, fun p1 h1 => ?_⟩
    have s1 := stp_new (o := .tup [V.int 1, V.int 2]) hf h1
    have t1 : Th K (upd F p1 (.tup [V.int 1, V.int 2])) (.ref p1) := th_tup (ds := [.int 1, .int 2]) sq_new (fun H => .cons (.int _) (.cons (.int _) .nil)) (by decide +kernel) (by decide +kernel) (by decide +kernel) (by decide +kernel)
    refine ⟨by show 1 ≤ sizeLine; decide, fun p2 h2 => ?_⟩
    have e2 := same_new (o := .lst [V.str "1"]) (s1.fh.free h2)
    have s2 := s1.newP (o := .lst [V.str "1"]) h2
    have t2 : Th K (upd (upd F p1 (.tup [V.int 1, V.int 2])) p2 (.lst [V.str "1"])) (.ref p2) := th_lst (ds := [.str "1"]) upd_same (fun H => .cons (.str _) .nil) (by decide +kernel) (by decide +kernel) (by decide +kernel) (by decide +kernel)
    refine ⟨by show 0 ≤ sizeLine; decide, fun p3 h3 => ?_⟩
    have e3 := same_new (o := .lst []) (s2.fh.free h3)
    have s3 := s2.newP (o := .lst []) h3
    have t3 : Th K (upd (upd (upd F p1 (.tup [V.int 1, V.int 2])) p2 (.lst [V.str "1"])) p3 (.lst [])) (.ref p3) := th_lst (ds := []) upd_same (fun H => .nil) (by decide +kernel) (by decide +kernel) (by decide +kernel) (by decide +kernel)
    intro p4 h4
    have e4 := same_new (o := .dK []) (s3.fh.free h4)
    have s4 := s3.newP (o := .dK []) h4
    have t4 : Th K (upd (upd (upd (upd F p1 (.tup [V.int 1, V.int 2])) p2 (.lst [V.str "1"])) p3 (.lst [])) p4 (.dK [])) (.ref p4) := th_dict upd_same
    refine ⟨by show 2 ≤ sizeLine; decide, fun p5 h5 => ?_⟩
    have e5 := same_new (o := .tup [V.str "1", V.str "2"]) (s4.fh.free h5)
    have s5 := s4.newP (o := .tup [V.str "1", V.str "2"]) h5
    have t5 : Th K (upd (upd (upd (upd (upd F p1 (.tup [V.int 1, V.int 2])) p2 (.lst [V.str "1"])) p3 (.lst [])) p4 (.dK [])) p5 (.tup [V.str "1", V.str "2"])) (.ref p5) := th_tup (ds := [.str "1", .str "2"]) sq_new (fun H => .cons (.str _) (.cons (.str _) .nil)) (by decide +kernel) (by decide +kernel) (by decide +kernel) (by decide +kernel)
    refine ⟨by show 9 ≤ sizeLine; decide, fun l hl => ?_⟩
    have e6 := same_new (o := .lst [V.non, .int 5, .int 0, .bl true, .ref p1, .ref p2, .ref p3, .ref p4, .ref p5]) (s5.fh.free hl)
    have s6 := s5.newP (o := .lst [V.non, .int 5, .int 0, .bl true, .ref p1, .ref p2, .ref p3, .ref p4, .ref p5]) hl
    refine k _ _ l _ s6 (SqL.of upd_same) (by show 9 ≤ 1000; decide) fun x hx => ?_
    simp only [List.mem_cons, List.not_mem_nil, or_false] at hx
    rcases hx with rfl | rfl | rfl | rfl | rfl | rfl | rfl | rfl | rfl
    · exact th_non
    · exact th_int (by decide +kernel)
    · exact th_int (by decide +kernel)
    · exact th_bl
    · exact t1.up (e2.trans (e3.trans (e4.trans (e5.trans e6))))
    · exact t2.up (e3.trans (e4.trans (e5.trans e6)))
    · exact t3.up (e4.trans (e5.trans e6))
    · exact t4.up (e5.trans e6)
    · exact t5.up e6
end
end K01

set_option Elab.async false
set_option linter.all false
set_option maxRecDepth 100000
set_option maxHeartbeats 4000000
namespace K01
open PySem PySem.Spec PyProof.Rows L2 Ew
open SX (S)
section
variable {P : Program} {w : World} {K : PySem.W.Frag} {mg : Str → Option Value} {base : Heap} {a : Ad}
def sp__law_right_texts (K : PySem.W.Frag) : Sp := fun vs H Q _ => ∃ (F : Hp) (b : Addr) (u : V) (r : Int × Int), vs = [.ref b, u] ∧ Bag K b F H ∧ Same F H ∧ Rt K F u r ∧ Gd 1340 r ∧ ∀ F' H', Sb b F H F' H' → Bag K b F' H' → Q (.bl true) H'
theorem c__law_right_texts (T : Txt K mg a) : ClG P w K mg base 6 "_law_right_texts" P__law_right_texts (sp__law_right_texts K) :=
  T.d__law_right_texts.clG sc__law_right_texts (fun vs H Q E h => by obtain ⟨F, b, u, r, rfl, _⟩ := h; rfl) fun f cdv A outer s0 H vs Q E hgd hr h => by
    obtain ⟨F, b, u, r, rfl, hB, hf, hu, g, k⟩ := h
    refine ⟨_, ((pss_cons (ps_set (i := 2) sc__law_right_texts.nd rfl (Or.inl rfl) (pe_f (c__law_text_of T) (takes_of rfl rfl rfl rfl) hr (by decide) rfl (pa_cons (pv 1) pa_nil)))
 (pss_cons (ps_set (i := 3) sc__law_right_texts.nd rfl (Or.inl rfl) (pe_f (c_write_ratio T) (takes_of rfl rfl rfl rfl) hr (by decide) rfl (pa_cons (pv 1) pa_nil)))
 (pss_cons (ps_if (PW.pt (pw_or (pt_not (pt_val (pe_callB call_isi (by rfl) T.n_isinstance (by decide +kernel) (pa_cons (pv 3) (pa_cons (pe_bltn (v := .ty "str") (by rfl) T.n_str (by decide +kernel) rfl) pa_nil))))) (pw_or1 (pt_cmpR op_ne (pv 3) (pv 2) (nomark _)))))
 (pss_one (ps_ret pe_bl))
 pss_nil)
 (pss_cons (ps_for (passes_of rfl) rfl (pi_list (pe_op op_cat (pe_f (c__law_odd_texts T) (takes_of rfl rfl rfl rfl) hr (by decide) rfl (pa_cons (pv 0) pa_nil)) (pe_lst (pa_cons (pv 2) (pa_cons (pe_f (c__law_spoilt T) (takes_of rfl rfl rfl rfl) hr (by decide) rfl (pa_cons (pv 0) (pa_cons (pv 2) pa_nil))) (pa_cons (pe_f (c__law_spoilt T) (takes_of rfl rfl rfl rfl) hr (by decide) rfl (pa_cons (pv 0) (pa_cons (pv 2) pa_nil))) pa_nil)))))) (pg_name (i := 4) sc__law_right_texts.nd rfl (Or.inl rfl))
 (pss_one (ps_if (pt_not (pt_val (pe_f (c__law_right_reading T) (takes_of rfl rfl rfl rfl) hr (by decide) rfl (pa_cons (pv 4) pa_nil))))
 (pss_one (ps_ret pe_bl))
 pss_nil)))
 (pss_cons (ps_for (passes_of rfl) rfl (pi_list (pe_f0 (c__law_odd_things T) hr (by decide) rfl)) (pg_name (i := 5) sc__law_right_texts.nd rfl (Or.inl rfl))
 (pss_cons (ps_set (i := 3) sc__law_right_texts.nd rfl (Or.inl rfl) (pe_f (c__law_read_told T) (takes_of rfl rfl rfl rfl) hr (by decide) rfl (pa_cons (pv 5) pa_nil)))
 (pss_one (ps_if (PW.pt (pw_or (pt_cmpR op_ne (pe_ix ix_tup (pv 3) pe_int (fun _ _ => rfl)) pe_str (nomark _)) (pw_or1 (pt_cmpR op_ne (pe_callB (call_repr hgd hr.units) (by rfl) T.n_repr (by decide +kernel) (pa_cons (pe_ix ix_tup (pv 3) pe_int (fun _ _ => rfl)) pa_nil)) (pe_callB (call_repr hgd hr.units) (by rfl) T.n_repr (by decide +kernel) (pa_cons (pv 5) pa_nil)) (nomark _)))))
 (pss_one (ps_ret pe_bl))
 pss_nil))))
 (pss_one (ps_ret pe_bl)))))))), ?_⟩
    obtain ⟨LT, eT, lT⟩ : ∃ LT, textOf r = S LT ∧ LT.length ≤ 3843 := ⟨_, S_self _, by have := textOf_len g.a g.b; rw [Array.length_toList]; exact this⟩
    have eW : (if r.2 = 1 then Str.ofString (toString r.1) else Str.empty ++ Str.ofString (toString r.1) ++ "/" ++ Str.ofString (toString r.2)) = S LT := by rw [← eT, empty_cat]; rfl
    refine ⟨_, rfl, u, r, rfl, hu.up hf, g.a, g.b, ?_⟩
    rw [eT]
    refine ⟨_, rfl, u, r, rfl, hu.up hf, log_of g.a, log_of g.b, ?_⟩
    rw [eW]
    refine ⟨_, rfl, _, _, _, _, true, rfl, .ty _, .base (.str _), kit_ty (by decide +kernel), true, rfl, iteF ⟨_, rfl, _, rfl, rfl, _, rfl, iteN (by simp) ?_⟩⟩
    refine ⟨_, rfl, F, b, rfl, hB, hf, fun F1 H1 l xs s1 B1 hl lx tx => ?_⟩
    refine ⟨_, rfl, _, rfl, _, rfl, F1, b, LT, rfl, by omega, B1, s1.fh, fun F2 H2 M2 s2 B2 l2 => ?_⟩
    have t2 := seqB s1 B1 s2
    refine ⟨_, rfl, _, rfl, F2, b, LT, rfl, by omega, B2, t2.fh, fun F3 H3 M3 s3 B3 l3 => ?_⟩
    have t3 := seqB t2 B2 s3
    refine ⟨by show 3 ≤ sizeLine; decide, fun p hp => ?_⟩
    have hl3 : H3 l = some (.lst xs) := t3.fh _ _ (s3.ff _ _ (s2.ff _ _ hl))
    refine cat_step (xs := xs) t3 B3 hl3 hp (by show xs.length + 3 ≤ 1000; omega) fun F4 H4 q s4 B4 _ q4 => ?_
    have tx4 : ∀ x ∈ xs ++ [V.str (S LT), .str (S M2), .str (S M3)], Tx x := fun x hx => by
      rcases List.mem_append.mp hx with h | h
      · exact tx x h
      · simp only [List.mem_cons, List.not_mem_nil, or_false] at h
        rcases h with rfl | rfl | rfl
        · exact ⟨LT, rfl, by omega⟩
        · exact ⟨M2, rfl, by omega⟩
        · exact ⟨M3, rfl, by omega⟩
    generalize xs ++ [V.str (S LT), .str (S M2), .str (S M3)] = zs at q4 tx4
    have hz4 : SqL K F4 q zs := SqL.of q4
    refine ⟨q, rfl, ⟨_, upL s4.fh hz4⟩, ?_⟩
    refine for_list (xs := zs) (fun i σ' H' => ∃ F' c4, σ' = [some (.ref b), some u, some (.str (S LT)), some (.str (S LT)), c4, none] ∧ Sb b F H F' H' ∧ Bag K b F' H' ∧ Same F4 F') ⟨F4, none, rfl, s4, B4, Same.refl _⟩ (fun i σ' H' _ z => by obtain ⟨F', c4, _, s, _, e⟩ := z; exact upL s.fh (upL e hz4)) ?_ ?_
    · rintro i x _ H' hx ⟨F', c4, rfl, s5, B5, e5⟩
      obtain ⟨L, rfl, lL⟩ := tx4 x (List.mem_of_getElem? hx)
      refine ⟨_, rfl, F', L, rfl, by omega, s5.fh, fun F6 H6 s6 => ⟨true, rfl, iteF ?_⟩⟩
      obtain ⟨s7, B7⟩ := pureB s5 B5 s6
      exact ⟨F6, _, rfl, s7, B7, e5.trans s6.ff⟩
    · rintro _ H' ⟨F', c4, rfl, s5, B5, e5⟩
      refine ⟨F', rfl, s5.fh, fun F6 H6 m ts s6 hts lts th => ?_⟩
      obtain ⟨s6, B6⟩ := pureB s5 B5 s6
      refine ⟨m, rfl, ⟨_, upL s6.fh hts⟩, ?_⟩
      refine for_list (xs := ts) (fun i σ' H' => ∃ F' c3 c5, σ' = [some (.ref b), some u, some (.str (S LT)), c3, c4, c5] ∧ Sb b F H F' H' ∧ Bag K b F' H' ∧ Same F6 F') ⟨F6, _, none, rfl, s6, B6, Same.refl _⟩ (fun i σ' H' _ z => by obtain ⟨F', c3, c5, _, s, _, e⟩ := z; exact upL s.fh (upL e hts)) ?_ ?_
      · rintro i x _ H' hx ⟨F7, c3, c5, rfl, s7, B7, e7⟩
        have hx := (th x (List.mem_of_getElem? hx)).up e7
        obtain ⟨ty, y1, y2⟩ := hx.y _ s7.fh
        refine ⟨_, rfl, F7, x, rfl, s7.fh, .inr ⟨ty, y1, y2, fun F8 H8 z s8 hz => ?_⟩⟩
        obtain ⟨pz, rfl, hpz⟩ := hz
        have e8 := s8.ff
        obtain ⟨s9, B9⟩ := pureB s7 B7 s8
        have hp9 := upT s9.fh hpz
        have hx9 := hx.up e8
        obtain ⟨t, rp⟩ := hx9.r
        refine ⟨_, rfl, pz, _, _, _, rfl, rfl, hp9, at0, rfl, _, rfl, iteN (by simp) ?_⟩
        refine ⟨_, rfl, pz, _, _, _, rfl, rfl, hp9, at1, ?_⟩
        refine rp _ s9.fh _ ?_
        refine ⟨_, rfl, ?_⟩
        refine rp _ s9.fh _ ?_
        refine ⟨rfl, _, rfl, iteN (by simp) ?_⟩
        exact ⟨F8, _, _, rfl, s9, B9, e7.trans e8⟩
      · rintro _ H' ⟨F7, c3, c5, rfl, s7, B7, e7⟩
        exact k F7 H' s7 B7
end
end K01

set_option Elab.async false
set_option linter.all false
set_option maxRecDepth 100000
set_option maxHeartbeats 4000000
namespace K01
open PySem PySem.Spec PyProof.Rows L2 Ew
open SX (S)
section
variable {P : Program} {w : World} {K : PySem.W.Frag} {mg : Str → Option Value} {base : Heap} {a : Ad}
theorem int_at {xs : List Int} {i : Nat} {x : V} (h : (xs.map V.int)[i]? = some x) : ∃ d, xs[i]? = some d ∧ x = .int d := by
  rw [List.getElem?_map] at h
  cases e : xs[i]? with
  | none => rw [e] at h; cases h
  | some d => rw [e] at h; cases h; exact ⟨d, rfl, rfl⟩
def sp__law_bag_of (K : PySem.W.Frag) : Sp := fun vs H Q _ => ∃ (F : Hp) (p : Addr) (ns : List Int), vs = [.ref p] ∧ SqL K F p (ns.map V.int) ∧ ns.length ≤ 1000 ∧ Same F H ∧ ∀ F' H' b, Stp F H F' H' → Bag K b F' H' → Q (.ref b) H'
theorem c__law_bag_of (T : Txt K mg a) : Cl P w K mg base 1 "_law_bag_of" P__law_bag_of (sp__law_bag_of K) [] :=
  T.d__law_bag_of.cl sc__law_bag_of (fun vs H Q E h => by obtain ⟨F, p, ns, rfl, _⟩ := h; rfl) fun f cdv A outer s H vs Q E hr h => by
    obtain ⟨F, p, ns, rfl, hp, hn, hf, k⟩ := h
    refine ⟨_, ((pss_cons (ps_set (i := 1) sc__law_bag_of.nd rfl (Or.inl rfl) pe_int)
 (pss_cons (ps_for (passes_of rfl) rfl (pi_list (pv 0)) (pg_name (i := 2) sc__law_bag_of.nd rfl (Or.inl rfl))
 (pss_one (ps_set (i := 1) sc__law_bag_of.nd rfl (Or.inl rfl) (pe_op op_mod (pe_callTy call_int1 (by rfl) T.n_int (by decide +kernel) (pa_cons (pe_op op_add (pe_op op_add (pe_op op_mul (pv 1) pe_int) (pv 2)) pe_int) pa_nil)) pe_int))))
 (pss_one (ps_ret (pe_disp (pps_cons pe_str (pe_lc (own := [("_law_cell", 2)]) (g := (gName 2)) (by rfl) sc__law_bag_of.nd (pi_list (pv 0)) (blkOk_by (own := [("_law_cell", 2)]) (N := N__law_bag_of) (sc := defScope s__law_bag_of) (by decide +kernel)) (fun _ _ _ _ _ => (pg_name (i := 2) sc__law_bag_of.nd rfl (Or.inl rfl) (hf := .inr rfl))) (fun _ _ _ _ _ => pts_nil) (fun _ _ _ _ _ => (pv 2))) (pps_cons pe_str pe_int (pps_cons pe_str pe_int (pps_cons pe_str (pv 1) (pps_cons pe_str pe_int pps_nil))))) (by rfl) (by rfl) (fun z => by cases z) (by decide))))))), ?_⟩
    refine ⟨_, rfl, p, rfl, ⟨_, upL hf hp⟩, ?_⟩
    refine for_list (fun i σ' H' => H = H' ∧ ∃ (m : Int) (c : Option V), σ' = [some (.ref p), some (.int m), c]) ⟨rfl, 7, none, rfl⟩ (fun i σ' H' _ q => by rw [← q.1]; exact upL hf hp) ?_ ?_
    · rintro i x _ _ hx ⟨rfl, m, c, rfl⟩
      obtain ⟨d, hd, rfl⟩ := int_at hx
      refine ⟨_, rfl, _, _, rfl, rfl, .inr ⟨by decide, by decide⟩, _, rfl, _, _, rfl, rfl, _, _, rfl, rfl, .inl ⟨_, rfl, _, _, rfl, rfl, (by decide : (0 : Int) < 1000003), ?_⟩⟩
      exact ⟨rfl, _, _, rfl⟩
    · rintro _ _ ⟨rfl, m, c, rfl⟩
      intro b hb
      have s0 : Stp F H F (upd H b (.dK [])) := (Stm.refl hf).raw hb hb
      refine ⟨_, rfl, p, rfl, ⟨_, upL s0.fh hp⟩, fun D hD => ?_⟩
      refine lcM memP walk_list s0.fh trivial hD (fun i _ y => ∃ d, ns[i]? = some d ∧ y = V.int d) (fun _ _ _ _ _ z => z) (by rw [List.length_map]; omega) (fun F' H' e1 e2 => upL e2 (upL e1 hp)) ?_ ?_
      · rintro i x F' H1 H'' Kt Kn hi s1 _ ⟨rfl, hx⟩ kk
        obtain ⟨d, hd, rfl⟩ := int_at hx
        exact ⟨rfl, lc_yes ⟨_, rfl, kk _ _ _ (.refl s1.fh) trivial ⟨d, hd, rfl⟩⟩⟩
      · intro F' H1 ys s1 _ hD' hy hr'
        rw [List.length_map] at hy
        obtain rfl := map_of hy hr'
        have fb : F' b = none := s1.nw b (hf.free hb) (by rw [upd_same]; exact fun z => nomatch z)
        refine ⟨_, rfl, s1.same b _ upd_same, bk D 0 0 m 0, rfl, (by show 5 ≤ 15; decide), ?_⟩
        refine k F' _ b ((s0.transP s1).mut fb hb) ⟨fb, D, ns, 0, 0, m, 0, by decide, hn, SqL.of hD', ?_⟩
        rw [upd_same]
        rfl
theorem sz69 {n f : Int} (h : (n.natAbs : Int) < (10 : Int) ^ (60 : Int).toNat) (h0 : 0 ≤ f) (h1 : f ≤ 1000000000) : Sz 1340 (n * f) := by
  have e : (10 : Int) ^ (60 : Int).toNat = ((10 ^ 60 : Nat) : Int) := by decide +kernel
  rw [e] at h
  have a : Sz 200 n := Nat.lt_trans (by omega : n.natAbs < 10 ^ 60) (by decide +kernel)
  have b : Sz 31 f := by unfold Sz; omega
  exact (a.mul b).mono (by decide)
def sp_law (K : PySem.W.Frag) : Sp := fun vs H Q _ => ∃ (p : Addr) (ns : List Int), vs = [.ref p] ∧ SqL K H p (ns.map V.int) ∧ ns.length ≤ 1000 ∧ ∀ H', Q (.bl true) H'
theorem stp_same {F H H' : Hp} (hf : Same F H) (e : Same H H') : Stp F H F H' := ⟨Same.refl F, hf.trans e, fun x o _ q => e x o q, fun _ n _ => n⟩
theorem b_law (T : Txt K mg a) : BodyG P w K mg base N_law "law" s_law 6 (sp_law K) := fun f cdv A outer s0 H vs Q E hgd hr h => by
    obtain ⟨p, ns, rfl, hp, hn, k⟩ := h
    refine ⟨_, ((pss_cons (ps_set (i := 1) sc_law.nd rfl (Or.inl rfl) (pe_f (c__law_bag_of T) (takes_of rfl rfl rfl rfl) hr (by decide) rfl (pa_cons (pv 0) pa_nil)))
 (pss_cons (ps_set (i := 2) sc_law.nd rfl (Or.inl rfl) (pe_f (c__law_number_of T) (takes_of rfl rfl rfl rfl) hr (by decide) rfl (pa_cons (pv 1) pa_nil)))
 (pss_cons (ps_set (i := 3) sc_law.nd rfl (Or.inl rfl) (pe_f (c__law_number_of T) (takes_of rfl rfl rfl rfl) hr (by decide) rfl (pa_cons (pv 1) pa_nil)))
 (pss_cons (ps_if (pt_val (pe_f (c__law_one_in T) (takes_of rfl rfl rfl rfl) hr (by decide) rfl (pa_cons (pv 1) (pa_cons pe_int pa_nil))))
 (pss_one (ps_set (i := 3) sc_law.nd rfl (Or.inl rfl) pe_int))
 pss_nil)
 (pss_cons (ps_if (PW.pt (pw_and (pt_cmpR op_lt (pe_callB call_abs (by rfl) T.n_abs (by decide +kernel) (pa_cons (pv 2) pa_nil)) (pe_op op_pow pe_int pe_int) (nomark _)) (pw_and1 (pt_cmpR op_lt (pe_callB call_abs (by rfl) T.n_abs (by decide +kernel) (pa_cons (pv 3) pa_nil)) (pe_op op_pow pe_int pe_int) (nomark _)))))
 (pss_cons (ps_set (i := 4) sc_law.nd rfl (Or.inl rfl) (pe_f (c__law_choice T) (takes_of rfl rfl rfl rfl) hr (by decide) rfl (pa_cons (pv 1) (pa_cons (pe_lst (pa_cons pe_int (pa_cons pe_int (pa_cons pe_int (pa_cons pe_int (pa_cons (pe_op op_pow pe_int pe_int) pa_nil)))))) pa_nil))))
 (pss_cons (ps_set (i := 2) sc_law.nd rfl (Or.inl rfl) (pe_op op_mul (pv 2) (pv 4)))
 (pss_one (ps_set (i := 3) sc_law.nd rfl (Or.inl rfl) (pe_op op_mul (pv 3) (pv 4))))))
 pss_nil)
 (pss_cons (ps_set (i := 5) sc_law.nd rfl (Or.inl rfl) (pe_f (c__law_ratio T) (takes_of rfl rfl rfl rfl) hr (by decide) rfl (pa_cons (pv 2) (pa_cons (pe_ifExp (pt_cmpR op_ne (pv 3) pe_int (nomark _)) (pv 3) pe_int) pa_nil))))
 (pss_cons (ps_set (i := 6) sc_law.nd rfl (Or.inl rfl) (pe_f (c__law_second_of T) (takes_of rfl rfl rfl rfl) hr (by decide) rfl (pa_cons (pv 1) (pa_cons (pv 5) pa_nil))))
 (pss_cons (ps_if (PW.pt (pw_or (pt_not (pt_val (pe_f (c__law_right_making T) (takes_of rfl rfl rfl rfl) hr (by decide) rfl (pa_cons (pv 2) (pa_cons (pv 3) pa_nil))))) (pw_or1 (pt_not (pt_val (pe_f (c__law_right_kinds T) (takes_of rfl rfl rfl rfl) hr (by decide) rfl (pa_cons (pv 2) (pa_cons (pv 3) (pa_cons (pv 5) (pa_cons (pv 6) pa_nil))))))))))
 (pss_one (ps_ret pe_bl))
 pss_nil)
 (pss_cons (ps_if (PW.pt (pw_or (pt_not (pt_val (pe_f (c__law_right_reckoning T) (takes_of rfl rfl rfl rfl) hr (by decide) rfl (pa_cons (pv 5) (pa_cons (pv 6) pa_nil))))) (pw_or1 (pt_not (pt_val (pe_f (c__law_right_reckoning T) (takes_of rfl rfl rfl rfl) hr (by decide) rfl (pa_cons (pv 6) (pa_cons (pv 5) pa_nil))))))))
 (pss_one (ps_ret pe_bl))
 pss_nil)
 (pss_cons (ps_if (pt_not (pt_val (pe_f (c__law_right_reckoning T) (takes_of rfl rfl rfl rfl) hr (by decide) rfl (pa_cons (pv 5) (pa_cons (pv 5) pa_nil)))))
 (pss_one (ps_ret pe_bl))
 pss_nil)
 (pss_one (ps_ret (pe_and (pe_fG hgd (c__law_right_texts T) (takes_of rfl rfl rfl rfl) hr (by decide) rfl (pa_cons (pv 1) (pa_cons (pv 5) pa_nil))) (pe_one (pe_fG hgd (c__law_right_texts T) (takes_of rfl rfl rfl rfl) hr (by decide) rfl (pa_cons (pv 1) (pa_cons (pv 6) pa_nil)))))))))))))))))), ?_⟩
    refine ⟨_, rfl, H, p, ns, rfl, hp, hn, Same.refl H, fun F1 H1 b s1 B1 => ?_⟩
    have f1 := s1.fh
    refine ⟨_, rfl, F1, b, rfl, B1, f1, fun F2 H2 n s2 B2 hn2 => ?_⟩
    refine ⟨_, rfl, F2, b, rfl, B2, s2.fh, fun F3 H3 d s3 B3 hd3 => ?_⟩
    have s3 := seqB s2 B2 s3
    have zn := n401 hn2
    have zd := n401 hd3
    refine seq_with (fun σ2 HH => [some (.ref p), some (.ref b), some (.int n), some (.int d), none, none, none] = σ2 ∧ H3 = HH) (fun x hx => hx _ _ ⟨rfl, rfl⟩) ?_
    rintro _ _ ⟨rfl, rfl⟩
    refine seq_with (fun σ2 HH => ∃ d : Int, [some (.ref p), some (.ref b), some (.int n), some (.int d), none, none, none] = σ2 ∧ Sb b F1 H1 F3 HH ∧ Bag K b F3 HH ∧ Sz 1340 d) (fun x hx => ?_) ?_
    · refine ⟨_, rfl, F3, b, _, rfl, B3, s3.fh, by decide, sz_of 4 (by decide) (by decide), fun H4 c s4 B4 => ⟨c, rfl, ?_⟩⟩
      have s4 := seqB s3 B3 s4
      exact ite2 (fun e => hx _ _ ⟨0, rfl, s4, B4, sz0b⟩) (fun e => hx _ _ ⟨d, rfl, s4, B4, zd⟩)
    rintro _ H4 ⟨d, rfl, s4, B4, zd⟩
    refine seq_with (fun σ2 HH => ∃ (F5 : Hp) (n d : Int) (c : Option V), [some (.ref p), some (.ref b), some (.int n), some (.int d), c, none, none] = σ2 ∧ Sb b F1 H1 F5 HH ∧ Bag K b F5 HH ∧ Sz 1340 n ∧ Sz 1340 d) (fun x hx => ?_) ?_
    · obtain ⟨PW, hP⟩ : ∃ PW : Int, PW = (10 : Int) ^ (60 : Int).toNat := ⟨_, rfl⟩
      have hab : ∀ i : Int, (if i < 0 then -i else i) = (i.natAbs : Int) := fun i => by split <;> omega
      refine ⟨_, rfl, _, rfl, _, _, rfl, rfl, ⟨by decide, by decide, by decide⟩, _, _, rfl, rfl, _, rfl, ?_⟩
      rw [hab, ← hP]
      by_cases h1 : (n.natAbs : Int) < PW
      · refine iteY (decide_eq_true h1) ⟨_, rfl, _, rfl, _, _, rfl, rfl, ⟨by decide, by decide, by decide⟩, _, _, rfl, rfl, _, rfl, ?_⟩
        rw [hab, ← hP]
        by_cases h2 : (d.natAbs : Int) < PW
        · refine iteY (decide_eq_true h2) ⟨_, rfl, _, _, rfl, rfl, ⟨by decide, by decide, by decide⟩, by show 5 ≤ sizeLine; decide, fun q hq => ?_⟩
          obtain ⟨s5, B5⟩ := newB (o := .lst [V.int 1, .int 1, .int 2, .int 6, .int ((10 : Int) ^ (9 : Int).toNat)]) s4 B4 hq
          refine ⟨_, b, _, [V.int 1, .int 1, .int 2, .int 6, .int ((10 : Int) ^ (9 : Int).toNat)], rfl, .inl ⟨q, rfl, SqL.of upd_same⟩, (fun z => nomatch z), (by show 5 ≤ 1000; decide), B5, s5.fh, fun H6 y j s6 B6 hy => ?_⟩
          obtain ⟨fc, rfl, c0, c1⟩ : ∃ fc : Int, y = .int fc ∧ 0 ≤ fc ∧ fc ≤ 1000000000 := by
            match j, hy with
            | 0, e => cases e; exact ⟨_, rfl, by decide, by decide⟩
            | 1, e => cases e; exact ⟨_, rfl, by decide, by decide⟩
            | 2, e => cases e; exact ⟨_, rfl, by decide, by decide⟩
            | 3, e => cases e; exact ⟨_, rfl, by decide, by decide⟩
            | 4, e => cases e; exact ⟨_, rfl, by decide, by decide⟩
          have s6 := seqB s5 B5 s6
          refine ⟨_, rfl, _, rfl, _, _, rfl, rfl, .inr ⟨by omega, by omega⟩, ?_⟩
          refine ⟨_, rfl, _, rfl, _, _, rfl, rfl, .inr ⟨by omega, by omega⟩, ?_⟩
          exact hx _ _ ⟨_, _, _, _, rfl, s6, B6, sz69 (hP ▸ h1) c0 c1, sz69 (hP ▸ h2) c0 c1⟩
        · exact iteN (by rw [decide_eq_false h2]; exact fun z => nomatch z) (hx _ _ ⟨F3, n, d, none, rfl, s4, B4, zn, zd⟩)
      · exact iteN (by rw [decide_eq_false h1]; exact fun z => nomatch z) (iteF (hx _ _ ⟨F3, n, d, none, rfl, s4, B4, zn, zd⟩))
    rintro _ H5 ⟨F5, n, d, c, rfl, s5, B5, zn, zd⟩
    refine seq_with (fun σ2 HH => ∃ (F6 : Hp) (u : V) (r : Int × Int), [some (.ref p), some (.ref b), some (.int n), some (.int d), c, some u, none] = σ2 ∧ Sb b F1 H1 F6 HH ∧ Bag K b F6 HH ∧ Rt K F6 u r ∧ Gd 1340 r) (fun x hx => ?_) ?_
    · have fin : ∀ d : Int, d ≠ 0 → Sz 1340 d → ∀ F6 H6 v, Stp F5 H5 F6 H6 → Rt K F6 v (rat n d) → x { nx := fun _ H' => Q .non H', rt := Q } [some (.ref p), some (.ref b), some (.int n), some (.int d), c, some v, none] H6 → True := fun _ _ _ _ _ _ _ _ _ => trivial
      refine ⟨_, rfl, _, rfl, rfl, _, rfl, ?_⟩
      by_cases e : d = 0
      · rw [vint_eq e]
        refine iteF ⟨F5, n, 1, rfl, by decide, sz1b.mono (by decide), s5.fh, fun F6 H6 v s6 hv => ?_⟩
        obtain ⟨s6, B6⟩ := pureB s5 B5 s6
        exact hx _ _ ⟨F6, v, _, rfl, s6, B6, hv, Gd.rat zn sz1b (by decide)⟩
      · have := vint_ne e
        rw [Bool.not_eq_true] at this
        rw [this]
        refine iteT ⟨_, rfl, F5, n, d, rfl, e, zd.mono (by decide), s5.fh, fun F6 H6 v s6 hv => ?_⟩
        obtain ⟨s6, B6⟩ := pureB s5 B5 s6
        exact hx _ _ ⟨F6, v, _, rfl, s6, B6, hv, Gd.rat zn zd e⟩
    rintro _ H6 ⟨F6, u, r, rfl, s6, B6, hu, gr⟩
    refine ⟨_, rfl, _, rfl, F6, b, u, r, rfl, B6, s6.fh, hu, gr, fun F7 H7 v q s7 B7 hv gq => ?_⟩
    have hu := hu.up s7.ff
    have s7 := seqB s6 B6 s7
    refine ⟨_, rfl, _, rfl, F7, n, d, rfl, zd.mono (by decide), s7.fh, fun F8 H8 s8 => ⟨true, rfl, iteF ?_⟩⟩
    have hu := hu.up s8.ff
    have hv := hv.up s8.ff
    obtain ⟨s8, B8⟩ := pureB s7 B7 s8
    refine ⟨_, rfl, _, rfl, _, rfl, _, rfl, F8, n, d, u, v, r, q, rfl, hu, hv, gr, gq, s8.fh, fun H9 e9 => ⟨true, rfl, iteF ?_⟩⟩
    obtain ⟨s9, B9⟩ := pureB s8 B8 (stp_same s8.fh e9)
    have a1 := gr.a.mono (by decide : 1340 ≤ 2000)
    have a2 := gr.b.mono (by decide : 1340 ≤ 2000)
    have a3 := gq.a.mono (by decide : 1340 ≤ 2000)
    have a4 := gq.b.mono (by decide : 1340 ≤ 2000)
    refine ⟨_, rfl, _, rfl, F8, u, v, r, q, rfl, hu, hv, a1, a2, a3, a4, gr.ne, gq.ne, s9.fh, fun F10 H10 s10 => ⟨true, rfl, iteF ?_⟩⟩
    have hu := hu.up s10.ff
    have hv := hv.up s10.ff
    obtain ⟨s10, B10⟩ := pureB s9 B9 s10
    refine ⟨_, rfl, _, rfl, F10, v, u, q, r, rfl, hv, hu, a3, a4, a1, a2, gq.ne, gr.ne, s10.fh, fun F11 H11 s11 => ⟨true, rfl, iteF ?_⟩⟩
    have hu := hu.up s11.ff
    have hv := hv.up s11.ff
    obtain ⟨s11, B11⟩ := pureB s10 B10 s11
    refine ⟨_, rfl, _, rfl, F11, u, u, r, r, rfl, hu, hu, a1, a2, a1, a2, gr.ne, gr.ne, s11.fh, fun F12 H12 s12 => ⟨true, rfl, iteF ?_⟩⟩
    have hu := hu.up s12.ff
    have hv := hv.up s12.ff
    obtain ⟨s12, B12⟩ := pureB s11 B11 s12
    refine ⟨_, rfl, _, rfl, F12, b, u, r, rfl, B12, s12.fh, hu, gr, fun F13 H13 s13 B13 => ⟨true, rfl, iteT ?_⟩⟩
    have hv := hv.up s13.ff
    have s13 := seqB s12 B12 s13
    exact ⟨_, rfl, _, rfl, F13, b, v, q, rfl, B13, s13.fh, hv, gq, fun F14 H14 _ _ => k H14⟩
end
end K01

set_option Elab.async false
set_option linter.all false
set_option maxRecDepth 100000
set_option maxHeartbeats 4000000
namespace K01
open PySem PySem.Spec PyProof.Rows L2 Ew
theorem kit_cls0 {K : PySem.W.Frag} {t : Value} {C : Addr} {b : Bool} (h2 : PySem.W.isClsIn K C = true) (h3 : PySem.W.typeIn K (.ref C) = some (.type "type")) (h4 : PySem.W.subIn K t (.ref C) = some b) : PySem.W.kitCls K t (.ref C) = some b := by
  have e2 : ((PySem.W.clsIn K C).isSome && PySem.W.typeIn K (.ref C) == some (.type "type")) = true := by
    have h2' : (PySem.W.clsIn K C).isSome = true := h2
    rw [h2', h3] <;> rfl
  show (if ((PySem.W.clsIn K C).isSome && PySem.W.typeIn K (.ref C) == some (.type "type")) = true then PySem.W.subIn K t (.ref C) else none) = some b
  rw [if_pos e2]
  exact h4
theorem kit_yes {K : PySem.W.Frag} {t : Value} {C : Addr} (h2 : PySem.W.isClsIn K C = true) (h3 : PySem.W.typeIn K (.ref C) = some (.type "type")) (h4 : PySem.W.subIn K t (.ref C) = some true) : PySem.W.kitOne K t (.ref C) = some true := by
  unfold PySem.W.kitOne
  split
  · rfl
  · exact kit_cls0 h2 h3 h4
theorem kit_no1 {K : PySem.W.Frag} {C : Addr} (h2 : PySem.W.isClsIn K C = true) (h3 : PySem.W.typeIn K (.ref C) = some (.type "type")) (h4 : PySem.W.subIn K (.type "tuple") (.ref C) = some false) : PySem.W.kitOne K (.type "tuple") (.ref C) = some false := by
  unfold PySem.W.kitOne
  rw [if_neg (by simp)]
  exact kit_cls0 h2 h3 h4
theorem kit_ty2 {K : PySem.W.Frag} {C : Addr} (h4 : PySem.W.subIn K (.ref C) (.type "ValueError") = some true) : PySem.W.kitOne K (.ref C) (.type "ValueError") = some true := by
  unfold PySem.W.kitOne
  rw [if_neg (by simp)]
  show (if PySem.W.kitMeta "ValueError" = true then PySem.W.subIn K (.ref C) (.type "ValueError") else none) = some true
  rw [if_pos (by decide +kernel)]
  exact h4
theorem kit_no2 {K : PySem.W.Frag} {D C1 C2 : Addr} (n1 : D ≠ C1) (n2 : D ≠ C2) (h2 : PySem.W.isClsIn K C1 = true) (h3 : PySem.W.typeIn K (.ref C1) = some (.type "type")) (h4 : PySem.W.subIn K (.ref D) (.ref C1) = some false)
    (g2 : PySem.W.isClsIn K C2 = true) (g3 : PySem.W.typeIn K (.ref C2) = some (.type "type")) (g4 : PySem.W.subIn K (.ref D) (.ref C2) = some false) : PySem.W.kitAny K (.ref D) [.ref C1, .ref C2] = some false := by
  have e1 : PySem.W.kitOne K (.ref D) (.ref C1) = some false := by
    unfold PySem.W.kitOne
    rw [if_neg (by simpa using n1)]
    exact kit_cls0 h2 h3 h4
  have e2 : PySem.W.kitOne K (.ref D) (.ref C2) = some false := by
    unfold PySem.W.kitOne
    rw [if_neg (by simpa using n2)]
    exact kit_cls0 g2 g3 g4
  simp only [PySem.W.kitAny, e1, e2]
theorem kit_no3 {K : PySem.W.Frag} {D C1 : Addr} (n1 : D ≠ C1) (h2 : PySem.W.isClsIn K C1 = true) (h3 : PySem.W.typeIn K (.ref C1) = some (.type "type")) (h4 : PySem.W.subIn K (.ref D) (.ref C1) = some false) : PySem.W.kitOne K (.ref D) (.ref C1) = some false := by
  unfold PySem.W.kitOne
  rw [if_neg (by simpa using n1)]
  exact kit_cls0 h2 h3 h4
theorem exm_of {K : PySem.W.Frag} {D C : Addr} {b : Bool} (e : PySem.W.subIn K (.ref C) (.type "BaseException") = some true) (h2 : PySem.W.isClsIn K C = true) (h3 : PySem.W.typeIn K (.ref C) = some (.type "type")) (h4 : PySem.W.subIn K (.ref D) (.ref C) = some b) : PySem.W.exmOne K (.ref D) (.ref C) = some b := by
  unfold PySem.W.exmOne
  have e1 : (PySem.W.subIn K (.ref C) (.type "BaseException") == some true) = true := by rw [e] <;> rfl
  rw [if_pos e1]
  exact kit_cls0 h2 h3 h4
theorem ratio_at {K : PySem.W.Frag} {mg : Str → Option Value} {f TT : Addr} {od an : Option Addr} {sl : Array (Option Value)} {oc kV dc pm cd ct : Value} {tD : Tok} {nD0 : Nat} {odT : Option Addr} {ocT : Value} {slT : Array (Option Value)}
    (l : K.lookup f = some ⟨oc, od, .func (PySem.W.fnOf "ratio" "ratio" (defArgs s_ratio) (defBody s_ratio) (defScope s_ratio) (.ref TT) kV dc pm an cd ct), sl⟩) (lT : K.lookup TT = some ⟨ocT, odT, .seq #[.int 1 tD] nD0, slT⟩) (c : PySem.W.codeIn K cd "ratio" = true) (k : PySem.W.keepIn K (.ref f) = true) (g : mg "ratio" = some (.ref f)) :
    DefAtD K mg "ratio" s_ratio P_ratio [.int 1] := by
  have F : FunD K "ratio" "ratio" (defArgs s_ratio) (defBody s_ratio) (defScope s_ratio) [.int 1] [] f (PySem.W.fnOf "ratio" "ratio" (defArgs s_ratio) (defBody s_ratio) (defScope s_ratio) (.ref TT) kV dc pm an cd ct) :=
    ⟨⟨oc, od, .ref TT, kV, dc, pm, an, cd, ct, sl, rfl, l, c, .inr ⟨(fun z => nomatch z), TT, _, [.int 1 tD], nD0, rfl, lT, rfl, .cons ⟨tD, rfl⟩ .nil⟩, .inl rfl⟩, k⟩
  refine ⟨f, _, F, g, fun j hj => ?_⟩
  have hj : j = 0 ∨ j = 1 := by
    have : j ≤ 1 := hj
    omega
  rcases hj with rfl | rfl
  · exact F.binds1 1 0 (fun z => nomatch z) rfl fun T kV doc pm an cdv ct us its h1 h2 => match us, its, h1, h2 with | [_], [_], _, _ => ⟨_, rfl, rfl⟩
  · exact F.binds1 2 1 (fun z => nomatch z) rfl fun T kV doc pm an cdv ct us its h1 h2 => match us, its, h1, h2 with | [_, _], [_], _, _ => ⟨_, rfl, rfl⟩
theorem all_mk {P : Program} {w : World} {K : PySem.W.Frag} {h : Heap} {mg : Str → Option Value} {fa : Addr} (X : K.In h) (G : h.Ns mainGlobals mg) (hfa : mg "law" = some (.ref fa))
    {tD0 tL : Tok}
    {C_EllError : Addr}
    {C_Nought : Addr} {nm_Nought q_Nought : Str} {N_Nought : Addr} {bs_Nought : List Value} {sn_Nought : List Str} {sub_Nought : List Value} {ab_Nought : Bool} {col_Nought : Option Bool} {dd_Nought : Option Addr} {m0_Nought m1_Nought m2_Nought m3_Nought m5_Nought : Option Value}
    {f1 : Addr} {od1 an1 : Option Addr} {sl1 : Array (Option Value)} {oc1 kV1 dc1 pm1 cd1 ct1 : Value}
    {C_BadRatio : Addr} {nm_BadRatio q_BadRatio : Str} {N_BadRatio : Addr} {bs_BadRatio : List Value} {sn_BadRatio : List Str} {sub_BadRatio : List Value} {ab_BadRatio : Bool} {col_BadRatio : Option Bool} {dd_BadRatio : Option Addr} {m0_BadRatio m1_BadRatio m2_BadRatio m3_BadRatio m5_BadRatio : Option Value}
    {f2 : Addr} {od2 an2 : Option Addr} {sl2 : Array (Option Value)} {oc2 kV2 dc2 pm2 cd2 ct2 : Value}
    {f3 : Addr} {od3 an3 : Option Addr} {sl3 : Array (Option Value)} {oc3 kV3 dc3 pm3 cd3 ct3 : Value}
    {f4 : Addr} {od4 an4 : Option Addr} {sl4 : Array (Option Value)} {oc4 kV4 dc4 pm4 cd4 ct4 : Value}
    {f5 : Addr} {od5 an5 : Option Addr} {sl5 : Array (Option Value)} {oc5 kV5 dc5 pm5 cd5 ct5 : Value}
    {f6 : Addr} {od6 an6 : Option Addr} {sl6 : Array (Option Value)} {oc6 kV6 dc6 pm6 cd6 ct6 : Value}
    {f7 : Addr} {od7 an7 : Option Addr} {sl7 : Array (Option Value)} {oc7 kV7 dc7 pm7 cd7 ct7 : Value}
    {f8 : Addr} {od8 an8 : Option Addr} {sl8 : Array (Option Value)} {oc8 kV8 dc8 pm8 cd8 ct8 : Value}
    {f9 : Addr} {od9 an9 : Option Addr} {sl9 : Array (Option Value)} {oc9 kV9 dc9 pm9 cd9 ct9 : Value}
    {f10 : Addr} {od10 an10 : Option Addr} {sl10 : Array (Option Value)} {oc10 kV10 dc10 pm10 cd10 ct10 : Value}
    {f11 : Addr} {od11 an11 : Option Addr} {sl11 : Array (Option Value)} {oc11 kV11 dc11 pm11 cd11 ct11 : Value}
    {f12 : Addr} {od12 an12 : Option Addr} {sl12 : Array (Option Value)} {oc12 kV12 dc12 pm12 cd12 ct12 : Value}
    {f13 : Addr} {od13 an13 : Option Addr} {sl13 : Array (Option Value)} {oc13 kV13 dc13 pm13 cd13 ct13 : Value}
    {f14 : Addr} {od14 an14 : Option Addr} {sl14 : Array (Option Value)} {oc14 kV14 dc14 pm14 cd14 ct14 : Value}
    {f15 : Addr} {od15 an15 : Option Addr} {sl15 : Array (Option Value)} {oc15 kV15 dc15 pm15 cd15 ct15 : Value}
    {f16 : Addr} {od16 an16 : Option Addr} {sl16 : Array (Option Value)} {oc16 kV16 dc16 pm16 cd16 ct16 : Value}
    {f17 : Addr} {od17 an17 : Option Addr} {sl17 : Array (Option Value)} {oc17 kV17 dc17 pm17 cd17 ct17 : Value}
    {f18 : Addr} {od18 an18 : Option Addr} {sl18 : Array (Option Value)} {oc18 kV18 dc18 pm18 cd18 ct18 : Value}
    {f19 : Addr} {od19 an19 : Option Addr} {sl19 : Array (Option Value)} {oc19 kV19 dc19 pm19 cd19 ct19 : Value}
    {f20 : Addr} {od20 an20 : Option Addr} {sl20 : Array (Option Value)} {oc20 kV20 dc20 pm20 cd20 ct20 : Value}
    {f21 : Addr} {od21 an21 : Option Addr} {sl21 : Array (Option Value)} {oc21 kV21 dc21 pm21 cd21 ct21 : Value}
    {f22 : Addr} {od22 an22 : Option Addr} {sl22 : Array (Option Value)} {oc22 kV22 dc22 pm22 cd22 ct22 : Value}
    {f23 : Addr} {od23 an23 : Option Addr} {sl23 : Array (Option Value)} {oc23 kV23 dc23 pm23 cd23 ct23 : Value}
    {f24 : Addr} {od24 an24 : Option Addr} {sl24 : Array (Option Value)} {oc24 kV24 dc24 pm24 cd24 ct24 : Value}
    {f25 : Addr} {od25 an25 : Option Addr} {sl25 : Array (Option Value)} {oc25 kV25 dc25 pm25 cd25 ct25 : Value}
    {f26 : Addr} {od26 an26 : Option Addr} {sl26 : Array (Option Value)} {oc26 kV26 dc26 pm26 cd26 ct26 : Value}
    {f27 : Addr} {od27 an27 : Option Addr} {sl27 : Array (Option Value)} {oc27 kV27 dc27 pm27 cd27 ct27 : Value}
    {f28 : Addr} {od28 an28 : Option Addr} {sl28 : Array (Option Value)} {oc28 kV28 dc28 pm28 cd28 ct28 : Value}
    {f29 : Addr} {od29 an29 : Option Addr} {sl29 : Array (Option Value)} {oc29 kV29 dc29 pm29 cd29 ct29 : Value}
    {f30 : Addr} {od30 an30 : Option Addr} {sl30 : Array (Option Value)} {oc30 kV30 dc30 pm30 cd30 ct30 : Value}
    {f31 : Addr} {od31 an31 : Option Addr} {sl31 : Array (Option Value)} {oc31 kV31 dc31 pm31 cd31 ct31 : Value}
    {f32 : Addr} {od32 an32 : Option Addr} {sl32 : Array (Option Value)} {oc32 kV32 dc32 pm32 cd32 ct32 : Value}
    {f33 : Addr} {od33 an33 : Option Addr} {sl33 : Array (Option Value)} {oc33 kV33 dc33 pm33 cd33 ct33 : Value}
    {f34 : Addr} {od34 an34 : Option Addr} {sl34 : Array (Option Value)} {oc34 kV34 dc34 pm34 cd34 ct34 : Value}
    {f35 : Addr} {od35 an35 : Option Addr} {sl35 : Array (Option Value)} {oc35 kV35 dc35 pm35 cd35 ct35 : Value}
    {f36 : Addr} {od36 an36 : Option Addr} {sl36 : Array (Option Value)} {oc36 kV36 dc36 pm36 cd36 ct36 : Value}
    {f37 : Addr} {od37 an37 : Option Addr} {sl37 : Array (Option Value)} {oc37 kV37 dc37 pm37 cd37 ct37 : Value}
    {f38 : Addr} {od38 an38 : Option Addr} {sl38 : Array (Option Value)} {oc38 kV38 dc38 pm38 cd38 ct38 : Value}
    {f39 : Addr} {od39 an39 : Option Addr} {sl39 : Array (Option Value)} {oc39 kV39 dc39 pm39 cd39 ct39 : Value}
    {f40 : Addr} {od40 an40 : Option Addr} {sl40 : Array (Option Value)} {oc40 kV40 dc40 pm40 cd40 ct40 : Value}
    {f41 : Addr} {od41 an41 : Option Addr} {sl41 : Array (Option Value)} {oc41 kV41 dc41 pm41 cd41 ct41 : Value}
    {f42 : Addr} {od42 an42 : Option Addr} {sl42 : Array (Option Value)} {oc42 kV42 dc42 pm42 cd42 ct42 : Value}
    {f43 : Addr} {od43 an43 : Option Addr} {sl43 : Array (Option Value)} {oc43 kV43 dc43 pm43 cd43 ct43 : Value}
    {f44 TT : Addr} {od44 an44 : Option Addr} {sl44 : Array (Option Value)} {oc44 kV44 dc44 pm44 cd44 ct44 : Value} {tD : Tok} {nD0 : Nat} {odT : Option Addr} {ocT : Value} {slT : Array (Option Value)}
    {f45 : Addr} {od45 an45 : Option Addr} {sl45 : Array (Option Value)} {oc45 kV45 dc45 pm45 cd45 ct45 : Value}
    (z_isinstance : PySem.W.nsIn K mainGlobals "isinstance" = some none)
    (z_int : PySem.W.nsIn K mainGlobals "int" = some none)
    (z_bool : PySem.W.nsIn K mainGlobals "bool" = some none)
    (z_tuple : PySem.W.nsIn K mainGlobals "tuple" = some none)
    (z_str : PySem.W.nsIn K mainGlobals "str" = some none)
    (z_list : PySem.W.nsIn K mainGlobals "list" = some none)
    (z_len : PySem.W.nsIn K mainGlobals "len" = some none)
    (z_all : PySem.W.nsIn K mainGlobals "all" = some none)
    (z_abs : PySem.W.nsIn K mainGlobals "abs" = some none)
    (z_range : PySem.W.nsIn K mainGlobals "range" = some none)
    (z_max : PySem.W.nsIn K mainGlobals "max" = some none)
    (z_repr : PySem.W.nsIn K mainGlobals "repr" = some none)
    (z_ValueError : PySem.W.nsIn K mainGlobals "ValueError" = some none)
    (zgcd : PySem.W.nsIn K mainGlobals "gcd" = some (some (.builtin "math.gcd")))
    (zD : PySem.W.nsIn K mainGlobals "DIGITS" = some (some (.str "0123456789" tD0)))
    (zL : PySem.W.nsIn K mainGlobals "LONGEST" = some (some (.int 400 tL)))
    (gg0 : PySem.W.specialIn K (.builtin "object.__class__") "__get__" = some (some (.builtin "getset_descriptor.__get__")))
    (tk0 : PySem.W.takesIn K (.builtin "object.__class__") = some true)
    (a_EllError : PySem.W.nsIn K mainGlobals "EllError" = some (some (.ref C_EllError)))
    (ic_EllError : PySem.W.isClsIn K C_EllError = true)
    (tC_EllError : PySem.W.typeIn K (.ref C_EllError) = some (.type "type"))
    (a_Nought : PySem.W.nsIn K mainGlobals "Nought" = some (some (.ref C_Nought)))
    (x_Nought : K.lookup C_Nought = some (excClassObj nm_Nought q_Nought C_Nought N_Nought bs_Nought [.ref C_EllError, .type "ValueError", .type "Exception", .type "BaseException", .type "object"] true sn_Nought sub_Nought ab_Nought col_Nought dd_Nought m0_Nought m1_Nought m2_Nought m3_Nought m5_Nought "ValueError.__new__"))
    (sa_Nought : PySem.W.findIn K (.ref C_Nought) "__setattr__" = some (some (.builtin "object.__setattr__")))
    (ga_Nought : PySem.W.findIn K (.ref C_Nought) "__getattribute__" = some (some (.builtin "BaseException.__getattribute__")))
    (gt_Nought : PySem.W.findIn K (.ref C_Nought) "__getattr__" = some none)
    (ca_Nought : PySem.W.findIn K (.ref C_Nought) "__class__" = some (some (.builtin "object.__class__")))
    (kC_Nought : PySem.W.keepIn K (.ref C_Nought) = true)
    (eC_Nought : PySem.W.subIn K (.ref C_Nought) (.type "BaseException") = some true)
    (vC_Nought : PySem.W.subIn K (.ref C_Nought) (.type "ValueError") = some true)
    (lC_Nought : PySem.W.subIn K (.ref C_Nought) (.ref C_EllError) = some true)
    (tC_Nought : PySem.W.typeIn K (.ref C_Nought) = some (.type "type"))
    (hC_Nought : PySem.W.hasDictIn K C_Nought = true)
    (ic_Nought : PySem.W.isClsIn K C_Nought = true)
    (mo_Nought : PySem.W.mroIn K C_Nought (.type "object") = some true)
    (no_Nought_number : PySem.W.findIn K (.ref C_Nought) "number" = some none)
    (a1 : PySem.W.findIn K (.ref C_Nought) "__init__" = some (some (.ref f1)))
    (t1 : PySem.W.typeIn K (.ref f1) = some (.type "function"))
    (l1 : K.lookup f1 = some ⟨oc1, od1, .func (PySem.W.fnOf "__init__" "Nought.__init__" (defArgs s_NoughtD_initD) (defBody s_NoughtD_initD) (defScope s_NoughtD_initD) .none kV1 dc1 pm1 an1 cd1 ct1), sl1⟩)
    (c1 : PySem.W.codeIn K cd1 "Nought.__init__" = true)
    (k1 : PySem.W.keepIn K (.ref f1) = true)
    (a_BadRatio : PySem.W.nsIn K mainGlobals "BadRatio" = some (some (.ref C_BadRatio)))
    (x_BadRatio : K.lookup C_BadRatio = some (excClassObj nm_BadRatio q_BadRatio C_BadRatio N_BadRatio bs_BadRatio [.ref C_EllError, .type "ValueError", .type "Exception", .type "BaseException", .type "object"] true sn_BadRatio sub_BadRatio ab_BadRatio col_BadRatio dd_BadRatio m0_BadRatio m1_BadRatio m2_BadRatio m3_BadRatio m5_BadRatio "ValueError.__new__"))
    (sa_BadRatio : PySem.W.findIn K (.ref C_BadRatio) "__setattr__" = some (some (.builtin "object.__setattr__")))
    (ga_BadRatio : PySem.W.findIn K (.ref C_BadRatio) "__getattribute__" = some (some (.builtin "BaseException.__getattribute__")))
    (gt_BadRatio : PySem.W.findIn K (.ref C_BadRatio) "__getattr__" = some none)
    (ca_BadRatio : PySem.W.findIn K (.ref C_BadRatio) "__class__" = some (some (.builtin "object.__class__")))
    (kC_BadRatio : PySem.W.keepIn K (.ref C_BadRatio) = true)
    (eC_BadRatio : PySem.W.subIn K (.ref C_BadRatio) (.type "BaseException") = some true)
    (vC_BadRatio : PySem.W.subIn K (.ref C_BadRatio) (.type "ValueError") = some true)
    (lC_BadRatio : PySem.W.subIn K (.ref C_BadRatio) (.ref C_EllError) = some true)
    (tC_BadRatio : PySem.W.typeIn K (.ref C_BadRatio) = some (.type "type"))
    (hC_BadRatio : PySem.W.hasDictIn K C_BadRatio = true)
    (ic_BadRatio : PySem.W.isClsIn K C_BadRatio = true)
    (mo_BadRatio : PySem.W.mroIn K C_BadRatio (.type "object") = some true)
    (no_BadRatio_text : PySem.W.findIn K (.ref C_BadRatio) "text" = some none)
    (a2 : PySem.W.findIn K (.ref C_BadRatio) "__init__" = some (some (.ref f2)))
    (t2 : PySem.W.typeIn K (.ref f2) = some (.type "function"))
    (l2 : K.lookup f2 = some ⟨oc2, od2, .func (PySem.W.fnOf "__init__" "BadRatio.__init__" (defArgs s_BadRatioD_initD) (defBody s_BadRatioD_initD) (defScope s_BadRatioD_initD) .none kV2 dc2 pm2 an2 cd2 ct2), sl2⟩)
    (c2 : PySem.W.codeIn K cd2 "BadRatio.__init__" = true)
    (k2 : PySem.W.keepIn K (.ref f2) = true)
    (s_Nought_BadRatio : PySem.W.subIn K (.ref C_Nought) (.ref C_BadRatio) = some false)
    (ne_Nought_BadRatio : C_Nought ≠ C_BadRatio)
    (s_Nought_Nought : PySem.W.subIn K (.ref C_Nought) (.ref C_Nought) = some true)
    (s_BadRatio_Nought : PySem.W.subIn K (.ref C_BadRatio) (.ref C_Nought) = some false)
    (ne_BadRatio_Nought : C_BadRatio ≠ C_Nought)
    (s_BadRatio_BadRatio : PySem.W.subIn K (.ref C_BadRatio) (.ref C_BadRatio) = some true)
    (a3 : PySem.W.nsIn K mainGlobals "is_integer" = some (some (.ref f3)))
    (l3 : K.lookup f3 = some ⟨oc3, od3, .func (PySem.W.fnOf "is_integer" "is_integer" (defArgs s_is_integer) (defBody s_is_integer) (defScope s_is_integer) .none kV3 dc3 pm3 an3 cd3 ct3), sl3⟩)
    (c3 : PySem.W.codeIn K cd3 "is_integer" = true)
    (k3 : PySem.W.keepIn K (.ref f3) = true)
    (a4 : PySem.W.nsIn K mainGlobals "is_tuple_of" = some (some (.ref f4)))
    (l4 : K.lookup f4 = some ⟨oc4, od4, .func (PySem.W.fnOf "is_tuple_of" "is_tuple_of" (defArgs s_is_tuple_of) (defBody s_is_tuple_of) (defScope s_is_tuple_of) .none kV4 dc4 pm4 an4 cd4 ct4), sl4⟩)
    (c4 : PySem.W.codeIn K cd4 "is_tuple_of" = true)
    (k4 : PySem.W.keepIn K (.ref f4) = true)
    (a5 : PySem.W.nsIn K mainGlobals "is_ratio" = some (some (.ref f5)))
    (l5 : K.lookup f5 = some ⟨oc5, od5, .func (PySem.W.fnOf "is_ratio" "is_ratio" (defArgs s_is_ratio) (defBody s_is_ratio) (defScope s_is_ratio) .none kV5 dc5 pm5 an5 cd5 ct5), sl5⟩)
    (c5 : PySem.W.codeIn K cd5 "is_ratio" = true)
    (k5 : PySem.W.keepIn K (.ref f5) = true)
    (a6 : PySem.W.nsIn K mainGlobals "plus" = some (some (.ref f6)))
    (l6 : K.lookup f6 = some ⟨oc6, od6, .func (PySem.W.fnOf "plus" "plus" (defArgs s_plus) (defBody s_plus) (defScope s_plus) .none kV6 dc6 pm6 an6 cd6 ct6), sl6⟩)
    (c6 : PySem.W.codeIn K cd6 "plus" = true)
    (k6 : PySem.W.keepIn K (.ref f6) = true)
    (a7 : PySem.W.nsIn K mainGlobals "minus" = some (some (.ref f7)))
    (l7 : K.lookup f7 = some ⟨oc7, od7, .func (PySem.W.fnOf "minus" "minus" (defArgs s_minus) (defBody s_minus) (defScope s_minus) .none kV7 dc7 pm7 an7 cd7 ct7), sl7⟩)
    (c7 : PySem.W.codeIn K cd7 "minus" = true)
    (k7 : PySem.W.keepIn K (.ref f7) = true)
    (a8 : PySem.W.nsIn K mainGlobals "times" = some (some (.ref f8)))
    (l8 : K.lookup f8 = some ⟨oc8, od8, .func (PySem.W.fnOf "times" "times" (defArgs s_times) (defBody s_times) (defScope s_times) .none kV8 dc8 pm8 an8 cd8 ct8), sl8⟩)
    (c8 : PySem.W.codeIn K cd8 "times" = true)
    (k8 : PySem.W.keepIn K (.ref f8) = true)
    (a9 : PySem.W.nsIn K mainGlobals "over" = some (some (.ref f9)))
    (l9 : K.lookup f9 = some ⟨oc9, od9, .func (PySem.W.fnOf "over" "over" (defArgs s_over) (defBody s_over) (defScope s_over) .none kV9 dc9 pm9 an9 cd9 ct9), sl9⟩)
    (c9 : PySem.W.codeIn K cd9 "over" = true)
    (k9 : PySem.W.keepIn K (.ref f9) = true)
    (a10 : PySem.W.nsIn K mainGlobals "compare" = some (some (.ref f10)))
    (l10 : K.lookup f10 = some ⟨oc10, od10, .func (PySem.W.fnOf "compare" "compare" (defArgs s_compare) (defBody s_compare) (defScope s_compare) .none kV10 dc10 pm10 an10 cd10 ct10), sl10⟩)
    (c10 : PySem.W.codeIn K cd10 "compare" = true)
    (k10 : PySem.W.keepIn K (.ref f10) = true)
    (a11 : PySem.W.nsIn K mainGlobals "write_ratio" = some (some (.ref f11)))
    (l11 : K.lookup f11 = some ⟨oc11, od11, .func (PySem.W.fnOf "write_ratio" "write_ratio" (defArgs s_write_ratio) (defBody s_write_ratio) (defScope s_write_ratio) .none kV11 dc11 pm11 an11 cd11 ct11), sl11⟩)
    (c11 : PySem.W.codeIn K cd11 "write_ratio" = true)
    (k11 : PySem.W.keepIn K (.ref f11) = true)
    (a12 : PySem.W.nsIn K mainGlobals "read_ratio" = some (some (.ref f12)))
    (l12 : K.lookup f12 = some ⟨oc12, od12, .func (PySem.W.fnOf "read_ratio" "read_ratio" (defArgs s_read_ratio) (defBody s_read_ratio) (defScope s_read_ratio) .none kV12 dc12 pm12 an12 cd12 ct12), sl12⟩)
    (c12 : PySem.W.codeIn K cd12 "read_ratio" = true)
    (k12 : PySem.W.keepIn K (.ref f12) = true)
    (a13 : PySem.W.nsIn K mainGlobals "is_whole" = some (some (.ref f13)))
    (l13 : K.lookup f13 = some ⟨oc13, od13, .func (PySem.W.fnOf "is_whole" "is_whole" (defArgs s_is_whole) (defBody s_is_whole) (defScope s_is_whole) .none kV13 dc13 pm13 an13 cd13 ct13), sl13⟩)
    (c13 : PySem.W.codeIn K cd13 "is_whole" = true)
    (k13 : PySem.W.keepIn K (.ref f13) = true)
    (a14 : PySem.W.nsIn K mainGlobals "_is_divisor" = some (some (.ref f14)))
    (l14 : K.lookup f14 = some ⟨oc14, od14, .func (PySem.W.fnOf "_is_divisor" "_is_divisor" (defArgs s__is_divisor) (defBody s__is_divisor) (defScope s__is_divisor) .none kV14 dc14 pm14 an14 cd14 ct14), sl14⟩)
    (c14 : PySem.W.codeIn K cd14 "_is_divisor" = true)
    (k14 : PySem.W.keepIn K (.ref f14) = true)
    (a15 : PySem.W.nsIn K mainGlobals "_is_digits" = some (some (.ref f15)))
    (l15 : K.lookup f15 = some ⟨oc15, od15, .func (PySem.W.fnOf "_is_digits" "_is_digits" (defArgs s__is_digits) (defBody s__is_digits) (defScope s__is_digits) .none kV15 dc15 pm15 an15 cd15 ct15), sl15⟩)
    (c15 : PySem.W.codeIn K cd15 "_is_digits" = true)
    (k15 : PySem.W.keepIn K (.ref f15) = true)
    (a16 : PySem.W.nsIn K mainGlobals "_law_bag_of" = some (some (.ref f16)))
    (l16 : K.lookup f16 = some ⟨oc16, od16, .func (PySem.W.fnOf "_law_bag_of" "_law_bag_of" (defArgs s__law_bag_of) (defBody s__law_bag_of) (defScope s__law_bag_of) .none kV16 dc16 pm16 an16 cd16 ct16), sl16⟩)
    (c16 : PySem.W.codeIn K cd16 "_law_bag_of" = true)
    (k16 : PySem.W.keepIn K (.ref f16) = true)
    (a17 : PySem.W.nsIn K mainGlobals "_law_pick" = some (some (.ref f17)))
    (l17 : K.lookup f17 = some ⟨oc17, od17, .func (PySem.W.fnOf "_law_pick" "_law_pick" (defArgs s__law_pick) (defBody s__law_pick) (defScope s__law_pick) .none kV17 dc17 pm17 an17 cd17 ct17), sl17⟩)
    (c17 : PySem.W.codeIn K cd17 "_law_pick" = true)
    (k17 : PySem.W.keepIn K (.ref f17) = true)
    (a18 : PySem.W.nsIn K mainGlobals "_law_choice" = some (some (.ref f18)))
    (l18 : K.lookup f18 = some ⟨oc18, od18, .func (PySem.W.fnOf "_law_choice" "_law_choice" (defArgs s__law_choice) (defBody s__law_choice) (defScope s__law_choice) .none kV18 dc18 pm18 an18 cd18 ct18), sl18⟩)
    (c18 : PySem.W.codeIn K cd18 "_law_choice" = true)
    (k18 : PySem.W.keepIn K (.ref f18) = true)
    (a19 : PySem.W.nsIn K mainGlobals "_law_one_in" = some (some (.ref f19)))
    (l19 : K.lookup f19 = some ⟨oc19, od19, .func (PySem.W.fnOf "_law_one_in" "_law_one_in" (defArgs s__law_one_in) (defBody s__law_one_in) (defScope s__law_one_in) .none kV19 dc19 pm19 an19 cd19 ct19), sl19⟩)
    (c19 : PySem.W.codeIn K cd19 "_law_one_in" = true)
    (k19 : PySem.W.keepIn K (.ref f19) = true)
    (a20 : PySem.W.nsIn K mainGlobals "_law_integer" = some (some (.ref f20)))
    (l20 : K.lookup f20 = some ⟨oc20, od20, .func (PySem.W.fnOf "_law_integer" "_law_integer" (defArgs s__law_integer) (defBody s__law_integer) (defScope s__law_integer) .none kV20 dc20 pm20 an20 cd20 ct20), sl20⟩)
    (c20 : PySem.W.codeIn K cd20 "_law_integer" = true)
    (k20 : PySem.W.keepIn K (.ref f20) = true)
    (a21 : PySem.W.nsIn K mainGlobals "_law_gcd" = some (some (.ref f21)))
    (l21 : K.lookup f21 = some ⟨oc21, od21, .func (PySem.W.fnOf "_law_gcd" "_law_gcd" (defArgs s__law_gcd) (defBody s__law_gcd) (defScope s__law_gcd) .none kV21 dc21 pm21 an21 cd21 ct21), sl21⟩)
    (c21 : PySem.W.codeIn K cd21 "_law_gcd" = true)
    (k21 : PySem.W.keepIn K (.ref f21) = true)
    (a22 : PySem.W.nsIn K mainGlobals "_law_ratio" = some (some (.ref f22)))
    (l22 : K.lookup f22 = some ⟨oc22, od22, .func (PySem.W.fnOf "_law_ratio" "_law_ratio" (defArgs s__law_ratio) (defBody s__law_ratio) (defScope s__law_ratio) .none kV22 dc22 pm22 an22 cd22 ct22), sl22⟩)
    (c22 : PySem.W.codeIn K cd22 "_law_ratio" = true)
    (k22 : PySem.W.keepIn K (.ref f22) = true)
    (a23 : PySem.W.nsIn K mainGlobals "_law_plus" = some (some (.ref f23)))
    (l23 : K.lookup f23 = some ⟨oc23, od23, .func (PySem.W.fnOf "_law_plus" "_law_plus" (defArgs s__law_plus) (defBody s__law_plus) (defScope s__law_plus) .none kV23 dc23 pm23 an23 cd23 ct23), sl23⟩)
    (c23 : PySem.W.codeIn K cd23 "_law_plus" = true)
    (k23 : PySem.W.keepIn K (.ref f23) = true)
    (a24 : PySem.W.nsIn K mainGlobals "_law_minus" = some (some (.ref f24)))
    (l24 : K.lookup f24 = some ⟨oc24, od24, .func (PySem.W.fnOf "_law_minus" "_law_minus" (defArgs s__law_minus) (defBody s__law_minus) (defScope s__law_minus) .none kV24 dc24 pm24 an24 cd24 ct24), sl24⟩)
    (c24 : PySem.W.codeIn K cd24 "_law_minus" = true)
    (k24 : PySem.W.keepIn K (.ref f24) = true)
    (a25 : PySem.W.nsIn K mainGlobals "_law_times" = some (some (.ref f25)))
    (l25 : K.lookup f25 = some ⟨oc25, od25, .func (PySem.W.fnOf "_law_times" "_law_times" (defArgs s__law_times) (defBody s__law_times) (defScope s__law_times) .none kV25 dc25 pm25 an25 cd25 ct25), sl25⟩)
    (c25 : PySem.W.codeIn K cd25 "_law_times" = true)
    (k25 : PySem.W.keepIn K (.ref f25) = true)
    (a26 : PySem.W.nsIn K mainGlobals "_law_over" = some (some (.ref f26)))
    (l26 : K.lookup f26 = some ⟨oc26, od26, .func (PySem.W.fnOf "_law_over" "_law_over" (defArgs s__law_over) (defBody s__law_over) (defScope s__law_over) .none kV26 dc26 pm26 an26 cd26 ct26), sl26⟩)
    (c26 : PySem.W.codeIn K cd26 "_law_over" = true)
    (k26 : PySem.W.keepIn K (.ref f26) = true)
    (a27 : PySem.W.nsIn K mainGlobals "_law_number_of" = some (some (.ref f27)))
    (l27 : K.lookup f27 = some ⟨oc27, od27, .func (PySem.W.fnOf "_law_number_of" "_law_number_of" (defArgs s__law_number_of) (defBody s__law_number_of) (defScope s__law_number_of) .none kV27 dc27 pm27 an27 cd27 ct27), sl27⟩)
    (c27 : PySem.W.codeIn K cd27 "_law_number_of" = true)
    (k27 : PySem.W.keepIn K (.ref f27) = true)
    (a28 : PySem.W.nsIn K mainGlobals "_law_second_of" = some (some (.ref f28)))
    (l28 : K.lookup f28 = some ⟨oc28, od28, .func (PySem.W.fnOf "_law_second_of" "_law_second_of" (defArgs s__law_second_of) (defBody s__law_second_of) (defScope s__law_second_of) .none kV28 dc28 pm28 an28 cd28 ct28), sl28⟩)
    (c28 : PySem.W.codeIn K cd28 "_law_second_of" = true)
    (k28 : PySem.W.keepIn K (.ref f28) = true)
    (a29 : PySem.W.nsIn K mainGlobals "_law_same" = some (some (.ref f29)))
    (l29 : K.lookup f29 = some ⟨oc29, od29, .func (PySem.W.fnOf "_law_same" "_law_same" (defArgs s__law_same) (defBody s__law_same) (defScope s__law_same) .none kV29 dc29 pm29 an29 cd29 ct29), sl29⟩)
    (c29 : PySem.W.codeIn K cd29 "_law_same" = true)
    (k29 : PySem.W.keepIn K (.ref f29) = true)
    (a30 : PySem.W.nsIn K mainGlobals "_law_ratio_told" = some (some (.ref f30)))
    (l30 : K.lookup f30 = some ⟨oc30, od30, .func (PySem.W.fnOf "_law_ratio_told" "_law_ratio_told" (defArgs s__law_ratio_told) (defBody s__law_ratio_told) (defScope s__law_ratio_told) .none kV30 dc30 pm30 an30 cd30 ct30), sl30⟩)
    (c30 : PySem.W.codeIn K cd30 "_law_ratio_told" = true)
    (k30 : PySem.W.keepIn K (.ref f30) = true)
    (a31 : PySem.W.nsIn K mainGlobals "_law_over_told" = some (some (.ref f31)))
    (l31 : K.lookup f31 = some ⟨oc31, od31, .func (PySem.W.fnOf "_law_over_told" "_law_over_told" (defArgs s__law_over_told) (defBody s__law_over_told) (defScope s__law_over_told) .none kV31 dc31 pm31 an31 cd31 ct31), sl31⟩)
    (c31 : PySem.W.codeIn K cd31 "_law_over_told" = true)
    (k31 : PySem.W.keepIn K (.ref f31) = true)
    (a32 : PySem.W.nsIn K mainGlobals "_law_read_told" = some (some (.ref f32)))
    (l32 : K.lookup f32 = some ⟨oc32, od32, .func (PySem.W.fnOf "_law_read_told" "_law_read_told" (defArgs s__law_read_told) (defBody s__law_read_told) (defScope s__law_read_told) .none kV32 dc32 pm32 an32 cd32 ct32), sl32⟩)
    (c32 : PySem.W.codeIn K cd32 "_law_read_told" = true)
    (k32 : PySem.W.keepIn K (.ref f32) = true)
    (a33 : PySem.W.nsIn K mainGlobals "_law_right_making" = some (some (.ref f33)))
    (l33 : K.lookup f33 = some ⟨oc33, od33, .func (PySem.W.fnOf "_law_right_making" "_law_right_making" (defArgs s__law_right_making) (defBody s__law_right_making) (defScope s__law_right_making) .none kV33 dc33 pm33 an33 cd33 ct33), sl33⟩)
    (c33 : PySem.W.codeIn K cd33 "_law_right_making" = true)
    (k33 : PySem.W.keepIn K (.ref f33) = true)
    (a34 : PySem.W.nsIn K mainGlobals "_law_right_reckoning" = some (some (.ref f34)))
    (l34 : K.lookup f34 = some ⟨oc34, od34, .func (PySem.W.fnOf "_law_right_reckoning" "_law_right_reckoning" (defArgs s__law_right_reckoning) (defBody s__law_right_reckoning) (defScope s__law_right_reckoning) .none kV34 dc34 pm34 an34 cd34 ct34), sl34⟩)
    (c34 : PySem.W.codeIn K cd34 "_law_right_reckoning" = true)
    (k34 : PySem.W.keepIn K (.ref f34) = true)
    (a35 : PySem.W.nsIn K mainGlobals "_law_text_of" = some (some (.ref f35)))
    (l35 : K.lookup f35 = some ⟨oc35, od35, .func (PySem.W.fnOf "_law_text_of" "_law_text_of" (defArgs s__law_text_of) (defBody s__law_text_of) (defScope s__law_text_of) .none kV35 dc35 pm35 an35 cd35 ct35), sl35⟩)
    (c35 : PySem.W.codeIn K cd35 "_law_text_of" = true)
    (k35 : PySem.W.keepIn K (.ref f35) = true)
    (a36 : PySem.W.nsIn K mainGlobals "_law_figures" = some (some (.ref f36)))
    (l36 : K.lookup f36 = some ⟨oc36, od36, .func (PySem.W.fnOf "_law_figures" "_law_figures" (defArgs s__law_figures) (defBody s__law_figures) (defScope s__law_figures) .none kV36 dc36 pm36 an36 cd36 ct36), sl36⟩)
    (c36 : PySem.W.codeIn K cd36 "_law_figures" = true)
    (k36 : PySem.W.keepIn K (.ref f36) = true)
    (a37 : PySem.W.nsIn K mainGlobals "_law_value_of" = some (some (.ref f37)))
    (l37 : K.lookup f37 = some ⟨oc37, od37, .func (PySem.W.fnOf "_law_value_of" "_law_value_of" (defArgs s__law_value_of) (defBody s__law_value_of) (defScope s__law_value_of) .none kV37 dc37 pm37 an37 cd37 ct37), sl37⟩)
    (c37 : PySem.W.codeIn K cd37 "_law_value_of" = true)
    (k37 : PySem.W.keepIn K (.ref f37) = true)
    (a38 : PySem.W.nsIn K mainGlobals "_law_right_reading" = some (some (.ref f38)))
    (l38 : K.lookup f38 = some ⟨oc38, od38, .func (PySem.W.fnOf "_law_right_reading" "_law_right_reading" (defArgs s__law_right_reading) (defBody s__law_right_reading) (defScope s__law_right_reading) .none kV38 dc38 pm38 an38 cd38 ct38), sl38⟩)
    (c38 : PySem.W.codeIn K cd38 "_law_right_reading" = true)
    (k38 : PySem.W.keepIn K (.ref f38) = true)
    (a39 : PySem.W.nsIn K mainGlobals "_law_spoilt" = some (some (.ref f39)))
    (l39 : K.lookup f39 = some ⟨oc39, od39, .func (PySem.W.fnOf "_law_spoilt" "_law_spoilt" (defArgs s__law_spoilt) (defBody s__law_spoilt) (defScope s__law_spoilt) .none kV39 dc39 pm39 an39 cd39 ct39), sl39⟩)
    (c39 : PySem.W.codeIn K cd39 "_law_spoilt" = true)
    (k39 : PySem.W.keepIn K (.ref f39) = true)
    (a40 : PySem.W.nsIn K mainGlobals "_law_odd_texts" = some (some (.ref f40)))
    (l40 : K.lookup f40 = some ⟨oc40, od40, .func (PySem.W.fnOf "_law_odd_texts" "_law_odd_texts" (defArgs s__law_odd_texts) (defBody s__law_odd_texts) (defScope s__law_odd_texts) .none kV40 dc40 pm40 an40 cd40 ct40), sl40⟩)
    (c40 : PySem.W.codeIn K cd40 "_law_odd_texts" = true)
    (k40 : PySem.W.keepIn K (.ref f40) = true)
    (a41 : PySem.W.nsIn K mainGlobals "_law_odd_things" = some (some (.ref f41)))
    (l41 : K.lookup f41 = some ⟨oc41, od41, .func (PySem.W.fnOf "_law_odd_things" "_law_odd_things" (defArgs s__law_odd_things) (defBody s__law_odd_things) (defScope s__law_odd_things) .none kV41 dc41 pm41 an41 cd41 ct41), sl41⟩)
    (c41 : PySem.W.codeIn K cd41 "_law_odd_things" = true)
    (k41 : PySem.W.keepIn K (.ref f41) = true)
    (a42 : PySem.W.nsIn K mainGlobals "_law_right_texts" = some (some (.ref f42)))
    (l42 : K.lookup f42 = some ⟨oc42, od42, .func (PySem.W.fnOf "_law_right_texts" "_law_right_texts" (defArgs s__law_right_texts) (defBody s__law_right_texts) (defScope s__law_right_texts) .none kV42 dc42 pm42 an42 cd42 ct42), sl42⟩)
    (c42 : PySem.W.codeIn K cd42 "_law_right_texts" = true)
    (k42 : PySem.W.keepIn K (.ref f42) = true)
    (a43 : PySem.W.nsIn K mainGlobals "_law_right_kinds" = some (some (.ref f43)))
    (l43 : K.lookup f43 = some ⟨oc43, od43, .func (PySem.W.fnOf "_law_right_kinds" "_law_right_kinds" (defArgs s__law_right_kinds) (defBody s__law_right_kinds) (defScope s__law_right_kinds) .none kV43 dc43 pm43 an43 cd43 ct43), sl43⟩)
    (c43 : PySem.W.codeIn K cd43 "_law_right_kinds" = true)
    (k43 : PySem.W.keepIn K (.ref f43) = true)
    (a44 : PySem.W.nsIn K mainGlobals "ratio" = some (some (.ref f44)))
    (l44 : K.lookup f44 = some ⟨oc44, od44, .func (PySem.W.fnOf "ratio" "ratio" (defArgs s_ratio) (defBody s_ratio) (defScope s_ratio) (.ref TT) kV44 dc44 pm44 an44 cd44 ct44), sl44⟩)
    (lT : K.lookup TT = some ⟨ocT, odT, .seq #[.int 1 tD] nD0, slT⟩)
    (c44 : PySem.W.codeIn K cd44 "ratio" = true)
    (k44 : PySem.W.keepIn K (.ref f44) = true)
    (a45 : PySem.W.nsIn K mainGlobals "law" = some (some (.ref f45)))
    (l45 : K.lookup f45 = some ⟨oc45, od45, .func (PySem.W.fnOf "law" "law" (defArgs s_law) (defBody s_law) (defScope s_law) .none kV45 dc45 pm45 an45 cd45 ct45), sl45⟩)
    (c45 : PySem.W.codeIn K cd45 "law" = true)
    (k45 : PySem.W.keepIn K (.ref f45) = true) :
    ∃ fd : FuncData, (∀ (s : Shared) (v : Value), BindsTo s fd ⟨[v], []⟩ [("_law_script", v)]) ∧ ∀ base : Heap, K.In base → base.Ns mainGlobals mg → FnG P w K mg base 7 fa fd ["_law_script"] (sp_law K) := by
  have e := hfa.symm.trans (PySem.W.mg_of X G a45)
  cases e
  have T : Txt K mg ⟨C_Nought, C_BadRatio, C_EllError, tD0, tL⟩ :=
    { n_isinstance := PySem.W.mg_none_of X G z_isinstance,
      n_int := PySem.W.mg_none_of X G z_int,
      n_bool := PySem.W.mg_none_of X G z_bool,
      n_tuple := PySem.W.mg_none_of X G z_tuple,
      n_str := PySem.W.mg_none_of X G z_str,
      n_list := PySem.W.mg_none_of X G z_list,
      n_len := PySem.W.mg_none_of X G z_len,
      n_all := PySem.W.mg_none_of X G z_all,
      n_abs := PySem.W.mg_none_of X G z_abs,
      n_range := PySem.W.mg_none_of X G z_range,
      n_max := PySem.W.mg_none_of X G z_max,
      n_repr := PySem.W.mg_none_of X G z_repr,
      n_ValueError := PySem.W.mg_none_of X G z_ValueError,
      gcd := PySem.W.mg_of X G zgcd,
      k_DIGITS := PySem.W.mg_of X G zD,
      k_LONGEST := PySem.W.mg_of X G zL,
      g_EllError := PySem.W.mg_of X G a_EllError,
      g_Nought := PySem.W.mg_of X G a_Nought,
      no_Nought_number := no_Nought_number,
      i_Nought := ⟨_, _, a1, t1, (fun_mk (st := s_NoughtD_initD) l1 c1 k1), ((fun_mk (st := s_NoughtD_initD) l1 c1 k1).binds (ps := P_NoughtD_initD) fun _ _ _ _ _ _ us hl => match us, hl with | [_, _], _ => rfl)⟩,
      ox_Nought := ⟨⟨nm_Nought, q_Nought, N_Nought, bs_Nought, _, sn_Nought, sub_Nought, ab_Nought, col_Nought, dd_Nought, m0_Nought, m1_Nought, m2_Nought, m3_Nought, m5_Nought, x_Nought, rfl⟩, sa_Nought, eC_Nought, tC_Nought, kC_Nought⟩,
      e_Nought := ⟨ic_Nought, ga_Nought, gt_Nought, eC_Nought, ca_Nought, gg0, tk0, mo_Nought⟩,
      xf_Nought := ⟨ga_Nought, gt_Nought, eC_Nought, hC_Nought⟩,
      kv_Nought := kit_ty2 vC_Nought,
      ke_Nought := kit_yes ic_EllError tC_EllError lC_Nought,
      g_BadRatio := PySem.W.mg_of X G a_BadRatio,
      no_BadRatio_text := no_BadRatio_text,
      i_BadRatio := ⟨_, _, a2, t2, (fun_mk (st := s_BadRatioD_initD) l2 c2 k2), ((fun_mk (st := s_BadRatioD_initD) l2 c2 k2).binds (ps := P_BadRatioD_initD) fun _ _ _ _ _ _ us hl => match us, hl with | [_, _], _ => rfl)⟩,
      ox_BadRatio := ⟨⟨nm_BadRatio, q_BadRatio, N_BadRatio, bs_BadRatio, _, sn_BadRatio, sub_BadRatio, ab_BadRatio, col_BadRatio, dd_BadRatio, m0_BadRatio, m1_BadRatio, m2_BadRatio, m3_BadRatio, m5_BadRatio, x_BadRatio, rfl⟩, sa_BadRatio, eC_BadRatio, tC_BadRatio, kC_BadRatio⟩,
      e_BadRatio := ⟨ic_BadRatio, ga_BadRatio, gt_BadRatio, eC_BadRatio, ca_BadRatio, gg0, tk0, mo_BadRatio⟩,
      xf_BadRatio := ⟨ga_BadRatio, gt_BadRatio, eC_BadRatio, hC_BadRatio⟩,
      kv_BadRatio := kit_ty2 vC_BadRatio,
      ke_BadRatio := kit_yes ic_EllError tC_EllError lC_BadRatio,
      kn_Nought := kit_no3 ne_Nought_BadRatio ic_BadRatio tC_BadRatio s_Nought_BadRatio,
      kn_BadRatio := kit_no3 ne_BadRatio_Nought ic_Nought tC_Nought s_BadRatio_Nought,
      em_Nought := exm_of eC_Nought ic_Nought tC_Nought s_Nought_Nought,
      em_BadRatio := exm_of eC_BadRatio ic_BadRatio tC_BadRatio s_BadRatio_BadRatio,
      d_is_integer := ⟨_, _, (fun_mk (st := s_is_integer) l3 c3 k3), PySem.W.mg_of X G a3, ((fun_mk (st := s_is_integer) l3 c3 k3).binds (ps := P_is_integer) fun _ _ _ _ _ _ us hl => match us, hl with | [_], _ => rfl)⟩,
      d_is_tuple_of := ⟨_, _, (fun_mk (st := s_is_tuple_of) l4 c4 k4), PySem.W.mg_of X G a4, ((fun_mk (st := s_is_tuple_of) l4 c4 k4).binds (ps := P_is_tuple_of) fun _ _ _ _ _ _ us hl => match us, hl with | [_, _], _ => rfl)⟩,
      d_is_ratio := ⟨_, _, (fun_mk (st := s_is_ratio) l5 c5 k5), PySem.W.mg_of X G a5, ((fun_mk (st := s_is_ratio) l5 c5 k5).binds (ps := P_is_ratio) fun _ _ _ _ _ _ us hl => match us, hl with | [_], _ => rfl)⟩,
      d_plus := ⟨_, _, (fun_mk (st := s_plus) l6 c6 k6), PySem.W.mg_of X G a6, ((fun_mk (st := s_plus) l6 c6 k6).binds (ps := P_plus) fun _ _ _ _ _ _ us hl => match us, hl with | [_, _], _ => rfl)⟩,
      d_minus := ⟨_, _, (fun_mk (st := s_minus) l7 c7 k7), PySem.W.mg_of X G a7, ((fun_mk (st := s_minus) l7 c7 k7).binds (ps := P_minus) fun _ _ _ _ _ _ us hl => match us, hl with | [_, _], _ => rfl)⟩,
      d_times := ⟨_, _, (fun_mk (st := s_times) l8 c8 k8), PySem.W.mg_of X G a8, ((fun_mk (st := s_times) l8 c8 k8).binds (ps := P_times) fun _ _ _ _ _ _ us hl => match us, hl with | [_, _], _ => rfl)⟩,
      d_over := ⟨_, _, (fun_mk (st := s_over) l9 c9 k9), PySem.W.mg_of X G a9, ((fun_mk (st := s_over) l9 c9 k9).binds (ps := P_over) fun _ _ _ _ _ _ us hl => match us, hl with | [_, _], _ => rfl)⟩,
      d_compare := ⟨_, _, (fun_mk (st := s_compare) l10 c10 k10), PySem.W.mg_of X G a10, ((fun_mk (st := s_compare) l10 c10 k10).binds (ps := P_compare) fun _ _ _ _ _ _ us hl => match us, hl with | [_, _], _ => rfl)⟩,
      d_write_ratio := ⟨_, _, (fun_mk (st := s_write_ratio) l11 c11 k11), PySem.W.mg_of X G a11, ((fun_mk (st := s_write_ratio) l11 c11 k11).binds (ps := P_write_ratio) fun _ _ _ _ _ _ us hl => match us, hl with | [_], _ => rfl)⟩,
      d_read_ratio := ⟨_, _, (fun_mk (st := s_read_ratio) l12 c12 k12), PySem.W.mg_of X G a12, ((fun_mk (st := s_read_ratio) l12 c12 k12).binds (ps := P_read_ratio) fun _ _ _ _ _ _ us hl => match us, hl with | [_], _ => rfl)⟩,
      d_is_whole := ⟨_, _, (fun_mk (st := s_is_whole) l13 c13 k13), PySem.W.mg_of X G a13, ((fun_mk (st := s_is_whole) l13 c13 k13).binds (ps := P_is_whole) fun _ _ _ _ _ _ us hl => match us, hl with | [_, _], _ => rfl)⟩,
      d__is_divisor := ⟨_, _, (fun_mk (st := s__is_divisor) l14 c14 k14), PySem.W.mg_of X G a14, ((fun_mk (st := s__is_divisor) l14 c14 k14).binds (ps := P__is_divisor) fun _ _ _ _ _ _ us hl => match us, hl with | [_], _ => rfl)⟩,
      d__is_digits := ⟨_, _, (fun_mk (st := s__is_digits) l15 c15 k15), PySem.W.mg_of X G a15, ((fun_mk (st := s__is_digits) l15 c15 k15).binds (ps := P__is_digits) fun _ _ _ _ _ _ us hl => match us, hl with | [_, _], _ => rfl)⟩,
      d__law_bag_of := ⟨_, _, (fun_mk (st := s__law_bag_of) l16 c16 k16), PySem.W.mg_of X G a16, ((fun_mk (st := s__law_bag_of) l16 c16 k16).binds (ps := P__law_bag_of) fun _ _ _ _ _ _ us hl => match us, hl with | [_], _ => rfl)⟩,
      d__law_pick := ⟨_, _, (fun_mk (st := s__law_pick) l17 c17 k17), PySem.W.mg_of X G a17, ((fun_mk (st := s__law_pick) l17 c17 k17).binds (ps := P__law_pick) fun _ _ _ _ _ _ us hl => match us, hl with | [_, _], _ => rfl)⟩,
      d__law_choice := ⟨_, _, (fun_mk (st := s__law_choice) l18 c18 k18), PySem.W.mg_of X G a18, ((fun_mk (st := s__law_choice) l18 c18 k18).binds (ps := P__law_choice) fun _ _ _ _ _ _ us hl => match us, hl with | [_, _], _ => rfl)⟩,
      d__law_one_in := ⟨_, _, (fun_mk (st := s__law_one_in) l19 c19 k19), PySem.W.mg_of X G a19, ((fun_mk (st := s__law_one_in) l19 c19 k19).binds (ps := P__law_one_in) fun _ _ _ _ _ _ us hl => match us, hl with | [_, _], _ => rfl)⟩,
      d__law_integer := ⟨_, _, (fun_mk (st := s__law_integer) l20 c20 k20), PySem.W.mg_of X G a20, ((fun_mk (st := s__law_integer) l20 c20 k20).binds (ps := P__law_integer) fun _ _ _ _ _ _ us hl => match us, hl with | [_], _ => rfl)⟩,
      d__law_gcd := ⟨_, _, (fun_mk (st := s__law_gcd) l21 c21 k21), PySem.W.mg_of X G a21, ((fun_mk (st := s__law_gcd) l21 c21 k21).binds (ps := P__law_gcd) fun _ _ _ _ _ _ us hl => match us, hl with | [_, _], _ => rfl)⟩,
      d__law_ratio := ⟨_, _, (fun_mk (st := s__law_ratio) l22 c22 k22), PySem.W.mg_of X G a22, ((fun_mk (st := s__law_ratio) l22 c22 k22).binds (ps := P__law_ratio) fun _ _ _ _ _ _ us hl => match us, hl with | [_, _], _ => rfl)⟩,
      d__law_plus := ⟨_, _, (fun_mk (st := s__law_plus) l23 c23 k23), PySem.W.mg_of X G a23, ((fun_mk (st := s__law_plus) l23 c23 k23).binds (ps := P__law_plus) fun _ _ _ _ _ _ us hl => match us, hl with | [_, _], _ => rfl)⟩,
      d__law_minus := ⟨_, _, (fun_mk (st := s__law_minus) l24 c24 k24), PySem.W.mg_of X G a24, ((fun_mk (st := s__law_minus) l24 c24 k24).binds (ps := P__law_minus) fun _ _ _ _ _ _ us hl => match us, hl with | [_, _], _ => rfl)⟩,
      d__law_times := ⟨_, _, (fun_mk (st := s__law_times) l25 c25 k25), PySem.W.mg_of X G a25, ((fun_mk (st := s__law_times) l25 c25 k25).binds (ps := P__law_times) fun _ _ _ _ _ _ us hl => match us, hl with | [_, _], _ => rfl)⟩,
      d__law_over := ⟨_, _, (fun_mk (st := s__law_over) l26 c26 k26), PySem.W.mg_of X G a26, ((fun_mk (st := s__law_over) l26 c26 k26).binds (ps := P__law_over) fun _ _ _ _ _ _ us hl => match us, hl with | [_, _], _ => rfl)⟩,
      d__law_number_of := ⟨_, _, (fun_mk (st := s__law_number_of) l27 c27 k27), PySem.W.mg_of X G a27, ((fun_mk (st := s__law_number_of) l27 c27 k27).binds (ps := P__law_number_of) fun _ _ _ _ _ _ us hl => match us, hl with | [_], _ => rfl)⟩,
      d__law_second_of := ⟨_, _, (fun_mk (st := s__law_second_of) l28 c28 k28), PySem.W.mg_of X G a28, ((fun_mk (st := s__law_second_of) l28 c28 k28).binds (ps := P__law_second_of) fun _ _ _ _ _ _ us hl => match us, hl with | [_, _], _ => rfl)⟩,
      d__law_same := ⟨_, _, (fun_mk (st := s__law_same) l29 c29 k29), PySem.W.mg_of X G a29, ((fun_mk (st := s__law_same) l29 c29 k29).binds (ps := P__law_same) fun _ _ _ _ _ _ us hl => match us, hl with | [_, _], _ => rfl)⟩,
      d__law_ratio_told := ⟨_, _, (fun_mk (st := s__law_ratio_told) l30 c30 k30), PySem.W.mg_of X G a30, ((fun_mk (st := s__law_ratio_told) l30 c30 k30).binds (ps := P__law_ratio_told) fun _ _ _ _ _ _ us hl => match us, hl with | [_, _], _ => rfl)⟩,
      d__law_over_told := ⟨_, _, (fun_mk (st := s__law_over_told) l31 c31 k31), PySem.W.mg_of X G a31, ((fun_mk (st := s__law_over_told) l31 c31 k31).binds (ps := P__law_over_told) fun _ _ _ _ _ _ us hl => match us, hl with | [_, _], _ => rfl)⟩,
      d__law_read_told := ⟨_, _, (fun_mk (st := s__law_read_told) l32 c32 k32), PySem.W.mg_of X G a32, ((fun_mk (st := s__law_read_told) l32 c32 k32).binds (ps := P__law_read_told) fun _ _ _ _ _ _ us hl => match us, hl with | [_], _ => rfl)⟩,
      d__law_right_making := ⟨_, _, (fun_mk (st := s__law_right_making) l33 c33 k33), PySem.W.mg_of X G a33, ((fun_mk (st := s__law_right_making) l33 c33 k33).binds (ps := P__law_right_making) fun _ _ _ _ _ _ us hl => match us, hl with | [_, _], _ => rfl)⟩,
      d__law_right_reckoning := ⟨_, _, (fun_mk (st := s__law_right_reckoning) l34 c34 k34), PySem.W.mg_of X G a34, ((fun_mk (st := s__law_right_reckoning) l34 c34 k34).binds (ps := P__law_right_reckoning) fun _ _ _ _ _ _ us hl => match us, hl with | [_, _], _ => rfl)⟩,
      d__law_text_of := ⟨_, _, (fun_mk (st := s__law_text_of) l35 c35 k35), PySem.W.mg_of X G a35, ((fun_mk (st := s__law_text_of) l35 c35 k35).binds (ps := P__law_text_of) fun _ _ _ _ _ _ us hl => match us, hl with | [_], _ => rfl)⟩,
      d__law_figures := ⟨_, _, (fun_mk (st := s__law_figures) l36 c36 k36), PySem.W.mg_of X G a36, ((fun_mk (st := s__law_figures) l36 c36 k36).binds (ps := P__law_figures) fun _ _ _ _ _ _ us hl => match us, hl with | [_], _ => rfl)⟩,
      d__law_value_of := ⟨_, _, (fun_mk (st := s__law_value_of) l37 c37 k37), PySem.W.mg_of X G a37, ((fun_mk (st := s__law_value_of) l37 c37 k37).binds (ps := P__law_value_of) fun _ _ _ _ _ _ us hl => match us, hl with | [_], _ => rfl)⟩,
      d__law_right_reading := ⟨_, _, (fun_mk (st := s__law_right_reading) l38 c38 k38), PySem.W.mg_of X G a38, ((fun_mk (st := s__law_right_reading) l38 c38 k38).binds (ps := P__law_right_reading) fun _ _ _ _ _ _ us hl => match us, hl with | [_], _ => rfl)⟩,
      d__law_spoilt := ⟨_, _, (fun_mk (st := s__law_spoilt) l39 c39 k39), PySem.W.mg_of X G a39, ((fun_mk (st := s__law_spoilt) l39 c39 k39).binds (ps := P__law_spoilt) fun _ _ _ _ _ _ us hl => match us, hl with | [_, _], _ => rfl)⟩,
      d__law_odd_texts := ⟨_, _, (fun_mk (st := s__law_odd_texts) l40 c40 k40), PySem.W.mg_of X G a40, ((fun_mk (st := s__law_odd_texts) l40 c40 k40).binds (ps := P__law_odd_texts) fun _ _ _ _ _ _ us hl => match us, hl with | [_], _ => rfl)⟩,
      d__law_odd_things := ⟨_, _, (fun_mk (st := s__law_odd_things) l41 c41 k41), PySem.W.mg_of X G a41, ((fun_mk (st := s__law_odd_things) l41 c41 k41).binds (ps := P__law_odd_things) fun _ _ _ _ _ _ us hl => match us, hl with | [], _ => rfl)⟩,
      d__law_right_texts := ⟨_, _, (fun_mk (st := s__law_right_texts) l42 c42 k42), PySem.W.mg_of X G a42, ((fun_mk (st := s__law_right_texts) l42 c42 k42).binds (ps := P__law_right_texts) fun _ _ _ _ _ _ us hl => match us, hl with | [_, _], _ => rfl)⟩,
      d__law_right_kinds := ⟨_, _, (fun_mk (st := s__law_right_kinds) l43 c43 k43), PySem.W.mg_of X G a43, ((fun_mk (st := s__law_right_kinds) l43 c43 k43).binds (ps := P__law_right_kinds) fun _ _ _ _ _ _ us hl => match us, hl with | [_, _, _, _], _ => rfl)⟩,
      d_ratio := ratio_at l44 lT c44 k44 (PySem.W.mg_of X G a44),
      d_law := ⟨_, _, (fun_mk (st := s_law) l45 c45 k45), PySem.W.mg_of X G a45, ((fun_mk (st := s_law) l45 c45 k45).binds (ps := P_law) fun _ _ _ _ _ _ us hl => match us, hl with | [_], _ => rfl)⟩ }
  have FL := (fun_mk (st := s_law) l45 c45 k45)
  exact ⟨PySem.W.fnOf "law" "law" (defArgs s_law) (defBody s_law) (defScope s_law) .none kV45 dc45 pm45 an45 cd45 ct45, fun s v => .of_eq rfl, fun base _ _ => fun_gd FL sc_law (fun vs H Q E h => by obtain ⟨p, ns, rfl, _⟩ := h; rfl) (b_law T)⟩
theorem walk {l : PySem.W.OpenLaw} {q : Program} {loose : List Str} {XP : (Str → Option Value) → Heap → Prop} {YP : World → Heap → Prop} {d : DefRec} {K : Params → PySem.W.Frag} (hn : l.most = some 63) (hdf : d.params.defaults = [])
    (hY : ∀ (w : World) (h : Heap), YP w h → (K w.params).In h)
    (F : ∀ (w : World) (mg : Str → Option Value) (fa : Addr) (h : Heap), (K w.params).In h → h.Ns mainGlobals mg → mg d.name = some (.ref fa) →
      ∃ fd : FuncData, (∀ (s : Shared) (u : Value), BindsTo s fd ⟨[u], []⟩ [("_law_script", u)]) ∧ ∀ base : Heap, (K w.params).In base → base.Ns mainGlobals mg → FnG l.prog w (K w.params) mg base 7 fa fd ["_law_script"] (sp_law (K w.params))) :
    PySem.W.WalkO q loose XP YP l.row.toRowW d [] (fun f vs => PySem.call f vs) :=
  walk_G (n := 63) (k := 7) (x := "_law_script") (sp := fun w => sp_law (K w.params)) hn (by decide) hdf ⟨rfl, by decide, by decide⟩ hY F (fun _ _ a ns hl _ hS => ⟨a, ns, rfl, hS, by omega, fun _ => rfl⟩)
end K01

open PySem PySem.W PyProof.Rows
set_option maxRecDepth 100000 in
set_option maxHeartbeats 0 in
theorem PySem.Challenge.cw_ellwarden_k01_ratios_holds : PySem.Challenge.rw_ellwarden_k01_ratios.Holds := by
  w_on; o_law; k_head; (case hw => w_witness2)
  k_fill
  refine K01.walk (l := PySem.Challenge.rw_ellwarden_k01_ratios) rfl rfl (fun w h Y => PySem.W.kIn_of Y) ?F
  case F =>
    intro w mg fa h KX G hmg
    refine' K01.all_mk KX G hmg ?z_isinstance ?z_int ?z_bool ?z_tuple ?z_str ?z_list ?z_len ?z_all ?z_abs ?z_range ?z_max ?z_repr ?z_ValueError ?zgcd ?zD ?zL ?gg0 ?tk0 ?a_EllError ?ic_EllError ?tC_EllError ?a_Nought ?x_Nought ?sa_Nought ?ga_Nought ?gt_Nought ?ca_Nought ?kC_Nought ?eC_Nought ?vC_Nought ?lC_Nought ?tC_Nought ?hC_Nought ?ic_Nought ?mo_Nought ?no_Nought_number ?a1 ?t1 ?l1 ?c1 ?k1 ?a_BadRatio ?x_BadRatio ?sa_BadRatio ?ga_BadRatio ?gt_BadRatio ?ca_BadRatio ?kC_BadRatio ?eC_BadRatio ?vC_BadRatio ?lC_BadRatio ?tC_BadRatio ?hC_BadRatio ?ic_BadRatio ?mo_BadRatio ?no_BadRatio_text ?a2 ?t2 ?l2 ?c2 ?k2 ?s_Nought_BadRatio ?ne_Nought_BadRatio ?s_Nought_Nought ?s_BadRatio_Nought ?ne_BadRatio_Nought ?s_BadRatio_BadRatio ?a3 ?l3 ?c3 ?k3 ?a4 ?l4 ?c4 ?k4 ?a5 ?l5 ?c5 ?k5 ?a6 ?l6 ?c6 ?k6 ?a7 ?l7 ?c7 ?k7 ?a8 ?l8 ?c8 ?k8 ?a9 ?l9 ?c9 ?k9 ?a10 ?l10 ?c10 ?k10 ?a11 ?l11 ?c11 ?k11 ?a12 ?l12 ?c12 ?k12 ?a13 ?l13 ?c13 ?k13 ?a14 ?l14 ?c14 ?k14 ?a15 ?l15 ?c15 ?k15 ?a16 ?l16 ?c16 ?k16 ?a17 ?l17 ?c17 ?k17 ?a18 ?l18 ?c18 ?k18 ?a19 ?l19 ?c19 ?k19 ?a20 ?l20 ?c20 ?k20 ?a21 ?l21 ?c21 ?k21 ?a22 ?l22 ?c22 ?k22 ?a23 ?l23 ?c23 ?k23 ?a24 ?l24 ?c24 ?k24 ?a25 ?l25 ?c25 ?k25 ?a26 ?l26 ?c26 ?k26 ?a27 ?l27 ?c27 ?k27 ?a28 ?l28 ?c28 ?k28 ?a29 ?l29 ?c29 ?k29 ?a30 ?l30 ?c30 ?k30 ?a31 ?l31 ?c31 ?k31 ?a32 ?l32 ?c32 ?k32 ?a33 ?l33 ?c33 ?k33 ?a34 ?l34 ?c34 ?k34 ?a35 ?l35 ?c35 ?k35 ?a36 ?l36 ?c36 ?k36 ?a37 ?l37 ?c37 ?k37 ?a38 ?l38 ?c38 ?k38 ?a39 ?l39 ?c39 ?k39 ?a40 ?l40 ?c40 ?k40 ?a41 ?l41 ?c41 ?k41 ?a42 ?l42 ?c42 ?k42 ?a43 ?l43 ?c43 ?k43 ?a44 ?l44 ?lT ?c44 ?k44 ?a45 ?l45 ?c45 ?k45
    (case z_isinstance => k_is)
    (case z_int => k_is)
    (case z_bool => k_is)
    (case z_tuple => k_is)
    (case z_str => k_is)
    (case z_list => k_is)
    (case z_len => k_is)
    (case z_all => k_is)
    (case z_abs => k_is)
    (case z_range => k_is)
    (case z_max => k_is)
    (case z_repr => k_is)
    (case z_ValueError => k_is)
    (case zgcd => k_is)
    (case zD => k_is)
    (case zL => k_is)
    (case gg0 => k_is)
    (case tk0 => k_is)
    (case a_EllError => k_is)
    (case ic_EllError => k_is)
    (case tC_EllError => k_is)
    (case a_Nought => k_is)
    (case x_Nought => k_is)
    (case sa_Nought => k_is)
    (case ga_Nought => k_is)
    (case gt_Nought => k_is)
    (case ca_Nought => k_is)
    (case kC_Nought => k_is)
    (case eC_Nought => k_is)
    (case vC_Nought => k_is)
    (case lC_Nought => k_is)
    (case tC_Nought => k_is)
    (case hC_Nought => k_is)
    (case ic_Nought => k_is)
    (case mo_Nought => k_is)
    (case no_Nought_number => k_is)
    (case a1 => k_is)
    (case t1 => k_is)
    (case l1 => k_is)
    (case c1 => k_is)
    (case k1 => k_is)
    (case a_BadRatio => k_is)
    (case x_BadRatio => k_is)
    (case sa_BadRatio => k_is)
    (case ga_BadRatio => k_is)
    (case gt_BadRatio => k_is)
    (case ca_BadRatio => k_is)
    (case kC_BadRatio => k_is)
    (case eC_BadRatio => k_is)
    (case vC_BadRatio => k_is)
    (case lC_BadRatio => k_is)
    (case tC_BadRatio => k_is)
    (case hC_BadRatio => k_is)
    (case ic_BadRatio => k_is)
    (case mo_BadRatio => k_is)
    (case no_BadRatio_text => k_is)
    (case a2 => k_is)
    (case t2 => k_is)
    (case l2 => k_is)
    (case c2 => k_is)
    (case k2 => k_is)
    (case s_Nought_BadRatio => k_is)
    (case ne_Nought_BadRatio => decide)
    (case s_Nought_Nought => first | rfl | k_is)
    (case s_BadRatio_Nought => k_is)
    (case ne_BadRatio_Nought => decide)
    (case s_BadRatio_BadRatio => first | rfl | k_is)
    (case a3 => k_is)
    (case l3 => k_is)
    (case c3 => k_is)
    (case k3 => k_is)
    (case a4 => k_is)
    (case l4 => k_is)
    (case c4 => k_is)
    (case k4 => k_is)
    (case a5 => k_is)
    (case l5 => k_is)
    (case c5 => k_is)
    (case k5 => k_is)
    (case a6 => k_is)
    (case l6 => k_is)
    (case c6 => k_is)
    (case k6 => k_is)
    (case a7 => k_is)
    (case l7 => k_is)
    (case c7 => k_is)
    (case k7 => k_is)
    (case a8 => k_is)
    (case l8 => k_is)
    (case c8 => k_is)
    (case k8 => k_is)
    (case a9 => k_is)
    (case l9 => k_is)
    (case c9 => k_is)
    (case k9 => k_is)
    (case a10 => k_is)
    (case l10 => k_is)
    (case c10 => k_is)
    (case k10 => k_is)
    (case a11 => k_is)
    (case l11 => k_is)
    (case c11 => k_is)
    (case k11 => k_is)
    (case a12 => k_is)
    (case l12 => k_is)
    (case c12 => k_is)
    (case k12 => k_is)
    (case a13 => k_is)
    (case l13 => k_is)
    (case c13 => k_is)
    (case k13 => k_is)
    (case a14 => k_is)
    (case l14 => k_is)
    (case c14 => k_is)
    (case k14 => k_is)
    (case a15 => k_is)
    (case l15 => k_is)
    (case c15 => k_is)
    (case k15 => k_is)
    (case a16 => k_is)
    (case l16 => k_is)
    (case c16 => k_is)
    (case k16 => k_is)
    (case a17 => k_is)
    (case l17 => k_is)
    (case c17 => k_is)
    (case k17 => k_is)
    (case a18 => k_is)
    (case l18 => k_is)
    (case c18 => k_is)
    (case k18 => k_is)
    (case a19 => k_is)
    (case l19 => k_is)
    (case c19 => k_is)
    (case k19 => k_is)
    (case a20 => k_is)
    (case l20 => k_is)
    (case c20 => k_is)
    (case k20 => k_is)
    (case a21 => k_is)
    (case l21 => k_is)
    (case c21 => k_is)
    (case k21 => k_is)
    (case a22 => k_is)
    (case l22 => k_is)
    (case c22 => k_is)
    (case k22 => k_is)
    (case a23 => k_is)
    (case l23 => k_is)
    (case c23 => k_is)
    (case k23 => k_is)
    (case a24 => k_is)
    (case l24 => k_is)
    (case c24 => k_is)
    (case k24 => k_is)
    (case a25 => k_is)
    (case l25 => k_is)
    (case c25 => k_is)
    (case k25 => k_is)
    (case a26 => k_is)
    (case l26 => k_is)
    (case c26 => k_is)
    (case k26 => k_is)
    (case a27 => k_is)
    (case l27 => k_is)
    (case c27 => k_is)
    (case k27 => k_is)
    (case a28 => k_is)
    (case l28 => k_is)
    (case c28 => k_is)
    (case k28 => k_is)
    (case a29 => k_is)
    (case l29 => k_is)
    (case c29 => k_is)
    (case k29 => k_is)
    (case a30 => k_is)
    (case l30 => k_is)
    (case c30 => k_is)
    (case k30 => k_is)
    (case a31 => k_is)
    (case l31 => k_is)
    (case c31 => k_is)
    (case k31 => k_is)
    (case a32 => k_is)
    (case l32 => k_is)
    (case c32 => k_is)
    (case k32 => k_is)
    (case a33 => k_is)
    (case l33 => k_is)
    (case c33 => k_is)
    (case k33 => k_is)
    (case a34 => k_is)
    (case l34 => k_is)
    (case c34 => k_is)
    (case k34 => k_is)
    (case a35 => k_is)
    (case l35 => k_is)
    (case c35 => k_is)
    (case k35 => k_is)
    (case a36 => k_is)
    (case l36 => k_is)
    (case c36 => k_is)
    (case k36 => k_is)
    (case a37 => k_is)
    (case l37 => k_is)
    (case c37 => k_is)
    (case k37 => k_is)
    (case a38 => k_is)
    (case l38 => k_is)
    (case c38 => k_is)
    (case k38 => k_is)
    (case a39 => k_is)
    (case l39 => k_is)
    (case c39 => k_is)
    (case k39 => k_is)
    (case a40 => k_is)
    (case l40 => k_is)
    (case c40 => k_is)
    (case k40 => k_is)
    (case a41 => k_is)
    (case l41 => k_is)
    (case c41 => k_is)
    (case k41 => k_is)
    (case a42 => k_is)
    (case l42 => k_is)
    (case c42 => k_is)
    (case k42 => k_is)
    (case a43 => k_is)
    (case l43 => k_is)
    (case c43 => k_is)
    (case k43 => k_is)
    (case a44 => k_is)
    (case l44 => k_is)
    (case lT => k_is)
    (case c44 => k_is)
    (case k44 => k_is)
    (case a45 => k_is)
    (case l45 => k_is)
    (case c45 => k_is)
    (case k45 => k_is)
